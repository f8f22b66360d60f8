/- Put together: MstCMa, MstFMa, ApMkMa, MstHMa, MstIMa, SortIMa, CptIMa, MstJMa, MstKMa, MstLMa, MstMMa, MstNMa, MstPMa. Conditions: as each says. -/
import Derived.Test.YtnjbnndpbegkdaaMb2
import Derived.Test.YtnjbnndpbegkdaaMb1
import Derived.Deep.AppendSrc
import Derived.Laws.AppendOwn
import Derived.Shelf.Sort.Plain
import Derived.Test.YtnjbnndpbegkdaaLayI
import Derived.Shelf.Slices.CompactI
import Derived.Test.YtnjbnndpbegkdaaLayC
/- Package mstate: Apply of pins and horizons, Pins, Top, Horizon. Conditions: at most three pins. -/
namespace Go.Proofs.Ytnjbnndpbegkdaa
open Go.RowKit Go.PlainAid
set_option linter.unusedVariables false
set_option linter.unusedSimpArgs false

set_option maxRecDepth 100000 in
theorem msApplyP_any (b : Nat) (ep : Int) (cv : Value) (fl : Int) (lgv : Value) (hz : Int) (pv : Value) (pn : List PinT) (tp : Int) (x0 : SdT) (x1 : SdT) (x2 : SdT) (d : NoteD) (mv : Value) (lv : Value) (ev : Value) (w : World) (hb : Blk w b 66 #[.bool true, .int .i64 ep, cv, .int .u64 fl, lgv, .int .u64 hz, pv, .int .i64 tp, .bool x0.1, .int .i64 x0.2.1, .int .i64 x0.2.2.1, .int .i64 x0.2.2.2.1, .int .i64 x0.2.2.2.2, .bool x1.1, .int .i64 x1.2.1, .int .i64 x1.2.2.1, .int .i64 x1.2.2.2.1, .int .i64 x1.2.2.2.2, .bool x2.1, .int .i64 x2.2.1, .int .i64 x2.2.2.1, .int .i64 x2.2.2.2.1, .int .i64 x2.2.2.2.2]) (hpn : w.ownsRow 0 40 3 pv pn.length (pn.flatMap pinE)) (hp3 : pn.length ≤ 3) (hm : SliceOf memE 2 w mv d.ms) (hg : SliceOf (intE .i64) 1 w lv d.lg) (he : SliceOf opE 3 w ev d.el) (hR : NoteR d) (hbm : d.ms ≠ [] → ∀ k, mv.ownBlock = some k → ¬ k = b) (hbg : d.lg ≠ [] → ∀ k, lv.ownBlock = some k → ¬ k = b) (hbe : d.el ≠ [] → ∀ k, ev.ownBlock = some k → ¬ k = b) (hkx : ¬ d.k = 1 ∧ ¬ d.k = 5 ∧ ¬ d.k = 8) :
    Calls Try.prog 8 #[pt b 0, .agg #[.int .i64 d.k, .int .i64 d.n, .int .u64 d.t, .int .i64 d.ep, mv, .int .u64 d.fl, lv, .int .i64 d.ec, .int .i64 d.er, ev, .int .u64 d.ets, .int .i64 d.pid, .int .u64 d.pat, .int .i64 d.plf, .int .i64 d.sc, .int .i64 d.sr, .int .i64 d.se, .int .i64 d.sp]] w fun e w' => ∃ (pv2 : Value), e = .returned (.int .i64 ((apF pn hz tp d).1)) ∧ Blk w' b 66 #[.bool true, .int .i64 ep, cv, .int .u64 fl, lgv, .int .u64 ((apF pn hz tp d).2.1), pv2, .int .i64 ((apF pn hz tp d).2.2.2), .bool x0.1, .int .i64 x0.2.1, .int .i64 x0.2.2.1, .int .i64 x0.2.2.2.1, .int .i64 x0.2.2.2.2, .bool x1.1, .int .i64 x1.2.1, .int .i64 x1.2.2.1, .int .i64 x1.2.2.2.1, .int .i64 x1.2.2.2.2, .bool x2.1, .int .i64 x2.2.1, .int .i64 x2.2.2.1, .int .i64 x2.2.2.2.1, .int .i64 x2.2.2.2.2] ∧ w'.ownsRow 0 40 3 pv2 ((apF pn hz tp d).2.2.1).length (((apF pn hz tp d).2.2.1).flatMap pinE) ∧ ((apF pn hz tp d).2.2.1).length ≤ 3 ∧ But (fun q => q = b) w w' := by
 have hrng := hR.rng
 have hB0 := But.refl (fun q => q = b) w
 have hl_hb := hb.lt
 have hl_hm := sl_len hm
 have hl_hg := sl_len hg
 have hl_he := sl_len he
 refine co_enter (n := 113) Try.func8 rfl rfl rfl [(0, pt b 0), (1, .agg #[.int .i64 d.k, .int .i64 d.n, .int .u64 d.t, .int .i64 d.ep, mv, .int .u64 d.fl, lv, .int .i64 d.ec, .int .i64 d.er, ev, .int .u64 d.ets, .int .i64 d.pid, .int .u64 d.pat, .int .i64 d.plf, .int .i64 d.sc, .int .i64 d.sr, .int .i64 d.se, .int .i64 d.sp])] rfl (fun a h0 => ?_)
 refine co_seq ?_
 refine co_reg ?_
 refine pw h0 rfl (op_new (v := fun N => pt N 0) (T := 44) (cs := #[.int .i64 d.k, .int .i64 d.n, .int .u64 d.t, .int .i64 d.ep, mv, .int .u64 d.fl, lv, .int .i64 d.ec, .int .i64 d.er, ev, .int .u64 d.ets, .int .i64 d.pid, .int .u64 d.pat, .int .i64 d.plf, .int .i64 d.sc, .int .i64 d.sr, .int .i64 d.se, .int .i64 d.sp]) (by kernel_rfl) (by kernel_rfl) (by kernel_rfl)) ?_; clear h0
 rintro _ w2 a1 ⟨N3, rfl, hN6, hz7, hk5, hg4⟩ h1
 have ha8 := row_fresh hpn hN6
 have hz9 := hg4.size
 try dsimp only at h1
 refine pk0 (v := .int .i64 0) h1 rfl fun a10 h10 => ?_; clear h1
 refine pl_nil ?_
 refine co_then ?_
 refine co_seq ?_
 refine co_seq ?_
 refine co_reg ?_
 refine pk0 (v := pt b 0) h10 rfl fun a11 h11 => ?_; clear h10
 have hk14 := hb.kept hg4 (by simp)
 refine pw h11 rfl (op_call (args := #[pt b 0]) (R := fun res xw => res = .bool false ∧ Below w2.heap.size w2 xw) rfl rfl rfl (by kernel_rfl) (by kernel_rfl) (Try.call19 _ _) (mszeroT b ep cv fl lgv hz pv tp x0 x1 x2 w2 hk14) (by rintro e x ⟨rfl, hb15⟩; exact ⟨_, rfl, ⟨rfl, hb15⟩⟩)) ?_; clear h11
 rintro _ w13 a12 ⟨rfl, hb15⟩ h12
 have hz16 := hb15.size
 refine pl_nil ?_
 refine co_then ?_
 refine co_false h12 rfl ?_
 refine wp_skip ?_
 refine co_then ?_
 refine co_seq ?_
 refine co_seq ?_
 refine co_reg ?_
 have hk17 := hk5.below hb15
 refine pk (v := .agg #[.int .i64 d.k, .int .i64 d.n, .int .u64 d.t, .int .i64 d.ep, mv, .int .u64 d.fl, lv, .int .i64 d.ec, .int .i64 d.er, ev, .int .u64 d.ets, .int .i64 d.pid, .int .u64 d.pat, .int .i64 d.plf, .int .i64 d.sc, .int .i64 d.sr, .int .i64 d.se, .int .i64 d.sp]) h12 rfl (rn_loadN rfl rfl Try.underlying44 rfl (by kernel_rfl) hk17.all) fun a18 h18 => ?_; clear h12
 have hB21 := fb_new hB0 hg4
 have hB22 := fb_call hB21 hb15
 refine pw h18 rfl (op_call (args := #[.agg #[.int .i64 d.k, .int .i64 d.n, .int .u64 d.t, .int .i64 d.ep, mv, .int .u64 d.fl, lv, .int .i64 d.ec, .int .i64 d.er, ev, .int .u64 d.ets, .int .i64 d.pid, .int .u64 d.pat, .int .i64 d.plf, .int .i64 d.sc, .int .i64 d.sr, .int .i64 d.se, .int .i64 d.sp]]) (R := fun res xw => res = .int .i64 (chkN d) ∧ Below w13.heap.size w13 xw) rfl rfl rfl (by kernel_rfl) (by kernel_rfl) (Try.call20 _ _) (nCheck_any d mv lv ev w13 (sl_butS hm hB22 hbm) (sl_butS hg hB22 hbg) (sl_butS he hB22 hbe) hR) (by rintro e x ⟨rfl, hb23⟩; exact ⟨_, rfl, ⟨rfl, hb23⟩⟩)) ?_; clear h18
 rintro _ w20 a19 ⟨rfl, hb23⟩ h19
 have hz24 := hb23.size
 refine pk0 (v := .int .i64 (chkN d)) h19 rfl fun a25 h25 => ?_; clear h19
 refine pl_nil ?_
 refine co_then ?_
 refine co_seq ?_
 refine co_reg ?_
 refine pk0 (v := .int .i64 (chkN d)) h25 rfl fun a26 h26 => ?_; clear h25
 refine pk0 (v := .bool (chkN d != 0)) h26 rfl fun a27 h27 => ?_; clear h26
 refine pl_nil ?_
 refine co_then ?_
 have hB29 := fb_call hB22 hb23
 have hk30 := hk14.below hb15
 have hk31 := hk30.below hb23
 have hr32 := row_kept_new hpn hg4
 have hr33 := row_kept_new hr32 (below_grown hb15)
 have hr34 := row_kept_new hr33 (below_grown hb23)
 cases hc28 : (chkN d != 0)
 ·
  rw [hc28] at h27
  have hp35 : ¬ (chkN d ≠ 0) := by first | simpa using hc28 | simpa [and_assoc] using hc28
  clear hc28
  refine co_false h27 rfl ?_
  refine wp_skip ?_
  refine co_then ?_
  refine co_seq ?_
  refine co_reg ?_
  refine pk0 (v := pt N3 1) h27 rfl fun a36 h36 => ?_; clear h27
  have hk37 := hk17.below hb23
  refine pk (v := .int .i64 d.n) h36 rfl (rn_load1 rfl rfl Try.isAgg3 (hk37.cell rfl)) fun a38 h38 => ?_; clear h36
  refine pw h38 rfl (op_new (v := fun N => .slice (some ⟨N, 0, none⟩) 1 1) (T := 3) (cs := #[.int .i64 d.n]) (by kernel_rfl) (by kernel_rfl) (by kernel_rfl)) ?_; clear h38
  rintro _ w40 a39 ⟨N41, rfl, hN44, hz45, hk43, hg42⟩ h39
  have ha46 := row_fresh hr34 hN44
  have hz47 := hg42.size
  try dsimp only at h39
  refine pk0 (v := .slice (some ⟨N41, 0, none⟩) 1 1) h39 rfl fun a48 h48 => ?_; clear h39
  refine pl_nil ?_
  refine co_then ?_
  refine co_seq ?_
  refine co_seq ?_
  refine co_reg ?_
  refine pk0 (v := pt N3 0) h48 rfl fun a49 h49 => ?_; clear h48
  have hk50 := hk37.kept hg42 (by simp)
  refine pk (v := .int .i64 d.k) h49 rfl (rn_load1 rfl rfl Try.isAgg3 (hk50.cell rfl)) fun a51 h51 => ?_; clear h49
  refine pl_nil ?_
  refine co_then ?_
  refine wp_block ?_
  refine co_seq ?_
  refine wp_block ?_
  refine co_seq ?_
  refine wp_block ?_
  refine co_seq ?_
  refine wp_block ?_
  refine co_seq ?_
  refine wp_block ?_
  refine co_seq ?_
  refine wp_block ?_
  refine co_seq ?_
  refine wp_block ?_
  refine co_seq ?_
  refine wp_block ?_
  refine co_seq ?_
  refine co_seq ?_
  refine co_seq ?_
  refine co_reg ?_
  refine pk0 (v := .bool (d.k == 1)) h51 rfl fun a52 h52 => ?_; clear h51
  refine pk0 (v := .bool (d.k == 1)) h52 rfl fun a53 h53 => ?_; clear h52
  refine pl_nil ?_
  refine co_then ?_
  have hc54 : (d.k == 1) = false := by first | (simp; done) | (simp; omega) | exact beq_false_of_ne (by omega) | exact beq_iff_eq.2 (by omega)
  rw [hc54] at h53; clear hc54
  refine co_false h53 rfl ?_
  refine wp_skip ?_
  refine co_then ?_
  refine co_seq ?_
  refine co_seq ?_
  refine co_reg ?_
  refine pk0 (v := .bool (d.k == 5)) h53 rfl fun a55 h55 => ?_; clear h53
  refine pk0 (v := .bool (d.k == 5)) h55 rfl fun a56 h56 => ?_; clear h55
  refine pl_nil ?_
  refine co_then ?_
  have hc57 : (d.k == 5) = false := by first | (simp; done) | (simp; omega) | exact beq_false_of_ne (by omega) | exact beq_iff_eq.2 (by omega)
  rw [hc57] at h56; clear hc57
  refine co_false h56 rfl ?_
  refine wp_skip ?_
  refine co_then ?_
  refine co_seq ?_
  refine co_seq ?_
  refine co_reg ?_
  refine pk0 (v := .bool (d.k == 4)) h56 rfl fun a58 h58 => ?_; clear h56
  refine pk0 (v := .bool (d.k == 4)) h58 rfl fun a59 h59 => ?_; clear h58
  refine pl_nil ?_
  refine co_then ?_
  have hB61 := fb_new hB29 hg42
  cases hc60 : (d.k == 4)
  ·
   rw [hc60] at h59
   have hp62 : ¬ (d.k = 4) := by first | simpa using hc60 | simpa [and_assoc] using hc60
   clear hc60
   refine co_false h59 rfl ?_
   refine wp_skip ?_
   refine co_then ?_
   refine co_seq ?_
   refine co_seq ?_
   refine co_reg ?_
   refine pk0 (v := .bool (d.k == 6)) h59 rfl fun a63 h63 => ?_; clear h59
   refine pk0 (v := .bool (d.k == 6)) h63 rfl fun a64 h64 => ?_; clear h63
   refine pl_nil ?_
   refine co_then ?_
   cases hc65 : (d.k == 6)
   ·
    rw [hc65] at h64
    have hp66 : ¬ (d.k = 6) := by first | simpa using hc65 | simpa [and_assoc] using hc65
    clear hc65
    refine co_false h64 rfl ?_
    refine wp_skip ?_
    refine co_then ?_
    refine co_seq ?_
    refine co_seq ?_
    refine co_reg ?_
    refine pk0 (v := .bool (d.k == 7)) h64 rfl fun a67 h67 => ?_; clear h64
    refine pk0 (v := .bool (d.k == 7)) h67 rfl fun a68 h68 => ?_; clear h67
    refine pl_nil ?_
    refine co_then ?_
    cases hc69 : (d.k == 7)
    ·
     rw [hc69] at h68
     have hp70 : ¬ (d.k = 7) := by first | simpa using hc69 | simpa [and_assoc] using hc69
     clear hc69
     refine co_false h68 rfl ?_
     refine wp_skip ?_
     refine co_then ?_
     refine co_seq ?_
     refine co_reg ?_
     refine pk0 (v := .bool (d.k == 8)) h68 rfl fun a71 h71 => ?_; clear h68
     refine pk0 (v := .bool (d.k == 8)) h71 rfl fun a72 h72 => ?_; clear h71
     refine pl_nil ?_
     refine co_then ?_
     have hc73 : (d.k == 8) = false := by first | (simp; done) | (simp; omega) | exact beq_false_of_ne (by omega) | exact beq_iff_eq.2 (by omega)
     rw [hc73] at h72; clear hc73
     refine co_false h72 rfl ?_
     refine wp_skip ?_
     refine co_then ?_
     refine wp_exit ?_
     refine co_blockY (by decide) ?_
     refine co_thenX ?_
     refine co_blockY (by decide) ?_
     refine co_thenX ?_
     refine co_blockY (by decide) ?_
     refine co_thenX ?_
     refine co_blockY (by decide) ?_
     refine co_thenX ?_
     refine co_blockY (by decide) ?_
     refine co_thenX ?_
     refine co_blockY (by decide) ?_
     refine co_thenX ?_
     refine co_blockX ?_
     refine co_then ?_
     refine co_seq ?_
     refine co_seq ?_
     refine co_reg ?_
     refine pk0 (v := .int .i64 11) h72 rfl fun a74 h74 => ?_; clear h72
     refine pl_nil ?_
     refine co_then ?_
     refine wp_ret ?_
     refine co_thenR ?_
     refine co_blockR ?_
     refine co_thenR ?_
     refine co_ret1 h74 rfl rfl ?_
     have hk75 := hk31.kept hg42 (by simp)
     have hr76 := row_kept_new hr34 hg42
     have hA : apF pn hz tp d = (11, hz, pn, tp) := by unfold apF; (repeat (first | rw [if_pos (by omega)] | rw [if_neg (by omega)]))
     exact ⟨pv, by rw [hA], by rw [hA]; exact hk75, by rw [hA]; exact row_lows hr76 (Nat.zero_le _), by rw [hA]; show pn.length ≤ 3; omega, hB61⟩
    ·
     rw [hc69] at h68
     have hp77 : d.k = 7 := by first | simpa using hc69 | simpa [and_assoc] using hc69
     clear hc69
     refine co_true h68 rfl ?_
     refine wp_exit ?_
     refine co_thenX ?_
     refine co_thenX ?_
     refine co_blockY (by decide) ?_
     refine co_thenX ?_
     refine co_blockY (by decide) ?_
     refine co_thenX ?_
     refine co_blockY (by decide) ?_
     refine co_thenX ?_
     refine co_blockY (by decide) ?_
     refine co_thenX ?_
     refine co_blockX ?_
     refine co_then ?_
     refine co_seq ?_
     refine co_seq ?_
     refine co_seq ?_
     refine dr_gen (fun x => But (fun q => q = b) w x ∧ Blk x b 66 #[.bool true, .int .i64 ep, cv, .int .u64 fl, lgv, .int .u64 hz, pv, .int .i64 tp, .bool x0.1, .int .i64 x0.2.1, .int .i64 x0.2.2.1, .int .i64 x0.2.2.2.1, .int .i64 x0.2.2.2.2, .bool x1.1, .int .i64 x1.2.1, .int .i64 x1.2.2.1, .int .i64 x1.2.2.2.1, .int .i64 x1.2.2.2.2, .bool x2.1, .int .i64 x2.2.1, .int .i64 x2.2.2.1, .int .i64 x2.2.2.2.1, .int .i64 x2.2.2.2.2] ∧ Blk x N3 44 #[.int .i64 d.k, .int .i64 d.n, .int .u64 d.t, .int .i64 d.ep, mv, .int .u64 d.fl, lv, .int .i64 d.ec, .int .i64 d.er, ev, .int .u64 d.ets, .int .i64 d.pid, .int .u64 d.pat, .int .i64 d.plf, .int .i64 d.sc, .int .i64 d.sr, .int .i64 d.se, .int .i64 d.sp]) (by kernel_rfl) (fun w78 hg79 => ?_) (fun w78 hg79 => ?_)
     ·
      have hz80 := hg79.size
      have hB81 := fb_new hB61 hg79
      have hk82 := hk31.kept hg42 (by simp)
      have hk83 := hk82.kept hg79 (by simp)
      have hk84 := hk50.kept hg79 (by simp)
      exact ⟨hB81, hk83, hk84⟩
     have hz85 := hg79.size
     have hB86 := fb_new hB61 hg79
     have hk87 := hk31.kept hg42 (by simp)
     have hk88 := hk87.kept hg79 (by simp)
     have hk89 := hk50.kept hg79 (by simp)
     refine dk0 0 (v := pt b 0) h68 rfl rfl ⟨hB86, hk88, hk89⟩ fun a90 h90 => ?_; clear h68
     refine dk0 1 (v := pt b 0) h90 rfl rfl ⟨hB86, hk88, hk89⟩ fun a91 h91 => ?_; clear h90
     refine dk0 2 (v := pt b 6) h91 rfl rfl ⟨hB86, hk88, hk89⟩ fun a92 h92 => ?_; clear h91
     refine dk 3 (v := pv) h92 rfl rfl ⟨hB86, hk88, hk89⟩ (fun x hx => (rn_load1 rfl rfl Try.isAgg47 (hx.2.1.cell rfl))) fun a93 h93 => ?_; clear h92
     refine dk0 4 (v := pt N3 1) h93 rfl rfl ⟨hB86, hk88, hk89⟩ fun a94 h94 => ?_; clear h93
     refine dk 5 (v := .int .i64 d.n) h94 rfl rfl ⟨hB86, hk88, hk89⟩ (fun x hx => (rn_load1 rfl rfl Try.isAgg3 (hx.2.2.cell rfl))) fun a95 h95 => ?_; clear h94
     have hr98 := row_kept_new hr34 hg42
     have hr99 := row_kept_new hr98 hg79
     refine d1 6 h95 rfl rfl (op_call (args := #[pv, .int .i64 d.n]) (R := fun res xw => ∃ u : Value, res = .tuple #[u, .int .i64 ((freeP pn d.n).2)] ∧ xw.ownsRow w78.heap.size 40 3 u ((freeP pn d.n).1).length (((freeP pn d.n).1).flatMap pinE) ∧ Below w78.heap.size w78 xw) rfl rfl rfl (by kernel_rfl) (by kernel_rfl) (Try.call24 _ _) (leaseFree_any pv pn d.n (freeP pn d.n).1 (freeP pn d.n).2 w78 (row_sl hr99 pinE_len) (by omega) rfl) (by rintro e x ⟨u, rfl, h⟩; exact ⟨_, rfl, u, rfl, h⟩)) ?_ ?_; clear h95
     ·
      rintro _ w97 ⟨u100, rfl, hr101, hb102⟩
      have hz106 := hb102.size
      have hle107 := freeP_le pn d.n
      have hB108 := fb_call hB86 hb102
      have hk109 := hk88.below hb102
      have hk110 := hk89.below hb102
      exact ⟨hB108, hk109, hk110⟩
     rintro _ w97 a96 ⟨u100, rfl, hr101, hb102⟩ h96
     have hz106 := hb102.size
     have hle107 := freeP_le pn d.n
     have hB108 := fb_call hB86 hb102
     have hk109 := hk88.below hb102
     have hk110 := hk89.below hb102
     refine dk0 7 (v := .tuple #[u100, .int .i64 ((freeP pn d.n).2)]) h96 rfl rfl ⟨hB108, hk109, hk110⟩ fun a111 h111 => ?_; clear h96
     refine dk0 8 (v := u100) h111 rfl rfl ⟨hB108, hk109, hk110⟩ fun a112 h112 => ?_; clear h111
     refine dk0 9 (v := .int .i64 ((freeP pn d.n).2)) h112 rfl rfl ⟨hB108, hk109, hk110⟩ fun a113 h113 => ?_; clear h112
     refine dk0 10 (v := u100) h113 rfl rfl ⟨hB108, hk109, hk110⟩ fun a114 h114 => ?_; clear h113
     refine dk0 11 (v := .int .i64 ((freeP pn d.n).2)) h114 rfl rfl ⟨hB108, hk109, hk110⟩ fun a115 h115 => ?_; clear h114
     refine dr_done (by kernel_rfl) ?_
     refine co_then ?_
     refine co_seq ?_
     refine co_reg ?_
     refine pk0 (v := .int .i64 ((freeP pn d.n).2)) h115 rfl fun a116 h116 => ?_; clear h115
     refine pk0 (v := .bool ((freeP pn d.n).2 == 0)) h116 rfl fun a117 h117 => ?_; clear h116
     refine pl_nil ?_
     refine co_then ?_
     have hk119 := hk43.kept hg79 (by simp)
     have hk120 := hk119.below hb102
     cases hc118 : ((freeP pn d.n).2 == 0)
     ·
      rw [hc118] at h117
      have hp121 : ¬ ((freeP pn d.n).2 = 0) := by first | simpa using hc118 | simpa [and_assoc] using hc118
      clear hc118
      refine co_false h117 rfl ?_
      refine wp_skip ?_
      refine co_then ?_
      refine dr_gen (fun x => But (fun q => q = b) w x ∧ Blk x N3 44 #[.int .i64 d.k, .int .i64 d.n, .int .u64 d.t, .int .i64 d.ep, mv, .int .u64 d.fl, lv, .int .i64 d.ec, .int .i64 d.er, ev, .int .u64 d.ets, .int .i64 d.pid, .int .u64 d.pat, .int .i64 d.plf, .int .i64 d.sc, .int .i64 d.sr, .int .i64 d.se, .int .i64 d.sp]) (by kernel_rfl) (fun w122 hg123 => ?_) (fun w122 hg123 => ?_)
      ·
       have hz124 := hg123.size
       have hB125 := fb_new hB108 hg123
       have hk126 := hk110.kept hg123 (by simp)
       exact ⟨hB125, hk126⟩
      have hz127 := hg123.size
      have hB128 := fb_new hB108 hg123
      have hk129 := hk110.kept hg123 (by simp)
      refine dk0 0 (v := pt b 0) h117 rfl rfl ⟨hB128, hk129⟩ fun a130 h130 => ?_; clear h117
      refine dk0 1 (v := pt b 0) h130 rfl rfl ⟨hB128, hk129⟩ fun a131 h131 => ?_; clear h130
      refine dk0 2 (v := pt b 0) h131 rfl rfl ⟨hB128, hk129⟩ fun a132 h132 => ?_; clear h131
      refine dk0 3 (v := pt b 7) h132 rfl rfl ⟨hB128, hk129⟩ fun a133 h133 => ?_; clear h132
      refine dk0 5 (v := pt N3 1) h133 rfl rfl ⟨hB128, hk129⟩ fun a134 h134 => ?_; clear h133
      refine dk 6 (v := .int .i64 d.n) h134 rfl rfl ⟨hB128, hk129⟩ (fun x hx => (rn_load1 rfl rfl Try.isAgg3 (hx.2.cell rfl))) fun a135 h135 => ?_; clear h134
      refine dr_many [4] (by kernel_rfl) (by simp) ⟨?_, trivial⟩
      ·
       have hk136 := hk109.kept hg123 (by simp)
       refine dr_opVal (i := 4) (v := .int .i64 tp) h135 rfl rfl rfl rfl (by kernel_rfl) rfl (rn_load1 rfl rfl Try.isAgg3 (hk136.cell rfl)) ⟨hB128, hk129⟩ (fun a137 h137 => ?_); clear h135
       have hmm138 := mxI_p tp d.n
       refine dk0 7 (v := .int .i64 (mxI tp d.n)) h137 rfl rfl ⟨hB128, hk129⟩ fun a139 h139 => ?_; clear h137
       refine dk0 8 (v := pt b 0) h139 rfl rfl ⟨hB128, hk129⟩ fun a140 h140 => ?_; clear h139
       refine dk0 9 (v := pt b 7) h140 rfl rfl ⟨hB128, hk129⟩ fun a141 h141 => ?_; clear h140
       refine d1D 10 h141 rfl rfl (op_store1 rfl rfl rfl rfl Try.sizeOf3 hk136 rfl) ?_ ?_; clear h141
       ·
        rintro _ w143 ⟨hk144, hz145, hg146⟩
        have hk144' : Blk w143 b 66 #[.bool true, .int .i64 ep, cv, .int .u64 fl, lgv, .int .u64 hz, pv, .int .i64 (mxI tp d.n), .bool x0.1, .int .i64 x0.2.1, .int .i64 x0.2.2.1, .int .i64 x0.2.2.2.1, .int .i64 x0.2.2.2.2, .bool x1.1, .int .i64 x1.2.1, .int .i64 x1.2.2.1, .int .i64 x1.2.2.2.1, .int .i64 x1.2.2.2.2, .bool x2.1, .int .i64 x2.2.1, .int .i64 x2.2.2.1, .int .i64 x2.2.2.2.1, .int .i64 x2.2.2.2.2] := hk144; clear hk144
        have hz147 := hg146.size
        have hB148 := fb_at hB128 hg146 (fun hlt => by first | (exfalso; omega) | (simp; done) | simp_all)
        have hk149 := hk129.kept hg146 (by simp; omega)
        exact ⟨hB148, hk149⟩
       rintro _ w143 a142 ⟨hk144, hz145, hg146⟩ h142
       have hk144' : Blk w143 b 66 #[.bool true, .int .i64 ep, cv, .int .u64 fl, lgv, .int .u64 hz, pv, .int .i64 (mxI tp d.n), .bool x0.1, .int .i64 x0.2.1, .int .i64 x0.2.2.1, .int .i64 x0.2.2.2.1, .int .i64 x0.2.2.2.2, .bool x1.1, .int .i64 x1.2.1, .int .i64 x1.2.2.1, .int .i64 x1.2.2.2.1, .int .i64 x1.2.2.2.2, .bool x2.1, .int .i64 x2.2.1, .int .i64 x2.2.2.1, .int .i64 x2.2.2.2.1, .int .i64 x2.2.2.2.2] := hk144; clear hk144
       have hz147 := hg146.size
       refine dr_done (by kernel_rfl) ?_
       refine co_then ?_
       refine wp_exit ?_
       refine co_blockY (by decide) ?_
       refine co_thenX ?_
       refine co_blockY (by decide) ?_
       refine co_thenX ?_
       refine co_blockX ?_
       refine co_then ?_
       refine co_seq ?_
       refine co_reg ?_
       refine pk0 (v := .int .i64 0) h142 rfl fun a148 h148 => ?_; clear h142
       refine pl_nil ?_
       refine co_then ?_
       refine wp_ret ?_
       refine co_ret1 h148 rfl rfl ?_
       have hr149 := row_kept_new hr99 (below_grown hb102)
       have hr150 := row_kept_new hr149 hg123
       have hr151 := row_kept_at hr150 hg146 (own_neT hr150 hk136 (by decide))
       have hB152 := fb_at hB128 hg146 (fun hlt => by first | (exfalso; omega) | (simp; done) | simp_all)
       have hA : apF pn hz tp d = (0, hz, pn, mxI tp d.n) := by unfold apF; (repeat (first | rw [if_pos (by omega)] | rw [if_neg (by omega)]))
       exact ⟨pv, by rw [hA], by rw [hA]; exact hk144', by rw [hA]; exact row_lows hr151 (Nat.zero_le _), by rw [hA]; show pn.length ≤ 3; omega, hB152⟩
     ·
      rw [hc118] at h117
      have hp153 : (freeP pn d.n).2 = 0 := by first | simpa using hc118 | simpa [and_assoc] using hc118
      clear hc118
      refine co_true h117 rfl ?_
      refine co_reg ?_
      refine pk0 (v := pt b 0) h117 rfl fun a154 h154 => ?_; clear h117
      refine pk0 (v := u100) h154 rfl fun a155 h155 => ?_; clear h154
      refine pk0 (v := pt b 0) h155 rfl fun a156 h156 => ?_; clear h155
      refine pk0 (v := pt b 6) h156 rfl fun a157 h157 => ?_; clear h156
      refine pwD h157 rfl (op_store1 rfl rfl rfl (row_one hr101) Try.sizeOf47 hk109 rfl) ?_; clear h157
      rintro _ w159 a158 ⟨hk160, hz161, hg162⟩ h158
      have hk160' : Blk w159 b 66 #[.bool true, .int .i64 ep, cv, .int .u64 fl, lgv, .int .u64 hz, u100, .int .i64 tp, .bool x0.1, .int .i64 x0.2.1, .int .i64 x0.2.2.1, .int .i64 x0.2.2.2.1, .int .i64 x0.2.2.2.2, .bool x1.1, .int .i64 x1.2.1, .int .i64 x1.2.2.1, .int .i64 x1.2.2.2.1, .int .i64 x1.2.2.2.2, .bool x2.1, .int .i64 x2.2.1, .int .i64 x2.2.2.1, .int .i64 x2.2.2.2.1, .int .i64 x2.2.2.2.2] := hk160; clear hk160
      have hz163 := hg162.size
      refine pl_nil ?_
      refine co_then ?_
      refine dr_gen (fun x => But (fun q => q = b) w x ∧ Blk x N3 44 #[.int .i64 d.k, .int .i64 d.n, .int .u64 d.t, .int .i64 d.ep, mv, .int .u64 d.fl, lv, .int .i64 d.ec, .int .i64 d.er, ev, .int .u64 d.ets, .int .i64 d.pid, .int .u64 d.pat, .int .i64 d.plf, .int .i64 d.sc, .int .i64 d.sr, .int .i64 d.se, .int .i64 d.sp]) (by kernel_rfl) (fun w164 hg165 => ?_) (fun w164 hg165 => ?_)
      ·
       have hz166 := hg165.size
       have hB167 := fb_at hB108 hg162 (fun hlt => by first | (exfalso; omega) | (simp; done) | simp_all)
       have hB168 := fb_new hB167 hg165
       have hk169 := hk110.kept hg162 (by simp; omega)
       have hk170 := hk169.kept hg165 (by simp)
       exact ⟨hB168, hk170⟩
      have hz171 := hg165.size
      have hB172 := fb_at hB108 hg162 (fun hlt => by first | (exfalso; omega) | (simp; done) | simp_all)
      have hB173 := fb_new hB172 hg165
      have hk174 := hk110.kept hg162 (by simp; omega)
      have hk175 := hk174.kept hg165 (by simp)
      refine dk0 0 (v := pt b 0) h158 rfl rfl ⟨hB173, hk175⟩ fun a176 h176 => ?_; clear h158
      refine dk0 1 (v := pt b 0) h176 rfl rfl ⟨hB173, hk175⟩ fun a177 h177 => ?_; clear h176
      refine dk0 2 (v := pt b 0) h177 rfl rfl ⟨hB173, hk175⟩ fun a178 h178 => ?_; clear h177
      refine dk0 3 (v := pt b 7) h178 rfl rfl ⟨hB173, hk175⟩ fun a179 h179 => ?_; clear h178
      refine dk0 5 (v := pt N3 1) h179 rfl rfl ⟨hB173, hk175⟩ fun a180 h180 => ?_; clear h179
      refine dk 6 (v := .int .i64 d.n) h180 rfl rfl ⟨hB173, hk175⟩ (fun x hx => (rn_load1 rfl rfl Try.isAgg3 (hx.2.cell rfl))) fun a181 h181 => ?_; clear h180
      refine dr_many [4] (by kernel_rfl) (by simp) ⟨?_, trivial⟩
      ·
       have hk182 := hk160'.kept hg165 (by simp)
       refine dr_opVal (i := 4) (v := .int .i64 tp) h181 rfl rfl rfl rfl (by kernel_rfl) rfl (rn_load1 rfl rfl Try.isAgg3 (hk182.cell rfl)) ⟨hB173, hk175⟩ (fun a183 h183 => ?_); clear h181
       have hmm184 := mxI_p tp d.n
       refine dk0 7 (v := .int .i64 (mxI tp d.n)) h183 rfl rfl ⟨hB173, hk175⟩ fun a185 h185 => ?_; clear h183
       refine dk0 8 (v := pt b 0) h185 rfl rfl ⟨hB173, hk175⟩ fun a186 h186 => ?_; clear h185
       refine dk0 9 (v := pt b 7) h186 rfl rfl ⟨hB173, hk175⟩ fun a187 h187 => ?_; clear h186
       refine d1D 10 h187 rfl rfl (op_store1 rfl rfl rfl rfl Try.sizeOf3 hk182 rfl) ?_ ?_; clear h187
       ·
        rintro _ w189 ⟨hk190, hz191, hg192⟩
        have hk190' : Blk w189 b 66 #[.bool true, .int .i64 ep, cv, .int .u64 fl, lgv, .int .u64 hz, u100, .int .i64 (mxI tp d.n), .bool x0.1, .int .i64 x0.2.1, .int .i64 x0.2.2.1, .int .i64 x0.2.2.2.1, .int .i64 x0.2.2.2.2, .bool x1.1, .int .i64 x1.2.1, .int .i64 x1.2.2.1, .int .i64 x1.2.2.2.1, .int .i64 x1.2.2.2.2, .bool x2.1, .int .i64 x2.2.1, .int .i64 x2.2.2.1, .int .i64 x2.2.2.2.1, .int .i64 x2.2.2.2.2] := hk190; clear hk190
        have hz193 := hg192.size
        have hB194 := fb_at hB173 hg192 (fun hlt => by first | (exfalso; omega) | (simp; done) | simp_all)
        have hk195 := hk175.kept hg192 (by simp; omega)
        exact ⟨hB194, hk195⟩
       rintro _ w189 a188 ⟨hk190, hz191, hg192⟩ h188
       have hk190' : Blk w189 b 66 #[.bool true, .int .i64 ep, cv, .int .u64 fl, lgv, .int .u64 hz, u100, .int .i64 (mxI tp d.n), .bool x0.1, .int .i64 x0.2.1, .int .i64 x0.2.2.1, .int .i64 x0.2.2.2.1, .int .i64 x0.2.2.2.2, .bool x1.1, .int .i64 x1.2.1, .int .i64 x1.2.2.1, .int .i64 x1.2.2.2.1, .int .i64 x1.2.2.2.2, .bool x2.1, .int .i64 x2.2.1, .int .i64 x2.2.2.1, .int .i64 x2.2.2.2.1, .int .i64 x2.2.2.2.2] := hk190; clear hk190
       have hz193 := hg192.size
       refine dr_done (by kernel_rfl) ?_
       refine co_then ?_
       refine wp_exit ?_
       refine co_blockY (by decide) ?_
       refine co_thenX ?_
       refine co_blockY (by decide) ?_
       refine co_thenX ?_
       refine co_blockX ?_
       refine co_then ?_
       refine co_seq ?_
       refine co_reg ?_
       refine pk0 (v := .int .i64 0) h188 rfl fun a194 h194 => ?_; clear h188
       refine pl_nil ?_
       refine co_then ?_
       refine wp_ret ?_
       refine co_ret1 h194 rfl rfl ?_
       have hr195 := row_kept_at hr101 hg162 (own_neT hr101 hk109 (by decide))
       have hr196 := row_kept_new hr195 hg165
       have hr197 := row_kept_at hr196 hg192 (own_neT hr196 hk182 (by decide))
       have hB198 := fb_at hB173 hg192 (fun hlt => by first | (exfalso; omega) | (simp; done) | simp_all)
       have hA : apF pn hz tp d = (0, hz, (freeP pn d.n).1, mxI tp d.n) := by unfold apF; (repeat (first | rw [if_pos (by omega)] | rw [if_neg (by omega)]))
       exact ⟨u100, by rw [hA], by rw [hA]; exact hk190', by rw [hA]; exact row_lows hr197 (Nat.zero_le _), by rw [hA]; show ((freeP pn d.n).1).length ≤ 3; omega, hB198⟩
   ·
    rw [hc65] at h64
    have hp199 : d.k = 6 := by first | simpa using hc65 | simpa [and_assoc] using hc65
    clear hc65
    refine co_true h64 rfl ?_
    refine wp_exit ?_
    refine co_thenX ?_
    refine co_thenX ?_
    refine co_blockY (by decide) ?_
    refine co_thenX ?_
    refine co_blockY (by decide) ?_
    refine co_thenX ?_
    refine co_blockY (by decide) ?_
    refine co_thenX ?_
    refine co_blockX ?_
    refine co_then ?_
    refine co_seq ?_
    refine co_seq ?_
    refine co_reg ?_
    refine pk0 (v := pt b 0) h64 rfl fun a200 h200 => ?_; clear h64
    refine pk0 (v := pt N3 11) h200 rfl fun a201 h201 => ?_; clear h200
    refine pk (v := .agg #[.int .i64 d.pid, .int .u64 d.pat, .int .i64 d.plf]) h201 rfl (rn_loadN rfl rfl Try.underlying40 rfl (by kernel_rfl) (blk_part hk50 11 (by rfl))) fun a202 h202 => ?_; clear h201
    have hr206 := row_kept_new hr34 hg42
    have hk207 := hk31.kept hg42 (by simp)
    refine pw h202 rfl (op_call (args := #[pt b 0, .agg #[.int .i64 d.pid, .int .u64 d.pat, .int .i64 d.plf]]) (R := fun res xw => ∃ pv2 : Value, res = .int .i64 ((pnF pn hz tp d.pid d.pat).1) ∧ Blk xw b 66 #[.bool true, .int .i64 ep, cv, .int .u64 fl, lgv, .int .u64 hz, pv2, .int .i64 ((pnF pn hz tp d.pid d.pat).2.2), .bool x0.1, .int .i64 x0.2.1, .int .i64 x0.2.2.1, .int .i64 x0.2.2.2.1, .int .i64 x0.2.2.2.2, .bool x1.1, .int .i64 x1.2.1, .int .i64 x1.2.2.1, .int .i64 x1.2.2.2.1, .int .i64 x1.2.2.2.2, .bool x2.1, .int .i64 x2.2.1, .int .i64 x2.2.2.1, .int .i64 x2.2.2.2.1, .int .i64 x2.2.2.2.2] ∧ xw.ownsRow 0 40 3 pv2 ((pnF pn hz tp d.pid d.pat).2.1).length (((pnF pn hz tp d.pid d.pat).2.1).flatMap pinE) ∧ ((pnF pn hz tp d.pid d.pat).2.1).length ≤ 3 ∧ But (fun q => q = b) w40 xw) rfl rfl rfl (by kernel_rfl) (by kernel_rfl) (Try.call23 _ _) (msPin_any b ep cv fl lgv hz pv pn tp x0 x1 x2 d.pid d.pat d.plf w40 hk207 (row_lows hr206 (Nat.zero_le _)) (by omega)) (by rintro e x ⟨pv2, rfl, hq209, hq210, hq211, hb212⟩; exact ⟨_, rfl, ⟨pv2, rfl, hq209, hq210, hq211, hb212⟩⟩)) ?_; clear h202
    rintro _ w204 a203 ⟨pv2208, rfl, hq209, hq210, hq211, hb212⟩ h203
    have hz213 := hb212.size
    have hl214 := hq209.lt
    refine pk0 (v := .int .i64 ((pnF pn hz tp d.pid d.pat).1)) h203 rfl fun a215 h215 => ?_; clear h203
    refine pl_nil ?_
    refine co_then ?_
    refine wp_ret ?_
    refine co_thenR ?_
    refine co_blockR ?_
    refine co_thenR ?_
    refine co_blockR ?_
    refine co_thenR ?_
    refine co_blockR ?_
    refine co_thenR ?_
    refine co_blockR ?_
    refine co_thenR ?_
    refine co_ret1 h215 rfl rfl ?_
    have hB216 := fb_foot hB61 hb212 (fun i hlt hS => by (try simp at hS); first | omega | (simp; omega) | simp_all)
    have hA : apF pn hz tp d = ((pnF pn hz tp d.pid d.pat).1, hz, (pnF pn hz tp d.pid d.pat).2.1, (pnF pn hz tp d.pid d.pat).2.2) := by unfold apF; (repeat (first | rw [if_pos (by omega)] | rw [if_neg (by omega)]))
    exact ⟨pv2208, by rw [hA], by rw [hA]; exact hq209, by rw [hA]; exact row_lows hq210 (Nat.zero_le _), by rw [hA]; show ((pnF pn hz tp d.pid d.pat).2.1).length ≤ 3; omega, hB216⟩
  ·
   rw [hc60] at h59
   have hp217 : d.k = 4 := by first | simpa using hc60 | simpa [and_assoc] using hc60
   clear hc60
   refine co_true h59 rfl ?_
   refine wp_exit ?_
   refine co_thenX ?_
   refine co_thenX ?_
   refine co_blockY (by decide) ?_
   refine co_thenX ?_
   refine co_blockY (by decide) ?_
   refine co_thenX ?_
   refine co_blockX ?_
   refine co_then ?_
   refine co_seq ?_
   refine co_seq ?_
   refine co_seq ?_
   refine dr_eq (by kernel_rfl) (fun w218 hg219 => ?_)
   have hz220 := hg219.size
   refine dk0 0 (v := pt N3 2) h59 rfl rfl rfl fun a221 h221 => ?_; clear h59
   have hk222 := hk50.kept hg219 (by simp)
   refine dk 1 (v := .int .u64 d.t) h221 rfl rfl rfl (fun x hx => by subst hx; exact (rn_load1 rfl rfl Try.isAgg29 (hk222.cell rfl))) fun a223 h223 => ?_; clear h221
   refine dk0 2 (v := pt b 0) h223 rfl rfl rfl fun a224 h224 => ?_; clear h223
   refine dk0 3 (v := pt b 0) h224 rfl rfl rfl fun a225 h225 => ?_; clear h224
   refine dk0 4 (v := pt b 5) h225 rfl rfl rfl fun a226 h226 => ?_; clear h225
   have hk227 := hk31.kept hg42 (by simp)
   have hk228 := hk227.kept hg219 (by simp)
   refine dk 5 (v := .int .u64 hz) h226 rfl rfl rfl (fun x hx => by subst hx; exact (rn_load1 rfl rfl Try.isAgg29 (hk228.cell rfl))) fun a229 h229 => ?_; clear h226
   refine dk0 6 (v := .bool (decide (d.t < hz))) h229 rfl rfl rfl fun a230 h230 => ?_; clear h229
   refine dr_done (by kernel_rfl) ?_
   refine co_then ?_
   have hB232 := fb_new hB61 hg219
   have hr233 := row_kept_new hr34 hg42
   have hr234 := row_kept_new hr233 hg219
   cases hc231 : (decide (d.t < hz))
   ·
    rw [hc231] at h230
    have hp235 : ¬ (d.t < hz) := of_decide_eq_false hc231
    clear hc231
    refine co_false h230 rfl ?_
    refine wp_skip ?_
    refine co_then ?_
    refine co_reg ?_
    refine pk0 (v := pt b 0) h230 rfl fun a236 h236 => ?_; clear h230
    refine pk0 (v := pt N3 2) h236 rfl fun a237 h237 => ?_; clear h236
    refine pk (v := .int .u64 d.t) h237 rfl (rn_load1 rfl rfl Try.isAgg29 (hk222.cell rfl)) fun a238 h238 => ?_; clear h237
    refine pk0 (v := pt b 0) h238 rfl fun a239 h239 => ?_; clear h238
    refine pk0 (v := pt b 5) h239 rfl fun a240 h240 => ?_; clear h239
    refine pwD h240 rfl (op_store1 rfl rfl rfl rfl Try.sizeOf29 hk228 rfl) ?_; clear h240
    rintro _ w242 a241 ⟨hk243, hz244, hg245⟩ h241
    have hk243' : Blk w242 b 66 #[.bool true, .int .i64 ep, cv, .int .u64 fl, lgv, .int .u64 d.t, pv, .int .i64 tp, .bool x0.1, .int .i64 x0.2.1, .int .i64 x0.2.2.1, .int .i64 x0.2.2.2.1, .int .i64 x0.2.2.2.2, .bool x1.1, .int .i64 x1.2.1, .int .i64 x1.2.2.1, .int .i64 x1.2.2.2.1, .int .i64 x1.2.2.2.2, .bool x2.1, .int .i64 x2.2.1, .int .i64 x2.2.2.1, .int .i64 x2.2.2.2.1, .int .i64 x2.2.2.2.2] := hk243; clear hk243
    have hz246 := hg245.size
    refine pl_nil ?_
    refine co_then ?_
    refine wp_exit ?_
    refine co_blockY (by decide) ?_
    refine co_thenX ?_
    refine co_blockY (by decide) ?_
    refine co_thenX ?_
    refine co_blockY (by decide) ?_
    refine co_thenX ?_
    refine co_blockY (by decide) ?_
    refine co_thenX ?_
    refine co_blockX ?_
    refine co_then ?_
    refine co_seq ?_
    refine co_reg ?_
    refine pk0 (v := .int .i64 0) h241 rfl fun a247 h247 => ?_; clear h241
    refine pl_nil ?_
    refine co_then ?_
    refine wp_ret ?_
    refine co_ret1 h247 rfl rfl ?_
    have hr248 := row_kept_at hr234 hg245 (own_neT hr234 hk228 (by decide))
    have hB249 := fb_at hB232 hg245 (fun hlt => by first | (exfalso; omega) | (simp; done) | simp_all)
    have hA : apF pn hz tp d = (0, d.t, pn, tp) := by unfold apF; (repeat (first | rw [if_pos (by omega)] | rw [if_neg (by omega)]))
    exact ⟨pv, by rw [hA], by rw [hA]; exact hk243', by rw [hA]; exact row_lows hr248 (Nat.zero_le _), by rw [hA]; show pn.length ≤ 3; omega, hB249⟩
   ·
    rw [hc231] at h230
    have hp250 : d.t < hz := of_decide_eq_true hc231
    clear hc231
    refine co_true h230 rfl ?_
    refine co_seq ?_
    refine co_reg ?_
    refine pk0 (v := .int .i64 18) h230 rfl fun a251 h251 => ?_; clear h230
    refine pl_nil ?_
    refine co_then ?_
    refine wp_ret ?_
    refine co_thenR ?_
    refine co_thenR ?_
    refine co_blockR ?_
    refine co_thenR ?_
    refine co_blockR ?_
    refine co_thenR ?_
    refine co_blockR ?_
    refine co_thenR ?_
    refine co_blockR ?_
    refine co_thenR ?_
    refine co_blockR ?_
    refine co_thenR ?_
    refine co_ret1 h251 rfl rfl ?_
    have hA : apF pn hz tp d = (18, hz, pn, tp) := by unfold apF; (repeat (first | rw [if_pos (by omega)] | rw [if_neg (by omega)]))
    exact ⟨pv, by rw [hA], by rw [hA]; exact hk228, by rw [hA]; exact row_lows hr234 (Nat.zero_le _), by rw [hA]; show pn.length ≤ 3; omega, hB232⟩
 ·
  rw [hc28] at h27
  have hp252 : chkN d ≠ 0 := by first | simpa using hc28 | simpa [and_assoc] using hc28
  clear hc28
  refine co_true h27 rfl ?_
  refine co_seq ?_
  refine co_reg ?_
  refine pk0 (v := .int .i64 (chkN d)) h27 rfl fun a253 h253 => ?_; clear h27
  refine pk0 (v := .int .i64 (chkN d)) h253 rfl fun a254 h254 => ?_; clear h253
  refine pl_nil ?_
  refine co_then ?_
  refine wp_ret ?_
  refine co_thenR ?_
  refine co_ret1 h254 rfl rfl ?_
  have hA : apF pn hz tp d = (chkN d, hz, pn, tp) := by unfold apF; (repeat (first | rw [if_pos (by omega)] | rw [if_neg (by omega)]))
  exact ⟨pv, by rw [hA], by rw [hA]; exact hk31, by rw [hA]; exact row_lows hr34 (Nat.zero_le _), by rw [hA]; show pn.length ≤ 3; omega, hB29⟩
set_option maxRecDepth 100000 in
theorem msPins_any (b : Nat) (ep : Int) (cv : Value) (fl : Int) (lgv : Value) (hz : Int) (pv : Value) (pn : List PinT) (tp : Int) (x0 : SdT) (x1 : SdT) (x2 : SdT) (w : World) (hb : Blk w b 66 #[.bool true, .int .i64 ep, cv, .int .u64 fl, lgv, .int .u64 hz, pv, .int .i64 tp, .bool x0.1, .int .i64 x0.2.1, .int .i64 x0.2.2.1, .int .i64 x0.2.2.2.1, .int .i64 x0.2.2.2.2, .bool x1.1, .int .i64 x1.2.1, .int .i64 x1.2.2.1, .int .i64 x1.2.2.2.1, .int .i64 x1.2.2.2.2, .bool x2.1, .int .i64 x2.2.1, .int .i64 x2.2.2.1, .int .i64 x2.2.2.2.1, .int .i64 x2.2.2.2.2]) (hpn : w.ownsRow 0 40 3 pv pn.length (pn.flatMap pinE)) (hp3 : pn.length ≤ 3) :
    Calls Try.prog 14 #[pt b 0] w fun e w' => ∃ (u : Value), e = .returned (u) ∧ w'.ownsRow w.heap.size 40 3 u pn.length (pn.flatMap pinE) ∧ Below w.heap.size w w' := by
 have hB0 := Below.refl w.heap.size w
 have hl_hb := hb.lt
 refine co_enter (n := 10) Try.func14 rfl rfl rfl [(0, pt b 0)] rfl (fun a h0 => ?_)
 refine co_seq ?_
 refine co_reg ?_
 refine pk0 (v := .slice none 0 0) h0 rfl fun a1 h1 => ?_; clear h0
 refine pl_nil ?_
 refine co_then ?_
 refine co_seq ?_
 refine co_seq ?_
 refine co_reg ?_
 refine pk0 (v := pt b 0) h1 rfl fun a2 h2 => ?_; clear h1
 refine pw h2 rfl (op_call (args := #[pt b 0]) (R := fun res xw => res = .bool false ∧ Below w.heap.size w xw) rfl rfl rfl (by kernel_rfl) (by kernel_rfl) (Try.call19 _ _) (mszeroT b ep cv fl lgv hz pv tp x0 x1 x2 w hb) (by rintro e x ⟨rfl, hb5⟩; exact ⟨_, rfl, ⟨rfl, hb5⟩⟩)) ?_; clear h2
 rintro _ w4 a3 ⟨rfl, hb5⟩ h3
 have hz6 := hb5.size
 refine pl_nil ?_
 refine co_then ?_
 refine co_false h3 rfl ?_
 refine wp_skip ?_
 refine co_then ?_
 refine co_seq ?_
 refine co_reg ?_
 refine pk0 (v := pt b 0) h3 rfl fun a7 h7 => ?_; clear h3
 refine pk0 (v := pt b 0) h7 rfl fun a8 h8 => ?_; clear h7
 refine pk0 (v := pt b 6) h8 rfl fun a9 h9 => ?_; clear h8
 have hk10 := hb.below hb5
 refine pk (v := pv) h9 rfl (rn_load1 rfl rfl Try.isAgg47 (hk10.cell rfl)) fun a11 h11 => ?_; clear h9
 have hr14 := row_kept_new hpn (below_grown hb5)
 refine pw h11 rfl (op_call (args := #[pv]) (R := fun res xw => ∃ u : Value, res = u ∧ xw.ownsRow w4.heap.size 40 3 u pn.length (pn.flatMap pinE) ∧ Below w4.heap.size w4 xw) rfl rfl rfl (by kernel_rfl) (by kernel_rfl) (Try.call38 _ _) (clonePin_any pv pn w4 (row_sl hr14 pinE_len) (by first | omega | (simp; done) | (simp; omega))) (by rintro e x ⟨u, rfl, hq16, hb17⟩; exact ⟨_, rfl, ⟨u, rfl, hq16, hb17⟩⟩)) ?_; clear h11
 rintro u15 w13 a12 ⟨_, rfl, hq16, hb17⟩ h12
 have hz18 := hb17.size
 have hl19 := sl_len (row_sl hq16 pinE_len)
 refine pk0 (v := u15) h12 rfl fun a20 h20 => ?_; clear h12
 refine pl_nil ?_
 refine co_then ?_
 refine wp_ret ?_
 refine co_ret1 h20 rfl rfl ?_
 have hB21 := hb_call hB0 hb5
 have hB22 := hb_call hB21 hb17
 exact ⟨_, rfl, (row_lows hq16 (by omega)), hB22⟩
set_option maxRecDepth 100000 in
theorem msTop_any (b : Nat) (ep : Int) (cv : Value) (fl : Int) (lgv : Value) (hz : Int) (pv : Value) (tp : Int) (x0 : SdT) (x1 : SdT) (x2 : SdT) (w : World) (hb : Blk w b 66 #[.bool true, .int .i64 ep, cv, .int .u64 fl, lgv, .int .u64 hz, pv, .int .i64 tp, .bool x0.1, .int .i64 x0.2.1, .int .i64 x0.2.2.1, .int .i64 x0.2.2.2.1, .int .i64 x0.2.2.2.2, .bool x1.1, .int .i64 x1.2.1, .int .i64 x1.2.2.1, .int .i64 x1.2.2.2.1, .int .i64 x1.2.2.2.2, .bool x2.1, .int .i64 x2.2.1, .int .i64 x2.2.2.1, .int .i64 x2.2.2.2.1, .int .i64 x2.2.2.2.2]) :
    Calls Try.prog 18 #[pt b 0] w fun e w' => e = .returned (.int .i64 tp) ∧ Below w.heap.size w w' := by
 have hB0 := Below.refl w.heap.size w
 have hl_hb := hb.lt
 refine co_enter (n := 9) Try.func18 rfl rfl rfl [(0, pt b 0)] rfl (fun a h0 => ?_)
 refine co_seq ?_
 refine co_reg ?_
 refine pk0 (v := .int .i64 0) h0 rfl fun a1 h1 => ?_; clear h0
 refine pl_nil ?_
 refine co_then ?_
 refine co_seq ?_
 refine co_seq ?_
 refine co_reg ?_
 refine pk0 (v := pt b 0) h1 rfl fun a2 h2 => ?_; clear h1
 refine pw h2 rfl (op_call (args := #[pt b 0]) (R := fun res xw => res = .bool false ∧ Below w.heap.size w xw) rfl rfl rfl (by kernel_rfl) (by kernel_rfl) (Try.call19 _ _) (mszeroT b ep cv fl lgv hz pv tp x0 x1 x2 w hb) (by rintro e x ⟨rfl, hb5⟩; exact ⟨_, rfl, ⟨rfl, hb5⟩⟩)) ?_; clear h2
 rintro _ w4 a3 ⟨rfl, hb5⟩ h3
 have hz6 := hb5.size
 refine pl_nil ?_
 refine co_then ?_
 refine co_false h3 rfl ?_
 refine wp_skip ?_
 refine co_then ?_
 refine co_seq ?_
 refine co_reg ?_
 refine pk0 (v := pt b 0) h3 rfl fun a7 h7 => ?_; clear h3
 refine pk0 (v := pt b 0) h7 rfl fun a8 h8 => ?_; clear h7
 refine pk0 (v := pt b 7) h8 rfl fun a9 h9 => ?_; clear h8
 have hk10 := hb.below hb5
 refine pk (v := .int .i64 tp) h9 rfl (rn_load1 rfl rfl Try.isAgg3 (hk10.cell rfl)) fun a11 h11 => ?_; clear h9
 refine pk0 (v := .int .i64 tp) h11 rfl fun a12 h12 => ?_; clear h11
 refine pl_nil ?_
 refine co_then ?_
 refine wp_ret ?_
 refine co_ret1 h12 rfl rfl ?_
 have hB13 := hb_call hB0 hb5
 exact ⟨rfl, hB13⟩
set_option maxRecDepth 100000 in
theorem msHorizon_any (b : Nat) (ep : Int) (cv : Value) (fl : Int) (lgv : Value) (hz : Int) (pv : Value) (tp : Int) (x0 : SdT) (x1 : SdT) (x2 : SdT) (w : World) (hb : Blk w b 66 #[.bool true, .int .i64 ep, cv, .int .u64 fl, lgv, .int .u64 hz, pv, .int .i64 tp, .bool x0.1, .int .i64 x0.2.1, .int .i64 x0.2.2.1, .int .i64 x0.2.2.2.1, .int .i64 x0.2.2.2.2, .bool x1.1, .int .i64 x1.2.1, .int .i64 x1.2.2.1, .int .i64 x1.2.2.2.1, .int .i64 x1.2.2.2.2, .bool x2.1, .int .i64 x2.2.1, .int .i64 x2.2.2.1, .int .i64 x2.2.2.2.1, .int .i64 x2.2.2.2.2]) :
    Calls Try.prog 12 #[pt b 0] w fun e w' => e = .returned (.int .u64 hz) ∧ Below w.heap.size w w' := by
 have hB0 := Below.refl w.heap.size w
 have hl_hb := hb.lt
 refine co_enter (n := 9) Try.func12 rfl rfl rfl [(0, pt b 0)] rfl (fun a h0 => ?_)
 refine co_seq ?_
 refine co_reg ?_
 refine pk0 (v := .int .u64 0) h0 rfl fun a1 h1 => ?_; clear h0
 refine pl_nil ?_
 refine co_then ?_
 refine co_seq ?_
 refine co_seq ?_
 refine co_reg ?_
 refine pk0 (v := pt b 0) h1 rfl fun a2 h2 => ?_; clear h1
 refine pw h2 rfl (op_call (args := #[pt b 0]) (R := fun res xw => res = .bool false ∧ Below w.heap.size w xw) rfl rfl rfl (by kernel_rfl) (by kernel_rfl) (Try.call19 _ _) (mszeroT b ep cv fl lgv hz pv tp x0 x1 x2 w hb) (by rintro e x ⟨rfl, hb5⟩; exact ⟨_, rfl, ⟨rfl, hb5⟩⟩)) ?_; clear h2
 rintro _ w4 a3 ⟨rfl, hb5⟩ h3
 have hz6 := hb5.size
 refine pl_nil ?_
 refine co_then ?_
 refine co_false h3 rfl ?_
 refine wp_skip ?_
 refine co_then ?_
 refine co_seq ?_
 refine co_reg ?_
 refine pk0 (v := pt b 0) h3 rfl fun a7 h7 => ?_; clear h3
 refine pk0 (v := pt b 0) h7 rfl fun a8 h8 => ?_; clear h7
 refine pk0 (v := pt b 5) h8 rfl fun a9 h9 => ?_; clear h8
 have hk10 := hb.below hb5
 refine pk (v := .int .u64 hz) h9 rfl (rn_load1 rfl rfl Try.isAgg29 (hk10.cell rfl)) fun a11 h11 => ?_; clear h9
 refine pk0 (v := .int .u64 hz) h11 rfl fun a12 h12 => ?_; clear h11
 refine pl_nil ?_
 refine co_then ?_
 refine wp_ret ?_
 refine co_ret1 h12 rfl rfl ?_
 have hB13 := hb_call hB0 hb5
 exact ⟨rfl, hB13⟩
end Go.Proofs.Ytnjbnndpbegkdaa

/- Package mstate: members and ids: ContainsFunc, Contains, Head, memberIds. Conditions: none. -/
namespace Go.Proofs.Ytnjbnndpbegkdaa
open Go.RowKit Go.PlainAid
set_option linter.unusedVariables false
set_option linter.unusedSimpArgs false


def inL (l : List Int) (n : Int) : Bool := l.any fun x => x == n
theorem inL_mem {l : List Int} {n : Int} : inL l n = true ↔ n ∈ l := by
  unfold inL; rw [List.any_eq_true]
  exact ⟨fun ⟨x, hx, e⟩ => by have := eq_of_beq e; subst this; exact hx, fun h => ⟨n, h, by simp⟩⟩
theorem inL_at {l : List Int} {i : Nat} {n y : Int} (hb : ∀ j, j < i → ∀ z, l[j]? = some z → z ≠ n) (h : l[i]? = some y) (e : y = n) : true = inL l n := by
  subst e; exact (inL_mem.2 (List.mem_of_getElem? h)).symm
theorem inL_end {l : List Int} {i : Nat} {n : Int} (hb : ∀ j, j < i → ∀ z, l[j]? = some z → z ≠ n) (hi : l.length ≤ i) : false = inL l n := by
  symm; rw [Bool.eq_false_iff]
  intro h
  obtain ⟨j, hj, e⟩ := List.getElem_of_mem (inL_mem.1 h)
  exact hb j (by omega) _ (List.getElem?_eq_getElem hj) e
theorem in_next {l : List Int} {i : Nat} {n y : Int} (hb : ∀ j, j < i → ∀ z, l[j]? = some z → z ≠ n) (h : l[i]? = some y) (e : ¬ y = n) : ∀ j, j < i + 1 → ∀ z, l[j]? = some z → z ≠ n := by
  intro j hj z hz
  by_cases q : j = i
  · subst q; rw [h] at hz; cases hz; exact e
  · exact hb j (by omega) z hz
def hasM (l : List MemT) (n : Int) : Bool := l.any fun o => o.1 == n
theorem hasM_at {l : List MemT} {i : Nat} {n : Int} {y : MemT} (h : l[i]? = some y) (e : y.1 = n) : true = hasM l n := by
  symm; unfold hasM; rw [List.any_eq_true]; exact ⟨y, List.mem_of_getElem? h, by simpa using e⟩
theorem hasM_end {l : List MemT} {i : Nat} {n : Int} (hb : ∀ j, j < i → ∀ z, l[j]? = some z → z.1 ≠ n) (hi : l.length ≤ i) : false = hasM l n := by
  symm; rw [Bool.eq_false_iff]; unfold hasM; rw [ne_eq, List.any_eq_true]
  rintro ⟨y, hy, e⟩
  obtain ⟨j, hj, e2⟩ := List.getElem_of_mem hy
  exact hb j (by omega) _ (List.getElem?_eq_getElem hj) (by rw [e2]; simpa using e)
theorem has_next {l : List MemT} {i : Nat} {n : Int} {y : MemT} (hb : ∀ j, j < i → ∀ z, l[j]? = some z → z.1 ≠ n) (h : l[i]? = some y) (e : ¬ y.1 = n) : ∀ j, j < i + 1 → ∀ z, l[j]? = some z → z.1 ≠ n := by
  intro j hj z hz
  by_cases q : j = i
  · subst q; rw [h] at hz; cases hz; exact e
  · exact hb j (by omega) z hz


def headI (l : List MemT) : Int := match l with | [] => -1 | m :: _ => m.1
theorem headI_0 {l : List MemT} (h : (0 : Int) ≥ (l.length : Nat)) : -1 = headI l := by
  obtain rfl : l = [] := List.eq_nil_of_length_eq_zero (by omega)
  rfl
theorem headI_y {l : List MemT} {y : MemT} (h : l[0]? = some y) : y.1 = headI l := by
  cases l with
  | nil => simp at h
  | cons m r => simp at h; subst h; rfl
/-- Are all of these members? -/
def memIds (ms : List MemT) (ids : List Int) : Bool := ids.all (hasM ms)
theorem memIds_no {ms : List MemT} {ids : List Int} {k : Nat} {y : Int} (hy : ids[k]? = some y) (h : hasM ms y = false) : false = memIds ms ids := by
  symm; rw [Bool.eq_false_iff]; intro hA
  have := List.all_eq_true.1 hA y (List.mem_of_getElem? hy)
  rw [h] at this; cases this
theorem memIds_next {ms : List MemT} {ids : List Int} {k : Nat} {y : Int} (hb : memIds ms (ids.take k) = true) (hy : ids[k]? = some y) (h : hasM ms y = true) : memIds ms (ids.take (k + 1)) = true := by
  unfold memIds at hb ⊢
  rw [List.take_add_one, hy]
  simp only [Option.toList_some, List.all_append, hb, List.all_cons, List.all_nil, h, Bool.and_true]

set_option maxRecDepth 100000 in
theorem hasIdM_any (p : MemT) (id : Int) (N : Nat) (w : World) (hr : w.rangeAt N 0 [.int .i64 id]) :
    Calls Try.prog 71 #[.agg #[.int .i64 p.1, .int .i64 p.2], pt N 0] w fun e w' => e = .returned (.bool (p.1 == id)) ∧ Below w.heap.size w w' := by
 have hB0 := Below.refl w.heap.size w
 refine co_enter (n := 8) Try.func71 rfl rfl rfl [(0, .agg #[.int .i64 p.1, .int .i64 p.2]), (1, pt N 0)] rfl (fun a h0 => ?_)
 refine co_seq ?_
 refine co_reg ?_
 refine pw h0 rfl (op_new (v := fun N => pt N 0) (T := 102) (cs := #[.int .i64 p.1, .int .i64 p.2]) (by kernel_rfl) (by kernel_rfl) (by kernel_rfl)) ?_; clear h0
 rintro _ w2 a1 ⟨N3, rfl, hN6, hz7, hk5, hg4⟩ h1
 have hz8 := hg4.size
 try dsimp only at h1
 refine pk0 (v := .bool false) h1 rfl fun a9 h9 => ?_; clear h1
 refine pl_nil ?_
 refine co_then ?_
 refine co_seq ?_
 refine co_reg ?_
 refine pk0 (v := pt N3 0) h9 rfl fun a10 h10 => ?_; clear h9
 refine pk (v := .int .i64 p.1) h10 rfl (rn_load1 rfl rfl Try.isAgg3 (hk5.cell rfl)) fun a11 h11 => ?_; clear h10
 have hB12 := hb_new hB0 hg4
 refine pk (v := .int .i64 id) h11 rfl (rn_load1 rfl rfl Try.isAgg3 ((range_below hr hB12) 0 _ rfl)) fun a13 h13 => ?_; clear h11
 refine pk0 (v := .bool (p.1 == id)) h13 rfl fun a14 h14 => ?_; clear h13
 refine pk0 (v := .bool (p.1 == id)) h14 rfl fun a15 h15 => ?_; clear h14
 refine pl_nil ?_
 refine co_then ?_
 refine wp_ret ?_
 refine co_ret1 h15 rfl rfl ?_
 exact ⟨rfl, hB12⟩
set_option maxRecDepth 100000 in
theorem indexM_any (v : Value) (l : List MemT) (id : Int) (N : Nat) (w : World) (hs : SliceOf memE 2 w v l) (hr : w.rangeAt N 0 [.int .i64 id]) :
    Calls Try.prog 82 #[v, .func (.func 71) #[] #[pt N 0]] w fun e w' => ∃ (j : Int), e = .returned (.int .i64 j) ∧ decide (j ≥ 0) = hasM l id ∧ Below w.heap.size w w' := by
 have hB0 := Below.refl w.heap.size w
 have hl_hs := sl_len hs
 refine co_enter (n := 19) Try.func82 rfl rfl rfl [(0, v), (1, .func (.func 71) #[] #[pt N 0])] rfl (fun a h0 => ?_)
 refine co_seq ?_
 refine co_reg ?_
 refine pk0 (v := .int .i64 0) h0 rfl fun a1 h1 => ?_; clear h0
 refine pl_nil ?_
 refine co_then ?_
 refine co_seq ?_
 refine co_seq ?_
 refine co_reg ?_
 refine pk0 (v := v) h1 rfl fun a2 h2 => ?_; clear h1
 refine pk (v := .int .i64 ((l.length : Nat) : Int)) h2 rfl (rn_len rfl rfl Try.underlying30 hs) fun a3 h3 => ?_; clear h2
 refine pk0 (v := .int .i64 0) h3 rfl fun a4 h4 => ?_; clear h3
 refine pl_nil ?_
 refine co_then ?_
 refine wp_block ?_
 have h5 : Slots 19 [(0, v), (1, .func (.func 71) #[] #[pt N 0]), (6, v), (7, .int .i64 ((l.length : Nat) : Int)), (8, .int .i64 0)] _ := h4.sub ⟨rfl, rfl, rfl, rfl, rfl, trivial⟩; clear h4
 refine co_loop (fun mm a x => ∃ (i : Nat), Slots 19 [(0, v), (1, .func (.func 71) #[] #[pt N 0]), (6, v), (7, .int .i64 ((l.length : Nat) : Int)), (8, .int .i64 ((i : Nat) : Int))] a ∧ mm = l.length - i ∧ (i ≤ l.length) ∧ (∀ j, j < i → ∀ z, l[j]? = some z → z.1 ≠ id) ∧ Below w.heap.size w x) (l.length - 0) ?_ ?_
 · exact ⟨0, h5.sub ⟨rfl, rfl, rfl, rfl, (slot_eq rfl (congrArg (Value.int .i64) (by first | rfl | omega))), trivial⟩, rfl, by omega, by first | (intro j hj; omega) | exact has_next (by assumption) (by assumption) (by omega), hB0⟩
 · rintro k6 a7 w8 ⟨i, h7, rfl, hi9, hi10, hB11⟩
   have hz12 := hB11.size
   refine co_seq ?_
   refine co_reg ?_
   refine pk0 (v := .bool (decide (((i : Nat) : Int) < ((l.length : Nat) : Int)))) h7 rfl fun a13 h13 => ?_; clear h7
   refine pl_nil ?_
   refine co_then ?_
   refine co_seq ?_
   cases hc14 : (decide (((i : Nat) : Int) < ((l.length : Nat) : Int)))
   ·
    rw [hc14] at h13
    have hp15 : ¬ (((i : Nat) : Int) < ((l.length : Nat) : Int)) := of_decide_eq_false hc14
    clear hc14
    refine co_false h13 rfl ?_
    refine wp_exit ?_
    refine co_thenX ?_
    refine co_thenX ?_
    refine co_blockX ?_
    refine co_then ?_
    refine co_seq ?_
    refine co_reg ?_
    refine pk0 (v := .int .i64 (-1)) h13 rfl fun a16 h16 => ?_; clear h13
    refine pl_nil ?_
    refine co_then ?_
    refine wp_ret ?_
    refine co_ret1 h16 rfl rfl ?_
    exact ⟨_, rfl, by rw [decide_eq_false (by omega)]; exact hasM_end (by assumption) (by omega), hB11⟩
   ·
    rw [hc14] at h13
    have hp17 : ((i : Nat) : Int) < ((l.length : Nat) : Int) := of_decide_eq_true hc14
    clear hc14
    refine co_true h13 rfl ?_
    refine wp_skip ?_
    refine co_then ?_
    refine co_seq ?_
    refine wp_block ?_
    refine co_seq ?_
    refine co_reg ?_
    refine pk0 (v := .int .i64 ((i : Nat) : Int)) h13 rfl fun a18 h18 => ?_; clear h13
    refine pk0 (v := .int .i64 ((i : Nat) : Int)) h18 rfl fun a19 h19 => ?_; clear h18
    refine pl_nil ?_
    refine co_then ?_
    refine co_seq ?_
    refine co_reg ?_
    refine pk0 (v := .func (.func 71) #[] #[pt N 0]) h19 rfl fun a20 h20 => ?_; clear h19
    refine pk0 (v := v) h20 rfl fun a21 h21 => ?_; clear h20
    refine pk0 (v := .int .i64 ((i : Nat) : Int)) h21 rfl fun a22 h22 => ?_; clear h21
    obtain ⟨y23, hy23⟩ : ∃ z, l[i]? = some z := ⟨_, List.getElem?_eq_getElem (by first | omega | (simp; done) | (simp; omega))⟩
    refine pk (v := pt (blkOf v) (offOf v + i * 2)) h22 rfl (rn_index rfl rfl rfl Try.underlying30 Try.sizeOf102 (hs.below hB11) (by omega) (by first | omega | (simp; done) | (simp; omega))) fun a24 h24 => ?_; clear h22
    refine pk (v := .agg #[.int .i64 y23.1, .int .i64 y23.2]) h24 rfl (rn_loadN rfl rfl Try.underlying102 rfl (by kernel_rfl) (sl_at (hs.below hB11) hy23)) fun a25 h25 => ?_; clear h24
    refine pw h25 rfl (op_callV (args := #[.agg #[.int .i64 y23.1, .int .i64 y23.2], pt N 0]) (R := fun res xw => res = .bool (y23.1 == id) ∧ Below w8.heap.size w8 xw) rfl rfl rfl (by kernel_rfl) (by kernel_rfl) (Try.call71 _ _) (hasIdM_any y23 id N w8 (range_below hr hB11)) (by rintro e x ⟨rfl, hb28⟩; exact ⟨_, rfl, ⟨rfl, hb28⟩⟩)) ?_; clear h25
    rintro _ w27 a26 ⟨rfl, hb28⟩ h26
    have hz29 := hb28.size
    refine pl_nil ?_
    refine co_then ?_
    have hB31 := hb_call hB11 hb28
    cases hc30 : (y23.1 == id)
    ·
     rw [hc30] at h26
     have hp32 : ¬ (y23.1 = id) := by first | simpa using hc30 | simpa [and_assoc] using hc30
     clear hc30
     refine co_false h26 rfl ?_
     refine wp_skip ?_
     refine co_blockN ?_
     refine co_then ?_
     refine co_reg ?_
     refine pk (v := .int .i64 ((i + 1 : Nat) : Int)) h26 rfl (rn_arith' rfl rfl rfl rfl rfl rfl (IntWalk.i64_in _ (by omega)) (by omega)) fun a33 h33 => ?_; clear h26
     refine pk0 (v := .int .i64 ((i + 1 : Nat) : Int)) h33 rfl fun a34 h34 => ?_; clear h33
     refine pl_nil ?_
     refine co_then ?_
     refine ⟨(l.length - (i + 1)), by omega, ?_⟩
     exact ⟨i + 1, h34.sub ⟨rfl, rfl, rfl, rfl, rfl, trivial⟩, rfl, by omega, by first | (intro j hj; omega) | exact has_next (by assumption) (by assumption) (by omega), hB31⟩
    ·
     rw [hc30] at h26
     have hp35 : y23.1 = id := by first | simpa using hc30 | simpa [and_assoc] using hc30
     clear hc30
     refine co_true h26 rfl ?_
     refine co_seq ?_
     refine co_reg ?_
     refine pk0 (v := .int .i64 ((i : Nat) : Int)) h26 rfl fun a36 h36 => ?_; clear h26
     refine pk0 (v := .int .i64 ((i : Nat) : Int)) h36 rfl fun a37 h37 => ?_; clear h36
     refine pl_nil ?_
     refine co_then ?_
     refine wp_ret ?_
     refine co_blockR ?_
     refine co_thenR ?_
     refine co_thenR ?_
     refine co_blockR ?_
     refine co_thenR ?_
     refine co_ret1 h37 rfl rfl ?_
     exact ⟨_, rfl, by rw [decide_eq_true (by omega)]; exact hasM_at (by assumption) (by omega), hB31⟩
set_option maxRecDepth 100000 in
theorem containsM_any (v : Value) (l : List MemT) (id : Int) (N : Nat) (w : World) (hs : SliceOf memE 2 w v l) (hr : w.rangeAt N 0 [.int .i64 id]) :
    Calls Try.prog 70 #[v, .func (.func 71) #[] #[pt N 0]] w fun e w' => e = .returned (.bool (hasM l id)) ∧ Below w.heap.size w w' := by
 have hB0 := Below.refl w.heap.size w
 have hl_hs := sl_len hs
 refine co_enter (n := 9) Try.func70 rfl rfl rfl [(0, v), (1, .func (.func 71) #[] #[pt N 0])] rfl (fun a h0 => ?_)
 refine co_seq ?_
 refine co_reg ?_
 refine pk0 (v := .bool false) h0 rfl fun a1 h1 => ?_; clear h0
 refine pl_nil ?_
 refine co_then ?_
 refine co_seq ?_
 refine co_reg ?_
 refine pk0 (v := v) h1 rfl fun a2 h2 => ?_; clear h1
 refine pk0 (v := .func (.func 71) #[] #[pt N 0]) h2 rfl fun a3 h3 => ?_; clear h2
 refine pw h3 rfl (op_call (args := #[v, .func (.func 71) #[] #[pt N 0]]) (R := fun res xw => ∃ j : Int, res = .int .i64 j ∧ decide (j ≥ 0) = hasM l id ∧ Below w.heap.size w xw) rfl rfl rfl (by kernel_rfl) (by kernel_rfl) (Try.call82 _ _) (indexM_any v l id N w hs hr) (by rintro e x ⟨j, rfl, hq7, hb8⟩; exact ⟨_, rfl, ⟨j, rfl, hq7, hb8⟩⟩)) ?_; clear h3
 rintro _ w5 a4 ⟨j6, rfl, hq7, hb8⟩ h4
 have hz9 := hb8.size
 refine pk0 (v := .bool (decide (j6 ≥ 0))) h4 rfl fun a10 h10 => ?_; clear h4
 refine pk0 (v := .bool (decide (j6 ≥ 0))) h10 rfl fun a11 h11 => ?_; clear h10
 refine pl_nil ?_
 refine co_then ?_
 refine wp_ret ?_
 refine co_ret1 h11 rfl rfl ?_
 have hB12 := hb_call hB0 hb8
 exact ⟨ret_bool (by assumption), hB12⟩
set_option maxRecDepth 100000 in
theorem indexI_any (v : Value) (l : List Int) (n : Int) (w : World) (hs : SliceOf (intE .i64) 1 w v l) :
    Calls Try.prog 72 #[v, .int .i64 n] w fun e w' => ∃ (j : Int), e = .returned (.int .i64 j) ∧ decide (j ≥ 0) = inL l n ∧ Below w.heap.size w w' := by
 have hB0 := Below.refl w.heap.size w
 have hl_hs := sl_len hs
 refine co_enter (n := 19) Try.func72 rfl rfl rfl [(0, v), (1, .int .i64 n)] rfl (fun a h0 => ?_)
 refine co_seq ?_
 refine co_reg ?_
 refine pk0 (v := .int .i64 0) h0 rfl fun a1 h1 => ?_; clear h0
 refine pl_nil ?_
 refine co_then ?_
 refine co_seq ?_
 refine co_seq ?_
 refine co_reg ?_
 refine pk0 (v := v) h1 rfl fun a2 h2 => ?_; clear h1
 refine pk (v := .int .i64 ((l.length : Nat) : Int)) h2 rfl (rn_len rfl rfl Try.underlying33 hs) fun a3 h3 => ?_; clear h2
 refine pk0 (v := .int .i64 0) h3 rfl fun a4 h4 => ?_; clear h3
 refine pl_nil ?_
 refine co_then ?_
 refine wp_block ?_
 have h5 : Slots 19 [(0, v), (1, .int .i64 n), (6, v), (7, .int .i64 ((l.length : Nat) : Int)), (8, .int .i64 0)] _ := h4.sub ⟨rfl, rfl, rfl, rfl, rfl, trivial⟩; clear h4
 refine co_loop (fun mm a x => ∃ (i : Nat), Slots 19 [(0, v), (1, .int .i64 n), (6, v), (7, .int .i64 ((l.length : Nat) : Int)), (8, .int .i64 ((i : Nat) : Int))] a ∧ mm = l.length - i ∧ (i ≤ l.length) ∧ (∀ j, j < i → ∀ z, l[j]? = some z → z ≠ n) ∧ Below w.heap.size w x) (l.length - 0) ?_ ?_
 · exact ⟨0, h5.sub ⟨rfl, rfl, rfl, rfl, (slot_eq rfl (congrArg (Value.int .i64) (by first | rfl | omega))), trivial⟩, rfl, by omega, by first | (intro j hj; omega) | exact in_next (by assumption) (by assumption) (by omega), hB0⟩
 · rintro k6 a7 w8 ⟨i, h7, rfl, hi9, hi10, hB11⟩
   have hz12 := hB11.size
   refine co_seq ?_
   refine co_reg ?_
   refine pk0 (v := .bool (decide (((i : Nat) : Int) < ((l.length : Nat) : Int)))) h7 rfl fun a13 h13 => ?_; clear h7
   refine pl_nil ?_
   refine co_then ?_
   refine co_seq ?_
   cases hc14 : (decide (((i : Nat) : Int) < ((l.length : Nat) : Int)))
   ·
    rw [hc14] at h13
    have hp15 : ¬ (((i : Nat) : Int) < ((l.length : Nat) : Int)) := of_decide_eq_false hc14
    clear hc14
    refine co_false h13 rfl ?_
    refine wp_exit ?_
    refine co_thenX ?_
    refine co_thenX ?_
    refine co_blockX ?_
    refine co_then ?_
    refine co_seq ?_
    refine co_reg ?_
    refine pk0 (v := .int .i64 (-1)) h13 rfl fun a16 h16 => ?_; clear h13
    refine pl_nil ?_
    refine co_then ?_
    refine wp_ret ?_
    refine co_ret1 h16 rfl rfl ?_
    exact ⟨_, rfl, by rw [decide_eq_false (by omega)]; exact inL_end (i := i) (by assumption) (by omega), hB11⟩
   ·
    rw [hc14] at h13
    have hp17 : ((i : Nat) : Int) < ((l.length : Nat) : Int) := of_decide_eq_true hc14
    clear hc14
    refine co_true h13 rfl ?_
    refine wp_skip ?_
    refine co_then ?_
    refine co_seq ?_
    refine wp_block ?_
    refine co_seq ?_
    refine co_reg ?_
    refine pk0 (v := .int .i64 ((i : Nat) : Int)) h13 rfl fun a18 h18 => ?_; clear h13
    refine pk0 (v := .int .i64 ((i : Nat) : Int)) h18 rfl fun a19 h19 => ?_; clear h18
    refine pl_nil ?_
    refine co_then ?_
    refine co_seq ?_
    refine co_reg ?_
    refine pk0 (v := .int .i64 n) h19 rfl fun a20 h20 => ?_; clear h19
    refine pk0 (v := v) h20 rfl fun a21 h21 => ?_; clear h20
    refine pk0 (v := .int .i64 ((i : Nat) : Int)) h21 rfl fun a22 h22 => ?_; clear h21
    obtain ⟨y23, hy23⟩ : ∃ z, l[i]? = some z := ⟨_, List.getElem?_eq_getElem (by first | omega | (simp; done) | (simp; omega))⟩
    refine pk (v := pt (blkOf v) (offOf v + i * 1)) h22 rfl (rn_index rfl rfl rfl Try.underlying33 Try.sizeOf3 (hs.below hB11) (by omega) (by first | omega | (simp; done) | (simp; omega))) fun a24 h24 => ?_; clear h22
    refine pk (v := .int .i64 y23) h24 rfl (rn_load1 rfl rfl Try.isAgg3 ((sl_at (hs.below hB11) hy23) 0 _ rfl)) fun a25 h25 => ?_; clear h24
    refine pk0 (v := .bool (n == y23)) h25 rfl fun a26 h26 => ?_; clear h25
    refine pl_nil ?_
    refine co_then ?_
    cases hc27 : (n == y23)
    ·
     rw [hc27] at h26
     have hp28 : ¬ (n = y23) := by first | simpa using hc27 | simpa [and_assoc] using hc27
     clear hc27
     refine co_false h26 rfl ?_
     refine wp_skip ?_
     refine co_blockN ?_
     refine co_then ?_
     refine co_reg ?_
     refine pk (v := .int .i64 ((i + 1 : Nat) : Int)) h26 rfl (rn_arith' rfl rfl rfl rfl rfl rfl (IntWalk.i64_in _ (by omega)) (by omega)) fun a29 h29 => ?_; clear h26
     refine pk0 (v := .int .i64 ((i + 1 : Nat) : Int)) h29 rfl fun a30 h30 => ?_; clear h29
     refine pl_nil ?_
     refine co_then ?_
     refine ⟨(l.length - (i + 1)), by omega, ?_⟩
     exact ⟨i + 1, h30.sub ⟨rfl, rfl, rfl, rfl, rfl, trivial⟩, rfl, by omega, by first | (intro j hj; omega) | exact in_next (by assumption) (by assumption) (by omega), hB11⟩
    ·
     rw [hc27] at h26
     have hp31 : n = y23 := by first | simpa using hc27 | simpa [and_assoc] using hc27
     clear hc27
     refine co_true h26 rfl ?_
     refine co_seq ?_
     refine co_reg ?_
     refine pk0 (v := .int .i64 ((i : Nat) : Int)) h26 rfl fun a32 h32 => ?_; clear h26
     refine pk0 (v := .int .i64 ((i : Nat) : Int)) h32 rfl fun a33 h33 => ?_; clear h32
     refine pl_nil ?_
     refine co_then ?_
     refine wp_ret ?_
     refine co_blockR ?_
     refine co_thenR ?_
     refine co_thenR ?_
     refine co_blockR ?_
     refine co_thenR ?_
     refine co_ret1 h33 rfl rfl ?_
     exact ⟨_, rfl, by rw [decide_eq_true (by omega)]; exact inL_at (by assumption) (by assumption) (by omega), hB11⟩
set_option maxRecDepth 100000 in
theorem containsI_any (v : Value) (l : List Int) (n : Int) (w : World) (hs : SliceOf (intE .i64) 1 w v l) :
    Calls Try.prog 47 #[v, .int .i64 n] w fun e w' => e = .returned (.bool (inL l n)) ∧ Below w.heap.size w w' := by
 have hB0 := Below.refl w.heap.size w
 have hl_hs := sl_len hs
 refine co_enter (n := 9) Try.func47 rfl rfl rfl [(0, v), (1, .int .i64 n)] rfl (fun a h0 => ?_)
 refine co_seq ?_
 refine co_reg ?_
 refine pk0 (v := .bool false) h0 rfl fun a1 h1 => ?_; clear h0
 refine pl_nil ?_
 refine co_then ?_
 refine co_seq ?_
 refine co_reg ?_
 refine pk0 (v := v) h1 rfl fun a2 h2 => ?_; clear h1
 refine pk0 (v := .int .i64 n) h2 rfl fun a3 h3 => ?_; clear h2
 refine pw h3 rfl (op_call (args := #[v, .int .i64 n]) (R := fun res xw => ∃ j : Int, res = .int .i64 j ∧ decide (j ≥ 0) = inL l n ∧ Below w.heap.size w xw) rfl rfl rfl (by kernel_rfl) (by kernel_rfl) (Try.call72 _ _) (indexI_any v l n w hs) (by rintro e x ⟨j, rfl, hq7, hb8⟩; exact ⟨_, rfl, ⟨j, rfl, hq7, hb8⟩⟩)) ?_; clear h3
 rintro _ w5 a4 ⟨j6, rfl, hq7, hb8⟩ h4
 have hz9 := hb8.size
 refine pk0 (v := .bool (decide (j6 ≥ 0))) h4 rfl fun a10 h10 => ?_; clear h4
 refine pk0 (v := .bool (decide (j6 ≥ 0))) h10 rfl fun a11 h11 => ?_; clear h10
 refine pl_nil ?_
 refine co_then ?_
 refine wp_ret ?_
 refine co_ret1 h11 rfl rfl ?_
 have hB12 := hb_call hB0 hb8
 exact ⟨ret_bool (by assumption), hB12⟩
set_option maxRecDepth 100000 in
theorem idAt0_any (ep : Int) (fl : Int) (mv : Value) (ms : List MemT) (w : World) (hs : SliceOf memE 2 w mv ms) :
    Calls Try.prog 73 #[.agg #[.int .i64 ep, mv, .int .u64 fl], .int .i64 0] w fun e w' => e = .returned (.int .i64 (headI ms)) ∧ Below w.heap.size w w' := by
 have hB0 := Below.refl w.heap.size w
 have hl_hs := sl_len hs
 refine co_enter (n := 20) Try.func73 rfl rfl rfl [(0, .agg #[.int .i64 ep, mv, .int .u64 fl]), (1, .int .i64 0)] rfl (fun a h0 => ?_)
 refine co_seq ?_
 refine co_reg ?_
 refine pw h0 rfl (op_new (v := fun N => pt N 0) (T := 32) (cs := #[.int .i64 ep, mv, .int .u64 fl]) (by kernel_rfl) (by kernel_rfl) (by kernel_rfl)) ?_; clear h0
 rintro _ w2 a1 ⟨N3, rfl, hN6, hz7, hk5, hg4⟩ h1
 have hz8 := hg4.size
 try dsimp only at h1
 refine pk0 (v := .int .i64 0) h1 rfl fun a9 h9 => ?_; clear h1
 refine pl_nil ?_
 refine co_then ?_
 refine co_seq ?_
 refine co_seq ?_
 refine co_reg ?_
 refine pk0 (v := .int .i64 0) h9 rfl fun a10 h10 => ?_; clear h9
 refine pk0 (v := .bool (decide (0 < 0))) h10 rfl fun a11 h11 => ?_; clear h10
 refine pk0 (v := .bool (decide (0 < 0))) h11 rfl fun a12 h12 => ?_; clear h11
 have hc13 : (decide (0 < 0)) = false := decide_eq_false (by omega)
 rw [hc13] at h12; clear hc13
 refine pk0 (v := .int .i64 0) h12 rfl fun a14 h14 => ?_; clear h12
 refine pk0 (v := pt N3 1) h14 rfl fun a15 h15 => ?_; clear h14
 refine pk (v := mv) h15 rfl (rn_load1 rfl rfl Try.isAgg30 (hk5.cell rfl)) fun a16 h16 => ?_; clear h15
 have hB17 := hb_new hB0 hg4
 refine pk (v := .int .i64 ((ms.length : Nat) : Int)) h16 rfl (rn_len rfl rfl Try.underlying30 (hs.below hB17)) fun a18 h18 => ?_; clear h16
 refine pk0 (v := .bool (decide (0 ≥ ((ms.length : Nat) : Int)))) h18 rfl fun a19 h19 => ?_; clear h18
 refine pk0 (v := .bool (decide (0 ≥ ((ms.length : Nat) : Int)))) h19 rfl fun a20 h20 => ?_; clear h19
 refine pl_nil ?_
 refine co_then ?_
 cases hc21 : (decide (0 ≥ ((ms.length : Nat) : Int)))
 ·
  rw [hc21] at h20
  have hp22 : ¬ (0 ≥ ((ms.length : Nat) : Int)) := of_decide_eq_false hc21
  clear hc21
  refine co_false h20 rfl ?_
  refine wp_skip ?_
  refine co_then ?_
  refine co_seq ?_
  refine co_reg ?_
  refine pk0 (v := pt N3 1) h20 rfl fun a23 h23 => ?_; clear h20
  refine pk (v := mv) h23 rfl (rn_load1 rfl rfl Try.isAgg30 (hk5.cell rfl)) fun a24 h24 => ?_; clear h23
  refine pk0 (v := .int .i64 0) h24 rfl fun a25 h25 => ?_; clear h24
  obtain ⟨y26, hy26⟩ : ∃ z, ms[0]? = some z := ⟨_, List.getElem?_eq_getElem (by first | omega | (simp; done) | (simp; omega))⟩
  refine pk (v := pt (blkOf mv) (offOf mv + 0 * 2)) h25 rfl (rn_index rfl rfl rfl Try.underlying30 Try.sizeOf102 (hs.below hB17) (by omega) (by first | omega | (simp; done) | (simp; omega))) fun a27 h27 => ?_; clear h25
  refine pk0 (v := pt (blkOf mv) (offOf mv + 0 * 2)) h27 rfl fun a28 h28 => ?_; clear h27
  refine pk (v := .int .i64 y26.1) h28 rfl (rn_load1 rfl rfl Try.isAgg3 ((sl_at (hs.below hB17) hy26) 0 _ rfl)) fun a29 h29 => ?_; clear h28
  refine pk0 (v := .int .i64 y26.1) h29 rfl fun a30 h30 => ?_; clear h29
  refine pl_nil ?_
  refine co_then ?_
  refine wp_ret ?_
  refine co_ret1 h30 rfl rfl ?_
  exact ⟨ret_int (by first | exact headI_y (by assumption) | exact headI_0 (by omega)), hB17⟩
 ·
  rw [hc21] at h20
  have hp31 : 0 ≥ ((ms.length : Nat) : Int) := of_decide_eq_true hc21
  clear hc21
  refine co_true h20 rfl ?_
  refine co_seq ?_
  refine co_reg ?_
  refine pk0 (v := .int .i64 (-1)) h20 rfl fun a32 h32 => ?_; clear h20
  refine pl_nil ?_
  refine co_then ?_
  refine wp_ret ?_
  refine co_thenR ?_
  refine co_ret1 h32 rfl rfl ?_
  exact ⟨ret_int (by first | exact headI_y (by assumption) | exact headI_0 (by omega)), hB17⟩
set_option maxRecDepth 100000 in
theorem headP_any (ep : Int) (fl : Int) (mv : Value) (ms : List MemT) (w : World) (hs : SliceOf memE 2 w mv ms) :
    Calls Try.prog 48 #[.agg #[.int .i64 ep, mv, .int .u64 fl]] w fun e w' => e = .returned (.int .i64 (headI ms)) ∧ Below w.heap.size w w' := by
 have hB0 := Below.refl w.heap.size w
 have hl_hs := sl_len hs
 refine co_enter (n := 5) Try.func48 rfl rfl rfl [(0, .agg #[.int .i64 ep, mv, .int .u64 fl])] rfl (fun a h0 => ?_)
 refine co_seq ?_
 refine co_reg ?_
 refine pw h0 rfl (op_new (v := fun N => pt N 0) (T := 32) (cs := #[.int .i64 ep, mv, .int .u64 fl]) (by kernel_rfl) (by kernel_rfl) (by kernel_rfl)) ?_; clear h0
 rintro _ w2 a1 ⟨N3, rfl, hN6, hz7, hk5, hg4⟩ h1
 have hz8 := hg4.size
 try dsimp only at h1
 refine pk0 (v := .int .i64 0) h1 rfl fun a9 h9 => ?_; clear h1
 refine pl_nil ?_
 refine co_then ?_
 refine co_seq ?_
 refine co_reg ?_
 refine pk (v := .agg #[.int .i64 ep, mv, .int .u64 fl]) h9 rfl (rn_loadN rfl rfl Try.underlying32 rfl (by kernel_rfl) hk5.all) fun a10 h10 => ?_; clear h9
 have hB13 := hb_new hB0 hg4
 refine pw h10 rfl (op_call (args := #[.agg #[.int .i64 ep, mv, .int .u64 fl], .int .i64 0]) (R := fun res xw => res = .int .i64 (headI ms) ∧ Below w2.heap.size w2 xw) rfl rfl rfl (by kernel_rfl) (by kernel_rfl) (Try.call73 _ _) (idAt0_any ep fl mv ms w2 (hs.below hB13)) (by rintro e x ⟨rfl, hb14⟩; exact ⟨_, rfl, ⟨rfl, hb14⟩⟩)) ?_; clear h10
 rintro _ w12 a11 ⟨rfl, hb14⟩ h11
 have hz15 := hb14.size
 refine pk0 (v := .int .i64 (headI ms)) h11 rfl fun a16 h16 => ?_; clear h11
 refine pl_nil ?_
 refine co_then ?_
 refine wp_ret ?_
 refine co_ret1 h16 rfl rfl ?_
 have hB17 := hb_call hB13 hb14
 exact ⟨rfl, hB17⟩
set_option maxRecDepth 100000 in
theorem memberIds_any (ep : Int) (fl : Int) (mv : Value) (ms : List MemT) (v : Value) (ids : List Int) (w : World) (hs : SliceOf memE 2 w mv ms) (hs2 : SliceOf (intE .i64) 1 w v ids) :
    Calls Try.prog 46 #[.agg #[.int .i64 ep, mv, .int .u64 fl], v] w fun e w' => e = .returned (.bool (memIds ms ids)) ∧ Below w.heap.size w w' := by
 have hB0 := Below.refl w.heap.size w
 have hl_hs := sl_len hs
 have hl_hs2 := sl_len hs2
 refine co_enter (n := 19) Try.func46 rfl rfl rfl [(0, .agg #[.int .i64 ep, mv, .int .u64 fl]), (1, v)] rfl (fun a h0 => ?_)
 refine co_seq ?_
 refine co_reg ?_
 refine pw h0 rfl (op_new (v := fun N => pt N 0) (T := 32) (cs := #[.int .i64 ep, mv, .int .u64 fl]) (by kernel_rfl) (by kernel_rfl) (by kernel_rfl)) ?_; clear h0
 rintro _ w2 a1 ⟨N3, rfl, hN6, hz7, hk5, hg4⟩ h1
 have hz8 := hg4.size
 try dsimp only at h1
 refine pk0 (v := .bool false) h1 rfl fun a9 h9 => ?_; clear h1
 refine pl_nil ?_
 refine co_then ?_
 refine co_seq ?_
 refine co_seq ?_
 refine co_reg ?_
 refine pk0 (v := v) h9 rfl fun a10 h10 => ?_; clear h9
 have hB11 := hb_new hB0 hg4
 refine pk (v := .int .i64 ((ids.length : Nat) : Int)) h10 rfl (rn_len rfl rfl Try.underlying33 (hs2.below hB11)) fun a12 h12 => ?_; clear h10
 refine pk0 (v := .int .i64 0) h12 rfl fun a13 h13 => ?_; clear h12
 refine pl_nil ?_
 refine co_then ?_
 refine wp_block ?_
 have h14 : Slots 19 [(2, pt N3 0), (7, v), (8, .int .i64 ((ids.length : Nat) : Int)), (9, .int .i64 0)] _ := h13.sub ⟨rfl, rfl, rfl, rfl, trivial⟩; clear h13
 refine co_loop (fun mm a x => ∃ (k : Nat), Slots 19 [(2, pt N3 0), (7, v), (8, .int .i64 ((ids.length : Nat) : Int)), (9, .int .i64 ((k : Nat) : Int))] a ∧ mm = ids.length - k ∧ (k ≤ ids.length) ∧ (memIds ms (ids.take k) = true) ∧ Below w.heap.size w x ∧ Blk x N3 32 #[.int .i64 ep, mv, .int .u64 fl]) (ids.length - 0) ?_ ?_
 · exact ⟨0, h14.sub ⟨rfl, rfl, rfl, (slot_eq rfl (congrArg (Value.int .i64) (by first | rfl | omega))), trivial⟩, rfl, by omega, by first | rfl | exact memIds_next (by assumption) (by assumption) (by assumption), hB11, hk5⟩
 · rintro k15 a16 w17 ⟨k, h16, rfl, hi18, hi19, hB20, hk21⟩
   have hz22 := hB20.size
   have hl23 := hk21.lt
   refine co_seq ?_
   refine co_reg ?_
   refine pk0 (v := .bool (decide (((k : Nat) : Int) < ((ids.length : Nat) : Int)))) h16 rfl fun a24 h24 => ?_; clear h16
   refine pl_nil ?_
   refine co_then ?_
   refine co_seq ?_
   cases hc25 : (decide (((k : Nat) : Int) < ((ids.length : Nat) : Int)))
   ·
    rw [hc25] at h24
    have hp26 : ¬ (((k : Nat) : Int) < ((ids.length : Nat) : Int)) := of_decide_eq_false hc25
    clear hc25
    refine co_false h24 rfl ?_
    refine wp_exit ?_
    refine co_thenX ?_
    refine co_thenX ?_
    refine co_blockX ?_
    refine co_then ?_
    refine co_seq ?_
    refine co_reg ?_
    refine pk0 (v := .bool true) h24 rfl fun a27 h27 => ?_; clear h24
    refine pl_nil ?_
    refine co_then ?_
    refine wp_ret ?_
    refine co_ret1 h27 rfl rfl ?_
    exact ⟨ret_bool (by first | exact memIds_no (by assumption) (by assumption) | (have hq := (by assumption : memIds ms (ids.take k) = true); rw [List.take_of_length_le (by omega)] at hq; exact hq.symm)), hB20⟩
   ·
    rw [hc25] at h24
    have hp28 : ((k : Nat) : Int) < ((ids.length : Nat) : Int) := of_decide_eq_true hc25
    clear hc25
    refine co_true h24 rfl ?_
    refine wp_skip ?_
    refine co_then ?_
    refine co_seq ?_
    refine wp_block ?_
    refine co_seq ?_
    refine co_reg ?_
    obtain ⟨y29, hy29⟩ : ∃ z, ids[k]? = some z := ⟨_, List.getElem?_eq_getElem (by first | omega | (simp; done) | (simp; omega))⟩
    refine pk (v := pt (blkOf v) (offOf v + k * 1)) h24 rfl (rn_index rfl rfl rfl Try.underlying33 Try.sizeOf3 (hs2.below hB20) (by omega) (by first | omega | (simp; done) | (simp; omega))) fun a30 h30 => ?_; clear h24
    refine pk (v := .int .i64 y29) h30 rfl (rn_load1 rfl rfl Try.isAgg3 ((sl_at (hs2.below hB20) hy29) 0 _ rfl)) fun a31 h31 => ?_; clear h30
    refine pw h31 rfl (op_new (v := fun N => pt N 0) (T := 3) (cs := #[.int .i64 0]) (by kernel_rfl) (by kernel_rfl) (by kernel_rfl)) ?_; clear h31
    rintro _ w33 a32 ⟨N34, rfl, hN37, hz38, hk36, hg35⟩ h32
    have hz39 := hg35.size
    try dsimp only at h32
    refine pwD h32 rfl (op_store1 rfl rfl rfl rfl Try.sizeOf3 hk36 rfl) ?_; clear h32
    rintro _ w41 a40 ⟨hk42, hz43, hg44⟩ h40
    have hk42' : Blk w41 N34 3 #[.int .i64 y29] := hk42; clear hk42
    have hz45 := hg44.size
    refine pl_nil ?_
    refine co_then ?_
    refine co_seq ?_
    refine co_reg ?_
    refine pk0 (v := pt N3 1) h40 rfl fun a46 h46 => ?_; clear h40
    have hk47 := hk21.kept hg35 (by simp)
    have hk48 := hk47.kept hg44 (by simp; omega)
    refine pk (v := mv) h46 rfl (rn_load1 rfl rfl Try.isAgg30 (hk48.cell rfl)) fun a49 h49 => ?_; clear h46
    refine pk0 (v := .func (.func 71) #[] #[pt N34 0]) h49 rfl fun a50 h50 => ?_; clear h49
    have hB53 := hb_new hB20 hg35
    have hB54 := hb_at hB53 hg44 (by omega)
    refine pw h50 rfl (op_call (args := #[mv, .func (.func 71) #[] #[pt N34 0]]) (R := fun res xw => res = .bool (hasM ms y29) ∧ Below w41.heap.size w41 xw) rfl rfl rfl (by kernel_rfl) (by kernel_rfl) (Try.call70 _ _) (containsM_any mv ms y29 N34 w41 (hs.below hB54) (blk_part hk42' 0 rfl)) (by rintro e x ⟨rfl, hb55⟩; exact ⟨_, rfl, ⟨rfl, hb55⟩⟩)) ?_; clear h50
    rintro _ w52 a51 ⟨rfl, hb55⟩ h51
    have hz56 := hb55.size
    have hB58 := hb_call hB54 hb55
    cases hc57 : (hasM ms y29)
    ·
     rw [hc57] at h51
     refine pk0 (v := .bool true) h51 rfl fun a59 h59 => ?_; clear h51
     refine pl_nil ?_
     refine co_then ?_
     refine co_true h59 rfl ?_
     refine co_seq ?_
     refine co_reg ?_
     refine pk0 (v := .bool false) h59 rfl fun a60 h60 => ?_; clear h59
     refine pl_nil ?_
     refine co_then ?_
     refine wp_ret ?_
     refine co_blockR ?_
     refine co_thenR ?_
     refine co_thenR ?_
     refine co_blockR ?_
     refine co_thenR ?_
     refine co_ret1 h60 rfl rfl ?_
     exact ⟨ret_bool (by first | exact memIds_no (by assumption) (by assumption) | (have hq := (by assumption : memIds ms (ids.take k) = true); rw [List.take_of_length_le (by omega)] at hq; exact hq.symm)), hB58⟩
    ·
     rw [hc57] at h51
     refine pk0 (v := .bool false) h51 rfl fun a61 h61 => ?_; clear h51
     refine pl_nil ?_
     refine co_then ?_
     refine co_false h61 rfl ?_
     refine wp_skip ?_
     refine co_blockN ?_
     refine co_then ?_
     refine co_reg ?_
     refine pk (v := .int .i64 ((k + 1 : Nat) : Int)) h61 rfl (rn_arith' rfl rfl rfl rfl rfl rfl (IntWalk.i64_in _ (by omega)) (by omega)) fun a62 h62 => ?_; clear h61
     refine pk0 (v := .int .i64 ((k + 1 : Nat) : Int)) h62 rfl fun a63 h63 => ?_; clear h62
     refine pl_nil ?_
     refine co_then ?_
     refine ⟨(ids.length - (k + 1)), by omega, ?_⟩
     have hk64 := hk48.below hb55
     exact ⟨k + 1, h63.sub ⟨rfl, rfl, rfl, rfl, trivial⟩, rfl, by omega, by first | rfl | exact memIds_next (by assumption) (by assumption) (by assumption), hB58, hk64⟩
end Go.Proofs.Ytnjbnndpbegkdaa

/- append(nil, make([]T, n)...): a new row of zeros. Conditions: at most 1000. -/
namespace Go.Proofs.Ytnjbnndpbegkdaa
open Go Go.RowKit
set_option linter.unusedVariables false
set_option linter.unusedSimpArgs false

theorem run_append_make {P : Program} (w : World) (t tx ty e : TypeId) (i : TypeInfo) (z : Value) (ht : P.underlying t = some (.slice e)) (hx : P.underlying tx = some (.int .i64)) (hi : P.info? e = some i) (hz : i.zero = some z) (n : Nat) (h0 : 0 < n) (hn : n ≤ 1000) (hs : i.size = 1) (hb : i.bytes = 8) :
    (Builtin.append_ #[t, tx] ty #[.slice none 0 0, .int .i64 n]).run P w =
      .ok (.slice (some ⟨w.heap.size, 0, none⟩) n (grownCap w n 0 e))
        (w.drew.alloc (.cells (Builtin.zeroCells z.cells n ++ Builtin.zeroCells z.cells (grownCap w n 0 e - n)) e)) := by
  have hw : IntKind.i64.wrap (n : Int) = n := IntWalk.i64_in _ ⟨by omega, by omega⟩
  have h1 : ¬ ((n : Int) < 0) := by omega
  have h2 : ¬ (281474976710656 < (n : Int) * 8) := by omega
  have h3 : ¬ (n = 0) := by omega
  have h63' : ¬ (9223372036854775807 < (n : Int)) := by omega
  have hg : Builtin.nextslicecap n 0 = n := by unfold Builtin.nextslicecap; rw [if_pos (by omega)]
  have h48' : ¬ (281474976710656 < n * 8) := by omega
  have hA : (asIntOf (.int .i64 (n : Int))).run P w = .ok (.i64, (n : Int)) w := rfl
  have h4 : ¬ ((n : Int) ≤ 0) := by omega
  have h5 : max (n : Int) 0 = n := by omega
  simp [Builtin.append_, hA, h4, h5, run_underlying ht, run_underlying hx, sizeOf, typeInfo, zeroValue, hi, hz, hs, hb, hw, h1, h2, h3, h63', hg, h48', Question.forced, newRow, grownCap, asInt, Builtin.firstCells]
end Go.Proofs.Ytnjbnndpbegkdaa

/- slices.Grow of nothing, for ints: a new row with no entries. Conditions: at most 1000. -/
namespace Go.Proofs.Ytnjbnndpbegkdaa
open Go Go.RowKit
set_option linter.unusedVariables false
set_option linter.unusedSimpArgs false

section
variable {P : Program} {n : Nat} {m : List (Nat × Value)} {w : World} {o : Oper}
theorem zeros_flat (z : Value) (h : z.cells = #[z]) (n : Nat) : (Builtin.zeroCells z.cells n).toList = List.replicate n z := by
  apply List.ext_getElem
  · rw [Array.length_toList, size_zeroCells, h]; simp
  · intro i h1 h2
    rw [List.getElem_replicate]
    simp [Builtin.zeroCells, h, Nat.mod_one]
/-- append(nothing, as many zeros) -/
theorem op_appendMk {s q : Operand} {t tx e : TypeId} (ho : o.op = .call { callee := .builtin .append, args := #[s, q], argTypes := #[t, tx] })
    (ht : P.underlying t = some (.slice e)) (hx : P.underlying tx = some (.int .i64)) (hi : (P.info? e).map (fun i => (i.zero, i.size, i.bytes)) = some (some (.int .i64 0), 1, 8))
    (hs : ev m s = some (.slice none 0 0)) {k : Nat} (hq : ev m q = some (.int .i64 (k : Int))) (h0 : 0 < k) (hk : k ≤ 1000) :
    Op1 P n m o w (fun u x => x.ownsRow w.heap.size e 1 u (List.replicate k (0 : Int)).length ((List.replicate k (0 : Int)).flatMap (intE .i64)) ∧ w.grownBy x none) := by
  intro a ha K Q hN
  obtain ⟨i0, hii, hz0, hz1, hz2⟩ := info_parts hi
  have hr := run_append_make (P := P) w t tx o.type e i0 (.int .i64 0) ht hx hii hz0 k h0 hk hz1 hz2
  unfold Oper.wp execOp
  simp only [ho, resolve, invoke, builtin, Sem.run_bind, Sem.run_pure, Result.andThen_ok, List.map_toArray, List.map_cons, List.map_nil, ha.ev hs, ha.ev hq, hr]
  refine hN _ _ ⟨?_, ⟨rfl, rfl, rfl, by simp, fun j hj _ => heap_alloc_old w.drew _ hj⟩⟩
  have hge := grownCap_ge w k 0 e
  have hcm : grownCap w k 0 e ≤ maxLen := grownCap_le_maxLen w k 0 e (by unfold maxLen; omega)
  have hfl : (List.replicate k (0 : Int)).flatMap (intE .i64) = List.replicate k (.int .i64 0) := by
    clear hN hr hge hcm h0 hk hq
    induction k with
    | zero => rfl
    | succ k ih => rw [List.replicate_succ, List.flatMap_cons, ih, List.replicate_succ]; rfl
  rw [hfl, List.length_replicate]
  refine ⟨by rw [List.length_replicate]; omega, .inr ⟨w.heap.size, _, _, rfl, Nat.le_refl _, heap_alloc_new w.drew _, hge, hcm, ?_, ?_⟩⟩
  · simp only [Array.size_append, size_zeroCells]
    show k * 1 + (grownCap w k 0 e - k) * 1 = grownCap w k 0 e * 1
    omega
  · rw [Array.toList_append, zeros_flat _ rfl, zeros_flat _ rfl, List.take_append_of_le_length (by rw [List.length_replicate]; omega), List.take_of_length_le (by rw [List.length_replicate]; omega)]
end
set_option maxRecDepth 100000 in
theorem growNil (n : Nat) (hn : n ≤ 1000) (w : World) :
    Calls Try.prog 74 #[.slice none 0 0, .int .i64 (n : Int)] w fun e w' => ∃ u, e = .returned u ∧ w'.ownsRow w.heap.size 3 1 u ([] : List Int).length (([] : List Int).flatMap (intE .i64)) ∧ Below w.heap.size w w' := by
 refine co_enter (n := 27) Try.func74 rfl rfl rfl [(0, .slice none 0 0), (1, .int .i64 (n : Int))] rfl (fun a h => ?_)
 refine co_seq ?_
 refine co_reg ?_
 refine pk0 (v := .slice none 0 0) h rfl fun _ h => ?_
 refine pl_nil ?_
 refine co_then ?_
 refine co_seq ?_
 refine co_seq ?_
 refine co_reg ?_
 refine pk0 (v := .int .i64 (n : Int)) h rfl fun _ h => ?_
 refine pk0 (v := .bool (decide ((n : Int) < 0))) h rfl fun _ h => ?_
 refine pl_nil ?_
 refine co_then ?_
 rw [decide_eq_false (show ¬ ((n : Int) < 0) by omega)] at h
 refine co_false h rfl ?_
 refine wp_skip ?_
 refine co_then ?_
 refine co_seq ?_
 refine co_seq ?_
 refine co_reg ?_
 refine pk0 (v := .int .i64 (n : Int)) h rfl fun _ h => ?_
 refine pk0 (v := .slice none 0 0) h rfl fun _ h => ?_
 refine pk0 (v := .int .i64 0) h rfl fun _ h => ?_
 refine pk0 (v := .slice none 0 0) h rfl fun _ h => ?_
 refine pk0 (v := .int .i64 0) h rfl fun _ h => ?_
 refine pk0 (v := .int .i64 0) h rfl fun _ h => ?_
 refine pk (v := .int .i64 (n : Int)) h rfl (rn_arith' rfl rfl rfl rfl rfl rfl (IntWalk.i64_in _ (by omega)) (by omega)) fun _ h => ?_
 refine pk0 (v := .int .i64 (n : Int)) h rfl fun _ h => ?_
 refine pl_nil ?_
 refine co_then ?_
 refine co_seq ?_
 refine co_reg ?_
 refine pk0 (v := .int .i64 (n : Int)) h rfl fun _ h => ?_
 refine pk0 (v := .bool (decide ((n : Int) > 0))) h rfl fun _ h => ?_
 refine pl_nil ?_
 refine co_then ?_
 by_cases hp : (n : Int) > 0
 · rw [decide_eq_true hp] at h
   refine co_true h rfl ?_
   refine co_reg ?_
   refine pk0 (v := .slice none 0 0) h rfl fun _ h => ?_
   refine pk0 (v := .slice none 0 0) h rfl fun _ h => ?_
   refine pk0 (v := .int .i64 0) h rfl fun _ h => ?_
   refine pk (v := .slice none 0 0) h rfl (rn_sliceTo (enc := intE .i64) (l := []) (j := 0) rfl rfl rfl Try.underlying33 (fun w => by rfl) (SliceOf.nil _ _ _) rfl (Nat.zero_le _)) fun _ h => ?_
   refine pk0 (v := .int .i64 (n : Int)) h rfl fun _ h => ?_
   refine pw h rfl (op_appendMk (k := n) rfl Try.underlying33 Try.underlying3 (by kernel_rfl) rfl rfl (by omega) hn) ?_
   rintro u w1 _ ⟨hr, hg⟩ h
   refine pk0 (v := .slice none 0 0) h rfl fun _ h => ?_
   refine pk0 (v := .int .i64 0) h rfl fun _ h => ?_
   refine pk (v := subV u 0 0 1) h rfl (rn_sliceTo (j := 0) rfl rfl rfl Try.underlying33 (fun w => by rfl) (row_sl hr (fun _ => rfl)) rfl (Nat.zero_le _)) fun _ h => ?_
   refine pk0 (v := subV u 0 0 1) h rfl fun _ h => ?_
   refine pl_nil ?_
   refine co_then ?_
   refine co_seq ?_
   refine co_reg ?_
   refine pk0 (v := subV u 0 0 1) h rfl fun _ h => ?_
   refine pk0 (v := subV u 0 0 1) h rfl fun _ h => ?_
   refine pl_nil ?_
   refine co_then ?_
   refine wp_ret ?_
   refine co_ret1 h rfl rfl ?_
   exact ⟨_, rfl, row_cut hr (fun _ => rfl) 0 (Nat.zero_le _) (.inr trivial), (Below.refl w.heap.size w).grown hg (Nat.le_refl _) (fun k e => by cases e)⟩
 · rw [decide_eq_false hp] at h
   refine co_false h rfl ?_
   refine wp_skip ?_
   refine co_then ?_
   refine co_seq ?_
   refine co_reg ?_
   refine pk0 (v := .slice none 0 0) h rfl fun _ h => ?_
   refine pk0 (v := .slice none 0 0) h rfl fun _ h => ?_
   refine pl_nil ?_
   refine co_then ?_
   refine wp_ret ?_
   refine co_ret1 h rfl rfl ?_
   exact ⟨_, rfl, World.ownsRow_nil _ _ _ _, Below.refl _ _⟩
end Go.Proofs.Ytnjbnndpbegkdaa

/- slices.Concat of two slices of ints. Conditions: at most 1000. -/
namespace Go.Proofs.Ytnjbnndpbegkdaa
open Go.RowKit Go.PlainAid
set_option linter.unusedVariables false
set_option linter.unusedSimpArgs false


theorem growNilI (i : Int) (h0 : 0 ≤ i) (h1 : i ≤ 1000) (w : World) :
    Calls Try.prog 74 #[.slice none 0 0, .int .i64 i] w fun e w' => ∃ u, e = .returned u ∧ w'.ownsRow w.heap.size 3 1 u ([] : List Int).length (([] : List Int).flatMap (intE .i64)) ∧ Below w.heap.size w w' := by
  obtain ⟨n, rfl⟩ := Int.eq_ofNat_of_zero_le h0
  exact growNil n (by omega) w

set_option maxRecDepth 100000 in
set_option maxHeartbeats 1600000 in
theorem concatI (N : Nat) (u : Value) (la : List Int) (v : Value) (lc : List Int) (w : World) (hb : Blk w N 33 #[u, v]) (hs : SliceOf (intE .i64) 1 w u la) (hs2 : SliceOf (intE .i64) 1 w v lc) (hlen : la.length + lc.length ≤ 1000) :
    Calls Try.prog 49 #[.slice (some ⟨N, 0, none⟩) 2 2] w fun e w' => ∃ (r : Value), e = .returned (r) ∧ w'.ownsRow w.heap.size 3 1 r (la ++ lc).length ((la ++ lc).flatMap (intE .i64)) ∧ Below w.heap.size w w' := by
 have hB0 := Below.refl w.heap.size w
 have hl_hb := hb.lt
 have hl_hs := sl_len hs
 have hl_hs2 := sl_len hs2
 refine co_enter (n := 36) Try.func49 rfl rfl rfl [(0, .slice (some ⟨N, 0, none⟩) 2 2)] rfl (fun a h0 => ?_)
 refine co_seq ?_
 refine co_reg ?_
 refine pk0 (v := .slice none 0 0) h0 rfl fun a1 h1 => ?_; clear h0
 refine pl_nil ?_
 refine co_then ?_
 refine co_seq ?_
 refine co_reg ?_
 refine pk0 (v := .int .i64 0) h1 rfl fun a2 h2 => ?_; clear h1
 refine pl_nil ?_
 refine co_then ?_
 refine co_seq ?_
 refine co_seq ?_
 refine co_reg ?_
 refine pk0 (v := .slice (some ⟨N, 0, none⟩) 2 2) h2 rfl fun a3 h3 => ?_; clear h2
 refine pk0 (v := .int .i64 2) h3 rfl fun a4 h4 => ?_; clear h3
 refine pk0 (v := .int .i64 0) h4 rfl fun a5 h5 => ?_; clear h4
 refine pl_nil ?_
 refine co_then ?_
 refine wp_block ?_
 refine wp_loop_rounds 3 ?_
 refine co_unroll (n := 2) ?_
 refine co_seq ?_
 refine co_reg ?_
 refine pk0 (v := .bool (decide (0 < 2))) h5 rfl fun a6 h6 => ?_; clear h5
 refine pl_nil ?_
 refine co_then ?_
 refine co_seq ?_
 have hc7 : (decide (0 < 2)) = true := decide_eq_true (by omega)
 rw [hc7] at h6; clear hc7
 refine co_true h6 rfl ?_
 refine wp_skip ?_
 refine co_then ?_
 refine co_seq ?_
 refine wp_block ?_
 refine co_seq ?_
 refine co_reg ?_
 refine pk0 (v := pt N 0) h6 rfl fun a8 h8 => ?_; clear h6
 refine pk (v := u) h8 rfl (rn_load1 rfl rfl Try.isAgg33 (hb.cell rfl)) fun a9 h9 => ?_; clear h8
 refine pk0 (v := u) h9 rfl fun a10 h10 => ?_; clear h9
 refine pl_nil ?_
 refine co_then ?_
 refine co_seq ?_
 refine co_reg ?_
 refine pk0 (v := .int .i64 0) h10 rfl fun a11 h11 => ?_; clear h10
 refine pk0 (v := u) h11 rfl fun a12 h12 => ?_; clear h11
 refine pk (v := .int .i64 ((la.length : Nat) : Int)) h12 rfl (rn_len rfl rfl Try.underlying33 hs) fun a13 h13 => ?_; clear h12
 refine pk (v := .int .i64 (0 + ((la.length : Nat) : Int))) h13 rfl (rn_arith rfl rfl rfl rfl rfl rfl (IntWalk.i64_in _ (by omega))) fun a14 h14 => ?_; clear h13
 refine pk0 (v := .int .i64 (0 + ((la.length : Nat) : Int))) h14 rfl fun a15 h15 => ?_; clear h14
 refine pl_nil ?_
 refine co_then ?_
 refine co_seq ?_
 refine co_reg ?_
 refine pk0 (v := .int .i64 (0 + ((la.length : Nat) : Int))) h15 rfl fun a16 h16 => ?_; clear h15
 refine pk0 (v := .bool (decide (0 + ((la.length : Nat) : Int) < 0))) h16 rfl fun a17 h17 => ?_; clear h16
 refine pl_nil ?_
 refine co_then ?_
 have hc18 : (decide (0 + ((la.length : Nat) : Int) < 0)) = false := decide_eq_false (by omega)
 rw [hc18] at h17; clear hc18
 refine co_false h17 rfl ?_
 refine wp_skip ?_
 refine co_blockN ?_
 refine co_then ?_
 refine co_reg ?_
 refine pk0 (v := .int .i64 1) h17 rfl fun a19 h19 => ?_; clear h17
 refine pk0 (v := .int .i64 1) h19 rfl fun a20 h20 => ?_; clear h19
 refine pl_nil ?_
 refine co_then ?_
 refine co_unroll (n := 1) ?_
 refine co_seq ?_
 refine co_reg ?_
 refine pk0 (v := .bool (decide (1 < 2))) h20 rfl fun a21 h21 => ?_; clear h20
 refine pl_nil ?_
 refine co_then ?_
 refine co_seq ?_
 have hc22 : (decide (1 < 2)) = true := decide_eq_true (by omega)
 rw [hc22] at h21; clear hc22
 refine co_true h21 rfl ?_
 refine wp_skip ?_
 refine co_then ?_
 refine co_seq ?_
 refine wp_block ?_
 refine co_seq ?_
 refine co_reg ?_
 refine pk0 (v := pt N 1) h21 rfl fun a23 h23 => ?_; clear h21
 refine pk (v := v) h23 rfl (rn_load1 rfl rfl Try.isAgg33 (hb.cell rfl)) fun a24 h24 => ?_; clear h23
 refine pk0 (v := v) h24 rfl fun a25 h25 => ?_; clear h24
 refine pl_nil ?_
 refine co_then ?_
 refine co_seq ?_
 refine co_reg ?_
 refine pk0 (v := .int .i64 (0 + ((la.length : Nat) : Int))) h25 rfl fun a26 h26 => ?_; clear h25
 refine pk0 (v := v) h26 rfl fun a27 h27 => ?_; clear h26
 refine pk (v := .int .i64 ((lc.length : Nat) : Int)) h27 rfl (rn_len rfl rfl Try.underlying33 hs2) fun a28 h28 => ?_; clear h27
 refine pk (v := .int .i64 ((0 + ((la.length : Nat) : Int)) + ((lc.length : Nat) : Int))) h28 rfl (rn_arith rfl rfl rfl rfl rfl rfl (IntWalk.i64_in _ (by omega))) fun a29 h29 => ?_; clear h28
 refine pk0 (v := .int .i64 ((0 + ((la.length : Nat) : Int)) + ((lc.length : Nat) : Int))) h29 rfl fun a30 h30 => ?_; clear h29
 refine pl_nil ?_
 refine co_then ?_
 refine co_seq ?_
 refine co_reg ?_
 refine pk0 (v := .int .i64 ((0 + ((la.length : Nat) : Int)) + ((lc.length : Nat) : Int))) h30 rfl fun a31 h31 => ?_; clear h30
 refine pk0 (v := .bool (decide ((0 + ((la.length : Nat) : Int)) + ((lc.length : Nat) : Int) < 0))) h31 rfl fun a32 h32 => ?_; clear h31
 refine pl_nil ?_
 refine co_then ?_
 have hc33 : (decide ((0 + ((la.length : Nat) : Int)) + ((lc.length : Nat) : Int) < 0)) = false := decide_eq_false (by omega)
 rw [hc33] at h32; clear hc33
 refine co_false h32 rfl ?_
 refine wp_skip ?_
 refine co_blockN ?_
 refine co_then ?_
 refine co_reg ?_
 refine pk0 (v := .int .i64 2) h32 rfl fun a34 h34 => ?_; clear h32
 refine pk0 (v := .int .i64 2) h34 rfl fun a35 h35 => ?_; clear h34
 refine pl_nil ?_
 refine co_then ?_
 refine co_unroll (n := 0) ?_
 refine co_seq ?_
 refine co_reg ?_
 refine pk0 (v := .bool (decide (2 < 2))) h35 rfl fun a36 h36 => ?_; clear h35
 refine pl_nil ?_
 refine co_then ?_
 refine co_seq ?_
 have hc37 : (decide (2 < 2)) = false := decide_eq_false (by omega)
 rw [hc37] at h36; clear hc37
 refine co_false h36 rfl ?_
 refine wp_exit ?_
 refine co_thenX ?_
 refine co_thenX ?_
 refine co_blockX ?_
 refine co_then ?_
 refine co_seq ?_
 refine co_reg ?_
 refine pk0 (v := .int .i64 ((0 + ((la.length : Nat) : Int)) + ((lc.length : Nat) : Int))) h36 rfl fun a38 h38 => ?_; clear h36
 refine pw h38 rfl (op_call (args := #[.slice none 0 0, .int .i64 ((0 + ((la.length : Nat) : Int)) + ((lc.length : Nat) : Int))]) (R := fun res xw => ∃ u : Value, res = u ∧ xw.ownsRow w.heap.size 3 1 u ([] : List Int).length (([] : List Int).flatMap (intE .i64)) ∧ Below w.heap.size w xw) rfl rfl rfl (by kernel_rfl) (by kernel_rfl) (Try.call74 _ _) (growNilI ((0 + ((la.length : Nat) : Int)) + ((lc.length : Nat) : Int)) (by omega) (by omega) w) (by rintro e x ⟨u, rfl, h⟩; exact ⟨_, rfl, u, rfl, h⟩)) ?_; clear h38
 rintro u41 w40 a39 ⟨_, rfl, hr42, hb43⟩ h39
 have hz44 := hb43.size
 refine pk0 (v := u41) h39 rfl fun a45 h45 => ?_; clear h39
 refine pl_nil ?_
 refine co_then ?_
 refine co_seq ?_
 refine co_seq ?_
 refine co_reg ?_
 refine pk0 (v := .slice (some ⟨N, 0, none⟩) 2 2) h45 rfl fun a46 h46 => ?_; clear h45
 refine pk0 (v := .int .i64 2) h46 rfl fun a47 h47 => ?_; clear h46
 refine pk0 (v := .int .i64 0) h47 rfl fun a48 h48 => ?_; clear h47
 refine pl_nil ?_
 refine co_then ?_
 refine wp_block ?_
 refine wp_loop_rounds 3 ?_
 refine co_unroll (n := 2) ?_
 refine co_seq ?_
 refine co_reg ?_
 refine pk0 (v := .bool (decide (0 < 2))) h48 rfl fun a49 h49 => ?_; clear h48
 refine pl_nil ?_
 refine co_then ?_
 refine co_seq ?_
 have hc50 : (decide (0 < 2)) = true := decide_eq_true (by omega)
 rw [hc50] at h49; clear hc50
 refine co_true h49 rfl ?_
 refine wp_skip ?_
 refine co_then ?_
 refine co_seq ?_
 refine wp_block ?_
 refine co_seq ?_
 refine co_reg ?_
 refine pk0 (v := pt N 0) h49 rfl fun a51 h51 => ?_; clear h49
 have hk52 := hb.below hb43
 refine pk (v := u) h51 rfl (rn_load1 rfl rfl Try.isAgg33 (hk52.cell rfl)) fun a53 h53 => ?_; clear h51
 refine pk0 (v := u) h53 rfl fun a54 h54 => ?_; clear h53
 refine pl_nil ?_
 refine co_then ?_
 refine co_reg ?_
 refine pk0 (v := u41) h54 rfl fun a55 h55 => ?_; clear h54
 refine pk0 (v := u) h55 rfl fun a56 h56 => ?_; clear h55
 have hB63 := hb_call hB0 hb43
 refine pw h56 rfl (op_appendSrc rfl w.heap.size 3 (z := .int .i64 0) (size := 1) (bytes := 8) Try.underlying33 (by kernel_rfl) rfl rfl rfl hr42 rfl (hs.below hB63) (fun y hy => ⟨(intE_len .i64) y, (intE_one .i64) y⟩) (by first | omega | (simp only [List.length_nil, List.length_append, List.length_cons, List.length_take, List.length_drop]; omega)) (by first | omega | (simp only [List.length_nil, List.length_append, List.length_cons, List.length_take, List.length_drop]; omega)) (by omega)) ?_; clear h56
 rintro v59 w58 a57 ⟨hr60, hg61⟩ h57
 have hr60' : w58.ownsRow w.heap.size 3 1 v59 ((([] : List Int) ++ la).length) ((([] : List Int) ++ la).flatMap (intE .i64)) := row_app hr60; clear hr60
 have hz64 := hg61.size
 refine pk0 (v := v59) h57 rfl fun a65 h65 => ?_; clear h57
 refine pl_nil ?_
 refine co_blockN ?_
 refine co_then ?_
 refine co_reg ?_
 refine pk0 (v := .int .i64 1) h65 rfl fun a66 h66 => ?_; clear h65
 refine pk0 (v := .int .i64 1) h66 rfl fun a67 h67 => ?_; clear h66
 refine pl_nil ?_
 refine co_then ?_
 refine co_unroll (n := 1) ?_
 refine co_seq ?_
 refine co_reg ?_
 refine pk0 (v := .bool (decide (1 < 2))) h67 rfl fun a68 h68 => ?_; clear h67
 refine pl_nil ?_
 refine co_then ?_
 refine co_seq ?_
 have hc69 : (decide (1 < 2)) = true := decide_eq_true (by omega)
 rw [hc69] at h68; clear hc69
 refine co_true h68 rfl ?_
 refine wp_skip ?_
 refine co_then ?_
 refine co_seq ?_
 refine wp_block ?_
 refine co_seq ?_
 refine co_reg ?_
 refine pk0 (v := pt N 1) h68 rfl fun a70 h70 => ?_; clear h68
 have hk71 := hk52.kept hg61 (own_neT hr42 hk52 (by decide))
 refine pk (v := v) h70 rfl (rn_load1 rfl rfl Try.isAgg33 (hk71.cell rfl)) fun a72 h72 => ?_; clear h70
 refine pk0 (v := v) h72 rfl fun a73 h73 => ?_; clear h72
 refine pl_nil ?_
 refine co_then ?_
 refine co_reg ?_
 refine pk0 (v := v59) h73 rfl fun a74 h74 => ?_; clear h73
 refine pk0 (v := v) h74 rfl fun a75 h75 => ?_; clear h74
 have hB82 := hb_row hB63 hr42 (by omega) hg61
 refine pw h75 rfl (op_appendSrc rfl w.heap.size 3 (z := .int .i64 0) (size := 1) (bytes := 8) Try.underlying33 (by kernel_rfl) rfl rfl rfl hr60' rfl (hs2.below hB82) (fun y hy => ⟨(intE_len .i64) y, (intE_one .i64) y⟩) (by first | omega | (simp only [List.length_nil, List.length_append, List.length_cons, List.length_take, List.length_drop]; omega)) (by first | omega | (simp only [List.length_nil, List.length_append, List.length_cons, List.length_take, List.length_drop]; omega)) (by omega)) ?_; clear h75
 rintro v78 w77 a76 ⟨hr79, hg80⟩ h76
 have hr79' : w77.ownsRow w.heap.size 3 1 v78 ((([] : List Int) ++ la ++ lc).length) ((([] : List Int) ++ la ++ lc).flatMap (intE .i64)) := row_app hr79; clear hr79
 have hz83 := hg80.size
 refine pk0 (v := v78) h76 rfl fun a84 h84 => ?_; clear h76
 refine pl_nil ?_
 refine co_blockN ?_
 refine co_then ?_
 refine co_reg ?_
 refine pk0 (v := .int .i64 2) h84 rfl fun a85 h85 => ?_; clear h84
 refine pk0 (v := .int .i64 2) h85 rfl fun a86 h86 => ?_; clear h85
 refine pl_nil ?_
 refine co_then ?_
 refine co_unroll (n := 0) ?_
 refine co_seq ?_
 refine co_reg ?_
 refine pk0 (v := .bool (decide (2 < 2))) h86 rfl fun a87 h87 => ?_; clear h86
 refine pl_nil ?_
 refine co_then ?_
 refine co_seq ?_
 have hc88 : (decide (2 < 2)) = false := decide_eq_false (by omega)
 rw [hc88] at h87; clear hc88
 refine co_false h87 rfl ?_
 refine wp_exit ?_
 refine co_thenX ?_
 refine co_thenX ?_
 refine co_blockX ?_
 refine co_then ?_
 refine co_seq ?_
 refine co_reg ?_
 refine pk0 (v := v78) h87 rfl fun a89 h89 => ?_; clear h87
 refine pk0 (v := v78) h89 rfl fun a90 h90 => ?_; clear h89
 refine pl_nil ?_
 refine co_then ?_
 refine wp_ret ?_
 refine co_ret1 h90 rfl rfl ?_
 have hB91 := hb_row hB82 hr60' (by omega) hg80
 exact ⟨_, rfl, (row_lows hr79' (by omega)), hB91⟩
end Go.Proofs.Ytnjbnndpbegkdaa

/- slices.Sort on a row of ints that the call owns: what the row holds behind it. Conditions: none. -/
namespace Go.Proofs.Ytnjbnndpbegkdaa
open Go.RowKit Go.Sort Go.Shelf

/-- The numbers, in order. -/
def srt (l : List Int) : List Int := l.mergeSort fun x y => decide (x ≤ y)
theorem srt_perm (l : List Int) : (srt l).Perm l := List.mergeSort_perm l _
theorem srt_len (l : List Int) : (srt l).length = l.length := (srt_perm l).length_eq
theorem srt_up (l : List Int) : (srt l).Pairwise (· ≤ ·) := by
  have h : (srt l).Pairwise (fun a b => decide (a ≤ b) = true) := List.pairwise_mergeSort (le := fun x y => decide (x ≤ y)) (fun a b c h1 h2 => by simp only [decide_eq_true_eq] at *; omega) (fun a b => by simp only [Bool.or_eq_true, decide_eq_true_eq]; omega) l
  exact h.imp (fun h => by simpa using h)
theorem srt_mem {l : List Int} {x : Int} : x ∈ srt l ↔ x ∈ l := (srt_perm l).mem_iff
theorem flat_intsI : ∀ l : List Int, l.flatMap (intE .i64) = l.map (Value.int .i64)
  | [] => rfl
  | x :: r => by rw [List.flatMap_cons, List.map_cons, flat_intsI r]; rfl
theorem holds_ints {w : World} {g : Nat} {e : TypeId} {cur : Array Value} {l : List Int} (hb : w.heap[g]? = some (.cells cur e (0, 0))) (ht : cur.toList.take l.length = l.map (Value.int .i64)) : Holds (Value.int .i64) w g 0 l.toArray := by
  intro j hj
  have hj' : j < l.length := by simpa using hj
  refine ⟨?_, by simp [World.frozen?, hb]⟩
  have h1 : (cur.toList.take l.length)[j]? = some (Value.int .i64 l[j]) := by rw [ht]; simp [hj']
  rw [List.getElem?_take_of_lt hj'] at h1
  simp only [World.cell?, hb, Nat.zero_add]
  simp only [Option.isSome_none, Bool.false_eq_true, if_false]
  rw [← Array.getElem?_toList, h1]
  simp [hj']
theorem heap_putI {w : World} {g n : Nat} {os : Array Obj} {cur : Array Value} {e : TypeId} {fr : Nat × Nat} (d : Array Int) (hb : w.heap[g]? = some (.cells cur e fr)) :
    (grow (putRow (Value.int .i64) (Sort.ahead w n) g 0 d) os).heap[g]? = some (.cells (putCells (Value.int .i64) 0 d cur) e fr) := by
  have hg : g < w.heap.size := (Array.getElem?_eq_some_iff.1 hb).1
  rw [heap_grow_old _ _ (by simpa using hg)]
  simp [putRow, mapBlock, Sort.ahead, Array.getElem?_modify, hb, onCells]
theorem grown_putI {w : World} {g n : Nat} {os : Array Obj} (d : Array Int) : w.grownBy (grow (putRow (Value.int .i64) (Sort.ahead w n) g 0 d) os) (some g) := by
  refine ⟨rfl, rfl, rfl, by simp, fun k hk hne => ?_⟩
  rw [heap_grow_old _ _ (by simpa using hk)]
  have : g ≠ k := fun e => hne (by rw [e])
  simp [putRow, mapBlock, Sort.ahead, Array.getElem?_modify, this]
theorem take_putI (cur : Array Value) (l : List Int) (h : l.length ≤ cur.size) : (putCells (Value.int .i64) 0 l.toArray cur).toList.take l.length = l.map (Value.int .i64) := by
  apply List.ext_getElem?
  intro j
  by_cases hj : j < l.length
  · rw [List.getElem?_take_of_lt hj, Array.getElem?_toList]
    simp [putCells, hj, show j < cur.size by omega]
  · rw [List.getElem?_take_eq_none (by omega), List.getElem?_eq_none (by simp; omega)]
theorem sortI_any (v : Value) (l : List Int) (base : Nat) (e : TypeId) (w : World) (h : w.ownsRow base e 1 v l.length (l.flatMap (intE .i64))) (hn : v ≠ .slice none 0 0) (hl : l.length < 4611686018427387904) :
    Calls Try.prog 50 #[v] w fun e1 w' => e1 = .returned (.tuple #[]) ∧ w'.ownsRow base e 1 v (srt l).length ((srt l).flatMap (intE .i64)) ∧ w.grownBy w' v.ownBlock := by
  obtain ⟨h0, h⟩ := h
  rcases h with ⟨rfl, _⟩ | ⟨g, cap, cur, rfl, hbase, hb, h1, h2, h3, h4⟩
  · exact absurd rfl hn
  rw [flat_intsI, Nat.mul_one] at h4
  have hH := holds_ints hb h4
  refine (Any.slices_Sort_int Try.laysI g 0 cap l w hH (Array.getElem?_eq_some_iff.1 hb).1 hl).mono ?_
  rintro e1 w' ⟨rfl, n, os, rfl⟩
  have hle : (srt l).length = l.length := srt_len l
  have hcs : l.length ≤ cur.size := by rw [h3, Nat.mul_one]; exact h1
  refine ⟨rfl, ⟨by rw [flat_intsI]; simp, .inr ⟨g, cap, _, by rw [hle], hbase, heap_putI _ hb, by rw [hle]; exact h1, h2, by simp [putCells, h3], ?_⟩⟩, grown_putI _⟩
  rw [flat_intsI, Nat.mul_one]
  exact take_putI cur (srt l) (by rw [hle]; exact hcs)
end Go.Proofs.Ytnjbnndpbegkdaa

/- slices.Compact on a row of ints that the call owns. Conditions: none. -/
namespace Go.Proofs.Ytnjbnndpbegkdaa
open Go.RowKit Go.Sort Go.Shelf
set_option linter.unusedVariables false

/-- Without those that are behind an equal one. -/
def cpt (l : List Int) : List Int := Lib.compact l
theorem cpt_len (l : List Int) : (cpt l).length ≤ l.length := by
  unfold cpt Lib.compact Lib.compactUpTo
  rw [List.length_map]
  exact Nat.le_trans (List.length_filter_le _ _) (by simp)
theorem cpt_mem {l : List Int} {x : Int} : x ∈ cpt l ↔ x ∈ l := by
  unfold cpt Lib.compact Lib.compactUpTo
  simp only [List.mem_map, List.mem_filter, List.mem_range]
  constructor
  · rintro ⟨j, ⟨hj, _⟩, rfl⟩
    have hj' : j < l.length := by simpa using hj
    simp [hj']
  · intro h
    obtain ⟨k, hk, e⟩ := List.getElem_of_mem h
    have : ∀ k, ∀ hk : k < l.length, l[k] = x → ∃ j, j < l.length ∧ Lib.keeps l.toArray j = true ∧ l.toArray[j]! = x := by
      intro k
      induction k with
      | zero => intro hk e; exact ⟨0, hk, by simp [Lib.keeps], by simp [hk, e]⟩
      | succ k ih =>
        intro hk e
        by_cases q : l[k]'(by omega) = x
        · exact ih (by omega) q
        · refine ⟨k + 1, hk, ?_, by simp [hk, e]⟩
          simp only [Lib.keeps, decide_eq_true_eq]
          right
          simp only [List.getElem!_toArray, Nat.add_sub_cancel]
          rw [getElem!_pos l (k + 1) hk, getElem!_pos l k (by omega), e]
          exact fun h => q h.symm
    obtain ⟨j, h1, h2, h3⟩ := this k hk e
    exact ⟨j, ⟨by simpa using h1, h2⟩, h3⟩
theorem compactI_any (v : Value) (l : List Int) (base : Nat) (e : TypeId) (w : World) (h : w.ownsRow base e 1 v l.length (l.flatMap (intE .i64))) (hn : v ≠ .slice none 0 0) (hl : l.length ≤ 9223372036854775807) :
    Calls Try.prog 51 #[v] w fun e1 w' => ∃ u, e1 = .returned u ∧ w'.ownsRow base e 1 u (cpt l).length ((cpt l).flatMap (intE .i64)) ∧ w.grownBy w' v.ownBlock := by
  obtain ⟨h0, h⟩ := h
  rcases h with ⟨rfl, _⟩ | ⟨g, cap, cur, rfl, hbase, hb, h1, h2, h3, h4⟩
  · exact absurd rfl hn
  rw [flat_intsI, Nat.mul_one] at h4
  have hH := holds_ints hb h4
  refine (Any.slices_Compact_int Try.laysC g 0 cap l w hH hl h1).mono ?_
  rintro e1 w' ⟨rfl, q, rfl⟩
  have hle : (cpt l).length ≤ l.length := cpt_len l
  have hcs : l.length ≤ cur.size := by rw [h3, Nat.mul_one]; exact h1
  have hL : (cpt l ++ List.replicate (l.length - (cpt l).length) 0).length = l.length := by rw [List.length_append, List.length_replicate]; omega
  have ht := take_putI cur (cpt l ++ List.replicate (l.length - (cpt l).length) 0) (by rw [hL]; exact hcs)
  refine ⟨_, rfl, ⟨by rw [flat_intsI]; simp, .inr ⟨g, cap, _, rfl, hbase, heap_putI (os := #[]) _ hb, Nat.le_trans hle h1, h2, by simp [putCells, h3], ?_⟩⟩, grown_putI (os := #[]) _⟩
  rw [flat_intsI, Nat.mul_one]
  have h5 := congrArg (List.take (cpt l).length) ht
  rw [List.take_take, hL, Nat.min_eq_left hle] at h5
  refine h5.trans ?_
  rw [← List.map_take, List.take_left]
end Go.Proofs.Ytnjbnndpbegkdaa

/- Package mstate: trust. Conditions: at most 1000 in all, not none. -/
namespace Go.Proofs.Ytnjbnndpbegkdaa
open Go.RowKit Go.PlainAid
set_option linter.unusedVariables false
set_option linter.unusedSimpArgs false


/-- What trusting so many comes to: the answer, who is trusted. -/
def trF (ms : List MemT) (lg ids : List Int) : Int × List Int := if memIds ms ids = true then (0, cpt (srt (lg ++ ids))) else (7, lg)
theorem row_nnT {w : World} {base : Nat} {T : TypeId} {v : Value} {l : List Int} (h : w.ownsRow base T 1 v l.length (l.flatMap (intE .i64))) (hl : 0 < l.length) : v ≠ .slice none 0 0 := by
  rintro rfl
  rcases h.2 with ⟨_, h⟩ | ⟨g, cap, cur, h, _⟩
  · omega
  · cases h

set_option maxRecDepth 100000 in
set_option maxHeartbeats 1600000 in
theorem msTrust_any (b : Nat) (ep : Int) (cv : Value) (fl : Int) (lgv : Value) (hz : Int) (pv : Value) (tp : Int) (x0 : SdT) (x1 : SdT) (x2 : SdT) (ms : List MemT) (lg : List Int) (iv : Value) (ids : List Int) (w : World) (hb : Blk w b 66 #[.bool true, .int .i64 ep, cv, .int .u64 fl, lgv, .int .u64 hz, pv, .int .i64 tp, .bool x0.1, .int .i64 x0.2.1, .int .i64 x0.2.2.1, .int .i64 x0.2.2.2.1, .int .i64 x0.2.2.2.2, .bool x1.1, .int .i64 x1.2.1, .int .i64 x1.2.2.1, .int .i64 x1.2.2.2.1, .int .i64 x1.2.2.2.2, .bool x2.1, .int .i64 x2.2.1, .int .i64 x2.2.2.1, .int .i64 x2.2.2.2.1, .int .i64 x2.2.2.2.2]) (hcv : SliceOf memE 2 w cv ms) (hlgr : w.ownsRow 0 3 1 lgv lg.length (lg.flatMap (intE .i64))) (hid : SliceOf (intE .i64) 1 w iv ids) (hne : 0 < lg.length + ids.length) (hlen : lg.length + ids.length ≤ 1000) (hbc : ms ≠ [] → ∀ k, cv.ownBlock = some k → ¬ k = b) (hbi : ids ≠ [] → ∀ k, iv.ownBlock = some k → ¬ k = b) :
    Calls Try.prog 22 #[pt b 0, iv] w fun e w' => ∃ (lv2 : Value), e = .returned (.int .i64 ((trF ms lg ids).1)) ∧ Blk w' b 66 #[.bool true, .int .i64 ep, cv, .int .u64 fl, lv2, .int .u64 hz, pv, .int .i64 tp, .bool x0.1, .int .i64 x0.2.1, .int .i64 x0.2.2.1, .int .i64 x0.2.2.2.1, .int .i64 x0.2.2.2.2, .bool x1.1, .int .i64 x1.2.1, .int .i64 x1.2.2.1, .int .i64 x1.2.2.2.1, .int .i64 x1.2.2.2.2, .bool x2.1, .int .i64 x2.2.1, .int .i64 x2.2.2.1, .int .i64 x2.2.2.2.1, .int .i64 x2.2.2.2.2] ∧ w'.ownsRow 0 3 1 lv2 ((trF ms lg ids).2).length (((trF ms lg ids).2).flatMap (intE .i64)) ∧ But (fun q => q = b) w w' := by
 have hB0 := But.refl (fun q => q = b) w
 have hl_hb := hb.lt
 have hl_hcv := sl_len hcv
 have hl_hid := sl_len hid
 refine co_enter (n := 27) Try.func22 rfl rfl rfl [(0, pt b 0), (1, iv)] rfl (fun a h0 => ?_)
 refine co_seq ?_
 refine co_reg ?_
 refine pk0 (v := .int .i64 0) h0 rfl fun a1 h1 => ?_; clear h0
 refine pl_nil ?_
 refine co_then ?_
 refine co_seq ?_
 refine co_seq ?_
 refine co_reg ?_
 refine pk0 (v := pt b 0) h1 rfl fun a2 h2 => ?_; clear h1
 refine pk0 (v := pt b 0) h2 rfl fun a3 h3 => ?_; clear h2
 refine pk0 (v := pt b 1) h3 rfl fun a4 h4 => ?_; clear h3
 refine pk (v := .agg #[.int .i64 ep, cv, .int .u64 fl]) h4 rfl (rn_loadN rfl rfl Try.underlying32 rfl (by kernel_rfl) (blk_part hb 1 (by rfl))) fun a5 h5 => ?_; clear h4
 refine pk0 (v := iv) h5 rfl fun a6 h6 => ?_; clear h5
 refine pw h6 rfl (op_call (args := #[.agg #[.int .i64 ep, cv, .int .u64 fl], iv]) (R := fun res xw => res = .bool (memIds ms ids) ∧ Below w.heap.size w xw) rfl rfl rfl (by kernel_rfl) (by kernel_rfl) (Try.call46 _ _) (memberIds_any ep fl cv ms iv ids w hcv hid) (by rintro e x ⟨rfl, hb9⟩; exact ⟨_, rfl, ⟨rfl, hb9⟩⟩)) ?_; clear h6
 rintro _ w8 a7 ⟨rfl, hb9⟩ h7
 have hz10 := hb9.size
 have hB12 := fb_call hB0 hb9
 cases hc11 : (memIds ms ids)
 ·
  rw [hc11] at h7
  refine pk0 (v := .bool true) h7 rfl fun a13 h13 => ?_; clear h7
  refine pl_nil ?_
  refine co_then ?_
  refine co_true h13 rfl ?_
  refine co_seq ?_
  refine co_reg ?_
  refine pk0 (v := .int .i64 7) h13 rfl fun a14 h14 => ?_; clear h13
  refine pl_nil ?_
  refine co_then ?_
  refine wp_ret ?_
  refine co_thenR ?_
  refine co_ret1 h14 rfl rfl ?_
  have hk15 := hb.below hb9
  have hr16 := row_kept_new hlgr (below_grown hb9)
  have hA : trF ms lg ids = (7, lg) := by unfold trF; rw [if_neg (by simp_all)]
  exact ⟨lgv, by rw [hA], hk15, by rw [hA]; exact row_lows hr16 (Nat.zero_le _), hB12⟩
 ·
  rw [hc11] at h7
  refine pk0 (v := .bool false) h7 rfl fun a17 h17 => ?_; clear h7
  refine pl_nil ?_
  refine co_then ?_
  refine co_false h17 rfl ?_
  refine wp_skip ?_
  refine co_then ?_
  refine co_seq ?_
  refine co_reg ?_
  refine pk0 (v := pt b 0) h17 rfl fun a18 h18 => ?_; clear h17
  refine pk0 (v := pt b 0) h18 rfl fun a19 h19 => ?_; clear h18
  refine pk0 (v := pt b 4) h19 rfl fun a20 h20 => ?_; clear h19
  have hk21 := hb.below hb9
  refine pk (v := lgv) h20 rfl (rn_load1 rfl rfl Try.isAgg33 (hk21.cell rfl)) fun a22 h22 => ?_; clear h20
  refine pk0 (v := iv) h22 rfl fun a23 h23 => ?_; clear h22
  have hr24 := row_kept_new hlgr (below_grown hb9)
  refine pw h23 rfl (op_new (v := fun N => .slice (some ⟨N, 0, none⟩) 2 2) (T := 33) (cs := #[lgv, iv]) (by kernel_rfl) (by kernel_rfl) (by obtain ⟨_, _, eB0, _⟩ := (row_sl hr24 (intE_len .i64)); subst eB0; obtain ⟨_, _, eB1, _⟩ := (sl_butS hid hB12 hbi); subst eB1; kernel_rfl)) ?_; clear h23
  rintro _ w26 a25 ⟨N27, rfl, hN30, hz31, hk29, hg28⟩ h25
  have ha32 := row_fresh hr24 hN30
  have hz33 := hg28.size
  try dsimp only at h25
  have hr36 := row_kept_new hr24 hg28
  have hB37 := fb_new hB12 hg28
  refine pw h25 rfl (op_call (args := #[.slice (some ⟨N27, 0, none⟩) 2 2]) (R := fun res xw => ∃ r : Value, res = r ∧ xw.ownsRow w26.heap.size 3 1 r (lg ++ ids).length ((lg ++ ids).flatMap (intE .i64)) ∧ Below w26.heap.size w26 xw) rfl rfl rfl (by kernel_rfl) (by kernel_rfl) (Try.call49 _ _) (concatI N27 lgv lg iv ids w26 hk29 (row_sl hr36 (intE_len .i64)) (sl_butS hid hB37 hbi) (by first | omega | (simp; done) | (simp; omega))) (by rintro e x ⟨r, rfl, hq39, hb40⟩; exact ⟨_, rfl, ⟨r, rfl, hq39, hb40⟩⟩)) ?_; clear h25
  rintro r38 w35 a34 ⟨_, rfl, hq39, hb40⟩ h34
  have hz41 := hb40.size
  have hl42 := sl_len (row_sl hq39 (intE_len .i64))
  refine pk0 (v := r38) h34 rfl fun a43 h43 => ?_; clear h34
  refine pl_nil ?_
  refine co_then ?_
  refine co_seq ?_
  refine co_reg ?_
  refine pk0 (v := r38) h43 rfl fun a44 h44 => ?_; clear h43
  have hB47 := fb_call hB37 hb40
  have hk48 := hk21.kept hg28 (by simp)
  have hk49 := hk48.below hb40
  have hlT : (lg ++ ids).length = lg.length + ids.length := List.length_append
  have hnn := row_nnT hq39 (by omega)
  refine pw h44 rfl (op_call (args := #[r38]) (R := fun res xw => res = .tuple #[] ∧ xw.ownsRow w26.heap.size 3 1 r38 (srt (lg ++ ids)).length ((srt (lg ++ ids)).flatMap (intE .i64)) ∧ w35.grownBy xw (Value.ownBlock r38)) rfl rfl rfl (by kernel_rfl) (by kernel_rfl) (Try.call50 _ _) (sortI_any r38 (lg ++ ids) w26.heap.size 3 w35 hq39 hnn (by omega)) (by rintro e x ⟨rfl, h⟩; exact ⟨_, rfl, rfl, h⟩)) ?_; clear h44
  rintro _ w46 a45 ⟨rfl, hr50, hg51⟩ h45
  have hz52 := hg51.size
  have hk53 := hk29.below hb40
  have hlS := srt_len (lg ++ ids)
  refine pl_nil ?_
  refine co_then ?_
  refine co_seq ?_
  refine co_reg ?_
  refine pk0 (v := pt b 0) h45 rfl fun a54 h54 => ?_; clear h45
  refine pk0 (v := r38) h54 rfl fun a55 h55 => ?_; clear h54
  have hB58 := fb_row hB47 hq39 (by omega) hg51
  refine pw h55 rfl (op_call (args := #[r38]) (R := fun res xw => ∃ u : Value, res = u ∧ xw.ownsRow w26.heap.size 3 1 u (cpt (srt (lg ++ ids))).length ((cpt (srt (lg ++ ids))).flatMap (intE .i64)) ∧ w46.grownBy xw (Value.ownBlock r38)) rfl rfl rfl (by kernel_rfl) (by kernel_rfl) (Try.call51 _ _) (compactI_any r38 (srt (lg ++ ids)) w26.heap.size 3 w46 hr50 hnn (by omega)) (by rintro e x ⟨u, rfl, h⟩; exact ⟨_, rfl, u, rfl, h⟩)) ?_; clear h55
  rintro u59 w57 a56 ⟨_, rfl, hr60, hg61⟩ h56
  have hz62 := hg61.size
  have hk63 := hk49.kept hg51 (own_neT hq39 hk49 (by decide))
  have hk64 := hk53.kept hg51 (own_neT hq39 hk53 (by decide))
  refine pk0 (v := pt b 0) h56 rfl fun a65 h65 => ?_; clear h56
  refine pk0 (v := pt b 4) h65 rfl fun a66 h66 => ?_; clear h65
  have hk72 := hk63.kept hg61 (own_neT hr50 hk63 (by decide))
  refine pwD h66 rfl (op_store1 rfl rfl rfl (row_one hr60) Try.sizeOf33 hk72 rfl) ?_; clear h66
  rintro _ w68 a67 ⟨hk69, hz70, hg71⟩ h67
  have hk69' : Blk w68 b 66 #[.bool true, .int .i64 ep, cv, .int .u64 fl, u59, .int .u64 hz, pv, .int .i64 tp, .bool x0.1, .int .i64 x0.2.1, .int .i64 x0.2.2.1, .int .i64 x0.2.2.2.1, .int .i64 x0.2.2.2.2, .bool x1.1, .int .i64 x1.2.1, .int .i64 x1.2.2.1, .int .i64 x1.2.2.2.1, .int .i64 x1.2.2.2.2, .bool x2.1, .int .i64 x2.2.1, .int .i64 x2.2.2.1, .int .i64 x2.2.2.2.1, .int .i64 x2.2.2.2.2] := hk69; clear hk69
  have hz73 := hg71.size
  refine pl_nil ?_
  refine co_then ?_
  refine co_seq ?_
  refine co_reg ?_
  refine pk0 (v := .int .i64 0) h67 rfl fun a74 h74 => ?_; clear h67
  refine pl_nil ?_
  refine co_then ?_
  refine wp_ret ?_
  refine co_ret1 h74 rfl rfl ?_
  have hr75 := row_kept_at hr60 hg71 (own_neT hr60 hk72 (by decide))
  have hB76 := fb_row hB58 hr50 (by omega) hg61
  have hB77 := fb_at hB76 hg71 (fun hlt => by first | (exfalso; omega) | (simp; done) | simp_all)
  have hA : trF ms lg ids = (0, cpt (srt (lg ++ ids))) := by unfold trF; rw [if_pos (by assumption)]
  exact ⟨u59, by rw [hA], hk69', by rw [hA]; exact row_lows hr75 (Nat.zero_le _), hB77⟩
end Go.Proofs.Ytnjbnndpbegkdaa

/- Package mstate: follow. Conditions: at most 20 members. -/
namespace Go.Proofs.Ytnjbnndpbegkdaa
open Go.RowKit Go.PlainAid
set_option linter.unusedVariables false
set_option linter.unusedSimpArgs false


/-- What a configuration comes to that is told with so many trusted: the answer. -/
def fwF (ep cep : Int) (cms : List MemT) (ids : List Int) : Int := if cep ≤ ep then 18 else if memIds cms ids = false then 7 else if inL ids (headI cms) = false then 18 else 0

/-- .. and the state: the epoch, the floor, the members, who is trusted. -/
def fwS (ep fl : Int) (ms : List MemT) (lg : List Int) (cep cfl : Int) (cms : List MemT) (ids : List Int) : Int × Int × Int × List MemT × List Int := if fwF ep cep cms ids = 0 then (0, cep, cfl, cms, []) else (fwF ep cep cms ids, ep, fl, ms, lg)
theorem fwF_1 {ep cep : Int} {cms : List MemT} {ids : List Int} (h : cep ≤ ep) : fwF ep cep cms ids = 18 := by unfold fwF; rw [if_pos h]
theorem fwF_2 {ep cep : Int} {cms : List MemT} {ids : List Int} (h : ¬ cep ≤ ep) (h2 : memIds cms ids = false) : fwF ep cep cms ids = 7 := by unfold fwF; rw [if_neg h, if_pos h2]
theorem fwF_3 {ep cep : Int} {cms : List MemT} {ids : List Int} (h : ¬ cep ≤ ep) (h2 : memIds cms ids = true) (h3 : inL ids (headI cms) = false) : fwF ep cep cms ids = 18 := by unfold fwF; rw [if_neg h, if_neg (by rw [h2]; decide), if_pos h3]
theorem fwF_4 {ep cep : Int} {cms : List MemT} {ids : List Int} (h : ¬ cep ≤ ep) (h2 : memIds cms ids = true) (h3 : inL ids (headI cms) = true) : fwF ep cep cms ids = 0 := by unfold fwF; rw [if_neg h, if_neg (by rw [h2]; decide), if_neg (by rw [h3]; decide)]
theorem fwS_n {ep fl cep cfl : Int} {ms cms : List MemT} {lg ids : List Int} {e : Int} (h : fwF ep cep cms ids = e) (he : e ≠ 0) : fwS ep fl ms lg cep cfl cms ids = (e, ep, fl, ms, lg) := by unfold fwS; rw [h, if_neg he]
theorem fwS_y {ep fl cep cfl : Int} {ms cms : List MemT} {lg ids : List Int} (h : fwF ep cep cms ids = 0) : fwS ep fl ms lg cep cfl cms ids = (0, cep, cfl, cms, []) := by unfold fwS; rw [h, if_pos rfl]

set_option maxRecDepth 100000 in
theorem cloneM_any (v : Value) (l : List MemT) (w : World) (hs : SliceOf memE 2 w v l) (hlen : l.length ≤ 20) :
    Calls Try.prog 64 #[v] w fun e w' => ∃ (u : Value), e = .returned (u) ∧ w'.ownsRow w.heap.size 102 2 u l.length (l.flatMap memE) ∧ Below w.heap.size w w' := by
 have hB0 := Below.refl w.heap.size w
 have hl_hs := sl_len hs
 have hs' := hs; obtain ⟨ao, cap, hv, _, _, h3, _⟩ := hs'; subst hv; rcases ao with _ | ad
 · obtain ⟨hl0, hc0⟩ := h3 rfl; obtain rfl : l = [] := List.eq_nil_of_length_eq_zero hl0; subst hc0
   refine co_enter (n := 8) Try.func64 rfl rfl rfl [(0, .slice none 0 0)] rfl (fun a h0 => ?_)
   refine co_seq ?_
   refine co_reg ?_
   refine pk0 (v := .slice none 0 0) h0 rfl fun a1 h1 => ?_; clear h0
   refine pl_nil ?_
   refine co_then ?_
   refine co_seq ?_
   refine co_seq ?_
   refine co_reg ?_
   refine pk0 (v := .slice none 0 0) h1 rfl fun a2 h2 => ?_; clear h1
   refine pk0 (v := .bool true) h2 rfl fun a3 h3 => ?_; clear h2
   refine pl_nil ?_
   refine co_then ?_
   refine co_true h3 rfl ?_
   refine co_seq ?_
   refine co_reg ?_
   refine pk0 (v := .slice none 0 0) h3 rfl fun a4 h4 => ?_; clear h3
   refine pl_nil ?_
   refine co_then ?_
   refine wp_ret ?_
   refine co_thenR ?_
   refine co_ret1 h4 rfl rfl ?_
   exact ⟨_, rfl, (row_nilL _ _ _ _ _), hB0⟩
 · skip
   refine co_enter (n := 8) Try.func64 rfl rfl rfl [(0, .slice (some ad) l.length cap)] rfl (fun a h0 => ?_)
   refine co_seq ?_
   refine co_reg ?_
   refine pk0 (v := .slice none 0 0) h0 rfl fun a5 h5 => ?_; clear h0
   refine pl_nil ?_
   refine co_then ?_
   refine co_seq ?_
   refine co_seq ?_
   refine co_reg ?_
   refine pk0 (v := .slice (some ad) l.length cap) h5 rfl fun a6 h6 => ?_; clear h5
   refine pk0 (v := .bool false) h6 rfl fun a7 h7 => ?_; clear h6
   refine pl_nil ?_
   refine co_then ?_
   refine co_false h7 rfl ?_
   refine wp_skip ?_
   refine co_then ?_
   refine co_seq ?_
   refine co_reg ?_
   refine pw h7 rfl (op_new (v := fun N => .slice (some ⟨N, 0, none⟩) 0 0) (T := 102) (cs := #[]) (by kernel_rfl) (by kernel_rfl) (by kernel_rfl)) ?_; clear h7
   rintro _ w9 a8 ⟨N10, rfl, hN13, hz14, hk12, hg11⟩ h8
   have hz15 := hg11.size
   try dsimp only at h8
   refine pk0 (v := .slice (some ad) l.length cap) h8 rfl fun a16 h16 => ?_; clear h8
   have hr19 := row_of_blkL hk12 (Nat.le_refl _) 2 memE
   have hB24 := hb_new hB0 hg11
   refine pw h16 rfl (op_appendSrc rfl N10 102 (z := .agg #[.int .i64 0, .int .i64 0]) (size := 2) (bytes := 16) Try.underlying30 (by kernel_rfl) rfl rfl rfl hr19 rfl (hs.below hB24) (fun y hy => ⟨memE_len y, memE_one y⟩) (by first | omega | (simp only [List.length_nil, List.length_append, List.length_cons, List.length_take, List.length_drop]; omega)) (by first | omega | (simp only [List.length_nil, List.length_append, List.length_cons, List.length_take, List.length_drop]; omega)) (by omega)) ?_; clear h16
   rintro v20 w18 a17 ⟨hr21, hg22⟩ h17
   have hr21' : w18.ownsRow N10 102 2 v20 l.length (l.flatMap memE) := row_app (l := []) hr21; clear hr21
   have hz25 := hg22.size
   refine pk0 (v := v20) h17 rfl fun a26 h26 => ?_; clear h17
   refine pl_nil ?_
   refine co_then ?_
   refine wp_ret ?_
   refine co_ret1 h26 rfl rfl ?_
   have hB27 := hb_row hB24 hr19 (by omega) hg22
   exact ⟨_, rfl, (row_lows hr21' (by omega)), hB27⟩
set_option maxRecDepth 100000 in
theorem freshConf_any (ep : Int) (fl : Int) (v : Value) (ms : List MemT) (w : World) (hs : SliceOf memE 2 w v ms) (hlen : ms.length ≤ 20) :
    Calls Try.prog 37 #[.agg #[.int .i64 ep, v, .int .u64 fl]] w fun e w' => ∃ (u : Value), e = .returned (.agg #[.int .i64 ep, u, .int .u64 fl]) ∧ w'.ownsRow w.heap.size 102 2 u ms.length (ms.flatMap memE) ∧ Below w.heap.size w w' := by
 have hB0 := Below.refl w.heap.size w
 have hl_hs := sl_len hs
 refine co_enter (n := 8) Try.func37 rfl rfl rfl [(0, .agg #[.int .i64 ep, v, .int .u64 fl])] rfl (fun a h0 => ?_)
 refine co_seq ?_
 refine co_reg ?_
 refine pw h0 rfl (op_new (v := fun N => pt N 0) (T := 32) (cs := #[.int .i64 ep, v, .int .u64 fl]) (by kernel_rfl) (by kernel_rfl) (by kernel_rfl)) ?_; clear h0
 rintro _ w2 a1 ⟨N3, rfl, hN6, hz7, hk5, hg4⟩ h1
 have hz8 := hg4.size
 try dsimp only at h1
 refine pw h1 rfl (op_new (v := fun N => pt N 0) (T := 32) (cs := #[.int .i64 0, .slice none 0 0, .int .u64 0]) (by kernel_rfl) (by kernel_rfl) (by kernel_rfl)) ?_; clear h1
 rintro _ w10 a9 ⟨N11, rfl, hN14, hz15, hk13, hg12⟩ h9
 have hz16 := hg12.size
 try dsimp only at h9
 refine pl_nil ?_
 refine co_then ?_
 refine co_seq ?_
 refine co_reg ?_
 refine pk0 (v := pt N3 1) h9 rfl fun a17 h17 => ?_; clear h9
 have hk18 := hk5.kept hg12 (by simp)
 refine pk (v := v) h17 rfl (rn_load1 rfl rfl Try.isAgg30 (hk18.cell rfl)) fun a19 h19 => ?_; clear h17
 have hB22 := hb_new hB0 hg4
 have hB23 := hb_new hB22 hg12
 refine pw h19 rfl (op_call (args := #[v]) (R := fun res xw => ∃ u : Value, res = u ∧ xw.ownsRow w10.heap.size 102 2 u ms.length (ms.flatMap memE) ∧ Below w10.heap.size w10 xw) rfl rfl rfl (by kernel_rfl) (by kernel_rfl) (Try.call64 _ _) (cloneM_any v ms w10 (hs.below hB23) (by first | omega | (simp; done) | (simp; omega))) (by rintro e x ⟨u, rfl, hq25, hb26⟩; exact ⟨_, rfl, ⟨u, rfl, hq25, hb26⟩⟩)) ?_; clear h19
 rintro u24 w21 a20 ⟨_, rfl, hq25, hb26⟩ h20
 have hz27 := hb26.size
 have hl28 := sl_len (row_sl hq25 memE_len)
 refine pk0 (v := pt N3 1) h20 rfl fun a29 h29 => ?_; clear h20
 have hk35 := hk18.below hb26
 refine pwD h29 rfl (op_store1 rfl rfl rfl (row_one hq25) Try.sizeOf30 hk35 rfl) ?_; clear h29
 rintro _ w31 a30 ⟨hk32, hz33, hg34⟩ h30
 have hk32' : Blk w31 N3 32 #[.int .i64 ep, u24, .int .u64 fl] := hk32; clear hk32
 have hz36 := hg34.size
 refine pl_nil ?_
 refine co_then ?_
 refine co_seq ?_
 refine co_reg ?_
 refine pk (v := .agg #[.int .i64 ep, u24, .int .u64 fl]) h30 rfl (rn_loadN rfl rfl Try.underlying32 rfl (by kernel_rfl) hk32'.all) fun a37 h37 => ?_; clear h30
 have hr43 := row_kept_at hq25 hg34 (row_ne_lt hq25 (by omega))
 have hk44 := hk13.below hb26
 have hk45 := hk44.kept hg34 (by simp; omega)
 refine pwD h37 rfl (op_storeN rfl rfl rfl (all_cons rfl (all_cons (row_one hr43) (all_cons rfl all_nil))) (by kernel_rfl) hk45 rfl) ?_; clear h37
 rintro _ w39 a38 ⟨hk40, hz41, hg42⟩ h38
 have hk40' : Blk w39 N11 32 #[.int .i64 ep, u24, .int .u64 fl] := hk40; clear hk40
 have hz46 := hg42.size
 refine pl_nil ?_
 refine co_then ?_
 refine wp_ret ?_
 refine co_retC (Q := fun _ _ _ => True) h38 rfl rfl hk40' Try.underlying32 rfl (by kernel_rfl) ?_
 have hr47 := row_kept_at hr43 hg42 (row_ne_lt hr43 (by omega))
 have hB48 := hb_call hB23 hb26
 have hB49 := hb_at hB48 hg34 (by omega)
 have hB50 := hb_at hB49 hg42 (by omega)
 exact ⟨_, rfl, (row_lows hr47 (by omega)), hB50⟩
set_option maxRecDepth 100000 in
set_option maxHeartbeats 1600000 in
theorem msFollow_any (b : Nat) (ep : Int) (cv : Value) (fl : Int) (lgv : Value) (hz : Int) (pv : Value) (tp : Int) (x0 : SdT) (x1 : SdT) (x2 : SdT) (ms : List MemT) (lg : List Int) (cep : Int) (cfl : Int) (cmv : Value) (cms : List MemT) (iv : Value) (ids : List Int) (w : World) (hb : Blk w b 66 #[.bool true, .int .i64 ep, cv, .int .u64 fl, lgv, .int .u64 hz, pv, .int .i64 tp, .bool x0.1, .int .i64 x0.2.1, .int .i64 x0.2.2.1, .int .i64 x0.2.2.2.1, .int .i64 x0.2.2.2.2, .bool x1.1, .int .i64 x1.2.1, .int .i64 x1.2.2.1, .int .i64 x1.2.2.2.1, .int .i64 x1.2.2.2.2, .bool x2.1, .int .i64 x2.2.1, .int .i64 x2.2.2.1, .int .i64 x2.2.2.2.1, .int .i64 x2.2.2.2.2]) (hcvr : w.ownsRow 0 102 2 cv ms.length (ms.flatMap memE)) (hlgr : w.ownsRow 0 3 1 lgv lg.length (lg.flatMap (intE .i64))) (hcm : SliceOf memE 2 w cmv cms) (hid : SliceOf (intE .i64) 1 w iv ids) (hl20 : cms.length ≤ 20) (hbc : cms ≠ [] → ∀ k, cmv.ownBlock = some k → ¬ k = b) (hbi : ids ≠ [] → ∀ k, iv.ownBlock = some k → ¬ k = b) :
    Calls Try.prog 21 #[pt b 0, .agg #[.int .i64 cep, cmv, .int .u64 cfl], iv] w fun e w' => ∃ (cv2 : Value) (lv2 : Value), e = .returned (.int .i64 ((fwS ep fl ms lg cep cfl cms ids).1)) ∧ Blk w' b 66 #[.bool true, .int .i64 ((fwS ep fl ms lg cep cfl cms ids).2.1), cv2, .int .u64 ((fwS ep fl ms lg cep cfl cms ids).2.2.1), lv2, .int .u64 hz, pv, .int .i64 tp, .bool x0.1, .int .i64 x0.2.1, .int .i64 x0.2.2.1, .int .i64 x0.2.2.2.1, .int .i64 x0.2.2.2.2, .bool x1.1, .int .i64 x1.2.1, .int .i64 x1.2.2.1, .int .i64 x1.2.2.2.1, .int .i64 x1.2.2.2.2, .bool x2.1, .int .i64 x2.2.1, .int .i64 x2.2.2.1, .int .i64 x2.2.2.2.1, .int .i64 x2.2.2.2.2] ∧ w'.ownsRow 0 102 2 cv2 ((fwS ep fl ms lg cep cfl cms ids).2.2.2.1).length (((fwS ep fl ms lg cep cfl cms ids).2.2.2.1).flatMap memE) ∧ w'.ownsRow 0 3 1 lv2 ((fwS ep fl ms lg cep cfl cms ids).2.2.2.2).length (((fwS ep fl ms lg cep cfl cms ids).2.2.2.2).flatMap (intE .i64)) ∧ But (fun q => q = b) w w' := by
 have hB0 := But.refl (fun q => q = b) w
 have hl_hb := hb.lt
 have hl_hcm := sl_len hcm
 have hl_hid := sl_len hid
 refine co_enter (n := 32) Try.func21 rfl rfl rfl [(0, pt b 0), (1, .agg #[.int .i64 cep, cmv, .int .u64 cfl]), (2, iv)] rfl (fun a h0 => ?_)
 refine co_seq ?_
 refine co_reg ?_
 refine pw h0 rfl (op_new (v := fun N => pt N 0) (T := 32) (cs := #[.int .i64 cep, cmv, .int .u64 cfl]) (by kernel_rfl) (by kernel_rfl) (by kernel_rfl)) ?_; clear h0
 rintro _ w2 a1 ⟨N3, rfl, hN6, hz7, hk5, hg4⟩ h1
 have ha8 := row_fresh hlgr hN6
 have ha9 := row_fresh hcvr hN6
 have hz10 := hg4.size
 try dsimp only at h1
 refine pk0 (v := .int .i64 0) h1 rfl fun a11 h11 => ?_; clear h1
 refine pl_nil ?_
 refine co_then ?_
 refine co_seq ?_
 refine co_seq ?_
 refine dr_eq (by kernel_rfl) (fun w12 hg13 => ?_)
 have hz14 := hg13.size
 refine dk0 0 (v := pt N3 0) h11 rfl rfl rfl fun a15 h15 => ?_; clear h11
 have hk16 := hk5.kept hg13 (by simp)
 refine dk 1 (v := .int .i64 cep) h15 rfl rfl rfl (fun x hx => by subst hx; exact (rn_load1 rfl rfl Try.isAgg3 (hk16.cell rfl))) fun a17 h17 => ?_; clear h15
 refine dk0 2 (v := pt b 0) h17 rfl rfl rfl fun a18 h18 => ?_; clear h17
 refine dk0 3 (v := pt b 0) h18 rfl rfl rfl fun a19 h19 => ?_; clear h18
 refine dk0 4 (v := pt b 1) h19 rfl rfl rfl fun a20 h20 => ?_; clear h19
 refine dk0 5 (v := pt b 1) h20 rfl rfl rfl fun a21 h21 => ?_; clear h20
 have hk22 := hb.kept hg4 (by simp)
 have hk23 := hk22.kept hg13 (by simp)
 refine dk 6 (v := .int .i64 ep) h21 rfl rfl rfl (fun x hx => by subst hx; exact (rn_load1 rfl rfl Try.isAgg3 (hk23.cell rfl))) fun a24 h24 => ?_; clear h21
 refine dk0 7 (v := .bool (decide (cep ≤ ep))) h24 rfl rfl rfl fun a25 h25 => ?_; clear h24
 refine dr_done (by kernel_rfl) ?_
 refine co_then ?_
 have hB27 := fb_new hB0 hg4
 have hB28 := fb_new hB27 hg13
 have hr29 := row_kept_new hlgr hg4
 have hr30 := row_kept_new hr29 hg13
 have hr31 := row_kept_new hcvr hg4
 have hr32 := row_kept_new hr31 hg13
 cases hc26 : (decide (cep ≤ ep))
 ·
  rw [hc26] at h25
  have hp33 : ¬ (cep ≤ ep) := of_decide_eq_false hc26
  clear hc26
  refine co_false h25 rfl ?_
  refine wp_skip ?_
  refine co_then ?_
  refine co_seq ?_
  refine co_seq ?_
  refine co_reg ?_
  refine pk (v := .agg #[.int .i64 cep, cmv, .int .u64 cfl]) h25 rfl (rn_loadN rfl rfl Try.underlying32 rfl (by kernel_rfl) hk16.all) fun a34 h34 => ?_; clear h25
  refine pk0 (v := iv) h34 rfl fun a35 h35 => ?_; clear h34
  refine pw h35 rfl (op_call (args := #[.agg #[.int .i64 cep, cmv, .int .u64 cfl], iv]) (R := fun res xw => res = .bool (memIds cms ids) ∧ Below w12.heap.size w12 xw) rfl rfl rfl (by kernel_rfl) (by kernel_rfl) (Try.call46 _ _) (memberIds_any cep cfl cmv cms iv ids w12 (sl_butS hcm hB28 hbc) (sl_butS hid hB28 hbi)) (by rintro e x ⟨rfl, hb38⟩; exact ⟨_, rfl, ⟨rfl, hb38⟩⟩)) ?_; clear h35
  rintro _ w37 a36 ⟨rfl, hb38⟩ h36
  have hz39 := hb38.size
  have hB41 := fb_call hB28 hb38
  cases hc40 : (memIds cms ids)
  ·
   rw [hc40] at h36
   refine pk0 (v := .bool true) h36 rfl fun a42 h42 => ?_; clear h36
   refine pl_nil ?_
   refine co_then ?_
   refine co_true h42 rfl ?_
   refine co_seq ?_
   refine co_reg ?_
   refine pk0 (v := .int .i64 7) h42 rfl fun a43 h43 => ?_; clear h42
   refine pl_nil ?_
   refine co_then ?_
   refine wp_ret ?_
   refine co_thenR ?_
   refine co_ret1 h43 rfl rfl ?_
   have hr44 := row_kept_new hr32 (below_grown hb38)
   have hr45 := row_kept_new hr30 (below_grown hb38)
   have hk46 := hk23.below hb38
   have hA : fwS ep fl ms lg cep cfl cms ids = (7, ep, fl, ms, lg) := fwS_n (by first | exact fwF_1 (by omega) | exact fwF_2 (by omega) (by first | assumption | simp_all) | exact fwF_3 (by omega) (by first | assumption | simp_all) (by first | assumption | simp_all)) (by decide)
   exact ⟨cv, lgv, by rw [hA], by rw [hA]; exact hk46, by rw [hA]; exact hr44, by rw [hA]; exact hr45, hB41⟩
  ·
   rw [hc40] at h36
   refine pk0 (v := .bool false) h36 rfl fun a47 h47 => ?_; clear h36
   refine pl_nil ?_
   refine co_then ?_
   refine co_false h47 rfl ?_
   refine wp_skip ?_
   refine co_then ?_
   refine co_seq ?_
   refine co_seq ?_
   refine co_reg ?_
   refine pk0 (v := iv) h47 rfl fun a48 h48 => ?_; clear h47
   have hk49 := hk16.below hb38
   refine pk (v := .agg #[.int .i64 cep, cmv, .int .u64 cfl]) h48 rfl (rn_loadN rfl rfl Try.underlying32 rfl (by kernel_rfl) hk49.all) fun a50 h50 => ?_; clear h48
   refine pw h50 rfl (op_call (args := #[.agg #[.int .i64 cep, cmv, .int .u64 cfl]]) (R := fun res xw => res = .int .i64 (headI cms) ∧ Below w37.heap.size w37 xw) rfl rfl rfl (by kernel_rfl) (by kernel_rfl) (Try.call48 _ _) (headP_any cep cfl cmv cms w37 (sl_butS hcm hB41 hbc)) (by rintro e x ⟨rfl, hb53⟩; exact ⟨_, rfl, ⟨rfl, hb53⟩⟩)) ?_; clear h50
   rintro _ w52 a51 ⟨rfl, hb53⟩ h51
   have hz54 := hb53.size
   have hB57 := fb_call hB41 hb53
   refine pw h51 rfl (op_call (args := #[iv, .int .i64 (headI cms)]) (R := fun res xw => res = .bool (inL ids (headI cms)) ∧ Below w52.heap.size w52 xw) rfl rfl rfl (by kernel_rfl) (by kernel_rfl) (Try.call47 _ _) (containsI_any iv ids (headI cms) w52 (sl_butS hid hB57 hbi)) (by rintro e x ⟨rfl, hb58⟩; exact ⟨_, rfl, ⟨rfl, hb58⟩⟩)) ?_; clear h51
   rintro _ w56 a55 ⟨rfl, hb58⟩ h55
   have hz59 := hb58.size
   have hB61 := fb_call hB57 hb58
   have hk62 := hk23.below hb38
   have hk63 := hk62.below hb53
   have hk64 := hk63.below hb58
   have hr65 := row_kept_new hr30 (below_grown hb38)
   have hr66 := row_kept_new hr65 (below_grown hb53)
   have hr67 := row_kept_new hr66 (below_grown hb58)
   have hr68 := row_kept_new hr32 (below_grown hb38)
   have hr69 := row_kept_new hr68 (below_grown hb53)
   have hr70 := row_kept_new hr69 (below_grown hb58)
   have hk71 := hk49.below hb53
   have hk72 := hk71.below hb58
   cases hc60 : (inL ids (headI cms))
   ·
    rw [hc60] at h55
    refine pk0 (v := .bool true) h55 rfl fun a73 h73 => ?_; clear h55
    refine pl_nil ?_
    refine co_then ?_
    refine co_true h73 rfl ?_
    refine co_seq ?_
    refine co_reg ?_
    refine pk0 (v := .int .i64 18) h73 rfl fun a74 h74 => ?_; clear h73
    refine pl_nil ?_
    refine co_then ?_
    refine wp_ret ?_
    refine co_thenR ?_
    refine co_ret1 h74 rfl rfl ?_
    have hA : fwS ep fl ms lg cep cfl cms ids = (18, ep, fl, ms, lg) := fwS_n (by first | exact fwF_1 (by omega) | exact fwF_2 (by omega) (by first | assumption | simp_all) | exact fwF_3 (by omega) (by first | assumption | simp_all) (by first | assumption | simp_all)) (by decide)
    exact ⟨cv, lgv, by rw [hA], by rw [hA]; exact hk64, by rw [hA]; exact hr70, by rw [hA]; exact hr67, hB61⟩
   ·
    rw [hc60] at h55
    refine pk0 (v := .bool false) h55 rfl fun a75 h75 => ?_; clear h55
    refine pl_nil ?_
    refine co_then ?_
    refine co_false h75 rfl ?_
    refine wp_skip ?_
    refine co_then ?_
    refine co_seq ?_
    refine co_reg ?_
    refine pk0 (v := pt b 0) h75 rfl fun a76 h76 => ?_; clear h75
    refine pk0 (v := pt b 0) h76 rfl fun a77 h77 => ?_; clear h76
    refine pk (v := .agg #[.int .i64 cep, cmv, .int .u64 cfl]) h77 rfl (rn_loadN rfl rfl Try.underlying32 rfl (by kernel_rfl) hk72.all) fun a78 h78 => ?_; clear h77
    refine pw h78 rfl (op_call (args := #[.agg #[.int .i64 cep, cmv, .int .u64 cfl]]) (R := fun res xw => ∃ u : Value, res = .agg #[.int .i64 cep, u, .int .u64 cfl] ∧ xw.ownsRow w56.heap.size 102 2 u cms.length (cms.flatMap memE) ∧ Below w56.heap.size w56 xw) rfl rfl rfl (by kernel_rfl) (by kernel_rfl) (Try.call37 _ _) (freshConf_any cep cfl cmv cms w56 (sl_butS hcm hB61 hbc) (by first | omega | (simp; done) | (simp; omega))) (by rintro e x ⟨u, rfl, hq82, hb83⟩; exact ⟨_, rfl, ⟨u, rfl, hq82, hb83⟩⟩)) ?_; clear h78
    rintro _ w80 a79 ⟨u81, rfl, hq82, hb83⟩ h79
    have hz84 := hb83.size
    have hl85 := sl_len (row_sl hq82 memE_len)
    refine pk0 (v := pt b 0) h79 rfl fun a86 h86 => ?_; clear h79
    refine pk0 (v := pt b 1) h86 rfl fun a87 h87 => ?_; clear h86
    have hk93 := hk64.below hb83
    refine pwD h87 rfl (op_storePart (k := 1) (cs' := #[.bool true, .int .i64 cep, u81, .int .u64 cfl, lgv, .int .u64 hz, pv, .int .i64 tp, .bool x0.1, .int .i64 x0.2.1, .int .i64 x0.2.2.1, .int .i64 x0.2.2.2.1, .int .i64 x0.2.2.2.2, .bool x1.1, .int .i64 x1.2.1, .int .i64 x1.2.2.1, .int .i64 x1.2.2.2.1, .int .i64 x1.2.2.2.2, .bool x2.1, .int .i64 x2.2.1, .int .i64 x2.2.2.1, .int .i64 x2.2.2.2.1, .int .i64 x2.2.2.2.2]) rfl rfl rfl (all_cons rfl (all_cons (row_one hq82) (all_cons rfl all_nil))) (by kernel_rfl) hk93 rfl rfl) ?_; clear h87
    rintro _ w89 a88 ⟨hk90, hz91, hg92⟩ h88
    have hk90' : Blk w89 b 66 #[.bool true, .int .i64 cep, u81, .int .u64 cfl, lgv, .int .u64 hz, pv, .int .i64 tp, .bool x0.1, .int .i64 x0.2.1, .int .i64 x0.2.2.1, .int .i64 x0.2.2.2.1, .int .i64 x0.2.2.2.2, .bool x1.1, .int .i64 x1.2.1, .int .i64 x1.2.2.1, .int .i64 x1.2.2.2.1, .int .i64 x1.2.2.2.2, .bool x2.1, .int .i64 x2.2.1, .int .i64 x2.2.2.1, .int .i64 x2.2.2.2.1, .int .i64 x2.2.2.2.2] := hk90; clear hk90
    have hz94 := hg92.size
    refine pk0 (v := pt b 0) h88 rfl fun a95 h95 => ?_; clear h88
    refine pk0 (v := pt b 4) h95 rfl fun a96 h96 => ?_; clear h95
    refine pwD h96 rfl (op_store1 rfl rfl rfl rfl Try.sizeOf33 hk90' rfl) ?_; clear h96
    rintro _ w98 a97 ⟨hk99, hz100, hg101⟩ h97
    have hk99' : Blk w98 b 66 #[.bool true, .int .i64 cep, u81, .int .u64 cfl, .slice none 0 0, .int .u64 hz, pv, .int .i64 tp, .bool x0.1, .int .i64 x0.2.1, .int .i64 x0.2.2.1, .int .i64 x0.2.2.2.1, .int .i64 x0.2.2.2.2, .bool x1.1, .int .i64 x1.2.1, .int .i64 x1.2.2.1, .int .i64 x1.2.2.2.1, .int .i64 x1.2.2.2.2, .bool x2.1, .int .i64 x2.2.1, .int .i64 x2.2.2.1, .int .i64 x2.2.2.2.1, .int .i64 x2.2.2.2.2] := hk99; clear hk99
    have hz102 := hg101.size
    refine pl_nil ?_
    refine co_then ?_
    refine co_seq ?_
    refine co_reg ?_
    refine pk0 (v := .int .i64 0) h97 rfl fun a103 h103 => ?_; clear h97
    refine pl_nil ?_
    refine co_then ?_
    refine wp_ret ?_
    refine co_ret1 h103 rfl rfl ?_
    have hr104 := row_kept_at hq82 hg92 (own_neT hq82 hk93 (by decide))
    have hr105 := row_kept_at hr104 hg101 (own_neT hr104 hk90' (by decide))
    have hB106 := fb_call hB61 hb83
    have hB107 := fb_at hB106 hg92 (fun hlt => by first | (exfalso; omega) | (simp; done) | simp_all)
    have hB108 := fb_at hB107 hg101 (fun hlt => by first | (exfalso; omega) | (simp; done) | simp_all)
    have hA : fwS ep fl ms lg cep cfl cms ids = (0, cep, cfl, cms, ([] : List Int)) := fwS_y (fwF_4 (by omega) (by first | assumption | simp_all) (by first | assumption | simp_all))
    exact ⟨u81, (.slice none 0 0), by rw [hA], by rw [hA]; exact hk99', by rw [hA]; exact row_lows hr105 (Nat.zero_le _), by rw [hA]; exact World.ownsRow_nil _ _ _ _, hB108⟩
 ·
  rw [hc26] at h25
  have hp109 : cep ≤ ep := of_decide_eq_true hc26
  clear hc26
  refine co_true h25 rfl ?_
  refine co_seq ?_
  refine co_reg ?_
  refine pk0 (v := .int .i64 18) h25 rfl fun a110 h110 => ?_; clear h25
  refine pl_nil ?_
  refine co_then ?_
  refine wp_ret ?_
  refine co_thenR ?_
  refine co_ret1 h110 rfl rfl ?_
  have hA : fwS ep fl ms lg cep cfl cms ids = (18, ep, fl, ms, lg) := fwS_n (by first | exact fwF_1 (by omega) | exact fwF_2 (by omega) (by first | assumption | simp_all) | exact fwF_3 (by omega) (by first | assumption | simp_all) (by first | assumption | simp_all)) (by decide)
  exact ⟨cv, lgv, by rw [hA], by rw [hA]; exact hk23, by rw [hA]; exact hr32, by rw [hA]; exact hr30, hB28⟩
end Go.Proofs.Ytnjbnndpbegkdaa

/- Package mstate: Apply of a configuration, of one who is trusted. Conditions: at most 900 trusted. -/
namespace Go.Proofs.Ytnjbnndpbegkdaa
open Go.RowKit Go.PlainAid
set_option linter.unusedVariables false
set_option linter.unusedSimpArgs false


theorem chkC_lenM {ep : Int} {ms : List MemT} (h : chkC ep ms = 0) : ms.length ≤ 20 := by
  unfold chkC at h
  repeat (split at h; · first | omega | simp at h)
  all_goals first | omega | assumption
theorem fwS_ne {ep fl cep cfl : Int} {ms cms : List MemT} {lg ids : List Int} (h : (fwS ep fl ms lg cep cfl cms ids).1 = 0) : 0 < ids.length ∧ (fwS ep fl ms lg cep cfl cms ids).2.2.2.2 = [] := by
  by_cases h0 : fwF ep cep cms ids = 0
  · rw [fwS_y h0]
    refine ⟨?_, rfl⟩
    cases ids with
    | nil =>
      unfold fwF at h0
      by_cases h1 : cep ≤ ep
      · rw [if_pos h1] at h0; omega
      · rw [if_neg h1] at h0; simp [memIds, inL] at h0
    | cons a r => simp
  · rw [fwS_n rfl h0] at h; exact absurd h h0
def ap5 (ms : List MemT) (lg : List Int) (d : NoteD) : Int × List Int := if chkN d ≠ 0 then (chkN d, lg) else trF ms lg [d.n]
def ap1 (ep fl : Int) (ms : List MemT) (lg : List Int) (d : NoteD) : Int × Int × Int × List MemT × List Int :=
  if chkN d ≠ 0 then (chkN d, ep, fl, ms, lg) else if (fwS ep fl ms lg d.ep d.fl d.ms d.lg).1 ≠ 0 then fwS ep fl ms lg d.ep d.fl d.ms d.lg
  else ((trF (fwS ep fl ms lg d.ep d.fl d.ms d.lg).2.2.2.1 (fwS ep fl ms lg d.ep d.fl d.ms d.lg).2.2.2.2 d.lg).1, (fwS ep fl ms lg d.ep d.fl d.ms d.lg).2.1, (fwS ep fl ms lg d.ep d.fl d.ms d.lg).2.2.1, (fwS ep fl ms lg d.ep d.fl d.ms d.lg).2.2.2.1, (trF (fwS ep fl ms lg d.ep d.fl d.ms d.lg).2.2.2.1 (fwS ep fl ms lg d.ep d.fl d.ms d.lg).2.2.2.2 d.lg).2)

set_option maxRecDepth 100000 in
set_option maxHeartbeats 1600000 in
theorem msApply5_any (b : Nat) (ep : Int) (cv : Value) (fl : Int) (lgv : Value) (hz : Int) (pv : Value) (tp : Int) (x0 : SdT) (x1 : SdT) (x2 : SdT) (ms : List MemT) (lg : List Int) (d : NoteD) (mv : Value) (lv : Value) (ev : Value) (w : World) (hb : Blk w b 66 #[.bool true, .int .i64 ep, cv, .int .u64 fl, lgv, .int .u64 hz, pv, .int .i64 tp, .bool x0.1, .int .i64 x0.2.1, .int .i64 x0.2.2.1, .int .i64 x0.2.2.2.1, .int .i64 x0.2.2.2.2, .bool x1.1, .int .i64 x1.2.1, .int .i64 x1.2.2.1, .int .i64 x1.2.2.2.1, .int .i64 x1.2.2.2.2, .bool x2.1, .int .i64 x2.2.1, .int .i64 x2.2.2.1, .int .i64 x2.2.2.2.1, .int .i64 x2.2.2.2.2]) (hcvr : w.ownsRow 0 102 2 cv ms.length (ms.flatMap memE)) (hlgr : w.ownsRow 0 3 1 lgv lg.length (lg.flatMap (intE .i64))) (hm : SliceOf memE 2 w mv d.ms) (hg : SliceOf (intE .i64) 1 w lv d.lg) (he : SliceOf opE 3 w ev d.el) (hR : NoteR d) (hbm : d.ms ≠ [] → ∀ k, mv.ownBlock = some k → ¬ k = b) (hbg : d.lg ≠ [] → ∀ k, lv.ownBlock = some k → ¬ k = b) (hbe : d.el ≠ [] → ∀ k, ev.ownBlock = some k → ¬ k = b) (hkx : d.k = 5) (hlg9 : lg.length ≤ 900) :
    Calls Try.prog 8 #[pt b 0, .agg #[.int .i64 d.k, .int .i64 d.n, .int .u64 d.t, .int .i64 d.ep, mv, .int .u64 d.fl, lv, .int .i64 d.ec, .int .i64 d.er, ev, .int .u64 d.ets, .int .i64 d.pid, .int .u64 d.pat, .int .i64 d.plf, .int .i64 d.sc, .int .i64 d.sr, .int .i64 d.se, .int .i64 d.sp]] w fun e w' => ∃ (lv2 : Value), e = .returned (.int .i64 ((ap5 ms lg d).1)) ∧ Blk w' b 66 #[.bool true, .int .i64 ep, cv, .int .u64 fl, lv2, .int .u64 hz, pv, .int .i64 tp, .bool x0.1, .int .i64 x0.2.1, .int .i64 x0.2.2.1, .int .i64 x0.2.2.2.1, .int .i64 x0.2.2.2.2, .bool x1.1, .int .i64 x1.2.1, .int .i64 x1.2.2.1, .int .i64 x1.2.2.2.1, .int .i64 x1.2.2.2.2, .bool x2.1, .int .i64 x2.2.1, .int .i64 x2.2.2.1, .int .i64 x2.2.2.2.1, .int .i64 x2.2.2.2.2] ∧ w'.ownsRow 0 3 1 lv2 ((ap5 ms lg d).2).length (((ap5 ms lg d).2).flatMap (intE .i64)) ∧ But (fun q => q = b) w w' := by
 have hrng := hR.rng
 have hB0 := But.refl (fun q => q = b) w
 have hl_hb := hb.lt
 have hl_hm := sl_len hm
 have hl_hg := sl_len hg
 have hl_he := sl_len he
 refine co_enter (n := 113) Try.func8 rfl rfl rfl [(0, pt b 0), (1, .agg #[.int .i64 d.k, .int .i64 d.n, .int .u64 d.t, .int .i64 d.ep, mv, .int .u64 d.fl, lv, .int .i64 d.ec, .int .i64 d.er, ev, .int .u64 d.ets, .int .i64 d.pid, .int .u64 d.pat, .int .i64 d.plf, .int .i64 d.sc, .int .i64 d.sr, .int .i64 d.se, .int .i64 d.sp])] rfl (fun a h0 => ?_)
 refine co_seq ?_
 refine co_reg ?_
 refine pw h0 rfl (op_new (v := fun N => pt N 0) (T := 44) (cs := #[.int .i64 d.k, .int .i64 d.n, .int .u64 d.t, .int .i64 d.ep, mv, .int .u64 d.fl, lv, .int .i64 d.ec, .int .i64 d.er, ev, .int .u64 d.ets, .int .i64 d.pid, .int .u64 d.pat, .int .i64 d.plf, .int .i64 d.sc, .int .i64 d.sr, .int .i64 d.se, .int .i64 d.sp]) (by kernel_rfl) (by kernel_rfl) (by kernel_rfl)) ?_; clear h0
 rintro _ w2 a1 ⟨N3, rfl, hN6, hz7, hk5, hg4⟩ h1
 have ha8 := row_fresh hlgr hN6
 have ha9 := row_fresh hcvr hN6
 have hz10 := hg4.size
 try dsimp only at h1
 refine pk0 (v := .int .i64 0) h1 rfl fun a11 h11 => ?_; clear h1
 refine pl_nil ?_
 refine co_then ?_
 refine co_seq ?_
 refine co_seq ?_
 refine co_reg ?_
 refine pk0 (v := pt b 0) h11 rfl fun a12 h12 => ?_; clear h11
 have hk15 := hb.kept hg4 (by simp)
 refine pw h12 rfl (op_call (args := #[pt b 0]) (R := fun res xw => res = .bool false ∧ Below w2.heap.size w2 xw) rfl rfl rfl (by kernel_rfl) (by kernel_rfl) (Try.call19 _ _) (mszeroT b ep cv fl lgv hz pv tp x0 x1 x2 w2 hk15) (by rintro e x ⟨rfl, hb16⟩; exact ⟨_, rfl, ⟨rfl, hb16⟩⟩)) ?_; clear h12
 rintro _ w14 a13 ⟨rfl, hb16⟩ h13
 have hz17 := hb16.size
 refine pl_nil ?_
 refine co_then ?_
 refine co_false h13 rfl ?_
 refine wp_skip ?_
 refine co_then ?_
 refine co_seq ?_
 refine co_seq ?_
 refine co_reg ?_
 have hk18 := hk5.below hb16
 refine pk (v := .agg #[.int .i64 d.k, .int .i64 d.n, .int .u64 d.t, .int .i64 d.ep, mv, .int .u64 d.fl, lv, .int .i64 d.ec, .int .i64 d.er, ev, .int .u64 d.ets, .int .i64 d.pid, .int .u64 d.pat, .int .i64 d.plf, .int .i64 d.sc, .int .i64 d.sr, .int .i64 d.se, .int .i64 d.sp]) h13 rfl (rn_loadN rfl rfl Try.underlying44 rfl (by kernel_rfl) hk18.all) fun a19 h19 => ?_; clear h13
 have hB22 := fb_new hB0 hg4
 have hB23 := fb_call hB22 hb16
 refine pw h19 rfl (op_call (args := #[.agg #[.int .i64 d.k, .int .i64 d.n, .int .u64 d.t, .int .i64 d.ep, mv, .int .u64 d.fl, lv, .int .i64 d.ec, .int .i64 d.er, ev, .int .u64 d.ets, .int .i64 d.pid, .int .u64 d.pat, .int .i64 d.plf, .int .i64 d.sc, .int .i64 d.sr, .int .i64 d.se, .int .i64 d.sp]]) (R := fun res xw => res = .int .i64 (chkN d) ∧ Below w14.heap.size w14 xw) rfl rfl rfl (by kernel_rfl) (by kernel_rfl) (Try.call20 _ _) (nCheck_any d mv lv ev w14 (sl_butS hm hB23 hbm) (sl_butS hg hB23 hbg) (sl_butS he hB23 hbe) hR) (by rintro e x ⟨rfl, hb24⟩; exact ⟨_, rfl, ⟨rfl, hb24⟩⟩)) ?_; clear h19
 rintro _ w21 a20 ⟨rfl, hb24⟩ h20
 have hz25 := hb24.size
 refine pk0 (v := .int .i64 (chkN d)) h20 rfl fun a26 h26 => ?_; clear h20
 refine pl_nil ?_
 refine co_then ?_
 refine co_seq ?_
 refine co_reg ?_
 refine pk0 (v := .int .i64 (chkN d)) h26 rfl fun a27 h27 => ?_; clear h26
 refine pk0 (v := .bool (chkN d != 0)) h27 rfl fun a28 h28 => ?_; clear h27
 refine pl_nil ?_
 refine co_then ?_
 have hB30 := fb_call hB23 hb24
 have hk31 := hk15.below hb16
 have hk32 := hk31.below hb24
 have hr33 := row_kept_new hlgr hg4
 have hr34 := row_kept_new hr33 (below_grown hb16)
 have hr35 := row_kept_new hr34 (below_grown hb24)
 have hr36 := row_kept_new hcvr hg4
 have hr37 := row_kept_new hr36 (below_grown hb16)
 have hr38 := row_kept_new hr37 (below_grown hb24)
 cases hc29 : (chkN d != 0)
 ·
  rw [hc29] at h28
  have hp39 : ¬ (chkN d ≠ 0) := by first | simpa using hc29 | simpa [and_assoc] using hc29
  clear hc29
  refine co_false h28 rfl ?_
  refine wp_skip ?_
  refine co_then ?_
  refine co_seq ?_
  refine co_reg ?_
  refine pk0 (v := pt N3 1) h28 rfl fun a40 h40 => ?_; clear h28
  have hk41 := hk18.below hb24
  refine pk (v := .int .i64 d.n) h40 rfl (rn_load1 rfl rfl Try.isAgg3 (hk41.cell rfl)) fun a42 h42 => ?_; clear h40
  refine pw h42 rfl (op_new (v := fun N => .slice (some ⟨N, 0, none⟩) 1 1) (T := 3) (cs := #[.int .i64 d.n]) (by kernel_rfl) (by kernel_rfl) (by kernel_rfl)) ?_; clear h42
  rintro _ w44 a43 ⟨N45, rfl, hN48, hz49, hk47, hg46⟩ h43
  have ha50 := row_fresh hr35 hN48
  have ha51 := row_fresh hr38 hN48
  have hz52 := hg46.size
  try dsimp only at h43
  refine pk0 (v := .slice (some ⟨N45, 0, none⟩) 1 1) h43 rfl fun a53 h53 => ?_; clear h43
  refine pl_nil ?_
  refine co_then ?_
  refine co_seq ?_
  refine co_seq ?_
  refine co_reg ?_
  refine pk0 (v := pt N3 0) h53 rfl fun a54 h54 => ?_; clear h53
  have hk55 := hk41.kept hg46 (by simp)
  refine pk (v := .int .i64 d.k) h54 rfl (rn_load1 rfl rfl Try.isAgg3 (hk55.cell rfl)) fun a56 h56 => ?_; clear h54
  refine pl_nil ?_
  refine co_then ?_
  refine wp_block ?_
  refine co_seq ?_
  refine wp_block ?_
  refine co_seq ?_
  refine wp_block ?_
  refine co_seq ?_
  refine wp_block ?_
  refine co_seq ?_
  refine wp_block ?_
  refine co_seq ?_
  refine wp_block ?_
  refine co_seq ?_
  refine wp_block ?_
  refine co_seq ?_
  refine wp_block ?_
  refine co_seq ?_
  refine co_seq ?_
  refine co_seq ?_
  refine co_reg ?_
  refine pk0 (v := .bool (d.k == 1)) h56 rfl fun a57 h57 => ?_; clear h56
  refine pk0 (v := .bool (d.k == 1)) h57 rfl fun a58 h58 => ?_; clear h57
  refine pl_nil ?_
  refine co_then ?_
  have hc59 : (d.k == 1) = false := by first | (simp; done) | (simp; omega) | exact beq_false_of_ne (by omega) | exact beq_iff_eq.2 (by omega)
  rw [hc59] at h58; clear hc59
  refine co_false h58 rfl ?_
  refine wp_skip ?_
  refine co_then ?_
  refine co_seq ?_
  refine co_seq ?_
  refine co_reg ?_
  refine pk0 (v := .bool (d.k == 5)) h58 rfl fun a60 h60 => ?_; clear h58
  refine pk0 (v := .bool (d.k == 5)) h60 rfl fun a61 h61 => ?_; clear h60
  refine pl_nil ?_
  refine co_then ?_
  have hc62 : (d.k == 5) = true := by first | (simp; done) | (simp; omega) | exact beq_false_of_ne (by omega) | exact beq_iff_eq.2 (by omega)
  rw [hc62] at h61; clear hc62
  refine co_true h61 rfl ?_
  refine wp_exit ?_
  refine co_thenX ?_
  refine co_thenX ?_
  refine co_blockY (by decide) ?_
  refine co_thenX ?_
  refine co_blockX ?_
  refine co_then ?_
  refine co_seq ?_
  refine co_seq ?_
  refine co_reg ?_
  refine pk0 (v := pt b 0) h61 rfl fun a63 h63 => ?_; clear h61
  refine pk0 (v := .slice (some ⟨N45, 0, none⟩) 1 1) h63 rfl fun a64 h64 => ?_; clear h63
  have hB67 := fb_new hB30 hg46
  have hq68 := row_of_cells (enc := intE .i64) (sz := 1) (base := 0) [d.n] hk47 (Nat.zero_le _) rfl rfl (by simp [maxLen])
  have hk69 := hk32.kept hg46 (by simp)
  have hlb9 := hk69.lt
  have hr70 := row_kept_new hr38 hg46
  have hr71 := row_kept_new hr35 hg46
  have hapt := own_neT hr70 hk69 (by decide)
  refine pw h64 rfl (op_call (args := #[pt b 0, .slice (some ⟨N45, 0, none⟩) 1 1]) (R := fun res xw => ∃ lv2 : Value, res = .int .i64 ((trF ms lg ([d.n])).1) ∧ Blk xw b 66 #[.bool true, .int .i64 ep, cv, .int .u64 fl, lv2, .int .u64 hz, pv, .int .i64 tp, .bool x0.1, .int .i64 x0.2.1, .int .i64 x0.2.2.1, .int .i64 x0.2.2.2.1, .int .i64 x0.2.2.2.2, .bool x1.1, .int .i64 x1.2.1, .int .i64 x1.2.2.1, .int .i64 x1.2.2.2.1, .int .i64 x1.2.2.2.2, .bool x2.1, .int .i64 x2.2.1, .int .i64 x2.2.2.1, .int .i64 x2.2.2.2.1, .int .i64 x2.2.2.2.2] ∧ xw.ownsRow 0 3 1 lv2 ((trF ms lg ([d.n])).2).length (((trF ms lg ([d.n])).2).flatMap (intE .i64)) ∧ But (fun q => q = b) w44 xw) rfl rfl rfl (by kernel_rfl) (by kernel_rfl) (Try.call22 _ _) (msTrust_any b ep cv fl lgv hz pv tp x0 x1 x2 ms lg (.slice (some ⟨N45, 0, none⟩) 1 1) ([d.n]) w44 hk69 (row_sl hr70 memE_len) (row_lows hr71 (Nat.zero_le _)) (row_sl hq68 (fun _ => rfl)) (by simp) (by simp only [List.length_cons, List.length_nil]; omega) (fun _ k e q => own_neT hr70 hk69 (by decide) (by rw [e, q])) (fun _ k e q => by simp [Value.ownBlock] at e; omega)) (by rintro e x ⟨lv2, rfl, hq73, hq74, hb75⟩; exact ⟨_, rfl, ⟨lv2, rfl, hq73, hq74, hb75⟩⟩)) ?_; clear h64
  rintro _ w66 a65 ⟨lv272, rfl, hq73, hq74, hb75⟩ h65
  have hz76 := hb75.size
  have hl77 := hq73.lt
  refine pk0 (v := .int .i64 ((trF ms lg ([d.n])).1)) h65 rfl fun a78 h78 => ?_; clear h65
  refine pl_nil ?_
  refine co_then ?_
  refine wp_ret ?_
  refine co_thenR ?_
  refine co_blockR ?_
  refine co_thenR ?_
  refine co_blockR ?_
  refine co_thenR ?_
  refine co_blockR ?_
  refine co_thenR ?_
  refine co_blockR ?_
  refine co_thenR ?_
  refine co_blockR ?_
  refine co_thenR ?_
  refine co_blockR ?_
  refine co_thenR ?_
  refine co_ret1 h78 rfl rfl ?_
  have hB79 := fb_foot hB67 hb75 (fun i hlt hS => by (try simp at hS); first | omega | (simp; omega) | simp_all)
  have hA : ap5 ms lg d = ((trF ms lg ([d.n])).1, (trF ms lg ([d.n])).2) := by unfold ap5; first | (rw [if_pos (by omega)]; done) | (rw [if_neg (by omega)]; done) | (rw [if_neg (by omega)]; rfl)
  exact ⟨lv272, by rw [hA], hq73, by rw [hA]; exact hq74, hB79⟩
 ·
  rw [hc29] at h28
  have hp80 : chkN d ≠ 0 := by first | simpa using hc29 | simpa [and_assoc] using hc29
  clear hc29
  refine co_true h28 rfl ?_
  refine co_seq ?_
  refine co_reg ?_
  refine pk0 (v := .int .i64 (chkN d)) h28 rfl fun a81 h81 => ?_; clear h28
  refine pk0 (v := .int .i64 (chkN d)) h81 rfl fun a82 h82 => ?_; clear h81
  refine pl_nil ?_
  refine co_then ?_
  refine wp_ret ?_
  refine co_thenR ?_
  refine co_ret1 h82 rfl rfl ?_
  have hA : ap5 ms lg d = (chkN d, lg) := by unfold ap5; first | (rw [if_pos (by omega)]; done) | (rw [if_neg (by omega)]; done) | (rw [if_neg (by omega)]; rfl)
  exact ⟨lgv, by rw [hA], hk32, by rw [hA]; exact hr35, hB30⟩
set_option maxRecDepth 100000 in
set_option maxHeartbeats 1600000 in
theorem msApply1_any (b : Nat) (ep : Int) (cv : Value) (fl : Int) (lgv : Value) (hz : Int) (pv : Value) (tp : Int) (x0 : SdT) (x1 : SdT) (x2 : SdT) (ms : List MemT) (lg : List Int) (d : NoteD) (mv : Value) (lv : Value) (ev : Value) (w : World) (hb : Blk w b 66 #[.bool true, .int .i64 ep, cv, .int .u64 fl, lgv, .int .u64 hz, pv, .int .i64 tp, .bool x0.1, .int .i64 x0.2.1, .int .i64 x0.2.2.1, .int .i64 x0.2.2.2.1, .int .i64 x0.2.2.2.2, .bool x1.1, .int .i64 x1.2.1, .int .i64 x1.2.2.1, .int .i64 x1.2.2.2.1, .int .i64 x1.2.2.2.2, .bool x2.1, .int .i64 x2.2.1, .int .i64 x2.2.2.1, .int .i64 x2.2.2.2.1, .int .i64 x2.2.2.2.2]) (hcvr : w.ownsRow 0 102 2 cv ms.length (ms.flatMap memE)) (hlgr : w.ownsRow 0 3 1 lgv lg.length (lg.flatMap (intE .i64))) (hm : SliceOf memE 2 w mv d.ms) (hg : SliceOf (intE .i64) 1 w lv d.lg) (he : SliceOf opE 3 w ev d.el) (hR : NoteR d) (hbm : d.ms ≠ [] → ∀ k, mv.ownBlock = some k → ¬ k = b) (hbg : d.lg ≠ [] → ∀ k, lv.ownBlock = some k → ¬ k = b) (hbe : d.el ≠ [] → ∀ k, ev.ownBlock = some k → ¬ k = b) (hkx : d.k = 1) :
    Calls Try.prog 8 #[pt b 0, .agg #[.int .i64 d.k, .int .i64 d.n, .int .u64 d.t, .int .i64 d.ep, mv, .int .u64 d.fl, lv, .int .i64 d.ec, .int .i64 d.er, ev, .int .u64 d.ets, .int .i64 d.pid, .int .u64 d.pat, .int .i64 d.plf, .int .i64 d.sc, .int .i64 d.sr, .int .i64 d.se, .int .i64 d.sp]] w fun e w' => ∃ (cv2 : Value) (lv2 : Value), e = .returned (.int .i64 ((ap1 ep fl ms lg d).1)) ∧ Blk w' b 66 #[.bool true, .int .i64 ((ap1 ep fl ms lg d).2.1), cv2, .int .u64 ((ap1 ep fl ms lg d).2.2.1), lv2, .int .u64 hz, pv, .int .i64 tp, .bool x0.1, .int .i64 x0.2.1, .int .i64 x0.2.2.1, .int .i64 x0.2.2.2.1, .int .i64 x0.2.2.2.2, .bool x1.1, .int .i64 x1.2.1, .int .i64 x1.2.2.1, .int .i64 x1.2.2.2.1, .int .i64 x1.2.2.2.2, .bool x2.1, .int .i64 x2.2.1, .int .i64 x2.2.2.1, .int .i64 x2.2.2.2.1, .int .i64 x2.2.2.2.2] ∧ w'.ownsRow 0 102 2 cv2 ((ap1 ep fl ms lg d).2.2.2.1).length (((ap1 ep fl ms lg d).2.2.2.1).flatMap memE) ∧ w'.ownsRow 0 3 1 lv2 ((ap1 ep fl ms lg d).2.2.2.2).length (((ap1 ep fl ms lg d).2.2.2.2).flatMap (intE .i64)) ∧ But (fun q => q = b) w w' := by
 have hrng := hR.rng
 have hB0 := But.refl (fun q => q = b) w
 have hl_hb := hb.lt
 have hl_hm := sl_len hm
 have hl_hg := sl_len hg
 have hl_he := sl_len he
 refine co_enter (n := 113) Try.func8 rfl rfl rfl [(0, pt b 0), (1, .agg #[.int .i64 d.k, .int .i64 d.n, .int .u64 d.t, .int .i64 d.ep, mv, .int .u64 d.fl, lv, .int .i64 d.ec, .int .i64 d.er, ev, .int .u64 d.ets, .int .i64 d.pid, .int .u64 d.pat, .int .i64 d.plf, .int .i64 d.sc, .int .i64 d.sr, .int .i64 d.se, .int .i64 d.sp])] rfl (fun a h0 => ?_)
 refine co_seq ?_
 refine co_reg ?_
 refine pw h0 rfl (op_new (v := fun N => pt N 0) (T := 44) (cs := #[.int .i64 d.k, .int .i64 d.n, .int .u64 d.t, .int .i64 d.ep, mv, .int .u64 d.fl, lv, .int .i64 d.ec, .int .i64 d.er, ev, .int .u64 d.ets, .int .i64 d.pid, .int .u64 d.pat, .int .i64 d.plf, .int .i64 d.sc, .int .i64 d.sr, .int .i64 d.se, .int .i64 d.sp]) (by kernel_rfl) (by kernel_rfl) (by kernel_rfl)) ?_; clear h0
 rintro _ w2 a1 ⟨N3, rfl, hN6, hz7, hk5, hg4⟩ h1
 have ha8 := row_fresh hlgr hN6
 have ha9 := row_fresh hcvr hN6
 have hz10 := hg4.size
 try dsimp only at h1
 refine pk0 (v := .int .i64 0) h1 rfl fun a11 h11 => ?_; clear h1
 refine pl_nil ?_
 refine co_then ?_
 refine co_seq ?_
 refine co_seq ?_
 refine co_reg ?_
 refine pk0 (v := pt b 0) h11 rfl fun a12 h12 => ?_; clear h11
 have hk15 := hb.kept hg4 (by simp)
 refine pw h12 rfl (op_call (args := #[pt b 0]) (R := fun res xw => res = .bool false ∧ Below w2.heap.size w2 xw) rfl rfl rfl (by kernel_rfl) (by kernel_rfl) (Try.call19 _ _) (mszeroT b ep cv fl lgv hz pv tp x0 x1 x2 w2 hk15) (by rintro e x ⟨rfl, hb16⟩; exact ⟨_, rfl, ⟨rfl, hb16⟩⟩)) ?_; clear h12
 rintro _ w14 a13 ⟨rfl, hb16⟩ h13
 have hz17 := hb16.size
 refine pl_nil ?_
 refine co_then ?_
 refine co_false h13 rfl ?_
 refine wp_skip ?_
 refine co_then ?_
 refine co_seq ?_
 refine co_seq ?_
 refine co_reg ?_
 have hk18 := hk5.below hb16
 refine pk (v := .agg #[.int .i64 d.k, .int .i64 d.n, .int .u64 d.t, .int .i64 d.ep, mv, .int .u64 d.fl, lv, .int .i64 d.ec, .int .i64 d.er, ev, .int .u64 d.ets, .int .i64 d.pid, .int .u64 d.pat, .int .i64 d.plf, .int .i64 d.sc, .int .i64 d.sr, .int .i64 d.se, .int .i64 d.sp]) h13 rfl (rn_loadN rfl rfl Try.underlying44 rfl (by kernel_rfl) hk18.all) fun a19 h19 => ?_; clear h13
 have hB22 := fb_new hB0 hg4
 have hB23 := fb_call hB22 hb16
 refine pw h19 rfl (op_call (args := #[.agg #[.int .i64 d.k, .int .i64 d.n, .int .u64 d.t, .int .i64 d.ep, mv, .int .u64 d.fl, lv, .int .i64 d.ec, .int .i64 d.er, ev, .int .u64 d.ets, .int .i64 d.pid, .int .u64 d.pat, .int .i64 d.plf, .int .i64 d.sc, .int .i64 d.sr, .int .i64 d.se, .int .i64 d.sp]]) (R := fun res xw => res = .int .i64 (chkN d) ∧ Below w14.heap.size w14 xw) rfl rfl rfl (by kernel_rfl) (by kernel_rfl) (Try.call20 _ _) (nCheck_any d mv lv ev w14 (sl_butS hm hB23 hbm) (sl_butS hg hB23 hbg) (sl_butS he hB23 hbe) hR) (by rintro e x ⟨rfl, hb24⟩; exact ⟨_, rfl, ⟨rfl, hb24⟩⟩)) ?_; clear h19
 rintro _ w21 a20 ⟨rfl, hb24⟩ h20
 have hz25 := hb24.size
 refine pk0 (v := .int .i64 (chkN d)) h20 rfl fun a26 h26 => ?_; clear h20
 refine pl_nil ?_
 refine co_then ?_
 refine co_seq ?_
 refine co_reg ?_
 refine pk0 (v := .int .i64 (chkN d)) h26 rfl fun a27 h27 => ?_; clear h26
 refine pk0 (v := .bool (chkN d != 0)) h27 rfl fun a28 h28 => ?_; clear h27
 refine pl_nil ?_
 refine co_then ?_
 have hB30 := fb_call hB23 hb24
 have hk31 := hk15.below hb16
 have hk32 := hk31.below hb24
 have hr33 := row_kept_new hlgr hg4
 have hr34 := row_kept_new hr33 (below_grown hb16)
 have hr35 := row_kept_new hr34 (below_grown hb24)
 have hr36 := row_kept_new hcvr hg4
 have hr37 := row_kept_new hr36 (below_grown hb16)
 have hr38 := row_kept_new hr37 (below_grown hb24)
 cases hc29 : (chkN d != 0)
 ·
  rw [hc29] at h28
  have hp39 : ¬ (chkN d ≠ 0) := by first | simpa using hc29 | simpa [and_assoc] using hc29
  clear hc29
  refine co_false h28 rfl ?_
  refine wp_skip ?_
  refine co_then ?_
  refine co_seq ?_
  refine co_reg ?_
  refine pk0 (v := pt N3 1) h28 rfl fun a40 h40 => ?_; clear h28
  have hk41 := hk18.below hb24
  refine pk (v := .int .i64 d.n) h40 rfl (rn_load1 rfl rfl Try.isAgg3 (hk41.cell rfl)) fun a42 h42 => ?_; clear h40
  refine pw h42 rfl (op_new (v := fun N => .slice (some ⟨N, 0, none⟩) 1 1) (T := 3) (cs := #[.int .i64 d.n]) (by kernel_rfl) (by kernel_rfl) (by kernel_rfl)) ?_; clear h42
  rintro _ w44 a43 ⟨N45, rfl, hN48, hz49, hk47, hg46⟩ h43
  have ha50 := row_fresh hr35 hN48
  have ha51 := row_fresh hr38 hN48
  have hz52 := hg46.size
  try dsimp only at h43
  refine pk0 (v := .slice (some ⟨N45, 0, none⟩) 1 1) h43 rfl fun a53 h53 => ?_; clear h43
  refine pl_nil ?_
  refine co_then ?_
  refine co_seq ?_
  refine co_seq ?_
  refine co_reg ?_
  refine pk0 (v := pt N3 0) h53 rfl fun a54 h54 => ?_; clear h53
  have hk55 := hk41.kept hg46 (by simp)
  refine pk (v := .int .i64 d.k) h54 rfl (rn_load1 rfl rfl Try.isAgg3 (hk55.cell rfl)) fun a56 h56 => ?_; clear h54
  refine pl_nil ?_
  refine co_then ?_
  refine wp_block ?_
  refine co_seq ?_
  refine wp_block ?_
  refine co_seq ?_
  refine wp_block ?_
  refine co_seq ?_
  refine wp_block ?_
  refine co_seq ?_
  refine wp_block ?_
  refine co_seq ?_
  refine wp_block ?_
  refine co_seq ?_
  refine wp_block ?_
  refine co_seq ?_
  refine wp_block ?_
  refine co_seq ?_
  refine co_seq ?_
  refine co_seq ?_
  refine co_reg ?_
  refine pk0 (v := .bool (d.k == 1)) h56 rfl fun a57 h57 => ?_; clear h56
  refine pk0 (v := .bool (d.k == 1)) h57 rfl fun a58 h58 => ?_; clear h57
  refine pl_nil ?_
  refine co_then ?_
  have hc59 : (d.k == 1) = true := by first | (simp; done) | (simp; omega) | exact beq_false_of_ne (by omega) | exact beq_iff_eq.2 (by omega)
  rw [hc59] at h58; clear hc59
  refine co_true h58 rfl ?_
  refine wp_exit ?_
  refine co_thenX ?_
  refine co_thenX ?_
  refine co_blockX ?_
  refine co_then ?_
  refine co_seq ?_
  refine co_reg ?_
  refine pk0 (v := pt N3 6) h58 rfl fun a60 h60 => ?_; clear h58
  refine pk (v := lv) h60 rfl (rn_load1 rfl rfl Try.isAgg33 (hk55.cell rfl)) fun a61 h61 => ?_; clear h60
  refine pk0 (v := lv) h61 rfl fun a62 h62 => ?_; clear h61
  refine pl_nil ?_
  refine co_then ?_
  refine co_seq ?_
  refine co_reg ?_
  refine pk0 (v := pt b 0) h62 rfl fun a63 h63 => ?_; clear h62
  refine pk0 (v := pt N3 3) h63 rfl fun a64 h64 => ?_; clear h63
  refine pk (v := .agg #[.int .i64 d.ep, mv, .int .u64 d.fl]) h64 rfl (rn_loadN rfl rfl Try.underlying32 rfl (by kernel_rfl) (blk_part hk55 3 (by rfl))) fun a65 h65 => ?_; clear h64
  refine pk0 (v := lv) h65 rfl fun a66 h66 => ?_; clear h65
  have hB69 := fb_new hB30 hg46
  have hml : d.ms.length ≤ 20 := chkC_lenM (((chkN_ok (d := d) (by omega)).2.1 (by omega)).1)
  have hr70 := row_kept_new hr38 hg46
  have hr71 := row_kept_new hr35 hg46
  have hk72 := hk32.kept hg46 (by simp)
  refine pw h66 rfl (op_call (args := #[pt b 0, .agg #[.int .i64 d.ep, mv, .int .u64 d.fl], lv]) (R := fun res xw => ∃ cv2 : Value, ∃ lv2 : Value, res = .int .i64 ((fwS ep fl ms lg d.ep d.fl d.ms d.lg).1) ∧ Blk xw b 66 #[.bool true, .int .i64 ((fwS ep fl ms lg d.ep d.fl d.ms d.lg).2.1), cv2, .int .u64 ((fwS ep fl ms lg d.ep d.fl d.ms d.lg).2.2.1), lv2, .int .u64 hz, pv, .int .i64 tp, .bool x0.1, .int .i64 x0.2.1, .int .i64 x0.2.2.1, .int .i64 x0.2.2.2.1, .int .i64 x0.2.2.2.2, .bool x1.1, .int .i64 x1.2.1, .int .i64 x1.2.2.1, .int .i64 x1.2.2.2.1, .int .i64 x1.2.2.2.2, .bool x2.1, .int .i64 x2.2.1, .int .i64 x2.2.2.1, .int .i64 x2.2.2.2.1, .int .i64 x2.2.2.2.2] ∧ xw.ownsRow 0 102 2 cv2 ((fwS ep fl ms lg d.ep d.fl d.ms d.lg).2.2.2.1).length (((fwS ep fl ms lg d.ep d.fl d.ms d.lg).2.2.2.1).flatMap memE) ∧ xw.ownsRow 0 3 1 lv2 ((fwS ep fl ms lg d.ep d.fl d.ms d.lg).2.2.2.2).length (((fwS ep fl ms lg d.ep d.fl d.ms d.lg).2.2.2.2).flatMap (intE .i64)) ∧ But (fun q => q = b) w44 xw) rfl rfl rfl (by kernel_rfl) (by kernel_rfl) (Try.call21 _ _) (msFollow_any b ep cv fl lgv hz pv tp x0 x1 x2 ms lg d.ep d.fl mv d.ms lv d.lg w44 hk72 (row_lows hr70 (Nat.zero_le _)) (row_lows hr71 (Nat.zero_le _)) (sl_butS hm hB69 hbm) (sl_butS hg hB69 hbg) hml hbm hbg) (by rintro e x ⟨cv2, lv2, rfl, hq75, hq76, hq77, hb78⟩; exact ⟨_, rfl, ⟨cv2, lv2, rfl, hq75, hq76, hq77, hb78⟩⟩)) ?_; clear h66
  rintro _ w68 a67 ⟨cv273, lv274, rfl, hq75, hq76, hq77, hb78⟩ h67
  have hz79 := hb78.size
  have hl80 := hq75.lt
  refine pk0 (v := .int .i64 ((fwS ep fl ms lg d.ep d.fl d.ms d.lg).1)) h67 rfl fun a81 h81 => ?_; clear h67
  refine pl_nil ?_
  refine co_then ?_
  refine co_seq ?_
  refine co_reg ?_
  refine pk0 (v := .int .i64 ((fwS ep fl ms lg d.ep d.fl d.ms d.lg).1)) h81 rfl fun a82 h82 => ?_; clear h81
  refine pk0 (v := .bool ((fwS ep fl ms lg d.ep d.fl d.ms d.lg).1 != 0)) h82 rfl fun a83 h83 => ?_; clear h82
  refine pl_nil ?_
  refine co_then ?_
  have hB85 := fb_foot hB69 hb78 (fun i hlt hS => by (try simp at hS); first | omega | (simp; omega) | simp_all)
  cases hc84 : ((fwS ep fl ms lg d.ep d.fl d.ms d.lg).1 != 0)
  ·
   rw [hc84] at h83
   have hp86 : ¬ ((fwS ep fl ms lg d.ep d.fl d.ms d.lg).1 ≠ 0) := by first | simpa using hc84 | simpa [and_assoc] using hc84
   clear hc84
   refine co_false h83 rfl ?_
   refine wp_skip ?_
   refine co_blockN ?_
   refine co_then ?_
   refine co_seq ?_
   refine co_seq ?_
   refine co_reg ?_
   refine pk0 (v := pt b 0) h83 rfl fun a87 h87 => ?_; clear h83
   refine pk0 (v := lv) h87 rfl fun a88 h88 => ?_; clear h87
   have hfn := fwS_ne (by omega : (fwS ep fl ms lg d.ep d.fl d.ms d.lg).1 = 0)
   have hapt := own_neT hq76 hq75 (by decide)
   refine pw h88 rfl (op_call (args := #[pt b 0, lv]) (R := fun res xw => ∃ lv2 : Value, res = .int .i64 ((trF ((fwS ep fl ms lg d.ep d.fl d.ms d.lg).2.2.2.1) ((fwS ep fl ms lg d.ep d.fl d.ms d.lg).2.2.2.2) d.lg).1) ∧ Blk xw b 66 #[.bool true, .int .i64 ((fwS ep fl ms lg d.ep d.fl d.ms d.lg).2.1), cv273, .int .u64 ((fwS ep fl ms lg d.ep d.fl d.ms d.lg).2.2.1), lv2, .int .u64 hz, pv, .int .i64 tp, .bool x0.1, .int .i64 x0.2.1, .int .i64 x0.2.2.1, .int .i64 x0.2.2.2.1, .int .i64 x0.2.2.2.2, .bool x1.1, .int .i64 x1.2.1, .int .i64 x1.2.2.1, .int .i64 x1.2.2.2.1, .int .i64 x1.2.2.2.2, .bool x2.1, .int .i64 x2.2.1, .int .i64 x2.2.2.1, .int .i64 x2.2.2.2.1, .int .i64 x2.2.2.2.2] ∧ xw.ownsRow 0 3 1 lv2 ((trF ((fwS ep fl ms lg d.ep d.fl d.ms d.lg).2.2.2.1) ((fwS ep fl ms lg d.ep d.fl d.ms d.lg).2.2.2.2) d.lg).2).length (((trF ((fwS ep fl ms lg d.ep d.fl d.ms d.lg).2.2.2.1) ((fwS ep fl ms lg d.ep d.fl d.ms d.lg).2.2.2.2) d.lg).2).flatMap (intE .i64)) ∧ But (fun q => q = b) w68 xw) rfl rfl rfl (by kernel_rfl) (by kernel_rfl) (Try.call22 _ _) (msTrust_any b ((fwS ep fl ms lg d.ep d.fl d.ms d.lg).2.1) cv273 ((fwS ep fl ms lg d.ep d.fl d.ms d.lg).2.2.1) lv274 hz pv tp x0 x1 x2 ((fwS ep fl ms lg d.ep d.fl d.ms d.lg).2.2.2.1) ((fwS ep fl ms lg d.ep d.fl d.ms d.lg).2.2.2.2) lv d.lg w68 hq75 (row_sl hq76 memE_len) (row_lows hq77 (Nat.zero_le _)) (sl_butS hg hB85 hbg) (by have := hfn.1; omega) (by rw [hfn.2]; have := ((chkN_ok (d := d) (by omega)).2.1 (by omega)).2.2; simp only [List.length_nil]; omega) (fun _ k e q => own_neT hq76 hq75 (by decide) (by rw [e, q])) hbg) (by rintro e x ⟨lv2, rfl, hq92, hq93, hb94⟩; exact ⟨_, rfl, ⟨lv2, rfl, hq92, hq93, hb94⟩⟩)) ?_; clear h88
   rintro _ w90 a89 ⟨lv291, rfl, hq92, hq93, hb94⟩ h89
   have hz95 := hb94.size
   have hl96 := hq92.lt
   refine pk0 (v := .int .i64 ((trF ((fwS ep fl ms lg d.ep d.fl d.ms d.lg).2.2.2.1) ((fwS ep fl ms lg d.ep d.fl d.ms d.lg).2.2.2.2) d.lg).1)) h89 rfl fun a97 h97 => ?_; clear h89
   refine pl_nil ?_
   refine co_then ?_
   refine wp_ret ?_
   refine co_thenR ?_
   refine co_blockR ?_
   refine co_thenR ?_
   refine co_blockR ?_
   refine co_thenR ?_
   refine co_blockR ?_
   refine co_thenR ?_
   refine co_blockR ?_
   refine co_thenR ?_
   refine co_blockR ?_
   refine co_thenR ?_
   refine co_blockR ?_
   refine co_thenR ?_
   refine co_ret1 h97 rfl rfl ?_
   have hr98 := own_but hq76 hb94 (fun i hi hS => by (try simp at hS); subst hS; exact absurd hi (hapt))
   have hB99 := fb_foot hB85 hb94 (fun i hlt hS => by (try simp at hS); first | omega | (simp; omega) | simp_all)
   have hA : ap1 ep fl ms lg d = ((trF ((fwS ep fl ms lg d.ep d.fl d.ms d.lg).2.2.2.1) ((fwS ep fl ms lg d.ep d.fl d.ms d.lg).2.2.2.2) d.lg).1, (fwS ep fl ms lg d.ep d.fl d.ms d.lg).2.1, (fwS ep fl ms lg d.ep d.fl d.ms d.lg).2.2.1, (fwS ep fl ms lg d.ep d.fl d.ms d.lg).2.2.2.1, (trF ((fwS ep fl ms lg d.ep d.fl d.ms d.lg).2.2.2.1) ((fwS ep fl ms lg d.ep d.fl d.ms d.lg).2.2.2.2) d.lg).2) := by unfold ap1; first | (rw [if_pos (by omega)]; done) | (rw [if_neg (by omega), if_pos (by omega)]; done) | (rw [if_neg (by omega), if_neg (by omega)]; done) | (rw [if_neg (by omega), if_pos (by omega)]; rfl)
   exact ⟨cv273, lv291, by rw [hA], by rw [hA]; exact hq92, by rw [hA]; exact hr98, by rw [hA]; exact hq93, hB99⟩
  ·
   rw [hc84] at h83
   have hp100 : (fwS ep fl ms lg d.ep d.fl d.ms d.lg).1 ≠ 0 := by first | simpa using hc84 | simpa [and_assoc] using hc84
   clear hc84
   refine co_true h83 rfl ?_
   refine co_seq ?_
   refine co_reg ?_
   refine pk0 (v := .int .i64 ((fwS ep fl ms lg d.ep d.fl d.ms d.lg).1)) h83 rfl fun a101 h101 => ?_; clear h83
   refine pk0 (v := .int .i64 ((fwS ep fl ms lg d.ep d.fl d.ms d.lg).1)) h101 rfl fun a102 h102 => ?_; clear h101
   refine pl_nil ?_
   refine co_then ?_
   refine wp_ret ?_
   refine co_blockR ?_
   refine co_thenR ?_
   refine co_blockR ?_
   refine co_thenR ?_
   refine co_blockR ?_
   refine co_thenR ?_
   refine co_blockR ?_
   refine co_thenR ?_
   refine co_blockR ?_
   refine co_thenR ?_
   refine co_blockR ?_
   refine co_thenR ?_
   refine co_blockR ?_
   refine co_thenR ?_
   refine co_ret1 h102 rfl rfl ?_
   have hA : ap1 ep fl ms lg d = ((fwS ep fl ms lg d.ep d.fl d.ms d.lg).1, (fwS ep fl ms lg d.ep d.fl d.ms d.lg).2.1, (fwS ep fl ms lg d.ep d.fl d.ms d.lg).2.2.1, (fwS ep fl ms lg d.ep d.fl d.ms d.lg).2.2.2.1, (fwS ep fl ms lg d.ep d.fl d.ms d.lg).2.2.2.2) := by unfold ap1; first | (rw [if_pos (by omega)]; done) | (rw [if_neg (by omega), if_pos (by omega)]; done) | (rw [if_neg (by omega), if_neg (by omega)]; done) | (rw [if_neg (by omega), if_pos (by omega)]; rfl)
   exact ⟨cv273, lv274, by rw [hA], by rw [hA]; exact hq75, by rw [hA]; exact hq76, by rw [hA]; exact hq77, hB85⟩
 ·
  rw [hc29] at h28
  have hp103 : chkN d ≠ 0 := by first | simpa using hc29 | simpa [and_assoc] using hc29
  clear hc29
  refine co_true h28 rfl ?_
  refine co_seq ?_
  refine co_reg ?_
  refine pk0 (v := .int .i64 (chkN d)) h28 rfl fun a104 h104 => ?_; clear h28
  refine pk0 (v := .int .i64 (chkN d)) h104 rfl fun a105 h105 => ?_; clear h104
  refine pl_nil ?_
  refine co_then ?_
  refine wp_ret ?_
  refine co_thenR ?_
  refine co_ret1 h105 rfl rfl ?_
  have hA : ap1 ep fl ms lg d = (chkN d, ep, fl, ms, lg) := by unfold ap1; first | (rw [if_pos (by omega)]; done) | (rw [if_neg (by omega), if_pos (by omega)]; done) | (rw [if_neg (by omega), if_neg (by omega)]; done) | (rw [if_neg (by omega), if_pos (by omega)]; rfl)
  exact ⟨cv, lgv, by rw [hA], by rw [hA]; exact hk32, by rw [hA]; exact hr38, by rw [hA]; exact hr35, hB30⟩
end Go.Proofs.Ytnjbnndpbegkdaa

/- Package mstate: Apply of what a client is told, of a note that may not be written. Conditions: none. -/
namespace Go.Proofs.Ytnjbnndpbegkdaa
open Go.RowKit Go.PlainAid
set_option linter.unusedVariables false
set_option linter.unusedSimpArgs false


def sdF (x : SdT) (d : NoteD) : Int × SdT := if chkN d ≠ 0 then (chkN d, x) else if d.sr < x.2.2.1 then (18, x) else (0, (true, d.sc, d.sr, d.se, d.sp))

set_option maxRecDepth 100000 in
set_option maxHeartbeats 1600000 in
theorem msApply80 (b : Nat) (ep : Int) (cv : Value) (fl : Int) (lgv : Value) (hz : Int) (pv : Value) (tp : Int) (x0 : SdT) (x1 : SdT) (x2 : SdT) (d : NoteD) (mv : Value) (lv : Value) (ev : Value) (w : World) (hb : Blk w b 66 #[.bool true, .int .i64 ep, cv, .int .u64 fl, lgv, .int .u64 hz, pv, .int .i64 tp, .bool x0.1, .int .i64 x0.2.1, .int .i64 x0.2.2.1, .int .i64 x0.2.2.2.1, .int .i64 x0.2.2.2.2, .bool x1.1, .int .i64 x1.2.1, .int .i64 x1.2.2.1, .int .i64 x1.2.2.2.1, .int .i64 x1.2.2.2.2, .bool x2.1, .int .i64 x2.2.1, .int .i64 x2.2.2.1, .int .i64 x2.2.2.2.1, .int .i64 x2.2.2.2.2]) (hm : SliceOf memE 2 w mv d.ms) (hg : SliceOf (intE .i64) 1 w lv d.lg) (he : SliceOf opE 3 w ev d.el) (hR : NoteR d) (hbm : d.ms ≠ [] → ∀ k, mv.ownBlock = some k → ¬ k = b) (hbg : d.lg ≠ [] → ∀ k, lv.ownBlock = some k → ¬ k = b) (hbe : d.el ≠ [] → ∀ k, ev.ownBlock = some k → ¬ k = b) (hkx : d.k = 8) (hsc : d.sc = 0) :
    Calls Try.prog 8 #[pt b 0, .agg #[.int .i64 d.k, .int .i64 d.n, .int .u64 d.t, .int .i64 d.ep, mv, .int .u64 d.fl, lv, .int .i64 d.ec, .int .i64 d.er, ev, .int .u64 d.ets, .int .i64 d.pid, .int .u64 d.pat, .int .i64 d.plf, .int .i64 d.sc, .int .i64 d.sr, .int .i64 d.se, .int .i64 d.sp]] w fun e w' => e = .returned (.int .i64 ((sdF x0 d).1)) ∧ Blk w' b 66 #[.bool true, .int .i64 ep, cv, .int .u64 fl, lgv, .int .u64 hz, pv, .int .i64 tp, .bool ((sdF x0 d).2.1), .int .i64 ((sdF x0 d).2.2.1), .int .i64 ((sdF x0 d).2.2.2.1), .int .i64 ((sdF x0 d).2.2.2.2.1), .int .i64 ((sdF x0 d).2.2.2.2.2), .bool x1.1, .int .i64 x1.2.1, .int .i64 x1.2.2.1, .int .i64 x1.2.2.2.1, .int .i64 x1.2.2.2.2, .bool x2.1, .int .i64 x2.2.1, .int .i64 x2.2.2.1, .int .i64 x2.2.2.2.1, .int .i64 x2.2.2.2.2] ∧ But (fun q => q = b) w w' := by
 have hrng := hR.rng
 have hB0 := But.refl (fun q => q = b) w
 have hl_hb := hb.lt
 have hl_hm := sl_len hm
 have hl_hg := sl_len hg
 have hl_he := sl_len he
 refine co_enter (n := 113) Try.func8 rfl rfl rfl [(0, pt b 0), (1, .agg #[.int .i64 d.k, .int .i64 d.n, .int .u64 d.t, .int .i64 d.ep, mv, .int .u64 d.fl, lv, .int .i64 d.ec, .int .i64 d.er, ev, .int .u64 d.ets, .int .i64 d.pid, .int .u64 d.pat, .int .i64 d.plf, .int .i64 d.sc, .int .i64 d.sr, .int .i64 d.se, .int .i64 d.sp])] rfl (fun a h0 => ?_)
 refine co_seq ?_
 refine co_reg ?_
 refine pw h0 rfl (op_new (v := fun N => pt N 0) (T := 44) (cs := #[.int .i64 d.k, .int .i64 d.n, .int .u64 d.t, .int .i64 d.ep, mv, .int .u64 d.fl, lv, .int .i64 d.ec, .int .i64 d.er, ev, .int .u64 d.ets, .int .i64 d.pid, .int .u64 d.pat, .int .i64 d.plf, .int .i64 d.sc, .int .i64 d.sr, .int .i64 d.se, .int .i64 d.sp]) (by kernel_rfl) (by kernel_rfl) (by kernel_rfl)) ?_; clear h0
 rintro _ w2 a1 ⟨N3, rfl, hN6, hz7, hk5, hg4⟩ h1
 have hz8 := hg4.size
 try dsimp only at h1
 refine pk0 (v := .int .i64 0) h1 rfl fun a9 h9 => ?_; clear h1
 refine pl_nil ?_
 refine co_then ?_
 refine co_seq ?_
 refine co_seq ?_
 refine co_reg ?_
 refine pk0 (v := pt b 0) h9 rfl fun a10 h10 => ?_; clear h9
 have hk13 := hb.kept hg4 (by simp)
 refine pw h10 rfl (op_call (args := #[pt b 0]) (R := fun res xw => res = .bool false ∧ Below w2.heap.size w2 xw) rfl rfl rfl (by kernel_rfl) (by kernel_rfl) (Try.call19 _ _) (mszeroT b ep cv fl lgv hz pv tp x0 x1 x2 w2 hk13) (by rintro e x ⟨rfl, hb14⟩; exact ⟨_, rfl, ⟨rfl, hb14⟩⟩)) ?_; clear h10
 rintro _ w12 a11 ⟨rfl, hb14⟩ h11
 have hz15 := hb14.size
 refine pl_nil ?_
 refine co_then ?_
 refine co_false h11 rfl ?_
 refine wp_skip ?_
 refine co_then ?_
 refine co_seq ?_
 refine co_seq ?_
 refine co_reg ?_
 have hk16 := hk5.below hb14
 refine pk (v := .agg #[.int .i64 d.k, .int .i64 d.n, .int .u64 d.t, .int .i64 d.ep, mv, .int .u64 d.fl, lv, .int .i64 d.ec, .int .i64 d.er, ev, .int .u64 d.ets, .int .i64 d.pid, .int .u64 d.pat, .int .i64 d.plf, .int .i64 d.sc, .int .i64 d.sr, .int .i64 d.se, .int .i64 d.sp]) h11 rfl (rn_loadN rfl rfl Try.underlying44 rfl (by kernel_rfl) hk16.all) fun a17 h17 => ?_; clear h11
 have hB20 := fb_new hB0 hg4
 have hB21 := fb_call hB20 hb14
 refine pw h17 rfl (op_call (args := #[.agg #[.int .i64 d.k, .int .i64 d.n, .int .u64 d.t, .int .i64 d.ep, mv, .int .u64 d.fl, lv, .int .i64 d.ec, .int .i64 d.er, ev, .int .u64 d.ets, .int .i64 d.pid, .int .u64 d.pat, .int .i64 d.plf, .int .i64 d.sc, .int .i64 d.sr, .int .i64 d.se, .int .i64 d.sp]]) (R := fun res xw => res = .int .i64 (chkN d) ∧ Below w12.heap.size w12 xw) rfl rfl rfl (by kernel_rfl) (by kernel_rfl) (Try.call20 _ _) (nCheck_any d mv lv ev w12 (sl_butS hm hB21 hbm) (sl_butS hg hB21 hbg) (sl_butS he hB21 hbe) hR) (by rintro e x ⟨rfl, hb22⟩; exact ⟨_, rfl, ⟨rfl, hb22⟩⟩)) ?_; clear h17
 rintro _ w19 a18 ⟨rfl, hb22⟩ h18
 have hz23 := hb22.size
 refine pk0 (v := .int .i64 (chkN d)) h18 rfl fun a24 h24 => ?_; clear h18
 refine pl_nil ?_
 refine co_then ?_
 refine co_seq ?_
 refine co_reg ?_
 refine pk0 (v := .int .i64 (chkN d)) h24 rfl fun a25 h25 => ?_; clear h24
 refine pk0 (v := .bool (chkN d != 0)) h25 rfl fun a26 h26 => ?_; clear h25
 refine pl_nil ?_
 refine co_then ?_
 have hB28 := fb_call hB21 hb22
 have hk29 := hk13.below hb14
 have hk30 := hk29.below hb22
 cases hc27 : (chkN d != 0)
 ·
  rw [hc27] at h26
  have hp31 : ¬ (chkN d ≠ 0) := by first | simpa using hc27 | simpa [and_assoc] using hc27
  clear hc27
  refine co_false h26 rfl ?_
  refine wp_skip ?_
  refine co_then ?_
  refine co_seq ?_
  refine co_reg ?_
  refine pk0 (v := pt N3 1) h26 rfl fun a32 h32 => ?_; clear h26
  have hk33 := hk16.below hb22
  refine pk (v := .int .i64 d.n) h32 rfl (rn_load1 rfl rfl Try.isAgg3 (hk33.cell rfl)) fun a34 h34 => ?_; clear h32
  refine pw h34 rfl (op_new (v := fun N => .slice (some ⟨N, 0, none⟩) 1 1) (T := 3) (cs := #[.int .i64 d.n]) (by kernel_rfl) (by kernel_rfl) (by kernel_rfl)) ?_; clear h34
  rintro _ w36 a35 ⟨N37, rfl, hN40, hz41, hk39, hg38⟩ h35
  have hz42 := hg38.size
  try dsimp only at h35
  refine pk0 (v := .slice (some ⟨N37, 0, none⟩) 1 1) h35 rfl fun a43 h43 => ?_; clear h35
  refine pl_nil ?_
  refine co_then ?_
  refine co_seq ?_
  refine co_seq ?_
  refine co_reg ?_
  refine pk0 (v := pt N3 0) h43 rfl fun a44 h44 => ?_; clear h43
  have hk45 := hk33.kept hg38 (by simp)
  refine pk (v := .int .i64 d.k) h44 rfl (rn_load1 rfl rfl Try.isAgg3 (hk45.cell rfl)) fun a46 h46 => ?_; clear h44
  refine pl_nil ?_
  refine co_then ?_
  refine wp_block ?_
  refine co_seq ?_
  refine wp_block ?_
  refine co_seq ?_
  refine wp_block ?_
  refine co_seq ?_
  refine wp_block ?_
  refine co_seq ?_
  refine wp_block ?_
  refine co_seq ?_
  refine wp_block ?_
  refine co_seq ?_
  refine wp_block ?_
  refine co_seq ?_
  refine wp_block ?_
  refine co_seq ?_
  refine co_seq ?_
  refine co_seq ?_
  refine co_reg ?_
  refine pk0 (v := .bool (d.k == 1)) h46 rfl fun a47 h47 => ?_; clear h46
  refine pk0 (v := .bool (d.k == 1)) h47 rfl fun a48 h48 => ?_; clear h47
  refine pl_nil ?_
  refine co_then ?_
  have hc49 : (d.k == 1) = false := by first | (simp; done) | (simp; omega) | exact beq_false_of_ne (by omega) | exact beq_iff_eq.2 (by omega)
  rw [hc49] at h48; clear hc49
  refine co_false h48 rfl ?_
  refine wp_skip ?_
  refine co_then ?_
  refine co_seq ?_
  refine co_seq ?_
  refine co_reg ?_
  refine pk0 (v := .bool (d.k == 5)) h48 rfl fun a50 h50 => ?_; clear h48
  refine pk0 (v := .bool (d.k == 5)) h50 rfl fun a51 h51 => ?_; clear h50
  refine pl_nil ?_
  refine co_then ?_
  have hc52 : (d.k == 5) = false := by first | (simp; done) | (simp; omega) | exact beq_false_of_ne (by omega) | exact beq_iff_eq.2 (by omega)
  rw [hc52] at h51; clear hc52
  refine co_false h51 rfl ?_
  refine wp_skip ?_
  refine co_then ?_
  refine co_seq ?_
  refine co_seq ?_
  refine co_reg ?_
  refine pk0 (v := .bool (d.k == 4)) h51 rfl fun a53 h53 => ?_; clear h51
  refine pk0 (v := .bool (d.k == 4)) h53 rfl fun a54 h54 => ?_; clear h53
  refine pl_nil ?_
  refine co_then ?_
  have hc55 : (d.k == 4) = false := by first | (simp; done) | (simp; omega) | exact beq_false_of_ne (by omega) | exact beq_iff_eq.2 (by omega)
  rw [hc55] at h54; clear hc55
  refine co_false h54 rfl ?_
  refine wp_skip ?_
  refine co_then ?_
  refine co_seq ?_
  refine co_seq ?_
  refine co_reg ?_
  refine pk0 (v := .bool (d.k == 6)) h54 rfl fun a56 h56 => ?_; clear h54
  refine pk0 (v := .bool (d.k == 6)) h56 rfl fun a57 h57 => ?_; clear h56
  refine pl_nil ?_
  refine co_then ?_
  have hc58 : (d.k == 6) = false := by first | (simp; done) | (simp; omega) | exact beq_false_of_ne (by omega) | exact beq_iff_eq.2 (by omega)
  rw [hc58] at h57; clear hc58
  refine co_false h57 rfl ?_
  refine wp_skip ?_
  refine co_then ?_
  refine co_seq ?_
  refine co_seq ?_
  refine co_reg ?_
  refine pk0 (v := .bool (d.k == 7)) h57 rfl fun a59 h59 => ?_; clear h57
  refine pk0 (v := .bool (d.k == 7)) h59 rfl fun a60 h60 => ?_; clear h59
  refine pl_nil ?_
  refine co_then ?_
  have hc61 : (d.k == 7) = false := by first | (simp; done) | (simp; omega) | exact beq_false_of_ne (by omega) | exact beq_iff_eq.2 (by omega)
  rw [hc61] at h60; clear hc61
  refine co_false h60 rfl ?_
  refine wp_skip ?_
  refine co_then ?_
  refine co_seq ?_
  refine co_reg ?_
  refine pk0 (v := .bool (d.k == 8)) h60 rfl fun a62 h62 => ?_; clear h60
  refine pk0 (v := .bool (d.k == 8)) h62 rfl fun a63 h63 => ?_; clear h62
  refine pl_nil ?_
  refine co_then ?_
  have hc64 : (d.k == 8) = true := by first | (simp; done) | (simp; omega) | exact beq_false_of_ne (by omega) | exact beq_iff_eq.2 (by omega)
  rw [hc64] at h63; clear hc64
  refine co_true h63 rfl ?_
  refine wp_exit ?_
  refine co_thenX ?_
  refine co_blockY (by decide) ?_
  refine co_thenX ?_
  refine co_blockY (by decide) ?_
  refine co_thenX ?_
  refine co_blockY (by decide) ?_
  refine co_thenX ?_
  refine co_blockY (by decide) ?_
  refine co_thenX ?_
  refine co_blockY (by decide) ?_
  refine co_thenX ?_
  refine co_blockX ?_
  refine co_then ?_
  refine co_seq ?_
  refine co_seq ?_
  refine co_seq ?_
  refine dr_eq (by kernel_rfl) (fun w65 hg66 => ?_)
  have hz67 := hg66.size
  refine dk0 0 (v := pt N3 14) h63 rfl rfl rfl fun a68 h68 => ?_; clear h63
  refine dk0 1 (v := pt N3 15) h68 rfl rfl rfl fun a69 h69 => ?_; clear h68
  have hk70 := hk45.kept hg66 (by simp)
  refine dk 2 (v := .int .i64 d.sr) h69 rfl rfl rfl (fun x hx => by subst hx; exact (rn_load1 rfl rfl Try.isAgg3 (hk70.cell rfl))) fun a71 h71 => ?_; clear h69
  refine dk0 3 (v := pt b 0) h71 rfl rfl rfl fun a72 h72 => ?_; clear h71
  refine dk0 4 (v := pt N3 14) h72 rfl rfl rfl fun a73 h73 => ?_; clear h72
  refine dk0 5 (v := pt N3 14) h73 rfl rfl rfl fun a74 h74 => ?_; clear h73
  refine dk 6 (v := .int .i64 d.sc) h74 rfl rfl rfl (fun x hx => by subst hx; exact (rn_load1 rfl rfl Try.isAgg3 (hk70.cell rfl))) fun a75 h75 => ?_; clear h74
  refine dk0 7 (v := pt b 0) h75 rfl rfl rfl fun a76 h76 => ?_; clear h75
  refine dk0 8 (v := pt b 8) h76 rfl rfl rfl fun a77 h77 => ?_; clear h76
  refine dk 9 (v := pt b 8) h77 rfl rfl rfl (fun x hx => by subst hx; exact (by rw [hsc]; kernel_rfl)) fun a78 h78 => ?_; clear h77
  refine dk0 10 (v := pt b 9) h78 rfl rfl rfl fun a79 h79 => ?_; clear h78
  refine dk0 11 (v := pt b 10) h79 rfl rfl rfl fun a80 h80 => ?_; clear h79
  have hk81 := hk30.kept hg38 (by simp)
  have hk82 := hk81.kept hg66 (by simp)
  refine dk 12 (v := .int .i64 x0.2.2.1) h80 rfl rfl rfl (fun x hx => by subst hx; exact (rn_load1 rfl rfl Try.isAgg3 (hk82.cell rfl))) fun a83 h83 => ?_; clear h80
  refine dk0 13 (v := .bool (decide (d.sr < x0.2.2.1))) h83 rfl rfl rfl fun a84 h84 => ?_; clear h83
  refine dr_done (by kernel_rfl) ?_
  refine co_then ?_
  have hB86 := fb_new hB28 hg38
  have hB87 := fb_new hB86 hg66
  cases hc85 : (decide (d.sr < x0.2.2.1))
  ·
   rw [hc85] at h84
   have hp88 : ¬ (d.sr < x0.2.2.1) := of_decide_eq_false hc85
   clear hc85
   refine co_false h84 rfl ?_
   refine wp_skip ?_
   refine co_then ?_
   refine dr_gen (fun x => But (fun q => q = b) w x ∧ Blk x N3 44 #[.int .i64 d.k, .int .i64 d.n, .int .u64 d.t, .int .i64 d.ep, mv, .int .u64 d.fl, lv, .int .i64 d.ec, .int .i64 d.er, ev, .int .u64 d.ets, .int .i64 d.pid, .int .u64 d.pat, .int .i64 d.plf, .int .i64 d.sc, .int .i64 d.sr, .int .i64 d.se, .int .i64 d.sp]) (by kernel_rfl) (fun w89 hg90 => ?_) (fun w89 hg90 => ?_)
   ·
    have hz91 := hg90.size
    have hB92 := fb_new hB87 hg90
    have hk93 := hk70.kept hg90 (by simp)
    exact ⟨hB92, hk93⟩
   have hz94 := hg90.size
   have hB95 := fb_new hB87 hg90
   have hk96 := hk70.kept hg90 (by simp)
   refine dk0 0 (v := pt b 0) h84 rfl rfl ⟨hB95, hk96⟩ fun a97 h97 => ?_; clear h84
   refine dk0 1 (v := pt N3 14) h97 rfl rfl ⟨hB95, hk96⟩ fun a98 h98 => ?_; clear h97
   refine dk0 2 (v := pt N3 14) h98 rfl rfl ⟨hB95, hk96⟩ fun a99 h99 => ?_; clear h98
   refine dk 3 (v := .int .i64 d.sc) h99 rfl rfl ⟨hB95, hk96⟩ (fun x hx => (rn_load1 rfl rfl Try.isAgg3 (hx.2.cell rfl))) fun a100 h100 => ?_; clear h99
   refine dk0 4 (v := pt N3 14) h100 rfl rfl ⟨hB95, hk96⟩ fun a101 h101 => ?_; clear h100
   refine dk 5 (v := .agg #[.int .i64 d.sc, .int .i64 d.sr, .int .i64 d.se, .int .i64 d.sp]) h101 rfl rfl ⟨hB95, hk96⟩ (fun x hx => (rn_loadN rfl rfl Try.underlying42 rfl (by kernel_rfl) (blk_part hx.2 14 (by rfl)))) fun a102 h102 => ?_; clear h101
   refine dk0 6 (v := .agg #[.bool true, .int .i64 d.sc, .int .i64 d.sr, .int .i64 d.se, .int .i64 d.sp]) h102 rfl rfl ⟨hB95, hk96⟩ fun a103 h103 => ?_; clear h102
   refine dk0 7 (v := pt b 0) h103 rfl rfl ⟨hB95, hk96⟩ fun a104 h104 => ?_; clear h103
   refine dk0 8 (v := pt b 8) h104 rfl rfl ⟨hB95, hk96⟩ fun a105 h105 => ?_; clear h104
   refine dk 9 (v := pt b 8) h105 rfl rfl ⟨hB95, hk96⟩ (fun x hx => (by rw [hsc]; kernel_rfl)) fun a106 h106 => ?_; clear h105
   have hk112 := hk82.kept hg90 (by simp)
   refine d1D 10 h106 rfl rfl (op_storePart (k := 8) (cs' := #[.bool true, .int .i64 ep, cv, .int .u64 fl, lgv, .int .u64 hz, pv, .int .i64 tp, .bool true, .int .i64 d.sc, .int .i64 d.sr, .int .i64 d.se, .int .i64 d.sp, .bool x1.1, .int .i64 x1.2.1, .int .i64 x1.2.2.1, .int .i64 x1.2.2.2.1, .int .i64 x1.2.2.2.2, .bool x2.1, .int .i64 x2.2.1, .int .i64 x2.2.2.1, .int .i64 x2.2.2.2.1, .int .i64 x2.2.2.2.2]) rfl rfl rfl (by kernel_rfl) (by kernel_rfl) hk112 rfl rfl) ?_ ?_; clear h106
   ·
    rintro _ w108 ⟨hk109, hz110, hg111⟩
    have hk109' : Blk w108 b 66 #[.bool true, .int .i64 ep, cv, .int .u64 fl, lgv, .int .u64 hz, pv, .int .i64 tp, .bool true, .int .i64 d.sc, .int .i64 d.sr, .int .i64 d.se, .int .i64 d.sp, .bool x1.1, .int .i64 x1.2.1, .int .i64 x1.2.2.1, .int .i64 x1.2.2.2.1, .int .i64 x1.2.2.2.2, .bool x2.1, .int .i64 x2.2.1, .int .i64 x2.2.2.1, .int .i64 x2.2.2.2.1, .int .i64 x2.2.2.2.2] := hk109; clear hk109
    have hz113 := hg111.size
    have hB114 := fb_at hB95 hg111 (fun hlt => by first | (exfalso; omega) | (simp; done) | simp_all)
    have hk115 := hk96.kept hg111 (by simp; omega)
    exact ⟨hB114, hk115⟩
   rintro _ w108 a107 ⟨hk109, hz110, hg111⟩ h107
   have hk109' : Blk w108 b 66 #[.bool true, .int .i64 ep, cv, .int .u64 fl, lgv, .int .u64 hz, pv, .int .i64 tp, .bool true, .int .i64 d.sc, .int .i64 d.sr, .int .i64 d.se, .int .i64 d.sp, .bool x1.1, .int .i64 x1.2.1, .int .i64 x1.2.2.1, .int .i64 x1.2.2.2.1, .int .i64 x1.2.2.2.2, .bool x2.1, .int .i64 x2.2.1, .int .i64 x2.2.2.1, .int .i64 x2.2.2.2.1, .int .i64 x2.2.2.2.2] := hk109; clear hk109
   have hz113 := hg111.size
   refine dr_done (by kernel_rfl) ?_
   refine co_then ?_
   refine wp_exit ?_
   refine co_blockY (by decide) ?_
   refine co_thenX ?_
   refine co_blockX ?_
   refine co_then ?_
   refine co_seq ?_
   refine co_reg ?_
   refine pk0 (v := .int .i64 0) h107 rfl fun a114 h114 => ?_; clear h107
   refine pl_nil ?_
   refine co_then ?_
   refine wp_ret ?_
   refine co_ret1 h114 rfl rfl ?_
   have hB115 := fb_at hB95 hg111 (fun hlt => by first | (exfalso; omega) | (simp; done) | simp_all)
   have hA : sdF x0 d = (0, (true, d.sc, d.sr, d.se, d.sp)) := by unfold sdF; first | (rw [if_pos (by omega)]; done) | (rw [if_neg (by omega), if_pos (by omega)]; done) | (rw [if_neg (by omega), if_neg (by omega)]; done)
   exact ⟨by rw [hA], by rw [hA]; exact hk109', hB115⟩
  ·
   rw [hc85] at h84
   have hp116 : d.sr < x0.2.2.1 := of_decide_eq_true hc85
   clear hc85
   refine co_true h84 rfl ?_
   refine co_seq ?_
   refine co_reg ?_
   refine pk0 (v := .int .i64 18) h84 rfl fun a117 h117 => ?_; clear h84
   refine pl_nil ?_
   refine co_then ?_
   refine wp_ret ?_
   refine co_thenR ?_
   refine co_thenR ?_
   refine co_blockR ?_
   refine co_thenR ?_
   refine co_blockR ?_
   refine co_thenR ?_
   refine co_ret1 h117 rfl rfl ?_
   have hA : sdF x0 d = (18, x0) := by unfold sdF; first | (rw [if_pos (by omega)]; done) | (rw [if_neg (by omega), if_pos (by omega)]; done) | (rw [if_neg (by omega), if_neg (by omega)]; done)
   exact ⟨by rw [hA], by rw [hA]; exact hk82, hB87⟩
 ·
  rw [hc27] at h26
  have hp118 : chkN d ≠ 0 := by first | simpa using hc27 | simpa [and_assoc] using hc27
  clear hc27
  refine co_true h26 rfl ?_
  refine co_seq ?_
  refine co_reg ?_
  refine pk0 (v := .int .i64 (chkN d)) h26 rfl fun a119 h119 => ?_; clear h26
  refine pk0 (v := .int .i64 (chkN d)) h119 rfl fun a120 h120 => ?_; clear h119
  refine pl_nil ?_
  refine co_then ?_
  refine wp_ret ?_
  refine co_thenR ?_
  refine co_ret1 h120 rfl rfl ?_
  have hA : sdF x0 d = (chkN d, x0) := by unfold sdF; first | (rw [if_pos (by omega)]; done) | (rw [if_neg (by omega), if_pos (by omega)]; done) | (rw [if_neg (by omega), if_neg (by omega)]; done)
  exact ⟨by rw [hA], by rw [hA]; exact hk30, hB28⟩
set_option maxRecDepth 100000 in
set_option maxHeartbeats 1600000 in
theorem msApply81 (b : Nat) (ep : Int) (cv : Value) (fl : Int) (lgv : Value) (hz : Int) (pv : Value) (tp : Int) (x0 : SdT) (x1 : SdT) (x2 : SdT) (d : NoteD) (mv : Value) (lv : Value) (ev : Value) (w : World) (hb : Blk w b 66 #[.bool true, .int .i64 ep, cv, .int .u64 fl, lgv, .int .u64 hz, pv, .int .i64 tp, .bool x0.1, .int .i64 x0.2.1, .int .i64 x0.2.2.1, .int .i64 x0.2.2.2.1, .int .i64 x0.2.2.2.2, .bool x1.1, .int .i64 x1.2.1, .int .i64 x1.2.2.1, .int .i64 x1.2.2.2.1, .int .i64 x1.2.2.2.2, .bool x2.1, .int .i64 x2.2.1, .int .i64 x2.2.2.1, .int .i64 x2.2.2.2.1, .int .i64 x2.2.2.2.2]) (hm : SliceOf memE 2 w mv d.ms) (hg : SliceOf (intE .i64) 1 w lv d.lg) (he : SliceOf opE 3 w ev d.el) (hR : NoteR d) (hbm : d.ms ≠ [] → ∀ k, mv.ownBlock = some k → ¬ k = b) (hbg : d.lg ≠ [] → ∀ k, lv.ownBlock = some k → ¬ k = b) (hbe : d.el ≠ [] → ∀ k, ev.ownBlock = some k → ¬ k = b) (hkx : d.k = 8) (hsc : d.sc = 1) :
    Calls Try.prog 8 #[pt b 0, .agg #[.int .i64 d.k, .int .i64 d.n, .int .u64 d.t, .int .i64 d.ep, mv, .int .u64 d.fl, lv, .int .i64 d.ec, .int .i64 d.er, ev, .int .u64 d.ets, .int .i64 d.pid, .int .u64 d.pat, .int .i64 d.plf, .int .i64 d.sc, .int .i64 d.sr, .int .i64 d.se, .int .i64 d.sp]] w fun e w' => e = .returned (.int .i64 ((sdF x1 d).1)) ∧ Blk w' b 66 #[.bool true, .int .i64 ep, cv, .int .u64 fl, lgv, .int .u64 hz, pv, .int .i64 tp, .bool x0.1, .int .i64 x0.2.1, .int .i64 x0.2.2.1, .int .i64 x0.2.2.2.1, .int .i64 x0.2.2.2.2, .bool ((sdF x1 d).2.1), .int .i64 ((sdF x1 d).2.2.1), .int .i64 ((sdF x1 d).2.2.2.1), .int .i64 ((sdF x1 d).2.2.2.2.1), .int .i64 ((sdF x1 d).2.2.2.2.2), .bool x2.1, .int .i64 x2.2.1, .int .i64 x2.2.2.1, .int .i64 x2.2.2.2.1, .int .i64 x2.2.2.2.2] ∧ But (fun q => q = b) w w' := by
 have hrng := hR.rng
 have hB0 := But.refl (fun q => q = b) w
 have hl_hb := hb.lt
 have hl_hm := sl_len hm
 have hl_hg := sl_len hg
 have hl_he := sl_len he
 refine co_enter (n := 113) Try.func8 rfl rfl rfl [(0, pt b 0), (1, .agg #[.int .i64 d.k, .int .i64 d.n, .int .u64 d.t, .int .i64 d.ep, mv, .int .u64 d.fl, lv, .int .i64 d.ec, .int .i64 d.er, ev, .int .u64 d.ets, .int .i64 d.pid, .int .u64 d.pat, .int .i64 d.plf, .int .i64 d.sc, .int .i64 d.sr, .int .i64 d.se, .int .i64 d.sp])] rfl (fun a h0 => ?_)
 refine co_seq ?_
 refine co_reg ?_
 refine pw h0 rfl (op_new (v := fun N => pt N 0) (T := 44) (cs := #[.int .i64 d.k, .int .i64 d.n, .int .u64 d.t, .int .i64 d.ep, mv, .int .u64 d.fl, lv, .int .i64 d.ec, .int .i64 d.er, ev, .int .u64 d.ets, .int .i64 d.pid, .int .u64 d.pat, .int .i64 d.plf, .int .i64 d.sc, .int .i64 d.sr, .int .i64 d.se, .int .i64 d.sp]) (by kernel_rfl) (by kernel_rfl) (by kernel_rfl)) ?_; clear h0
 rintro _ w2 a1 ⟨N3, rfl, hN6, hz7, hk5, hg4⟩ h1
 have hz8 := hg4.size
 try dsimp only at h1
 refine pk0 (v := .int .i64 0) h1 rfl fun a9 h9 => ?_; clear h1
 refine pl_nil ?_
 refine co_then ?_
 refine co_seq ?_
 refine co_seq ?_
 refine co_reg ?_
 refine pk0 (v := pt b 0) h9 rfl fun a10 h10 => ?_; clear h9
 have hk13 := hb.kept hg4 (by simp)
 refine pw h10 rfl (op_call (args := #[pt b 0]) (R := fun res xw => res = .bool false ∧ Below w2.heap.size w2 xw) rfl rfl rfl (by kernel_rfl) (by kernel_rfl) (Try.call19 _ _) (mszeroT b ep cv fl lgv hz pv tp x0 x1 x2 w2 hk13) (by rintro e x ⟨rfl, hb14⟩; exact ⟨_, rfl, ⟨rfl, hb14⟩⟩)) ?_; clear h10
 rintro _ w12 a11 ⟨rfl, hb14⟩ h11
 have hz15 := hb14.size
 refine pl_nil ?_
 refine co_then ?_
 refine co_false h11 rfl ?_
 refine wp_skip ?_
 refine co_then ?_
 refine co_seq ?_
 refine co_seq ?_
 refine co_reg ?_
 have hk16 := hk5.below hb14
 refine pk (v := .agg #[.int .i64 d.k, .int .i64 d.n, .int .u64 d.t, .int .i64 d.ep, mv, .int .u64 d.fl, lv, .int .i64 d.ec, .int .i64 d.er, ev, .int .u64 d.ets, .int .i64 d.pid, .int .u64 d.pat, .int .i64 d.plf, .int .i64 d.sc, .int .i64 d.sr, .int .i64 d.se, .int .i64 d.sp]) h11 rfl (rn_loadN rfl rfl Try.underlying44 rfl (by kernel_rfl) hk16.all) fun a17 h17 => ?_; clear h11
 have hB20 := fb_new hB0 hg4
 have hB21 := fb_call hB20 hb14
 refine pw h17 rfl (op_call (args := #[.agg #[.int .i64 d.k, .int .i64 d.n, .int .u64 d.t, .int .i64 d.ep, mv, .int .u64 d.fl, lv, .int .i64 d.ec, .int .i64 d.er, ev, .int .u64 d.ets, .int .i64 d.pid, .int .u64 d.pat, .int .i64 d.plf, .int .i64 d.sc, .int .i64 d.sr, .int .i64 d.se, .int .i64 d.sp]]) (R := fun res xw => res = .int .i64 (chkN d) ∧ Below w12.heap.size w12 xw) rfl rfl rfl (by kernel_rfl) (by kernel_rfl) (Try.call20 _ _) (nCheck_any d mv lv ev w12 (sl_butS hm hB21 hbm) (sl_butS hg hB21 hbg) (sl_butS he hB21 hbe) hR) (by rintro e x ⟨rfl, hb22⟩; exact ⟨_, rfl, ⟨rfl, hb22⟩⟩)) ?_; clear h17
 rintro _ w19 a18 ⟨rfl, hb22⟩ h18
 have hz23 := hb22.size
 refine pk0 (v := .int .i64 (chkN d)) h18 rfl fun a24 h24 => ?_; clear h18
 refine pl_nil ?_
 refine co_then ?_
 refine co_seq ?_
 refine co_reg ?_
 refine pk0 (v := .int .i64 (chkN d)) h24 rfl fun a25 h25 => ?_; clear h24
 refine pk0 (v := .bool (chkN d != 0)) h25 rfl fun a26 h26 => ?_; clear h25
 refine pl_nil ?_
 refine co_then ?_
 have hB28 := fb_call hB21 hb22
 have hk29 := hk13.below hb14
 have hk30 := hk29.below hb22
 cases hc27 : (chkN d != 0)
 ·
  rw [hc27] at h26
  have hp31 : ¬ (chkN d ≠ 0) := by first | simpa using hc27 | simpa [and_assoc] using hc27
  clear hc27
  refine co_false h26 rfl ?_
  refine wp_skip ?_
  refine co_then ?_
  refine co_seq ?_
  refine co_reg ?_
  refine pk0 (v := pt N3 1) h26 rfl fun a32 h32 => ?_; clear h26
  have hk33 := hk16.below hb22
  refine pk (v := .int .i64 d.n) h32 rfl (rn_load1 rfl rfl Try.isAgg3 (hk33.cell rfl)) fun a34 h34 => ?_; clear h32
  refine pw h34 rfl (op_new (v := fun N => .slice (some ⟨N, 0, none⟩) 1 1) (T := 3) (cs := #[.int .i64 d.n]) (by kernel_rfl) (by kernel_rfl) (by kernel_rfl)) ?_; clear h34
  rintro _ w36 a35 ⟨N37, rfl, hN40, hz41, hk39, hg38⟩ h35
  have hz42 := hg38.size
  try dsimp only at h35
  refine pk0 (v := .slice (some ⟨N37, 0, none⟩) 1 1) h35 rfl fun a43 h43 => ?_; clear h35
  refine pl_nil ?_
  refine co_then ?_
  refine co_seq ?_
  refine co_seq ?_
  refine co_reg ?_
  refine pk0 (v := pt N3 0) h43 rfl fun a44 h44 => ?_; clear h43
  have hk45 := hk33.kept hg38 (by simp)
  refine pk (v := .int .i64 d.k) h44 rfl (rn_load1 rfl rfl Try.isAgg3 (hk45.cell rfl)) fun a46 h46 => ?_; clear h44
  refine pl_nil ?_
  refine co_then ?_
  refine wp_block ?_
  refine co_seq ?_
  refine wp_block ?_
  refine co_seq ?_
  refine wp_block ?_
  refine co_seq ?_
  refine wp_block ?_
  refine co_seq ?_
  refine wp_block ?_
  refine co_seq ?_
  refine wp_block ?_
  refine co_seq ?_
  refine wp_block ?_
  refine co_seq ?_
  refine wp_block ?_
  refine co_seq ?_
  refine co_seq ?_
  refine co_seq ?_
  refine co_reg ?_
  refine pk0 (v := .bool (d.k == 1)) h46 rfl fun a47 h47 => ?_; clear h46
  refine pk0 (v := .bool (d.k == 1)) h47 rfl fun a48 h48 => ?_; clear h47
  refine pl_nil ?_
  refine co_then ?_
  have hc49 : (d.k == 1) = false := by first | (simp; done) | (simp; omega) | exact beq_false_of_ne (by omega) | exact beq_iff_eq.2 (by omega)
  rw [hc49] at h48; clear hc49
  refine co_false h48 rfl ?_
  refine wp_skip ?_
  refine co_then ?_
  refine co_seq ?_
  refine co_seq ?_
  refine co_reg ?_
  refine pk0 (v := .bool (d.k == 5)) h48 rfl fun a50 h50 => ?_; clear h48
  refine pk0 (v := .bool (d.k == 5)) h50 rfl fun a51 h51 => ?_; clear h50
  refine pl_nil ?_
  refine co_then ?_
  have hc52 : (d.k == 5) = false := by first | (simp; done) | (simp; omega) | exact beq_false_of_ne (by omega) | exact beq_iff_eq.2 (by omega)
  rw [hc52] at h51; clear hc52
  refine co_false h51 rfl ?_
  refine wp_skip ?_
  refine co_then ?_
  refine co_seq ?_
  refine co_seq ?_
  refine co_reg ?_
  refine pk0 (v := .bool (d.k == 4)) h51 rfl fun a53 h53 => ?_; clear h51
  refine pk0 (v := .bool (d.k == 4)) h53 rfl fun a54 h54 => ?_; clear h53
  refine pl_nil ?_
  refine co_then ?_
  have hc55 : (d.k == 4) = false := by first | (simp; done) | (simp; omega) | exact beq_false_of_ne (by omega) | exact beq_iff_eq.2 (by omega)
  rw [hc55] at h54; clear hc55
  refine co_false h54 rfl ?_
  refine wp_skip ?_
  refine co_then ?_
  refine co_seq ?_
  refine co_seq ?_
  refine co_reg ?_
  refine pk0 (v := .bool (d.k == 6)) h54 rfl fun a56 h56 => ?_; clear h54
  refine pk0 (v := .bool (d.k == 6)) h56 rfl fun a57 h57 => ?_; clear h56
  refine pl_nil ?_
  refine co_then ?_
  have hc58 : (d.k == 6) = false := by first | (simp; done) | (simp; omega) | exact beq_false_of_ne (by omega) | exact beq_iff_eq.2 (by omega)
  rw [hc58] at h57; clear hc58
  refine co_false h57 rfl ?_
  refine wp_skip ?_
  refine co_then ?_
  refine co_seq ?_
  refine co_seq ?_
  refine co_reg ?_
  refine pk0 (v := .bool (d.k == 7)) h57 rfl fun a59 h59 => ?_; clear h57
  refine pk0 (v := .bool (d.k == 7)) h59 rfl fun a60 h60 => ?_; clear h59
  refine pl_nil ?_
  refine co_then ?_
  have hc61 : (d.k == 7) = false := by first | (simp; done) | (simp; omega) | exact beq_false_of_ne (by omega) | exact beq_iff_eq.2 (by omega)
  rw [hc61] at h60; clear hc61
  refine co_false h60 rfl ?_
  refine wp_skip ?_
  refine co_then ?_
  refine co_seq ?_
  refine co_reg ?_
  refine pk0 (v := .bool (d.k == 8)) h60 rfl fun a62 h62 => ?_; clear h60
  refine pk0 (v := .bool (d.k == 8)) h62 rfl fun a63 h63 => ?_; clear h62
  refine pl_nil ?_
  refine co_then ?_
  have hc64 : (d.k == 8) = true := by first | (simp; done) | (simp; omega) | exact beq_false_of_ne (by omega) | exact beq_iff_eq.2 (by omega)
  rw [hc64] at h63; clear hc64
  refine co_true h63 rfl ?_
  refine wp_exit ?_
  refine co_thenX ?_
  refine co_blockY (by decide) ?_
  refine co_thenX ?_
  refine co_blockY (by decide) ?_
  refine co_thenX ?_
  refine co_blockY (by decide) ?_
  refine co_thenX ?_
  refine co_blockY (by decide) ?_
  refine co_thenX ?_
  refine co_blockY (by decide) ?_
  refine co_thenX ?_
  refine co_blockX ?_
  refine co_then ?_
  refine co_seq ?_
  refine co_seq ?_
  refine co_seq ?_
  refine dr_eq (by kernel_rfl) (fun w65 hg66 => ?_)
  have hz67 := hg66.size
  refine dk0 0 (v := pt N3 14) h63 rfl rfl rfl fun a68 h68 => ?_; clear h63
  refine dk0 1 (v := pt N3 15) h68 rfl rfl rfl fun a69 h69 => ?_; clear h68
  have hk70 := hk45.kept hg66 (by simp)
  refine dk 2 (v := .int .i64 d.sr) h69 rfl rfl rfl (fun x hx => by subst hx; exact (rn_load1 rfl rfl Try.isAgg3 (hk70.cell rfl))) fun a71 h71 => ?_; clear h69
  refine dk0 3 (v := pt b 0) h71 rfl rfl rfl fun a72 h72 => ?_; clear h71
  refine dk0 4 (v := pt N3 14) h72 rfl rfl rfl fun a73 h73 => ?_; clear h72
  refine dk0 5 (v := pt N3 14) h73 rfl rfl rfl fun a74 h74 => ?_; clear h73
  refine dk 6 (v := .int .i64 d.sc) h74 rfl rfl rfl (fun x hx => by subst hx; exact (rn_load1 rfl rfl Try.isAgg3 (hk70.cell rfl))) fun a75 h75 => ?_; clear h74
  refine dk0 7 (v := pt b 0) h75 rfl rfl rfl fun a76 h76 => ?_; clear h75
  refine dk0 8 (v := pt b 8) h76 rfl rfl rfl fun a77 h77 => ?_; clear h76
  refine dk 9 (v := pt b 13) h77 rfl rfl rfl (fun x hx => by subst hx; exact (by rw [hsc]; kernel_rfl)) fun a78 h78 => ?_; clear h77
  refine dk0 10 (v := pt b 14) h78 rfl rfl rfl fun a79 h79 => ?_; clear h78
  refine dk0 11 (v := pt b 15) h79 rfl rfl rfl fun a80 h80 => ?_; clear h79
  have hk81 := hk30.kept hg38 (by simp)
  have hk82 := hk81.kept hg66 (by simp)
  refine dk 12 (v := .int .i64 x1.2.2.1) h80 rfl rfl rfl (fun x hx => by subst hx; exact (rn_load1 rfl rfl Try.isAgg3 (hk82.cell rfl))) fun a83 h83 => ?_; clear h80
  refine dk0 13 (v := .bool (decide (d.sr < x1.2.2.1))) h83 rfl rfl rfl fun a84 h84 => ?_; clear h83
  refine dr_done (by kernel_rfl) ?_
  refine co_then ?_
  have hB86 := fb_new hB28 hg38
  have hB87 := fb_new hB86 hg66
  cases hc85 : (decide (d.sr < x1.2.2.1))
  ·
   rw [hc85] at h84
   have hp88 : ¬ (d.sr < x1.2.2.1) := of_decide_eq_false hc85
   clear hc85
   refine co_false h84 rfl ?_
   refine wp_skip ?_
   refine co_then ?_
   refine dr_gen (fun x => But (fun q => q = b) w x ∧ Blk x N3 44 #[.int .i64 d.k, .int .i64 d.n, .int .u64 d.t, .int .i64 d.ep, mv, .int .u64 d.fl, lv, .int .i64 d.ec, .int .i64 d.er, ev, .int .u64 d.ets, .int .i64 d.pid, .int .u64 d.pat, .int .i64 d.plf, .int .i64 d.sc, .int .i64 d.sr, .int .i64 d.se, .int .i64 d.sp]) (by kernel_rfl) (fun w89 hg90 => ?_) (fun w89 hg90 => ?_)
   ·
    have hz91 := hg90.size
    have hB92 := fb_new hB87 hg90
    have hk93 := hk70.kept hg90 (by simp)
    exact ⟨hB92, hk93⟩
   have hz94 := hg90.size
   have hB95 := fb_new hB87 hg90
   have hk96 := hk70.kept hg90 (by simp)
   refine dk0 0 (v := pt b 0) h84 rfl rfl ⟨hB95, hk96⟩ fun a97 h97 => ?_; clear h84
   refine dk0 1 (v := pt N3 14) h97 rfl rfl ⟨hB95, hk96⟩ fun a98 h98 => ?_; clear h97
   refine dk0 2 (v := pt N3 14) h98 rfl rfl ⟨hB95, hk96⟩ fun a99 h99 => ?_; clear h98
   refine dk 3 (v := .int .i64 d.sc) h99 rfl rfl ⟨hB95, hk96⟩ (fun x hx => (rn_load1 rfl rfl Try.isAgg3 (hx.2.cell rfl))) fun a100 h100 => ?_; clear h99
   refine dk0 4 (v := pt N3 14) h100 rfl rfl ⟨hB95, hk96⟩ fun a101 h101 => ?_; clear h100
   refine dk 5 (v := .agg #[.int .i64 d.sc, .int .i64 d.sr, .int .i64 d.se, .int .i64 d.sp]) h101 rfl rfl ⟨hB95, hk96⟩ (fun x hx => (rn_loadN rfl rfl Try.underlying42 rfl (by kernel_rfl) (blk_part hx.2 14 (by rfl)))) fun a102 h102 => ?_; clear h101
   refine dk0 6 (v := .agg #[.bool true, .int .i64 d.sc, .int .i64 d.sr, .int .i64 d.se, .int .i64 d.sp]) h102 rfl rfl ⟨hB95, hk96⟩ fun a103 h103 => ?_; clear h102
   refine dk0 7 (v := pt b 0) h103 rfl rfl ⟨hB95, hk96⟩ fun a104 h104 => ?_; clear h103
   refine dk0 8 (v := pt b 8) h104 rfl rfl ⟨hB95, hk96⟩ fun a105 h105 => ?_; clear h104
   refine dk 9 (v := pt b 13) h105 rfl rfl ⟨hB95, hk96⟩ (fun x hx => (by rw [hsc]; kernel_rfl)) fun a106 h106 => ?_; clear h105
   have hk112 := hk82.kept hg90 (by simp)
   refine d1D 10 h106 rfl rfl (op_storePart (k := 13) (cs' := #[.bool true, .int .i64 ep, cv, .int .u64 fl, lgv, .int .u64 hz, pv, .int .i64 tp, .bool x0.1, .int .i64 x0.2.1, .int .i64 x0.2.2.1, .int .i64 x0.2.2.2.1, .int .i64 x0.2.2.2.2, .bool true, .int .i64 d.sc, .int .i64 d.sr, .int .i64 d.se, .int .i64 d.sp, .bool x2.1, .int .i64 x2.2.1, .int .i64 x2.2.2.1, .int .i64 x2.2.2.2.1, .int .i64 x2.2.2.2.2]) rfl rfl rfl (by kernel_rfl) (by kernel_rfl) hk112 rfl rfl) ?_ ?_; clear h106
   ·
    rintro _ w108 ⟨hk109, hz110, hg111⟩
    have hk109' : Blk w108 b 66 #[.bool true, .int .i64 ep, cv, .int .u64 fl, lgv, .int .u64 hz, pv, .int .i64 tp, .bool x0.1, .int .i64 x0.2.1, .int .i64 x0.2.2.1, .int .i64 x0.2.2.2.1, .int .i64 x0.2.2.2.2, .bool true, .int .i64 d.sc, .int .i64 d.sr, .int .i64 d.se, .int .i64 d.sp, .bool x2.1, .int .i64 x2.2.1, .int .i64 x2.2.2.1, .int .i64 x2.2.2.2.1, .int .i64 x2.2.2.2.2] := hk109; clear hk109
    have hz113 := hg111.size
    have hB114 := fb_at hB95 hg111 (fun hlt => by first | (exfalso; omega) | (simp; done) | simp_all)
    have hk115 := hk96.kept hg111 (by simp; omega)
    exact ⟨hB114, hk115⟩
   rintro _ w108 a107 ⟨hk109, hz110, hg111⟩ h107
   have hk109' : Blk w108 b 66 #[.bool true, .int .i64 ep, cv, .int .u64 fl, lgv, .int .u64 hz, pv, .int .i64 tp, .bool x0.1, .int .i64 x0.2.1, .int .i64 x0.2.2.1, .int .i64 x0.2.2.2.1, .int .i64 x0.2.2.2.2, .bool true, .int .i64 d.sc, .int .i64 d.sr, .int .i64 d.se, .int .i64 d.sp, .bool x2.1, .int .i64 x2.2.1, .int .i64 x2.2.2.1, .int .i64 x2.2.2.2.1, .int .i64 x2.2.2.2.2] := hk109; clear hk109
   have hz113 := hg111.size
   refine dr_done (by kernel_rfl) ?_
   refine co_then ?_
   refine wp_exit ?_
   refine co_blockY (by decide) ?_
   refine co_thenX ?_
   refine co_blockX ?_
   refine co_then ?_
   refine co_seq ?_
   refine co_reg ?_
   refine pk0 (v := .int .i64 0) h107 rfl fun a114 h114 => ?_; clear h107
   refine pl_nil ?_
   refine co_then ?_
   refine wp_ret ?_
   refine co_ret1 h114 rfl rfl ?_
   have hB115 := fb_at hB95 hg111 (fun hlt => by first | (exfalso; omega) | (simp; done) | simp_all)
   have hA : sdF x1 d = (0, (true, d.sc, d.sr, d.se, d.sp)) := by unfold sdF; first | (rw [if_pos (by omega)]; done) | (rw [if_neg (by omega), if_pos (by omega)]; done) | (rw [if_neg (by omega), if_neg (by omega)]; done)
   exact ⟨by rw [hA], by rw [hA]; exact hk109', hB115⟩
  ·
   rw [hc85] at h84
   have hp116 : d.sr < x1.2.2.1 := of_decide_eq_true hc85
   clear hc85
   refine co_true h84 rfl ?_
   refine co_seq ?_
   refine co_reg ?_
   refine pk0 (v := .int .i64 18) h84 rfl fun a117 h117 => ?_; clear h84
   refine pl_nil ?_
   refine co_then ?_
   refine wp_ret ?_
   refine co_thenR ?_
   refine co_thenR ?_
   refine co_blockR ?_
   refine co_thenR ?_
   refine co_blockR ?_
   refine co_thenR ?_
   refine co_ret1 h117 rfl rfl ?_
   have hA : sdF x1 d = (18, x1) := by unfold sdF; first | (rw [if_pos (by omega)]; done) | (rw [if_neg (by omega), if_pos (by omega)]; done) | (rw [if_neg (by omega), if_neg (by omega)]; done)
   exact ⟨by rw [hA], by rw [hA]; exact hk82, hB87⟩
 ·
  rw [hc27] at h26
  have hp118 : chkN d ≠ 0 := by first | simpa using hc27 | simpa [and_assoc] using hc27
  clear hc27
  refine co_true h26 rfl ?_
  refine co_seq ?_
  refine co_reg ?_
  refine pk0 (v := .int .i64 (chkN d)) h26 rfl fun a119 h119 => ?_; clear h26
  refine pk0 (v := .int .i64 (chkN d)) h119 rfl fun a120 h120 => ?_; clear h119
  refine pl_nil ?_
  refine co_then ?_
  refine wp_ret ?_
  refine co_thenR ?_
  refine co_ret1 h120 rfl rfl ?_
  have hA : sdF x1 d = (chkN d, x1) := by unfold sdF; first | (rw [if_pos (by omega)]; done) | (rw [if_neg (by omega), if_pos (by omega)]; done) | (rw [if_neg (by omega), if_neg (by omega)]; done)
  exact ⟨by rw [hA], by rw [hA]; exact hk30, hB28⟩
set_option maxRecDepth 100000 in
set_option maxHeartbeats 1600000 in
theorem msApply82 (b : Nat) (ep : Int) (cv : Value) (fl : Int) (lgv : Value) (hz : Int) (pv : Value) (tp : Int) (x0 : SdT) (x1 : SdT) (x2 : SdT) (d : NoteD) (mv : Value) (lv : Value) (ev : Value) (w : World) (hb : Blk w b 66 #[.bool true, .int .i64 ep, cv, .int .u64 fl, lgv, .int .u64 hz, pv, .int .i64 tp, .bool x0.1, .int .i64 x0.2.1, .int .i64 x0.2.2.1, .int .i64 x0.2.2.2.1, .int .i64 x0.2.2.2.2, .bool x1.1, .int .i64 x1.2.1, .int .i64 x1.2.2.1, .int .i64 x1.2.2.2.1, .int .i64 x1.2.2.2.2, .bool x2.1, .int .i64 x2.2.1, .int .i64 x2.2.2.1, .int .i64 x2.2.2.2.1, .int .i64 x2.2.2.2.2]) (hm : SliceOf memE 2 w mv d.ms) (hg : SliceOf (intE .i64) 1 w lv d.lg) (he : SliceOf opE 3 w ev d.el) (hR : NoteR d) (hbm : d.ms ≠ [] → ∀ k, mv.ownBlock = some k → ¬ k = b) (hbg : d.lg ≠ [] → ∀ k, lv.ownBlock = some k → ¬ k = b) (hbe : d.el ≠ [] → ∀ k, ev.ownBlock = some k → ¬ k = b) (hkx : d.k = 8) (hsc : d.sc = 2) :
    Calls Try.prog 8 #[pt b 0, .agg #[.int .i64 d.k, .int .i64 d.n, .int .u64 d.t, .int .i64 d.ep, mv, .int .u64 d.fl, lv, .int .i64 d.ec, .int .i64 d.er, ev, .int .u64 d.ets, .int .i64 d.pid, .int .u64 d.pat, .int .i64 d.plf, .int .i64 d.sc, .int .i64 d.sr, .int .i64 d.se, .int .i64 d.sp]] w fun e w' => e = .returned (.int .i64 ((sdF x2 d).1)) ∧ Blk w' b 66 #[.bool true, .int .i64 ep, cv, .int .u64 fl, lgv, .int .u64 hz, pv, .int .i64 tp, .bool x0.1, .int .i64 x0.2.1, .int .i64 x0.2.2.1, .int .i64 x0.2.2.2.1, .int .i64 x0.2.2.2.2, .bool x1.1, .int .i64 x1.2.1, .int .i64 x1.2.2.1, .int .i64 x1.2.2.2.1, .int .i64 x1.2.2.2.2, .bool ((sdF x2 d).2.1), .int .i64 ((sdF x2 d).2.2.1), .int .i64 ((sdF x2 d).2.2.2.1), .int .i64 ((sdF x2 d).2.2.2.2.1), .int .i64 ((sdF x2 d).2.2.2.2.2)] ∧ But (fun q => q = b) w w' := by
 have hrng := hR.rng
 have hB0 := But.refl (fun q => q = b) w
 have hl_hb := hb.lt
 have hl_hm := sl_len hm
 have hl_hg := sl_len hg
 have hl_he := sl_len he
 refine co_enter (n := 113) Try.func8 rfl rfl rfl [(0, pt b 0), (1, .agg #[.int .i64 d.k, .int .i64 d.n, .int .u64 d.t, .int .i64 d.ep, mv, .int .u64 d.fl, lv, .int .i64 d.ec, .int .i64 d.er, ev, .int .u64 d.ets, .int .i64 d.pid, .int .u64 d.pat, .int .i64 d.plf, .int .i64 d.sc, .int .i64 d.sr, .int .i64 d.se, .int .i64 d.sp])] rfl (fun a h0 => ?_)
 refine co_seq ?_
 refine co_reg ?_
 refine pw h0 rfl (op_new (v := fun N => pt N 0) (T := 44) (cs := #[.int .i64 d.k, .int .i64 d.n, .int .u64 d.t, .int .i64 d.ep, mv, .int .u64 d.fl, lv, .int .i64 d.ec, .int .i64 d.er, ev, .int .u64 d.ets, .int .i64 d.pid, .int .u64 d.pat, .int .i64 d.plf, .int .i64 d.sc, .int .i64 d.sr, .int .i64 d.se, .int .i64 d.sp]) (by kernel_rfl) (by kernel_rfl) (by kernel_rfl)) ?_; clear h0
 rintro _ w2 a1 ⟨N3, rfl, hN6, hz7, hk5, hg4⟩ h1
 have hz8 := hg4.size
 try dsimp only at h1
 refine pk0 (v := .int .i64 0) h1 rfl fun a9 h9 => ?_; clear h1
 refine pl_nil ?_
 refine co_then ?_
 refine co_seq ?_
 refine co_seq ?_
 refine co_reg ?_
 refine pk0 (v := pt b 0) h9 rfl fun a10 h10 => ?_; clear h9
 have hk13 := hb.kept hg4 (by simp)
 refine pw h10 rfl (op_call (args := #[pt b 0]) (R := fun res xw => res = .bool false ∧ Below w2.heap.size w2 xw) rfl rfl rfl (by kernel_rfl) (by kernel_rfl) (Try.call19 _ _) (mszeroT b ep cv fl lgv hz pv tp x0 x1 x2 w2 hk13) (by rintro e x ⟨rfl, hb14⟩; exact ⟨_, rfl, ⟨rfl, hb14⟩⟩)) ?_; clear h10
 rintro _ w12 a11 ⟨rfl, hb14⟩ h11
 have hz15 := hb14.size
 refine pl_nil ?_
 refine co_then ?_
 refine co_false h11 rfl ?_
 refine wp_skip ?_
 refine co_then ?_
 refine co_seq ?_
 refine co_seq ?_
 refine co_reg ?_
 have hk16 := hk5.below hb14
 refine pk (v := .agg #[.int .i64 d.k, .int .i64 d.n, .int .u64 d.t, .int .i64 d.ep, mv, .int .u64 d.fl, lv, .int .i64 d.ec, .int .i64 d.er, ev, .int .u64 d.ets, .int .i64 d.pid, .int .u64 d.pat, .int .i64 d.plf, .int .i64 d.sc, .int .i64 d.sr, .int .i64 d.se, .int .i64 d.sp]) h11 rfl (rn_loadN rfl rfl Try.underlying44 rfl (by kernel_rfl) hk16.all) fun a17 h17 => ?_; clear h11
 have hB20 := fb_new hB0 hg4
 have hB21 := fb_call hB20 hb14
 refine pw h17 rfl (op_call (args := #[.agg #[.int .i64 d.k, .int .i64 d.n, .int .u64 d.t, .int .i64 d.ep, mv, .int .u64 d.fl, lv, .int .i64 d.ec, .int .i64 d.er, ev, .int .u64 d.ets, .int .i64 d.pid, .int .u64 d.pat, .int .i64 d.plf, .int .i64 d.sc, .int .i64 d.sr, .int .i64 d.se, .int .i64 d.sp]]) (R := fun res xw => res = .int .i64 (chkN d) ∧ Below w12.heap.size w12 xw) rfl rfl rfl (by kernel_rfl) (by kernel_rfl) (Try.call20 _ _) (nCheck_any d mv lv ev w12 (sl_butS hm hB21 hbm) (sl_butS hg hB21 hbg) (sl_butS he hB21 hbe) hR) (by rintro e x ⟨rfl, hb22⟩; exact ⟨_, rfl, ⟨rfl, hb22⟩⟩)) ?_; clear h17
 rintro _ w19 a18 ⟨rfl, hb22⟩ h18
 have hz23 := hb22.size
 refine pk0 (v := .int .i64 (chkN d)) h18 rfl fun a24 h24 => ?_; clear h18
 refine pl_nil ?_
 refine co_then ?_
 refine co_seq ?_
 refine co_reg ?_
 refine pk0 (v := .int .i64 (chkN d)) h24 rfl fun a25 h25 => ?_; clear h24
 refine pk0 (v := .bool (chkN d != 0)) h25 rfl fun a26 h26 => ?_; clear h25
 refine pl_nil ?_
 refine co_then ?_
 have hB28 := fb_call hB21 hb22
 have hk29 := hk13.below hb14
 have hk30 := hk29.below hb22
 cases hc27 : (chkN d != 0)
 ·
  rw [hc27] at h26
  have hp31 : ¬ (chkN d ≠ 0) := by first | simpa using hc27 | simpa [and_assoc] using hc27
  clear hc27
  refine co_false h26 rfl ?_
  refine wp_skip ?_
  refine co_then ?_
  refine co_seq ?_
  refine co_reg ?_
  refine pk0 (v := pt N3 1) h26 rfl fun a32 h32 => ?_; clear h26
  have hk33 := hk16.below hb22
  refine pk (v := .int .i64 d.n) h32 rfl (rn_load1 rfl rfl Try.isAgg3 (hk33.cell rfl)) fun a34 h34 => ?_; clear h32
  refine pw h34 rfl (op_new (v := fun N => .slice (some ⟨N, 0, none⟩) 1 1) (T := 3) (cs := #[.int .i64 d.n]) (by kernel_rfl) (by kernel_rfl) (by kernel_rfl)) ?_; clear h34
  rintro _ w36 a35 ⟨N37, rfl, hN40, hz41, hk39, hg38⟩ h35
  have hz42 := hg38.size
  try dsimp only at h35
  refine pk0 (v := .slice (some ⟨N37, 0, none⟩) 1 1) h35 rfl fun a43 h43 => ?_; clear h35
  refine pl_nil ?_
  refine co_then ?_
  refine co_seq ?_
  refine co_seq ?_
  refine co_reg ?_
  refine pk0 (v := pt N3 0) h43 rfl fun a44 h44 => ?_; clear h43
  have hk45 := hk33.kept hg38 (by simp)
  refine pk (v := .int .i64 d.k) h44 rfl (rn_load1 rfl rfl Try.isAgg3 (hk45.cell rfl)) fun a46 h46 => ?_; clear h44
  refine pl_nil ?_
  refine co_then ?_
  refine wp_block ?_
  refine co_seq ?_
  refine wp_block ?_
  refine co_seq ?_
  refine wp_block ?_
  refine co_seq ?_
  refine wp_block ?_
  refine co_seq ?_
  refine wp_block ?_
  refine co_seq ?_
  refine wp_block ?_
  refine co_seq ?_
  refine wp_block ?_
  refine co_seq ?_
  refine wp_block ?_
  refine co_seq ?_
  refine co_seq ?_
  refine co_seq ?_
  refine co_reg ?_
  refine pk0 (v := .bool (d.k == 1)) h46 rfl fun a47 h47 => ?_; clear h46
  refine pk0 (v := .bool (d.k == 1)) h47 rfl fun a48 h48 => ?_; clear h47
  refine pl_nil ?_
  refine co_then ?_
  have hc49 : (d.k == 1) = false := by first | (simp; done) | (simp; omega) | exact beq_false_of_ne (by omega) | exact beq_iff_eq.2 (by omega)
  rw [hc49] at h48; clear hc49
  refine co_false h48 rfl ?_
  refine wp_skip ?_
  refine co_then ?_
  refine co_seq ?_
  refine co_seq ?_
  refine co_reg ?_
  refine pk0 (v := .bool (d.k == 5)) h48 rfl fun a50 h50 => ?_; clear h48
  refine pk0 (v := .bool (d.k == 5)) h50 rfl fun a51 h51 => ?_; clear h50
  refine pl_nil ?_
  refine co_then ?_
  have hc52 : (d.k == 5) = false := by first | (simp; done) | (simp; omega) | exact beq_false_of_ne (by omega) | exact beq_iff_eq.2 (by omega)
  rw [hc52] at h51; clear hc52
  refine co_false h51 rfl ?_
  refine wp_skip ?_
  refine co_then ?_
  refine co_seq ?_
  refine co_seq ?_
  refine co_reg ?_
  refine pk0 (v := .bool (d.k == 4)) h51 rfl fun a53 h53 => ?_; clear h51
  refine pk0 (v := .bool (d.k == 4)) h53 rfl fun a54 h54 => ?_; clear h53
  refine pl_nil ?_
  refine co_then ?_
  have hc55 : (d.k == 4) = false := by first | (simp; done) | (simp; omega) | exact beq_false_of_ne (by omega) | exact beq_iff_eq.2 (by omega)
  rw [hc55] at h54; clear hc55
  refine co_false h54 rfl ?_
  refine wp_skip ?_
  refine co_then ?_
  refine co_seq ?_
  refine co_seq ?_
  refine co_reg ?_
  refine pk0 (v := .bool (d.k == 6)) h54 rfl fun a56 h56 => ?_; clear h54
  refine pk0 (v := .bool (d.k == 6)) h56 rfl fun a57 h57 => ?_; clear h56
  refine pl_nil ?_
  refine co_then ?_
  have hc58 : (d.k == 6) = false := by first | (simp; done) | (simp; omega) | exact beq_false_of_ne (by omega) | exact beq_iff_eq.2 (by omega)
  rw [hc58] at h57; clear hc58
  refine co_false h57 rfl ?_
  refine wp_skip ?_
  refine co_then ?_
  refine co_seq ?_
  refine co_seq ?_
  refine co_reg ?_
  refine pk0 (v := .bool (d.k == 7)) h57 rfl fun a59 h59 => ?_; clear h57
  refine pk0 (v := .bool (d.k == 7)) h59 rfl fun a60 h60 => ?_; clear h59
  refine pl_nil ?_
  refine co_then ?_
  have hc61 : (d.k == 7) = false := by first | (simp; done) | (simp; omega) | exact beq_false_of_ne (by omega) | exact beq_iff_eq.2 (by omega)
  rw [hc61] at h60; clear hc61
  refine co_false h60 rfl ?_
  refine wp_skip ?_
  refine co_then ?_
  refine co_seq ?_
  refine co_reg ?_
  refine pk0 (v := .bool (d.k == 8)) h60 rfl fun a62 h62 => ?_; clear h60
  refine pk0 (v := .bool (d.k == 8)) h62 rfl fun a63 h63 => ?_; clear h62
  refine pl_nil ?_
  refine co_then ?_
  have hc64 : (d.k == 8) = true := by first | (simp; done) | (simp; omega) | exact beq_false_of_ne (by omega) | exact beq_iff_eq.2 (by omega)
  rw [hc64] at h63; clear hc64
  refine co_true h63 rfl ?_
  refine wp_exit ?_
  refine co_thenX ?_
  refine co_blockY (by decide) ?_
  refine co_thenX ?_
  refine co_blockY (by decide) ?_
  refine co_thenX ?_
  refine co_blockY (by decide) ?_
  refine co_thenX ?_
  refine co_blockY (by decide) ?_
  refine co_thenX ?_
  refine co_blockY (by decide) ?_
  refine co_thenX ?_
  refine co_blockX ?_
  refine co_then ?_
  refine co_seq ?_
  refine co_seq ?_
  refine co_seq ?_
  refine dr_eq (by kernel_rfl) (fun w65 hg66 => ?_)
  have hz67 := hg66.size
  refine dk0 0 (v := pt N3 14) h63 rfl rfl rfl fun a68 h68 => ?_; clear h63
  refine dk0 1 (v := pt N3 15) h68 rfl rfl rfl fun a69 h69 => ?_; clear h68
  have hk70 := hk45.kept hg66 (by simp)
  refine dk 2 (v := .int .i64 d.sr) h69 rfl rfl rfl (fun x hx => by subst hx; exact (rn_load1 rfl rfl Try.isAgg3 (hk70.cell rfl))) fun a71 h71 => ?_; clear h69
  refine dk0 3 (v := pt b 0) h71 rfl rfl rfl fun a72 h72 => ?_; clear h71
  refine dk0 4 (v := pt N3 14) h72 rfl rfl rfl fun a73 h73 => ?_; clear h72
  refine dk0 5 (v := pt N3 14) h73 rfl rfl rfl fun a74 h74 => ?_; clear h73
  refine dk 6 (v := .int .i64 d.sc) h74 rfl rfl rfl (fun x hx => by subst hx; exact (rn_load1 rfl rfl Try.isAgg3 (hk70.cell rfl))) fun a75 h75 => ?_; clear h74
  refine dk0 7 (v := pt b 0) h75 rfl rfl rfl fun a76 h76 => ?_; clear h75
  refine dk0 8 (v := pt b 8) h76 rfl rfl rfl fun a77 h77 => ?_; clear h76
  refine dk 9 (v := pt b 18) h77 rfl rfl rfl (fun x hx => by subst hx; exact (by rw [hsc]; kernel_rfl)) fun a78 h78 => ?_; clear h77
  refine dk0 10 (v := pt b 19) h78 rfl rfl rfl fun a79 h79 => ?_; clear h78
  refine dk0 11 (v := pt b 20) h79 rfl rfl rfl fun a80 h80 => ?_; clear h79
  have hk81 := hk30.kept hg38 (by simp)
  have hk82 := hk81.kept hg66 (by simp)
  refine dk 12 (v := .int .i64 x2.2.2.1) h80 rfl rfl rfl (fun x hx => by subst hx; exact (rn_load1 rfl rfl Try.isAgg3 (hk82.cell rfl))) fun a83 h83 => ?_; clear h80
  refine dk0 13 (v := .bool (decide (d.sr < x2.2.2.1))) h83 rfl rfl rfl fun a84 h84 => ?_; clear h83
  refine dr_done (by kernel_rfl) ?_
  refine co_then ?_
  have hB86 := fb_new hB28 hg38
  have hB87 := fb_new hB86 hg66
  cases hc85 : (decide (d.sr < x2.2.2.1))
  ·
   rw [hc85] at h84
   have hp88 : ¬ (d.sr < x2.2.2.1) := of_decide_eq_false hc85
   clear hc85
   refine co_false h84 rfl ?_
   refine wp_skip ?_
   refine co_then ?_
   refine dr_gen (fun x => But (fun q => q = b) w x ∧ Blk x N3 44 #[.int .i64 d.k, .int .i64 d.n, .int .u64 d.t, .int .i64 d.ep, mv, .int .u64 d.fl, lv, .int .i64 d.ec, .int .i64 d.er, ev, .int .u64 d.ets, .int .i64 d.pid, .int .u64 d.pat, .int .i64 d.plf, .int .i64 d.sc, .int .i64 d.sr, .int .i64 d.se, .int .i64 d.sp]) (by kernel_rfl) (fun w89 hg90 => ?_) (fun w89 hg90 => ?_)
   ·
    have hz91 := hg90.size
    have hB92 := fb_new hB87 hg90
    have hk93 := hk70.kept hg90 (by simp)
    exact ⟨hB92, hk93⟩
   have hz94 := hg90.size
   have hB95 := fb_new hB87 hg90
   have hk96 := hk70.kept hg90 (by simp)
   refine dk0 0 (v := pt b 0) h84 rfl rfl ⟨hB95, hk96⟩ fun a97 h97 => ?_; clear h84
   refine dk0 1 (v := pt N3 14) h97 rfl rfl ⟨hB95, hk96⟩ fun a98 h98 => ?_; clear h97
   refine dk0 2 (v := pt N3 14) h98 rfl rfl ⟨hB95, hk96⟩ fun a99 h99 => ?_; clear h98
   refine dk 3 (v := .int .i64 d.sc) h99 rfl rfl ⟨hB95, hk96⟩ (fun x hx => (rn_load1 rfl rfl Try.isAgg3 (hx.2.cell rfl))) fun a100 h100 => ?_; clear h99
   refine dk0 4 (v := pt N3 14) h100 rfl rfl ⟨hB95, hk96⟩ fun a101 h101 => ?_; clear h100
   refine dk 5 (v := .agg #[.int .i64 d.sc, .int .i64 d.sr, .int .i64 d.se, .int .i64 d.sp]) h101 rfl rfl ⟨hB95, hk96⟩ (fun x hx => (rn_loadN rfl rfl Try.underlying42 rfl (by kernel_rfl) (blk_part hx.2 14 (by rfl)))) fun a102 h102 => ?_; clear h101
   refine dk0 6 (v := .agg #[.bool true, .int .i64 d.sc, .int .i64 d.sr, .int .i64 d.se, .int .i64 d.sp]) h102 rfl rfl ⟨hB95, hk96⟩ fun a103 h103 => ?_; clear h102
   refine dk0 7 (v := pt b 0) h103 rfl rfl ⟨hB95, hk96⟩ fun a104 h104 => ?_; clear h103
   refine dk0 8 (v := pt b 8) h104 rfl rfl ⟨hB95, hk96⟩ fun a105 h105 => ?_; clear h104
   refine dk 9 (v := pt b 18) h105 rfl rfl ⟨hB95, hk96⟩ (fun x hx => (by rw [hsc]; kernel_rfl)) fun a106 h106 => ?_; clear h105
   have hk112 := hk82.kept hg90 (by simp)
   refine d1D 10 h106 rfl rfl (op_storePart (k := 18) (cs' := #[.bool true, .int .i64 ep, cv, .int .u64 fl, lgv, .int .u64 hz, pv, .int .i64 tp, .bool x0.1, .int .i64 x0.2.1, .int .i64 x0.2.2.1, .int .i64 x0.2.2.2.1, .int .i64 x0.2.2.2.2, .bool x1.1, .int .i64 x1.2.1, .int .i64 x1.2.2.1, .int .i64 x1.2.2.2.1, .int .i64 x1.2.2.2.2, .bool true, .int .i64 d.sc, .int .i64 d.sr, .int .i64 d.se, .int .i64 d.sp]) rfl rfl rfl (by kernel_rfl) (by kernel_rfl) hk112 rfl rfl) ?_ ?_; clear h106
   ·
    rintro _ w108 ⟨hk109, hz110, hg111⟩
    have hk109' : Blk w108 b 66 #[.bool true, .int .i64 ep, cv, .int .u64 fl, lgv, .int .u64 hz, pv, .int .i64 tp, .bool x0.1, .int .i64 x0.2.1, .int .i64 x0.2.2.1, .int .i64 x0.2.2.2.1, .int .i64 x0.2.2.2.2, .bool x1.1, .int .i64 x1.2.1, .int .i64 x1.2.2.1, .int .i64 x1.2.2.2.1, .int .i64 x1.2.2.2.2, .bool true, .int .i64 d.sc, .int .i64 d.sr, .int .i64 d.se, .int .i64 d.sp] := hk109; clear hk109
    have hz113 := hg111.size
    have hB114 := fb_at hB95 hg111 (fun hlt => by first | (exfalso; omega) | (simp; done) | simp_all)
    have hk115 := hk96.kept hg111 (by simp; omega)
    exact ⟨hB114, hk115⟩
   rintro _ w108 a107 ⟨hk109, hz110, hg111⟩ h107
   have hk109' : Blk w108 b 66 #[.bool true, .int .i64 ep, cv, .int .u64 fl, lgv, .int .u64 hz, pv, .int .i64 tp, .bool x0.1, .int .i64 x0.2.1, .int .i64 x0.2.2.1, .int .i64 x0.2.2.2.1, .int .i64 x0.2.2.2.2, .bool x1.1, .int .i64 x1.2.1, .int .i64 x1.2.2.1, .int .i64 x1.2.2.2.1, .int .i64 x1.2.2.2.2, .bool true, .int .i64 d.sc, .int .i64 d.sr, .int .i64 d.se, .int .i64 d.sp] := hk109; clear hk109
   have hz113 := hg111.size
   refine dr_done (by kernel_rfl) ?_
   refine co_then ?_
   refine wp_exit ?_
   refine co_blockY (by decide) ?_
   refine co_thenX ?_
   refine co_blockX ?_
   refine co_then ?_
   refine co_seq ?_
   refine co_reg ?_
   refine pk0 (v := .int .i64 0) h107 rfl fun a114 h114 => ?_; clear h107
   refine pl_nil ?_
   refine co_then ?_
   refine wp_ret ?_
   refine co_ret1 h114 rfl rfl ?_
   have hB115 := fb_at hB95 hg111 (fun hlt => by first | (exfalso; omega) | (simp; done) | simp_all)
   have hA : sdF x2 d = (0, (true, d.sc, d.sr, d.se, d.sp)) := by unfold sdF; first | (rw [if_pos (by omega)]; done) | (rw [if_neg (by omega), if_pos (by omega)]; done) | (rw [if_neg (by omega), if_neg (by omega)]; done)
   exact ⟨by rw [hA], by rw [hA]; exact hk109', hB115⟩
  ·
   rw [hc85] at h84
   have hp116 : d.sr < x2.2.2.1 := of_decide_eq_true hc85
   clear hc85
   refine co_true h84 rfl ?_
   refine co_seq ?_
   refine co_reg ?_
   refine pk0 (v := .int .i64 18) h84 rfl fun a117 h117 => ?_; clear h84
   refine pl_nil ?_
   refine co_then ?_
   refine wp_ret ?_
   refine co_thenR ?_
   refine co_thenR ?_
   refine co_blockR ?_
   refine co_thenR ?_
   refine co_blockR ?_
   refine co_thenR ?_
   refine co_ret1 h117 rfl rfl ?_
   have hA : sdF x2 d = (18, x2) := by unfold sdF; first | (rw [if_pos (by omega)]; done) | (rw [if_neg (by omega), if_pos (by omega)]; done) | (rw [if_neg (by omega), if_neg (by omega)]; done)
   exact ⟨by rw [hA], by rw [hA]; exact hk82, hB87⟩
 ·
  rw [hc27] at h26
  have hp118 : chkN d ≠ 0 := by first | simpa using hc27 | simpa [and_assoc] using hc27
  clear hc27
  refine co_true h26 rfl ?_
  refine co_seq ?_
  refine co_reg ?_
  refine pk0 (v := .int .i64 (chkN d)) h26 rfl fun a119 h119 => ?_; clear h26
  refine pk0 (v := .int .i64 (chkN d)) h119 rfl fun a120 h120 => ?_; clear h119
  refine pl_nil ?_
  refine co_then ?_
  refine wp_ret ?_
  refine co_thenR ?_
  refine co_ret1 h120 rfl rfl ?_
  have hA : sdF x2 d = (chkN d, x2) := by unfold sdF; first | (rw [if_pos (by omega)]; done) | (rw [if_neg (by omega), if_pos (by omega)]; done) | (rw [if_neg (by omega), if_neg (by omega)]; done)
  exact ⟨by rw [hA], by rw [hA]; exact hk30, hB28⟩
set_option maxRecDepth 100000 in
set_option maxHeartbeats 1600000 in
theorem msApplyE (b : Nat) (ep : Int) (cv : Value) (fl : Int) (lgv : Value) (hz : Int) (pv : Value) (tp : Int) (x0 : SdT) (x1 : SdT) (x2 : SdT) (d : NoteD) (mv : Value) (lv : Value) (ev : Value) (w : World) (hb : Blk w b 66 #[.bool true, .int .i64 ep, cv, .int .u64 fl, lgv, .int .u64 hz, pv, .int .i64 tp, .bool x0.1, .int .i64 x0.2.1, .int .i64 x0.2.2.1, .int .i64 x0.2.2.2.1, .int .i64 x0.2.2.2.2, .bool x1.1, .int .i64 x1.2.1, .int .i64 x1.2.2.1, .int .i64 x1.2.2.2.1, .int .i64 x1.2.2.2.2, .bool x2.1, .int .i64 x2.2.1, .int .i64 x2.2.2.1, .int .i64 x2.2.2.2.1, .int .i64 x2.2.2.2.2]) (hm : SliceOf memE 2 w mv d.ms) (hg : SliceOf (intE .i64) 1 w lv d.lg) (he : SliceOf opE 3 w ev d.el) (hR : NoteR d) (hbm : d.ms ≠ [] → ∀ k, mv.ownBlock = some k → ¬ k = b) (hbg : d.lg ≠ [] → ∀ k, lv.ownBlock = some k → ¬ k = b) (hbe : d.el ≠ [] → ∀ k, ev.ownBlock = some k → ¬ k = b) (hch : chkN d ≠ 0) :
    Calls Try.prog 8 #[pt b 0, .agg #[.int .i64 d.k, .int .i64 d.n, .int .u64 d.t, .int .i64 d.ep, mv, .int .u64 d.fl, lv, .int .i64 d.ec, .int .i64 d.er, ev, .int .u64 d.ets, .int .i64 d.pid, .int .u64 d.pat, .int .i64 d.plf, .int .i64 d.sc, .int .i64 d.sr, .int .i64 d.se, .int .i64 d.sp]] w fun e w' => e = .returned (.int .i64 (chkN d)) ∧ Blk w' b 66 #[.bool true, .int .i64 ep, cv, .int .u64 fl, lgv, .int .u64 hz, pv, .int .i64 tp, .bool x0.1, .int .i64 x0.2.1, .int .i64 x0.2.2.1, .int .i64 x0.2.2.2.1, .int .i64 x0.2.2.2.2, .bool x1.1, .int .i64 x1.2.1, .int .i64 x1.2.2.1, .int .i64 x1.2.2.2.1, .int .i64 x1.2.2.2.2, .bool x2.1, .int .i64 x2.2.1, .int .i64 x2.2.2.1, .int .i64 x2.2.2.2.1, .int .i64 x2.2.2.2.2] ∧ But (fun q => q = b) w w' := by
 have hrng := hR.rng
 have hB0 := But.refl (fun q => q = b) w
 have hl_hb := hb.lt
 have hl_hm := sl_len hm
 have hl_hg := sl_len hg
 have hl_he := sl_len he
 refine co_enter (n := 113) Try.func8 rfl rfl rfl [(0, pt b 0), (1, .agg #[.int .i64 d.k, .int .i64 d.n, .int .u64 d.t, .int .i64 d.ep, mv, .int .u64 d.fl, lv, .int .i64 d.ec, .int .i64 d.er, ev, .int .u64 d.ets, .int .i64 d.pid, .int .u64 d.pat, .int .i64 d.plf, .int .i64 d.sc, .int .i64 d.sr, .int .i64 d.se, .int .i64 d.sp])] rfl (fun a h0 => ?_)
 refine co_seq ?_
 refine co_reg ?_
 refine pw h0 rfl (op_new (v := fun N => pt N 0) (T := 44) (cs := #[.int .i64 d.k, .int .i64 d.n, .int .u64 d.t, .int .i64 d.ep, mv, .int .u64 d.fl, lv, .int .i64 d.ec, .int .i64 d.er, ev, .int .u64 d.ets, .int .i64 d.pid, .int .u64 d.pat, .int .i64 d.plf, .int .i64 d.sc, .int .i64 d.sr, .int .i64 d.se, .int .i64 d.sp]) (by kernel_rfl) (by kernel_rfl) (by kernel_rfl)) ?_; clear h0
 rintro _ w2 a1 ⟨N3, rfl, hN6, hz7, hk5, hg4⟩ h1
 have hz8 := hg4.size
 try dsimp only at h1
 refine pk0 (v := .int .i64 0) h1 rfl fun a9 h9 => ?_; clear h1
 refine pl_nil ?_
 refine co_then ?_
 refine co_seq ?_
 refine co_seq ?_
 refine co_reg ?_
 refine pk0 (v := pt b 0) h9 rfl fun a10 h10 => ?_; clear h9
 have hk13 := hb.kept hg4 (by simp)
 refine pw h10 rfl (op_call (args := #[pt b 0]) (R := fun res xw => res = .bool false ∧ Below w2.heap.size w2 xw) rfl rfl rfl (by kernel_rfl) (by kernel_rfl) (Try.call19 _ _) (mszeroT b ep cv fl lgv hz pv tp x0 x1 x2 w2 hk13) (by rintro e x ⟨rfl, hb14⟩; exact ⟨_, rfl, ⟨rfl, hb14⟩⟩)) ?_; clear h10
 rintro _ w12 a11 ⟨rfl, hb14⟩ h11
 have hz15 := hb14.size
 refine pl_nil ?_
 refine co_then ?_
 refine co_false h11 rfl ?_
 refine wp_skip ?_
 refine co_then ?_
 refine co_seq ?_
 refine co_seq ?_
 refine co_reg ?_
 have hk16 := hk5.below hb14
 refine pk (v := .agg #[.int .i64 d.k, .int .i64 d.n, .int .u64 d.t, .int .i64 d.ep, mv, .int .u64 d.fl, lv, .int .i64 d.ec, .int .i64 d.er, ev, .int .u64 d.ets, .int .i64 d.pid, .int .u64 d.pat, .int .i64 d.plf, .int .i64 d.sc, .int .i64 d.sr, .int .i64 d.se, .int .i64 d.sp]) h11 rfl (rn_loadN rfl rfl Try.underlying44 rfl (by kernel_rfl) hk16.all) fun a17 h17 => ?_; clear h11
 have hB20 := fb_new hB0 hg4
 have hB21 := fb_call hB20 hb14
 refine pw h17 rfl (op_call (args := #[.agg #[.int .i64 d.k, .int .i64 d.n, .int .u64 d.t, .int .i64 d.ep, mv, .int .u64 d.fl, lv, .int .i64 d.ec, .int .i64 d.er, ev, .int .u64 d.ets, .int .i64 d.pid, .int .u64 d.pat, .int .i64 d.plf, .int .i64 d.sc, .int .i64 d.sr, .int .i64 d.se, .int .i64 d.sp]]) (R := fun res xw => res = .int .i64 (chkN d) ∧ Below w12.heap.size w12 xw) rfl rfl rfl (by kernel_rfl) (by kernel_rfl) (Try.call20 _ _) (nCheck_any d mv lv ev w12 (sl_butS hm hB21 hbm) (sl_butS hg hB21 hbg) (sl_butS he hB21 hbe) hR) (by rintro e x ⟨rfl, hb22⟩; exact ⟨_, rfl, ⟨rfl, hb22⟩⟩)) ?_; clear h17
 rintro _ w19 a18 ⟨rfl, hb22⟩ h18
 have hz23 := hb22.size
 refine pk0 (v := .int .i64 (chkN d)) h18 rfl fun a24 h24 => ?_; clear h18
 refine pl_nil ?_
 refine co_then ?_
 refine co_seq ?_
 refine co_reg ?_
 refine pk0 (v := .int .i64 (chkN d)) h24 rfl fun a25 h25 => ?_; clear h24
 refine pk0 (v := .bool (chkN d != 0)) h25 rfl fun a26 h26 => ?_; clear h25
 refine pl_nil ?_
 refine co_then ?_
 have hc27 : (chkN d != 0) = true := by first | (simp; done) | (simp; omega) | exact beq_false_of_ne (by omega) | exact beq_iff_eq.2 (by omega)
 rw [hc27] at h26; clear hc27
 refine co_true h26 rfl ?_
 refine co_seq ?_
 refine co_reg ?_
 refine pk0 (v := .int .i64 (chkN d)) h26 rfl fun a28 h28 => ?_; clear h26
 refine pk0 (v := .int .i64 (chkN d)) h28 rfl fun a29 h29 => ?_; clear h28
 refine pl_nil ?_
 refine co_then ?_
 refine wp_ret ?_
 refine co_thenR ?_
 refine co_ret1 h29 rfl rfl ?_
 have hk30 := hk13.below hb14
 have hk31 := hk30.below hb22
 have hB32 := fb_call hB21 hb22
 exact ⟨rfl, hk31, hB32⟩
end Go.Proofs.Ytnjbnndpbegkdaa

/- Package mstate: a state as one; Apply of any note. Conditions: at most 900 trusted. -/
namespace Go.Proofs.Ytnjbnndpbegkdaa
open Go.RowKit Go.PlainAid
set_option linter.unusedVariables false
set_option linter.unusedSimpArgs false

/-- What a state knows. -/
structure MsT where
  ep : Int
  fl : Int
  hz : Int
  tp : Int
  ms : List MemT
  lg : List Int
  pn : List PinT
  x0 : SdT
  x1 : SdT
  x2 : SdT
def msZ : MsT := ⟨0, 0, 0, 0, [], [], [], (false, 0, 0, 0, 0), (false, 0, 0, 0, 0), (false, 0, 0, 0, 0)⟩
def MsO (w : World) (b : Nat) (s : MsT) : Prop := ∃ cv lgv pv : Value, Blk w b 66 #[.bool true, .int .i64 s.ep, cv, .int .u64 s.fl, lgv, .int .u64 s.hz, pv, .int .i64 s.tp, .bool s.x0.1, .int .i64 s.x0.2.1, .int .i64 s.x0.2.2.1, .int .i64 s.x0.2.2.2.1, .int .i64 s.x0.2.2.2.2, .bool s.x1.1, .int .i64 s.x1.2.1, .int .i64 s.x1.2.2.1, .int .i64 s.x1.2.2.2.1, .int .i64 s.x1.2.2.2.2, .bool s.x2.1, .int .i64 s.x2.2.1, .int .i64 s.x2.2.2.1, .int .i64 s.x2.2.2.2.1, .int .i64 s.x2.2.2.2.2] ∧
  w.ownsRow 0 102 2 cv s.ms.length (s.ms.flatMap memE) ∧ w.ownsRow 0 3 1 lgv s.lg.length (s.lg.flatMap (intE .i64)) ∧ w.ownsRow 0 40 3 pv s.pn.length (s.pn.flatMap pinE) ∧ s.pn.length ≤ 3
/-- What a note comes to, and the state behind it. -/
def apM (d : NoteD) (s : MsT) : Int × MsT :=
  if chkN d ≠ 0 then (chkN d, s)
  else if d.k = 1 then ((ap1 s.ep s.fl s.ms s.lg d).1, { s with ep := (ap1 s.ep s.fl s.ms s.lg d).2.1, fl := (ap1 s.ep s.fl s.ms s.lg d).2.2.1, ms := (ap1 s.ep s.fl s.ms s.lg d).2.2.2.1, lg := (ap1 s.ep s.fl s.ms s.lg d).2.2.2.2 })
  else if d.k = 5 then ((ap5 s.ms s.lg d).1, { s with lg := (ap5 s.ms s.lg d).2 })
  else if d.k = 8 then (if d.sc = 0 then ((sdF s.x0 d).1, { s with x0 := (sdF s.x0 d).2 }) else if d.sc = 1 then ((sdF s.x1 d).1, { s with x1 := (sdF s.x1 d).2 }) else ((sdF s.x2 d).1, { s with x2 := (sdF s.x2 d).2 }))
  else ((apF s.pn s.hz s.tp d).1, { s with hz := (apF s.pn s.hz s.tp d).2.1, pn := (apF s.pn s.hz s.tp d).2.2.1, tp := (apF s.pn s.hz s.tp d).2.2.2 })
section
variable {w x : World} {b : Nat} {s : MsT} {d : NoteD} {mv lv ev : Value}
theorem MsO.lt (h : MsO w b s) : b < w.heap.size := by obtain ⟨_, _, _, h, _⟩ := h; exact h.lt
theorem row_butM {T : TypeId} {sz k : Nat} {v : Value} {xs : List Value} {T' : TypeId} {cs : Array Value} (h : w.ownsRow 0 T sz v k xs) (hb : Blk w b T' cs) (hT : T ≠ T') (hB : But (fun q => q = b) w x) : x.ownsRow 0 T sz v k xs :=
  own_but h hB (fun i hi hS => own_neT h hb hT (by rw [hi, show i = b from hS]))
theorem msNew (w : World) : Calls Try.prog 7 #[] w fun e w' => ∃ N : Nat, e = .returned (pt N 0) ∧ MsO w' N msZ ∧ w.heap.size ≤ N ∧ Below w.heap.size w w' :=
  (msNew_any w).mono fun e x ⟨N, h1, h2, h3, h4⟩ => ⟨N, h1, ⟨_, _, _, h2, World.ownsRow_nil _ _ _ _, World.ownsRow_nil _ _ _ _, World.ownsRow_nil _ _ _ _, Nat.zero_le _⟩, h3, h4⟩
theorem msApply (w : World) (mv lv ev : Value) (h : MsO w b s) (hl : s.lg.length ≤ 900) (hm : SliceOf memE 2 w mv d.ms) (hg : SliceOf (intE .i64) 1 w lv d.lg) (he : SliceOf opE 3 w ev d.el) (hR : NoteR d)
    (hbm : d.ms ≠ [] → ∀ k, mv.ownBlock = some k → ¬ k = b) (hbg : d.lg ≠ [] → ∀ k, lv.ownBlock = some k → ¬ k = b) (hbe : d.el ≠ [] → ∀ k, ev.ownBlock = some k → ¬ k = b) :
    Calls Try.prog 8 #[pt b 0, .agg #[.int .i64 d.k, .int .i64 d.n, .int .u64 d.t, .int .i64 d.ep, mv, .int .u64 d.fl, lv, .int .i64 d.ec, .int .i64 d.er, ev, .int .u64 d.ets, .int .i64 d.pid, .int .u64 d.pat, .int .i64 d.plf, .int .i64 d.sc, .int .i64 d.sr, .int .i64 d.se, .int .i64 d.sp]] w fun e w' => e = .returned (.int .i64 (apM d s).1) ∧ MsO w' b (apM d s).2 ∧ But (fun q => q = b) w w' := by
  obtain ⟨cv, lgv, pv, h1, h2, h3, h4, h5⟩ := h
  by_cases q0 : chkN d ≠ 0
  · have hA : apM d s = (chkN d, s) := by unfold apM; rw [if_pos q0]
    rw [hA]
    refine (msApplyE b s.ep cv s.fl lgv s.hz pv s.tp s.x0 s.x1 s.x2 d mv lv ev w h1 hm hg he hR hbm hbg hbe q0).mono ?_
    rintro e x ⟨rfl, k1, k2⟩
    exact ⟨rfl, ⟨_, _, _, k1, row_butM h2 h1 (by decide) k2, row_butM h3 h1 (by decide) k2, row_butM h4 h1 (by decide) k2, h5⟩, k2⟩
  by_cases q1 : d.k = 1
  · have hA : apM d s = ((ap1 s.ep s.fl s.ms s.lg d).1, { s with ep := (ap1 s.ep s.fl s.ms s.lg d).2.1, fl := (ap1 s.ep s.fl s.ms s.lg d).2.2.1, ms := (ap1 s.ep s.fl s.ms s.lg d).2.2.2.1, lg := (ap1 s.ep s.fl s.ms s.lg d).2.2.2.2 }) := by unfold apM; rw [if_neg q0, if_pos q1]
    rw [hA]
    refine (msApply1_any b s.ep cv s.fl lgv s.hz pv s.tp s.x0 s.x1 s.x2 s.ms s.lg d mv lv ev w h1 h2 h3 hm hg he hR hbm hbg hbe q1).mono ?_
    rintro e x ⟨cv2, lv2, rfl, k1, k2, k3, k4⟩
    exact ⟨rfl, ⟨_, _, _, k1, k2, k3, row_butM h4 h1 (by decide) k4, h5⟩, k4⟩
  by_cases q5 : d.k = 5
  · have hA : apM d s = ((ap5 s.ms s.lg d).1, { s with lg := (ap5 s.ms s.lg d).2 }) := by unfold apM; rw [if_neg q0, if_neg q1, if_pos q5]
    rw [hA]
    refine (msApply5_any b s.ep cv s.fl lgv s.hz pv s.tp s.x0 s.x1 s.x2 s.ms s.lg d mv lv ev w h1 h2 h3 hm hg he hR hbm hbg hbe q5 hl).mono ?_
    rintro e x ⟨lv2, rfl, k1, k3, k4⟩
    exact ⟨rfl, ⟨_, _, _, k1, row_butM h2 h1 (by decide) k4, k3, row_butM h4 h1 (by decide) k4, h5⟩, k4⟩
  by_cases q8 : d.k = 8
  · have hc := ((chkN_ok (d := d) (by omega)).2.2.2.2.2 q8).1
    by_cases c0 : d.sc = 0
    · have hA : apM d s = ((sdF s.x0 d).1, { s with x0 := (sdF s.x0 d).2 }) := by unfold apM; rw [if_neg q0, if_neg q1, if_neg q5, if_pos q8, if_pos c0]
      rw [hA]
      refine (msApply80 b s.ep cv s.fl lgv s.hz pv s.tp s.x0 s.x1 s.x2 d mv lv ev w h1 hm hg he hR hbm hbg hbe q8 c0).mono ?_
      rintro e x ⟨rfl, k1, k2⟩
      exact ⟨rfl, ⟨_, _, _, k1, row_butM h2 h1 (by decide) k2, row_butM h3 h1 (by decide) k2, row_butM h4 h1 (by decide) k2, h5⟩, k2⟩
    by_cases c1 : d.sc = 1
    · have hA : apM d s = ((sdF s.x1 d).1, { s with x1 := (sdF s.x1 d).2 }) := by unfold apM; rw [if_neg q0, if_neg q1, if_neg q5, if_pos q8, if_neg c0, if_pos c1]
      rw [hA]
      refine (msApply81 b s.ep cv s.fl lgv s.hz pv s.tp s.x0 s.x1 s.x2 d mv lv ev w h1 hm hg he hR hbm hbg hbe q8 c1).mono ?_
      rintro e x ⟨rfl, k1, k2⟩
      exact ⟨rfl, ⟨_, _, _, k1, row_butM h2 h1 (by decide) k2, row_butM h3 h1 (by decide) k2, row_butM h4 h1 (by decide) k2, h5⟩, k2⟩
    · have hA : apM d s = ((sdF s.x2 d).1, { s with x2 := (sdF s.x2 d).2 }) := by unfold apM; rw [if_neg q0, if_neg q1, if_neg q5, if_pos q8, if_neg c0, if_neg c1]
      rw [hA]
      refine (msApply82 b s.ep cv s.fl lgv s.hz pv s.tp s.x0 s.x1 s.x2 d mv lv ev w h1 hm hg he hR hbm hbg hbe q8 (by omega)).mono ?_
      rintro e x ⟨rfl, k1, k2⟩
      exact ⟨rfl, ⟨_, _, _, k1, row_butM h2 h1 (by decide) k2, row_butM h3 h1 (by decide) k2, row_butM h4 h1 (by decide) k2, h5⟩, k2⟩
  · have hA : apM d s = ((apF s.pn s.hz s.tp d).1, { s with hz := (apF s.pn s.hz s.tp d).2.1, pn := (apF s.pn s.hz s.tp d).2.2.1, tp := (apF s.pn s.hz s.tp d).2.2.2 }) := by unfold apM; rw [if_neg q0, if_neg q1, if_neg q5, if_neg q8]
    rw [hA]
    refine (msApplyP_any b s.ep cv s.fl lgv s.hz pv s.pn s.tp s.x0 s.x1 s.x2 d mv lv ev w h1 h4 h5 hm hg he hR hbm hbg hbe ⟨q1, q5, q8⟩).mono ?_
    rintro e x ⟨pv2, rfl, k1, k2, k3, k4⟩
    exact ⟨rfl, ⟨_, _, _, k1, row_butM h2 h1 (by decide) k4, row_butM h3 h1 (by decide) k4, k2, k3⟩, k4⟩
end
end Go.Proofs.Ytnjbnndpbegkdaa

/- catenalaw28: MstateNever: what a note never turns back. Conditions: none. -/
namespace Go.Proofs.Ytnjbnndpbegkdaa
set_option linter.unusedVariables false
set_option linter.unusedSimpArgs false

/-- What holds of a state that notes made. -/
structure MsV (s : MsT) : Prop where
  head : 0 < s.ep → headI s.ms ∈ s.lg
  ms : s.ms.length ≤ 20
theorem MsV.z : MsV msZ := ⟨fun h => by simp [msZ] at h, by simp [msZ]⟩
theorem fw_cases (ep fl : Int) (ms : List MemT) (lg : List Int) (cep cfl : Int) (cms : List MemT) (ids : List Int) :
    ((fwS ep fl ms lg cep cfl cms ids).1 ≠ 0 ∧ (fwS ep fl ms lg cep cfl cms ids).2 = (ep, fl, ms, lg)) ∨ (fwS ep fl ms lg cep cfl cms ids = (0, cep, cfl, cms, []) ∧ ep < cep ∧ memIds cms ids = true ∧ headI cms ∈ ids) := by
  by_cases h0 : fwF ep cep cms ids = 0
  · right
    refine ⟨fwS_y h0, ?_⟩
    unfold fwF at h0
    by_cases h1 : cep ≤ ep
    · rw [if_pos h1] at h0; omega
    rw [if_neg h1] at h0
    by_cases h2 : memIds cms ids = false
    · rw [if_pos h2] at h0; omega
    rw [if_neg h2] at h0
    by_cases h3 : inL ids (headI cms) = false
    · rw [if_pos h3] at h0; omega
    exact ⟨by omega, by simpa using h2, inL_mem.1 (by simpa using h3)⟩
  · left
    rw [fwS_n rfl h0]
    exact ⟨h0, rfl⟩
end Go.Proofs.Ytnjbnndpbegkdaa
