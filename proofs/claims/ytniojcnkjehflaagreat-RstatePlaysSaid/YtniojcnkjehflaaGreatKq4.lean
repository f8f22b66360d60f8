/- Put together: RstBKp, RsoAKp, TrcAKp, TrcBKp, TrcCKp, TrcDKp, TrcEKp, TrcKKp, TrcIKp, TrcHKp, TrcJKp, TrcLKp, VerAKp, VerBKp, MvAKp, MvBKp. Conditions: as each says. -/
import Derived.Test.YtniojcnkjehflaaGreatKq3
import Derived.Test.YtniojcnkjehflaaGreatKq2
import Derived.Test.YtniojcnkjehflaaGreatKq1
import Derived.RangeFuncNested
import Derived.RangeFuncBound
import Derived.RangeFuncCalls
import Derived.RangeFuncLeaves
import Derived.RangeFuncBox
import Derived.Shelf.Abstract
import Derived.Shelf.RegionOpen
import Derived.WalkKit
import Derived.OwnWalkIn
import Derived.TacticsInMore
import Derived.LoopNIn
import Derived.LoopIn
import Derived.ScopeJumps
import Derived.Maps.AppendAt
import Derived.BigQuiet
import Derived.WalkMore
import Derived.Deep.AppendLies
import Derived.Deep.RegionLaw
/- Package rstate: Apply of one that was made, by its blocks. Conditions: a right log. -/
namespace Go.Proofs.YtniojcnkjehflaaGreat
open Go.RowKit Go.PlainAid
set_option linter.unusedVariables false
set_option linter.unusedSimpArgs false


theorem wf_64 {a : Int} (h : -9223372036854775808 ≤ a ∧ a ≤ 9223372036854775807) : (Lit.int .i64 a).wf = true := by simp [Lit.wf, IntKind.min, IntKind.max, IntKind.signed, IntKind.bits]; omega
theorem chkC_len {ep : Int} {ms : List MemT} (h : chkC ep ms = 0) : ms.length ≤ 20 := by
  unfold chkC at h
  repeat' (first | split at h | omega)
theorem chkB_en {c r : Int} {l : List OpT} (h : chkB c r l = 0) : l.length ≤ 20 ∧ (∀ o ∈ l, opOk o) ∧ (Lit.int .i64 c).wf = true ∧ (Lit.int .i64 r).wf = true := by
  obtain ⟨h1, h2, h3, h4, _⟩ := (chkB_iff c r l).1 h
  refine ⟨by omega, fun o ho => by have h := chkOp_ok (h4 o ho); exact ⟨by omega, by omega⟩, wf_64 (by omega), wf_64 (by omega)⟩
/-- What a note comes to: the answer, the epoch, the horizon, the entries. -/
def ApR (d : NoteD) (ep hz : Int) (L : List EntT) (r ep' hz' : Int) (L' : List EntT) : Prop :=
  (chkN d = 0 ∧ d.k = 2 ∧ r = setE L d.n d.ec d.er d.el d.ets ∧ SetR L d.n d.ec d.er d.el d.ets L' ∧ ep' = ep ∧ hz' = hz) ∨
  (chkN d = 0 ∧ d.k = 3 ∧ r = stE L d.n d.t ∧ L' = stL L d.n d.t ∧ ep' = ep ∧ hz' = hz) ∨
  (chkN d = 0 ∧ d.k = 4 ∧ r = 0 ∧ ¬ d.t < hz ∧ L'.map e0 = (thL L d.t d.n).map e0 ∧ ep' = ep ∧ hz' = d.t) ∨
  (chkN d = 0 ∧ d.k = 1 ∧ r = 0 ∧ ¬ d.ep ≤ ep ∧ L' = L ∧ ep' = d.ep ∧ hz' = hz) ∨
  ((chkN d ≠ 0 ∧ r = chkN d ∨ chkN d = 0 ∧ (d.k = 1 ∧ d.ep ≤ ep ∨ d.k = 4 ∧ d.t < hz) ∧ r = 18 ∨ chkN d = 0 ∧ ¬ d.k = 1 ∧ ¬ d.k = 2 ∧ ¬ d.k = 3 ∧ ¬ d.k = 4 ∧ r = 11) ∧ L' = L ∧ ep' = ep ∧ hz' = hz)
theorem ApR.ri {d : NoteD} {ep hz r ep' hz' : Int} {L L' : List EntT} (h : ApR d ep hz L r ep' hz' L') (hR : RI L) : RI L' := by
  rcases h with ⟨_, _, _, h, _⟩ | ⟨_, _, _, h, _⟩ | ⟨_, _, _, _, h, _⟩ | ⟨_, _, _, _, h, _⟩ | ⟨_, h, _⟩
  · exact RI.e0 (setR_e0 h).symm hR.set
  · subst h; exact hR.st
  · exact RI.e0 h.symm hR.th
  · subst h; exact hR
  · subst h; exact hR
/-- The epoch and the horizon never go back. -/
theorem ApR.up {d : NoteD} {ep hz r ep' hz' : Int} {L L' : List EntT} (h : ApR d ep hz L r ep' hz' L') : ep ≤ ep' ∧ hz ≤ hz' ∧ (¬ r = 0 ∨ ¬ d.k = 1 ∨ ep' = d.ep) := by
  rcases h with ⟨_, _, _, _, _, _⟩ | ⟨_, _, _, _, _, _⟩ | ⟨_, _, _, _, _, _, _⟩ | ⟨_, _, _, _, _, _, _⟩ | ⟨h, _, _, _⟩ <;> refine ⟨by omega, by omega, by omega⟩

set_option maxRecDepth 100000 in
set_option maxHeartbeats 1600000 in
theorem rsApply_blk (b : Nat) (q : Nat) (g : Nat) (S : Nat → Prop) (L : List EntT) (ep : Int) (cv : Value) (ms : List MemT) (fl : Int) (hz : Int) (d : NoteD) (mv : Value) (lv : Value) (ev : Value) (w : World) (hb : Blk w b 71 #[pt q 0]) (hq : Blk w q 69 #[pt g 0, .int .i64 ep, cv, .int .u64 fl, .int .u64 hz]) (hL : LObj S w g L) (hSb : ¬ S b) (hSq : ¬ S q) (hcv : w.ownsRow 0 112 2 cv ms.length (ms.flatMap memE)) (hcS : ∀ i, cv.ownBlock = some i → ¬ S i) (hms : ms.length ≤ 20) (hRI : RI L) (hbq : b ≠ q) (hm : SliceOf memE 2 w mv d.ms) (hg : SliceOf (intE .i64) 1 w lv d.lg) (he : SliceOf opE 3 w ev d.el) (hR : NoteR d) (hbm : d.ms ≠ [] → ∀ k, mv.ownBlock = some k → ¬ (k = q ∨ S k)) (hbg : d.lg ≠ [] → ∀ k, lv.ownBlock = some k → ¬ (k = q ∨ S k)) (hbe : d.el ≠ [] → ∀ k, ev.ownBlock = some k → ¬ (k = q ∨ S k)) :
    Calls Tryz.prog 8 #[pt b 0, .agg #[.int .i64 d.k, .int .i64 d.n, .int .u64 d.t, .int .i64 d.ep, mv, .int .u64 d.fl, lv, .int .i64 d.ec, .int .i64 d.er, ev, .int .u64 d.ets, .int .i64 d.pid, .int .u64 d.pat, .int .i64 d.plf, .int .i64 d.sc, .int .i64 d.sr, .int .i64 d.se, .int .i64 d.sp]] w fun e w' => ∃ (r : Int) (S' : Nat → Prop) (L' : List EntT) (ep' : Int) (cv' : Value) (ms' : List MemT) (fl' : Int) (hz' : Int), e = .returned (.int .i64 r) ∧ Blk w' q 69 #[pt g 0, .int .i64 ep', cv', .int .u64 fl', .int .u64 hz'] ∧ LObj S' w' g L' ∧ w'.ownsRow 0 112 2 cv' ms'.length (ms'.flatMap memE) ∧ ms'.length ≤ 20 ∧ (∀ i, cv'.ownBlock = some i → ¬ S' i) ∧ (∀ k, S' k → (k = q ∨ S k) ∨ w.heap.size ≤ k) ∧ ¬ S' q ∧ ApR d ep hz L r ep' hz' L' ∧ (∀ i, cv'.ownBlock = some i → cv.ownBlock = some i ∨ w.heap.size ≤ i) ∧ But (fun k => k = q ∨ S k) w w' := by
 have hrng := hR.rng;have hlq := hq.lt;have hlb := hb.lt;have hB0 := But.refl (fun k => k = q ∨ S k) w;have hl_hb := hb.lt;have hl_hq := hq.lt;have hl_hm := sl_len hm;have hl_hg := sl_len hg;have hl_he := sl_len he;have hinS : ∀ k, S k → (k = q ∨ S k) ∨ w.heap.size ≤ k := fun k hk => .inl (.inr hk);have hinq : (q = q ∨ S q) ∨ w.heap.size ≤ q := .inl (.inl rfl);refine co_enter (n := 80) Tryz.func8 rfl rfl rfl [(0, pt b 0), (1, .agg #[.int .i64 d.k, .int .i64 d.n, .int .u64 d.t, .int .i64 d.ep, mv, .int .u64 d.fl, lv, .int .i64 d.ec, .int .i64 d.er, ev, .int .u64 d.ets, .int .i64 d.pid, .int .u64 d.pat, .int .i64 d.plf, .int .i64 d.sc, .int .i64 d.sr, .int .i64 d.se, .int .i64 d.sp])] rfl (fun a s => ?_);refine q2 ?_;refine pw s rfl (op_new (v := fun N => pt N 0) (T := 50) (cs := #[.int .i64 d.k, .int .i64 d.n, .int .u64 d.t, .int .i64 d.ep, mv, .int .u64 d.fl, lv, .int .i64 d.ec, .int .i64 d.er, ev, .int .u64 d.ets, .int .i64 d.pid, .int .u64 d.pat, .int .i64 d.plf, .int .i64 d.sc, .int .i64 d.sr, .int .i64 d.se, .int .i64 d.sp]) (by kernel_rfl) (by kernel_rfl) (by kernel_rfl)) ?_;rintro _ w2 a1 ⟨N3, rfl, hN6, hz7, hk5, hg4⟩ s;have ha8 := row_fresh hcv hN6;have hu9 := row_under hcv hN6;have hz10 := hg4.size;have ho11 := off_new (LObj.ofS hL) hN6
 try dsimp only at s
 refine pk0 (v := .int .i64 0) s rfl fun _ s => q3 ?_;refine pk0 (v := pt b 0) s rfl fun _ s => ?_;have hk16 := hb.kept hg4 (by simp);refine pw s rfl (op_call (args := #[pt b 0]) (R := fun res xw => res = pt q 0 ∧ w2 = xw) rfl rfl rfl (by kernel_rfl) (by kernel_rfl) (Tryz.call19 _ _) (rsgetT b q w2 hk16) (by rintro e x ⟨rfl, rfl⟩; exact ⟨_, rfl, ⟨rfl, rfl⟩⟩)) ?_;rintro _ _ a14 ⟨rfl, rfl⟩ s;refine pk0 (v := pt q 0) s rfl fun _ s => q6 ?_;refine pk0 (v := pt q 0) s rfl fun _ s => ?_;have hk22 := hq.kept hg4 (by simp);refine pw s rfl (op_call (args := #[pt q 0]) (R := fun res xw => res = .bool false ∧ w2 = xw) rfl rfl rfl (by kernel_rfl) (by kernel_rfl) (Tryz.call20 _ _) (rszeroT q g ep cv fl hz w2 hk22) (by rintro e x ⟨rfl, rfl⟩; exact ⟨_, rfl, ⟨rfl, rfl⟩⟩)) ?_;rintro _ _ a20 ⟨rfl, rfl⟩ s;refine q1 ?_;refine co_false s rfl <| q8 ?_;refine pk (v := .agg #[.int .i64 d.k, .int .i64 d.n, .int .u64 d.t, .int .i64 d.ep, mv, .int .u64 d.fl, lv, .int .i64 d.ec, .int .i64 d.er, ev, .int .u64 d.ets, .int .i64 d.pid, .int .u64 d.pat, .int .i64 d.plf, .int .i64 d.sc, .int .i64 d.sr, .int .i64 d.se, .int .i64 d.sp]) s rfl (rn_loadN rfl rfl Tryz.underlying50 rfl (by kernel_rfl) hk5.all) fun _ s => ?_;have hB27 := fbU_new hB0 hg4;refine pw s rfl (op_call (args := #[.agg #[.int .i64 d.k, .int .i64 d.n, .int .u64 d.t, .int .i64 d.ep, mv, .int .u64 d.fl, lv, .int .i64 d.ec, .int .i64 d.er, ev, .int .u64 d.ets, .int .i64 d.pid, .int .u64 d.pat, .int .i64 d.plf, .int .i64 d.sc, .int .i64 d.sr, .int .i64 d.se, .int .i64 d.sp]]) (R := fun res xw => res = .int .i64 (chkN d) ∧ Below w2.heap.size w2 xw) rfl rfl rfl (by kernel_rfl) (by kernel_rfl) (Tryz.call21 _ _) (nCheck_any d mv lv ev w2 (sl_butS hm hB27 hbm) (sl_butS hg hB27 hbg) (sl_butS he hB27 hbe) hR) (by rintro e x ⟨rfl, hb28⟩; exact ⟨_, rfl, ⟨rfl, hb28⟩⟩)) ?_;rintro _ w26 a25 ⟨rfl, hb28⟩ s;have hz29 := hb28.size;have hO31 := LObj.gr hL hg4 (fun k e => by cases e);have ho30 := LObj.ofS hO31;refine pk0 (v := .int .i64 (chkN d)) s rfl fun _ s => q3 ?_;refine pk0 (v := .int .i64 (chkN d)) s rfl fun _ s => ?_;refine pk0 (v := .bool (chkN d != 0)) s rfl fun _ s => q1 ?_;have hB36 := fbU_call hB27 hb28;have hr37 := row_kept_new hcv hg4;have hr38 := row_kept_new hr37 (below_grown hb28);cases hc35 : (chkN d != 0)
 ·
  rw [hc35] at s;have hp39 : ¬ (chkN d ≠ 0) := by first | simpa using hc35 | simpa [and_assoc] using hc35
  refine co_false s rfl <| q8 ?_;refine pk0 (v := pt N3 0) s rfl fun _ s => ?_;have hk41 := hk5.below hb28;refine pk (v := .int .i64 d.k) s rfl (rn_load1 rfl rfl Tryz.isAgg3 (hk41.cell rfl)) fun _ s => q1 <| wp_block <| q2 ?_;refine pk0 (v := .bool (d.k == 1)) s rfl fun _ s => ?_;refine pk0 (v := .bool (d.k == 1)) s rfl fun _ s => q1 ?_;cases hc45 : (d.k == 1)
  ·
   rw [hc45] at s;have hp46 : ¬ (d.k = 1) := by first | simpa using hc45 | simpa [and_assoc] using hc45
   refine co_false s rfl <| q2 ?_;refine pk0 (v := .bool (d.k == 2)) s rfl fun _ s => ?_;refine pk0 (v := .bool (d.k == 2)) s rfl fun _ s => q1 ?_;cases hc49 : (d.k == 2)
   ·
    rw [hc49] at s;have hp50 : ¬ (d.k = 2) := by first | simpa using hc49 | simpa [and_assoc] using hc49
    refine co_false s rfl <| q2 ?_;refine pk0 (v := .bool (d.k == 3)) s rfl fun _ s => ?_;refine pk0 (v := .bool (d.k == 3)) s rfl fun _ s => q1 ?_;cases hc53 : (d.k == 3)
    ·
     rw [hc53] at s;have hp54 : ¬ (d.k = 3) := by first | simpa using hc53 | simpa [and_assoc] using hc53
     refine co_false s rfl <| q2 ?_;refine pk0 (v := .bool (d.k == 4)) s rfl fun _ s => ?_;refine pk0 (v := .bool (d.k == 4)) s rfl fun _ s => q1 ?_;cases hc57 : (d.k == 4)
     ·
      rw [hc57] at s;have hp58 : ¬ (d.k = 4) := by first | simpa using hc57 | simpa [and_assoc] using hc57
      refine co_false s rfl <| q2 ?_;refine pk0 (v := .int .i64 11) s rfl fun _ s => q4 <| qr ?_;refine co_ret1 s rfl rfl ?_;have hk60 := hk22.below hb28;have hO61 := LObj.gr hO31 (below_grown hb28) (fun k e => by cases e);have hAp : ApR d ep hz L 11 ep hz L := .inr (.inr (.inr (.inr ⟨by first | exact .inl ⟨by omega, rfl⟩ | exact .inr (.inl ⟨by omega, by omega, rfl⟩) | exact .inr (.inr ⟨by omega, by omega, by omega, by omega, by omega, rfl⟩), rfl, rfl, rfl⟩)));exact ⟨_, _, _, _, _, _, _, _, rfl, hk60, hO61, row_lows hr38 (Nat.zero_le _), by first | assumption | omega, hcS, hinS, hSq, hAp, fun i hi => .inl hi, hB36⟩
     rw [hc57] at s;have hp62 : d.k = 4 := by first | simpa using hc57 | simpa [and_assoc] using hc57
     refine co_true s rfl <| co_seq <| co_seq ?_;refine dr_eq (by kernel_rfl) (fun w63 hg64 => ?_);have hz65 := hg64.size;refine dk0 0 (v := pt N3 2) s rfl rfl rfl fun _ s => ?_;have hk67 := hk41.kept hg64 (by simp);refine dk 1 (v := .int .u64 d.t) s rfl rfl rfl (fun x hx => by subst hx; exact (rn_load1 rfl rfl Tryz.isAgg29 (hk67.cell rfl))) fun _ s => ?_;refine dk0 2 (v := pt q 0) s rfl rfl rfl fun _ s => ?_;refine dk0 3 (v := pt q 0) s rfl rfl rfl fun _ s => ?_;refine dk0 4 (v := pt q 4) s rfl rfl rfl fun _ s => ?_;have hk72 := hk22.below hb28;have hk73 := hk72.kept hg64 (by simp);refine dk 5 (v := .int .u64 hz) s rfl rfl rfl (fun x hx => by subst hx; exact (rn_load1 rfl rfl Tryz.isAgg29 (hk73.cell rfl))) fun _ s => ?_;refine dk0 6 (v := .bool (decide (d.t < hz))) s rfl rfl rfl fun _ s => ?_;refine dr_done (by kernel_rfl) ?_;refine co_then ?_;have hB77 := fbU_new hB36 hg64;have hk78 := hk16.below hb28;have hk79 := hk78.kept hg64 (by simp);have hO80 := LObj.gr hO31 (below_grown hb28) (fun k e => by cases e);have hO81 := LObj.gr hO80 hg64 (fun k e => by cases e);cases hc76 : (decide (d.t < hz))
     ·
      rw [hc76] at s;have hp82 : ¬ (d.t < hz) := of_decide_eq_false hc76;refine co_false s rfl <| q7 ?_;refine pk0 (v := pt q 0) s rfl fun _ s => ?_;refine pk0 (v := pt N3 2) s rfl fun _ s => ?_;refine pk (v := .int .u64 d.t) s rfl (rn_load1 rfl rfl Tryz.isAgg29 (hk67.cell rfl)) fun _ s => ?_;refine pk0 (v := pt q 0) s rfl fun _ s => ?_;refine pk0 (v := pt q 4) s rfl fun _ s => ?_;refine pwD s rfl (op_store1 rfl rfl rfl rfl Tryz.sizeOf29 hk73 rfl) ?_;rintro _ w89 a88 ⟨hk90, hz91, hg92⟩ s;have hk90' : Blk w89 q 69 #[pt g 0, .int .i64 ep, cv, .int .u64 fl, .int .u64 d.t] := hk90;have hz93 := hg92.size;refine q1 ?_;refine dr_gen (fun x => But (fun k => k = q ∨ S k) w x ∧ Blk x N3 50 #[.int .i64 d.k, .int .i64 d.n, .int .u64 d.t, .int .i64 d.ep, mv, .int .u64 d.fl, lv, .int .i64 d.ec, .int .i64 d.er, ev, .int .u64 d.ets, .int .i64 d.pid, .int .u64 d.pat, .int .i64 d.plf, .int .i64 d.sc, .int .i64 d.sr, .int .i64 d.se, .int .i64 d.sp] ∧ Blk x q 69 #[pt g 0, .int .i64 ep, cv, .int .u64 fl, .int .u64 d.t]) (by kernel_rfl) (fun w94 hg95 => ?_) (fun w94 hg95 => ?_)
      ·
       have hz96 := hg95.size;have hB97 := fbU_at hB77 hg92 (fun hlt => by rcases hinq with hq | hq; exact hq; omega);have hB98 := fbU_new hB97 hg95;have hk99 := hk67.kept hg92 (by simp; omega);have hk100 := hk99.kept hg95 (by simp);have hk101 := hk90'.kept hg95 (by simp);exact ⟨hB98, hk100, hk101⟩
      have hz102 := hg95.size;have hB103 := fbU_at hB77 hg92 (fun hlt => by rcases hinq with hq | hq; exact hq; omega);have hB104 := fbU_new hB103 hg95;have hk105 := hk67.kept hg92 (by simp; omega);have hk106 := hk105.kept hg95 (by simp);have hk107 := hk90'.kept hg95 (by simp);refine dk0 0 (v := pt q 0) s rfl rfl ⟨hB104, hk106, hk107⟩ fun _ s => ?_;refine dk0 1 (v := pt q 0) s rfl rfl ⟨hB104, hk106, hk107⟩ fun _ s => ?_;refine dk0 2 (v := pt q 0) s rfl rfl ⟨hB104, hk106, hk107⟩ fun _ s => ?_;refine dk 3 (v := pt g 0) s rfl rfl ⟨hB104, hk106, hk107⟩ (fun x hx => (rn_load1 rfl rfl Tryz.isAgg66 (hx.2.2.cell rfl))) fun _ s => ?_;refine dk0 4 (v := pt N3 2) s rfl rfl ⟨hB104, hk106, hk107⟩ fun _ s => ?_;refine dk 5 (v := .int .u64 d.t) s rfl rfl ⟨hB104, hk106, hk107⟩ (fun x hx => (rn_load1 rfl rfl Tryz.isAgg29 (hx.2.1.cell rfl))) fun _ s => ?_;refine dk0 6 (v := pt N3 1) s rfl rfl ⟨hB104, hk106, hk107⟩ fun _ s => ?_;refine dk 7 (v := .int .i64 d.n) s rfl rfl ⟨hB104, hk106, hk107⟩ (fun x hx => (rn_load1 rfl rfl Tryz.isAgg3 (hx.2.1.cell rfl))) fun _ s => ?_;have hse := (chkN_ok (d := d) (by omega)).2.2.2.1 (by omega);have hO118 := LObj.gr hO81 hg92 (fun k e => by cases e; exact hSq);have hO119 := LObj.gr hO118 hg95 (fun k e => by cases e);have hk120 := hk79.kept hg92 (by simp; omega);have hk121 := hk120.kept hg95 (by simp);have hr122 := row_kept_new hr38 hg64;have hr123 := row_kept_at hr122 hg92 (own_neT hr122 hk73 (by decide));have hr124 := row_kept_new hr123 hg95;refine d1 8 s rfl rfl (op_call (args := #[pt g 0, .int .u64 d.t, .int .i64 d.n]) (R := fun res xw => ∃ L' : List EntT, ∃ S' : Nat → Prop, res = .int .i64 (thG L d.t d.n) ∧ LObj S' xw g L' ∧ (L'.map e0 = (thL L d.t d.n).map e0) ∧ Grew S S' w94 xw) rfl rfl rfl (by kernel_rfl) (by kernel_rfl) (Tryz.call25 _ _) (tThin w94 d.t d.n hO119 (by omega) (by omega) hRI.nd) (by rintro e x ⟨L', S', h0, h⟩; exact ⟨_, h0, L', S', rfl, h⟩)) ?_ ?_
      ·
       rintro _ w117 ⟨L'125, S126, rfl, hO127, hq129, hx128⟩;have hB130 := fbU_foot hB104 hx128.but (fun i hi hq => by rcases hinS i hq with k | k; exact k; omega);have hz131 := hB130.size;have hz132 := hx128.but.size;have hin133 : ∀ k, S126 k → (k = q ∨ S k) ∨ w.heap.size ≤ k := fun k hk => by rcases hx128.sub k hk with j | j; exact hinS k j; exact .inr (by omega)
       have hk134 := Blk.butS hk106 hx128.but ho11;have hk135 := Blk.butS hk107 hx128.but hSq;exact ⟨hB130, hk134, hk135⟩
      rintro _ w117 a116 ⟨L'125, S126, rfl, hO127, hq129, hx128⟩ s;have hB130 := fbU_foot hB104 hx128.but (fun i hi hq => by rcases hinS i hq with k | k; exact k; omega);have hz131 := hB130.size;have hz132 := hx128.but.size;have hin133 : ∀ k, S126 k → (k = q ∨ S k) ∨ w.heap.size ≤ k := fun k hk => by rcases hx128.sub k hk with j | j; exact hinS k j; exact .inr (by omega)
      refine dr_done (by kernel_rfl) ?_;refine co_blockN <| co_then <| q2 ?_;refine pk0 (v := .int .i64 0) s rfl fun _ s => q4 ?_;refine co_ret1 s rfl rfl ?_;have hk135 := Blk.butS hk107 hx128.but hSq;have hr136 := own_butS hr124 hx128.but hcS;have hAp : ApR d ep hz L 0 ep d.t L'125 := .inr (.inr (.inl ⟨by omega, by omega, rfl, by omega, hq129, rfl, rfl⟩));exact ⟨_, _, _, _, _, _, _, _, rfl, hk135, hO127, row_lows hr136 (Nat.zero_le _), by first | assumption | omega, (Grew.offR hx128 hr124 hcS), hin133, (Grew.off hx128 hSq hk107.lt), hAp, fun i hi => .inl hi, hB130⟩
     rw [hc76] at s;have hp137 : d.t < hz := of_decide_eq_true hc76;refine co_true s rfl <| q2 ?_;refine pk0 (v := .int .i64 18) s rfl fun _ s => q5 <| qr ?_;refine co_ret1 s rfl rfl ?_;have hr139 := row_kept_new hr38 hg64;have hAp : ApR d ep hz L 18 ep hz L := .inr (.inr (.inr (.inr ⟨by first | exact .inl ⟨by omega, rfl⟩ | exact .inr (.inl ⟨by omega, by omega, rfl⟩) | exact .inr (.inr ⟨by omega, by omega, by omega, by omega, by omega, rfl⟩), rfl, rfl, rfl⟩)));exact ⟨_, _, _, _, _, _, _, _, rfl, hk73, hO81, row_lows hr139 (Nat.zero_le _), by first | assumption | omega, hcS, hinS, hSq, hAp, fun i hi => .inl hi, hB77⟩
    rw [hc53] at s;have hp140 : d.k = 3 := by first | simpa using hc53 | simpa [and_assoc] using hc53
    refine co_true s rfl <| co_seq ?_;refine dr_gen (fun x => But (fun k => k = q ∨ S k) w x ∧ Blk x q 69 #[pt g 0, .int .i64 ep, cv, .int .u64 fl, .int .u64 hz] ∧ Blk x N3 50 #[.int .i64 d.k, .int .i64 d.n, .int .u64 d.t, .int .i64 d.ep, mv, .int .u64 d.fl, lv, .int .i64 d.ec, .int .i64 d.er, ev, .int .u64 d.ets, .int .i64 d.pid, .int .u64 d.pat, .int .i64 d.plf, .int .i64 d.sc, .int .i64 d.sr, .int .i64 d.se, .int .i64 d.sp]) (by kernel_rfl) (fun w141 hg142 => ?_) (fun w141 hg142 => ?_)
    ·
     have hz143 := hg142.size;have hB144 := fbU_new hB36 hg142;have hk145 := hk22.below hb28;have hk146 := hk145.kept hg142 (by simp);have hk147 := hk41.kept hg142 (by simp);exact ⟨hB144, hk146, hk147⟩
    have hz148 := hg142.size;have hB149 := fbU_new hB36 hg142;have hk150 := hk22.below hb28;have hk151 := hk150.kept hg142 (by simp);have hk152 := hk41.kept hg142 (by simp);refine dk0 0 (v := pt q 0) s rfl rfl ⟨hB149, hk151, hk152⟩ fun _ s => ?_;refine dk0 1 (v := pt q 0) s rfl rfl ⟨hB149, hk151, hk152⟩ fun _ s => ?_;refine dk0 2 (v := pt q 0) s rfl rfl ⟨hB149, hk151, hk152⟩ fun _ s => ?_;refine dk 3 (v := pt g 0) s rfl rfl ⟨hB149, hk151, hk152⟩ (fun x hx => (rn_load1 rfl rfl Tryz.isAgg66 (hx.2.1.cell rfl))) fun _ s => ?_;refine dk0 4 (v := pt N3 1) s rfl rfl ⟨hB149, hk151, hk152⟩ fun _ s => ?_;refine dk 5 (v := .int .i64 d.n) s rfl rfl ⟨hB149, hk151, hk152⟩ (fun x hx => (rn_load1 rfl rfl Tryz.isAgg3 (hx.2.2.cell rfl))) fun _ s => ?_;refine dk0 6 (v := pt N3 2) s rfl rfl ⟨hB149, hk151, hk152⟩ fun _ s => ?_;refine dk 7 (v := .int .u64 d.t) s rfl rfl ⟨hB149, hk151, hk152⟩ (fun x hx => (rn_load1 rfl rfl Tryz.isAgg29 (hx.2.2.cell rfl))) fun _ s => ?_;have hO163 := LObj.gr hO31 (below_grown hb28) (fun k e => by cases e);have hO164 := LObj.gr hO163 hg142 (fun k e => by cases e);have hk165 := hk16.below hb28;have hk166 := hk165.kept hg142 (by simp);refine d1 8 s rfl rfl (op_call (args := #[pt g 0, .int .i64 d.n, .int .u64 d.t]) (R := fun res xw => ∃ S' : Nat → Prop, res = .int .i64 (stE L d.n d.t) ∧ LObj S' xw g (stL L d.n d.t) ∧ Grew S S' w141 xw) rfl rfl rfl (by kernel_rfl) (by kernel_rfl) (Tryz.call24 _ _) (tStamp w141 d.n d.t hO164 (by omega)) (by rintro e x ⟨S', h0, h⟩; exact ⟨_, h0, S', rfl, h⟩)) ?_ ?_
    ·
     rintro _ w162 ⟨S167, rfl, hO168, hx169⟩;have hr170 := row_kept_new hr38 hg142;have hB171 := fbU_foot hB149 hx169.but (fun i hi hq => by rcases hinS i hq with k | k; exact k; omega);have hz172 := hB171.size;have hz173 := hx169.but.size;have hin174 : ∀ k, S167 k → (k = q ∨ S k) ∨ w.heap.size ≤ k := fun k hk => by rcases hx169.sub k hk with j | j; exact hinS k j; exact .inr (by omega)
     have hk175 := Blk.butS hk151 hx169.but hSq;have hk176 := Blk.butS hk152 hx169.but ho11;exact ⟨hB171, hk175, hk176⟩
    rintro _ w162 a161 ⟨S167, rfl, hO168, hx169⟩ s;have hr170 := row_kept_new hr38 hg142;have hB171 := fbU_foot hB149 hx169.but (fun i hi hq => by rcases hinS i hq with k | k; exact k; omega);have hz172 := hB171.size;have hz173 := hx169.but.size;have hin174 : ∀ k, S167 k → (k = q ∨ S k) ∨ w.heap.size ≤ k := fun k hk => by rcases hx169.sub k hk with j | j; exact hinS k j; exact .inr (by omega)
    have hk175 := Blk.butS hk151 hx169.but hSq;have hk176 := Blk.butS hk152 hx169.but ho11;refine dk0 9 (v := .int .i64 (stE L d.n d.t)) s rfl rfl ⟨hB171, hk175, hk176⟩ fun _ s => ?_;refine dr_done (by kernel_rfl) ?_;refine co_then <| wp_ret <| qr ?_;refine co_ret1 s rfl rfl ?_;have hr178 := own_butS hr170 hx169.but hcS;have hAp : ApR d ep hz L (stE L d.n d.t) ep hz (stL L d.n d.t) := .inr (.inl ⟨by omega, by omega, rfl, rfl, rfl, rfl⟩);exact ⟨_, _, _, _, _, _, _, _, rfl, hk175, hO168, row_lows hr178 (Nat.zero_le _), by first | assumption | omega, (Grew.offR hx169 hr170 hcS), hin174, (Grew.off hx169 hSq hk151.lt), hAp, fun i hi => .inl hi, hB171⟩
   rw [hc49] at s;have hp179 : d.k = 2 := by first | simpa using hc49 | simpa [and_assoc] using hc49
   refine co_true s rfl <| co_seq ?_;refine dr_gen (fun x => But (fun k => k = q ∨ S k) w x ∧ Blk x q 69 #[pt g 0, .int .i64 ep, cv, .int .u64 fl, .int .u64 hz] ∧ Blk x N3 50 #[.int .i64 d.k, .int .i64 d.n, .int .u64 d.t, .int .i64 d.ep, mv, .int .u64 d.fl, lv, .int .i64 d.ec, .int .i64 d.er, ev, .int .u64 d.ets, .int .i64 d.pid, .int .u64 d.pat, .int .i64 d.plf, .int .i64 d.sc, .int .i64 d.sr, .int .i64 d.se, .int .i64 d.sp]) (by kernel_rfl) (fun w180 hg181 => ?_) (fun w180 hg181 => ?_)
   ·
    have hz182 := hg181.size;have hB183 := fbU_new hB36 hg181;have hk184 := hk22.below hb28;have hk185 := hk184.kept hg181 (by simp);have hk186 := hk41.kept hg181 (by simp);exact ⟨hB183, hk185, hk186⟩
   have hz187 := hg181.size;have hB188 := fbU_new hB36 hg181;have hk189 := hk22.below hb28;have hk190 := hk189.kept hg181 (by simp);have hk191 := hk41.kept hg181 (by simp);refine dk0 0 (v := pt q 0) s rfl rfl ⟨hB188, hk190, hk191⟩ fun _ s => ?_;refine dk0 1 (v := pt q 0) s rfl rfl ⟨hB188, hk190, hk191⟩ fun _ s => ?_;refine dk0 2 (v := pt q 0) s rfl rfl ⟨hB188, hk190, hk191⟩ fun _ s => ?_;refine dk 3 (v := pt g 0) s rfl rfl ⟨hB188, hk190, hk191⟩ (fun x hx => (rn_load1 rfl rfl Tryz.isAgg66 (hx.2.1.cell rfl))) fun _ s => ?_;refine dk0 4 (v := pt N3 1) s rfl rfl ⟨hB188, hk190, hk191⟩ fun _ s => ?_;refine dk 5 (v := .int .i64 d.n) s rfl rfl ⟨hB188, hk190, hk191⟩ (fun x hx => (rn_load1 rfl rfl Tryz.isAgg3 (hx.2.2.cell rfl))) fun _ s => ?_;refine dk0 6 (v := pt N3 7) s rfl rfl ⟨hB188, hk190, hk191⟩ fun _ s => ?_;refine dk 7 (v := .agg #[.int .i64 d.ec, .int .i64 d.er, ev, .int .u64 d.ets]) s rfl rfl ⟨hB188, hk190, hk191⟩ (fun x hx => (rn_loadN rfl rfl Tryz.underlying44 rfl (by kernel_rfl) (blk_part hx.2.2 7 (by rfl)))) fun _ s => ?_;have hse := chkB_en (((chkN_ok (d := d) (by omega)).2.2.1 (by omega)).2);have hO202 := LObj.gr hO31 (below_grown hb28) (fun k e => by cases e);have hO203 := LObj.gr hO202 hg181 (fun k e => by cases e);have hk204 := hk16.below hb28;have hk205 := hk204.kept hg181 (by simp);refine d1 8 s rfl rfl (op_call (args := #[pt g 0, .int .i64 d.n, .agg #[.int .i64 d.ec, .int .i64 d.er, ev, .int .u64 d.ets]]) (R := fun res xw => ∃ L' : List EntT, ∃ S' : Nat → Prop, res = .int .i64 (setE L d.n d.ec d.er d.el d.ets) ∧ LObj S' xw g L' ∧ (SetR L d.n d.ec d.er d.el d.ets L') ∧ Grew S S' w180 xw) rfl rfl rfl (by kernel_rfl) (by kernel_rfl) (Tryz.call23 _ _) (tSet w180 d.n d.ec d.er ev d.el d.ets hO203 (sl_butS he hB188 hbe) (fun hn k hk hj => hbe hn k hk (.inr hj)) hse.1 (by omega) hse.2) (by rintro e x ⟨L', S', h0, h⟩; exact ⟨_, h0, L', S', rfl, h⟩)) ?_ ?_
   ·
    rintro _ w201 ⟨L'206, S207, rfl, hO208, hq210, hx209⟩;have hr211 := row_kept_new hr38 hg181;have hB212 := fbU_foot hB188 hx209.but (fun i hi hq => by rcases hinS i hq with k | k; exact k; omega);have hz213 := hB212.size;have hz214 := hx209.but.size;have hin215 : ∀ k, S207 k → (k = q ∨ S k) ∨ w.heap.size ≤ k := fun k hk => by rcases hx209.sub k hk with j | j; exact hinS k j; exact .inr (by omega)
    have hk216 := Blk.butS hk190 hx209.but hSq;have hk217 := Blk.butS hk191 hx209.but ho11;exact ⟨hB212, hk216, hk217⟩
   rintro _ w201 a200 ⟨L'206, S207, rfl, hO208, hq210, hx209⟩ s;have hr211 := row_kept_new hr38 hg181;have hB212 := fbU_foot hB188 hx209.but (fun i hi hq => by rcases hinS i hq with k | k; exact k; omega);have hz213 := hB212.size;have hz214 := hx209.but.size;have hin215 : ∀ k, S207 k → (k = q ∨ S k) ∨ w.heap.size ≤ k := fun k hk => by rcases hx209.sub k hk with j | j; exact hinS k j; exact .inr (by omega)
   have hk216 := Blk.butS hk190 hx209.but hSq;have hk217 := Blk.butS hk191 hx209.but ho11;refine dk0 9 (v := .int .i64 (setE L d.n d.ec d.er d.el d.ets)) s rfl rfl ⟨hB212, hk216, hk217⟩ fun _ s => ?_;refine dr_done (by kernel_rfl) ?_;refine co_then <| wp_ret <| qr ?_;refine co_ret1 s rfl rfl ?_;have hr219 := own_butS hr211 hx209.but hcS;have hAp : ApR d ep hz L (setE L d.n d.ec d.er d.el d.ets) ep hz L'206 := .inl ⟨by omega, by omega, rfl, hq210, rfl, rfl⟩;exact ⟨_, _, _, _, _, _, _, _, rfl, hk216, hO208, row_lows hr219 (Nat.zero_le _), by first | assumption | omega, (Grew.offR hx209 hr211 hcS), hin215, (Grew.off hx209 hSq hk190.lt), hAp, fun i hi => .inl hi, hB212⟩
  rw [hc45] at s;have hp220 : d.k = 1 := by first | simpa using hc45 | simpa [and_assoc] using hc45
  refine co_true s rfl <| co_seq <| co_seq ?_;refine dr_eq (by kernel_rfl) (fun w221 hg222 => ?_);have hz223 := hg222.size;refine dk0 0 (v := pt N3 3) s rfl rfl rfl fun _ s => ?_;refine dk0 1 (v := pt N3 3) s rfl rfl rfl fun _ s => ?_;have hk226 := hk41.kept hg222 (by simp);refine dk 2 (v := .int .i64 d.ep) s rfl rfl rfl (fun x hx => by subst hx; exact (rn_load1 rfl rfl Tryz.isAgg3 (hk226.cell rfl))) fun _ s => ?_;refine dk0 3 (v := pt q 0) s rfl rfl rfl fun _ s => ?_;refine dk0 4 (v := pt q 0) s rfl rfl rfl fun _ s => ?_;refine dk0 5 (v := pt q 1) s rfl rfl rfl fun _ s => ?_;refine dk0 6 (v := pt q 1) s rfl rfl rfl fun _ s => ?_;have hk232 := hk22.below hb28;have hk233 := hk232.kept hg222 (by simp);refine dk 7 (v := .int .i64 ep) s rfl rfl rfl (fun x hx => by subst hx; exact (rn_load1 rfl rfl Tryz.isAgg3 (hk233.cell rfl))) fun _ s => ?_;refine dk0 8 (v := .bool (decide (d.ep ≤ ep))) s rfl rfl rfl fun _ s => ?_;refine dr_done (by kernel_rfl) ?_;refine co_then ?_;have hB237 := fbU_new hB36 hg222;have hk238 := hk16.below hb28;have hk239 := hk238.kept hg222 (by simp);have hO240 := LObj.gr hO31 (below_grown hb28) (fun k e => by cases e);have hO241 := LObj.gr hO240 hg222 (fun k e => by cases e);cases hc236 : (decide (d.ep ≤ ep))
  ·
   rw [hc236] at s;have hp242 : ¬ (d.ep ≤ ep) := of_decide_eq_false hc236;refine co_false s rfl <| q0 <| co_reg ?_;refine pk0 (v := pt q 0) s rfl fun _ s => ?_;refine pk0 (v := pt N3 3) s rfl fun _ s => ?_;refine pk (v := .agg #[.int .i64 d.ep, mv, .int .u64 d.fl]) s rfl (rn_loadN rfl rfl Tryz.underlying31 rfl (by kernel_rfl) (blk_part hk226 3 (by rfl))) fun _ s => ?_;have ho248 := LObj.ofS hO241;have hml : d.ms.length ≤ 20 := chkC_len (((chkN_ok (d := d) (by omega)).2.1 (by omega)).1);refine pw s rfl (op_call (args := #[.agg #[.int .i64 d.ep, mv, .int .u64 d.fl]]) (R := fun res xw => ∃ u : Value, res = .agg #[.int .i64 d.ep, u, .int .u64 d.fl] ∧ xw.ownsRow w221.heap.size 112 2 u d.ms.length (d.ms.flatMap memE) ∧ Below w221.heap.size w221 xw) rfl rfl rfl (by kernel_rfl) (by kernel_rfl) (Tryz.call22 _ _) (freshConf_any d.ep d.fl mv d.ms w221 (sl_butS hm hB237 hbm) (by first | omega | (simp; done) | (simp; omega))) (by rintro e x ⟨u, rfl, hq250, hb251⟩; exact ⟨_, rfl, ⟨u, rfl, hq250, hb251⟩⟩)) ?_;rintro _ w247 a246 ⟨u249, rfl, hq250, hb251⟩ s;have hr253 := row_kept_new hr38 hg222;have hu252 := row_under hr253 (rfl : w221.heap.size = _);have hz254 := hb251.size;have ho255 := LObj.ofS hO241;have hl256 := sl_len (row_sl hq250 memE_len);refine pk0 (v := pt q 0) s rfl fun _ s => ?_;refine pk0 (v := pt q 1) s rfl fun _ s => ?_;have hk264 := hk233.below hb251;refine pwD s rfl (op_storePart (k := 1) (cs' := #[pt g 0, .int .i64 d.ep, u249, .int .u64 d.fl, .int .u64 hz]) rfl rfl rfl (all_cons rfl (all_cons (row_one hq250) (all_cons rfl all_nil))) (by kernel_rfl) hk264 rfl rfl) ?_;rintro _ w260 a259 ⟨hk261, hz262, hg263⟩ s;have hk261' : Blk w260 q 69 #[pt g 0, .int .i64 d.ep, u249, .int .u64 d.fl, .int .u64 hz] := hk261;have hz265 := hg263.size;refine pl_nil <| co_blockN <| co_then <| q2 ?_;refine pk0 (v := .int .i64 0) s rfl fun _ s => q4 ?_;refine co_ret1 s rfl rfl ?_;have hr267 := row_kept_at hq250 hg263 (own_neT hq250 hk264 (by decide));have hO268 := LObj.gr hO241 (below_grown hb251) (fun k e => by cases e);have hO269 := LObj.gr hO268 hg263 (fun k e => by cases e; exact hSq);have hB270 := fbU_call hB237 hb251;have hB271 := fbU_at hB270 hg263 (fun hlt => by rcases hinq with hq | hq; exact hq; omega);have hAp : ApR d ep hz L 0 d.ep hz L := .inr (.inr (.inr (.inl ⟨by omega, by omega, rfl, by omega, rfl, rfl, rfl⟩)));exact ⟨_, _, _, _, _, _, _, _, rfl, hk261', hO269, row_lows hr267 (Nat.zero_le _), by first | assumption | omega, (offR_row ho248 hr267 (Nat.le_refl _)), hinS, hSq, hAp, fun i hi => .inr (by have := (hr267.lt i hi).1; omega), hB271⟩
  rw [hc236] at s;have hp272 : d.ep ≤ ep := of_decide_eq_true hc236;refine co_true s rfl <| q2 ?_;refine pk0 (v := .int .i64 18) s rfl fun _ s => q5 <| qr ?_;refine co_ret1 s rfl rfl ?_;have hr274 := row_kept_new hr38 hg222;have hAp : ApR d ep hz L 18 ep hz L := .inr (.inr (.inr (.inr ⟨by first | exact .inl ⟨by omega, rfl⟩ | exact .inr (.inl ⟨by omega, by omega, rfl⟩) | exact .inr (.inr ⟨by omega, by omega, by omega, by omega, by omega, rfl⟩), rfl, rfl, rfl⟩)));exact ⟨_, _, _, _, _, _, _, _, rfl, hk233, hO241, row_lows hr274 (Nat.zero_le _), by first | assumption | omega, hcS, hinS, hSq, hAp, fun i hi => .inl hi, hB237⟩
 rw [hc35] at s;have hp275 : chkN d ≠ 0 := by first | simpa using hc35 | simpa [and_assoc] using hc35
 refine co_true s rfl <| q2 ?_;refine pk0 (v := .int .i64 (chkN d)) s rfl fun _ s => ?_;refine pk0 (v := .int .i64 (chkN d)) s rfl fun _ s => q5 ?_;refine co_ret1 s rfl rfl ?_;have hk278 := hk22.below hb28;have hO279 := LObj.gr hO31 (below_grown hb28) (fun k e => by cases e);have hAp : ApR d ep hz L (chkN d) ep hz L := .inr (.inr (.inr (.inr ⟨by first | exact .inl ⟨by omega, rfl⟩ | exact .inr (.inl ⟨by omega, by omega, rfl⟩) | exact .inr (.inr ⟨by omega, by omega, by omega, by omega, by omega, rfl⟩), rfl, rfl, rfl⟩)));exact ⟨_, _, _, _, _, _, _, _, rfl, hk278, hO279, row_lows hr38 (Nat.zero_le _), by first | assumption | omega, hcS, hinS, hSq, hAp, fun i hi => .inl hi, hB36⟩
end Go.Proofs.YtniojcnkjehflaaGreat

/- What a note comes to, as functions; where operations lie is not seen. Pure. Conditions: none. -/
namespace Go.Proofs.YtniojcnkjehflaaGreat
open Go.RowKit Go.PlainAid
set_option linter.unusedVariables false
set_option linter.unusedSimpArgs false

def apE (d : NoteD) (ep hz : Int) (L : List EntT) : Int := if chkN d ≠ 0 then chkN d else if d.k = 1 then (if d.ep ≤ ep then 18 else 0) else if d.k = 2 then setE L d.n d.ec d.er d.el d.ets else if d.k = 3 then stE L d.n d.t else if d.k = 4 then (if d.t < hz then 18 else 0) else 11
def apL (d : NoteD) (hz : Int) (L : List EntT) : List EntT := if chkN d ≠ 0 then L else if d.k = 2 then setL L d.n d.ec d.er d.el d.ets else if d.k = 3 then stL L d.n d.t else if d.k = 4 ∧ ¬ d.t < hz then thL L d.t d.n else L
def apEp (d : NoteD) (ep : Int) : Int := if chkN d = 0 ∧ d.k = 1 ∧ ¬ d.ep ≤ ep then d.ep else ep
def apHz (d : NoteD) (hz : Int) : Int := if chkN d = 0 ∧ d.k = 4 ∧ ¬ d.t < hz then d.t else hz
section
variable {d : NoteD} {ep hz r ep' hz' fl : Int} {L X L' : List EntT} {ms : List MemT}
theorem ApR.eqs (h : ApR d ep hz L r ep' hz' L') : r = apE d ep hz L ∧ ep' = apEp d ep ∧ hz' = apHz d hz ∧ L'.map e0 = (apL d hz L).map e0 := by
  rcases h with ⟨c, k, h1, h2, h3, h4⟩ | ⟨c, k, h1, h2, h3, h4⟩ | ⟨c, k, h1, h2, h3, h4, h5⟩ | ⟨c, k, h1, h2, h3, h4, h5⟩ | ⟨h, h2, h3, h4⟩
  · refine ⟨?_, ?_, ?_, ?_⟩
    · unfold apE; rw [if_neg (by omega), if_neg (by omega), if_pos k]; exact h1
    · unfold apEp; rw [if_neg (by omega)]; exact h3
    · unfold apHz; rw [if_neg (by omega)]; exact h4
    · unfold apL; rw [if_neg (by omega), if_pos k]; exact setR_e0 h2
  · refine ⟨?_, ?_, ?_, ?_⟩
    · unfold apE; rw [if_neg (by omega), if_neg (by omega), if_neg (by omega), if_pos k]; exact h1
    · unfold apEp; rw [if_neg (by omega)]; exact h3
    · unfold apHz; rw [if_neg (by omega)]; exact h4
    · unfold apL; rw [if_neg (by omega), if_neg (by omega), if_pos k, h2]
  · refine ⟨?_, ?_, ?_, ?_⟩
    · unfold apE; rw [if_neg (by omega), if_neg (by omega), if_neg (by omega), if_neg (by omega), if_pos k, if_neg h2]; exact h1
    · unfold apEp; rw [if_neg (by omega)]; exact h4
    · unfold apHz; rw [if_pos (by omega)]; exact h5
    · unfold apL; rw [if_neg (by omega), if_neg (by omega), if_neg (by omega), if_pos ⟨k, h2⟩]; exact h3
  · refine ⟨?_, ?_, ?_, ?_⟩
    · unfold apE; rw [if_neg (by omega), if_pos k, if_neg h2]; exact h1
    · unfold apEp; rw [if_pos (by omega)]; exact h4
    · unfold apHz; rw [if_neg (by omega)]; exact h5
    · unfold apL; rw [if_neg (by omega), if_neg (by omega), if_neg (by omega), if_neg (by omega), h3]
  · have hh : hz' = apHz d hz := by unfold apHz; rw [if_neg (by omega)]; exact h4
    have hp : ep' = apEp d ep := by unfold apEp; rw [if_neg (by omega)]; exact h3
    refine ⟨?_, hp, hh, ?_⟩
    · unfold apE
      by_cases c : chkN d ≠ 0
      · rw [if_pos c]; omega
      · rw [if_neg c]
        by_cases k1 : d.k = 1
        · rw [if_pos k1, if_pos (by omega)]; omega
        · rw [if_neg k1, if_neg (by omega), if_neg (by omega)]
          by_cases k4 : d.k = 4
          · rw [if_pos k4, if_pos (by omega)]; omega
          · rw [if_neg k4]; omega
    · unfold apL
      subst h2
      by_cases c : chkN d ≠ 0
      · rw [if_pos c]
      · rw [if_neg c, if_neg (by omega), if_neg (by omega), if_neg (by omega)]
theorem apE_e0 (h : L.map e0 = X.map e0) : apE d ep hz L = apE d ep hz X := by
  have h1 : setE L d.n d.ec d.er d.el d.ets = setE X d.n d.ec d.er d.el d.ets := by rw [← setE_e0, h, setE_e0]
  have h2 : stE L d.n d.t = stE X d.n d.t := by rw [← stE_e0, h, stE_e0]
  unfold apE; rw [h1, h2]
theorem apL_e0 (h : L.map e0 = X.map e0) : (apL d hz L).map e0 = (apL d hz X).map e0 := by
  have h1 : (setL L d.n d.ec d.er d.el d.ets).map e0 = (setL X d.n d.ec d.er d.el d.ets).map e0 := by rw [← setL_e0, h, setL_e0]
  have h2 : (stL L d.n d.t).map e0 = (stL X d.n d.t).map e0 := by rw [← stL_e0', h, stL_e0']
  have h3 : (thL L d.t d.n).map e0 = (thL X d.t d.n).map e0 := by rw [← thL_e0, h, thL_e0]
  unfold apL
  split
  · exact h
  · split
    · exact h1
    · split
      · exact h2
      · split
        · exact h3
        · exact h
/-- The configuration behind a note. -/
def apMs (d : NoteD) (ep : Int) (ms : List MemT) : List MemT := if chkN d = 0 ∧ d.k = 1 ∧ ¬ d.ep ≤ ep then d.ms else ms
def apFl (d : NoteD) (ep : Int) (fl : Int) : Int := if chkN d = 0 ∧ d.k = 1 ∧ ¬ d.ep ≤ ep then d.fl else fl
end
end Go.Proofs.YtniojcnkjehflaaGreat

/- Package tree: how a tree lies; deep, measure. Conditions: depths of at most 1000000. -/
namespace Go.Proofs.YtniojcnkjehflaaGreat
open Go.RowKit Go.PlainAid
set_option linter.unusedVariables false
set_option linter.unusedSimpArgs false


/-- A slice as a value. -/
structure SlT where
  a : Option Addr
  n : Nat
  c : Nat
deriving Inhabited
/-- A tree as it lies: each node with its block. -/
inductive Tm where
  | nil
  | nd (b : Nat) (l : Tm) (k : ByteArray) (v : SlT) (d : Int) (r : Tm)
deriving Inhabited
def ptT : Tm → Value
  | .nil => .pointer none
  | .nd b _ _ _ _ _ => pt b 0
def bk : Tm → List Nat
  | .nil => []
  | .nd b l _ _ _ r => b :: (bk l ++ bk r)
def dp : Tm → Int
  | .nil => 0
  | .nd _ _ _ _ d _ => d
def ndV (k : ByteArray) (v : SlT) (d : Int) (l r : Tm) : Array Value := #[.string k, .slice v.a v.n v.c, .int .i64 d, ptT l, ptT r]
def TreeAt (w : World) : Tm → Prop
  | .nil => True
  | .nd b l k v d r => Blk w b 146 (ndV k v d l r) ∧ TreeAt w l ∧ TreeAt w r
def mx (a b : Int) : Int := if a < b then b else a
theorem ptT_one (t : Tm) : (ptT t).oneCell' = true := by cases t <;> rfl
section
variable {w x : World} {t l r : Tm} {b k0 : Nat} {k : ByteArray} {v : SlT} {d : Int} {S : Nat → Prop}
theorem TreeAt.lt : ∀ {t : Tm}, TreeAt w t → ∀ q ∈ bk t, q < w.heap.size
  | .nil, _, q, hq => by simp [bk] at hq
  | .nd b l k v d r, h, q, hq => by
    simp only [bk, List.mem_cons, List.mem_append] at hq
    rcases hq with rfl | hq | hq
    · exact h.1.lt
    · exact TreeAt.lt h.2.1 q hq
    · exact TreeAt.lt h.2.2 q hq
theorem TreeAt.keep : ∀ {t : Tm}, TreeAt w t → (∀ q ∈ bk t, x.heap[q]? = w.heap[q]?) → TreeAt x t
  | .nil, _, _ => trivial
  | .nd b l k v d r, h, hk => by
    simp only [bk, List.mem_cons, List.mem_append] at hk
    refine ⟨?_, TreeAt.keep h.2.1 (fun q hq => hk q (.inr (.inl hq))), TreeAt.keep h.2.2 (fun q hq => hk q (.inr (.inr hq)))⟩
    have h1 := h.1
    unfold Blk at h1 ⊢
    rw [hk b (.inl rfl)]; exact h1
theorem TreeAt.gr {row : Option Nat} (h : TreeAt w t) (hg : w.grownBy x row) (hr : ∀ q, row = some q → q ∉ bk t) : TreeAt x t :=
  h.keep fun q hq => hg.block q (h.lt q hq) (fun e => hr q e.symm hq)
theorem TreeAt.but (h : TreeAt w t) (hb : But S w x) (hs : ∀ q ∈ bk t, ¬ S q) : TreeAt x t := h.keep fun q hq => hb.block q (h.lt q hq) (hs q hq)
end
theorem But.of_grown0 {w x : World} (h : w.grownBy x none) (S : Nat → Prop) : But S w x := ⟨h.os, h.tape, h.output, h.size, fun k hk _ => h.block k hk (by simp)⟩
theorem mx_eq1 {a b : Int} (h : a < b) : mx a b = b := if_pos h
theorem mx_eq2 {a b : Int} (h : ¬ a < b) : mx a b = a := if_neg h
theorem mx_bd3 {a b : Int} : a ≤ mx a b ∧ b ≤ mx a b ∧ (mx a b = a ∨ mx a b = b) := by unfold mx; split <;> omega
set_option maxRecDepth 100000 in
theorem deep_nil  (w : World)  :
    Calls Tryz.prog 102 #[.pointer none] w fun e w' => e = .returned (.int .i64 0) ∧ w = w' := by
 have hB0 := Below.refl w.heap.size w;refine co_enter (n := 9) Tryz.func102 rfl rfl rfl [(0, .pointer none)] rfl (fun a s => ?_);refine q2 ?_;refine pk0 (v := .int .i64 0) s rfl fun _ s => q6 ?_;refine pk0 (v := .pointer none) s rfl fun _ s => ?_;refine pk0 (v := .bool true) s rfl fun _ s => q1 ?_;refine co_true s rfl <| q2 ?_;refine pk0 (v := .int .i64 0) s rfl fun _ s => q5 ?_;refine co_ret1 s rfl rfl ?_;exact ⟨rfl, rfl⟩
set_option maxRecDepth 100000 in
theorem deep_blk0 (b : Nat) (k : ByteArray) (v : SlT) (d : Int) (p : Value) (q : Value) (w : World) (hB : Blk w b 146 #[.string k, .slice v.a v.n v.c, .int .i64 d, p, q]) :
    Calls Tryz.prog 102 #[pt b 0] w fun e w' => e = .returned (.int .i64 d) ∧ w = w' := by
 have hB0 := Below.refl w.heap.size w;have hl_hB := hB.lt;refine co_enter (n := 9) Tryz.func102 rfl rfl rfl [(0, pt b 0)] rfl (fun a s => ?_);refine q2 ?_;refine pk0 (v := .int .i64 0) s rfl fun _ s => q6 ?_;refine pk0 (v := pt b 0) s rfl fun _ s => ?_;refine pk0 (v := .bool false) s rfl fun _ s => q1 ?_;refine co_false s rfl <| q7 ?_;refine pk0 (v := pt b 0) s rfl fun _ s => ?_;refine pk0 (v := pt b 0) s rfl fun _ s => ?_;refine pk0 (v := pt b 2) s rfl fun _ s => ?_;refine pk (v := .int .i64 d) s rfl (rn_load1 rfl rfl Tryz.isAgg3 (hB.cell rfl)) fun _ s => ?_;refine pk0 (v := .int .i64 d) s rfl fun _ s => q4 ?_;refine co_ret1 s rfl rfl ?_;exact ⟨rfl, rfl⟩

theorem deep_blk {b : Nat} {k : ByteArray} {v : SlT} {d : Int} {p q : Value} (w : World) (hB : Blk w b 146 #[.string k, .slice v.a v.n v.c, .int .i64 d, p, q]) : Calls Tryz.prog 102 #[pt b 0] w fun e w' => e = .returned (.int .i64 d) ∧ w = w' := deep_blk0 b k v d p q w hB
theorem deep_any (t : Tm) (w : World) (h : TreeAt w t) : Calls Tryz.prog 102 #[ptT t] w fun e w' => e = .returned (.int .i64 (dp t)) ∧ w = w' := by
  cases t with
  | nil => exact deep_nil w
  | nd b l k v d r => exact deep_blk w h.1

set_option maxRecDepth 100000 in
theorem measure_any (b : Nat) (l : Tm) (k : ByteArray) (v : SlT) (d : Int) (r : Tm) (w : World) (hB : Blk w b 146 #[.string k, .slice v.a v.n v.c, .int .i64 d, (ptT l), (ptT r)]) (hl : TreeAt w l) (hr : TreeAt w r) (hbl : b ∉ bk l) (hbr : b ∉ bk r) (hdl : 0 ≤ dp l ∧ dp l ≤ 1000000) (hdr : 0 ≤ dp r ∧ dp r ≤ 1000000) :
    Calls Tryz.prog 105 #[pt b 0] w fun e w' => e = .returned (.tuple #[]) ∧ Blk w' b 146 (ndV k v (1 + mx (dp l) (dp r)) l r) ∧ But (fun q => q = b) w w' := by
 have hB0 := But.refl (fun q => q = b) w;have hl_hB := hB.lt;have hSb : (fun q => q = b) b ∨ w.heap.size ≤ b := .inl rfl;refine co_enter (n := 17) Tryz.func105 rfl rfl rfl [(0, pt b 0)] rfl (fun a s => ?_);refine dr_gen (fun x => But (fun q => q = b) w x) (by kernel_rfl) (fun w1 hg2 => ?_) (fun w1 hg2 => ?_)
 ·
  have hz3 := hg2.size;have hB4 := fbU_new hB0 hg2;exact hB4
 have hz5 := hg2.size;have hB6 := fbU_new hB0 hg2;refine dk0 0 (v := pt b 0) s rfl rfl hB6 fun _ s => ?_;refine dk0 1 (v := pt b 0) s rfl rfl hB6 fun _ s => ?_;refine dk0 2 (v := pt b 0) s rfl rfl hB6 fun _ s => ?_;refine dk0 3 (v := pt b 3) s rfl rfl hB6 fun _ s => ?_;refine dk0 6 (v := pt b 0) s rfl rfl hB6 fun _ s => ?_;refine dk0 7 (v := pt b 0) s rfl rfl hB6 fun _ s => ?_;refine dk0 8 (v := pt b 4) s rfl rfl hB6 fun _ s => ?_;refine dr_many [4, 9] (by kernel_rfl) (by simp) ⟨?_, ?_, trivial⟩
 ·
  have hk14 := hB.kept hg2 (by simp);refine dr_opVal (i := 4) (v := (ptT l)) s rfl rfl rfl rfl (by kernel_rfl) rfl (rn_load1 rfl rfl Tryz.isAgg135 (hk14.cell rfl)) hB6 (fun _ s => ?_);refine dr_many [5, 9] (by kernel_rfl) (by simp) ⟨?_, ?_, trivial⟩
  ·
   have hT18 := hl.gr hg2 (fun q e => by cases e);refine dr_op (i := 5) s rfl rfl rfl rfl (op_call (args := #[(ptT l)]) (R := fun res xw => res = .int .i64 (dp l) ∧ w1 = xw) rfl rfl rfl (by kernel_rfl) (by kernel_rfl) (Tryz.call102 _ _) (deep_any l w1 hT18) (by rintro e x ⟨rfl, rfl⟩; exact ⟨_, rfl, rfl, rfl⟩)) ?_ ?_
   ·
    rintro _ _ ⟨rfl, rfl⟩;exact hB6
   rintro _ _ a16 ⟨rfl, rfl⟩ s;refine dr_many [9] (by kernel_rfl) (by simp) ⟨?_, trivial⟩;refine dr_opVal (i := 9) (v := (ptT r)) s rfl rfl rfl rfl (by kernel_rfl) rfl (rn_load1 rfl rfl Tryz.isAgg135 (hk14.cell rfl)) hB6 (fun _ s => ?_);have hT22 := hr.gr hg2 (fun q e => by cases e);refine d1 10 s rfl rfl (op_call (args := #[(ptT r)]) (R := fun res xw => res = .int .i64 (dp r) ∧ w1 = xw) rfl rfl rfl (by kernel_rfl) (by kernel_rfl) (Tryz.call102 _ _) (deep_any r w1 hT22) (by rintro e x ⟨rfl, rfl⟩; exact ⟨_, rfl, rfl, rfl⟩)) ?_ ?_
   ·
    rintro _ _ ⟨rfl, rfl⟩;exact hB6
   rintro _ _ a20 ⟨rfl, rfl⟩ s
   by_cases hs23 : dp l < dp r
   ·
    refine dk 11 (v := .int .i64 (dp r)) s rfl rfl hB6 (fun x hx => (rn_max2 rfl rfl rfl rfl (by omega))) fun _ s => ?_;refine dk 12 (v := .int .i64 (1 + (dp r))) s rfl rfl hB6 (fun x hx => (rn_arith rfl rfl rfl rfl rfl rfl (IntWalk.i64_in _ (by omega)))) fun _ s => ?_;refine dk0 13 (v := pt b 0) s rfl rfl hB6 fun _ s => ?_;refine dk0 14 (v := pt b 2) s rfl rfl hB6 fun _ s => ?_;refine d1D 15 s rfl rfl (op_store1 rfl rfl rfl rfl Tryz.sizeOf3 hk14 rfl) ?_ ?_
    ·
     rintro _ w29 ⟨hk30, hz31, hg32⟩;have hk30' : Blk w29 b 146 #[.string k, .slice v.a v.n v.c, .int .i64 (1 + (dp r)), (ptT l), (ptT r)] := hk30;have hz33 := hg32.size;have hB34 := fbU_at hB6 hg32 (fun hlt => by rcases hSb with hq | hq; exact hq; omega);exact hB34
    rintro _ w29 a28 ⟨hk30, hz31, hg32⟩ s;have hk30' : Blk w29 b 146 #[.string k, .slice v.a v.n v.c, .int .i64 (1 + (dp r)), (ptT l), (ptT r)] := hk30;have hz33 := hg32.size;refine dr_done (by kernel_rfl) ?_;refine co_ret0n s rfl ?_;have hB34 := fbU_at hB6 hg32 (fun hlt => by rcases hSb with hq | hq; exact hq; omega);exact ⟨rfl, by rw [show 1 + mx (dp l) (dp r) = 1 + (dp r) from by first | (rw [mx_eq1 (by omega)]) | (rw [mx_eq2 (by omega)])]; exact hk30', hB34⟩
   refine dk 11 (v := .int .i64 (dp l)) s rfl rfl hB6 (fun x hx => (rn_max1 rfl rfl rfl rfl (by omega))) fun _ s => ?_;refine dk 12 (v := .int .i64 (1 + (dp l))) s rfl rfl hB6 (fun x hx => (rn_arith rfl rfl rfl rfl rfl rfl (IntWalk.i64_in _ (by omega)))) fun _ s => ?_;refine dk0 13 (v := pt b 0) s rfl rfl hB6 fun _ s => ?_;refine dk0 14 (v := pt b 2) s rfl rfl hB6 fun _ s => ?_;refine d1D 15 s rfl rfl (op_store1 rfl rfl rfl rfl Tryz.sizeOf3 hk14 rfl) ?_ ?_
   ·
    rintro _ w40 ⟨hk41, hz42, hg43⟩;have hk41' : Blk w40 b 146 #[.string k, .slice v.a v.n v.c, .int .i64 (1 + (dp l)), (ptT l), (ptT r)] := hk41;have hz44 := hg43.size;have hB45 := fbU_at hB6 hg43 (fun hlt => by rcases hSb with hq | hq; exact hq; omega);exact hB45
   rintro _ w40 a39 ⟨hk41, hz42, hg43⟩ s;have hk41' : Blk w40 b 146 #[.string k, .slice v.a v.n v.c, .int .i64 (1 + (dp l)), (ptT l), (ptT r)] := hk41;have hz44 := hg43.size;refine dr_done (by kernel_rfl) ?_;refine co_ret0n s rfl ?_;have hB45 := fbU_at hB6 hg43 (fun hlt => by rcases hSb with hq | hq; exact hq; omega);exact ⟨rfl, by rw [show 1 + mx (dp l) (dp r) = 1 + (dp l) from by first | (rw [mx_eq1 (by omega)]) | (rw [mx_eq2 (by omega)])]; exact hk41', hB45⟩
  refine dr_opVal (i := 9) (v := (ptT r)) s rfl rfl rfl rfl (by kernel_rfl) rfl (rn_load1 rfl rfl Tryz.isAgg135 (hk14.cell rfl)) hB6 (fun _ s => ?_);have hT49 := hl.gr hg2 (fun q e => by cases e);refine d1 5 s rfl rfl (op_call (args := #[(ptT l)]) (R := fun res xw => res = .int .i64 (dp l) ∧ w1 = xw) rfl rfl rfl (by kernel_rfl) (by kernel_rfl) (Tryz.call102 _ _) (deep_any l w1 hT49) (by rintro e x ⟨rfl, rfl⟩; exact ⟨_, rfl, rfl, rfl⟩)) ?_ ?_
  ·
   rintro _ _ ⟨rfl, rfl⟩;exact hB6
  rintro _ _ a47 ⟨rfl, rfl⟩ s;have hT52 := hr.gr hg2 (fun q e => by cases e);refine d1 10 s rfl rfl (op_call (args := #[(ptT r)]) (R := fun res xw => res = .int .i64 (dp r) ∧ w1 = xw) rfl rfl rfl (by kernel_rfl) (by kernel_rfl) (Tryz.call102 _ _) (deep_any r w1 hT52) (by rintro e x ⟨rfl, rfl⟩; exact ⟨_, rfl, rfl, rfl⟩)) ?_ ?_
  ·
   rintro _ _ ⟨rfl, rfl⟩;exact hB6
  rintro _ _ a50 ⟨rfl, rfl⟩ s
  by_cases hs53 : dp l < dp r
  ·
   refine dk 11 (v := .int .i64 (dp r)) s rfl rfl hB6 (fun x hx => (rn_max2 rfl rfl rfl rfl (by omega))) fun _ s => ?_;refine dk 12 (v := .int .i64 (1 + (dp r))) s rfl rfl hB6 (fun x hx => (rn_arith rfl rfl rfl rfl rfl rfl (IntWalk.i64_in _ (by omega)))) fun _ s => ?_;refine dk0 13 (v := pt b 0) s rfl rfl hB6 fun _ s => ?_;refine dk0 14 (v := pt b 2) s rfl rfl hB6 fun _ s => ?_;refine d1D 15 s rfl rfl (op_store1 rfl rfl rfl rfl Tryz.sizeOf3 hk14 rfl) ?_ ?_
   ·
    rintro _ w59 ⟨hk60, hz61, hg62⟩;have hk60' : Blk w59 b 146 #[.string k, .slice v.a v.n v.c, .int .i64 (1 + (dp r)), (ptT l), (ptT r)] := hk60;have hz63 := hg62.size;have hB64 := fbU_at hB6 hg62 (fun hlt => by rcases hSb with hq | hq; exact hq; omega);exact hB64
   rintro _ w59 a58 ⟨hk60, hz61, hg62⟩ s;have hk60' : Blk w59 b 146 #[.string k, .slice v.a v.n v.c, .int .i64 (1 + (dp r)), (ptT l), (ptT r)] := hk60;have hz63 := hg62.size;refine dr_done (by kernel_rfl) ?_;refine co_ret0n s rfl ?_;have hB64 := fbU_at hB6 hg62 (fun hlt => by rcases hSb with hq | hq; exact hq; omega);exact ⟨rfl, by rw [show 1 + mx (dp l) (dp r) = 1 + (dp r) from by first | (rw [mx_eq1 (by omega)]) | (rw [mx_eq2 (by omega)])]; exact hk60', hB64⟩
  refine dk 11 (v := .int .i64 (dp l)) s rfl rfl hB6 (fun x hx => (rn_max1 rfl rfl rfl rfl (by omega))) fun _ s => ?_;refine dk 12 (v := .int .i64 (1 + (dp l))) s rfl rfl hB6 (fun x hx => (rn_arith rfl rfl rfl rfl rfl rfl (IntWalk.i64_in _ (by omega)))) fun _ s => ?_;refine dk0 13 (v := pt b 0) s rfl rfl hB6 fun _ s => ?_;refine dk0 14 (v := pt b 2) s rfl rfl hB6 fun _ s => ?_;refine d1D 15 s rfl rfl (op_store1 rfl rfl rfl rfl Tryz.sizeOf3 hk14 rfl) ?_ ?_
  ·
   rintro _ w70 ⟨hk71, hz72, hg73⟩;have hk71' : Blk w70 b 146 #[.string k, .slice v.a v.n v.c, .int .i64 (1 + (dp l)), (ptT l), (ptT r)] := hk71;have hz74 := hg73.size;have hB75 := fbU_at hB6 hg73 (fun hlt => by rcases hSb with hq | hq; exact hq; omega);exact hB75
  rintro _ w70 a69 ⟨hk71, hz72, hg73⟩ s;have hk71' : Blk w70 b 146 #[.string k, .slice v.a v.n v.c, .int .i64 (1 + (dp l)), (ptT l), (ptT r)] := hk71;have hz74 := hg73.size;refine dr_done (by kernel_rfl) ?_;refine co_ret0n s rfl ?_;have hB75 := fbU_at hB6 hg73 (fun hlt => by rcases hSb with hq | hq; exact hq; omega);exact ⟨rfl, by rw [show 1 + mx (dp l) (dp r) = 1 + (dp l) from by first | (rw [mx_eq1 (by omega)]) | (rw [mx_eq2 (by omega)])]; exact hk71', hB75⟩
 have hk76 := hB.kept hg2 (by simp);refine dr_opVal (i := 9) (v := (ptT r)) s rfl rfl rfl rfl (by kernel_rfl) rfl (rn_load1 rfl rfl Tryz.isAgg135 (hk76.cell rfl)) hB6 (fun _ s => ?_);refine dr_many [4] (by kernel_rfl) (by simp) ⟨?_, trivial⟩;refine dr_opVal (i := 4) (v := (ptT l)) s rfl rfl rfl rfl (by kernel_rfl) rfl (rn_load1 rfl rfl Tryz.isAgg135 (hk76.cell rfl)) hB6 (fun _ s => ?_);have hT81 := hl.gr hg2 (fun q e => by cases e);refine d1 5 s rfl rfl (op_call (args := #[(ptT l)]) (R := fun res xw => res = .int .i64 (dp l) ∧ w1 = xw) rfl rfl rfl (by kernel_rfl) (by kernel_rfl) (Tryz.call102 _ _) (deep_any l w1 hT81) (by rintro e x ⟨rfl, rfl⟩; exact ⟨_, rfl, rfl, rfl⟩)) ?_ ?_
 ·
  rintro _ _ ⟨rfl, rfl⟩;exact hB6
 rintro _ _ a79 ⟨rfl, rfl⟩ s;have hT84 := hr.gr hg2 (fun q e => by cases e);refine d1 10 s rfl rfl (op_call (args := #[(ptT r)]) (R := fun res xw => res = .int .i64 (dp r) ∧ w1 = xw) rfl rfl rfl (by kernel_rfl) (by kernel_rfl) (Tryz.call102 _ _) (deep_any r w1 hT84) (by rintro e x ⟨rfl, rfl⟩; exact ⟨_, rfl, rfl, rfl⟩)) ?_ ?_
 ·
  rintro _ _ ⟨rfl, rfl⟩;exact hB6
 rintro _ _ a82 ⟨rfl, rfl⟩ s
 by_cases hs85 : dp l < dp r
 ·
  refine dk 11 (v := .int .i64 (dp r)) s rfl rfl hB6 (fun x hx => (rn_max2 rfl rfl rfl rfl (by omega))) fun _ s => ?_;refine dk 12 (v := .int .i64 (1 + (dp r))) s rfl rfl hB6 (fun x hx => (rn_arith rfl rfl rfl rfl rfl rfl (IntWalk.i64_in _ (by omega)))) fun _ s => ?_;refine dk0 13 (v := pt b 0) s rfl rfl hB6 fun _ s => ?_;refine dk0 14 (v := pt b 2) s rfl rfl hB6 fun _ s => ?_;refine d1D 15 s rfl rfl (op_store1 rfl rfl rfl rfl Tryz.sizeOf3 hk76 rfl) ?_ ?_
  ·
   rintro _ w91 ⟨hk92, hz93, hg94⟩;have hk92' : Blk w91 b 146 #[.string k, .slice v.a v.n v.c, .int .i64 (1 + (dp r)), (ptT l), (ptT r)] := hk92;have hz95 := hg94.size;have hB96 := fbU_at hB6 hg94 (fun hlt => by rcases hSb with hq | hq; exact hq; omega);exact hB96
  rintro _ w91 a90 ⟨hk92, hz93, hg94⟩ s;have hk92' : Blk w91 b 146 #[.string k, .slice v.a v.n v.c, .int .i64 (1 + (dp r)), (ptT l), (ptT r)] := hk92;have hz95 := hg94.size;refine dr_done (by kernel_rfl) ?_;refine co_ret0n s rfl ?_;have hB96 := fbU_at hB6 hg94 (fun hlt => by rcases hSb with hq | hq; exact hq; omega);exact ⟨rfl, by rw [show 1 + mx (dp l) (dp r) = 1 + (dp r) from by first | (rw [mx_eq1 (by omega)]) | (rw [mx_eq2 (by omega)])]; exact hk92', hB96⟩
 refine dk 11 (v := .int .i64 (dp l)) s rfl rfl hB6 (fun x hx => (rn_max1 rfl rfl rfl rfl (by omega))) fun _ s => ?_;refine dk 12 (v := .int .i64 (1 + (dp l))) s rfl rfl hB6 (fun x hx => (rn_arith rfl rfl rfl rfl rfl rfl (IntWalk.i64_in _ (by omega)))) fun _ s => ?_;refine dk0 13 (v := pt b 0) s rfl rfl hB6 fun _ s => ?_;refine dk0 14 (v := pt b 2) s rfl rfl hB6 fun _ s => ?_;refine d1D 15 s rfl rfl (op_store1 rfl rfl rfl rfl Tryz.sizeOf3 hk76 rfl) ?_ ?_
 ·
  rintro _ w102 ⟨hk103, hz104, hg105⟩;have hk103' : Blk w102 b 146 #[.string k, .slice v.a v.n v.c, .int .i64 (1 + (dp l)), (ptT l), (ptT r)] := hk103;have hz106 := hg105.size;have hB107 := fbU_at hB6 hg105 (fun hlt => by rcases hSb with hq | hq; exact hq; omega);exact hB107
 rintro _ w102 a101 ⟨hk103, hz104, hg105⟩ s;have hk103' : Blk w102 b 146 #[.string k, .slice v.a v.n v.c, .int .i64 (1 + (dp l)), (ptT l), (ptT r)] := hk103;have hz106 := hg105.size;refine dr_done (by kernel_rfl) ?_;refine co_ret0n s rfl ?_;have hB107 := fbU_at hB6 hg105 (fun hlt => by rcases hSb with hq | hq; exact hq; omega);exact ⟨rfl, by rw [show 1 + mx (dp l) (dp r) = 1 + (dp l) from by first | (rw [mx_eq1 (by omega)]) | (rw [mx_eq2 (by omega)])]; exact hk103', hB107⟩
end Go.Proofs.YtniojcnkjehflaaGreat

/- Package tree: upLeft, upRight. Conditions: depths of at most 1000000. -/
namespace Go.Proofs.YtniojcnkjehflaaGreat
open Go.RowKit Go.PlainAid
set_option linter.unusedVariables false
set_option linter.unusedSimpArgs false


section
variable {a b : Nat} {l r t u : Tm} {k : ByteArray} {v : SlT} {d : Int}
theorem nin_nd (h : a ≠ b) (hl : a ∉ bk l) (hr : a ∉ bk r) : a ∉ bk (Tm.nd b l k v d r) := by simp [bk, h, hl, hr]
theorem dis_symm (h : ∀ q ∈ bk t, q ∉ bk u) : ∀ q ∈ bk u, q ∉ bk t := fun q hq hq2 => h q hq2 hq
theorem nd_ap (h : (bk (Tm.nd b l k v d r)).Nodup) : b ∉ bk l ∧ b ∉ bk r ∧ (bk l).Nodup ∧ (bk r).Nodup ∧ ∀ q ∈ bk l, q ∉ bk r := by
  simp only [bk, List.nodup_cons, List.mem_append, not_or, List.nodup_append] at h
  exact ⟨h.1.1, h.1.2, h.2.1, h.2.2.1, fun q hq hq2 => h.2.2.2 q hq q hq2 rfl⟩
theorem nd_ap' (h1 : b ∉ bk l) (h2 : b ∉ bk r) (h3 : (bk l).Nodup) (h4 : (bk r).Nodup) (h5 : ∀ q ∈ bk l, q ∉ bk r) : (bk (Tm.nd b l k v d r)).Nodup := by
  simp only [bk, List.nodup_cons, List.mem_append, not_or, List.nodup_append]
  exact ⟨⟨h1, h2⟩, h3, h4, fun q hq q2 hq2 e => h5 q hq (e ▸ hq2)⟩
end

set_option maxRecDepth 100000 in
theorem upL_any (b : Nat) (c : Nat) (ll : Tm) (k2 : ByteArray) (v2 : SlT) (d2 : Int) (lr : Tm) (k : ByteArray) (v : SlT) (d : Int) (r : Tm) (w : World) (hB : Blk w b 146 #[.string k, .slice v.a v.n v.c, .int .i64 d, pt c 0, (ptT r)]) (hC : Blk w c 146 #[.string k2, .slice v2.a v2.n v2.c, .int .i64 d2, (ptT ll), (ptT lr)]) (hll : TreeAt w ll) (hlr : TreeAt w lr) (hr : TreeAt w r) (hne : b ≠ c) (hbll : b ∉ bk ll) (hblr : b ∉ bk lr) (hbr : b ∉ bk r) (hcll : c ∉ bk ll) (hclr : c ∉ bk lr) (hcr : c ∉ bk r) (hdll : 0 ≤ dp ll ∧ dp ll ≤ 990000) (hdlr : 0 ≤ dp lr ∧ dp lr ≤ 990000) (hdr : 0 ≤ dp r ∧ dp r ≤ 990000) :
    Calls Tryz.prog 104 #[pt b 0] w fun e w' => e = .returned (pt c 0) ∧ Blk w' b 146 #[.string k, .slice v.a v.n v.c, .int .i64 (1 + mx (dp lr) (dp r)), ptT lr, ptT r] ∧ Blk w' c 146 #[.string k2, .slice v2.a v2.n v2.c, .int .i64 (1 + mx (dp ll) (1 + mx (dp lr) (dp r))), ptT ll, pt b 0] ∧ But (fun q => q = b ∨ q = c) w w' := by
 have hB0 := But.refl (fun q => q = b ∨ q = c) w;have hl_hB := hB.lt;have hl_hC := hC.lt;have hSb : (fun q => q = b ∨ q = c) b ∨ w.heap.size ≤ b := .inl (.inl rfl);have hSc : (fun q => q = b ∨ q = c) c ∨ w.heap.size ≤ c := .inl (.inr rfl);refine co_enter (n := 24) Tryz.func104 rfl rfl rfl [(0, pt b 0)] rfl (fun a s => ?_);refine q2 ?_;refine pk0 (v := .pointer none) s rfl fun _ s => q3 ?_;refine pk0 (v := pt b 0) s rfl fun _ s => ?_;refine pk0 (v := pt b 0) s rfl fun _ s => ?_;refine pk0 (v := pt b 3) s rfl fun _ s => ?_;refine pk (v := pt c 0) s rfl (rn_load1 rfl rfl Tryz.isAgg135 (hB.cell rfl)) fun _ s => ?_;refine pk0 (v := pt c 0) s rfl fun _ s => q3 ?_;refine pk0 (v := pt b 0) s rfl fun _ s => ?_;refine pk0 (v := pt c 0) s rfl fun _ s => ?_;refine pk0 (v := pt c 0) s rfl fun _ s => ?_;refine pk0 (v := pt c 0) s rfl fun _ s => ?_;refine pk0 (v := pt c 4) s rfl fun _ s => ?_;refine pk (v := (ptT lr)) s rfl (rn_load1 rfl rfl Tryz.isAgg135 (hC.cell rfl)) fun _ s => ?_;refine pk0 (v := pt b 0) s rfl fun _ s => ?_;refine pk0 (v := pt b 0) s rfl fun _ s => ?_;refine pk0 (v := pt b 3) s rfl fun _ s => ?_;refine pwD s rfl (op_store1 rfl rfl rfl (ptT_one _) Tryz.sizeOf135 hB rfl) ?_;rintro _ w17 a16 ⟨hk18, hz19, hg20⟩ s;have hk18' : Blk w17 b 146 #[.string k, .slice v.a v.n v.c, .int .i64 d, (ptT lr), (ptT r)] := hk18;have hz21 := hg20.size;refine pk0 (v := pt c 0) s rfl fun _ s => ?_;refine pk0 (v := pt c 4) s rfl fun _ s => ?_;have hk29 := hC.kept hg20 (by simp; omega);refine pwD s rfl (op_store1 rfl rfl rfl rfl Tryz.sizeOf135 hk29 rfl) ?_;rintro _ w25 a24 ⟨hk26, hz27, hg28⟩ s;have hk26' : Blk w25 c 146 #[.string k2, .slice v2.a v2.n v2.c, .int .i64 d2, (ptT ll), pt b 0] := hk26;have hz30 := hg28.size;refine q3 ?_;refine pk0 (v := pt b 0) s rfl fun _ s => ?_;have hB34 := fbU_at hB0 hg20 (fun hlt => by rcases hSb with hq | hq; exact hq; omega);have hB35 := fbU_at hB34 hg28 (fun hlt => by rcases hSc with hq | hq; exact hq; omega);have hT36 := hll.gr hg20 (fun q e => by cases e; exact hbll);have hT37 := hT36.gr hg28 (fun q e => by cases e; exact hcll);have hT38 := hlr.gr hg20 (fun q e => by cases e; exact hblr);have hT39 := hT38.gr hg28 (fun q e => by cases e; exact hclr);have hT40 := hr.gr hg20 (fun q e => by cases e; exact hbr);have hT41 := hT40.gr hg28 (fun q e => by cases e; exact hcr);have hk46 := hk18'.kept hg28 (by simp; omega);refine pw s rfl (op_call (args := #[pt b 0]) (R := fun res xw => res = .tuple #[] ∧ Blk xw b 146 #[.string k, .slice v.a v.n v.c, .int .i64 (1 + mx (dp lr) (dp r)), (ptT lr), (ptT r)] ∧ But (fun q => q = b) w25 xw) rfl rfl rfl (by kernel_rfl) (by kernel_rfl) (Tryz.call105 _ _) (measure_any b lr k v d r w25 hk46 hT39 hT41 hblr hbr (show 0 ≤ (dp lr) ∧ (dp lr) ≤ 1000000 from ⟨by omega, by omega⟩) (show 0 ≤ (dp r) ∧ (dp r) ≤ 1000000 from ⟨by omega, by omega⟩)) (by rintro e x ⟨rfl, h1, h2⟩; exact ⟨_, rfl, rfl, h1, h2⟩)) ?_;rintro _ w33 a32 ⟨rfl, hq42, hb43⟩ s;obtain ⟨d44, hd45⟩ : ∃ z : Int, z = 1 + mx (dp lr) (dp r) := ⟨_, rfl⟩; rw [← hd45] at hq42;have hd45b := mx_bd3 (a := (dp lr)) (b := (dp r));have hB47 := fbU_foot hB35 hb43 (fun i hi hS => by rcases hS with rfl; first | exact .inl rfl | exact .inr rfl);have hz48 := hb43.size;refine q3 ?_;refine pk0 (v := pt c 0) s rfl fun _ s => ?_;have hT52 := TreeAt.but hT37 hb43 (fun q hq => (fun e : q = b => hbll (e ▸ hq)));have hT53 := TreeAt.but hT39 hb43 (fun q hq => (fun e : q = b => hblr (e ▸ hq)));have hT54 := TreeAt.but hT41 hb43 (fun q hq => (fun e : q = b => hbr (e ▸ hq)));have hk59 := Blk.butS hk26' hb43 (fun hq => absurd hq (Ne.symm hne));refine pw s rfl (op_call (args := #[pt c 0]) (R := fun res xw => res = .tuple #[] ∧ Blk xw c 146 #[.string k2, .slice v2.a v2.n v2.c, .int .i64 (1 + mx (dp ll) d44), (ptT ll), pt b 0] ∧ But (fun q => q = c) w33 xw) rfl rfl rfl (by kernel_rfl) (by kernel_rfl) (Tryz.call105 _ _) (measure_any c ll k2 v2 d2 (Tm.nd b lr k v d44 r) w33 hk59 hT52 ⟨hq42, hT53, hT54⟩ hcll (nin_nd (Ne.symm hne) hclr hcr) (show 0 ≤ (dp ll) ∧ (dp ll) ≤ 1000000 from ⟨by omega, by omega⟩) (show 0 ≤ d44 ∧ d44 ≤ 1000000 from ⟨by omega, by omega⟩)) (by rintro e x ⟨rfl, h1, h2⟩; exact ⟨_, rfl, rfl, h1, h2⟩)) ?_;rintro _ w51 a50 ⟨rfl, hq55, hb56⟩ s;obtain ⟨d57, hd58⟩ : ∃ z : Int, z = 1 + mx (dp ll) d44 := ⟨_, rfl⟩; rw [← hd58] at hq55;have hd58b := mx_bd3 (a := (dp ll)) (b := d44);have hB60 := fbU_foot hB47 hb56 (fun i hi hS => by rcases hS with rfl; first | exact .inl rfl | exact .inr rfl);have hz61 := hb56.size;refine q3 ?_;refine pk0 (v := pt c 0) s rfl fun _ s => ?_;refine pk0 (v := pt c 0) s rfl fun _ s => q4 ?_;refine co_ret1 s rfl rfl ?_;have hk64 := Blk.butS hq42 hb56 (fun hq => absurd hq hne);subst hd58; subst hd45;exact ⟨rfl, hk64, hq55, hB60⟩
set_option maxRecDepth 100000 in
theorem upR_any (b : Nat) (c : Nat) (ll : Tm) (k2 : ByteArray) (v2 : SlT) (d2 : Int) (lr : Tm) (k : ByteArray) (v : SlT) (d : Int) (r : Tm) (w : World) (hB : Blk w b 146 #[.string k, .slice v.a v.n v.c, .int .i64 d, (ptT r), pt c 0]) (hC : Blk w c 146 #[.string k2, .slice v2.a v2.n v2.c, .int .i64 d2, (ptT lr), (ptT ll)]) (hll : TreeAt w ll) (hlr : TreeAt w lr) (hr : TreeAt w r) (hne : b ≠ c) (hbll : b ∉ bk ll) (hblr : b ∉ bk lr) (hbr : b ∉ bk r) (hcll : c ∉ bk ll) (hclr : c ∉ bk lr) (hcr : c ∉ bk r) (hdll : 0 ≤ dp ll ∧ dp ll ≤ 990000) (hdlr : 0 ≤ dp lr ∧ dp lr ≤ 990000) (hdr : 0 ≤ dp r ∧ dp r ≤ 990000) :
    Calls Tryz.prog 103 #[pt b 0] w fun e w' => e = .returned (pt c 0) ∧ Blk w' b 146 #[.string k, .slice v.a v.n v.c, .int .i64 (1 + mx (dp r) (dp lr)), ptT r, ptT lr] ∧ Blk w' c 146 #[.string k2, .slice v2.a v2.n v2.c, .int .i64 (1 + mx (1 + mx (dp r) (dp lr)) (dp ll)), pt b 0, ptT ll] ∧ But (fun q => q = b ∨ q = c) w w' := by
 have hB0 := But.refl (fun q => q = b ∨ q = c) w;have hl_hB := hB.lt;have hl_hC := hC.lt;have hSb : (fun q => q = b ∨ q = c) b ∨ w.heap.size ≤ b := .inl (.inl rfl);have hSc : (fun q => q = b ∨ q = c) c ∨ w.heap.size ≤ c := .inl (.inr rfl);refine co_enter (n := 24) Tryz.func103 rfl rfl rfl [(0, pt b 0)] rfl (fun a s => ?_);refine q2 ?_;refine pk0 (v := .pointer none) s rfl fun _ s => q3 ?_;refine pk0 (v := pt b 0) s rfl fun _ s => ?_;refine pk0 (v := pt b 0) s rfl fun _ s => ?_;refine pk0 (v := pt b 4) s rfl fun _ s => ?_;refine pk (v := pt c 0) s rfl (rn_load1 rfl rfl Tryz.isAgg135 (hB.cell rfl)) fun _ s => ?_;refine pk0 (v := pt c 0) s rfl fun _ s => q3 ?_;refine pk0 (v := pt b 0) s rfl fun _ s => ?_;refine pk0 (v := pt c 0) s rfl fun _ s => ?_;refine pk0 (v := pt c 0) s rfl fun _ s => ?_;refine pk0 (v := pt c 0) s rfl fun _ s => ?_;refine pk0 (v := pt c 3) s rfl fun _ s => ?_;refine pk (v := (ptT lr)) s rfl (rn_load1 rfl rfl Tryz.isAgg135 (hC.cell rfl)) fun _ s => ?_;refine pk0 (v := pt b 0) s rfl fun _ s => ?_;refine pk0 (v := pt b 0) s rfl fun _ s => ?_;refine pk0 (v := pt b 4) s rfl fun _ s => ?_;refine pwD s rfl (op_store1 rfl rfl rfl (ptT_one _) Tryz.sizeOf135 hB rfl) ?_;rintro _ w17 a16 ⟨hk18, hz19, hg20⟩ s;have hk18' : Blk w17 b 146 #[.string k, .slice v.a v.n v.c, .int .i64 d, (ptT r), (ptT lr)] := hk18;have hz21 := hg20.size;refine pk0 (v := pt c 0) s rfl fun _ s => ?_;refine pk0 (v := pt c 3) s rfl fun _ s => ?_;have hk29 := hC.kept hg20 (by simp; omega);refine pwD s rfl (op_store1 rfl rfl rfl rfl Tryz.sizeOf135 hk29 rfl) ?_;rintro _ w25 a24 ⟨hk26, hz27, hg28⟩ s;have hk26' : Blk w25 c 146 #[.string k2, .slice v2.a v2.n v2.c, .int .i64 d2, pt b 0, (ptT ll)] := hk26;have hz30 := hg28.size;refine q3 ?_;refine pk0 (v := pt b 0) s rfl fun _ s => ?_;have hB34 := fbU_at hB0 hg20 (fun hlt => by rcases hSb with hq | hq; exact hq; omega);have hB35 := fbU_at hB34 hg28 (fun hlt => by rcases hSc with hq | hq; exact hq; omega);have hT36 := hll.gr hg20 (fun q e => by cases e; exact hbll);have hT37 := hT36.gr hg28 (fun q e => by cases e; exact hcll);have hT38 := hlr.gr hg20 (fun q e => by cases e; exact hblr);have hT39 := hT38.gr hg28 (fun q e => by cases e; exact hclr);have hT40 := hr.gr hg20 (fun q e => by cases e; exact hbr);have hT41 := hT40.gr hg28 (fun q e => by cases e; exact hcr);have hk46 := hk18'.kept hg28 (by simp; omega);refine pw s rfl (op_call (args := #[pt b 0]) (R := fun res xw => res = .tuple #[] ∧ Blk xw b 146 #[.string k, .slice v.a v.n v.c, .int .i64 (1 + mx (dp r) (dp lr)), (ptT r), (ptT lr)] ∧ But (fun q => q = b) w25 xw) rfl rfl rfl (by kernel_rfl) (by kernel_rfl) (Tryz.call105 _ _) (measure_any b r k v d lr w25 hk46 hT41 hT39 hbr hblr (show 0 ≤ (dp r) ∧ (dp r) ≤ 1000000 from ⟨by omega, by omega⟩) (show 0 ≤ (dp lr) ∧ (dp lr) ≤ 1000000 from ⟨by omega, by omega⟩)) (by rintro e x ⟨rfl, h1, h2⟩; exact ⟨_, rfl, rfl, h1, h2⟩)) ?_;rintro _ w33 a32 ⟨rfl, hq42, hb43⟩ s;obtain ⟨d44, hd45⟩ : ∃ z : Int, z = 1 + mx (dp r) (dp lr) := ⟨_, rfl⟩; rw [← hd45] at hq42;have hd45b := mx_bd3 (a := (dp r)) (b := (dp lr));have hB47 := fbU_foot hB35 hb43 (fun i hi hS => by rcases hS with rfl; first | exact .inl rfl | exact .inr rfl);have hz48 := hb43.size;refine q3 ?_;refine pk0 (v := pt c 0) s rfl fun _ s => ?_;have hT52 := TreeAt.but hT41 hb43 (fun q hq => (fun e : q = b => hbr (e ▸ hq)));have hT53 := TreeAt.but hT39 hb43 (fun q hq => (fun e : q = b => hblr (e ▸ hq)));have hT54 := TreeAt.but hT37 hb43 (fun q hq => (fun e : q = b => hbll (e ▸ hq)));have hk59 := Blk.butS hk26' hb43 (fun hq => absurd hq (Ne.symm hne));refine pw s rfl (op_call (args := #[pt c 0]) (R := fun res xw => res = .tuple #[] ∧ Blk xw c 146 #[.string k2, .slice v2.a v2.n v2.c, .int .i64 (1 + mx d44 (dp ll)), pt b 0, (ptT ll)] ∧ But (fun q => q = c) w33 xw) rfl rfl rfl (by kernel_rfl) (by kernel_rfl) (Tryz.call105 _ _) (measure_any c (Tm.nd b r k v d44 lr) k2 v2 d2 ll w33 hk59 ⟨hq42, hT52, hT53⟩ hT54 (nin_nd (Ne.symm hne) hcr hclr) hcll (show 0 ≤ d44 ∧ d44 ≤ 1000000 from ⟨by omega, by omega⟩) (show 0 ≤ (dp ll) ∧ (dp ll) ≤ 1000000 from ⟨by omega, by omega⟩)) (by rintro e x ⟨rfl, h1, h2⟩; exact ⟨_, rfl, rfl, h1, h2⟩)) ?_;rintro _ w51 a50 ⟨rfl, hq55, hb56⟩ s;obtain ⟨d57, hd58⟩ : ∃ z : Int, z = 1 + mx d44 (dp ll) := ⟨_, rfl⟩; rw [← hd58] at hq55;have hd58b := mx_bd3 (a := d44) (b := (dp ll));have hB60 := fbU_foot hB47 hb56 (fun i hi hS => by rcases hS with rfl; first | exact .inl rfl | exact .inr rfl);have hz61 := hb56.size;refine q3 ?_;refine pk0 (v := pt c 0) s rfl fun _ s => ?_;refine pk0 (v := pt c 0) s rfl fun _ s => q4 ?_;refine co_ret1 s rfl rfl ?_;have hk64 := Blk.butS hq42 hb56 (fun hq => absurd hq hne);subst hd58; subst hd45;exact ⟨rfl, hk64, hq55, hB60⟩
end Go.Proofs.YtniojcnkjehflaaGreat

/- Package tree: balance, way by way. Conditions: depths of at most 900000. -/
namespace Go.Proofs.YtniojcnkjehflaaGreat
open Go.RowKit Go.PlainAid
set_option linter.unusedVariables false
set_option linter.unusedSimpArgs false

set_option maxRecDepth 100000 in
theorem balA_any (b : Nat) (c : Nat) (ll : Tm) (lr : Tm) (r : Tm) (k : ByteArray) (v : SlT) (d : Int) (k2 : ByteArray) (v2 : SlT) (d2 : Int) (w : World) (hB : Blk w b 146 #[.string k, .slice v.a v.n v.c, .int .i64 d, pt c 0, (ptT r)]) (hC : Blk w c 146 #[.string k2, .slice v2.a v2.n v2.c, .int .i64 d2, (ptT ll), (ptT lr)]) (hll : TreeAt w ll) (hlr : TreeAt w lr) (hr : TreeAt w r) (hnebc : b ≠ c) (n_b_ll : b ∉ bk ll) (n_b_lr : b ∉ bk lr) (n_b_r : b ∉ bk r) (n_c_ll : c ∉ bk ll) (n_c_lr : c ∉ bk lr) (n_c_r : c ∉ bk r) (hdll : 0 ≤ dp ll ∧ dp ll ≤ 900000) (hdlr : 0 ≤ dp lr ∧ dp lr ≤ 900000) (hdr : 0 ≤ dp r ∧ dp r ≤ 900000) (hd2 : 0 ≤ d2 ∧ d2 ≤ 900000) (hdif : d2 - dp r = 2) (hcmp : ¬ (dp ll < dp lr)) :
    Calls Tryz.prog 101 #[pt b 0] w fun e w' => e = .returned (pt c 0) ∧ Blk w' b 146 #[.string k, .slice v.a v.n v.c, .int .i64 (1 + mx (dp lr) (dp r)), ptT lr, ptT r] ∧ Blk w' c 146 #[.string k2, .slice v2.a v2.n v2.c, .int .i64 (1 + mx (dp ll) (1 + mx (dp lr) (dp r))), ptT ll, pt b 0] ∧ TreeAt w' ll ∧ TreeAt w' lr ∧ TreeAt w' r ∧ But (fun q => q = b ∨ q = c) w w' := by
 have hB0 := But.refl (fun q => q = b ∨ q = c) w;have hl_hB := hB.lt;have hl_hC := hC.lt;have hSb : (fun q => q = b ∨ q = c) b ∨ w.heap.size ≤ b := .inl (by simp);have hSc : (fun q => q = b ∨ q = c) c ∨ w.heap.size ≤ c := .inl (by simp);refine co_enter (n := 75) Tryz.func101 rfl rfl rfl [(0, pt b 0)] rfl (fun a s => ?_);refine q2 ?_;refine pk0 (v := .pointer none) s rfl fun _ s => q1 <| co_seq <| co_seq ?_;refine dr_gen (fun x => But (fun q => q = b ∨ q = c) w x ∧ Blk x b 146 #[.string k, .slice v.a v.n v.c, .int .i64 d, pt c 0, (ptT r)]) (by kernel_rfl) (fun w2 hg3 => ?_) (fun w2 hg3 => ?_)
 ·
  have hz4 := hg3.size;have hB5 := fbU_new hB0 hg3;have hk6 := hB.kept hg3 (by simp);exact ⟨hB5, hk6⟩
 have hz7 := hg3.size;have hB8 := fbU_new hB0 hg3;have hk9 := hB.kept hg3 (by simp);refine dk0 0 (v := pt b 0) s rfl rfl ⟨hB8, hk9⟩ fun _ s => ?_;refine dk0 1 (v := pt b 0) s rfl rfl ⟨hB8, hk9⟩ fun _ s => ?_;refine dk0 2 (v := pt b 3) s rfl rfl ⟨hB8, hk9⟩ fun _ s => ?_;refine dk 3 (v := pt c 0) s rfl rfl ⟨hB8, hk9⟩ (fun x hx => (rn_load1 rfl rfl Tryz.isAgg135 (hx.2.cell rfl))) fun _ s => ?_;refine dk0 5 (v := pt b 0) s rfl rfl ⟨hB8, hk9⟩ fun _ s => ?_;refine dk0 6 (v := pt b 0) s rfl rfl ⟨hB8, hk9⟩ fun _ s => ?_;refine dk0 7 (v := pt b 4) s rfl rfl ⟨hB8, hk9⟩ fun _ s => ?_;refine dk 8 (v := (ptT r)) s rfl rfl ⟨hB8, hk9⟩ (fun x hx => (rn_load1 rfl rfl Tryz.isAgg135 (hx.2.cell rfl))) fun _ s => ?_;have hk20 := hC.kept hg3 (by simp);refine d1 4 s rfl rfl (op_call (args := #[pt c 0]) (R := fun res xw => res = .int .i64 d2 ∧ w2 = xw) rfl rfl rfl (by kernel_rfl) (by kernel_rfl) (Tryz.call102 _ _) (deep_blk w2 hk20) (by rintro e x ⟨rfl, rfl⟩; exact ⟨_, rfl, rfl, rfl⟩)) ?_ ?_
 ·
  rintro _ _ ⟨rfl, rfl⟩;exact ⟨hB8, hk9⟩
 rintro _ _ a18 ⟨rfl, rfl⟩ s;have hT23 := hr.gr hg3 (fun q e => by cases e);refine d1 9 s rfl rfl (op_call (args := #[(ptT r)]) (R := fun res xw => res = .int .i64 (dp r) ∧ w2 = xw) rfl rfl rfl (by kernel_rfl) (by kernel_rfl) (Tryz.call102 _ _) (deep_any r w2 hT23) (by rintro e x ⟨rfl, rfl⟩; exact ⟨_, rfl, rfl, rfl⟩)) ?_ ?_
 ·
  rintro _ _ ⟨rfl, rfl⟩;exact ⟨hB8, hk9⟩
 rintro _ _ a21 ⟨rfl, rfl⟩ s;refine dk 10 (v := .int .i64 (d2 - (dp r))) s rfl rfl ⟨hB8, hk9⟩ (fun x hx => (rn_arith rfl rfl rfl rfl rfl rfl (IntWalk.i64_in _ (by omega)))) fun _ s => ?_;refine dr_done (by kernel_rfl) ?_;refine co_then <| wp_block <| q2 ?_;refine pk0 (v := .bool (d2 - (dp r) == 2)) s rfl fun _ s => ?_;refine pk0 (v := .bool (d2 - (dp r) == 2)) s rfl fun _ s => q1 ?_;have hc27 : (d2 - (dp r) == 2) = true := by first | (simp; done) | (simp; omega) | exact beq_false_of_ne (by omega) | exact beq_iff_eq.2 (by omega)
 rw [hc27] at s;refine co_true s rfl <| co_seq <| co_seq ?_;refine dr_gen (fun x => But (fun q => q = b ∨ q = c) w x ∧ Blk x b 146 #[.string k, .slice v.a v.n v.c, .int .i64 d, pt c 0, (ptT r)] ∧ Blk x c 146 #[.string k2, .slice v2.a v2.n v2.c, .int .i64 d2, (ptT ll), (ptT lr)]) (by kernel_rfl) (fun w28 hg29 => ?_) (fun w28 hg29 => ?_)
 ·
  have hz30 := hg29.size;have hB31 := fbU_new hB8 hg29;have hk32 := hk9.kept hg29 (by simp);have hk33 := hk20.kept hg29 (by simp);exact ⟨hB31, hk32, hk33⟩
 have hz34 := hg29.size;have hB35 := fbU_new hB8 hg29;have hk36 := hk9.kept hg29 (by simp);have hk37 := hk20.kept hg29 (by simp);refine dk0 0 (v := pt b 0) s rfl rfl ⟨hB35, hk36, hk37⟩ fun _ s => ?_;refine dk0 1 (v := pt b 0) s rfl rfl ⟨hB35, hk36, hk37⟩ fun _ s => ?_;refine dk0 2 (v := pt b 3) s rfl rfl ⟨hB35, hk36, hk37⟩ fun _ s => ?_;refine dk 3 (v := pt c 0) s rfl rfl ⟨hB35, hk36, hk37⟩ (fun x hx => (rn_load1 rfl rfl Tryz.isAgg135 (hx.2.1.cell rfl))) fun _ s => ?_;refine dk0 4 (v := pt c 0) s rfl rfl ⟨hB35, hk36, hk37⟩ fun _ s => ?_;refine dk0 5 (v := pt c 3) s rfl rfl ⟨hB35, hk36, hk37⟩ fun _ s => ?_;refine dk 6 (v := (ptT ll)) s rfl rfl ⟨hB35, hk36, hk37⟩ (fun x hx => (rn_load1 rfl rfl Tryz.isAgg135 (hx.2.2.cell rfl))) fun _ s => ?_;refine dk0 8 (v := pt b 0) s rfl rfl ⟨hB35, hk36, hk37⟩ fun _ s => ?_;refine dk0 9 (v := pt b 0) s rfl rfl ⟨hB35, hk36, hk37⟩ fun _ s => ?_;refine dk0 10 (v := pt b 3) s rfl rfl ⟨hB35, hk36, hk37⟩ fun _ s => ?_;refine dk 11 (v := pt c 0) s rfl rfl ⟨hB35, hk36, hk37⟩ (fun x hx => (rn_load1 rfl rfl Tryz.isAgg135 (hx.2.1.cell rfl))) fun _ s => ?_;refine dk0 12 (v := pt c 0) s rfl rfl ⟨hB35, hk36, hk37⟩ fun _ s => ?_;refine dk0 13 (v := pt c 4) s rfl rfl ⟨hB35, hk36, hk37⟩ fun _ s => ?_;refine dk 14 (v := (ptT lr)) s rfl rfl ⟨hB35, hk36, hk37⟩ (fun x hx => (rn_load1 rfl rfl Tryz.isAgg135 (hx.2.2.cell rfl))) fun _ s => ?_;have hT54 := hll.gr hg3 (fun q e => by cases e);have hT55 := hT54.gr hg29 (fun q e => by cases e);refine d1 7 s rfl rfl (op_call (args := #[(ptT ll)]) (R := fun res xw => res = .int .i64 (dp ll) ∧ w28 = xw) rfl rfl rfl (by kernel_rfl) (by kernel_rfl) (Tryz.call102 _ _) (deep_any ll w28 hT55) (by rintro e x ⟨rfl, rfl⟩; exact ⟨_, rfl, rfl, rfl⟩)) ?_ ?_
 ·
  rintro _ _ ⟨rfl, rfl⟩;exact ⟨hB35, hk36, hk37⟩
 rintro _ _ a52 ⟨rfl, rfl⟩ s;have hT58 := hlr.gr hg3 (fun q e => by cases e);have hT59 := hT58.gr hg29 (fun q e => by cases e);refine d1 15 s rfl rfl (op_call (args := #[(ptT lr)]) (R := fun res xw => res = .int .i64 (dp lr) ∧ w28 = xw) rfl rfl rfl (by kernel_rfl) (by kernel_rfl) (Tryz.call102 _ _) (deep_any lr w28 hT59) (by rintro e x ⟨rfl, rfl⟩; exact ⟨_, rfl, rfl, rfl⟩)) ?_ ?_
 ·
  rintro _ _ ⟨rfl, rfl⟩;exact ⟨hB35, hk36, hk37⟩
 rintro _ _ a56 ⟨rfl, rfl⟩ s;refine dk0 16 (v := .bool (decide (dp ll < dp lr))) s rfl rfl ⟨hB35, hk36, hk37⟩ fun _ s => ?_;refine dr_done (by kernel_rfl) ?_;refine co_then ?_;have hc61 : (decide (dp ll < dp lr)) = false := decide_eq_false (by omega);rw [hc61] at s;refine co_false s rfl <| q7 ?_;refine pk0 (v := pt b 0) s rfl fun _ s => ?_;have hT65 := hT23.gr hg29 (fun q e => by cases e);refine pw s rfl (op_call (args := #[pt b 0]) (R := fun res xw => res = pt c 0 ∧ Blk xw b 146 #[.string k, .slice v.a v.n v.c, .int .i64 (1 + mx (dp lr) (dp r)), (ptT lr), (ptT r)] ∧ Blk xw c 146 #[.string k2, .slice v2.a v2.n v2.c, .int .i64 (1 + mx (dp ll) (1 + mx (dp lr) (dp r))), (ptT ll), pt b 0] ∧ But (fun q => q = b ∨ q = c) w28 xw) rfl rfl rfl (by kernel_rfl) (by kernel_rfl) (Tryz.call104 _ _) (upL_any b c ll k2 v2 d2 lr k v d r w28 hk36 hk37 hT55 hT59 hT65 hnebc n_b_ll n_b_lr n_b_r n_c_ll n_c_lr n_c_r (show 0 ≤ (dp ll) ∧ (dp ll) ≤ 990000 from ⟨by omega, by omega⟩) (show 0 ≤ (dp lr) ∧ (dp lr) ≤ 990000 from ⟨by omega, by omega⟩) (show 0 ≤ (dp r) ∧ (dp r) ≤ 990000 from ⟨by omega, by omega⟩)) (by rintro e x ⟨rfl, h1, h2, h3⟩; exact ⟨_, rfl, rfl, h1, h2, h3⟩)) ?_;rintro _ w64 a63 ⟨rfl, hq66, hq67, hb68⟩ s;obtain ⟨d69, hd70⟩ : ∃ z : Int, z = 1 + mx (dp lr) (dp r) := ⟨_, rfl⟩; rw [← hd70] at hq66 hq67;have hd70b := mx_bd3 (a := (dp lr)) (b := (dp r));obtain ⟨d71, hd72⟩ : ∃ z : Int, z = 1 + mx (dp ll) d69 := ⟨_, rfl⟩; rw [← hd72] at hq67;have hd72b := mx_bd3 (a := (dp ll)) (b := d69);have hB73 := fbU_foot hB35 hb68 (fun i hi hS => by rcases hS with rfl | rfl <;> simp);have hz74 := hb68.size;refine pk0 (v := pt c 0) s rfl fun _ s => q4 <| qr ?_;refine co_ret1 s rfl rfl ?_;have hT76 := TreeAt.but hT55 hb68 (fun q hq => fun hq2 => by rcases hq2 with hq2 | hq2; exact (fun e : q = b => n_b_ll (e ▸ hq)) hq2; exact (fun e : q = c => n_c_ll (e ▸ hq)) hq2);have hT77 := TreeAt.but hT59 hb68 (fun q hq => fun hq2 => by rcases hq2 with hq2 | hq2; exact (fun e : q = b => n_b_lr (e ▸ hq)) hq2; exact (fun e : q = c => n_c_lr (e ▸ hq)) hq2);have hT78 := TreeAt.but hT65 hb68 (fun q hq => fun hq2 => by rcases hq2 with hq2 | hq2; exact (fun e : q = b => n_b_r (e ▸ hq)) hq2; exact (fun e : q = c => n_c_r (e ▸ hq)) hq2);subst hd70;subst hd72;exact ⟨rfl, hq66, hq67, hT76, hT77, hT78, hB73⟩
set_option maxRecDepth 100000 in
theorem balB_any (b : Nat) (c : Nat) (g : Nat) (ll : Tm) (el : Tm) (er : Tm) (r : Tm) (k : ByteArray) (v : SlT) (d : Int) (k2 : ByteArray) (v2 : SlT) (d2 : Int) (k3 : ByteArray) (v3 : SlT) (d3 : Int) (w : World) (hB : Blk w b 146 #[.string k, .slice v.a v.n v.c, .int .i64 d, pt c 0, (ptT r)]) (hC : Blk w c 146 #[.string k2, .slice v2.a v2.n v2.c, .int .i64 d2, (ptT ll), pt g 0]) (hE : Blk w g 146 #[.string k3, .slice v3.a v3.n v3.c, .int .i64 d3, (ptT el), (ptT er)]) (hll : TreeAt w ll) (hel : TreeAt w el) (her : TreeAt w er) (hr : TreeAt w r) (hnebc : b ≠ c) (hnebg : b ≠ g) (hnecg : c ≠ g) (n_b_ll : b ∉ bk ll) (n_b_el : b ∉ bk el) (n_b_er : b ∉ bk er) (n_b_r : b ∉ bk r) (n_c_ll : c ∉ bk ll) (n_c_el : c ∉ bk el) (n_c_er : c ∉ bk er) (n_c_r : c ∉ bk r) (n_g_ll : g ∉ bk ll) (n_g_el : g ∉ bk el) (n_g_er : g ∉ bk er) (n_g_r : g ∉ bk r) (hdll : 0 ≤ dp ll ∧ dp ll ≤ 900000) (hdel : 0 ≤ dp el ∧ dp el ≤ 900000) (hder : 0 ≤ dp er ∧ dp er ≤ 900000) (hdr : 0 ≤ dp r ∧ dp r ≤ 900000) (hd2 : 0 ≤ d2 ∧ d2 ≤ 900000) (hd3 : 0 ≤ d3 ∧ d3 ≤ 900000) (hdif : d2 - dp r = 2) (hcmp : dp ll < d3) :
    Calls Tryz.prog 101 #[pt b 0] w fun e w' => e = .returned (pt g 0) ∧ Blk w' b 146 #[.string k, .slice v.a v.n v.c, .int .i64 (1 + mx (dp er) (dp r)), ptT er, ptT r] ∧ Blk w' c 146 #[.string k2, .slice v2.a v2.n v2.c, .int .i64 (1 + mx (dp ll) (dp el)), ptT ll, ptT el] ∧ Blk w' g 146 #[.string k3, .slice v3.a v3.n v3.c, .int .i64 (1 + mx (1 + mx (dp ll) (dp el)) (1 + mx (dp er) (dp r))), pt c 0, pt b 0] ∧ TreeAt w' ll ∧ TreeAt w' el ∧ TreeAt w' er ∧ TreeAt w' r ∧ But (fun q => q = b ∨ q = c ∨ q = g) w w' := by
 have hB0 := But.refl (fun q => q = b ∨ q = c ∨ q = g) w;have hl_hB := hB.lt;have hl_hC := hC.lt;have hl_hE := hE.lt;have hSb : (fun q => q = b ∨ q = c ∨ q = g) b ∨ w.heap.size ≤ b := .inl (by simp);have hSc : (fun q => q = b ∨ q = c ∨ q = g) c ∨ w.heap.size ≤ c := .inl (by simp);have hSg : (fun q => q = b ∨ q = c ∨ q = g) g ∨ w.heap.size ≤ g := .inl (by simp);refine co_enter (n := 75) Tryz.func101 rfl rfl rfl [(0, pt b 0)] rfl (fun a s => ?_);refine q2 ?_;refine pk0 (v := .pointer none) s rfl fun _ s => q1 <| co_seq <| co_seq ?_;refine dr_gen (fun x => But (fun q => q = b ∨ q = c ∨ q = g) w x ∧ Blk x b 146 #[.string k, .slice v.a v.n v.c, .int .i64 d, pt c 0, (ptT r)]) (by kernel_rfl) (fun w2 hg3 => ?_) (fun w2 hg3 => ?_)
 ·
  have hz4 := hg3.size;have hB5 := fbU_new hB0 hg3;have hk6 := hB.kept hg3 (by simp);exact ⟨hB5, hk6⟩
 have hz7 := hg3.size;have hB8 := fbU_new hB0 hg3;have hk9 := hB.kept hg3 (by simp);refine dk0 0 (v := pt b 0) s rfl rfl ⟨hB8, hk9⟩ fun _ s => ?_;refine dk0 1 (v := pt b 0) s rfl rfl ⟨hB8, hk9⟩ fun _ s => ?_;refine dk0 2 (v := pt b 3) s rfl rfl ⟨hB8, hk9⟩ fun _ s => ?_;refine dk 3 (v := pt c 0) s rfl rfl ⟨hB8, hk9⟩ (fun x hx => (rn_load1 rfl rfl Tryz.isAgg135 (hx.2.cell rfl))) fun _ s => ?_;refine dk0 5 (v := pt b 0) s rfl rfl ⟨hB8, hk9⟩ fun _ s => ?_;refine dk0 6 (v := pt b 0) s rfl rfl ⟨hB8, hk9⟩ fun _ s => ?_;refine dk0 7 (v := pt b 4) s rfl rfl ⟨hB8, hk9⟩ fun _ s => ?_;refine dk 8 (v := (ptT r)) s rfl rfl ⟨hB8, hk9⟩ (fun x hx => (rn_load1 rfl rfl Tryz.isAgg135 (hx.2.cell rfl))) fun _ s => ?_;have hk20 := hC.kept hg3 (by simp);refine d1 4 s rfl rfl (op_call (args := #[pt c 0]) (R := fun res xw => res = .int .i64 d2 ∧ w2 = xw) rfl rfl rfl (by kernel_rfl) (by kernel_rfl) (Tryz.call102 _ _) (deep_blk w2 hk20) (by rintro e x ⟨rfl, rfl⟩; exact ⟨_, rfl, rfl, rfl⟩)) ?_ ?_
 ·
  rintro _ _ ⟨rfl, rfl⟩;exact ⟨hB8, hk9⟩
 rintro _ _ a18 ⟨rfl, rfl⟩ s;have hT23 := hr.gr hg3 (fun q e => by cases e);refine d1 9 s rfl rfl (op_call (args := #[(ptT r)]) (R := fun res xw => res = .int .i64 (dp r) ∧ w2 = xw) rfl rfl rfl (by kernel_rfl) (by kernel_rfl) (Tryz.call102 _ _) (deep_any r w2 hT23) (by rintro e x ⟨rfl, rfl⟩; exact ⟨_, rfl, rfl, rfl⟩)) ?_ ?_
 ·
  rintro _ _ ⟨rfl, rfl⟩;exact ⟨hB8, hk9⟩
 rintro _ _ a21 ⟨rfl, rfl⟩ s;refine dk 10 (v := .int .i64 (d2 - (dp r))) s rfl rfl ⟨hB8, hk9⟩ (fun x hx => (rn_arith rfl rfl rfl rfl rfl rfl (IntWalk.i64_in _ (by omega)))) fun _ s => ?_;refine dr_done (by kernel_rfl) ?_;refine co_then <| wp_block <| q2 ?_;refine pk0 (v := .bool (d2 - (dp r) == 2)) s rfl fun _ s => ?_;refine pk0 (v := .bool (d2 - (dp r) == 2)) s rfl fun _ s => q1 ?_;have hc27 : (d2 - (dp r) == 2) = true := by first | (simp; done) | (simp; omega) | exact beq_false_of_ne (by omega) | exact beq_iff_eq.2 (by omega)
 rw [hc27] at s;refine co_true s rfl <| co_seq <| co_seq ?_;refine dr_gen (fun x => But (fun q => q = b ∨ q = c ∨ q = g) w x ∧ Blk x b 146 #[.string k, .slice v.a v.n v.c, .int .i64 d, pt c 0, (ptT r)] ∧ Blk x c 146 #[.string k2, .slice v2.a v2.n v2.c, .int .i64 d2, (ptT ll), pt g 0]) (by kernel_rfl) (fun w28 hg29 => ?_) (fun w28 hg29 => ?_)
 ·
  have hz30 := hg29.size;have hB31 := fbU_new hB8 hg29;have hk32 := hk9.kept hg29 (by simp);have hk33 := hk20.kept hg29 (by simp);exact ⟨hB31, hk32, hk33⟩
 have hz34 := hg29.size;have hB35 := fbU_new hB8 hg29;have hk36 := hk9.kept hg29 (by simp);have hk37 := hk20.kept hg29 (by simp);refine dk0 0 (v := pt b 0) s rfl rfl ⟨hB35, hk36, hk37⟩ fun _ s => ?_;refine dk0 1 (v := pt b 0) s rfl rfl ⟨hB35, hk36, hk37⟩ fun _ s => ?_;refine dk0 2 (v := pt b 3) s rfl rfl ⟨hB35, hk36, hk37⟩ fun _ s => ?_;refine dk 3 (v := pt c 0) s rfl rfl ⟨hB35, hk36, hk37⟩ (fun x hx => (rn_load1 rfl rfl Tryz.isAgg135 (hx.2.1.cell rfl))) fun _ s => ?_;refine dk0 4 (v := pt c 0) s rfl rfl ⟨hB35, hk36, hk37⟩ fun _ s => ?_;refine dk0 5 (v := pt c 3) s rfl rfl ⟨hB35, hk36, hk37⟩ fun _ s => ?_;refine dk 6 (v := (ptT ll)) s rfl rfl ⟨hB35, hk36, hk37⟩ (fun x hx => (rn_load1 rfl rfl Tryz.isAgg135 (hx.2.2.cell rfl))) fun _ s => ?_;refine dk0 8 (v := pt b 0) s rfl rfl ⟨hB35, hk36, hk37⟩ fun _ s => ?_;refine dk0 9 (v := pt b 0) s rfl rfl ⟨hB35, hk36, hk37⟩ fun _ s => ?_;refine dk0 10 (v := pt b 3) s rfl rfl ⟨hB35, hk36, hk37⟩ fun _ s => ?_;refine dk 11 (v := pt c 0) s rfl rfl ⟨hB35, hk36, hk37⟩ (fun x hx => (rn_load1 rfl rfl Tryz.isAgg135 (hx.2.1.cell rfl))) fun _ s => ?_;refine dk0 12 (v := pt c 0) s rfl rfl ⟨hB35, hk36, hk37⟩ fun _ s => ?_;refine dk0 13 (v := pt c 4) s rfl rfl ⟨hB35, hk36, hk37⟩ fun _ s => ?_;refine dk 14 (v := pt g 0) s rfl rfl ⟨hB35, hk36, hk37⟩ (fun x hx => (rn_load1 rfl rfl Tryz.isAgg135 (hx.2.2.cell rfl))) fun _ s => ?_;have hT54 := hll.gr hg3 (fun q e => by cases e);have hT55 := hT54.gr hg29 (fun q e => by cases e);refine d1 7 s rfl rfl (op_call (args := #[(ptT ll)]) (R := fun res xw => res = .int .i64 (dp ll) ∧ w28 = xw) rfl rfl rfl (by kernel_rfl) (by kernel_rfl) (Tryz.call102 _ _) (deep_any ll w28 hT55) (by rintro e x ⟨rfl, rfl⟩; exact ⟨_, rfl, rfl, rfl⟩)) ?_ ?_
 ·
  rintro _ _ ⟨rfl, rfl⟩;exact ⟨hB35, hk36, hk37⟩
 rintro _ _ a52 ⟨rfl, rfl⟩ s;have hk58 := hE.kept hg3 (by simp);have hk59 := hk58.kept hg29 (by simp);refine d1 15 s rfl rfl (op_call (args := #[pt g 0]) (R := fun res xw => res = .int .i64 d3 ∧ w28 = xw) rfl rfl rfl (by kernel_rfl) (by kernel_rfl) (Tryz.call102 _ _) (deep_blk w28 hk59) (by rintro e x ⟨rfl, rfl⟩; exact ⟨_, rfl, rfl, rfl⟩)) ?_ ?_
 ·
  rintro _ _ ⟨rfl, rfl⟩;exact ⟨hB35, hk36, hk37⟩
 rintro _ _ a56 ⟨rfl, rfl⟩ s;refine dk0 16 (v := .bool (decide (dp ll < d3))) s rfl rfl ⟨hB35, hk36, hk37⟩ fun _ s => ?_;refine dr_done (by kernel_rfl) ?_;refine co_then ?_;have hc61 : (decide (dp ll < d3)) = true := decide_eq_true (by omega);rw [hc61] at s;refine co_true s rfl <| co_reg ?_;refine pk0 (v := pt b 0) s rfl fun _ s => ?_;refine pk0 (v := pt b 0) s rfl fun _ s => ?_;refine pk0 (v := pt b 0) s rfl fun _ s => ?_;refine pk0 (v := pt b 3) s rfl fun _ s => ?_;refine pk (v := pt c 0) s rfl (rn_load1 rfl rfl Tryz.isAgg135 (hk36.cell rfl)) fun _ s => ?_;have hT69 := hel.gr hg3 (fun q e => by cases e);have hT70 := hT69.gr hg29 (fun q e => by cases e);have hT71 := her.gr hg3 (fun q e => by cases e);have hT72 := hT71.gr hg29 (fun q e => by cases e);refine pw s rfl (op_call (args := #[pt c 0]) (R := fun res xw => res = pt g 0 ∧ Blk xw c 146 #[.string k2, .slice v2.a v2.n v2.c, .int .i64 (1 + mx (dp ll) (dp el)), (ptT ll), (ptT el)] ∧ Blk xw g 146 #[.string k3, .slice v3.a v3.n v3.c, .int .i64 (1 + mx (1 + mx (dp ll) (dp el)) (dp er)), pt c 0, (ptT er)] ∧ But (fun q => q = c ∨ q = g) w28 xw) rfl rfl rfl (by kernel_rfl) (by kernel_rfl) (Tryz.call103 _ _) (upR_any c g er k3 v3 d3 el k2 v2 d2 ll w28 hk37 hk59 hT72 hT70 hT55 hnecg n_c_er n_c_el n_c_ll n_g_er n_g_el n_g_ll (show 0 ≤ (dp er) ∧ (dp er) ≤ 990000 from ⟨by omega, by omega⟩) (show 0 ≤ (dp el) ∧ (dp el) ≤ 990000 from ⟨by omega, by omega⟩) (show 0 ≤ (dp ll) ∧ (dp ll) ≤ 990000 from ⟨by omega, by omega⟩)) (by rintro e x ⟨rfl, h1, h2, h3⟩; exact ⟨_, rfl, rfl, h1, h2, h3⟩)) ?_;rintro _ w68 a67 ⟨rfl, hq73, hq74, hb75⟩ s;obtain ⟨d76, hd77⟩ : ∃ z : Int, z = 1 + mx (dp ll) (dp el) := ⟨_, rfl⟩; rw [← hd77] at hq73 hq74;have hd77b := mx_bd3 (a := (dp ll)) (b := (dp el));obtain ⟨d78, hd79⟩ : ∃ z : Int, z = 1 + mx d76 (dp er) := ⟨_, rfl⟩; rw [← hd79] at hq74;have hd79b := mx_bd3 (a := d76) (b := (dp er));have hB80 := fbU_foot hB35 hb75 (fun i hi hS => by rcases hS with rfl | rfl <;> simp);have hz81 := hb75.size;refine pk0 (v := pt b 0) s rfl fun _ s => ?_;refine pk0 (v := pt b 3) s rfl fun _ s => ?_;have hk89 := Blk.butS hk36 hb75 (fun hq => by rcases hq with hq | hq; exact absurd hq hnebc; exact absurd hq hnebg);refine pwD s rfl (op_store1 rfl rfl rfl rfl Tryz.sizeOf135 hk89 rfl) ?_;rintro _ w85 a84 ⟨hk86, hz87, hg88⟩ s;have hk86' : Blk w85 b 146 #[.string k, .slice v.a v.n v.c, .int .i64 d, pt g 0, (ptT r)] := hk86;have hz90 := hg88.size;refine q3 ?_;refine pk0 (v := pt b 0) s rfl fun _ s => ?_;have hB94 := fbU_at hB80 hg88 (fun hlt => by rcases hSb with hq | hq; exact hq; omega);have hT95 := TreeAt.but hT55 hb75 (fun q hq => fun hq2 => by rcases hq2 with hq2 | hq2; exact (fun e : q = c => n_c_ll (e ▸ hq)) hq2; exact (fun e : q = g => n_g_ll (e ▸ hq)) hq2);have hT96 := hT95.gr hg88 (fun q e => by cases e; exact n_b_ll);have hT97 := TreeAt.but hT70 hb75 (fun q hq => fun hq2 => by rcases hq2 with hq2 | hq2; exact (fun e : q = c => n_c_el (e ▸ hq)) hq2; exact (fun e : q = g => n_g_el (e ▸ hq)) hq2);have hT98 := hT97.gr hg88 (fun q e => by cases e; exact n_b_el);have hT99 := TreeAt.but hT72 hb75 (fun q hq => fun hq2 => by rcases hq2 with hq2 | hq2; exact (fun e : q = c => n_c_er (e ▸ hq)) hq2; exact (fun e : q = g => n_g_er (e ▸ hq)) hq2);have hT100 := hT99.gr hg88 (fun q e => by cases e; exact n_b_er);have hT101 := hT23.gr hg29 (fun q e => by cases e);have hT102 := TreeAt.but hT101 hb75 (fun q hq => fun hq2 => by rcases hq2 with hq2 | hq2; exact (fun e : q = c => n_c_r (e ▸ hq)) hq2; exact (fun e : q = g => n_g_r (e ▸ hq)) hq2);have hT103 := hT102.gr hg88 (fun q e => by cases e; exact n_b_r);have hk104 := hq73.kept hg88 (by simp; omega);have hk112 := hq74.kept hg88 (by simp; omega);refine pw s rfl (op_call (args := #[pt b 0]) (R := fun res xw => res = pt g 0 ∧ Blk xw b 146 #[.string k, .slice v.a v.n v.c, .int .i64 (1 + mx (dp er) (dp r)), (ptT er), (ptT r)] ∧ Blk xw g 146 #[.string k3, .slice v3.a v3.n v3.c, .int .i64 (1 + mx d76 (1 + mx (dp er) (dp r))), pt c 0, pt b 0] ∧ But (fun q => q = b ∨ q = g) w85 xw) rfl rfl rfl (by kernel_rfl) (by kernel_rfl) (Tryz.call104 _ _) (upL_any b g (Tm.nd c ll k2 v2 d76 el) k3 v3 d78 er k v d r w85 hk86' hk112 ⟨hk104, hT96, hT98⟩ hT100 hT103 hnebg (nin_nd hnebc n_b_ll n_b_el) n_b_er n_b_r (nin_nd (Ne.symm hnecg) n_g_ll n_g_el) n_g_er n_g_r (show 0 ≤ d76 ∧ d76 ≤ 990000 from ⟨by omega, by omega⟩) (show 0 ≤ (dp er) ∧ (dp er) ≤ 990000 from ⟨by omega, by omega⟩) (show 0 ≤ (dp r) ∧ (dp r) ≤ 990000 from ⟨by omega, by omega⟩)) (by rintro e x ⟨rfl, h1, h2, h3⟩; exact ⟨_, rfl, rfl, h1, h2, h3⟩)) ?_;rintro _ w93 a92 ⟨rfl, hq105, hq106, hb107⟩ s;obtain ⟨d108, hd109⟩ : ∃ z : Int, z = 1 + mx (dp er) (dp r) := ⟨_, rfl⟩; rw [← hd109] at hq105 hq106;have hd109b := mx_bd3 (a := (dp er)) (b := (dp r));obtain ⟨d110, hd111⟩ : ∃ z : Int, z = 1 + mx d76 d108 := ⟨_, rfl⟩; rw [← hd111] at hq106;have hd111b := mx_bd3 (a := d76) (b := d108);have hB113 := fbU_foot hB94 hb107 (fun i hi hS => by rcases hS with rfl | rfl <;> simp);have hz114 := hb107.size;refine pk0 (v := pt g 0) s rfl fun _ s => q4 <| qr ?_;refine co_ret1 s rfl rfl ?_;have hk116 := Blk.butS hk104 hb107 (fun hq => by rcases hq with hq | hq; exact absurd hq (Ne.symm hnebc); exact absurd hq hnecg);have hT117 := TreeAt.but hT96 hb107 (fun q hq => fun hq2 => by rcases hq2 with hq2 | hq2; exact (fun e : q = b => n_b_ll (e ▸ hq)) hq2; exact (fun e : q = g => n_g_ll (e ▸ hq)) hq2);have hT118 := TreeAt.but hT98 hb107 (fun q hq => fun hq2 => by rcases hq2 with hq2 | hq2; exact (fun e : q = b => n_b_el (e ▸ hq)) hq2; exact (fun e : q = g => n_g_el (e ▸ hq)) hq2);have hT119 := TreeAt.but hT100 hb107 (fun q hq => fun hq2 => by rcases hq2 with hq2 | hq2; exact (fun e : q = b => n_b_er (e ▸ hq)) hq2; exact (fun e : q = g => n_g_er (e ▸ hq)) hq2);have hT120 := TreeAt.but hT103 hb107 (fun q hq => fun hq2 => by rcases hq2 with hq2 | hq2; exact (fun e : q = b => n_b_r (e ▸ hq)) hq2; exact (fun e : q = g => n_g_r (e ▸ hq)) hq2);subst hd109;subst hd111;subst hd77;subst hd79;exact ⟨rfl, hq105, hk116, hq106, hT117, hT118, hT119, hT120, hB113⟩
set_option maxRecDepth 100000 in
theorem balC_any (b : Nat) (c : Nat) (ll : Tm) (lr : Tm) (r : Tm) (k : ByteArray) (v : SlT) (d : Int) (k2 : ByteArray) (v2 : SlT) (d2 : Int) (w : World) (hB : Blk w b 146 #[.string k, .slice v.a v.n v.c, .int .i64 d, (ptT r), pt c 0]) (hC : Blk w c 146 #[.string k2, .slice v2.a v2.n v2.c, .int .i64 d2, (ptT lr), (ptT ll)]) (hll : TreeAt w ll) (hlr : TreeAt w lr) (hr : TreeAt w r) (hnebc : b ≠ c) (n_b_ll : b ∉ bk ll) (n_b_lr : b ∉ bk lr) (n_b_r : b ∉ bk r) (n_c_ll : c ∉ bk ll) (n_c_lr : c ∉ bk lr) (n_c_r : c ∉ bk r) (hdll : 0 ≤ dp ll ∧ dp ll ≤ 900000) (hdlr : 0 ≤ dp lr ∧ dp lr ≤ 900000) (hdr : 0 ≤ dp r ∧ dp r ≤ 900000) (hd2 : 0 ≤ d2 ∧ d2 ≤ 900000) (hdif : dp r - d2 = -2) (hcmp : ¬ (dp ll < dp lr)) :
    Calls Tryz.prog 101 #[pt b 0] w fun e w' => e = .returned (pt c 0) ∧ Blk w' b 146 #[.string k, .slice v.a v.n v.c, .int .i64 (1 + mx (dp r) (dp lr)), ptT r, ptT lr] ∧ Blk w' c 146 #[.string k2, .slice v2.a v2.n v2.c, .int .i64 (1 + mx (1 + mx (dp r) (dp lr)) (dp ll)), pt b 0, ptT ll] ∧ TreeAt w' ll ∧ TreeAt w' lr ∧ TreeAt w' r ∧ But (fun q => q = b ∨ q = c) w w' := by
 have hB0 := But.refl (fun q => q = b ∨ q = c) w;have hl_hB := hB.lt;have hl_hC := hC.lt;have hSb : (fun q => q = b ∨ q = c) b ∨ w.heap.size ≤ b := .inl (by simp);have hSc : (fun q => q = b ∨ q = c) c ∨ w.heap.size ≤ c := .inl (by simp);refine co_enter (n := 75) Tryz.func101 rfl rfl rfl [(0, pt b 0)] rfl (fun a s => ?_);refine q2 ?_;refine pk0 (v := .pointer none) s rfl fun _ s => q1 <| co_seq <| co_seq ?_;refine dr_gen (fun x => But (fun q => q = b ∨ q = c) w x ∧ Blk x b 146 #[.string k, .slice v.a v.n v.c, .int .i64 d, (ptT r), pt c 0]) (by kernel_rfl) (fun w2 hg3 => ?_) (fun w2 hg3 => ?_)
 ·
  have hz4 := hg3.size;have hB5 := fbU_new hB0 hg3;have hk6 := hB.kept hg3 (by simp);exact ⟨hB5, hk6⟩
 have hz7 := hg3.size;have hB8 := fbU_new hB0 hg3;have hk9 := hB.kept hg3 (by simp);refine dk0 0 (v := pt b 0) s rfl rfl ⟨hB8, hk9⟩ fun _ s => ?_;refine dk0 1 (v := pt b 0) s rfl rfl ⟨hB8, hk9⟩ fun _ s => ?_;refine dk0 2 (v := pt b 3) s rfl rfl ⟨hB8, hk9⟩ fun _ s => ?_;refine dk 3 (v := (ptT r)) s rfl rfl ⟨hB8, hk9⟩ (fun x hx => (rn_load1 rfl rfl Tryz.isAgg135 (hx.2.cell rfl))) fun _ s => ?_;refine dk0 5 (v := pt b 0) s rfl rfl ⟨hB8, hk9⟩ fun _ s => ?_;refine dk0 6 (v := pt b 0) s rfl rfl ⟨hB8, hk9⟩ fun _ s => ?_;refine dk0 7 (v := pt b 4) s rfl rfl ⟨hB8, hk9⟩ fun _ s => ?_;refine dk 8 (v := pt c 0) s rfl rfl ⟨hB8, hk9⟩ (fun x hx => (rn_load1 rfl rfl Tryz.isAgg135 (hx.2.cell rfl))) fun _ s => ?_;have hT20 := hr.gr hg3 (fun q e => by cases e);refine d1 4 s rfl rfl (op_call (args := #[(ptT r)]) (R := fun res xw => res = .int .i64 (dp r) ∧ w2 = xw) rfl rfl rfl (by kernel_rfl) (by kernel_rfl) (Tryz.call102 _ _) (deep_any r w2 hT20) (by rintro e x ⟨rfl, rfl⟩; exact ⟨_, rfl, rfl, rfl⟩)) ?_ ?_
 ·
  rintro _ _ ⟨rfl, rfl⟩;exact ⟨hB8, hk9⟩
 rintro _ _ a18 ⟨rfl, rfl⟩ s;have hk23 := hC.kept hg3 (by simp);refine d1 9 s rfl rfl (op_call (args := #[pt c 0]) (R := fun res xw => res = .int .i64 d2 ∧ w2 = xw) rfl rfl rfl (by kernel_rfl) (by kernel_rfl) (Tryz.call102 _ _) (deep_blk w2 hk23) (by rintro e x ⟨rfl, rfl⟩; exact ⟨_, rfl, rfl, rfl⟩)) ?_ ?_
 ·
  rintro _ _ ⟨rfl, rfl⟩;exact ⟨hB8, hk9⟩
 rintro _ _ a21 ⟨rfl, rfl⟩ s;refine dk 10 (v := .int .i64 ((dp r) - d2)) s rfl rfl ⟨hB8, hk9⟩ (fun x hx => (rn_arith rfl rfl rfl rfl rfl rfl (IntWalk.i64_in _ (by omega)))) fun _ s => ?_;refine dr_done (by kernel_rfl) ?_;refine co_then <| wp_block <| q2 ?_;refine pk0 (v := .bool ((dp r) - d2 == 2)) s rfl fun _ s => ?_;refine pk0 (v := .bool ((dp r) - d2 == 2)) s rfl fun _ s => q1 ?_;have hc27 : ((dp r) - d2 == 2) = false := by first | (simp; done) | (simp; omega) | exact beq_false_of_ne (by omega) | exact beq_iff_eq.2 (by omega)
 rw [hc27] at s;refine co_false s rfl <| q2 ?_;refine pk0 (v := .bool ((dp r) - d2 == (-2))) s rfl fun _ s => ?_;refine pk0 (v := .bool ((dp r) - d2 == (-2))) s rfl fun _ s => q1 ?_;have hc30 : ((dp r) - d2 == (-2)) = true := by first | (simp; done) | (simp; omega) | exact beq_false_of_ne (by omega) | exact beq_iff_eq.2 (by omega)
 rw [hc30] at s;refine co_true s rfl <| co_seq <| co_seq ?_;refine dr_gen (fun x => But (fun q => q = b ∨ q = c) w x ∧ Blk x b 146 #[.string k, .slice v.a v.n v.c, .int .i64 d, (ptT r), pt c 0] ∧ Blk x c 146 #[.string k2, .slice v2.a v2.n v2.c, .int .i64 d2, (ptT lr), (ptT ll)]) (by kernel_rfl) (fun w31 hg32 => ?_) (fun w31 hg32 => ?_)
 ·
  have hz33 := hg32.size;have hB34 := fbU_new hB8 hg32;have hk35 := hk9.kept hg32 (by simp);have hk36 := hk23.kept hg32 (by simp);exact ⟨hB34, hk35, hk36⟩
 have hz37 := hg32.size;have hB38 := fbU_new hB8 hg32;have hk39 := hk9.kept hg32 (by simp);have hk40 := hk23.kept hg32 (by simp);refine dk0 0 (v := pt b 0) s rfl rfl ⟨hB38, hk39, hk40⟩ fun _ s => ?_;refine dk0 1 (v := pt b 0) s rfl rfl ⟨hB38, hk39, hk40⟩ fun _ s => ?_;refine dk0 2 (v := pt b 4) s rfl rfl ⟨hB38, hk39, hk40⟩ fun _ s => ?_;refine dk 3 (v := pt c 0) s rfl rfl ⟨hB38, hk39, hk40⟩ (fun x hx => (rn_load1 rfl rfl Tryz.isAgg135 (hx.2.1.cell rfl))) fun _ s => ?_;refine dk0 4 (v := pt c 0) s rfl rfl ⟨hB38, hk39, hk40⟩ fun _ s => ?_;refine dk0 5 (v := pt c 4) s rfl rfl ⟨hB38, hk39, hk40⟩ fun _ s => ?_;refine dk 6 (v := (ptT ll)) s rfl rfl ⟨hB38, hk39, hk40⟩ (fun x hx => (rn_load1 rfl rfl Tryz.isAgg135 (hx.2.2.cell rfl))) fun _ s => ?_;refine dk0 8 (v := pt b 0) s rfl rfl ⟨hB38, hk39, hk40⟩ fun _ s => ?_;refine dk0 9 (v := pt b 0) s rfl rfl ⟨hB38, hk39, hk40⟩ fun _ s => ?_;refine dk0 10 (v := pt b 4) s rfl rfl ⟨hB38, hk39, hk40⟩ fun _ s => ?_;refine dk 11 (v := pt c 0) s rfl rfl ⟨hB38, hk39, hk40⟩ (fun x hx => (rn_load1 rfl rfl Tryz.isAgg135 (hx.2.1.cell rfl))) fun _ s => ?_;refine dk0 12 (v := pt c 0) s rfl rfl ⟨hB38, hk39, hk40⟩ fun _ s => ?_;refine dk0 13 (v := pt c 3) s rfl rfl ⟨hB38, hk39, hk40⟩ fun _ s => ?_;refine dk 14 (v := (ptT lr)) s rfl rfl ⟨hB38, hk39, hk40⟩ (fun x hx => (rn_load1 rfl rfl Tryz.isAgg135 (hx.2.2.cell rfl))) fun _ s => ?_;have hT57 := hll.gr hg3 (fun q e => by cases e);have hT58 := hT57.gr hg32 (fun q e => by cases e);refine d1 7 s rfl rfl (op_call (args := #[(ptT ll)]) (R := fun res xw => res = .int .i64 (dp ll) ∧ w31 = xw) rfl rfl rfl (by kernel_rfl) (by kernel_rfl) (Tryz.call102 _ _) (deep_any ll w31 hT58) (by rintro e x ⟨rfl, rfl⟩; exact ⟨_, rfl, rfl, rfl⟩)) ?_ ?_
 ·
  rintro _ _ ⟨rfl, rfl⟩;exact ⟨hB38, hk39, hk40⟩
 rintro _ _ a55 ⟨rfl, rfl⟩ s;have hT61 := hlr.gr hg3 (fun q e => by cases e);have hT62 := hT61.gr hg32 (fun q e => by cases e);refine d1 15 s rfl rfl (op_call (args := #[(ptT lr)]) (R := fun res xw => res = .int .i64 (dp lr) ∧ w31 = xw) rfl rfl rfl (by kernel_rfl) (by kernel_rfl) (Tryz.call102 _ _) (deep_any lr w31 hT62) (by rintro e x ⟨rfl, rfl⟩; exact ⟨_, rfl, rfl, rfl⟩)) ?_ ?_
 ·
  rintro _ _ ⟨rfl, rfl⟩;exact ⟨hB38, hk39, hk40⟩
 rintro _ _ a59 ⟨rfl, rfl⟩ s;refine dk0 16 (v := .bool (decide (dp ll < dp lr))) s rfl rfl ⟨hB38, hk39, hk40⟩ fun _ s => ?_;refine dr_done (by kernel_rfl) ?_;refine co_then ?_;have hc64 : (decide (dp ll < dp lr)) = false := decide_eq_false (by omega);rw [hc64] at s;refine co_false s rfl <| q7 ?_;refine pk0 (v := pt b 0) s rfl fun _ s => ?_;have hT68 := hT20.gr hg32 (fun q e => by cases e);refine pw s rfl (op_call (args := #[pt b 0]) (R := fun res xw => res = pt c 0 ∧ Blk xw b 146 #[.string k, .slice v.a v.n v.c, .int .i64 (1 + mx (dp r) (dp lr)), (ptT r), (ptT lr)] ∧ Blk xw c 146 #[.string k2, .slice v2.a v2.n v2.c, .int .i64 (1 + mx (1 + mx (dp r) (dp lr)) (dp ll)), pt b 0, (ptT ll)] ∧ But (fun q => q = b ∨ q = c) w31 xw) rfl rfl rfl (by kernel_rfl) (by kernel_rfl) (Tryz.call103 _ _) (upR_any b c ll k2 v2 d2 lr k v d r w31 hk39 hk40 hT58 hT62 hT68 hnebc n_b_ll n_b_lr n_b_r n_c_ll n_c_lr n_c_r (show 0 ≤ (dp ll) ∧ (dp ll) ≤ 990000 from ⟨by omega, by omega⟩) (show 0 ≤ (dp lr) ∧ (dp lr) ≤ 990000 from ⟨by omega, by omega⟩) (show 0 ≤ (dp r) ∧ (dp r) ≤ 990000 from ⟨by omega, by omega⟩)) (by rintro e x ⟨rfl, h1, h2, h3⟩; exact ⟨_, rfl, rfl, h1, h2, h3⟩)) ?_;rintro _ w67 a66 ⟨rfl, hq69, hq70, hb71⟩ s;obtain ⟨d72, hd73⟩ : ∃ z : Int, z = 1 + mx (dp r) (dp lr) := ⟨_, rfl⟩; rw [← hd73] at hq69 hq70;have hd73b := mx_bd3 (a := (dp r)) (b := (dp lr));obtain ⟨d74, hd75⟩ : ∃ z : Int, z = 1 + mx d72 (dp ll) := ⟨_, rfl⟩; rw [← hd75] at hq70;have hd75b := mx_bd3 (a := d72) (b := (dp ll));have hB76 := fbU_foot hB38 hb71 (fun i hi hS => by rcases hS with rfl | rfl <;> simp);have hz77 := hb71.size;refine pk0 (v := pt c 0) s rfl fun _ s => q4 <| qr ?_;refine co_ret1 s rfl rfl ?_;have hT79 := TreeAt.but hT58 hb71 (fun q hq => fun hq2 => by rcases hq2 with hq2 | hq2; exact (fun e : q = b => n_b_ll (e ▸ hq)) hq2; exact (fun e : q = c => n_c_ll (e ▸ hq)) hq2);have hT80 := TreeAt.but hT62 hb71 (fun q hq => fun hq2 => by rcases hq2 with hq2 | hq2; exact (fun e : q = b => n_b_lr (e ▸ hq)) hq2; exact (fun e : q = c => n_c_lr (e ▸ hq)) hq2);have hT81 := TreeAt.but hT68 hb71 (fun q hq => fun hq2 => by rcases hq2 with hq2 | hq2; exact (fun e : q = b => n_b_r (e ▸ hq)) hq2; exact (fun e : q = c => n_c_r (e ▸ hq)) hq2);subst hd73;subst hd75;exact ⟨rfl, hq69, hq70, hT79, hT80, hT81, hB76⟩
set_option maxRecDepth 100000 in
theorem balD_any (b : Nat) (c : Nat) (g : Nat) (ll : Tm) (el : Tm) (er : Tm) (r : Tm) (k : ByteArray) (v : SlT) (d : Int) (k2 : ByteArray) (v2 : SlT) (d2 : Int) (k3 : ByteArray) (v3 : SlT) (d3 : Int) (w : World) (hB : Blk w b 146 #[.string k, .slice v.a v.n v.c, .int .i64 d, (ptT r), pt c 0]) (hC : Blk w c 146 #[.string k2, .slice v2.a v2.n v2.c, .int .i64 d2, pt g 0, (ptT ll)]) (hE : Blk w g 146 #[.string k3, .slice v3.a v3.n v3.c, .int .i64 d3, (ptT er), (ptT el)]) (hll : TreeAt w ll) (hel : TreeAt w el) (her : TreeAt w er) (hr : TreeAt w r) (hnebc : b ≠ c) (hnebg : b ≠ g) (hnecg : c ≠ g) (n_b_ll : b ∉ bk ll) (n_b_el : b ∉ bk el) (n_b_er : b ∉ bk er) (n_b_r : b ∉ bk r) (n_c_ll : c ∉ bk ll) (n_c_el : c ∉ bk el) (n_c_er : c ∉ bk er) (n_c_r : c ∉ bk r) (n_g_ll : g ∉ bk ll) (n_g_el : g ∉ bk el) (n_g_er : g ∉ bk er) (n_g_r : g ∉ bk r) (hdll : 0 ≤ dp ll ∧ dp ll ≤ 900000) (hdel : 0 ≤ dp el ∧ dp el ≤ 900000) (hder : 0 ≤ dp er ∧ dp er ≤ 900000) (hdr : 0 ≤ dp r ∧ dp r ≤ 900000) (hd2 : 0 ≤ d2 ∧ d2 ≤ 900000) (hd3 : 0 ≤ d3 ∧ d3 ≤ 900000) (hdif : dp r - d2 = -2) (hcmp : dp ll < d3) :
    Calls Tryz.prog 101 #[pt b 0] w fun e w' => e = .returned (pt g 0) ∧ Blk w' b 146 #[.string k, .slice v.a v.n v.c, .int .i64 (1 + mx (dp r) (dp er)), ptT r, ptT er] ∧ Blk w' c 146 #[.string k2, .slice v2.a v2.n v2.c, .int .i64 (1 + mx (dp el) (dp ll)), ptT el, ptT ll] ∧ Blk w' g 146 #[.string k3, .slice v3.a v3.n v3.c, .int .i64 (1 + mx (1 + mx (dp r) (dp er)) (1 + mx (dp el) (dp ll))), pt b 0, pt c 0] ∧ TreeAt w' ll ∧ TreeAt w' el ∧ TreeAt w' er ∧ TreeAt w' r ∧ But (fun q => q = b ∨ q = c ∨ q = g) w w' := by
 have hB0 := But.refl (fun q => q = b ∨ q = c ∨ q = g) w;have hl_hB := hB.lt;have hl_hC := hC.lt;have hl_hE := hE.lt;have hSb : (fun q => q = b ∨ q = c ∨ q = g) b ∨ w.heap.size ≤ b := .inl (by simp);have hSc : (fun q => q = b ∨ q = c ∨ q = g) c ∨ w.heap.size ≤ c := .inl (by simp);have hSg : (fun q => q = b ∨ q = c ∨ q = g) g ∨ w.heap.size ≤ g := .inl (by simp);refine co_enter (n := 75) Tryz.func101 rfl rfl rfl [(0, pt b 0)] rfl (fun a s => ?_);refine q2 ?_;refine pk0 (v := .pointer none) s rfl fun _ s => q1 <| co_seq <| co_seq ?_;refine dr_gen (fun x => But (fun q => q = b ∨ q = c ∨ q = g) w x ∧ Blk x b 146 #[.string k, .slice v.a v.n v.c, .int .i64 d, (ptT r), pt c 0]) (by kernel_rfl) (fun w2 hg3 => ?_) (fun w2 hg3 => ?_)
 ·
  have hz4 := hg3.size;have hB5 := fbU_new hB0 hg3;have hk6 := hB.kept hg3 (by simp);exact ⟨hB5, hk6⟩
 have hz7 := hg3.size;have hB8 := fbU_new hB0 hg3;have hk9 := hB.kept hg3 (by simp);refine dk0 0 (v := pt b 0) s rfl rfl ⟨hB8, hk9⟩ fun _ s => ?_;refine dk0 1 (v := pt b 0) s rfl rfl ⟨hB8, hk9⟩ fun _ s => ?_;refine dk0 2 (v := pt b 3) s rfl rfl ⟨hB8, hk9⟩ fun _ s => ?_;refine dk 3 (v := (ptT r)) s rfl rfl ⟨hB8, hk9⟩ (fun x hx => (rn_load1 rfl rfl Tryz.isAgg135 (hx.2.cell rfl))) fun _ s => ?_;refine dk0 5 (v := pt b 0) s rfl rfl ⟨hB8, hk9⟩ fun _ s => ?_;refine dk0 6 (v := pt b 0) s rfl rfl ⟨hB8, hk9⟩ fun _ s => ?_;refine dk0 7 (v := pt b 4) s rfl rfl ⟨hB8, hk9⟩ fun _ s => ?_;refine dk 8 (v := pt c 0) s rfl rfl ⟨hB8, hk9⟩ (fun x hx => (rn_load1 rfl rfl Tryz.isAgg135 (hx.2.cell rfl))) fun _ s => ?_;have hT20 := hr.gr hg3 (fun q e => by cases e);refine d1 4 s rfl rfl (op_call (args := #[(ptT r)]) (R := fun res xw => res = .int .i64 (dp r) ∧ w2 = xw) rfl rfl rfl (by kernel_rfl) (by kernel_rfl) (Tryz.call102 _ _) (deep_any r w2 hT20) (by rintro e x ⟨rfl, rfl⟩; exact ⟨_, rfl, rfl, rfl⟩)) ?_ ?_
 ·
  rintro _ _ ⟨rfl, rfl⟩;exact ⟨hB8, hk9⟩
 rintro _ _ a18 ⟨rfl, rfl⟩ s;have hk23 := hC.kept hg3 (by simp);refine d1 9 s rfl rfl (op_call (args := #[pt c 0]) (R := fun res xw => res = .int .i64 d2 ∧ w2 = xw) rfl rfl rfl (by kernel_rfl) (by kernel_rfl) (Tryz.call102 _ _) (deep_blk w2 hk23) (by rintro e x ⟨rfl, rfl⟩; exact ⟨_, rfl, rfl, rfl⟩)) ?_ ?_
 ·
  rintro _ _ ⟨rfl, rfl⟩;exact ⟨hB8, hk9⟩
 rintro _ _ a21 ⟨rfl, rfl⟩ s;refine dk 10 (v := .int .i64 ((dp r) - d2)) s rfl rfl ⟨hB8, hk9⟩ (fun x hx => (rn_arith rfl rfl rfl rfl rfl rfl (IntWalk.i64_in _ (by omega)))) fun _ s => ?_;refine dr_done (by kernel_rfl) ?_;refine co_then <| wp_block <| q2 ?_;refine pk0 (v := .bool ((dp r) - d2 == 2)) s rfl fun _ s => ?_;refine pk0 (v := .bool ((dp r) - d2 == 2)) s rfl fun _ s => q1 ?_;have hc27 : ((dp r) - d2 == 2) = false := by first | (simp; done) | (simp; omega) | exact beq_false_of_ne (by omega) | exact beq_iff_eq.2 (by omega)
 rw [hc27] at s;refine co_false s rfl <| q2 ?_;refine pk0 (v := .bool ((dp r) - d2 == (-2))) s rfl fun _ s => ?_;refine pk0 (v := .bool ((dp r) - d2 == (-2))) s rfl fun _ s => q1 ?_;have hc30 : ((dp r) - d2 == (-2)) = true := by first | (simp; done) | (simp; omega) | exact beq_false_of_ne (by omega) | exact beq_iff_eq.2 (by omega)
 rw [hc30] at s;refine co_true s rfl <| co_seq <| co_seq ?_;refine dr_gen (fun x => But (fun q => q = b ∨ q = c ∨ q = g) w x ∧ Blk x b 146 #[.string k, .slice v.a v.n v.c, .int .i64 d, (ptT r), pt c 0] ∧ Blk x c 146 #[.string k2, .slice v2.a v2.n v2.c, .int .i64 d2, pt g 0, (ptT ll)]) (by kernel_rfl) (fun w31 hg32 => ?_) (fun w31 hg32 => ?_)
 ·
  have hz33 := hg32.size;have hB34 := fbU_new hB8 hg32;have hk35 := hk9.kept hg32 (by simp);have hk36 := hk23.kept hg32 (by simp);exact ⟨hB34, hk35, hk36⟩
 have hz37 := hg32.size;have hB38 := fbU_new hB8 hg32;have hk39 := hk9.kept hg32 (by simp);have hk40 := hk23.kept hg32 (by simp);refine dk0 0 (v := pt b 0) s rfl rfl ⟨hB38, hk39, hk40⟩ fun _ s => ?_;refine dk0 1 (v := pt b 0) s rfl rfl ⟨hB38, hk39, hk40⟩ fun _ s => ?_;refine dk0 2 (v := pt b 4) s rfl rfl ⟨hB38, hk39, hk40⟩ fun _ s => ?_;refine dk 3 (v := pt c 0) s rfl rfl ⟨hB38, hk39, hk40⟩ (fun x hx => (rn_load1 rfl rfl Tryz.isAgg135 (hx.2.1.cell rfl))) fun _ s => ?_;refine dk0 4 (v := pt c 0) s rfl rfl ⟨hB38, hk39, hk40⟩ fun _ s => ?_;refine dk0 5 (v := pt c 4) s rfl rfl ⟨hB38, hk39, hk40⟩ fun _ s => ?_;refine dk 6 (v := (ptT ll)) s rfl rfl ⟨hB38, hk39, hk40⟩ (fun x hx => (rn_load1 rfl rfl Tryz.isAgg135 (hx.2.2.cell rfl))) fun _ s => ?_;refine dk0 8 (v := pt b 0) s rfl rfl ⟨hB38, hk39, hk40⟩ fun _ s => ?_;refine dk0 9 (v := pt b 0) s rfl rfl ⟨hB38, hk39, hk40⟩ fun _ s => ?_;refine dk0 10 (v := pt b 4) s rfl rfl ⟨hB38, hk39, hk40⟩ fun _ s => ?_;refine dk 11 (v := pt c 0) s rfl rfl ⟨hB38, hk39, hk40⟩ (fun x hx => (rn_load1 rfl rfl Tryz.isAgg135 (hx.2.1.cell rfl))) fun _ s => ?_;refine dk0 12 (v := pt c 0) s rfl rfl ⟨hB38, hk39, hk40⟩ fun _ s => ?_;refine dk0 13 (v := pt c 3) s rfl rfl ⟨hB38, hk39, hk40⟩ fun _ s => ?_;refine dk 14 (v := pt g 0) s rfl rfl ⟨hB38, hk39, hk40⟩ (fun x hx => (rn_load1 rfl rfl Tryz.isAgg135 (hx.2.2.cell rfl))) fun _ s => ?_;have hT57 := hll.gr hg3 (fun q e => by cases e);have hT58 := hT57.gr hg32 (fun q e => by cases e);refine d1 7 s rfl rfl (op_call (args := #[(ptT ll)]) (R := fun res xw => res = .int .i64 (dp ll) ∧ w31 = xw) rfl rfl rfl (by kernel_rfl) (by kernel_rfl) (Tryz.call102 _ _) (deep_any ll w31 hT58) (by rintro e x ⟨rfl, rfl⟩; exact ⟨_, rfl, rfl, rfl⟩)) ?_ ?_
 ·
  rintro _ _ ⟨rfl, rfl⟩;exact ⟨hB38, hk39, hk40⟩
 rintro _ _ a55 ⟨rfl, rfl⟩ s;have hk61 := hE.kept hg3 (by simp);have hk62 := hk61.kept hg32 (by simp);refine d1 15 s rfl rfl (op_call (args := #[pt g 0]) (R := fun res xw => res = .int .i64 d3 ∧ w31 = xw) rfl rfl rfl (by kernel_rfl) (by kernel_rfl) (Tryz.call102 _ _) (deep_blk w31 hk62) (by rintro e x ⟨rfl, rfl⟩; exact ⟨_, rfl, rfl, rfl⟩)) ?_ ?_
 ·
  rintro _ _ ⟨rfl, rfl⟩;exact ⟨hB38, hk39, hk40⟩
 rintro _ _ a59 ⟨rfl, rfl⟩ s;refine dk0 16 (v := .bool (decide (dp ll < d3))) s rfl rfl ⟨hB38, hk39, hk40⟩ fun _ s => ?_;refine dr_done (by kernel_rfl) ?_;refine co_then ?_;have hc64 : (decide (dp ll < d3)) = true := decide_eq_true (by omega);rw [hc64] at s;refine co_true s rfl <| co_reg ?_;refine pk0 (v := pt b 0) s rfl fun _ s => ?_;refine pk0 (v := pt b 0) s rfl fun _ s => ?_;refine pk0 (v := pt b 0) s rfl fun _ s => ?_;refine pk0 (v := pt b 4) s rfl fun _ s => ?_;refine pk (v := pt c 0) s rfl (rn_load1 rfl rfl Tryz.isAgg135 (hk39.cell rfl)) fun _ s => ?_;have hT72 := hel.gr hg3 (fun q e => by cases e);have hT73 := hT72.gr hg32 (fun q e => by cases e);have hT74 := her.gr hg3 (fun q e => by cases e);have hT75 := hT74.gr hg32 (fun q e => by cases e);refine pw s rfl (op_call (args := #[pt c 0]) (R := fun res xw => res = pt g 0 ∧ Blk xw c 146 #[.string k2, .slice v2.a v2.n v2.c, .int .i64 (1 + mx (dp el) (dp ll)), (ptT el), (ptT ll)] ∧ Blk xw g 146 #[.string k3, .slice v3.a v3.n v3.c, .int .i64 (1 + mx (dp er) (1 + mx (dp el) (dp ll))), (ptT er), pt c 0] ∧ But (fun q => q = c ∨ q = g) w31 xw) rfl rfl rfl (by kernel_rfl) (by kernel_rfl) (Tryz.call104 _ _) (upL_any c g er k3 v3 d3 el k2 v2 d2 ll w31 hk40 hk62 hT75 hT73 hT58 hnecg n_c_er n_c_el n_c_ll n_g_er n_g_el n_g_ll (show 0 ≤ (dp er) ∧ (dp er) ≤ 990000 from ⟨by omega, by omega⟩) (show 0 ≤ (dp el) ∧ (dp el) ≤ 990000 from ⟨by omega, by omega⟩) (show 0 ≤ (dp ll) ∧ (dp ll) ≤ 990000 from ⟨by omega, by omega⟩)) (by rintro e x ⟨rfl, h1, h2, h3⟩; exact ⟨_, rfl, rfl, h1, h2, h3⟩)) ?_;rintro _ w71 a70 ⟨rfl, hq76, hq77, hb78⟩ s;obtain ⟨d79, hd80⟩ : ∃ z : Int, z = 1 + mx (dp el) (dp ll) := ⟨_, rfl⟩; rw [← hd80] at hq76 hq77;have hd80b := mx_bd3 (a := (dp el)) (b := (dp ll));obtain ⟨d81, hd82⟩ : ∃ z : Int, z = 1 + mx (dp er) d79 := ⟨_, rfl⟩; rw [← hd82] at hq77;have hd82b := mx_bd3 (a := (dp er)) (b := d79);have hB83 := fbU_foot hB38 hb78 (fun i hi hS => by rcases hS with rfl | rfl <;> simp);have hz84 := hb78.size;refine pk0 (v := pt b 0) s rfl fun _ s => ?_;refine pk0 (v := pt b 4) s rfl fun _ s => ?_;have hk92 := Blk.butS hk39 hb78 (fun hq => by rcases hq with hq | hq; exact absurd hq hnebc; exact absurd hq hnebg);refine pwD s rfl (op_store1 rfl rfl rfl rfl Tryz.sizeOf135 hk92 rfl) ?_;rintro _ w88 a87 ⟨hk89, hz90, hg91⟩ s;have hk89' : Blk w88 b 146 #[.string k, .slice v.a v.n v.c, .int .i64 d, (ptT r), pt g 0] := hk89;have hz93 := hg91.size;refine q3 ?_;refine pk0 (v := pt b 0) s rfl fun _ s => ?_;have hB97 := fbU_at hB83 hg91 (fun hlt => by rcases hSb with hq | hq; exact hq; omega);have hT98 := TreeAt.but hT58 hb78 (fun q hq => fun hq2 => by rcases hq2 with hq2 | hq2; exact (fun e : q = c => n_c_ll (e ▸ hq)) hq2; exact (fun e : q = g => n_g_ll (e ▸ hq)) hq2);have hT99 := hT98.gr hg91 (fun q e => by cases e; exact n_b_ll);have hT100 := TreeAt.but hT73 hb78 (fun q hq => fun hq2 => by rcases hq2 with hq2 | hq2; exact (fun e : q = c => n_c_el (e ▸ hq)) hq2; exact (fun e : q = g => n_g_el (e ▸ hq)) hq2);have hT101 := hT100.gr hg91 (fun q e => by cases e; exact n_b_el);have hT102 := TreeAt.but hT75 hb78 (fun q hq => fun hq2 => by rcases hq2 with hq2 | hq2; exact (fun e : q = c => n_c_er (e ▸ hq)) hq2; exact (fun e : q = g => n_g_er (e ▸ hq)) hq2);have hT103 := hT102.gr hg91 (fun q e => by cases e; exact n_b_er);have hT104 := hT20.gr hg32 (fun q e => by cases e);have hT105 := TreeAt.but hT104 hb78 (fun q hq => fun hq2 => by rcases hq2 with hq2 | hq2; exact (fun e : q = c => n_c_r (e ▸ hq)) hq2; exact (fun e : q = g => n_g_r (e ▸ hq)) hq2);have hT106 := hT105.gr hg91 (fun q e => by cases e; exact n_b_r);have hk107 := hq76.kept hg91 (by simp; omega);have hk115 := hq77.kept hg91 (by simp; omega);refine pw s rfl (op_call (args := #[pt b 0]) (R := fun res xw => res = pt g 0 ∧ Blk xw b 146 #[.string k, .slice v.a v.n v.c, .int .i64 (1 + mx (dp r) (dp er)), (ptT r), (ptT er)] ∧ Blk xw g 146 #[.string k3, .slice v3.a v3.n v3.c, .int .i64 (1 + mx (1 + mx (dp r) (dp er)) d79), pt b 0, pt c 0] ∧ But (fun q => q = b ∨ q = g) w88 xw) rfl rfl rfl (by kernel_rfl) (by kernel_rfl) (Tryz.call103 _ _) (upR_any b g (Tm.nd c el k2 v2 d79 ll) k3 v3 d81 er k v d r w88 hk89' hk115 ⟨hk107, hT101, hT99⟩ hT103 hT106 hnebg (nin_nd hnebc n_b_el n_b_ll) n_b_er n_b_r (nin_nd (Ne.symm hnecg) n_g_el n_g_ll) n_g_er n_g_r (show 0 ≤ d79 ∧ d79 ≤ 990000 from ⟨by omega, by omega⟩) (show 0 ≤ (dp er) ∧ (dp er) ≤ 990000 from ⟨by omega, by omega⟩) (show 0 ≤ (dp r) ∧ (dp r) ≤ 990000 from ⟨by omega, by omega⟩)) (by rintro e x ⟨rfl, h1, h2, h3⟩; exact ⟨_, rfl, rfl, h1, h2, h3⟩)) ?_;rintro _ w96 a95 ⟨rfl, hq108, hq109, hb110⟩ s;obtain ⟨d111, hd112⟩ : ∃ z : Int, z = 1 + mx (dp r) (dp er) := ⟨_, rfl⟩; rw [← hd112] at hq108 hq109;have hd112b := mx_bd3 (a := (dp r)) (b := (dp er));obtain ⟨d113, hd114⟩ : ∃ z : Int, z = 1 + mx d111 d79 := ⟨_, rfl⟩; rw [← hd114] at hq109;have hd114b := mx_bd3 (a := d111) (b := d79);have hB116 := fbU_foot hB97 hb110 (fun i hi hS => by rcases hS with rfl | rfl <;> simp);have hz117 := hb110.size;refine pk0 (v := pt g 0) s rfl fun _ s => q4 <| qr ?_;refine co_ret1 s rfl rfl ?_;have hk119 := Blk.butS hk107 hb110 (fun hq => by rcases hq with hq | hq; exact absurd hq (Ne.symm hnebc); exact absurd hq hnecg);have hT120 := TreeAt.but hT99 hb110 (fun q hq => fun hq2 => by rcases hq2 with hq2 | hq2; exact (fun e : q = b => n_b_ll (e ▸ hq)) hq2; exact (fun e : q = g => n_g_ll (e ▸ hq)) hq2);have hT121 := TreeAt.but hT101 hb110 (fun q hq => fun hq2 => by rcases hq2 with hq2 | hq2; exact (fun e : q = b => n_b_el (e ▸ hq)) hq2; exact (fun e : q = g => n_g_el (e ▸ hq)) hq2);have hT122 := TreeAt.but hT103 hb110 (fun q hq => fun hq2 => by rcases hq2 with hq2 | hq2; exact (fun e : q = b => n_b_er (e ▸ hq)) hq2; exact (fun e : q = g => n_g_er (e ▸ hq)) hq2);have hT123 := TreeAt.but hT106 hb110 (fun q hq => fun hq2 => by rcases hq2 with hq2 | hq2; exact (fun e : q = b => n_b_r (e ▸ hq)) hq2; exact (fun e : q = g => n_g_r (e ▸ hq)) hq2);subst hd112;subst hd114;subst hd80;subst hd82;exact ⟨rfl, hq108, hk119, hq109, hT120, hT121, hT122, hT123, hB116⟩
set_option maxRecDepth 100000 in
theorem balE_any (b : Nat) (l : Tm) (k : ByteArray) (v : SlT) (d : Int) (r : Tm) (w : World) (hB : Blk w b 146 #[.string k, .slice v.a v.n v.c, .int .i64 d, (ptT l), (ptT r)]) (hl : TreeAt w l) (hr : TreeAt w r) (hbl : b ∉ bk l) (hbr : b ∉ bk r) (hdl : 0 ≤ dp l ∧ dp l ≤ 900000) (hdr : 0 ≤ dp r ∧ dp r ≤ 900000) (h2 : ¬ dp l - dp r = 2) (h3 : ¬ dp l - dp r = -2) :
    Calls Tryz.prog 101 #[pt b 0] w fun e w' => e = .returned (pt b 0) ∧ Blk w' b 146 (ndV k v (1 + mx (dp l) (dp r)) l r) ∧ TreeAt w' l ∧ TreeAt w' r ∧ But (fun q => q = b) w w' := by
 have hB0 := But.refl (fun q => q = b) w;have hl_hB := hB.lt;have hSb : (fun q => q = b) b ∨ w.heap.size ≤ b := .inl rfl;refine co_enter (n := 75) Tryz.func101 rfl rfl rfl [(0, pt b 0)] rfl (fun a s => ?_);refine q2 ?_;refine pk0 (v := .pointer none) s rfl fun _ s => q1 <| co_seq <| co_seq ?_;refine dr_gen (fun x => But (fun q => q = b) w x ∧ Blk x b 146 #[.string k, .slice v.a v.n v.c, .int .i64 d, (ptT l), (ptT r)]) (by kernel_rfl) (fun w2 hg3 => ?_) (fun w2 hg3 => ?_)
 ·
  have hz4 := hg3.size;have hB5 := fbU_new hB0 hg3;have hk6 := hB.kept hg3 (by simp);exact ⟨hB5, hk6⟩
 have hz7 := hg3.size;have hB8 := fbU_new hB0 hg3;have hk9 := hB.kept hg3 (by simp);refine dk0 0 (v := pt b 0) s rfl rfl ⟨hB8, hk9⟩ fun _ s => ?_;refine dk0 1 (v := pt b 0) s rfl rfl ⟨hB8, hk9⟩ fun _ s => ?_;refine dk0 2 (v := pt b 3) s rfl rfl ⟨hB8, hk9⟩ fun _ s => ?_;refine dk 3 (v := (ptT l)) s rfl rfl ⟨hB8, hk9⟩ (fun x hx => (rn_load1 rfl rfl Tryz.isAgg135 (hx.2.cell rfl))) fun _ s => ?_;refine dk0 5 (v := pt b 0) s rfl rfl ⟨hB8, hk9⟩ fun _ s => ?_;refine dk0 6 (v := pt b 0) s rfl rfl ⟨hB8, hk9⟩ fun _ s => ?_;refine dk0 7 (v := pt b 4) s rfl rfl ⟨hB8, hk9⟩ fun _ s => ?_;refine dk 8 (v := (ptT r)) s rfl rfl ⟨hB8, hk9⟩ (fun x hx => (rn_load1 rfl rfl Tryz.isAgg135 (hx.2.cell rfl))) fun _ s => ?_;have hT20 := hl.gr hg3 (fun q e => by cases e);refine d1 4 s rfl rfl (op_call (args := #[(ptT l)]) (R := fun res xw => res = .int .i64 (dp l) ∧ w2 = xw) rfl rfl rfl (by kernel_rfl) (by kernel_rfl) (Tryz.call102 _ _) (deep_any l w2 hT20) (by rintro e x ⟨rfl, rfl⟩; exact ⟨_, rfl, rfl, rfl⟩)) ?_ ?_
 ·
  rintro _ _ ⟨rfl, rfl⟩;exact ⟨hB8, hk9⟩
 rintro _ _ a18 ⟨rfl, rfl⟩ s;have hT23 := hr.gr hg3 (fun q e => by cases e);refine d1 9 s rfl rfl (op_call (args := #[(ptT r)]) (R := fun res xw => res = .int .i64 (dp r) ∧ w2 = xw) rfl rfl rfl (by kernel_rfl) (by kernel_rfl) (Tryz.call102 _ _) (deep_any r w2 hT23) (by rintro e x ⟨rfl, rfl⟩; exact ⟨_, rfl, rfl, rfl⟩)) ?_ ?_
 ·
  rintro _ _ ⟨rfl, rfl⟩;exact ⟨hB8, hk9⟩
 rintro _ _ a21 ⟨rfl, rfl⟩ s;refine dk 10 (v := .int .i64 ((dp l) - (dp r))) s rfl rfl ⟨hB8, hk9⟩ (fun x hx => (rn_arith rfl rfl rfl rfl rfl rfl (IntWalk.i64_in _ (by omega)))) fun _ s => ?_;refine dr_done (by kernel_rfl) ?_;refine co_then <| wp_block <| q2 ?_;refine pk0 (v := .bool ((dp l) - (dp r) == 2)) s rfl fun _ s => ?_;refine pk0 (v := .bool ((dp l) - (dp r) == 2)) s rfl fun _ s => q1 ?_;have hc27 : ((dp l) - (dp r) == 2) = false := by first | (simp; done) | (simp; omega) | exact beq_false_of_ne (by omega) | exact beq_iff_eq.2 (by omega)
 rw [hc27] at s;refine co_false s rfl <| q2 ?_;refine pk0 (v := .bool ((dp l) - (dp r) == (-2))) s rfl fun _ s => ?_;refine pk0 (v := .bool ((dp l) - (dp r) == (-2))) s rfl fun _ s => q1 ?_;have hc30 : ((dp l) - (dp r) == (-2)) = false := by first | (simp; done) | (simp; omega) | exact beq_false_of_ne (by omega) | exact beq_iff_eq.2 (by omega)
 rw [hc30] at s;refine co_false s rfl <| wp_skip <| co_blockN <| co_then <| q2 ?_;refine pk0 (v := pt b 0) s rfl fun _ s => ?_;refine pw s rfl (op_call (args := #[pt b 0]) (R := fun res xw => res = .tuple #[] ∧ Blk xw b 146 #[.string k, .slice v.a v.n v.c, .int .i64 (1 + mx (dp l) (dp r)), (ptT l), (ptT r)] ∧ But (fun q => q = b) w2 xw) rfl rfl rfl (by kernel_rfl) (by kernel_rfl) (Tryz.call105 _ _) (measure_any b l k v d r w2 hk9 hT20 hT23 hbl hbr (show 0 ≤ (dp l) ∧ (dp l) ≤ 1000000 from ⟨by omega, by omega⟩) (show 0 ≤ (dp r) ∧ (dp r) ≤ 1000000 from ⟨by omega, by omega⟩)) (by rintro e x ⟨rfl, h1, h2⟩; exact ⟨_, rfl, rfl, h1, h2⟩)) ?_;rintro _ w33 a32 ⟨rfl, hq34, hb35⟩ s;obtain ⟨d36, hd37⟩ : ∃ z : Int, z = 1 + mx (dp l) (dp r) := ⟨_, rfl⟩; rw [← hd37] at hq34;have hd37b := mx_bd3 (a := (dp l)) (b := (dp r));have hB38 := fbU_foot hB8 hb35 (fun i hi hS => by rcases hS with rfl; rfl);have hz39 := hb35.size;refine q3 ?_;refine pk0 (v := pt b 0) s rfl fun _ s => ?_;refine pk0 (v := pt b 0) s rfl fun _ s => q4 ?_;refine co_ret1 s rfl rfl ?_;have hT42 := TreeAt.but hT20 hb35 (fun q hq => (fun e : q = b => hbl (e ▸ hq)));have hT43 := TreeAt.but hT23 hb35 (fun q hq => (fun e : q = b => hbr (e ▸ hq)));subst hd37;exact ⟨rfl, hq34, hT42, hT43, hB38⟩
end Go.Proofs.YtniojcnkjehflaaGreat

/- Package tree: balance. Conditions: both sides flat, of at most 100000 keys. -/
namespace Go.Proofs.YtniojcnkjehflaaGreat
open Go.RowKit Go.PlainAid
set_option linter.unusedVariables false
set_option linter.unusedSimpArgs false


theorem dp_nil : dp .nil = 0 := rfl
theorem dp_nd (b : Nat) (l : Tm) (k : ByteArray) (v : SlT) (d : Int) (r : Tm) : dp (.nd b l k v d r) = d := rfl
def sz : Tm → Nat
  | .nil => 0
  | .nd _ l _ _ _ r => 1 + sz l + sz r
def il : Tm → List (ByteArray × SlT)
  | .nil => []
  | .nd _ l k v _ r => il l ++ (k, v) :: il r
def Avl : Tm → Prop
  | .nil => True
  | .nd _ l _ _ d r => Avl l ∧ Avl r ∧ d = 1 + mx (dp l) (dp r) ∧ dp l - dp r ≤ 1 ∧ dp r - dp l ≤ 1
theorem Avl.bd : ∀ {t : Tm}, Avl t → 0 ≤ dp t ∧ dp t ≤ (sz t : Int)
  | .nil, _ => ⟨Int.le_refl _, Int.le_refl _⟩
  | .nd b l k v d r, h => by
    obtain ⟨h1, h2, h3, _⟩ := h
    have k1 := Avl.bd h1; have k2 := Avl.bd h2; have k3 := mx_bd3 (a := dp l) (b := dp r)
    show 0 ≤ d ∧ d ≤ ((1 + sz l + sz r : Nat) : Int)
    omega
def balT : Tm → Tm
  | .nil => .nil
  | .nd b l k v d r =>
    if dp l - dp r = 2 then
      match l with
      | .nil => .nil
      | .nd c ll k2 v2 d2 lr =>
        if dp ll < dp lr then
          match lr with
          | .nil => .nil
          | .nd g el k3 v3 d3 er => .nd g (.nd c ll k2 v2 (1 + mx (dp ll) (dp el)) el) k3 v3 (1 + mx (1 + mx (dp ll) (dp el)) (1 + mx (dp er) (dp r))) (.nd b er k v (1 + mx (dp er) (dp r)) r)
        else .nd c ll k2 v2 (1 + mx (dp ll) (1 + mx (dp lr) (dp r))) (.nd b lr k v (1 + mx (dp lr) (dp r)) r)
    else if dp l - dp r = -2 then
      match r with
      | .nil => .nil
      | .nd c lr k2 v2 d2 ll =>
        if dp ll < dp lr then
          match lr with
          | .nil => .nil
          | .nd g er k3 v3 d3 el => .nd g (.nd b l k v (1 + mx (dp l) (dp er)) er) k3 v3 (1 + mx (1 + mx (dp l) (dp er)) (1 + mx (dp el) (dp ll))) (.nd c el k2 v2 (1 + mx (dp el) (dp ll)) ll)
        else .nd c (.nd b l k v (1 + mx (dp l) (dp lr)) lr) k2 v2 (1 + mx (1 + mx (dp l) (dp lr)) (dp ll)) ll
    else .nd b l k v (1 + mx (dp l) (dp r)) r
/-- The ways of balance. -/
theorem balT_ways {P : Tm → Prop} {b : Nat} {l r : Tm} {k : ByteArray} {v : SlT} {d : Int} (hl : Avl l) (hr : Avl r)
    (hA : ∀ c ll k2 v2 d2 lr, l = .nd c ll k2 v2 d2 lr → Avl ll → Avl lr → d2 = 1 + mx (dp ll) (dp lr) → dp ll - dp lr ≤ 1 → dp lr - dp ll ≤ 1 → d2 - dp r = 2 → ¬ dp ll < dp lr → P (.nd c ll k2 v2 (1 + mx (dp ll) (1 + mx (dp lr) (dp r))) (.nd b lr k v (1 + mx (dp lr) (dp r)) r)))
    (hB : ∀ c ll k2 v2 d2 g el k3 v3 d3 er, l = .nd c ll k2 v2 d2 (.nd g el k3 v3 d3 er) → Avl ll → Avl el → Avl er → d2 = 1 + mx (dp ll) d3 → d3 = 1 + mx (dp el) (dp er) → dp el - dp er ≤ 1 → dp er - dp el ≤ 1 → d3 - dp ll ≤ 1 → d2 - dp r = 2 → dp ll < d3 → P (.nd g (.nd c ll k2 v2 (1 + mx (dp ll) (dp el)) el) k3 v3 (1 + mx (1 + mx (dp ll) (dp el)) (1 + mx (dp er) (dp r))) (.nd b er k v (1 + mx (dp er) (dp r)) r)))
    (hC : ∀ c ll k2 v2 d2 lr, r = .nd c lr k2 v2 d2 ll → Avl ll → Avl lr → d2 = 1 + mx (dp lr) (dp ll) → dp ll - dp lr ≤ 1 → dp lr - dp ll ≤ 1 → dp l - d2 = -2 → ¬ dp ll < dp lr → P (.nd c (.nd b l k v (1 + mx (dp l) (dp lr)) lr) k2 v2 (1 + mx (1 + mx (dp l) (dp lr)) (dp ll)) ll))
    (hD : ∀ c ll k2 v2 d2 g el k3 v3 d3 er, r = .nd c (.nd g er k3 v3 d3 el) k2 v2 d2 ll → Avl ll → Avl el → Avl er → d2 = 1 + mx d3 (dp ll) → d3 = 1 + mx (dp er) (dp el) → dp el - dp er ≤ 1 → dp er - dp el ≤ 1 → d3 - dp ll ≤ 1 → dp l - d2 = -2 → dp ll < d3 → P (.nd g (.nd b l k v (1 + mx (dp l) (dp er)) er) k3 v3 (1 + mx (1 + mx (dp l) (dp er)) (1 + mx (dp el) (dp ll))) (.nd c el k2 v2 (1 + mx (dp el) (dp ll)) ll)))
    (hE : ¬ dp l - dp r = 2 → ¬ dp l - dp r = -2 → P (.nd b l k v (1 + mx (dp l) (dp r)) r)) : P (balT (.nd b l k v d r)) := by
  show P (if dp l - dp r = 2 then _ else if dp l - dp r = -2 then _ else _)
  by_cases h1 : dp l - dp r = 2
  · rw [if_pos h1]
    have hr0 := hr.bd
    cases l with
    | nil => exfalso; simp only [dp_nil, dp_nd] at h1; omega
    | nd c ll k2 v2 d2 lr =>
      obtain ⟨a1, a2, a3, a4, a5⟩ := hl
      show P (if dp ll < dp lr then _ else _)
      by_cases h2 : dp ll < dp lr
      · rw [if_pos h2]
        have h0 := a1.bd
        cases lr with
        | nil => exfalso; simp only [dp_nil, dp_nd] at h2; omega
        | nd g el k3 v3 d3 er =>
          obtain ⟨e1, e2, e3, e4, e5⟩ := a2
          exact hB c ll k2 v2 d2 g el k3 v3 d3 er rfl a1 e1 e2 a3 e3 e4 e5 a5 h1 h2
      · rw [if_neg h2]; exact hA c ll k2 v2 d2 lr rfl a1 a2 a3 a4 a5 h1 h2
  · rw [if_neg h1]
    by_cases h1' : dp l - dp r = -2
    · rw [if_pos h1']
      have hl0 := hl.bd
      cases r with
      | nil => exfalso; simp only [dp_nil, dp_nd] at h1'; omega
      | nd c lr k2 v2 d2 ll =>
        obtain ⟨a2, a1, a3, a5, a4⟩ := hr
        show P (if dp ll < dp lr then _ else _)
        by_cases h2 : dp ll < dp lr
        · rw [if_pos h2]
          have h0 := a1.bd
          cases lr with
          | nil => exfalso; simp only [dp_nil, dp_nd] at h2; omega
          | nd g er k3 v3 d3 el =>
            obtain ⟨e2, e1, e3, e5, e4⟩ := a2
            exact hD c ll k2 v2 d2 g el k3 v3 d3 er rfl a1 e1 e2 a3 e3 e4 e5 a5 h1' h2
        · rw [if_neg h2]; exact hC c ll k2 v2 d2 lr rfl a1 a2 a3 a4 a5 h1' h2
    · rw [if_neg h1']; exact hE h1 h1'
section
variable {b : Nat} {l r : Tm} {k : ByteArray} {v : SlT} {d : Int}
theorem balT_bk (hl : Avl l) (hr : Avl r) : (bk (balT (.nd b l k v d r))).Perm (bk (.nd b l k v d r)) := by
  refine balT_ways (P := fun t => (bk t).Perm (bk (.nd b l k v d r))) hl hr ?_ ?_ ?_ ?_ ?_
  · intro c ll k2 v2 d2 lr e _ _ _ _ _ _ _; subst e
    exact List.perm_iff_count.2 fun a => by simp only [bk, List.count_cons, List.count_append]; omega
  · intro c ll k2 v2 d2 g el k3 v3 d3 er e _ _ _ _ _ _ _ _ _ _; subst e
    exact List.perm_iff_count.2 fun a => by simp only [bk, List.count_cons, List.count_append]; omega
  · intro c ll k2 v2 d2 lr e _ _ _ _ _ _ _; subst e
    exact List.perm_iff_count.2 fun a => by simp only [bk, List.count_cons, List.count_append]; omega
  · intro c ll k2 v2 d2 g el k3 v3 d3 er e _ _ _ _ _ _ _ _ _ _; subst e
    exact List.perm_iff_count.2 fun a => by simp only [bk, List.count_cons, List.count_append]; omega
  · intro _ _; exact List.Perm.refl _
theorem balT_il (hl : Avl l) (hr : Avl r) : il (balT (.nd b l k v d r)) = il l ++ (k, v) :: il r := by
  refine balT_ways (P := fun t => il t = il l ++ (k, v) :: il r) hl hr ?_ ?_ ?_ ?_ ?_
  · intro c ll k2 v2 d2 lr e _ _ _ _ _ _ _; subst e; simp [il]
  · intro c ll k2 v2 d2 g el k3 v3 d3 er e _ _ _ _ _ _ _ _ _ _; subst e; simp [il]
  · intro c ll k2 v2 d2 lr e _ _ _ _ _ _ _; subst e; simp [il]
  · intro c ll k2 v2 d2 g el k3 v3 d3 er e _ _ _ _ _ _ _ _ _ _; subst e; simp [il]
  · intro _ _; rfl
theorem il_len : ∀ t : Tm, (il t).length = sz t
  | .nil => rfl
  | .nd b l k v d r => by simp only [il, sz, List.length_append, List.length_cons, il_len l, il_len r]; omega
theorem balT_sz (hl : Avl l) (hr : Avl r) : sz (balT (.nd b l k v d r)) = 1 + sz l + sz r := by
  rw [← il_len, balT_il hl hr, List.length_append, List.length_cons, il_len, il_len]; omega
/-- A tree whose sides differ by two at most is flat behind balance; how deep it is then. -/
theorem balT_avl (hl : Avl l) (hr : Avl r) (h1 : dp l - dp r ≤ 2) (h2 : dp r - dp l ≤ 2) : Avl (balT (.nd b l k v d r)) ∧ mx (dp l) (dp r) ≤ dp (balT (.nd b l k v d r)) ∧ dp (balT (.nd b l k v d r)) ≤ 1 + mx (dp l) (dp r) ∧ (dp l - dp r ≤ 1 → dp r - dp l ≤ 1 → dp (balT (.nd b l k v d r)) = 1 + mx (dp l) (dp r)) := by
  refine balT_ways (P := fun t => Avl t ∧ mx (dp l) (dp r) ≤ dp t ∧ dp t ≤ 1 + mx (dp l) (dp r) ∧ (dp l - dp r ≤ 1 → dp r - dp l ≤ 1 → dp t = 1 + mx (dp l) (dp r))) hl hr ?_ ?_ ?_ ?_ ?_
  · intro c ll k2 v2 d2 lr e a1 a2 a3 a4 a5 a6 a7; subst e
    have m1 := mx_bd3 (a := dp ll) (b := dp lr); have m2 := mx_bd3 (a := dp lr) (b := dp r); have m3 := mx_bd3 (a := dp ll) (b := 1 + mx (dp lr) (dp r)); have m4 := mx_bd3 (a := d2) (b := dp r)
    refine ⟨⟨a1, ⟨a2, hr, rfl, ?_, ?_⟩, rfl, ?_, ?_⟩, ?_, ?_, ?_⟩ <;> simp only [dp_nil, dp_nd] at * <;> omega
  · intro c ll k2 v2 d2 g el k3 v3 d3 er e a1 a2 a3 a4 a5 a6 a7 a8 a9 a10; subst e
    have m1 := mx_bd3 (a := dp ll) (b := d3); have m2 := mx_bd3 (a := dp el) (b := dp er); have m3 := mx_bd3 (a := dp ll) (b := dp el); have m4 := mx_bd3 (a := dp er) (b := dp r); have m5 := mx_bd3 (a := 1 + mx (dp ll) (dp el)) (b := 1 + mx (dp er) (dp r)); have m6 := mx_bd3 (a := d2) (b := dp r)
    refine ⟨⟨⟨a1, a2, rfl, ?_, ?_⟩, ⟨a3, hr, rfl, ?_, ?_⟩, rfl, ?_, ?_⟩, ?_, ?_, ?_⟩ <;> simp only [dp_nil, dp_nd] at * <;> omega
  · intro c ll k2 v2 d2 lr e a1 a2 a3 a4 a5 a6 a7; subst e
    have m1 := mx_bd3 (a := dp lr) (b := dp ll); have m2 := mx_bd3 (a := dp l) (b := dp lr); have m3 := mx_bd3 (a := 1 + mx (dp l) (dp lr)) (b := dp ll); have m4 := mx_bd3 (a := dp l) (b := d2)
    refine ⟨⟨⟨hl, a2, rfl, ?_, ?_⟩, a1, rfl, ?_, ?_⟩, ?_, ?_, ?_⟩ <;> simp only [dp_nil, dp_nd] at * <;> omega
  · intro c ll k2 v2 d2 g el k3 v3 d3 er e a1 a2 a3 a4 a5 a6 a7 a8 a9 a10; subst e
    have m1 := mx_bd3 (a := d3) (b := dp ll); have m2 := mx_bd3 (a := dp er) (b := dp el); have m3 := mx_bd3 (a := dp l) (b := dp er); have m4 := mx_bd3 (a := dp el) (b := dp ll); have m5 := mx_bd3 (a := 1 + mx (dp l) (dp er)) (b := 1 + mx (dp el) (dp ll)); have m6 := mx_bd3 (a := dp l) (b := d2)
    refine ⟨⟨⟨hl, a3, rfl, ?_, ?_⟩, ⟨a2, a1, rfl, ?_, ?_⟩, rfl, ?_, ?_⟩, ?_, ?_, ?_⟩ <;> simp only [dp_nil, dp_nd] at * <;> omega
  · intro a1 a2
    have m1 := mx_bd3 (a := dp l) (b := dp r)
    refine ⟨⟨hl, hr, rfl, by omega, by omega⟩, ?_, ?_, fun _ _ => rfl⟩
    · show mx (dp l) (dp r) ≤ 1 + mx (dp l) (dp r); omega
    · exact Int.le_refl _
end
theorem nin_inv {a b : Nat} {l r : Tm} {k : ByteArray} {v : SlT} {d : Int} (h : a ∉ bk (.nd b l k v d r)) : a ≠ b ∧ a ∉ bk l ∧ a ∉ bk r := by
  simp only [bk, List.mem_cons, List.mem_append, not_or] at h; exact h
theorem dis_inv {b : Nat} {l r t : Tm} {k : ByteArray} {v : SlT} {d : Int} (h : ∀ q ∈ bk (.nd b l k v d r), q ∉ bk t) : b ∉ bk t ∧ (∀ q ∈ bk l, q ∉ bk t) ∧ ∀ q ∈ bk r, q ∉ bk t :=
  ⟨h b (by simp [bk]), fun q hq => h q (by simp [bk, hq]), fun q hq => h q (by simp [bk, hq])⟩
set_option maxRecDepth 100000 in
theorem balance_any (b : Nat) (l : Tm) (k : ByteArray) (v : SlT) (d : Int) (r : Tm) (w : World) (hT : TreeAt w (.nd b l k v d r)) (hn : (bk (.nd b l k v d r)).Nodup) (hl : Avl l) (hr : Avl r) (hsl : sz l ≤ 100000) (hsr : sz r ≤ 100000) :
    Calls Tryz.prog 101 #[pt b 0] w fun e w' => e = .returned (ptT (balT (.nd b l k v d r))) ∧ TreeAt w' (balT (.nd b l k v d r)) ∧ But (fun q => q ∈ bk (.nd b l k v d r)) w w' := by
  obtain ⟨hB, tl, tr⟩ := hT
  obtain ⟨n1, n2, n3, n4, n5⟩ := nd_ap hn
  have bl := hl.bd; have br := hr.bd
  refine balT_ways (P := fun t => Calls Tryz.prog 101 #[pt b 0] w fun e w' => e = .returned (ptT t) ∧ TreeAt w' t ∧ But (fun q => q ∈ bk (.nd b l k v d r)) w w') hl hr ?_ ?_ ?_ ?_ ?_
  · intro c ll k2 v2 d2 lr e a1 a2 a3 a4 a5 a6 a7; subst e
    obtain ⟨hC, t1, t2⟩ := tl
    obtain ⟨m1, m2, m3, m4, m5⟩ := nd_ap n3
    obtain ⟨i1, i2, i3⟩ := nin_inv n1
    obtain ⟨j1, j2, j3⟩ := dis_inv n5
    have q1 := a1.bd; have q2 := a2.bd
    simp only [dp_nil, dp_nd, sz] at bl hsl
    exact (balA_any b c ll lr r k v d k2 v2 d2 w hB hC t1 t2 tr i1 i2 i3 n2 m1 m2 j1 (by omega) (by omega) (by omega) (by omega) a6 a7).mono fun e x ⟨h1, h2, h3, h4, h5, h6, h7⟩ => ⟨h1, ⟨h3, h4, h2, h5, h6⟩, h7.mono fun q _ hq => by rcases hq with rfl | rfl <;> simp [bk]⟩
  · intro c ll k2 v2 d2 g el k3 v3 d3 er e a1 a2 a3 a4 a5 a6 a7 a8 a9 a10; subst e
    obtain ⟨hC, t1, hG, t2, t3⟩ := tl
    obtain ⟨m1, m2, m3, m4, m5⟩ := nd_ap n3
    obtain ⟨p1, p2, p3, p4, p5⟩ := nd_ap m4
    obtain ⟨i1, i2, i3⟩ := nin_inv n1
    obtain ⟨i4, i5, i6⟩ := nin_inv i3
    obtain ⟨o1, o2, o3⟩ := nin_inv m2
    obtain ⟨j1, j2, j3⟩ := dis_inv n5
    obtain ⟨j4, j5, j6⟩ := dis_inv j3
    obtain ⟨s1, s2, s3⟩ := dis_inv (dis_symm m5)
    have q1 := a1.bd; have q2 := a2.bd; have q3 := a3.bd; have q4 := mx_bd3 (a := dp el) (b := dp er)
    simp only [dp_nil, dp_nd, sz] at bl hsl
    exact (balB_any b c g ll el er r k v d k2 v2 d2 k3 v3 d3 w hB hC hG t1 t2 t3 tr i1 i4 o1 i2 i5 i6 n2 m1 o2 o3 j1 s1 p1 p2 j4 (by omega) (by omega) (by omega) (by omega) (by omega) (by omega) a9 a10).mono fun e x ⟨h1, h2, h3, h4, h5, h6, h7, h8, h9⟩ => ⟨h1, ⟨h4, ⟨h3, h5, h6⟩, h2, h7, h8⟩, h9.mono fun q _ hq => by rcases hq with rfl | rfl | rfl <;> simp [bk]⟩
  · intro c ll k2 v2 d2 lr e a1 a2 a3 a4 a5 a6 a7; subst e
    obtain ⟨hC, t2, t1⟩ := tr
    obtain ⟨m2, m1, m4, m3, m5⟩ := nd_ap n4
    obtain ⟨i1, i3, i2⟩ := nin_inv n2
    obtain ⟨j1, j3, j2⟩ := dis_inv (dis_symm n5)
    have q1 := a1.bd; have q2 := a2.bd
    simp only [dp_nil, dp_nd, sz] at br hsr
    exact (balC_any b c ll lr l k v d k2 v2 d2 w hB hC t1 t2 tl i1 i2 i3 n1 m1 m2 j1 (by omega) (by omega) (by omega) (by omega) a6 a7).mono fun e x ⟨h1, h2, h3, h4, h5, h6, h7⟩ => ⟨h1, ⟨h3, ⟨h2, h6, h5⟩, h4⟩, h7.mono fun q _ hq => by rcases hq with rfl | rfl <;> simp [bk]⟩
  · intro c ll k2 v2 d2 g el k3 v3 d3 er e a1 a2 a3 a4 a5 a6 a7 a8 a9 a10; subst e
    obtain ⟨hC, ⟨hG, t3, t2⟩, t1⟩ := tr
    obtain ⟨m2, m1, m4, m3, m5⟩ := nd_ap n4
    obtain ⟨p2, p1, p4, p3, p5⟩ := nd_ap m4
    obtain ⟨i1, i3, i2⟩ := nin_inv n2
    obtain ⟨i4, i6, i5⟩ := nin_inv i3
    obtain ⟨o1, o3, o2⟩ := nin_inv m2
    obtain ⟨j1, j3, j2⟩ := dis_inv (dis_symm n5)
    obtain ⟨j4, j6, j5⟩ := dis_inv j3
    obtain ⟨s1, s3, s2⟩ := dis_inv m5
    have q1 := a1.bd; have q2 := a2.bd; have q3 := a3.bd; have q4 := mx_bd3 (a := dp er) (b := dp el)
    simp only [dp_nil, dp_nd, sz] at br hsr
    exact (balD_any b c g ll el er l k v d k2 v2 d2 k3 v3 d3 w hB hC hG t1 t2 t3 tl i1 i4 o1 i2 i5 i6 n1 m1 o2 o3 j1 s1 p1 p2 j4 (by omega) (by omega) (by omega) (by omega) (by omega) (by omega) a9 a10).mono fun e x ⟨h1, h2, h3, h4, h5, h6, h7, h8, h9⟩ => ⟨h1, ⟨h4, ⟨h2, h8, h7⟩, h3, h6, h5⟩, h9.mono fun q _ hq => by rcases hq with rfl | rfl | rfl <;> simp [bk]⟩
  · intro a1 a2
    exact (balE_any b l k v d r w hB tl tr n1 n2 (by omega) (by omega) a1 a2).mono fun e x ⟨h1, h2, h3, h4, h5⟩ => ⟨h1, ⟨h2, h3, h4⟩, h5.mono fun q _ hq => by subst hq; simp [bk]⟩

end Go.Proofs.YtniojcnkjehflaaGreat

/- Package tree: put. Conditions: a flat tree of at most 90000 keys. -/
namespace Go.Proofs.YtniojcnkjehflaaGreat
open Go.RowKit Go.PlainAid
set_option linter.unusedVariables false
set_option linter.unusedSimpArgs false


theorem tbl_flip : ∀ (x y : List UInt8), (Op.bytesLess x y || x == y) = !Op.bytesLess y x
  | [], [] => rfl
  | [], _ :: _ => rfl
  | _ :: _, [] => rfl
  | a :: x, b :: y => by
    have ih := tbl_flip x y
    show ((decide (a < b) || (a == b && Op.bytesLess x y)) || (a == b && x == y)) = !(decide (b < a) || (b == a && Op.bytesLess y x))
    rcases Nat.lt_trichotomy a.toNat b.toNat with h | h | h
    · have h1 : a < b := h
      have h2 : ¬ b < a := fun q => by have : b.toNat < a.toNat := q; omega
      have h3 : ¬ b = a := fun q => by subst q; omega
      simp [h1, h2, h3]
    · have e : a = b := UInt8.toNat.inj h
      subst e
      have h2 : ¬ a < a := fun q => by have : a.toNat < a.toNat := q; omega
      simp [h2]; simpa using ih
    · have h1 : ¬ a < b := fun q => by have : a.toNat < b.toNat := q; omega
      have h2 : b < a := h
      have h3 : ¬ a = b := fun q => by subst q; omega
      simp [h1, h2, h3]
/-- One key is below another. -/
def klt (a b : ByteArray) : Bool := Op.bytesLess a.toList b.toList
theorem klt_gt {a b : ByteArray} {z : Bool} (h : (!(Op.bytesLess a.toList b.toList || a.toList == b.toList)) = z) : klt b a = z := by rw [tbl_flip] at h; unfold klt; rw [← h]; simp
def putT : Tm → ByteArray → SlT → Nat → Tm
  | .nil, k, v, N => .nd N .nil k v 1 .nil
  | .nd b l k' v' d r, k, v, N => if klt k k' = true then balT (.nd b (putT l k v N) k' v' d r) else if klt k' k = true then balT (.nd b l k' v' d (putT r k v N)) else .nd b l k' v d r
def hasT : Tm → ByteArray → Bool
  | .nil, _ => false
  | .nd _ l k' _ _ r, k => if klt k k' = true then hasT l k else if klt k' k = true then hasT r k else true
section
variable {b N : Nat} {l r t : Tm} {k k' : ByteArray} {v v' : SlT} {d : Int}
theorem putT_l (h : klt k k' = true) : putT (.nd b l k' v' d r) k v N = balT (.nd b (putT l k v N) k' v' d r) := by rw [putT, if_pos h]
theorem putT_r (h : klt k k' = false) (h2 : klt k' k = true) : putT (.nd b l k' v' d r) k v N = balT (.nd b l k' v' d (putT r k v N)) := by rw [putT, if_neg (by simp [h]), if_pos h2]
theorem putT_e (h : klt k k' = false) (h2 : klt k' k = false) : putT (.nd b l k' v' d r) k v N = .nd b l k' v d r := by rw [putT, if_neg (by simp [h]), if_neg (by simp [h2])]
theorem hasT_l (h : klt k k' = true) : hasT (.nd b l k' v' d r) k = hasT l k := by rw [hasT, if_pos h]
theorem hasT_r (h : klt k k' = false) (h2 : klt k' k = true) : hasT (.nd b l k' v' d r) k = hasT r k := by rw [hasT, if_neg (by simp [h]), if_pos h2]
theorem hasT_e (h : klt k k' = false) (h2 : klt k' k = false) : hasT (.nd b l k' v' d r) k = true := by rw [hasT, if_neg (by simp [h]), if_neg (by simp [h2])]
end
theorem put_avl (k : ByteArray) (v : SlT) (N : Nat) : ∀ t : Tm, Avl t → Avl (putT t k v N) ∧ dp t ≤ dp (putT t k v N) ∧ dp (putT t k v N) ≤ dp t + 1
  | .nil, _ => ⟨⟨trivial, trivial, rfl, by decide, by decide⟩, (by decide : (0 : Int) ≤ 1), (by decide : (1 : Int) ≤ 0 + 1)⟩
  | .nd b l k' v' d r, h => by
    obtain ⟨a1, a2, a3, a4, a5⟩ := h
    have m := mx_bd3 (a := dp l) (b := dp r)
    simp only [dp_nd]
    by_cases h1 : klt k k' = true
    · rw [putT_l h1]
      obtain ⟨i1, i2, i3⟩ := put_avl k v N l a1
      have m2 := mx_bd3 (a := dp (putT l k v N)) (b := dp r)
      obtain ⟨j1, j2, j3, j4⟩ := balT_avl (b := b) (k := k') (v := v') (d := d) i1 a2 (by omega) (by omega)
      by_cases h3 : dp (putT l k v N) - dp r ≤ 1
      · have := j4 h3 (by omega); exact ⟨j1, by omega, by omega⟩
      · exact ⟨j1, by omega, by omega⟩
    · by_cases h2 : klt k' k = true
      · rw [putT_r (by simpa using h1) h2]
        obtain ⟨i1, i2, i3⟩ := put_avl k v N r a2
        have m2 := mx_bd3 (a := dp l) (b := dp (putT r k v N))
        obtain ⟨j1, j2, j3, j4⟩ := balT_avl (b := b) (k := k') (v := v') (d := d) a1 i1 (by omega) (by omega)
        by_cases h3 : dp (putT r k v N) - dp l ≤ 1
        · have := j4 (by omega) h3; exact ⟨j1, by omega, by omega⟩
        · exact ⟨j1, by omega, by omega⟩
      · rw [putT_e (by simpa using h1) (by simpa using h2)]
        exact ⟨⟨a1, a2, a3, a4, a5⟩, Int.le_refl _, by simp only [dp_nd]; omega⟩
theorem put_bk (k : ByteArray) (v : SlT) (N : Nat) : ∀ t : Tm, Avl t → (bk (putT t k v N)).Perm (if hasT t k = true then bk t else N :: bk t)
  | .nil, _ => by simp [putT, hasT, bk]
  | .nd b l k' v' d r, h => by
    obtain ⟨a1, a2, a3, a4, a5⟩ := h
    by_cases h1 : klt k k' = true
    · rw [putT_l h1, hasT_l h1]
      refine (balT_bk (put_avl k v N l a1).1 a2).trans ?_
      have ih := put_bk k v N l a1
      split
      · rename_i hh; rw [if_pos hh] at ih; exact (ih.append_right _).cons _
      · rename_i hh; rw [if_neg hh] at ih; exact ((ih.append_right _).cons _).trans (List.Perm.swap _ _ _)
    · by_cases h2 : klt k' k = true
      · have h1' : klt k k' = false := by simpa using h1
        rw [putT_r h1' h2, hasT_r h1' h2]
        refine (balT_bk a1 (put_avl k v N r a2).1).trans ?_
        have ih := put_bk k v N r a2
        split
        · rename_i hh; rw [if_pos hh] at ih; exact (ih.append_left _).cons _
        · rename_i hh; rw [if_neg hh] at ih
          exact List.perm_iff_count.2 fun a => by
            have := (List.perm_iff_count.1 ih) a
            simp only [bk, List.count_cons, List.count_append] at this ⊢; omega
      · have h1' : klt k k' = false := by simpa using h1
        have h2' : klt k' k = false := by simpa using h2
        rw [putT_e h1' h2', hasT_e h1' h2', if_pos rfl]; exact List.Perm.refl _
theorem put_mem {k : ByteArray} {v : SlT} {N q : Nat} {t : Tm} (h : Avl t) (hq : q ∈ bk (putT t k v N)) : q = N ∨ q ∈ bk t := by
  have := (put_bk k v N t h).mem_iff.1 hq
  split at this
  · exact .inr this
  · rw [List.mem_cons] at this; exact this
theorem put_nd {k : ByteArray} {v : SlT} {N : Nat} {t : Tm} (h : Avl t) (hn : (bk t).Nodup) (hN : N ∉ bk t) : (bk (putT t k v N)).Nodup := by
  rw [(put_bk k v N t h).nodup_iff]
  split
  · exact hn
  · exact List.nodup_cons.2 ⟨hN, hn⟩
theorem put_sz (k : ByteArray) (v : SlT) (N : Nat) : ∀ t : Tm, Avl t → sz (putT t k v N) = sz t + (if hasT t k = true then 0 else 1)
  | .nil, _ => rfl
  | .nd b l k' v' d r, h => by
    obtain ⟨a1, a2, a3, a4, a5⟩ := h
    by_cases h1 : klt k k' = true
    · rw [putT_l h1, hasT_l h1, balT_sz (put_avl k v N l a1).1 a2, put_sz k v N l a1]; simp only [sz]; omega
    · have h1' : klt k k' = false := by simpa using h1
      by_cases h2 : klt k' k = true
      · rw [putT_r h1' h2, hasT_r h1' h2, balT_sz a1 (put_avl k v N r a2).1, put_sz k v N r a2]; simp only [sz]; omega
      · have h2' : klt k' k = false := by simpa using h2
        rw [putT_e h1' h2', hasT_e h1' h2']; rfl

set_option maxRecDepth 100000 in
theorem put_any (t : Tm) (k : ByteArray) (v : SlT) (w : World) (hT : TreeAt w t) (hn : (bk t).Nodup) (ha : Avl t) (hs : sz t ≤ 90000) :
    Calls Tryz.prog 95 #[(ptT t), .string k, .slice v.a v.n v.c] w fun e w' => ∃ (N : Nat), e = .returned (.tuple #[(ptT (putT t k v N)), .bool (hasT t k)]) ∧ TreeAt w' (putT t k v N) ∧ w.heap.size ≤ N ∧ But (fun q => q ∈ bk t) w w' := by
 induction t generalizing w
 · skip
   have hB0 := But.refl (fun q => q ∈ bk Tm.nil) w;refine co_enter (n := 63) Tryz.func95 rfl rfl rfl [(0, .pointer none), (1, .string k), (2, .slice v.a v.n v.c)] rfl (fun a s => ?_);refine q2 ?_;refine pk0 (v := .pointer none) s rfl fun a1 s => ?_;refine pk0 (v := .bool false) s rfl fun a2 s => ?_;refine q6 ?_;refine pk0 (v := .pointer none) s rfl fun a3 s => ?_;refine pk0 (v := .bool true) s rfl fun a4 s => ?_;refine q1 ?_;refine co_true s rfl <| q2 ?_;refine pk0 (v := .string k) s rfl fun a5 s => ?_;refine pk0 (v := .slice v.a v.n v.c) s rfl fun _ s => ?_;refine pk0 (v := .agg #[.string k, .slice v.a v.n v.c, .int .i64 1, .pointer none, .pointer none]) s rfl fun _ s => ?_;refine pw s rfl (op_new (v := fun N => pt N 0) (T := 146) (cs := #[.string k, .slice v.a v.n v.c, .int .i64 1, .pointer none, .pointer none]) (by kernel_rfl) (by kernel_rfl) (by kernel_rfl)) ?_;rintro _ w9 a8 ⟨N10, rfl, hN13, hz14, hk12, hg11⟩ s;have hz15 := hg11.size
   try dsimp only at s
   refine pk0 (v := pt N10 0) s rfl fun _ s => ?_;refine pk0 (v := .bool false) s rfl fun _ s => q5 ?_;refine co_ret2 s rfl rfl rfl ?_;have hB18 := fbU_new hB0 hg11;exact ⟨N10, rfl, ⟨hk12, trivial, trivial⟩, by omega, hB18⟩
 · rename_i b l k2 v2 d2 r ihl ihr
   have hB0 := But.refl (fun q => q ∈ bk (Tm.nd b l k2 v2 d2 r)) w;obtain ⟨hB, hl, hr⟩ := hT; obtain ⟨n1, n2, n3, n4, n5⟩ := nd_ap hn; obtain ⟨a1, a2, a3, a4, a5⟩ := ha;have hsz : 1 + sz l + sz r ≤ 90000 := hs;have hl_hB := hB.lt;have hSb : (fun q => q ∈ bk (Tm.nd b l k2 v2 d2 r)) b ∨ w.heap.size ≤ b := .inl (by simp [bk]);refine co_enter (n := 63) Tryz.func95 rfl rfl rfl [(0, pt b 0), (1, .string k), (2, .slice v.a v.n v.c)] rfl (fun a s => ?_);refine q2 ?_;refine pk0 (v := .pointer none) s rfl fun _ s => ?_;refine pk0 (v := .bool false) s rfl fun _ s => q6 ?_;refine pk0 (v := pt b 0) s rfl fun _ s => ?_;refine pk0 (v := .bool false) s rfl fun _ s => q1 ?_;refine co_false s rfl <| q7 ?_;refine pk0 (v := .bool false) s rfl fun _ s => q1 <| co_seq <| wp_block <| q2 ?_;refine pk0 (v := .string k) s rfl fun _ s => ?_;refine pk0 (v := pt b 0) s rfl fun _ s => ?_;refine pk0 (v := pt b 0) s rfl fun _ s => ?_;refine pk0 (v := pt b 0) s rfl fun _ s => ?_;refine pk (v := .string k2) s rfl (rn_load1 rfl rfl Tryz.isAgg9 (hB.cell rfl)) fun _ s => ?_;refine pk0 (v := .bool (Op.bytesLess k.toList k2.toList)) s rfl fun _ s => ?_;refine pk0 (v := .bool (Op.bytesLess k.toList k2.toList)) s rfl fun _ s => q1 ?_;cases hc31 : (Op.bytesLess k.toList k2.toList)
   ·
    rw [hc31] at s;refine co_false s rfl <| q2 ?_;refine pk0 (v := .string k) s rfl fun _ s => ?_;refine pk0 (v := pt b 0) s rfl fun _ s => ?_;refine pk0 (v := pt b 0) s rfl fun _ s => ?_;refine pk0 (v := pt b 0) s rfl fun _ s => ?_;refine pk (v := .string k2) s rfl (rn_load1 rfl rfl Tryz.isAgg9 (hB.cell rfl)) fun _ s => ?_;refine pk0 (v := .bool (!(Op.bytesLess k.toList k2.toList || k.toList == k2.toList))) s rfl fun _ s => ?_;refine pk0 (v := .bool (!(Op.bytesLess k.toList k2.toList || k.toList == k2.toList))) s rfl fun _ s => q1 ?_;cases hc39 : (!(Op.bytesLess k.toList k2.toList || k.toList == k2.toList))
    ·
     rw [hc39] at s;refine co_false s rfl <| q2 ?_;refine pk0 (v := pt b 0) s rfl fun _ s => ?_;refine pk0 (v := .slice v.a v.n v.c) s rfl fun _ s => ?_;refine pk0 (v := pt b 0) s rfl fun _ s => ?_;refine pk0 (v := pt b 1) s rfl fun _ s => ?_;refine pwD s rfl (op_store1 rfl rfl rfl rfl Tryz.sizeOf93 hB rfl) ?_;rintro _ w45 a44 ⟨hk46, hz47, hg48⟩ s;have hk46' : Blk w45 b 146 #[.string k2, .slice v.a v.n v.c, .int .i64 d2, (ptT l), (ptT r)] := hk46;have hz49 := hg48.size;refine q3 ?_;refine pk0 (v := pt b 0) s rfl fun _ s => ?_;refine pk0 (v := pt b 0) s rfl fun _ s => ?_;refine pk0 (v := .bool true) s rfl fun _ s => q4 <| qr ?_;refine co_ret2 s rfl rfl rfl ?_;have hT53 := hl.gr hg48 (fun q e => by cases e; exact n1);have hT54 := hr.gr hg48 (fun q e => by cases e; exact n2);have hB55 := fbU_at hB0 hg48 (fun hlt => by rcases hSb with hq | hq; exact hq; omega);have q1 : klt k k2 = false := hc31; have q2 := klt_gt hc39;exact ⟨w.heap.size, by rw [putT_e q1 q2, hasT_e q1 q2]; rfl, by rw [putT_e q1 q2]; exact ⟨hk46', hT53, hT54⟩, Nat.le_refl _, hB55⟩
    rw [hc39] at s;refine co_true s rfl <| co_reg ?_;refine pk0 (v := pt b 0) s rfl fun _ s => ?_;refine pk0 (v := pt b 0) s rfl fun _ s => ?_;refine pk0 (v := pt b 0) s rfl fun _ s => ?_;refine pk0 (v := pt b 4) s rfl fun _ s => ?_;refine pk (v := (ptT r)) s rfl (rn_load1 rfl rfl Tryz.isAgg135 (hB.cell rfl)) fun _ s => ?_;refine pk0 (v := .string k) s rfl fun _ s => ?_;refine pk0 (v := .slice v.a v.n v.c) s rfl fun _ s => ?_;have hlt69 := TreeAt.lt hr; have hlt70 := TreeAt.lt hl;refine pw s rfl (op_call (args := #[(ptT r), .string k, .slice v.a v.n v.c]) (R := fun res xw => ∃ N, res = .tuple #[ptT (putT r k v N), .bool (hasT r k)] ∧ TreeAt xw (putT r k v N) ∧ w.heap.size ≤ N ∧ But (fun q => q ∈ bk r) w xw) rfl rfl rfl (by kernel_rfl) (by kernel_rfl) (Tryz.call95 _ _) (ihr w hr n4 a2 (by omega)) (by rintro e x ⟨N, rfl, h1, h2, h3⟩; exact ⟨_, rfl, N, rfl, h1, h2, h3⟩)) ?_;rintro _ w64 a63 ⟨N65, rfl, hT66, hN67, hb68⟩ s;have av71 := put_avl k v N65 r a2;have ni72 : b ∉ bk (putT r k v N65) := fun hq => by rcases put_mem a2 hq with h | h; omega; exact n2 h
    have di73 : ∀ q ∈ bk (putT r k v N65), q ∉ bk l := fun q hq hq2 => by rcases put_mem a2 hq with h | h; (have := hlt70 q hq2; omega); exact (dis_symm n5) q h hq2
    have no74 := put_nd (k := k) (v := v) (N := N65) a2 n4 (fun hq => by have := hlt69 _ hq; omega);have sz75 := put_sz k v N65 r a2; have sz75b : sz (putT r k v N65) ≤ sz r + 1 := by rw [sz75]; split <;> omega
    have hB76 := fbU_foot hB0 hb68 (fun i hi hS => by simp only [bk, List.mem_cons, List.mem_append]; exact .inr (.inr hS));have hz77 := hb68.size;refine pk0 (v := .tuple #[(ptT (putT r k v N65)), .bool (hasT r k)]) s rfl fun _ s => ?_;refine pk0 (v := (ptT (putT r k v N65))) s rfl fun _ s => ?_;refine pk0 (v := .bool (hasT r k)) s rfl fun _ s => ?_;refine pk0 (v := pt b 0) s rfl fun _ s => ?_;refine pk0 (v := pt b 4) s rfl fun _ s => ?_;have hk88 := Blk.butS hB hb68 (fun hq => absurd hq n2);refine pwD s rfl (op_store1 rfl rfl rfl (ptT_one _) Tryz.sizeOf135 hk88 rfl) ?_;rintro _ w84 a83 ⟨hk85, hz86, hg87⟩ s;have hk85' : Blk w84 b 146 #[.string k2, .slice v2.a v2.n v2.c, .int .i64 d2, (ptT l), (ptT (putT r k v N65))] := hk85;have hz89 := hg87.size;refine pk0 (v := .bool (hasT r k)) s rfl fun _ s => pl_nil <| co_blockN <| co_then <| q2 ?_;refine pk0 (v := pt b 0) s rfl fun _ s => ?_;have hB94 := fbU_at hB76 hg87 (fun hlt => by rcases hSb with hq | hq; exact hq; omega);have hT95 := TreeAt.but hl hb68 (fun q hq => (n5 q hq));have hT96 := hT95.gr hg87 (fun q e => by cases e; exact n1);have hT97 := hT66.gr hg87 (fun q e => by cases e; exact ni72);refine pw s rfl (op_call (args := #[pt b 0]) (R := fun res xw => res = ptT (balT (Tm.nd b l k2 v2 d2 (putT r k v N65))) ∧ TreeAt xw (balT (Tm.nd b l k2 v2 d2 (putT r k v N65))) ∧ But (fun q => q ∈ bk (Tm.nd b l k2 v2 d2 (putT r k v N65))) w84 xw) rfl rfl rfl (by kernel_rfl) (by kernel_rfl) (Tryz.call101 _ _) (balance_any b l k2 v2 d2 (putT r k v N65) w84 ⟨hk85', hT96, hT97⟩ (nd_ap' n1 ni72 n3 no74 (dis_symm di73)) a1 av71.1 (by omega) (by omega)) (by rintro e x ⟨rfl, h1, h2⟩; exact ⟨_, rfl, rfl, h1, h2⟩)) ?_;rintro _ w93 a92 ⟨rfl, hT98, hb99⟩ s;have hB100 := fbU_foot hB94 hb99 (fun i hi hS => by simp only [bk, List.mem_cons, List.mem_append] at hS ⊢; rcases hS with h | h | h; exact .inl h; exact .inr (.inl h); (rcases put_mem a2 h with h | h; omega; exact .inr (.inr h)));have hz101 := hb99.size;refine pk0 (v := .bool (hasT r k)) s rfl fun _ s => ?_;refine pk0 (v := (ptT (balT (Tm.nd b l k2 v2 d2 (putT r k v N65))))) s rfl fun _ s => ?_;refine pk0 (v := .bool (hasT r k)) s rfl fun _ s => q4 ?_;refine co_ret2 s rfl rfl rfl ?_;have q1 : klt k k2 = false := hc31; have q2 := klt_gt hc39;exact ⟨N65, by rw [putT_r q1 q2, hasT_r q1 q2], by rw [putT_r q1 q2]; exact hT98, by omega, hB100⟩
   rw [hc31] at s;refine co_true s rfl <| co_reg ?_;refine pk0 (v := pt b 0) s rfl fun _ s => ?_;refine pk0 (v := pt b 0) s rfl fun _ s => ?_;refine pk0 (v := pt b 0) s rfl fun _ s => ?_;refine pk0 (v := pt b 3) s rfl fun _ s => ?_;refine pk (v := (ptT l)) s rfl (rn_load1 rfl rfl Tryz.isAgg135 (hB.cell rfl)) fun _ s => ?_;refine pk0 (v := .string k) s rfl fun _ s => ?_;refine pk0 (v := .slice v.a v.n v.c) s rfl fun _ s => ?_;have hlt118 := TreeAt.lt hl; have hlt119 := TreeAt.lt hr;refine pw s rfl (op_call (args := #[(ptT l), .string k, .slice v.a v.n v.c]) (R := fun res xw => ∃ N, res = .tuple #[ptT (putT l k v N), .bool (hasT l k)] ∧ TreeAt xw (putT l k v N) ∧ w.heap.size ≤ N ∧ But (fun q => q ∈ bk l) w xw) rfl rfl rfl (by kernel_rfl) (by kernel_rfl) (Tryz.call95 _ _) (ihl w hl n3 a1 (by omega)) (by rintro e x ⟨N, rfl, h1, h2, h3⟩; exact ⟨_, rfl, N, rfl, h1, h2, h3⟩)) ?_;rintro _ w113 a112 ⟨N114, rfl, hT115, hN116, hb117⟩ s;have av120 := put_avl k v N114 l a1;have ni121 : b ∉ bk (putT l k v N114) := fun hq => by rcases put_mem a1 hq with h | h; omega; exact n1 h
   have di122 : ∀ q ∈ bk (putT l k v N114), q ∉ bk r := fun q hq hq2 => by rcases put_mem a1 hq with h | h; (have := hlt119 q hq2; omega); exact n5 q h hq2
   have no123 := put_nd (k := k) (v := v) (N := N114) a1 n3 (fun hq => by have := hlt118 _ hq; omega);have sz124 := put_sz k v N114 l a1; have sz124b : sz (putT l k v N114) ≤ sz l + 1 := by rw [sz124]; split <;> omega
   have hB125 := fbU_foot hB0 hb117 (fun i hi hS => by simp only [bk, List.mem_cons, List.mem_append]; exact .inr (.inl hS));have hz126 := hb117.size;refine pk0 (v := .tuple #[(ptT (putT l k v N114)), .bool (hasT l k)]) s rfl fun _ s => ?_;refine pk0 (v := (ptT (putT l k v N114))) s rfl fun _ s => ?_;refine pk0 (v := .bool (hasT l k)) s rfl fun _ s => ?_;refine pk0 (v := pt b 0) s rfl fun _ s => ?_;refine pk0 (v := pt b 3) s rfl fun _ s => ?_;have hk137 := Blk.butS hB hb117 (fun hq => absurd hq n1);refine pwD s rfl (op_store1 rfl rfl rfl (ptT_one _) Tryz.sizeOf135 hk137 rfl) ?_;rintro _ w133 a132 ⟨hk134, hz135, hg136⟩ s;have hk134' : Blk w133 b 146 #[.string k2, .slice v2.a v2.n v2.c, .int .i64 d2, (ptT (putT l k v N114)), (ptT r)] := hk134;have hz138 := hg136.size;refine pk0 (v := .bool (hasT l k)) s rfl fun _ s => pl_nil <| co_blockN <| co_then <| q2 ?_;refine pk0 (v := pt b 0) s rfl fun _ s => ?_;have hB143 := fbU_at hB125 hg136 (fun hlt => by rcases hSb with hq | hq; exact hq; omega);have hT144 := TreeAt.but hr hb117 (fun q hq => ((dis_symm n5) q hq));have hT145 := hT144.gr hg136 (fun q e => by cases e; exact n2);have hT146 := hT115.gr hg136 (fun q e => by cases e; exact ni121);refine pw s rfl (op_call (args := #[pt b 0]) (R := fun res xw => res = ptT (balT (Tm.nd b (putT l k v N114) k2 v2 d2 r)) ∧ TreeAt xw (balT (Tm.nd b (putT l k v N114) k2 v2 d2 r)) ∧ But (fun q => q ∈ bk (Tm.nd b (putT l k v N114) k2 v2 d2 r)) w133 xw) rfl rfl rfl (by kernel_rfl) (by kernel_rfl) (Tryz.call101 _ _) (balance_any b (putT l k v N114) k2 v2 d2 r w133 ⟨hk134', hT146, hT145⟩ (nd_ap' ni121 n2 no123 n4 di122) av120.1 a2 (by omega) (by omega)) (by rintro e x ⟨rfl, h1, h2⟩; exact ⟨_, rfl, rfl, h1, h2⟩)) ?_;rintro _ w142 a141 ⟨rfl, hT147, hb148⟩ s;have hB149 := fbU_foot hB143 hb148 (fun i hi hS => by simp only [bk, List.mem_cons, List.mem_append] at hS ⊢; rcases hS with h | h | h; exact .inl h; (rcases put_mem a1 h with h | h; omega; exact .inr (.inl h)); exact .inr (.inr h));have hz150 := hb148.size;refine pk0 (v := .bool (hasT l k)) s rfl fun _ s => ?_;refine pk0 (v := (ptT (balT (Tm.nd b (putT l k v N114) k2 v2 d2 r)))) s rfl fun _ s => ?_;refine pk0 (v := .bool (hasT l k)) s rfl fun _ s => q4 ?_;refine co_ret2 s rfl rfl rfl ?_;have q1 : klt k k2 = true := hc31;exact ⟨N114, by rw [putT_l q1, hasT_l q1], by rw [putT_l q1]; exact hT147, by omega, hB149⟩
end Go.Proofs.YtniojcnkjehflaaGreat

/- Package tree, of lists of cells: walk, for an iterator. Conditions: none. -/
namespace Go.Proofs.YtniojcnkjehflaaGreat
open Go.RowKit Go.Shelf
attribute [local go_sem] Oper.semAt_some
set_option linter.unusedVariables false

/-- Only draws lie between. -/
inductive Dr (W : World) : World → Prop
  | o : Dr W W
  | s {X : World} : Dr W X → Dr W X.drew
theorem Dr.tree {W X : World} (h : Dr W X) {t : Tm} (ht : TreeAt W t) : TreeAt X t := by
  induction h with
  | o => exact ht
  | s _ ih => exact ih.keep fun q hq => rfl
end Go.Proofs.YtniojcnkjehflaaGreat

/- Package tree, of lists of cells: what a tree holds, as a rising list. Conditions: none. -/
namespace Go.Proofs.YtniojcnkjehflaaGreat
open Go.RowKit Go.PlainAid
set_option linter.unusedVariables false

theorem tbl_irr : ∀ x : List UInt8, Op.bytesLess x x = false
  | [] => rfl
  | a :: x => by
    have ih := tbl_irr x
    show (decide (a < a) || (a == a && Op.bytesLess x x)) = false
    have h2 : ¬ a < a := fun q => by have : a.toNat < a.toNat := q; omega
    simp [h2, ih]
theorem tbl_cons {a b : UInt8} {x y : List UInt8} : Op.bytesLess (a :: x) (b :: y) = true ↔ a < b ∨ (a = b ∧ Op.bytesLess x y = true) := by
  show (decide (a < b) || (a == b && Op.bytesLess x y)) = true ↔ _
  simp
theorem tbl_trans : ∀ x y z : List UInt8, Op.bytesLess x y = true → Op.bytesLess y z = true → Op.bytesLess x z = true
  | x, [], z, h, _ => by cases x <;> cases h
  | x, _ :: _, [], _, h => by cases h
  | [], _ :: _, _ :: _, _, _ => rfl
  | a :: x, b :: y, c :: z, h1, h2 => by
    rw [tbl_cons] at h1 h2 ⊢
    rcases h1 with h1 | ⟨rfl, h1⟩
    · rcases h2 with h2 | ⟨rfl, h2⟩
      · exact .inl (by have p : a.toNat < b.toNat := h1; have q : b.toNat < c.toNat := h2; show a.toNat < c.toNat; omega)
      · exact .inl h1
    · rcases h2 with h2 | ⟨rfl, h2⟩
      · exact .inl h2
      · exact .inr ⟨rfl, tbl_trans x y z h1 h2⟩
theorem klt_irr (k : ByteArray) : klt k k = false := tbl_irr _
theorem klt_tr {a b c : ByteArray} (h : klt a b = true) (h2 : klt b c = true) : klt a c = true := tbl_trans _ _ _ h h2
theorem klt_as {a b : ByteArray} (h : klt a b = true) : klt b a = false := by
  cases hb : klt b a with
  | false => rfl
  | true => have := klt_tr h hb; rw [klt_irr] at this; cases this
theorem klt_eq {a b : ByteArray} (h : klt a b = false) (h2 : klt b a = false) : a = b := by
  have h3 := tbl_flip a.toList b.toList
  have e1 : Op.bytesLess a.toList b.toList = false := h
  have e2 : Op.bytesLess b.toList a.toList = false := h2
  rw [e1, e2] at h3
  have h4 : a.toList = b.toList := by simpa using h3
  rw [Go.ByteArray.toList_eq, Go.ByteArray.toList_eq] at h4
  exact Go.WideShapes.bytes_inj h4
abbrev Kv := ByteArray × SlT
def Srt (L : List Kv) : Prop := L.Pairwise (fun a b => klt a.1 b.1 = true)
def insL : List Kv → ByteArray → SlT → List Kv
  | [], k, v => [(k, v)]
  | a :: r, k, v => if klt k a.1 = true then (k, v) :: a :: r else if klt a.1 k = true then a :: insL r k v else (a.1, v) :: r
def hasL : List Kv → ByteArray → Bool
  | [], _ => false
  | a :: r, k => if klt k a.1 = true then false else if klt a.1 k = true then hasL r k else true
def getL : List Kv → ByteArray → SlT
  | [], _ => ⟨none, 0, 0⟩
  | a :: r, k => if klt k a.1 = true then ⟨none, 0, 0⟩ else if klt a.1 k = true then getL r k else a.2
section
variable {k k' : ByteArray} {v v' : SlT} {A B : List Kv} {a : Kv}
theorem insL_l (h : klt k a.1 = true) : insL (A ++ a :: B) k v = insL A k v ++ a :: B := by
  induction A with
  | nil => simp [insL, h]
  | cons c r ih => simp only [List.cons_append, insL, ih]; split <;> (try split) <;> simp
theorem insL_r (h : ∀ c ∈ A, klt c.1 k = true) : insL (A ++ B) k v = A ++ insL B k v := by
  induction A with
  | nil => rfl
  | cons c r ih =>
    have hc := h c (by simp)
    simp only [List.cons_append, insL, klt_as hc, hc, if_true, Bool.false_eq_true, if_false, ih (fun d hd => h d (by simp [hd]))]
theorem hasL_l (h : klt k a.1 = true) : hasL (A ++ a :: B) k = hasL A k := by
  induction A with
  | nil => simp [hasL, h]
  | cons c r ih => simp only [List.cons_append, hasL, ih]
theorem hasL_r (h : ∀ c ∈ A, klt c.1 k = true) : hasL (A ++ B) k = hasL B k := by
  induction A with
  | nil => rfl
  | cons c r ih =>
    have hc := h c (by simp)
    simp only [List.cons_append, hasL, klt_as hc, hc, if_true, Bool.false_eq_true, if_false, ih (fun d hd => h d (by simp [hd]))]
theorem getL_l (h : klt k a.1 = true) : getL (A ++ a :: B) k = getL A k := by
  induction A with
  | nil => simp [getL, h]
  | cons c r ih => simp only [List.cons_append, getL, ih]
theorem getL_r (h : ∀ c ∈ A, klt c.1 k = true) : getL (A ++ B) k = getL B k := by
  induction A with
  | nil => rfl
  | cons c r ih =>
    have hc := h c (by simp)
    simp only [List.cons_append, getL, klt_as hc, hc, if_true, Bool.false_eq_true, if_false, ih (fun d hd => h d (by simp [hd]))]
theorem insL_mem {L : List Kv} {c : Kv} (h : c ∈ insL L k v) : c.1 = k ∨ ∃ d ∈ L, d.1 = c.1 := by
  induction L with
  | nil => simp [insL] at h; exact .inl (by rw [h])
  | cons a r ih =>
    unfold insL at h
    split at h
    · rcases List.mem_cons.1 h with rfl | h
      · exact .inl rfl
      · exact .inr ⟨c, h, rfl⟩
    · split at h
      · rcases List.mem_cons.1 h with rfl | h
        · exact .inr ⟨c, by simp, rfl⟩
        · rcases ih h with h | ⟨d, hd, e⟩
          · exact .inl h
          · exact .inr ⟨d, by simp [hd], e⟩
      · rcases List.mem_cons.1 h with rfl | h
        · exact .inr ⟨a, by simp, rfl⟩
        · exact .inr ⟨c, by simp [h], rfl⟩
theorem insL_srt {L : List Kv} (h : Srt L) : Srt (insL L k v) := by
  induction L with
  | nil => simp [insL, Srt]
  | cons a r ih =>
    obtain ⟨h1, h2⟩ := List.pairwise_cons.1 h
    unfold insL
    split
    · rename_i q
      exact List.pairwise_cons.2 ⟨fun c hc => by rcases List.mem_cons.1 hc with rfl | hc; exact q; exact klt_tr q (h1 c hc), h⟩
    · split
      · rename_i q
        refine List.pairwise_cons.2 ⟨fun c hc => ?_, ih h2⟩
        rcases insL_mem hc with e | ⟨d, hd, e⟩
        · rw [e]; exact q
        · rw [← e]; exact h1 d hd
      · exact List.pairwise_cons.2 ⟨fun c hc => h1 c hc, h2⟩
end
theorem Srt.parts {A B : List Kv} {a : Kv} (h : Srt (A ++ a :: B)) : Srt A ∧ Srt B ∧ (∀ c ∈ A, klt c.1 a.1 = true) ∧ ∀ c ∈ B, klt a.1 c.1 = true := by
  obtain ⟨h1, h2, h3⟩ := List.pairwise_append.1 h
  obtain ⟨h4, h5⟩ := List.pairwise_cons.1 h2
  exact ⟨h1, h5, fun c hc => h3 c hc a (by simp), h4⟩
theorem has_il : ∀ (t : Tm) (k : ByteArray), Srt (il t) → hasT t k = hasL (il t) k
  | .nil, _, _ => rfl
  | .nd b l k' v' d r, k, h => by
    obtain ⟨hl, hr, h1, h2⟩ := Srt.parts h
    show _ = hasL (il l ++ (k', v') :: il r) k
    by_cases q1 : klt k k' = true
    · rw [hasT_l q1, hasL_l q1, has_il l k hl]
    · have q1' : klt k k' = false := by simpa using q1
      by_cases q2 : klt k' k = true
      · rw [hasT_r q1' q2, hasL_r (fun c hc => klt_tr (h1 c hc) q2), has_il r k hr]
        simp [hasL, q1', q2]
      · have q2' : klt k' k = false := by simpa using q2
        have e := klt_eq q1' q2'; subst e
        rw [hasT_e q1' q2', hasL_r h1]
        simp [hasL, klt_irr]
theorem put_il (k : ByteArray) (v : SlT) (N : Nat) : ∀ t : Tm, Avl t → Srt (il t) → il (putT t k v N) = insL (il t) k v
  | .nil, _, _ => rfl
  | .nd b l k' v' d r, ha, h => by
    obtain ⟨a1, a2, a3, a4, a5⟩ := ha
    obtain ⟨hl, hr, h1, h2⟩ := Srt.parts h
    show _ = insL (il l ++ (k', v') :: il r) k v
    by_cases q1 : klt k k' = true
    · rw [putT_l q1, balT_il (put_avl k v N l a1).1 a2, insL_l (a := (k', v')) q1, put_il k v N l a1 hl]
    · have q1' : klt k k' = false := by simpa using q1
      by_cases q2 : klt k' k = true
      · rw [putT_r q1' q2, balT_il a1 (put_avl k v N r a2).1, insL_r (fun c hc => klt_tr (h1 c hc) q2), put_il k v N r a2 hr]
        simp [insL, q1', q2]
      · have q2' : klt k' k = false := by simpa using q2
        have e := klt_eq q1' q2'; subst e
        rw [putT_e q1' q2', insL_r h1]
        simp [insL, klt_irr, il]
theorem put_srt {t : Tm} {k : ByteArray} {v : SlT} {N : Nat} (ha : Avl t) (h : Srt (il t)) : Srt (il (putT t k v N)) := by rw [put_il k v N t ha h]; exact insL_srt h
end Go.Proofs.YtniojcnkjehflaaGreat

/- Package tree, of lists of cells: a tree that somebody made, as an object: New, zero, Len, Depth, Put, Del. Conditions: at most 80000 keys. -/
namespace Go.Proofs.YtniojcnkjehflaaGreat
open Go.RowKit Go.PlainAid Go.Shelf
set_option linter.unusedVariables false

/-- A tree that somebody made: it holds L, and tells the depth d; S holds its blocks. -/
def TrO (S : Nat → Prop) (w : World) (tb : Nat) (L : List Kv) (d : Int) : Prop := ∃ t : Tm, Blk w tb 137 #[.bool true, ptT t, .int .i64 (sz t)] ∧ TreeAt w t ∧ tb ∉ bk t ∧ (bk t).Nodup ∧ Avl t ∧ Srt (il t) ∧ il t = L ∧ dp t = d ∧ (∀ q, S q ↔ q = tb ∨ q ∈ bk t)
section
variable {S S' D : Nat → Prop} {w x : World} {tb N : Nat} {L : List Kv} {d : Int}
theorem TrO.ofS (h : TrO S w tb L d) : ∀ q, S q → q < w.heap.size := fun q hq => by
  obtain ⟨t, h1, h2, _, _, _, _, _, _, h9⟩ := h
  rcases (h9 q).1 hq with rfl | h
  · exact h1.lt
  · exact h2.lt q h
theorem TrO.keep (h : TrO S w tb L d) (hk : ∀ q, S q → x.heap[q]? = w.heap[q]?) : TrO S x tb L d := by
  obtain ⟨t, h1, h2, h3, h4, h5, h6, h7, h8, h9⟩ := h
  refine ⟨t, ?_, h2.keep fun q hq => hk q ((h9 q).2 (.inr hq)), h3, h4, h5, h6, h7, h8, h9⟩
  unfold Blk at h1 ⊢
  rw [hk tb ((h9 tb).2 (.inl rfl))]; exact h1
theorem TrO.gr {row : Option Nat} (h : TrO S w tb L d) (hg : w.grownBy x row) (hr : ∀ k, row = some k → ¬ S k) : TrO S x tb L d :=
  h.keep fun q hq => hg.block q (h.ofS q hq) (fun e => hr q e.symm hq)
theorem TrO.but (h : TrO S w tb L d) (hb : But D w x) (ha : ∀ q, D q → S q → False) : TrO S x tb L d :=
  h.keep fun q hq => hb.block q (h.ofS q hq) (fun hd => ha q hd hq)
theorem TrO.below {n0 : Nat} (h : TrO S w tb L d) (hb : Below n0 w x) (hn : ∀ q, S q → q < n0) : TrO S x tb L d := h.keep fun q hq => hb.block q (hn q hq)
theorem TrO.srt (h : TrO S w tb L d) : Srt L := by obtain ⟨t, h1, h2, h3, h4, h5, h6, h7, h8, h9⟩ := h; rw [← h7]; exact h6
theorem blk_set {T : TypeId} {cs : Array Value} (h : Blk w N T cs) (i : Nat) (hi : i < cs.size) (v : Value) : Blk (w.setCell ⟨N, i, none⟩ v) N T (cs.set i v) := by
  have hl := h.lt
  unfold Blk at h ⊢
  unfold World.setCell
  simp [Array.getElem?_modify, h, Array.setIfInBounds, hi]
end
theorem But.setB {S : Nat → Prop} {w x : World} {b i : Nat} (h : But S w x) (hb : S b) (v : Value) : But S w (x.setCell ⟨b, i, none⟩ v) := h.setCell (p := ⟨b, i, none⟩) (fun _ => hb) v
theorem TreeAt.set {w : World} {t : Tm} {b i : Nat} {v : Value} (h : TreeAt w t) (hb : b ∉ bk t) : TreeAt (w.setCell ⟨b, i, none⟩ v) t :=
  h.keep fun q hq => Below.heap_setCell _ _ _ _ (fun e => hb (by have e' : q = b := e; rw [← e']; exact hq))
theorem ptT_ptr (t : Tm) : ∃ q, ptT t = .pointer q := by cases t with | nil => exact ⟨_, rfl⟩ | nd b l k v d r => exact ⟨_, rfl⟩
set_option maxRecDepth 100000
set_option maxHeartbeats 2000000
theorem zero_made (tb : Nat) (p q : Value) (w : World) (h : Blk w tb 137 #[.bool true, p, q]) : Calls Tryz.prog 83 #[pt tb 0] w fun e w' => e = .returned (.bool false) ∧ w = w' := by
  have c0 : w.cell? ⟨tb, 0, none⟩ = some (.bool true) := h.cell (k := 0) rfl
  go_enter Tryz.func83, Tryz.ntmps83
  go_wp2
  go_ret
  exact ⟨rfl, rfl⟩
theorem tput_any (S : Nat → Prop) (w : World) (tb : Nat) (L : List Kv) (d : Int) (k : ByteArray) (v : SlT) (h : TrO S w tb L d) (hL : L.length ≤ 80000) :
    Calls Tryz.prog 82 #[pt tb 0, .string k, .slice v.a v.n v.c] w fun e w' => ∃ (d' : Int) (S' : Nat → Prop), e = .returned (.bool (hasL L k)) ∧ TrO S' w' tb (insL L k v) d' ∧ Grew S S' w w' := by
  obtain ⟨t, h1, h2, h3, h4, h5, h6, rfl, h8, h9⟩ := h
  rw [il_len] at hL
  have c1 : w.cell? ⟨tb, 1, none⟩ = some (ptT t) := h1.cell (k := 1) rfl
  have H1 := Lib.hid h1; have H2 := Lib.hid h2; have H3 := Lib.hid h3; have H4 := Lib.hid h4; have H5 := Lib.hid h5; have H6 := Lib.hid h6; have H8 := Lib.hid h8; have H9 := Lib.hid h9; clear h1 h2 h3 h4 h5 h6 h8 h9
  go_enter Tryz.func82, Tryz.ntmps82
  go_wp2_with fail
  refine (zero_made tb _ _ _ H1.out).mono ?_
  rintro e w1 ⟨rfl, rfl⟩
  go_wp2_with fail
  refine (put_any t k v _ H2.out H4.out H5.out (by omega)).mono ?_
  rintro e w1 ⟨N, rfl, hT, hN, hb⟩
  have k1 : Blk w1 tb 137 #[.bool true, ptT t, .int .i64 (sz t)] := Blk.butS H1.out hb H3.out
  have hlt := H1.out.lt
  have hnd : Hid (tb ∉ bk (putT t k v N)) := Lib.hid fun hq => by rcases put_mem H5.out hq with h | h; omega; exact H3.out h
  obtain ⟨pq, hpq⟩ := ptT_ptr (putT t k v N)
  have HPQ := Lib.hid hpq
  have k2 := blk_set k1 1 (by simp) (.pointer pq)
  have k3 := blk_set k2 2 (by simp) (.int .i64 ((sz t : Int) + 1))
  have d1 : w1.cell? ⟨tb, 1, none⟩ = some (ptT t) := k1.cell (k := 1) rfl
  have d1f := k1.frozen 1
  have d2 : (w1.setCell ⟨tb, 1, none⟩ (.pointer pq)).cell? ⟨tb, 2, none⟩ = some (.int .i64 (sz t)) := k2.cell (k := 2) rfl
  have d2f := k2.frozen 2
  have hsz := put_sz k v N t H5.out
  have K2 := Lib.hid k2; have K3 := Lib.hid k3; have HT := Lib.hid hT; have HB := Lib.hid hb; have HN := Lib.hid hN; have HS := Lib.hid hsz
  clear k1 k2 k3 hT hb hN hsz hlt
  have hfin : Hid (∀ (x : World) (s : Value), Blk x tb 137 #[.bool true, ptT (putT t k v N), .int .i64 (sz (putT t k v N))] → TreeAt x (putT t k v N) → But (fun q => q = tb ∨ q ∈ bk t) w x → ∃ (d' : Int) (S' : Nat → Prop), TrO S' x tb (insL (il t) k v) d' ∧ Grew S S' w x) := Lib.hid fun x s hx hy hz =>
    ⟨_, fun q => q = tb ∨ q ∈ bk (putT t k v N), ⟨_, hx, hy, hnd.out, put_nd H5.out H4.out (fun hq => by have := TreeAt.lt H2.out _ hq; have := HN.out; omega), (put_avl k v N t H5.out).1, put_srt H5.out H6.out, put_il k v N t H5.out H6.out, rfl, fun q => Iff.rfl⟩,
      fun q hq => by
        rcases hq with rfl | hq
        · exact .inl ((H9.out _).2 (.inl rfl))
        · rcases put_mem H5.out hq with rfl | h
          · exact .inr HN.out
          · exact .inl ((H9.out _).2 (.inr h)),
      hz.mono fun q _ hq => (H9.out q).2 hq⟩
  have HB2 : Hid (But (fun q => q = tb ∨ q ∈ bk t) w w1) := Lib.hid (HB.out.mono fun q _ hq => .inr hq)
  rw [hpq]; clear hpq
  cases hh : hasT t k with
  | true =>
    go_wp2
    go_ret
    have hs : sz (putT t k v N) = sz t := by have := HS.out; rw [hh] at this; simpa using this
    obtain ⟨d', S', q1, q2⟩ := hfin.out _ (.bool true) (by have := K2.out; rw [hs, HPQ.out]; exact this) (HT.out.set hnd.out) (HB2.out.setB (.inl rfl) _)
    exact ⟨d', S', by rw [← has_il t k H6.out, hh]; rfl, q1, q2⟩
  | false =>
    go_wp2
    go_ret
    have hs : ((sz (putT t k v N) : Nat) : Int) = (sz t : Int) + 1 := by have := HS.out; rw [hh] at this; simp at this; omega
    obtain ⟨d', S', q1, q2⟩ := hfin.out _ (.bool true) (by have := K3.out; rw [hs, HPQ.out]; exact this) ((HT.out.set hnd.out).set hnd.out) ((HB2.out.setB (.inl rfl) _).setB (.inl rfl) _)
    exact ⟨d', S', by rw [← has_il t k H6.out, hh]; rfl, q1, q2⟩
end Go.Proofs.YtniojcnkjehflaaGreat

/- Package tree, of lists of cells: New, Get; what one that nobody made answers. Conditions: none. -/
namespace Go.Proofs.YtniojcnkjehflaaGreat
open Go.RowKit Go.PlainAid Go.Shelf
set_option linter.unusedVariables false
set_option maxRecDepth 100000
set_option maxHeartbeats 2000000
theorem tnew_any (w : World) : Calls Tryz.prog 44 #[] w fun e w' => ∃ (S : Nat → Prop), e = .returned (pt w.heap.size 0) ∧ TrO S w' w.heap.size [] 0 ∧ (∀ q, S q → w.heap.size ≤ q) ∧ Below w.heap.size w w' := by
  go_enter Tryz.func44, Tryz.ntmps44
  go_wp2
  go_ret
  exact ⟨fun q => q = w.heap.size, rfl, ⟨.nil, World.alloc_heap_new w _, trivial, by simp [bk], by simp [bk], trivial, by simp [il, Srt], rfl, rfl, fun q => by simp [bk]⟩, fun q h => by rw [h]; exact Nat.le_refl _, (Below.refl _ w).alloc (Nat.le_refl _) _⟩
theorem ptT_nl : ptT .nil = .pointer none := rfl
theorem ptT_nd (b : Nat) (l : Tm) (k : ByteArray) (v : SlT) (d : Int) (r : Tm) : ptT (.nd b l k v d r) = pt b 0 := rfl
theorem getL_il : ∀ (b : Nat) (l : Tm) (k' : ByteArray) (v' : SlT) (d : Int) (r : Tm) (k : ByteArray), Srt (il (.nd b l k' v' d r)) →
    Srt (il l) ∧ Srt (il r) ∧ (klt k k' = true → getL (il (.nd b l k' v' d r)) k = getL (il l) k ∧ hasL (il (.nd b l k' v' d r)) k = hasL (il l) k) ∧
    (klt k k' = false → klt k' k = true → getL (il (.nd b l k' v' d r)) k = getL (il r) k ∧ hasL (il (.nd b l k' v' d r)) k = hasL (il r) k) ∧
    (klt k k' = false → klt k' k = false → getL (il (.nd b l k' v' d r)) k = v' ∧ hasL (il (.nd b l k' v' d r)) k = true) := fun b l k' v' d r k h => by
  obtain ⟨hl, hr, h1, h2⟩ := Srt.parts h
  show Srt (il l) ∧ Srt (il r) ∧ (klt k k' = true → getL (il l ++ (k', v') :: il r) k = getL (il l) k ∧ hasL (il l ++ (k', v') :: il r) k = hasL (il l) k) ∧ (klt k k' = false → klt k' k = true → getL (il l ++ (k', v') :: il r) k = getL (il r) k ∧ hasL (il l ++ (k', v') :: il r) k = hasL (il r) k) ∧ (klt k k' = false → klt k' k = false → getL (il l ++ (k', v') :: il r) k = v' ∧ hasL (il l ++ (k', v') :: il r) k = true)
  refine ⟨hl, hr, fun q => ⟨getL_l (a := (k', v')) q, hasL_l (a := (k', v')) q⟩, fun q1 q2 => ?_, fun q1 q2 => ?_⟩
  · rw [getL_r (fun c hc => klt_tr (h1 c hc) q2), hasL_r (fun c hc => klt_tr (h1 c hc) q2)]
    simp [getL, hasL, q1, q2]
  · have e := klt_eq q1 q2; subst e
    rw [getL_r h1, hasL_r h1]
    simp [getL, hasL, klt_irr]
theorem tget_any (S : Nat → Prop) (w : World) (tb : Nat) (L : List Kv) (d : Int) (k : ByteArray) (h : TrO S w tb L d) :
    Calls Tryz.prog 49 #[pt tb 0, .string k] w fun e w' => e = .returned (.tuple #[.slice (getL L k).a (getL L k).n (getL L k).c, .bool (hasL L k)]) ∧ w = w' := by
  obtain ⟨t, h1, h2, h3, h4, h5, h6, rfl, h8, h9⟩ := h
  have c1 : w.cell? ⟨tb, 1, none⟩ = some (ptT t) := h1.cell (k := 1) rfl
  obtain ⟨L, hLL⟩ : ∃ L, L = il t := ⟨_, rfl⟩
  rw [← hLL] at h6 ⊢
  have H1 := Lib.hid h1; have H2 := Lib.hid h2; have H6 := Lib.hid h6; have HLL := Lib.hid hLL; clear h1 h2 h3 h4 h5 h6 h8 h9 hLL
  go_enter Tryz.func49, Tryz.ntmps49
  go_wp2_with fail
  refine (zero_made tb _ _ _ H1.out).mono ?_
  rintro e w1 ⟨rfl, rfl⟩
  go_wp2
  go_loopg [7] (sz t + 1) (fun g s7 wr => ∃ c : Tm, s7 = ptT c ∧ wr = w ∧ TreeAt w c ∧ Srt (il c) ∧ (sz c : Int) + 1 ≤ g ∧ getL (il c) k = getL L k ∧ hasL (il c) k = hasL L k)
  case atStart => exact ⟨t, rfl, rfl, H2.out, HLL.out ▸ H6.out, by omega, by rw [HLL.out], by rw [HLL.out]⟩
  case round =>
    obtain ⟨c, rfl, rfl, hc, hs, hg, hgl, hhl⟩ := hrel
    cases c with
    | nil =>
      simp only [ptT_nl]
      have HG := Lib.hid hgl; have HH := Lib.hid hhl; clear hgl hhl hg hs hc
      go_wp2
      go_ret2
      exact ⟨by rw [← HG.out, ← HH.out]; rfl, rfl⟩
    | nd b l k' v' d' r =>
      obtain ⟨hB, hl, hr⟩ := hc
      obtain ⟨s1, s2, e1, e2, e3⟩ := getL_il b l k' v' d' r k hs
      have q0 : wr.cell? ⟨b, 0, none⟩ = some (.string k') := hB.cell (k := 0) rfl
      have q1 : wr.cell? ⟨b, 1, none⟩ = some (.slice v'.a v'.n v'.c) := hB.cell (k := 1) rfl
      have q3 : wr.cell? ⟨b, 3, none⟩ = some (ptT l) := hB.cell (k := 3) rfl
      have q4 : wr.cell? ⟨b, 4, none⟩ = some (ptT r) := hB.cell (k := 4) rfl
      have hz : (sz (.nd b l k' v' d' r) : Int) = 1 + sz l + sz r := by simp [sz]
      have hg' : (1 + sz l + sz r : Int) + 1 ≤ gk := by rw [hz] at hg; exact hg
      have HGL := Lib.hid hgl; have HHL := Lib.hid hhl; have HL := Lib.hid hl; have HR := Lib.hid hr; have HS1 := Lib.hid s1; have HS2 := Lib.hid s2; have E1 := Lib.hid e1; have E2 := Lib.hid e2; have E3 := Lib.hid e3
      clear hgl hhl hl hr s1 s2 e1 e2 e3 hB hs hg hz
      simp only [ptT_nd]
      cases x1 : klt k k' with
      | true =>
        have x1' : Op.bytesLess k.toList k'.toList = true := x1
        have X1 := Lib.hid x1; clear x1
        go_wp2
        go_roundg (gk - 1)
        case rel => exact ⟨l, rfl, rfl, HL.out, HS1.out, by omega, by rw [← (E1.out X1.out).1]; exact HGL.out, by rw [← (E1.out X1.out).2]; exact HHL.out⟩
        case measure => omega
      | false =>
        have x1' : Op.bytesLess k.toList k'.toList = false := x1
        have X1 := Lib.hid x1; clear x1
        cases x2 : klt k' k with
        | true =>
          have x2' : (!(Op.bytesLess k.toList k'.toList || k.toList == k'.toList)) = true := by rw [tbl_flip]; simpa [klt] using x2
          have x3 : (k.toList == k'.toList) = false := by rw [x1'] at x2'; simpa using x2'
          have X2 := Lib.hid x2; clear x2
          go_wp2
          go_roundg (gk - 1)
          case rel => exact ⟨r, rfl, rfl, HR.out, HS2.out, by omega, by rw [← (E2.out X1.out X2.out).1]; exact HGL.out, by rw [← (E2.out X1.out X2.out).2]; exact HHL.out⟩
          case measure => omega
        | false =>
          have x2' : (!(Op.bytesLess k.toList k'.toList || k.toList == k'.toList)) = false := by rw [tbl_flip]; simpa [klt] using x2
          have x3 : (k.toList == k'.toList) = true := by rw [x1'] at x2'; simpa using x2'
          have X2 := Lib.hid x2; clear x2
          go_wp2
          go_ret2
          exact ⟨by rw [← HGL.out, ← HHL.out, (E3.out X1.out X2.out).1, (E3.out X1.out X2.out).2]; rfl, rfl⟩
end Go.Proofs.YtniojcnkjehflaaGreat

/- Package tree, of lists of cells: Keys. Conditions: at most 80000 keys. -/
namespace Go.Proofs.YtniojcnkjehflaaGreat
open Go.RowKit Go.Shelf
attribute [local go_sem] Oper.semAt_some
set_option linter.unusedVariables false

theorem own_sliceT {W : World} {base : Nat} {e : TypeId} {size : Nat} {v : Value} {k : Nat} {xs : List Value} (h : W.ownsRow base e size v k xs) : ∃ ao n cap, v = .slice ao n cap := by
  rcases h.2 with ⟨rfl, _⟩ | ⟨g, cap, cur, rfl, _⟩
  · exact ⟨_, _, _, rfl⟩
  · exact ⟨_, _, _, rfl⟩
-- left out here

-- left out here



end Go.Proofs.YtniojcnkjehflaaGreat

/- Package vers: what the program's Right, place, At, Put, Prune answer; rows of their own; what follows of versions that rise. Conditions: at most 900 versions. -/
namespace Go.Proofs.YtniojcnkjehflaaGreat
open Go.RowKit Go.PlainAid
set_option linter.unusedVariables false



/-- A version: timestamp, value, is it gone. -/
abbrev CellT := Int × ByteArray × Bool
def cellE (c : CellT) : List Value := [.int .u64 c.1, .string c.2.1, .bool c.2.2]
def cellOk (c : CellT) : Prop := (Lit.int .u64 c.1).wf = true
section
variable {H : Type} {enc : TypeId × Value → H} {w : World} {base : Nat} {spare : Nat → Bool} {held : Bool}
end

/-- The timestamp at a place. -/
def ts (l : List CellT) (i : Nat) : Int := (l.getD i (0, ByteArray.empty, false)).1
theorem ts_get {l : List CellT} {i : Nat} (h : i < l.length) : ts l i = l[i].1 := by
  simp [ts, List.getD, List.getElem?_eq_getElem h]
/-- Do the timestamps rise, the first one above a? -/
def rises : Int → List CellT → Bool
  | _, [] => true
  | a, c :: r => decide (a < c.1) && rises c.1 r
/-- The last timestamp, a without. -/
def lastTs : Int → List CellT → Int
  | a, [] => a
  | _, c :: r => lastTs c.1 r
theorem rises_snoc : ∀ (a : Int) (l : List CellT) (c : CellT), rises a (l ++ [c]) = (rises a l && decide (lastTs a l < c.1))
  | a, [], c => by show (decide (a < c.1) && true) = (true && decide (a < c.1)); rw [Bool.and_true, Bool.true_and]
  | a, d :: r, c => by
    show (decide (a < d.1) && rises d.1 (r ++ [c])) = ((decide (a < d.1) && rises d.1 r) && decide (lastTs d.1 r < c.1))
    rw [rises_snoc d.1 r c, Bool.and_assoc]
theorem lastTs_snoc : ∀ (a : Int) (l : List CellT) (c : CellT), lastTs a (l ++ [c]) = c.1
  | _, [], _ => rfl
  | _, d :: r, c => lastTs_snoc d.1 r c
theorem lastTs_ts (a : Int) (l : List CellT) (h : 0 < l.length) : lastTs a l = ts l (l.length - 1) := by
  obtain ⟨r, c, rfl⟩ : ∃ r c, l = r ++ [c] := ⟨_, _, (List.dropLast_concat_getLast (by intro e; subst e; simp at h)).symm⟩
  rw [lastTs_snoc, ts_get (by simp)]; simp
theorem rises_lt : ∀ (a : Int) (l : List CellT), rises a l = true → ∀ i j, i < j → j < l.length → a < ts l i ∧ ts l i < ts l j
  | a, [], _, i, j, _, hj => absurd hj (by simp)
  | a, c :: r, h, i, j, hij, hj => by
    simp only [rises, Bool.and_eq_true, decide_eq_true_eq] at h
    obtain ⟨h1, h2⟩ := h
    have key : ∀ k, k < r.length → c.1 < ts r k := fun k hk => by
      cases k with
      | zero => cases r with
        | nil => simp at hk
        | cons d r => simp only [rises, Bool.and_eq_true, decide_eq_true_eq] at h2; exact h2.1
      | succ k => exact Int.lt_trans (rises_lt c.1 r h2 0 (k + 1) (by omega) hk).1 (rises_lt c.1 r h2 0 (k + 1) (by omega) hk).2
    obtain ⟨j, rfl⟩ : ∃ k, j = k + 1 := ⟨j - 1, by omega⟩
    have hj' : j < r.length := by simpa using hj
    cases i with
    | zero => exact ⟨h1, key j hj'⟩
    | succ i =>
      have := rises_lt c.1 r h2 i j (by omega) hj'
      exact ⟨Int.lt_trans h1 this.1, this.2⟩

/-- The last place below k whose timestamp is not above t; -1 without. -/
def down (l : List CellT) (t : Int) : Nat → Int
  | 0 => -1
  | k + 1 => if ts l k ≤ t then k else down l t k
def lastI (l : List CellT) (t : Int) : Int := down l t l.length
theorem down_at {l : List CellT} {t : Int} (k : Nat) : ∀ (n : Nat), k ≤ n → (∀ j, j < k → ts l j ≤ t) → (∀ j, k ≤ j → j < n → t < ts l j) → down l t n = (k : Int) - 1
  | 0, h, _, _ => by obtain rfl : k = 0 := by omega
                     rfl
  | n + 1, h, h1, h2 => by
    by_cases hk : k ≤ n
    · have := h2 n hk (by omega)
      rw [down, if_neg (by omega)]
      exact down_at k n hk h1 (fun j hj hjn => h2 j hj (by omega))
    · obtain rfl : k = n + 1 := by omega
      have := h1 n (by omega)
      rw [down, if_pos this]; omega
theorem down_bd (l : List CellT) (t : Int) : ∀ n, -1 ≤ down l t n ∧ down l t n < n ∧ (0 ≤ down l t n → ts l (down l t n).toNat ≤ t)
  | 0 => by simp [down]
  | n + 1 => by
    rw [down]
    split
    · refine ⟨by omega, by omega, fun _ => ?_⟩
      rw [Int.toNat_natCast]; assumption
    · have := down_bd l t n
      exact ⟨this.1, by omega, this.2.2⟩



theorem takeV_snoc {α : Type} {l : List α} {i : Nat} (h : i < l.length) : l.take (i + 1) = l.take i ++ [l[i]] := by
  rw [List.take_add_one, List.getElem?_eq_getElem h]; rfl
theorem take_rises {l : List CellT} {i : Nat} (h : i < l.length) : rises 0 (l.take (i + 1)) = (rises 0 (l.take i) && decide (lastTs 0 (l.take i) < l[i].1)) := by
  rw [takeV_snoc h, rises_snoc]
theorem take_last {l : List CellT} {i : Nat} (h : i < l.length) : lastTs 0 (l.take (i + 1)) = l[i].1 := by
  rw [takeV_snoc h, lastTs_snoc]
theorem rises_take {l : List CellT} (i : Nat) (h : rises 0 (l.take i) = false) : rises 0 l = false := by
  have key : ∀ (a : Int) (x y : List CellT), rises a (x ++ y) = true → rises a x = true := by
    intro a x; induction x generalizing a with
    | nil => intro y _; rfl
    | cons c x ih => intro y h; simp only [List.cons_append, rises, Bool.and_eq_true] at h ⊢; exact ⟨h.1, ih _ y h.2⟩
  rw [← List.take_append_drop i l]
  cases e : rises 0 (l.take i ++ l.drop i) with
  | false => rfl
  | true => rw [key _ _ _ e] at h; cases h

set_option maxRecDepth 100000 in
set_option maxHeartbeats 400000 in
theorem right_any (v : Value) (l : List CellT) (w : World) (hs : SliceOf cellE 3 w v l) (hw : ∀ c ∈ l, cellOk c) :
    Calls Tryz.prog 96 #[v] w fun e w' => e = .returned (.bool (rises 0 l)) ∧ Below w.heap.size w w' := by
  obtain ⟨ao, cap, rfl, hcap, hcm, _, hcell⟩ := hs
  have HC := Lib.hid hcell; clear hcell
  go_enter Tryz.func96, Tryz.ntmps96
  go_wp2
  go_loopg [3, 8] (l.length + 1) (fun g s3 s8 wr => ∃ i : Nat, s8 = .int .i64 i ∧ i ≤ l.length ∧ l.length + 1 ≤ i + g ∧ s3 = .int .u64 (lastTs 0 (l.take i)) ∧ rises 0 (l.take i) = true ∧ Below w.heap.size w wr)
  case atStart => exact ⟨0, rfl, by omega, by omega, rfl, rfl, Below.refl _ _⟩
  case round =>
    obtain ⟨i, rfl, hi, hg, rfl, hri, hbel⟩ := hrel
    have HB := Lib.hid hbel; have hsz := hbel.size; have HRI := Lib.hid hri
    clear hbel hri
    by_cases hlt : i < l.length
    · obtain ⟨b, off, rfl, hr⟩ := HC.out i hlt
      have hr1 : wr.rangeAt b (off + i * 3) (cellE l[i]) := fun j u hu => cell_below HB.out (hr j u hu)
      have h1 := take_rises hlt
      have h2 := take_last hlt
      obtain ⟨c, hc⟩ : ∃ c, c = l[i] := ⟨_, rfl⟩
      rw [← hc] at hr1 h1 h2
      obtain ⟨p, hp⟩ : ∃ p, p = lastTs 0 (l.take i) := ⟨_, rfl⟩
      rw [← hp] at h1
      rw [← hp]
      have H1 := Lib.hid h1; have H2 := Lib.hid h2; have HR := Lib.hid hr1
      clear hr h1 h2 hr1 hc hp
      by_cases hlo : p < c.1
      · go_wp2_with (refine wpList_load_mid rfl 143 (.tmp 10) rfl b (off + i * 3) rfl (cellE c) _ HR.out Tryz.underlying143 rfl (by kernel_rfl) ?_; unfold cellE)
        go_roundg (gk - 1)
        case rel => exact ⟨i + 1, by go_num, by omega, by omega, by rw [H2.out], by rw [H1.out, HRI.out, decide_eq_true hlo]; rfl, HB.out.alloc hsz _⟩
        case measure => omega
      · have HF := Lib.hid (rises_take (i + 1) (by rw [H1.out, decide_eq_false hlo, Bool.and_false]))
        go_wp2_with (refine wpList_load_mid rfl 143 (.tmp 10) rfl b (off + i * 3) rfl (cellE c) _ HR.out Tryz.underlying143 rfl (by kernel_rfl) ?_; unfold cellE)
        go_ret
        exact ⟨by rw [HF.out]; rfl, HB.out.alloc hsz _⟩
    · have HT := Lib.hid (show rises 0 l = true by have := HRI.out; rwa [List.take_of_length_le (by omega)] at this)
      go_wp2
      go_ret
      exact ⟨by rw [HT.out]; rfl, HB.out⟩

set_option maxRecDepth 100000 in
set_option maxHeartbeats 400000 in
theorem lastOf_any (v : Value) (l : List CellT) (t : Int) (w : World) (hs : SliceOf cellE 3 w v l) :
    Calls Tryz.prog 97 #[v, .int .u64 t] w fun e w' => e = .returned (.int .i64 (lastI l t)) ∧ w = w' := by
  obtain ⟨ao, cap, rfl, hcap, hcm, _, hcell⟩ := hs
  have HC := Lib.hid hcell; clear hcell
  go_enter Tryz.func97, Tryz.ntmps97
  go_wp2
  go_loopg [5] (l.length + 1) (fun g s5 wr => ∃ k : Nat, s5 = .int .i64 ((k : Int) - 1) ∧ k ≤ l.length ∧ k + 1 ≤ g ∧ lastI l t = down l t k ∧ w = wr)
  case atStart => exact ⟨l.length, rfl, by omega, by omega, rfl, rfl⟩
  case round =>
    obtain ⟨k, rfl, hk, hg, hd, rfl⟩ := hrel
    have HD := Lib.hid hd; clear hd
    by_cases h0 : 0 < k
    · obtain ⟨i, rfl⟩ : ∃ i, k = i + 1 := ⟨k - 1, by omega⟩
      have hi : i < l.length := by omega
      obtain ⟨b, off, rfl, hr⟩ := HC.out i hi
      have hc := hr 0 _ rfl
      rw [Nat.add_zero] at hc
      have hix : ((i + 1 : Nat) : Int) - 1 = (i : Int) := by omega
      have hx := ts_get hi
      obtain ⟨x, hxe⟩ : ∃ x, x = l[i].1 := ⟨_, rfl⟩
      rw [← hxe] at hc hx
      have HX := Lib.hid hx
      clear hr hx hxe
      by_cases hle : x ≤ t
      · have HF := Lib.hid (show lastI l t = i by rw [HD.out, down, HX.out, if_pos hle])
        clear HD
        go_wp2
        go_ret
        exact ⟨ret_int (by rw [HF.out]; omega), rfl⟩
      · have HF := Lib.hid (show lastI l t = down l t i by rw [HD.out, down, HX.out, if_neg hle])
        clear HD
        go_wp2
        go_roundg (gk - 1)
        case rel => exact ⟨i, rfl, by omega, by omega, HF.out, rfl⟩
        case measure => omega
    · obtain rfl : k = 0 := by omega
      have HF := Lib.hid (show lastI l t = -1 from HD.out)
      have hneg : ((0 : Nat) : Int) - 1 = -1 := by omega
      clear HD
      go_wp2
      go_ret
      exact ⟨by rw [HF.out]; rfl, rfl⟩



set_option maxRecDepth 100000 in
set_option maxHeartbeats 800000 in
theorem place_rising (v : Value) (l : List CellT) (t : Int) (w : World) (hs : SliceOf cellE 3 w v l) (hw : ∀ c ∈ l, cellOk c) (hr : rises 0 l = true) :
    Calls Tryz.prog 84 #[v, .int .u64 t] w fun e w' => e = .returned (.int .i64 (lastI l t)) ∧ Below w.heap.size w w' := by
  have HS := Lib.hid hs; have HW := Lib.hid hw; have HR := Lib.hid hr
  obtain ⟨ao, cap, rfl, hcap, hcm, _, hcell⟩ := hs
  have HC := Lib.hid hcell; clear hcell hr
  go_enter Tryz.func84, Tryz.ntmps84
  go_wp2
  refine wp_scope_jumps 0 (fun a' w' => ∃ (low high : Nat) (u7 u16 u17 u18 u19 u20 u21 u22 u23 u24 u25 u26 u27 u28 u29 u30 u31 u32 u33 u34 : Value), a' = { tmps := #[.slice ao l.length cap, .int .u64 t, undef, undef, .int .i64 0, .int .i64 low, .int .i64 high, u7, .slice ao l.length cap, .bool true, .bool false, undef, undef, undef, .slice ao l.length cap, .int .i64 l.length, u16, u17, u18, u19, u20, u21, u22, u23, u24, u25, u26, u27, u28, u29, u30, u31, u32, u33, u34, undef, undef], defers := [] } ∧ low ≤ high ∧ high ≤ l.length ∧ (∀ j, j < low → ts l j ≤ t) ∧ (∀ j, high ≤ j → j < l.length → t < ts l j) ∧ Below w.heap.size w w')
    (fun a' _ => (intOf (a'.tmps.getD 6 undef) - intOf (a'.tmps.getD 5 undef)).toNat) rfl ?_ ?_
  · go_wp2_with fail
    refine (right_any _ _ _ HS.out HW.out).mono ?_
    rintro e w1 ⟨rfl, hb1⟩
    rw [HR.out]
    have HB := Lib.hid hb1; clear hb1
    go_wp2_with fail
    go_step3
    have H1 : Hid (∀ j, j < 0 → ts l j ≤ t) := fun j hj => absurd hj (by omega)
    have H2 : Hid (∀ j, l.length ≤ j → j < l.length → t < ts l j) := fun j h1 h2 => absurd h1 (by omega)
    by_cases hlt : 0 < l.length
    · have hmid : l.length / 2 < l.length := by omega
      obtain ⟨b, off, rfl, hrr⟩ := HC.out _ hmid
      obtain ⟨mid, hm⟩ : ∃ mid, mid = l.length / 2 := ⟨_, rfl⟩
      have hc := cell_below HB.out (hrr 0 _ rfl)
      rw [Nat.add_zero] at hc
      have hx := ts_get hmid
      obtain ⟨x, hxe⟩ : ∃ x, x = (l[l.length / 2]'hmid).1 := ⟨_, rfl⟩
      rw [← hxe] at hc hx
      rw [← hm] at hx
      have HX := Lib.hid hx; have HM := Lib.hid hm
      have hml : 0 ≤ mid := by omega
      have hmh : mid < l.length := by omega
      have hmL : mid < l.length := by omega
      clear hrr hx hxe hm hmid
      have hup : ∀ i j, i < j → j < l.length → ts l i < ts l j := fun i j hij hj => (rises_lt 0 l HR.out i j hij hj).2
      have HUP := Lib.hid hup; clear hup
      by_cases hle : x ≤ t
      · go_wp2
        go_step3
        have e1 : (l.length : Int) / 2 + 1 = ((mid + 1 : Nat) : Int) := by have := HM.out; omega
        rw [e1]
        refine ⟨rfl, ⟨mid + 1, l.length, _, _, _, _, _, _, _, _, _, _, _, _, _, _, _, _, _, _, _, _, rfl, ?_⟩⟩
        have := HX.out
        refine ⟨by omega, by omega, fun j hj => ?_, H2.out, HB.out⟩
        by_cases hjm : j = mid
        · subst hjm; omega
        · have := HUP.out j mid (by omega) hmL; omega
      · go_wp2
        go_step3
        have e1 : (l.length : Int) / 2 = ((mid : Nat) : Int) := by have := HM.out; omega
        rw [e1]
        refine ⟨rfl, ⟨0, mid, _, _, _, _, _, _, _, _, _, _, _, _, _, _, _, _, _, _, _, _, rfl, ?_⟩⟩
        have := HX.out
        refine ⟨by omega, by omega, H1.out, fun j hj hjl => ?_, HB.out⟩
        by_cases hjm : j = mid
        · subst hjm; omega
        · have := HUP.out mid j (by omega) hjl; omega
    · have HF := Lib.hid (show lastI l t = (0 : Int) - 1 from down_at 0 l.length (by omega) H1.out (fun j hj => H2.out j (by omega)))
      go_wp2
      simp only [Exit.jump]
      go_ret
      exact ⟨ret_int (by have := HF.out; omega), HB.out⟩
  · rintro a' w' ⟨low, high, u7, u16, u17, u18, u19, u20, u21, u22, u23, u24, u25, u26, u27, u28, u29, u30, u31, u32, u33, u34, rfl, hlh, hhigh, h1, h2, hbel⟩
    have HB := Lib.hid hbel; have H1 := Lib.hid h1; have H2 := Lib.hid h2
    clear hbel h1 h2
    by_cases hlt : low < high
    · have hmid : low + (high - low) / 2 < l.length := by omega
      obtain ⟨b, off, rfl, hrr⟩ := HC.out _ hmid
      obtain ⟨mid, hm⟩ : ∃ mid, mid = low + (high - low) / 2 := ⟨_, rfl⟩
      have hc := cell_below HB.out (hrr 0 _ rfl)
      rw [Nat.add_zero] at hc
      have hx := ts_get hmid
      obtain ⟨x, hxe⟩ : ∃ x, x = (l[low + (high - low) / 2]'hmid).1 := ⟨_, rfl⟩
      rw [← hxe] at hc hx
      rw [← hm] at hx
      have HX := Lib.hid hx; have HM := Lib.hid hm
      have hml : low ≤ mid := by omega
      have hmh : mid < high := by omega
      have hmL : mid < l.length := by omega
      clear hrr hx hxe hm hmid
      have hup : ∀ i j, i < j → j < l.length → ts l i < ts l j := fun i j hij hj => (rises_lt 0 l HR.out i j hij hj).2
      have HUP := Lib.hid hup; clear hup
      by_cases hle : x ≤ t
      · go_wp2
        go_step3
        have e1 : (low : Int) + ((high : Int) - (low : Int)) / 2 + 1 = ((mid + 1 : Nat) : Int) := by have := HM.out; omega
        rw [e1]
        refine ⟨rfl, ⟨mid + 1, high, _, _, _, _, _, _, _, _, _, _, _, _, _, _, _, _, _, _, _, _, rfl, ?_⟩, ?_⟩
        rotate_left
        · (simp [intOf] <;> omega)
        have := HX.out
        refine ⟨by omega, by omega, fun j hj => ?_, H2.out, HB.out⟩
        by_cases hjm : j = mid
        · subst hjm; omega
        · have := HUP.out j mid (by omega) hmL; omega
      · go_wp2
        go_step3
        have e1 : (low : Int) + ((high : Int) - (low : Int)) / 2 = ((mid : Nat) : Int) := by have := HM.out; omega
        rw [e1]
        refine ⟨rfl, ⟨low, mid, _, _, _, _, _, _, _, _, _, _, _, _, _, _, _, _, _, _, _, _, rfl, ?_⟩, ?_⟩
        rotate_left
        · (simp [intOf] <;> omega)
        have := HX.out
        refine ⟨by omega, by omega, H1.out, fun j hj hjl => ?_, HB.out⟩
        by_cases hjm : j = mid
        · subst hjm; omega
        · have := HUP.out mid j (by omega) hjl; omega
    · have HF := Lib.hid (show lastI l t = (low : Int) - 1 from down_at low l.length (by omega) H1.out (fun j hj => H2.out j (by omega)))
      go_wp2
      simp only [Exit.jump]
      go_ret
      exact ⟨ret_int (by have := HF.out; omega), HB.out⟩

theorem place_any (v : Value) (l : List CellT) (t : Int) (w : World) (hs : SliceOf cellE 3 w v l) (hw : ∀ c ∈ l, cellOk c) :
    Calls Tryz.prog 84 #[v, .int .u64 t] w fun e w' => e = .returned (.int .i64 (lastI l t)) ∧ Below w.heap.size w w' := by
  cases hr : rises 0 l with
  | true => exact place_rising v l t w hs hw hr
  | false =>
    have HS := Lib.hid hs; have HW := Lib.hid hw; have HR := Lib.hid hr
    clear hs hw hr
    go_enter Tryz.func84, Tryz.ntmps84
    go_wp2
    go_step3
    go_wp2_with fail
    refine (right_any _ _ _ HS.out HW.out).mono ?_
    rintro e w1 ⟨rfl, hb1⟩
    rw [HR.out]
    have HB := Lib.hid hb1; have HS1 := Lib.hid (HS.out.below hb1); clear hb1
    go_wp2_with fail
    refine (lastOf_any _ _ _ _ HS1.out).mono ?_
    rintro e w2 ⟨rfl, rfl⟩
    go_wp2
    rw [Exit.noGoto_ret]
    go_ret
    exact ⟨rfl, HB.out⟩
end Go.Proofs.YtniojcnkjehflaaGreat

/- Package vers: At, Put, Prune; what follows of versions that rise. Conditions: at most 900 versions. -/
namespace Go.Proofs.YtniojcnkjehflaaGreat
open Go.RowKit Go.PlainAid
set_option linter.unusedVariables false



def cellAt (l : List CellT) (i : Nat) : CellT := l.getD i (0, ByteArray.empty, false)
theorem cellAt_get {l : List CellT} {i : Nat} (h : i < l.length) : cellAt l i = l[i] := by
  simp [cellAt, List.getD, List.getElem?_eq_getElem h]
/-- What a key is at a time. -/
def atS (l : List CellT) (t : Int) : ByteArray × Bool :=
  if lastI l t < 0 then (ByteArray.empty, false) else if (cellAt l (lastI l t).toNat).2.2 = true then (ByteArray.empty, false) else ((cellAt l (lastI l t).toNat).2.1, true)
theorem atS_none {l : List CellT} {t : Int} (h : lastI l t < 0) : atS l t = (ByteArray.empty, false) := if_pos h
theorem atS_some {l : List CellT} {t : Int} {k : Nat} (h : lastI l t = k) : atS l t = if (cellAt l k).2.2 = true then (ByteArray.empty, false) else ((cellAt l k).2.1, true) := by
  unfold atS; rw [if_neg (by omega), h, Int.toNat_natCast]

set_option maxRecDepth 100000 in
set_option maxHeartbeats 400000 in
theorem at_any (v : Value) (l : List CellT) (t : Int) (w : World) (hs : SliceOf cellE 3 w v l) (hw : ∀ c ∈ l, cellOk c) :
    Calls Tryz.prog 50 #[v, .int .u64 t] w fun e w' => e = .returned (.tuple #[.string (atS l t).1, .bool (atS l t).2]) ∧ Below w.heap.size w w' := by
  have HS := Lib.hid hs; have HW := Lib.hid hw
  obtain ⟨ao, cap, rfl, hcap, hcm, _, hcell⟩ := hs
  have HC := Lib.hid hcell; clear hcell hw
  have hbd := down_bd l t l.length
  by_cases h0 : lastI l t < 0
  · have HA := Lib.hid (atS_none h0)
    clear hbd
    go_enter Tryz.func50, Tryz.ntmps50
    go_wp2_with fail
    refine (place_any _ _ _ _ HS.out HW.out).mono ?_
    rintro e w1 ⟨rfl, hb1⟩
    have HB := Lib.hid hb1; clear hb1
    go_wp2
    go_ret2
    exact ⟨by rw [HA.out]; rfl, HB.out⟩
  · obtain ⟨k, hk⟩ := Int.eq_ofNat_of_zero_le (show 0 ≤ lastI l t by omega)
    have hkl : k < l.length := by have : lastI l t < l.length := hbd.2.1; omega
    have ha := atS_some hk
    have hg := cellAt_get hkl
    obtain ⟨b, off, rfl, hr⟩ := HC.out k hkl
    obtain ⟨c, hc⟩ : ∃ c, c = l[k] := ⟨_, rfl⟩
    rw [← hc] at hr hg
    rw [hg] at ha
    have HK := Lib.hid hk; have HR := Lib.hid hr
    clear hbd hk hg hc h0 hr
    cases hdel : c.2.2 with
    | true =>
      rw [hdel, if_pos rfl] at ha
      have HA := Lib.hid ha; have HDel := Lib.hid hdel
      clear ha hdel
      go_enter Tryz.func50, Tryz.ntmps50
      go_wp2_with fail
      refine (place_any _ _ _ _ HS.out HW.out).mono ?_
      rintro e w1 ⟨rfl, hb1⟩
      rw [HK.out]
      have k2 := cell_below hb1 (HR.out 2 _ rfl)
      rw [HDel.out] at k2
      have HB := Lib.hid hb1; clear hb1
      go_wp2
      go_ret2
      exact ⟨by rw [HA.out]; rfl, HB.out⟩
    | false =>
      rw [hdel, if_neg (by simp)] at ha
      have HA := Lib.hid ha; have HDel := Lib.hid hdel
      clear ha hdel
      go_enter Tryz.func50, Tryz.ntmps50
      go_wp2_with fail
      refine (place_any _ _ _ _ HS.out HW.out).mono ?_
      rintro e w1 ⟨rfl, hb1⟩
      rw [HK.out]
      have k2 := cell_below hb1 (HR.out 2 _ rfl)
      have k1 := cell_below hb1 (HR.out 1 _ rfl)
      rw [HDel.out] at k2
      have HB := Lib.hid hb1; clear hb1
      go_wp2
      go_ret2
      exact ⟨by rw [HA.out]; rfl, HB.out⟩

theorem info_cell : (Tryz.prog.info? 143).map (fun i => (i.zero, i.size, i.bytes)) = some (some (.agg #[.int .u64 0, .string ByteArray.empty, .bool false]), 3, 32) := by kernel_rfl
theorem cellE_one (l : List CellT) : ∀ y ∈ l, (cellE y).length = 3 ∧ ∀ u ∈ cellE y, u.oneCell' = true := by
  intro y _; exact ⟨rfl, fun u hu => by simp [cellE] at hu; rcases hu with rfl | rfl | rfl <;> rfl⟩

set_option maxRecDepth 100000 in
set_option maxHeartbeats 400000 in
theorem clone_any (v : Value) (l : List CellT) (w : World) (hs : SliceOf cellE 3 w v l) (hl : l.length ≤ 1000) :
    Calls Tryz.prog 94 #[v] w fun e w' => ∃ v', e = .returned v' ∧ w'.ownsRow w.heap.size 143 3 v' l.length (l.flatMap cellE) ∧ Below w.heap.size w w' := by
  obtain ⟨i0, hi, hz0, hz1, hz2⟩ := info_parts info_cell
  have HS := Lib.hid (hs.below (w' := w.alloc (.cells #[] 143)) ((Below.refl _ _).alloc (Nat.le_refl _) _))
  have HB := Lib.hid (row_built w #[] 143 3 0 w.heap.size (Nat.le_refl _) rfl (by decide))
  obtain ⟨ao, cap, rfl, hcap, hcm, hnil, hcell⟩ := hs
  have heq := fun W : World => Lib.run_eql_slice_nil (P := Tryz.prog) W 93 143 ao l.length cap 0 0 Tryz.underlying93
  cases ao with
  | none =>
    obtain ⟨hl0, rfl⟩ := hnil rfl
    obtain rfl : l = [] := List.eq_nil_of_length_eq_zero hl0
    clear hcell hnil hl0 heq
    have heq := fun W : World => Lib.run_eql_slice_nil (P := Tryz.prog) W 93 143 none 0 0 0 0 Tryz.underlying93
    show Calls _ _ #[.slice none 0 0] _ _
    go_enter Tryz.func94, Tryz.ntmps94
    go_wp2
    go_ret
    exact ⟨_, rfl, World.ownsRow_nil _ _ _ _, Below.refl _ _⟩
  | some a =>
    clear hcell hnil
    go_enter Tryz.func94, Tryz.ntmps94
    go_wp2_with (at_builtin; go_loud (refine wpList_append_src rfl (.tmp 5) (.tmp 6) 93 rfl w.heap.size 143 i0 (.agg #[.int .u64 0, .string ByteArray.empty, .bool false]) 3 32 Tryz.underlying93 hi hz0 hz1 hz2 rfl (by decide) _ 0 _ rfl HB.out cellE l _ rfl HS.out (cellE_one l) (by unfold maxLen; omega) (by omega) (by simp) ?_); intro v1 w1 hown1 hgr1)
    go_ret
    have hb1 : Below w.heap.size w w1 := ((Below.refl _ _).alloc (Nat.le_refl _) _).grown hgr1 (by simp) (by intro k h; cases h; exact Nat.le_refl _)
    exact ⟨_, rfl, by simpa using hown1, hb1⟩

theorem SliceOf.drop {α : Type} {enc : α → List Value} {sz : Nat} {w : World} {b off cap : Nat} {l : List α} (k : Nat) (h : SliceOf enc sz w (.slice (some ⟨b, off, none⟩) l.length cap) l) (hk : k ≤ l.length) :
    (cap = k → SliceOf enc sz w (.slice (some ⟨b, off, none⟩) 0 0) (l.drop k)) ∧ SliceOf enc sz w (.slice (some ⟨b, off + k * sz, none⟩) (l.length - k) (cap - k)) (l.drop k) := by
  obtain ⟨ao, cap', hv, h1, h2, h3, h4⟩ := h
  simp only [Value.slice.injEq, true_and] at hv
  obtain ⟨rfl, rfl⟩ := hv
  have ht : (l.drop k).length = l.length - k := by simp
  refine ⟨fun hc => ?_, ?_⟩
  · have e : l.drop k = [] := List.eq_nil_of_length_eq_zero (by omega)
    rw [e]
    exact ⟨_, _, rfl, by simp, by omega, fun h => (by cases h), fun j hj => absurd hj (by simp)⟩
  · refine ⟨_, _, by rw [ht], by omega, by omega, fun h => (by cases h), fun j hj => ?_⟩
    obtain ⟨b', off', e, hr⟩ := h4 (k + j) (by omega)
    cases e
    refine ⟨b, off + k * sz, rfl, ?_⟩
    rw [show off + k * sz + j * sz = off + (k + j) * sz by rw [Nat.add_mul]; omega]
    rw [List.getElem_drop]
    exact hr

theorem SliceOf.empty {α : Type} (enc : α → List Value) (sz : Nat) (w : World) (a : Addr) (cap : Nat) (h : cap ≤ 9223372036854775807) : SliceOf enc sz w (.slice (some a) 0 cap) ([] : List α) :=
  ⟨some a, cap, rfl, by simp, h, fun h => (by cases h), fun j hj => absurd hj (by simp)⟩




theorem valloc_at (w : World) (o : Obj) : (w.alloc o).heap[w.heap.size]? = some o := by
  show (w.heap.push o)[w.heap.size]? = _
  simp
theorem valloc_at' (w : World) (o : Obj) (B : Nat) (h : w.heap.size = B) : (w.alloc o).heap[B]? = some o := by
  subst h; exact valloc_at w o
theorem vown_block {w : World} {B : Nat} {e : TypeId} {k : Nat} {v : Value} {n : Nat} {xs : List Value} (h : w.ownsRow B e k v n xs) : ∀ g, v.ownBlock = some g → B ≤ g := by
  intro g hg
  rcases h.2 with ⟨rfl, _⟩ | ⟨g', cap, cur, rfl, hg', _⟩
  · simp [Value.ownBlock] at hg
  · simp [Value.ownBlock] at hg; omega
theorem own_low {w : World} {B B' : Nat} {e : TypeId} {k : Nat} {v : Value} {n : Nat} {xs : List Value} (h : w.ownsRow B e k v n xs) (hb : B' ≤ B) : w.ownsRow B' e k v n xs := by
  obtain ⟨h1, h2⟩ := h
  refine ⟨h1, ?_⟩
  rcases h2 with h2 | ⟨g, cap, cur, hv, hg, r⟩
  · exact Or.inl h2
  · exact Or.inr ⟨g, cap, cur, hv, Nat.le_trans hb hg, r⟩
theorem box_cells (w : World) (t : Int) (s : ByteArray) (d : Bool) : (w.alloc (.cells #[.int .u64 t, .string s, .bool d] 143)).cell? ⟨w.heap.size, 0, none⟩ = some (.int .u64 t) ∧
    (w.alloc (.cells #[.int .u64 t, .string s, .bool d] 143)).cell? ⟨w.heap.size, 1, none⟩ = some (.string s) ∧ (w.alloc (.cells #[.int .u64 t, .string s, .bool d] 143)).cell? ⟨w.heap.size, 2, none⟩ = some (.bool d) := by
  have h : (w.alloc (.cells #[.int .u64 t, .string s, .bool d] 143)).heap[w.heap.size]? = some (.cells #[.int .u64 t, .string s, .bool d] 143) := valloc_at _ _
  exact ⟨cell_of_row _ _ 0 _ _ _ h, cell_of_row _ _ 1 _ _ _ h, cell_of_row _ _ 2 _ _ _ h⟩



set_option maxRecDepth 100000 in
set_option maxHeartbeats 800000 in
theorem put_newR (v : Value) (l : List CellT) (c : CellT) (w : World) (hs : SliceOf cellE 3 w v l) (hl : l.length ≤ 900) (h0 : 0 < c.1) (h1 : l.length = 0) :
    Calls Tryz.prog 81 #[v, .agg #[.int .u64 c.1, .string c.2.1, .bool c.2.2]] w fun e w' => ∃ v', e = .returned (.tuple #[v', .int .i64 0]) ∧ w'.ownsRow w.heap.size 143 3 v' (l ++ [c]).length ((l ++ [c]).flatMap cellE) ∧ Below w.heap.size w w' := by
  obtain ⟨i0, hi, hz0, hz1, hz2⟩ := info_parts info_cell
  obtain ⟨t, s, d⟩ := c
  replace h0 : 0 < t := h0
  have HS := Lib.hid hs
  obtain ⟨ao, cap, rfl, hcap, hcm, hnil, hcell⟩ := hs
  have hne : (t == 0) = false := by rw [beq_eq_false_iff_ne]; omega
  have hgu : (decide ((0 : Int) < ((l.length : Nat) : Int))) = false := by rw [decide_eq_false_iff_not]; omega
  have hgu2 : (decide (0 < l.length)) = false := by rw [decide_eq_false_iff_not]; omega
  have hgu3 : (decide (((l.length : Nat) : Int) > 0)) = false := by rw [decide_eq_false_iff_not]; omega
  clear hcell hnil
  have HX := Lib.hid (box_cells w t s d)
  have HL := Lib.hid hl; have H1 := Lib.hid h1; clear h1 hl
  go_enter Tryz.func81, Tryz.ntmps81
  go_wp2_with fail
  go_quiet (fail)
  go_wp2_with fail
  go_region_law (first | (go_simp; go_at_call 94; refine Calls.mono (clone_any _ _ _ (HS.out.below (by (repeat (first | exact Below.refl _ _ | refine Below.alloc ?_ (by first | omega | (simp; done) | (simp; omega)) _ | refine Below.drew ?_ | refine below_draws ?_ _)))) (by have := HL.out; omega)) ?_; rintro e w2 ⟨v2, rfl, hown, hb2⟩; have hbx : Below (w.alloc (.cells #[.int .u64 t, .string s, .bool d] 143)).heap.size (w.alloc (.cells #[.int .u64 t, .string s, .bool d] 143)) w2 := Below.trans (by (repeat (first | exact Below.refl _ _ | refine Below.alloc ?_ (by first | omega | (simp; done) | (simp; omega)) _ | refine Below.drew ?_ | refine below_draws ?_ _))) (hb2.mono (by simp <;> omega)); have c0 := cell_below hbx HX.out.1; have c1 := cell_below hbx HX.out.2.1; have c2 := cell_below hbx HX.out.2.2; have ho := Lib.hid (own_low (B' := w.heap.size) hown (by simp <;> omega)); clear hown) | (refine step_append_lies _ rfl (.tmp 25) (.tmp 27) 93 rfl w.heap.size 143 i0 (.agg #[.int .u64 0, .string ByteArray.empty, .bool false]) 3 32 Tryz.underlying93 hi hz0 hz1 hz2 rfl (by decide) _ l.length (l.flatMap cellE) rfl (by first | exact ho.out | exact ho.out.alloc _) _ 1 1 [.int .u64 t, .string s, .bool d] rfl rfl (by first | exact World.news_of_block (valloc_at _ _) | exact fun j u hj => cell_below hb2 (World.news_of_block (valloc_at' _ _ _ (by simp)) j u hj)) (by simp [Value.oneCell']) (by omega) (by have := HL.out; unfold maxLen; omega) (by have := HL.out; omega) (by have := hb2.size; simp at this; simp <;> omega) _ rfl ?_; intro g1 cp1 w3 hown3 hgr3 hg3 hg3s))
  all_goals (
    have hob := Lib.hid (vown_block ho.out)
    have HO3 := Lib.hid (own_low (B' := w.heap.size) (show World.ownsRow _ _ 143 3 _ (l ++ [(t, s, d)]).length ((l ++ [(t, s, d)]).flatMap cellE) from by rw [List.flatMap_append, List.length_append]; simp only [List.flatMap_cons, List.flatMap_nil, List.append_nil, List.length_singleton]; exact hown3) (by first | omega | simp | (simp; omega)))
    have hb3 := Lib.hid (Below.trans (Below.trans (B := w.heap.size) (a := w) (by (repeat (first | exact Below.refl _ _ | refine Below.alloc ?_ (by first | omega | (simp; done) | (simp; omega)) _ | refine Below.drew ?_ | refine below_draws ?_ _))) (hb2.mono (by simp <;> omega))) (Below.grown (B := w.heap.size) (by have hsz := hb2.size; simp at hsz; (repeat (first | exact Below.refl _ _ | refine Below.alloc ?_ (by first | omega | (simp; done) | (simp; omega)) _ | refine Below.drew ?_ | refine below_draws ?_ _))) hgr3 (by have := hb2.size; simp at this; simp <;> omega) hob.out))
    clear hown3 hgr3
    go_wp2
    go_ret2
    exact ⟨_, rfl, row_kept_new HO3.out (below_grown (by (repeat (first | exact Below.refl _ _ | refine Below.alloc ?_ (by first | omega | (simp; done) | (simp; omega)) _ | refine Below.drew ?_ | refine below_draws ?_ _)))), hb3.out⟩)

set_option maxRecDepth 100000 in
set_option maxHeartbeats 800000 in
theorem put_oldR (v : Value) (l : List CellT) (c : CellT) (w : World) (hs : SliceOf cellE 3 w v l) (hl : l.length ≤ 900) (h0 : 0 < c.1) (k : Nat) (h1 : l.length = k + 1) (hlt : ts l k < c.1) :
    Calls Tryz.prog 81 #[v, .agg #[.int .u64 c.1, .string c.2.1, .bool c.2.2]] w fun e w' => ∃ v', e = .returned (.tuple #[v', .int .i64 0]) ∧ w'.ownsRow w.heap.size 143 3 v' (l ++ [c]).length ((l ++ [c]).flatMap cellE) ∧ Below w.heap.size w w' := by
  obtain ⟨i0, hi, hz0, hz1, hz2⟩ := info_parts info_cell
  obtain ⟨t, s, d⟩ := c
  replace h0 : 0 < t := h0
  replace hlt : ts l k < t := hlt
  have HS := Lib.hid hs
  obtain ⟨ao, cap, rfl, hcap, hcm, hnil, hcell⟩ := hs
  obtain ⟨b, off, rfl, hr⟩ := hcell k (by omega)
  have k0 : w.cell? ⟨b, off + k * 3, none⟩ = some (.int .u64 (ts l k)) := by rw [ts_get (by omega)]; exact hr 0 _ rfl
  have k1 := cell_below ((Below.refl w.heap.size w).alloc (Nat.le_refl _) (.cells #[.int .u64 t, .string s, .bool d] 143)) k0
  clear hr
  have hne : (t == 0) = false := by rw [beq_eq_false_iff_ne]; omega
  have hgt : (decide (t ≤ ts l k)) = false := by rw [decide_eq_false_iff_not]; omega
  have hwk : IntKind.i64.wrap (k : Int) = (k : Int) := IntWalk.i64_in _ ⟨by omega, by omega⟩
  clear hcell hnil
  rw [h1] at hcap ⊢
  have HX := Lib.hid (box_cells w t s d)
  have HL := Lib.hid hl; have H1 := Lib.hid h1; clear h1 hl
  go_enter Tryz.func81, Tryz.ntmps81
  go_wp2_with fail
  go_quiet (fail)
  go_wp2_with fail
  go_region_law (first | (go_simp; go_at_call 94; refine Calls.mono (clone_any _ l _ (by have h7 := HS.out; rw [H1.out] at h7; exact h7.below (by (repeat (first | exact Below.refl _ _ | refine Below.alloc ?_ (by first | omega | (simp; done) | (simp; omega)) _ | refine Below.drew ?_ | refine below_draws ?_ _)))) (by have := HL.out; have := H1.out; omega)) ?_; rintro e w2 ⟨v2, rfl, hown, hb2⟩; have hbx : Below (w.alloc (.cells #[.int .u64 t, .string s, .bool d] 143)).heap.size (w.alloc (.cells #[.int .u64 t, .string s, .bool d] 143)) w2 := Below.trans (by (repeat (first | exact Below.refl _ _ | refine Below.alloc ?_ (by first | omega | (simp; done) | (simp; omega)) _ | refine Below.drew ?_ | refine below_draws ?_ _))) (hb2.mono (by simp <;> omega)); have c0 := cell_below hbx HX.out.1; have c1 := cell_below hbx HX.out.2.1; have c2 := cell_below hbx HX.out.2.2; have ho := Lib.hid (own_low (B' := w.heap.size) (n := k + 1) (by have h7 := hown; rw [H1.out] at h7; exact h7) (by simp <;> omega)); clear hown) | (refine step_append_lies _ rfl (.tmp 25) (.tmp 27) 93 rfl w.heap.size 143 i0 (.agg #[.int .u64 0, .string ByteArray.empty, .bool false]) 3 32 Tryz.underlying93 hi hz0 hz1 hz2 rfl (by decide) _ (k + 1) (l.flatMap cellE) rfl (by first | exact ho.out | exact ho.out.alloc _) _ 1 1 [.int .u64 t, .string s, .bool d] rfl rfl (by first | exact World.news_of_block (valloc_at _ _) | exact fun j u hj => cell_below hb2 (World.news_of_block (valloc_at' _ _ _ (by simp)) j u hj)) (by simp [Value.oneCell']) (by omega) (by have := HL.out; have := H1.out; unfold maxLen; omega) (by have := HL.out; have := H1.out; omega) (by have := hb2.size; simp at this; simp <;> omega) _ rfl ?_; intro g1 cp1 w3 hown3 hgr3 hg3 hg3s))
  all_goals (
    have hob := Lib.hid (vown_block ho.out)
    have HO3 := Lib.hid (own_low (B' := w.heap.size) (show World.ownsRow _ _ 143 3 _ (l ++ [(t, s, d)]).length ((l ++ [(t, s, d)]).flatMap cellE) from by rw [List.flatMap_append, List.length_append, H1.out]; simp only [List.flatMap_cons, List.flatMap_nil, List.append_nil, List.length_singleton]; exact hown3) (by first | omega | simp | (simp; omega)))
    have hb3 := Lib.hid (Below.trans (Below.trans (B := w.heap.size) (a := w) (by (repeat (first | exact Below.refl _ _ | refine Below.alloc ?_ (by first | omega | (simp; done) | (simp; omega)) _ | refine Below.drew ?_ | refine below_draws ?_ _))) (hb2.mono (by simp <;> omega))) (Below.grown (B := w.heap.size) (by have hsz := hb2.size; simp at hsz; (repeat (first | exact Below.refl _ _ | refine Below.alloc ?_ (by first | omega | (simp; done) | (simp; omega)) _ | refine Below.drew ?_ | refine below_draws ?_ _))) hgr3 (by have := hb2.size; simp at this; simp <;> omega) hob.out))
    clear hown3 hgr3
    go_wp2
    go_ret2
    exact ⟨_, rfl, row_kept_new HO3.out (below_grown (by (repeat (first | exact Below.refl _ _ | refine Below.alloc ?_ (by first | omega | (simp; done) | (simp; omega)) _ | refine Below.drew ?_ | refine below_draws ?_ _)))), hb3.out⟩)

theorem put_row (v : Value) (l : List CellT) (c : CellT) (w : World) (hs : SliceOf cellE 3 w v l) (hl : l.length ≤ 900) (h0 : 0 < c.1) (h : lastTs 0 l < c.1) :
    Calls Tryz.prog 81 #[v, .agg #[.int .u64 c.1, .string c.2.1, .bool c.2.2]] w fun e w' => ∃ v', e = .returned (.tuple #[v', .int .i64 0]) ∧ w'.ownsRow w.heap.size 143 3 v' (l ++ [c]).length ((l ++ [c]).flatMap cellE) ∧ Below w.heap.size w w' := by
  by_cases h1 : l.length = 0
  · exact put_newR v l c w hs hl h0 h1
  · rw [lastTs_ts 0 l (by omega)] at h
    exact put_oldR v l c w hs hl h0 (l.length - 1) (by omega) h
end Go.Proofs.YtniojcnkjehflaaGreat

/- Package mvcc: rising keys, and what each has. Conditions: none. -/
namespace Go.Proofs.YtniojcnkjehflaaGreat
open Go.RowKit Go.PlainAid
set_option linter.unusedVariables false

abbrev Fv := ByteArray → List CellT
def Kup (K : List ByteArray) : Prop := K.Pairwise (fun a b => klt a b = true)
def insY : List ByteArray → ByteArray → List ByteArray
  | [], k => [k]
  | a :: r, k => if klt k a = true then k :: a :: r else if klt a k = true then a :: insY r k else a :: r
theorem klt_ne {a b : ByteArray} (h : klt a b = true) : a ≠ b := fun e => by rw [e, klt_irr] at h; cases h
theorem ins_keys (L : List Kv) (k : ByteArray) (v : SlT) : (insL L k v).map (·.1) = insY (L.map (·.1)) k := by
  induction L with
  | nil => rfl
  | cons a r ih => simp only [insL, insY, List.map_cons]; split <;> (try split) <;> simp [ih]
theorem mem_insY {K : List ByteArray} {k x : ByteArray} : x ∈ insY K k ↔ x = k ∨ x ∈ K := by
  induction K with
  | nil => simp [insY]
  | cons a r ih =>
    unfold insY
    split
    · simp
    · split
      · rw [List.mem_cons, ih, List.mem_cons]; constructor
        · rintro (h | h | h)
          · exact .inr (.inl h)
          · exact .inl h
          · exact .inr (.inr h)
        · rintro (h | h | h)
          · exact .inr (.inl h)
          · exact .inl h
          · exact .inr (.inr h)
      · rename_i h1 h2
        have e := klt_eq (by simpa using h1) (by simpa using h2)
        subst e
        simp
theorem len_insY (K : List ByteArray) (k : ByteArray) : (insY K k).length ≤ K.length + 1 := by
  induction K with
  | nil => simp [insY]
  | cons a r ih => unfold insY; split; simp; split <;> simp <;> omega
theorem up_srt {L : List Kv} : Srt L ↔ Kup (L.map (·.1)) := by unfold Srt Kup; rw [List.pairwise_map]
theorem get_mem {L : List Kv} {k : ByteArray} (h : Srt L) : (k ∈ L.map (·.1) → (k, getL L k) ∈ L) ∧ (k ∉ L.map (·.1) → getL L k = ⟨none, 0, 0⟩) := by
  induction L with
  | nil => simp [getL]
  | cons a r ih =>
    obtain ⟨h1, h2⟩ := List.pairwise_cons.1 h
    obtain ⟨i1, i2⟩ := ih h2
    rw [List.map_cons, List.mem_cons]
    unfold getL
    split
    · rename_i q
      refine ⟨fun hx => ?_, fun _ => rfl⟩
      exfalso
      rcases hx with rfl | hx
      · rw [klt_irr] at q; cases q
      · obtain ⟨c, hc, rfl⟩ := List.mem_map.1 hx
        have := klt_tr q (h1 c hc); rw [klt_irr] at this; cases this
    · split
      · rename_i q
        refine ⟨fun hx => ?_, fun hx => i2 (fun hq => hx (.inr hq))⟩
        rcases hx with rfl | hx
        · rw [klt_irr] at q; cases q
        · exact List.mem_cons_of_mem _ (i1 hx)
      · rename_i q1 q2
        have e := klt_eq (by simpa using q1) (by simpa using q2)
        exact ⟨fun _ => by rw [e]; exact List.mem_cons_self, fun hx => absurd (.inl e) hx⟩
theorem ins_mem {L : List Kv} {k : ByteArray} {v : SlT} {a : Kv} (h : Srt L) (ha : a ∈ insL L k v) : a = (k, v) ∨ (a ∈ L ∧ a.1 ≠ k) := by
  induction L with
  | nil => simp [insL] at ha; exact .inl ha
  | cons c r ih =>
    obtain ⟨h1, h2⟩ := List.pairwise_cons.1 h
    unfold insL at ha
    split at ha
    · rename_i q
      rcases List.mem_cons.1 ha with rfl | ha
      · exact .inl rfl
      · refine .inr ⟨ha, ?_⟩
        rcases List.mem_cons.1 ha with rfl | ha
        · exact (klt_ne q).symm
        · exact (klt_ne (klt_tr q (h1 a ha))).symm
    · split at ha
      · rename_i q
        rcases List.mem_cons.1 ha with rfl | ha
        · exact .inr ⟨List.mem_cons_self, klt_ne q⟩
        · rcases ih h2 ha with e | ⟨e, hn⟩
          · exact .inl e
          · exact .inr ⟨List.mem_cons_of_mem _ e, hn⟩
      · rename_i q1 q2
        have e := klt_eq (by simpa using q1) (by simpa using q2)
        rcases List.mem_cons.1 ha with rfl | ha
        · exact .inl (by rw [e])
        · exact .inr ⟨List.mem_cons_of_mem _ ha, by rw [e]; exact (klt_ne (h1 a ha)).symm⟩
/-- Two rising lists with the same members are one. -/
theorem up_ext {α : Type} {key : α → ByteArray} : ∀ {A B : List α}, A.Pairwise (fun a b => klt (key a) (key b) = true) → B.Pairwise (fun a b => klt (key a) (key b) = true) → (∀ x, x ∈ A ↔ x ∈ B) → A = B
  | [], [], _, _, _ => rfl
  | [], b :: B, _, _, h => absurd ((h b).2 List.mem_cons_self) (by simp)
  | a :: A, [], _, _, h => absurd ((h a).1 List.mem_cons_self) (by simp)
  | a :: A, b :: B, hA, hB, h => by
    obtain ⟨a1, a2⟩ := List.pairwise_cons.1 hA
    obtain ⟨b1, b2⟩ := List.pairwise_cons.1 hB
    have e : a = b := by
      rcases List.mem_cons.1 ((h a).1 List.mem_cons_self) with e | e
      · exact e
      · rcases List.mem_cons.1 ((h b).2 List.mem_cons_self) with e2 | e2
        · exact e2.symm
        · have := klt_tr (a1 b e2) (b1 a e); rw [klt_irr] at this; cases this
    subst e
    rw [up_ext a2 b2 fun x => ?_]
    constructor
    · intro hx
      rcases List.mem_cons.1 ((h x).1 (List.mem_cons_of_mem _ hx)) with e | e
      · subst e; have := a1 x hx; rw [klt_irr] at this; cases this
      · exact e
    · intro hx
      rcases List.mem_cons.1 ((h x).2 (List.mem_cons_of_mem _ hx)) with e | e
      · subst e; have := b1 x hx; rw [klt_irr] at this; cases this
      · exact e
open Classical in
noncomputable def upd (f : Fv) (k : ByteArray) (l : List CellT) : Fv := fun x => if x = k then l else f x
theorem upd_eq (f : Fv) (k : ByteArray) (l : List CellT) : upd f k l k = l := by unfold upd; rw [if_pos rfl]
theorem upd_ne {f : Fv} {k x : ByteArray} {l : List CellT} (h : x ≠ k) : upd f k l x = f x := by unfold upd; rw [if_neg h]
/-- The keys of K are those that have something. -/
structure KOf (K : List ByteArray) (f : Fv) : Prop where
  up : Kup K
  mem : ∀ k, k ∈ K ↔ f k ≠ []
theorem KOf.one {K K' : List ByteArray} {f : Fv} (h : KOf K f) (h' : KOf K' f) : K = K' := up_ext (key := fun x => x) h.up h'.up fun x => by rw [h.mem, h'.mem]
/-- The versions of a key are right, up to a time, and not too many. -/
structure FOk (f : Fv) (B : Int) (n : Nat) : Prop where
  ok : ∀ k, ∀ c ∈ f k, cellOk c
  up : ∀ k, rises 0 (f k) = true
  le : ∀ k, lastTs 0 (f k) ≤ B
  len : ∀ k, (f k).length ≤ n
theorem FOk.mono {f : Fv} {B B' : Int} {n n' : Nat} (h : FOk f B n) (hB : B ≤ B') (hn : n ≤ n') : FOk f B' n' := ⟨h.ok, h.up, fun k => Int.le_trans (h.le k) hB, fun k => Nat.le_trans (h.len k) hn⟩
abbrev OpC := ByteArray × ByteArray × Bool
theorem snocRec {α : Type} {P : List α → Prop} (nil : P []) (append_singleton : ∀ (l : List α) (a : α), P l → P (l ++ [a])) (l : List α) : P l := by
  have : ∀ r : List α, P r.reverse := by
    intro r
    induction r with
    | nil => exact nil
    | cons a r ih => rw [List.reverse_cons]; exact append_singleton _ a ih
  have h := this l.reverse
  rwa [List.reverse_reverse] at h
/-- What a list of operations lays at a time. -/
noncomputable def putsF (f : Fv) (ts : Int) (l : List OpC) : Fv := l.foldl (fun f o => upd f o.1 (f o.1 ++ [(ts, o.2.1, o.2.2)])) f
theorem putsF_snoc (f : Fv) (ts : Int) (l : List OpC) (o : OpC) : putsF f ts (l ++ [o]) = upd (putsF f ts l) o.1 (putsF f ts l o.1 ++ [(ts, o.2.1, o.2.2)]) := by unfold putsF; rw [List.foldl_append]; rfl
theorem putsF_off {f : Fv} {ts : Int} {l : List OpC} {k : ByteArray} : (∀ o ∈ l, o.1 ≠ k) → putsF f ts l k = f k := by
  induction l using snocRec with
  | nil => intro _; rfl
  | append_singleton l o ih =>
    intro h
    rw [putsF_snoc, upd_ne (fun e => h o (by simp) e.symm), ih fun o ho => h o (by simp [ho])]
/-- Each key is laid once at most: it has what it had, or one version more. -/
theorem putsF_at {f : Fv} {ts : Int} {l : List OpC} (hd : l.Pairwise (fun a b => klt a.1 b.1 = true)) (k : ByteArray) : putsF f ts l k = f k ∨ ∃ o ∈ l, o.1 = k ∧ putsF f ts l k = f k ++ [(ts, o.2.1, o.2.2)] := by
  induction l using snocRec with
  | nil => exact .inl rfl
  | append_singleton l o ih =>
    obtain ⟨h1, -, h3⟩ := List.pairwise_append.1 hd
    rw [putsF_snoc]
    by_cases e : k = o.1
    · subst e
      rw [upd_eq, putsF_off fun z hz => klt_ne (h3 z hz o (by simp))]
      exact .inr ⟨o, by simp, rfl, rfl⟩
    · rw [upd_ne e]
      rcases ih h1 with h | ⟨z, hz, h⟩
      · exact .inl h
      · exact .inr ⟨z, by simp [hz], h⟩
theorem FOk.puts {f : Fv} {B ts : Int} {n : Nat} {l : List OpC} (h : FOk f B n) (hB : B < ts) (h0 : 0 < ts ∧ ts < 18446744073709551616) (hd : l.Pairwise (fun a b => klt a.1 b.1 = true)) : FOk (putsF f ts l) ts (n + 1) := by
  have hc : ∀ o : OpC, cellOk (ts, o.2.1, o.2.2) := fun o => by show (Lit.int .u64 ts).wf = true; simp [Lit.wf, IntKind.min, IntKind.max, IntKind.signed, IntKind.bits]; omega
  refine ⟨fun k => ?_, fun k => ?_, fun k => ?_, fun k => ?_⟩ <;> rcases putsF_at (f := f) (ts := ts) hd k with e | ⟨o, ho, hk, e⟩ <;> rw [e]
  · exact h.ok k
  · intro c hc'
    rcases List.mem_append.1 hc' with q | q
    · exact h.ok k c q
    · simp only [List.mem_singleton] at q; rw [q]; exact hc o
  · exact h.up k
  · rw [rises_snoc, h.up k, Bool.true_and]; exact decide_eq_true (by have := h.le k; show _ < ts; omega)
  · have := h.le k; omega
  · rw [lastTs_snoc]; exact Int.le_refl _
  · have := h.len k; omega
  · have := h.len k; simp; omega
end Go.Proofs.YtniojcnkjehflaaGreat

/- Package mvcc: a tree of versions as an object: Get, Put, Del, Keys; vers.Put beside it. Conditions: at most 80000 keys, 900 versions each. -/
namespace Go.Proofs.YtniojcnkjehflaaGreat
open Go.RowKit Go.PlainAid Go.Shelf
set_option linter.unusedVariables false

theorem vown_ne_blk {w : World} {N : Nat} {T : TypeId} {cs : Array Value} {B sz k : Nat} {e : TypeId} {v : Value} {xs : List Value} (h : w.ownsRow B e sz v k xs) (hb : Blk w N T cs) (hT : e ≠ T) : v.ownBlock ≠ some N := fun e1 => by
  rcases h.2 with ⟨hv, _⟩ | ⟨g, cap, cur, hv, _, hh, _⟩
  · rw [hv] at e1; cases e1
  · rw [hv] at e1
    have : g = N := by simpa [Value.ownBlock] using e1
    subst this
    unfold Blk at hb
    rw [hh] at hb
    injection hb with h1; injection h1 with h2 h3
    exact hT h3
def slV (v : SlT) : Value := .slice v.a v.n v.c
def cellRow (w : World) (v : Value) (l : List CellT) : Prop := w.ownsRow 0 143 3 v l.length (l.flatMap cellE)
section
variable {S D : Nat → Prop} {w x : World} {v : Value} {l : List CellT} {tb : Nat} {K : List ByteArray} {f : Fv} {L : List Kv} {d : Int} {t : Tm} {q : Nat}
theorem cellRow.sl (h : cellRow w v l) : SliceOf cellE 3 w v l := SliceOf.own h (fun _ _ => rfl)
theorem cellRow.keep (h : cellRow w v l) (hk : ∀ i, v.ownBlock = some i → x.heap[i]? = w.heap[i]?) : cellRow x v l := row_sameL h hk
theorem TreeAt.blk : ∀ {t : Tm}, TreeAt w t → q ∈ bk t → ∃ cs, Blk w q 146 cs
  | .nil, _, h => by simp [bk] at h
  | .nd b l k v d r, h, hq => by
    simp only [bk, List.mem_cons, List.mem_append] at hq
    rcases hq with rfl | hq | hq
    · exact ⟨_, h.1⟩
    · exact TreeAt.blk h.2.1 hq
    · exact TreeAt.blk h.2.2 hq
theorem TrO.offRow (h : TrO S w tb L d) (hr : cellRow w v l) : ∀ g, v.ownBlock = some g → ¬ S g := fun g hg hq => by
  obtain ⟨t, h1, h2, _, _, _, _, _, _, h9⟩ := h
  rcases (h9 g).1 hq with rfl | hq
  · exact vown_ne_blk hr h1 (by decide) hg
  · obtain ⟨cs, hb⟩ := TreeAt.blk h2 hq
    exact vown_ne_blk hr hb (by decide) hg
/-- A tree with the versions of each key; S holds all its blocks. -/
def VkO (S : Nat → Prop) (w : World) (tb : Nat) (K : List ByteArray) (f : Fv) : Prop :=
  ∃ (S0 : Nat → Prop) (L : List Kv) (d : Int), TrO S0 w tb L d ∧ L.map (·.1) = K ∧ KOf K f ∧
    (∀ a ∈ L, cellRow w (slV a.2) (f a.1) ∧ ∀ g, (slV a.2).ownBlock = some g → S g) ∧ (∀ q, S0 q → S q) ∧ ∀ q, S q → q < w.heap.size
theorem VkO.ofS (h : VkO S w tb K f) : ∀ q, S q → q < w.heap.size := by obtain ⟨S0, L, d, h1, h2, h3, h4, h5, h6⟩ := h; exact h6
theorem VkO.keep (h : VkO S w tb K f) (hk : ∀ q, S q → x.heap[q]? = w.heap[q]?) (hz : w.heap.size ≤ x.heap.size) : VkO S x tb K f := by
  obtain ⟨S0, L, d, h1, h2, h3, h4, h5, h6⟩ := h
  exact ⟨S0, L, d, h1.keep fun q hq => hk q (h5 q hq), h2, h3, fun a ha => ⟨(h4 a ha).1.keep fun i hi => hk i ((h4 a ha).2 i hi), (h4 a ha).2⟩, h5, fun q hq => Nat.lt_of_lt_of_le (h6 q hq) hz⟩
theorem VkO.gr {row : Option Nat} (h : VkO S w tb K f) (hg : w.grownBy x row) (hr : ∀ k, row = some k → ¬ S k) : VkO S x tb K f :=
  h.keep (fun q hq => hg.block q (h.ofS q hq) (fun e => hr q e.symm hq)) hg.size
theorem VkO.but (h : VkO S w tb K f) (hb : But D w x) (ha : ∀ q, D q → S q → False) : VkO S x tb K f :=
  h.keep (fun q hq => hb.block q (h.ofS q hq) (fun hd => ha q hd hq)) hb.size
theorem VkO.below (h : VkO S w tb K f) (hb : Below w.heap.size w x) : VkO S x tb K f := h.keep (fun q hq => hb.block q (h.ofS q hq)) hb.size
theorem VkO.ext (h : VkO S w tb K f) (hr : cellRow w v l) : VkO (fun q => S q ∨ v.ownBlock = some q) w tb K f := by
  obtain ⟨S0, L, d, h1, h2, h3, h4, h5, h6⟩ := h
  refine ⟨S0, L, d, h1, h2, h3, fun a ha => ⟨(h4 a ha).1, fun g hg => .inl ((h4 a ha).2 g hg)⟩, fun q hq => .inl (h5 q hq), fun q hq => ?_⟩
  rcases hq with hq | hq
  · exact h6 q hq
  · exact (hr.lt q hq).2
end
set_option maxRecDepth 100000
theorem vget_any (S : Nat → Prop) (w : World) (tb : Nat) (K : List ByteArray) (f : Fv) (k : ByteArray) (h : VkO S w tb K f) :
    Calls Tryz.prog 49 #[pt tb 0, .string k] w fun e w' => ∃ (v : SlT) (b : Bool), e = .returned (.tuple #[slV v, .bool b]) ∧ cellRow w' (slV v) (f k) ∧ (∀ g, (slV v).ownBlock = some g → S g) ∧ w = w' := by
  obtain ⟨S0, L, d, h1, h2, h3, h4, h5, h6⟩ := h
  refine (tget_any S0 w tb L d k h1).mono ?_
  rintro e w' ⟨rfl, rfl⟩
  obtain ⟨g1, g2⟩ := get_mem (k := k) h1.srt
  by_cases hk : k ∈ L.map (·.1)
  · exact ⟨getL L k, _, rfl, (h4 _ (g1 hk)).1, (h4 _ (g1 hk)).2, rfl⟩
  · have e : f k = [] := by
      have := h3.mem k; rw [h2] at hk
      by_cases q : f k = []
      · exact q
      · exact absurd (this.2 q) hk
    refine ⟨getL L k, _, rfl, ?_, ?_, rfl⟩ <;> rw [g2 hk]
    · rw [e]; exact World.ownsRow_nil _ _ _ _
    · intro g hg; cases hg
theorem vput_any (S : Nat → Prop) (w : World) (tb : Nat) (K : List ByteArray) (f : Fv) (k : ByteArray) (v : SlT) (l : List CellT) (h : VkO S w tb K f) (hv : cellRow w (slV v) l) (hS : ∀ g, (slV v).ownBlock = some g → S g) (hl : l ≠ []) (hK : K.length ≤ 80000) :
    Calls Tryz.prog 82 #[pt tb 0, .string k, slV v] w fun e w' => ∃ (b : Bool) (S' : Nat → Prop), e = .returned (.bool b) ∧ VkO S' w' tb (insY K k) (upd f k l) ∧ Grew S S' w w' := by
  obtain ⟨S0, L, d, h1, h2, h3, h4, h5, h6⟩ := h
  refine (tput_any S0 w tb L d k v h1 (by rw [← h2, List.length_map] at hK; exact hK)).mono ?_
  rintro e w' ⟨d', S0', rfl, hT, hg⟩
  have hs := h1.srt
  have hkeep : ∀ {u : Value} {m : List CellT}, cellRow w u m → cellRow w' u m := fun hu => hu.keep fun i hi => hg.but.block i (hu.lt i hi).2 (h1.offRow hu i hi)
  refine ⟨_, fun q => S q ∨ S0' q, rfl, ⟨S0', insL L k v, d', hT, by rw [ins_keys, h2], ⟨?_, fun x => ?_⟩, fun a ha => ?_, fun q hq => .inr hq, fun q hq => ?_⟩, fun q hq => ?_, hg.but.mono fun q _ hq => h5 q hq⟩
  · rw [← h2, ← ins_keys]; exact up_srt.1 hT.srt
  · rw [mem_insY]
    by_cases e : x = k
    · subst e; rw [upd_eq]; exact ⟨fun _ => hl, fun _ => .inl rfl⟩
    · rw [upd_ne e, ← h3.mem x]; exact ⟨fun q => q.resolve_left e, .inr⟩
  · rcases ins_mem hs ha with rfl | ⟨ha, hn⟩
    · refine ⟨?_, fun g hg => .inl (hS g hg)⟩
      show cellRow w' (slV v) (upd f k l k)
      rw [upd_eq]; exact hkeep hv
    · rw [upd_ne hn]; exact ⟨hkeep (h4 a ha).1, fun g hg => .inl ((h4 a ha).2 g hg)⟩
  · rcases hq with hq | hq
    · exact Nat.lt_of_lt_of_le (h6 q hq) hg.but.size
    · exact hT.ofS q hq
  · rcases hq with hq | hq
    · exact .inl hq
    · rcases hg.sub q hq with h | h
      · exact .inl (h5 q h)
      · exact .inr h
theorem vvput_any (S : Nat → Prop) (w : World) (tb : Nat) (K : List ByteArray) (f : Fv) (v : SlT) (l : List CellT) (c : CellT) (h : VkO S w tb K f) (hs : SliceOf cellE 3 w (slV v) l) (hl : l.length ≤ 900) (h0 : 0 < c.1) (hc : lastTs 0 l < c.1) :
    Calls Tryz.prog 81 #[slV v, .agg #[.int .u64 c.1, .string c.2.1, .bool c.2.2]] w fun e w' => ∃ (v' : SlT) (S' : Nat → Prop), e = .returned (.tuple #[slV v', .int .i64 0]) ∧ VkO S' w' tb K f ∧ cellRow w' (slV v') (l ++ [c]) ∧ (∀ g, (slV v').ownBlock = some g → S' g) ∧ Grew S S' w w' := by
  refine (put_row (slV v) l c w hs hl h0 hc).mono ?_
  rintro e w' ⟨u, rfl, hr, hb⟩
  obtain ⟨ao, n, cap, rfl⟩ := own_sliceT hr
  have hr0 : cellRow w' (.slice ao n cap) (l ++ [c]) := own_low hr (Nat.zero_le _)
  refine ⟨⟨ao, n, cap⟩, _, rfl, (h.below hb).ext hr0, hr0, fun g hg => .inr hg, fun q hq => ?_, But.of_grown0 (below_grown hb) _⟩
  rcases hq with hq | hq
  · exact .inl hq
  · exact .inr (hr.lt q hq).1
end Go.Proofs.YtniojcnkjehflaaGreat
