/- The program's hub: Out. Conditions: none. -/
import Derived.Test.YthmljllgfigebaaLb5
import Derived.Test.YthmljllgfigebaaPexVLb
import Derived.Test.YthmljllgfigebaaGoLb
namespace Go.Proofs.Ythmljllgfigebaa
open Go.RowKit Go.PlainAid
set_option linter.unusedVariables false

set_option maxRecDepth 100000 in
set_option maxHeartbeats 3200000 in
theorem hbOut_any (S : Nat → Prop) (b : Nat) (q : Nat → Option Nat) (M : Nat → Option LnT) (g : Bool) (w : World) (hH : HkP S w b q M) :
    Calls Try.prog 57 #[pt b 0, .bool g] w fun e w' => ∃ (v : Value) (S' : Nat → Prop), e = .returned (v) ∧ HkP S' w' b q (outM M 4) ∧ w'.ownsRow w.heap.size 125 2 v (outH M g 4).length ((outH M g 4).flatMap outE) ∧ (∀ i, v.ownBlock = some i → ¬ S' i) ∧ Grew S S' w w' ∧ But (S) w w' := by
 have hB0 := But.refl (S) w
 have hinS : ∀ k, S k → S k ∨ w.heap.size ≤ k := fun k hk => .inl hk
 refine co_enter (n := 46) Try.func57 rfl rfl rfl [(0, pt b 0), (1, .bool g)] rfl (fun a h0 => ?_)
 refine co_seq ?_
 refine co_reg ?_
 refine pk0 (v := .slice none 0 0) h0 rfl fun a1 h1 => ?_; clear h0
 refine pl_nil ?_
 refine co_then ?_
 refine co_seq ?_
 refine co_seq ?_
 refine co_reg ?_
 refine pk0 (v := pt b 0) h1 rfl fun a2 h2 => ?_; clear h1
 refine pw h2 rfl (op_call (args := #[pt b 0]) (R := fun res xw => res = .bool false ∧ w = xw) rfl rfl rfl (by kernel_rfl) (by kernel_rfl) (Try.call99 _ _) (hbZero_ok b q w (HbK.blk hH)) (by rintro e x ⟨rfl, rfl⟩; exact ⟨_, rfl, rfl, rfl⟩)) ?_; clear h2
 rintro _ _ a3 ⟨rfl, rfl⟩ h3
 refine pl_nil ?_
 refine co_then ?_
 refine co_false h3 rfl ?_
 refine wp_skip ?_
 refine co_then ?_
 refine co_seq ?_
 refine co_reg ?_
 refine pk0 (v := .slice none 0 0) h3 rfl fun a5 h5 => ?_; clear h3
 refine pl_nil ?_
 refine co_then ?_
 refine co_seq ?_
 refine co_seq ?_
 refine co_reg ?_
 refine pk0 (v := pt b 0) h5 rfl fun a6 h6 => ?_; clear h5
 refine pk0 (v := pt b 0) h6 rfl fun a7 h7 => ?_; clear h6
 refine pk0 (v := pt b 1) h7 rfl fun a8 h8 => ?_; clear h7
 refine pk (v := .agg #[ptQ (q 0), ptQ (q 1), ptQ (q 2), ptQ (q 3)]) h8 rfl (rn_loadN rfl rfl Try.underlying127 rfl (by kernel_rfl) (blk_part (HbK.blk hH) 1 (by rfl))) fun a9 h9 => ?_; clear h8
 refine pk0 (v := .int .i64 0) h9 rfl fun a10 h10 => ?_; clear h9
 refine pl_nil ?_
 refine co_then ?_
 refine wp_block ?_
 have hin9 := hinS
 have hof9 : ∀ i, (Value.slice none 0 0).ownBlock = some i → ¬ S i := offR_nil
 have h11 : Slots 46 [(1, .bool g), (5, .slice none 0 0), (17, .agg #[ptQ (q 0), ptQ (q 1), ptQ (q 2), ptQ (q 3)]), (18, .int .i64 0)] _ := h10.sub ⟨rfl, rfl, rfl, rfl, trivial⟩; clear h10
 refine co_loop (fun mm a x => ∃ (i : Nat) (v : Value) (SA : Nat → Prop), Slots 46 [(1, .bool g), (5, v), (17, .agg #[ptQ (q 0), ptQ (q 1), ptQ (q 2), ptQ (q 3)]), (18, .int .i64 ((i : Nat) : Int))] a ∧ mm = 4 - i ∧ (i ≤ 4) ∧ (∀ k, SA k → S k ∨ w.heap.size ≤ k) ∧ (∀ i, v.ownBlock = some i → ¬ SA i) ∧ HkP SA x b q (outM M i) ∧ x.ownsRow w.heap.size 125 2 v (outH M g i).length ((outH M g i).flatMap outE) ∧ But (S) w x) (4 - 0) ?_ ?_
 · exact ⟨0, (.slice none 0 0), S, h11.sub ⟨rfl, rfl, rfl, (slot_eq rfl (congrArg (Value.int .i64) (by first | rfl | omega))), trivial⟩, rfl, by omega, by exact hin9, by exact hof9, hH, (row_nilL _ _ _ _ _), hB0⟩
 · rintro k12 a13 w14 ⟨i, v, SA, h13, rfl, hi15, hi16, hi17, hf18, hf19, hB20⟩
   have hz21 := hB20.size
   have hinA : ∀ k, SA k → S k ∨ w.heap.size ≤ k := by assumption
   have hofA : ∀ i, v.ownBlock = some i → ¬ SA i := by assumption
   have hl22 := outH_len M g i
   refine co_seq ?_
   refine co_reg ?_
   refine pk0 (v := .bool (decide (((i : Nat) : Int) < 4))) h13 rfl fun a23 h23 => ?_; clear h13
   refine pl_nil ?_
   refine co_then ?_
   refine co_seq ?_
   cases hc24 : (decide (((i : Nat) : Int) < 4))
   ·
    rw [hc24] at h23
    have hp25 : ¬ (((i : Nat) : Int) < 4) := of_decide_eq_false hc24
    clear hc24
    refine co_false h23 rfl ?_
    refine wp_exit ?_
    refine co_thenX ?_
    refine co_thenX ?_
    refine co_blockX ?_
    refine co_then ?_
    refine co_seq ?_
    refine co_reg ?_
    refine pk0 (v := v) h23 rfl fun a26 h26 => ?_; clear h23
    refine pk0 (v := v) h26 rfl fun a27 h27 => ?_; clear h26
    refine pl_nil ?_
    refine co_then ?_
    refine wp_ret ?_
    refine co_ret1 h27 rfl rfl ?_
    obtain rfl : i = 4 := by omega
    exact ⟨_, SA, rfl, hf18, hf19, hofA, ⟨hinA, hB20⟩, hB20⟩
   ·
    rw [hc24] at h23
    have hp28 : ((i : Nat) : Int) < 4 := of_decide_eq_true hc24
    clear hc24
    refine co_true h23 rfl ?_
    refine wp_skip ?_
    refine co_then ?_
    refine co_seq ?_
    refine wp_block ?_
    refine co_seq ?_
    refine co_reg ?_
    refine pk0 (v := .int .i64 ((i : Nat) : Int)) h23 rfl fun a29 h29 => ?_; clear h23
    refine pk (v := (ptQ (q i))) h29 rfl (rn_indexAny rfl rfl rfl (ix_hub q i (by omega))) fun a30 h30 => ?_; clear h29
    refine pk0 (v := .int .i64 ((i : Nat) : Int)) h30 rfl fun a31 h31 => ?_; clear h30
    refine pk0 (v := (ptQ (q i))) h31 rfl fun a32 h32 => ?_; clear h31
    refine pl_nil ?_
    refine co_then ?_
    refine co_seq ?_
    refine co_reg ?_
    refine pk0 (v := (ptQ (q i))) h32 rfl fun a33 h33 => ?_; clear h32
    refine pk0 (v := .bool g) h33 rfl fun a34 h34 => ?_; clear h33
    have ho37 := HkP.ofS hf18
    refine pw h34 rfl (op_call (args := #[(ptQ (q i)), .bool g]) (R := fun res xw => ∃ v : Value, ∃ S' : Nat → Prop, res = v ∧ HkP S' xw b q (hkN (outM M i) i) ∧ (xw.ownsRow w14.heap.size 61 8 v (hkT (outM M i) i g).length ((hkT (outM M i) i g).flatMap segE)) ∧ (∀ q, S' q → q < w14.heap.size) ∧ Grew SA S' w14 xw) rfl rfl rfl (by kernel_rfl) (by kernel_rfl) (Try.call37 _ _) (kHubOut w14 g (by omega) hf18) (by rintro e x ⟨v, S', h0, h⟩; exact ⟨_, h0, v, S', rfl, h⟩)) ?_; clear h34
    rintro v38 w36 a35 ⟨_, S39, rfl, hO40, hq42, hq43, hx41⟩ h35
    have hB44 := fbU_foot hB20 hx41.but (fun i hi hq => by rcases hinA i hq with k | k; exact k; omega)
    have hz45 := hB44.size
    have hz46 := hx41.but.size
    have hin47 : ∀ q, S39 q → S q ∨ w.heap.size ≤ q := fun q hq => by rcases hx41.sub q hq with k | k; exact hinA q k; exact .inr (by omega)
    have hbody := HbK.out_ok hf18 (i := i) (by omega) g
    have hl48 := hkT_len (outM M i) i g
    refine pk (v := .int .i64 (((hkT (outM M i) i g).length : Nat) : Int)) h35 rfl (rn_lenOwn rfl rfl Try.underlying67 hq42) fun a49 h49 => ?_; clear h35
    refine pk0 (v := .int .i64 0) h49 rfl fun a50 h50 => ?_; clear h49
    refine pl_nil ?_
    refine co_then ?_
    refine wp_block ?_
    have hin8 := hin47
    have hof8 : ∀ i, v.ownBlock = some i → ¬ S39 i := (Grew.offR hx41 hf19 hofA)
    have hor8 : ∀ i, v38.ownBlock = some i → ¬ S39 i := (offR_row hq43 hq42 (Nat.le_refl _))
    have h51 : Slots 46 [(1, .bool g), (5, v), (6, .int .i64 ((i : Nat) : Int)), (17, .agg #[ptQ (q 0), ptQ (q 1), ptQ (q 2), ptQ (q 3)]), (18, .int .i64 ((i : Nat) : Int)), (24, v38), (25, .int .i64 (((hkT (outM M i) i g).length : Nat) : Int)), (26, .int .i64 0)] _ := h50.sub ⟨rfl, rfl, rfl, rfl, rfl, rfl, rfl, rfl, trivial⟩; clear h50
    refine co_loop (fun mm a x => ∃ (k : Nat) (u : Value) (SB : Nat → Prop), Slots 46 [(1, .bool g), (5, u), (6, .int .i64 ((i : Nat) : Int)), (17, .agg #[ptQ (q 0), ptQ (q 1), ptQ (q 2), ptQ (q 3)]), (18, .int .i64 ((i : Nat) : Int)), (24, v38), (25, .int .i64 (((hkT (outM M i) i g).length : Nat) : Int)), (26, .int .i64 ((k : Nat) : Int))] a ∧ mm = (hkT (outM M i) i g).length - k ∧ (k ≤ (hkT (outM M i) i g).length) ∧ (∀ k, SB k → S k ∨ w.heap.size ≤ k) ∧ (∀ i, u.ownBlock = some i → ¬ SB i) ∧ (∀ i, v38.ownBlock = some i → ¬ SB i) ∧ HkP SB x b q (hkN (outM M i) i) ∧ x.ownsRow w14.heap.size 61 8 v38 (hkT (outM M i) i g).length ((hkT (outM M i) i g).flatMap segE) ∧ x.ownsRow w.heap.size 125 2 u (outH M g i ++ okH i ((hkT (outM M i) i g).take k)).length ((outH M g i ++ okH i ((hkT (outM M i) i g).take k)).flatMap outE) ∧ But (S) w x) ((hkT (outM M i) i g).length - 0) ?_ ?_
    have hr52 := own_butS hf19 hx41.but hofA
    · exact ⟨0, v, S39, h51.sub ⟨rfl, rfl, rfl, rfl, rfl, rfl, rfl, (slot_eq rfl (congrArg (Value.int .i64) (by first | rfl | omega))), trivial⟩, rfl, by omega, by exact hin8, by exact hof8, by exact hor8, hO40, hq42, (row_eq hr52 (by first | exact okH_nil | exact okH_yes (by assumption) (by assumption) | exact okH_no (by assumption) (by assumption))), hB44⟩
    · rintro k53 a54 w55 ⟨k, u, SB, h54, rfl, hi56, hi57, hi58, hi59, hf60, hf61, hf62, hB63⟩
      have hz64 := hB63.size
      have hinB : ∀ k, SB k → S k ∨ w.heap.size ≤ k := by assumption
      have hofB : ∀ i, u.ownBlock = some i → ¬ SB i := by assumption
      have horB : ∀ i, v38.ownBlock = some i → ¬ SB i := by assumption
      have hl65 := okH_len (i := i) (l := (hkT (outM M i) i g).take k)
      have hlk : ((hkT (outM M i) i g).take k).length ≤ k := List.length_take_le _ _
      have hl66 : (outH M g i ++ okH i ((hkT (outM M i) i g).take k)).length ≤ 8 * i + k := by rw [List.length_append]; omega
      refine co_seq ?_
      refine co_reg ?_
      refine pk0 (v := .bool (decide (((k : Nat) : Int) < (((hkT (outM M i) i g).length : Nat) : Int)))) h54 rfl fun a67 h67 => ?_; clear h54
      refine pl_nil ?_
      refine co_then ?_
      refine co_seq ?_
      cases hc68 : (decide (((k : Nat) : Int) < (((hkT (outM M i) i g).length : Nat) : Int)))
      ·
       rw [hc68] at h67
       have hp69 : ¬ (((k : Nat) : Int) < (((hkT (outM M i) i g).length : Nat) : Int)) := of_decide_eq_false hc68
       clear hc68
       refine co_false h67 rfl ?_
       refine wp_exit ?_
       refine co_thenX ?_
       refine co_thenX ?_
       refine co_blockX ?_
       refine co_blockN ?_
       refine co_then ?_
       refine co_reg ?_
       refine pk (v := .int .i64 ((i + 1 : Nat) : Int)) h67 rfl (rn_arith' rfl rfl rfl rfl rfl rfl (IntWalk.i64_in _ (by omega)) (by omega)) fun a70 h70 => ?_; clear h67
       refine pk0 (v := .int .i64 ((i + 1 : Nat) : Int)) h70 rfl fun a71 h71 => ?_; clear h70
       refine pl_nil ?_
       refine co_then ?_
       refine ⟨(4 - (i + 1)), by omega, ?_⟩
       have hin9 := hinB
       have hof9 : ∀ i, u.ownBlock = some i → ¬ SB i := hofB
       exact ⟨i + 1, u, SB, h71.sub ⟨rfl, rfl, rfl, rfl, trivial⟩, rfl, by omega, by exact hin9, by exact hof9, hf60, (row_eq hf62 (by first | rfl | exact okH_all (by omega) | exact outH_skip hnM)), hB63⟩
      ·
       rw [hc68] at h67
       have hp72 : ((k : Nat) : Int) < (((hkT (outM M i) i g).length : Nat) : Int) := of_decide_eq_true hc68
       clear hc68
       refine co_true h67 rfl ?_
       refine wp_skip ?_
       refine co_then ?_
       refine co_seq ?_
       refine wp_block ?_
       refine co_seq ?_
       refine co_reg ?_
       obtain ⟨y73, hy73⟩ : ∃ z, (hkT (outM M i) i g)[k]? = some z := ⟨_, List.getElem?_eq_getElem (by first | omega | (simp; done) | (simp; omega))⟩
       refine pk (v := pt (blkOf v38) (offOf v38 + k * 8)) h67 rfl (rn_index rfl rfl rfl Try.underlying67 Try.sizeOf61 (row_sl hf61 segE_len) (by omega) (by first | omega | (simp; done) | (simp; omega))) fun a74 h74 => ?_; clear h67
       refine pk (v := .agg #[.int .i64 y73.boot, .int .i64 y73.stream, .int .i64 y73.seq, .int .i64 y73.ab, .int .i64 y73.ast, .int .i64 y73.asq, .bool y73.has, .string y73.body]) h74 rfl (rn_loadN rfl rfl Try.underlying61 rfl (by kernel_rfl) (sl_at (row_sl hf61 segE_len) hy73)) fun a75 h75 => ?_; clear h74
       refine pw h75 rfl (op_new (v := fun N => pt N 0) (T := 61) (cs := #[.int .i64 0, .int .i64 0, .int .i64 0, .int .i64 0, .int .i64 0, .int .i64 0, .bool false, .string (⟨#[]⟩)]) (by kernel_rfl) (by kernel_rfl) (by kernel_rfl)) ?_; clear h75
       rintro _ w77 a76 ⟨N78, rfl, hN81, hz82, hk80, hg79⟩ h76
       have ha83 := row_fresh hf61 hN81
       have hu84 := row_under hf61 hN81
       have ha85 := row_fresh hf62 hN81
       have hu86 := row_under hf62 hN81
       have hz87 := hg79.size
       have ho88 := off_new (HkP.ofS hf60) hN81
       try dsimp only at h76
       refine pwD h76 rfl (op_storeN rfl rfl rfl (by kernel_rfl) (by kernel_rfl) hk80 rfl) ?_; clear h76
       rintro _ w90 a89 ⟨hk91, hz92, hg93⟩ h89
       have hk91' : Blk w90 N78 61 #[.int .i64 y73.boot, .int .i64 y73.stream, .int .i64 y73.seq, .int .i64 y73.ab, .int .i64 y73.ast, .int .i64 y73.asq, .bool y73.has, .string y73.body] := hk91; clear hk91
       have hz94 := hg93.size
       refine pl_nil ?_
       refine co_then ?_
       refine co_seq ?_
       refine co_reg ?_
       refine pk (v := .agg #[.int .i64 y73.boot, .int .i64 y73.stream, .int .i64 y73.seq, .int .i64 y73.ab, .int .i64 y73.ast, .int .i64 y73.asq, .bool y73.has, .string y73.body]) h89 rfl (rn_loadN rfl rfl Try.underlying61 rfl (by kernel_rfl) hk91'.all) fun a95 h95 => ?_; clear h89
       have hB98 := fbU_new hB63 hg79
       have hB99 := fbU_at hB98 hg93 (fun hlt => absurd hlt (by omega))
       have hO100 := HkP.gr hf60 hg79 (fun k e => by cases e)
       have hO101 := HkP.gr hO100 hg93 (fun k e => by cases e; exact ho88)
       have hr102 := row_kept_new hf61 hg79
       have hr103 := row_kept_at hr102 hg93 (ha83)
       have hr104 := row_kept_new hf62 hg79
       have hr105 := row_kept_at hr104 hg93 (ha85)
       refine pw h95 rfl (op_call (args := #[.agg #[.int .i64 y73.boot, .int .i64 y73.stream, .int .i64 y73.seq, .int .i64 y73.ab, .int .i64 y73.ast, .int .i64 y73.asq, .bool y73.has, .string y73.body]]) (R := fun res xw => res = .tuple #[.string ((putG y73).1), .int .i64 ((putG y73).2)] ∧ Below w90.heap.size w90 xw) rfl rfl rfl (by kernel_rfl) (by kernel_rfl) (Try.call44 _ _) (lkPut_any y73 w90 (hbody y73 (List.mem_of_getElem? hy73))) (by rintro e x ⟨rfl, h⟩; exact ⟨_, rfl, rfl, h⟩)) ?_; clear h95
       rintro _ w97 a96 ⟨rfl, hb106⟩ h96
       have hz107 := hb106.size
       have ho108 := HkP.ofS hO101
       refine pk0 (v := .tuple #[.string ((putG y73).1), .int .i64 ((putG y73).2)]) h96 rfl fun a109 h109 => ?_; clear h96
       refine pk0 (v := .string ((putG y73).1)) h109 rfl fun a110 h110 => ?_; clear h109
       refine pk0 (v := .int .i64 ((putG y73).2)) h110 rfl fun a111 h111 => ?_; clear h110
       refine pk0 (v := .string ((putG y73).1)) h111 rfl fun a112 h112 => ?_; clear h111
       refine pk0 (v := .int .i64 ((putG y73).2)) h112 rfl fun a113 h113 => ?_; clear h112
       refine pl_nil ?_
       refine co_then ?_
       refine co_seq ?_
       refine co_reg ?_
       refine pk0 (v := .int .i64 ((putG y73).2)) h113 rfl fun a114 h114 => ?_; clear h113
       refine pk0 (v := .bool ((putG y73).2 == 0)) h114 rfl fun a115 h115 => ?_; clear h114
       refine pl_nil ?_
       refine co_then ?_
       have hB117 := fbU_call hB99 hb106
       cases hc116 : ((putG y73).2 == 0)
       ·
        rw [hc116] at h115
        have hp118 : ¬ ((putG y73).2 = 0) := by first | simpa using hc116 | simpa [and_assoc] using hc116
        clear hc116
        refine co_false h115 rfl ?_
        refine wp_skip ?_
        refine co_blockN ?_
        refine co_then ?_
        refine co_reg ?_
        refine pk (v := .int .i64 ((k + 1 : Nat) : Int)) h115 rfl (rn_arith' rfl rfl rfl rfl rfl rfl (IntWalk.i64_in _ (by omega)) (by omega)) fun a119 h119 => ?_; clear h115
        refine pk0 (v := .int .i64 ((k + 1 : Nat) : Int)) h119 rfl fun a120 h120 => ?_; clear h119
        refine pl_nil ?_
        refine co_then ?_
        refine ⟨((hkT (outM M i) i g).length - (k + 1)), by omega, ?_⟩
        have hin8 := hinB
        have hof8 : ∀ i, u.ownBlock = some i → ¬ SB i := hofB
        have hor8 : ∀ i, v38.ownBlock = some i → ¬ SB i := horB
        have hO121 := HkP.gr hO101 (below_grown hb106) (fun k e => by cases e)
        have hr122 := row_kept_new hr103 (below_grown hb106)
        have hr123 := row_kept_new hr105 (below_grown hb106)
        exact ⟨k + 1, u, SB, h120.sub ⟨rfl, rfl, rfl, rfl, rfl, rfl, rfl, rfl, trivial⟩, rfl, by omega, by exact hin8, by exact hof8, by exact hor8, hO121, hr122, (row_eq hr123 (by first | exact okH_nil | exact okH_yes (by assumption) (by assumption) | exact okH_no (by assumption) (by assumption))), hB117⟩
       ·
        rw [hc116] at h115
        have hp124 : (putG y73).2 = 0 := by first | simpa using hc116 | simpa [and_assoc] using hc116
        clear hc116
        refine co_true h115 rfl ?_
        refine co_reg ?_
        refine pk0 (v := u) h115 rfl fun a125 h125 => ?_; clear h115
        refine pk0 (v := .int .i64 ((i : Nat) : Int)) h125 rfl fun a126 h126 => ?_; clear h125
        refine pk0 (v := .string ((putG y73).1)) h126 rfl fun a127 h127 => ?_; clear h126
        refine pk0 (v := .agg #[.int .i64 ((i : Nat) : Int), .string ((putG y73).1)]) h127 rfl fun a128 h128 => ?_; clear h127
        refine pw h128 rfl (op_new (v := fun N => .slice (some ⟨N, 0, none⟩) 1 1) (T := 125) (cs := #[.int .i64 ((i : Nat) : Int), .string ((putG y73).1)]) (by kernel_rfl) (by kernel_rfl) (by kernel_rfl)) ?_; clear h128
        rintro _ w130 a129 ⟨N131, rfl, hN134, hz135, hk133, hg132⟩ h129
        have hr137 := row_kept_new hr103 (below_grown hb106)
        have ha136 := row_fresh hr137 hN134
        have hu138 := row_under hr137 hN134
        have hr140 := row_kept_new hr105 (below_grown hb106)
        have ha139 := row_fresh hr140 hN134
        have hu141 := row_under hr140 hN134
        have hz142 := hg132.size
        have hO144 := HkP.gr hO101 (below_grown hb106) (fun k e => by cases e)
        have ho143 := off_new (HkP.ofS hO144) hN134
        try dsimp only at h129
        have hr151 := row_kept_new hr140 hg132
        refine pw h129 rfl (op_appendF rfl w.heap.size 125 (z := .agg #[.int .i64 0, .string (⟨#[]⟩)]) (size := 2) (bytes := 24) Try.underlying115 (by kernel_rfl) rfl rfl rfl hr151 rfl hk133 rfl (by kernel_rfl) (by first | omega | (simp only [List.length_nil, List.length_append, List.length_cons, List.length_take, List.length_drop]; omega)) (by first | omega | (simp only [List.length_nil, List.length_append, List.length_cons, List.length_take, List.length_drop]; omega)) (by omega)) ?_; clear h129
        rintro v147 w146 a145 ⟨hr148, hwt150, hg149⟩ h145
        have hr148' : w146.ownsRow w.heap.size 125 2 v147 (((outH M g i ++ okH i ((hkT (outM M i) i g).take k)) ++ [(((i : Nat) : Int), (putG y73).1)]).length) (((outH M g i ++ okH i ((hkT (outM M i) i g).take k)) ++ [(((i : Nat) : Int), (putG y73).1)]).flatMap outE) := row_push (y := (((i : Nat) : Int), (putG y73).1)) hr148 rfl rfl; clear hr148
        have hB154 := fbU_new hB117 hg132
        have hk155 := hk91'.below hb106
        have hk156 := hk155.kept hg132 (by simp)
        have hO157 := HkP.gr hO144 hg132 (fun k e => by cases e)
        have ho153 := HkP.ofS hO157
        have ho152 := offR_went hofB ho153 hwt150
        have hz158 := hg149.size
        refine pk0 (v := v147) h145 rfl fun a159 h159 => ?_; clear h145
        refine pl_nil ?_
        refine co_blockN ?_
        refine co_then ?_
        refine co_reg ?_
        refine pk (v := .int .i64 ((k + 1 : Nat) : Int)) h159 rfl (rn_arith' rfl rfl rfl rfl rfl rfl (IntWalk.i64_in _ (by omega)) (by omega)) fun a160 h160 => ?_; clear h159
        refine pk0 (v := .int .i64 ((k + 1 : Nat) : Int)) h160 rfl fun a161 h161 => ?_; clear h160
        refine pl_nil ?_
        refine co_then ?_
        refine ⟨((hkT (outM M i) i g).length - (k + 1)), by omega, ?_⟩
        have hin8 := hinB
        have hof8 : ∀ i, v147.ownBlock = some i → ¬ SB i := ho152
        have hor8 : ∀ i, v38.ownBlock = some i → ¬ SB i := horB
        have hO162 := HkP.gr hO157 hg149 (fun k e => hofB k e)
        have hr163 := row_kept_new hr137 hg132
        have hr164 := row_kept_row hr163 hr151 hg149 (by decide)
        have hB165 := fbU_row hB154 (InS.low hr151 (by omega)) hg149
        exact ⟨k + 1, v147, SB, h161.sub ⟨rfl, rfl, rfl, rfl, rfl, rfl, rfl, rfl, trivial⟩, rfl, by omega, by exact hin8, by exact hof8, by exact hor8, hO162, hr164, (row_eq hr148' (by first | exact okH_nil | exact okH_yes (by assumption) (by assumption) | exact okH_no (by assumption) (by assumption))), hB165⟩
end Go.Proofs.Ythmljllgfigebaa
