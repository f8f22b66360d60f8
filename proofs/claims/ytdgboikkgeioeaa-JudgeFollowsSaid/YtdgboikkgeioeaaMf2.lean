/- Put together: JdgBMe, JdgCMe, JpBMe, JpCMe, JpEMe, JpGMe. Conditions: as each says. -/
import Derived.Test.YtdgboikkgeioeaaMf1
import Derived.Scope
/- Package judge: State; Rows of a scan of all, of a key. Conditions: at most 999 operations. -/
namespace Go.Proofs.Ytdgboikkgeioeaa
open Go.RowKit Go.PlainAid
set_option linter.unusedVariables false
set_option linter.unusedSimpArgs false


set_option maxRecDepth 100000 in
theorem jState_any (v : Value) (l : List EntT) (tm : Int) (w : World) (hs : SliceOf entE 4 w v l) (hok : ∀ z ∈ l, EntOk w z) (hl20 : ∀ z ∈ l, z.opl.length ≤ 100) (ht : 0 ≤ tm ∧ tm < 18446744073709551616) (hlen : (stOJ tm l).length ≤ 999) :
    Calls Try.prog 10 #[v, .int .u64 tm] w fun e w' => ∃ (ys : List ValT) (u : Value), e = .returned (u) ∧ w'.ownsRow w.heap.size 38 2 u ys.length (ys.flatMap valE) ∧ SetG (fun y : ValT => y.1) (ovG [] (stOJ tm l)) ys ∧ ys.length ≤ 999 ∧ Below w.heap.size w w' := by
 have hB0 := Below.refl w.heap.size w
 have hl_hs := sl_len hs
 refine co_enter (n := 26) Try.func10 rfl rfl rfl [(0, v), (1, .int .u64 tm)] rfl (fun a h0 => ?_)
 refine co_seq ?_
 refine co_reg ?_
 refine pk0 (v := .slice none 0 0) h0 rfl fun a1 h1 => ?_; clear h0
 refine pl_nil ?_
 refine co_then ?_
 refine co_seq ?_
 refine co_reg ?_
 refine pk0 (v := .slice none 0 0) h1 rfl fun a2 h2 => ?_; clear h1
 refine pl_nil ?_
 refine co_then ?_
 refine co_seq ?_
 refine co_seq ?_
 refine co_reg ?_
 refine pk0 (v := v) h2 rfl fun a3 h3 => ?_; clear h2
 refine pk (v := .int .i64 ((l.length : Nat) : Int)) h3 rfl (rn_len rfl rfl Try.underlying22 hs) fun a4 h4 => ?_; clear h3
 refine pk0 (v := .int .i64 0) h4 rfl fun a5 h5 => ?_; clear h4
 refine pl_nil ?_
 refine co_then ?_
 refine wp_block ?_
 have h6 : Slots 26 [(1, .int .u64 tm), (5, .slice none 0 0), (8, v), (9, .int .i64 ((l.length : Nat) : Int)), (10, .int .i64 0)] _ := h5.sub ⟨rfl, rfl, rfl, rfl, rfl, trivial⟩; clear h5
 refine co_loop (fun mm a x => ∃ (i : Nat) (u : Value), Slots 26 [(1, .int .u64 tm), (5, u), (8, v), (9, .int .i64 ((l.length : Nat) : Int)), (10, .int .i64 ((i : Nat) : Int))] a ∧ mm = l.length - i ∧ (i ≤ l.length) ∧ x.ownsRow w.heap.size 66 3 u (stOJ tm (l.take i)).length ((stOJ tm (l.take i)).flatMap opE) ∧ Below w.heap.size w x) (l.length - 0) ?_ ?_
 · exact ⟨0, (.slice none 0 0), h6.sub ⟨rfl, rfl, rfl, rfl, (slot_eq rfl (congrArg (Value.int .i64) (by first | rfl | omega))), trivial⟩, rfl, by omega, (row_nilL _ _ _ _ _), hB0⟩
 · rintro k7 a8 w9 ⟨i, u, h8, rfl, hi10, hf11, hB12⟩
   have hz13 := hB12.size
   have hle9 := stOJ_le tm l i
   refine co_seq ?_
   refine co_reg ?_
   refine pk0 (v := .bool (decide (((i : Nat) : Int) < ((l.length : Nat) : Int)))) h8 rfl fun a14 h14 => ?_; clear h8
   refine pl_nil ?_
   refine co_then ?_
   refine co_seq ?_
   cases hc15 : (decide (((i : Nat) : Int) < ((l.length : Nat) : Int)))
   ·
    rw [hc15] at h14
    have hp16 : ¬ (((i : Nat) : Int) < ((l.length : Nat) : Int)) := of_decide_eq_false hc15
    clear hc15
    refine co_false h14 rfl ?_
    refine wp_exit ?_
    refine co_thenX ?_
    refine co_thenX ?_
    refine co_blockX ?_
    refine co_then ?_
    refine co_seq ?_
    refine co_reg ?_
    refine pk0 (v := u) h14 rfl fun a17 h17 => ?_; clear h14
    refine pw h17 rfl (op_call (args := #[.slice none 0 0, u]) (R := fun res xw => ∃ (ys : List ValT) (u : Value), res = u ∧ xw.ownsRow w9.heap.size 38 2 u ys.length (ys.flatMap valE) ∧ SetG (fun y : ValT => y.1) (ovG [] (stOJ tm (l.take i))) ys ∧ ys.length ≤ ([] : List ValT).length + (stOJ tm (l.take i)).length ∧ Below w9.heap.size w9 xw) rfl rfl rfl (by kernel_rfl) (by kernel_rfl) (Try.call26 _ _) (opsOver_any (.slice none 0 0) [] u (stOJ tm (l.take i)) w9 (SliceOf.nil _ _ _) (row_sl hf11 opE_len) (by simp only [List.length_nil]; omega)) (by rintro e x ⟨ys, u, h0, h⟩; exact ⟨_, h0, ys, u, rfl, h⟩)) ?_; clear h17
    rintro u20 w19 a18 ⟨ys21, _, rfl, hr22, hg23, hl24, hb25⟩ h18
    have hz26 := hb25.size
    refine pk0 (v := u20) h18 rfl fun a27 h27 => ?_; clear h18
    refine pl_nil ?_
    refine co_then ?_
    refine wp_ret ?_
    refine co_ret1 h27 rfl rfl ?_
    have hB28 := hb_call hB12 hb25
    have hti : l.take i = l := List.take_of_length_le (by omega)
    have hq1 := hg23; have hq2 := hl24; rw [hti] at hq1 hq2; simp only [List.length_nil] at hq2
    exact ⟨_, _, rfl, (row_lows hr22 (by omega)), hq1, by omega, hB28⟩
   ·
    rw [hc15] at h14
    have hp29 : ((i : Nat) : Int) < ((l.length : Nat) : Int) := of_decide_eq_true hc15
    clear hc15
    refine co_true h14 rfl ?_
    refine wp_skip ?_
    refine co_then ?_
    refine co_seq ?_
    refine wp_block ?_
    refine co_seq ?_
    refine co_reg ?_
    obtain ⟨y30, hy30⟩ : ∃ z, l[i]? = some z := ⟨_, List.getElem?_eq_getElem (by first | omega | (simp; done) | (simp; omega))⟩
    have oky30 := hok _ (List.mem_of_getElem? hy30)
    have k31 : 0 ≤ y30.ts := oky30.ts0
    have k32 : y30.ts < 18446744073709551616 := oky30.ts1
    have h20y30 := hl20 y30 (List.mem_of_getElem? hy30)
    refine pk (v := pt (blkOf v) (offOf v + i * 4)) h14 rfl (rn_index rfl rfl rfl Try.underlying22 Try.sizeOf28 (hs.below hB12) (by omega) (by first | omega | (simp; done) | (simp; omega))) fun a33 h33 => ?_; clear h14
    refine pk (v := .agg #[.int .i64 y30.client, .int .i64 y30.req, y30.ops, .int .u64 y30.ts]) h33 rfl (rn_loadN rfl rfl Try.underlying28 rfl (by kernel_rfl) (sl_at (hs.below hB12) hy30)) fun a34 h34 => ?_; clear h33
    refine pw h34 rfl (op_new (v := fun N => pt N 0) (T := 28) (cs := #[.int .i64 0, .int .i64 0, .slice none 0 0, .int .u64 0]) (by kernel_rfl) (by kernel_rfl) (by kernel_rfl)) ?_; clear h34
    rintro _ w36 a35 ⟨N37, rfl, hN40, hz41, hk39, hg38⟩ h35
    have ha42 := row_fresh hf11 hN40
    have hz43 := hg38.size
    try dsimp only at h35
    have hB49 := hb_new hB12 hg38
    refine pwD h35 rfl (op_storeN rfl rfl rfl (all_cons rfl (all_cons rfl (all_cons (sl_one (oky30.ops.below hB49)) (all_cons rfl all_nil)))) (by kernel_rfl) hk39 rfl) ?_; clear h35
    rintro _ w45 a44 ⟨hk46, hz47, hg48⟩ h44
    have hk46' : Blk w45 N37 28 #[.int .i64 y30.client, .int .i64 y30.req, y30.ops, .int .u64 y30.ts] := hk46; clear hk46
    have hz50 := hg48.size
    refine pl_nil ?_
    refine co_then ?_
    refine co_seq ?_
    refine co_reg ?_
    refine pk0 (v := pt N37 3) h44 rfl fun a51 h51 => ?_; clear h44
    refine pk (v := .int .u64 y30.ts) h51 rfl (rn_load1 rfl rfl Try.isAgg23 (hk46'.cell rfl)) fun a52 h52 => ?_; clear h51
    refine pk0 (v := .int .u64 tm) h52 rfl fun a53 h53 => ?_; clear h52
    refine pk0 (v := .bool (decide (y30.ts ≤ tm))) h53 rfl fun a54 h54 => ?_; clear h53
    refine pl_nil ?_
    refine co_then ?_
    have hB56 := hb_at hB49 hg48 (by omega)
    have hr57 := row_kept_new hf11 hg38
    have hr58 := row_kept_at hr57 hg48 (ha42)
    cases hc55 : (decide (y30.ts ≤ tm))
    ·
     rw [hc55] at h54
     have hp59 : ¬ (y30.ts ≤ tm) := of_decide_eq_false hc55
     clear hc55
     refine co_false h54 rfl ?_
     refine wp_skip ?_
     refine co_blockN ?_
     refine co_then ?_
     refine co_reg ?_
     refine pk (v := .int .i64 ((i + 1 : Nat) : Int)) h54 rfl (rn_arith' rfl rfl rfl rfl rfl rfl (IntWalk.i64_in _ (by omega)) (by omega)) fun a60 h60 => ?_; clear h54
     refine pk0 (v := .int .i64 ((i + 1 : Nat) : Int)) h60 rfl fun a61 h61 => ?_; clear h60
     refine pl_nil ?_
     refine co_then ?_
     refine ⟨(l.length - (i + 1)), by omega, ?_⟩
     exact ⟨i + 1, u, h61.sub ⟨rfl, rfl, rfl, rfl, rfl, trivial⟩, rfl, by omega, (row_eq hr58 (by first | exact stOJ_y hy30 (by omega) | exact stOJ_n hy30 (by omega))), hB56⟩
    ·
     rw [hc55] at h54
     have hp62 : y30.ts ≤ tm := of_decide_eq_true hc55
     clear hc55
     refine co_true h54 rfl ?_
     refine co_reg ?_
     refine pk0 (v := u) h54 rfl fun a63 h63 => ?_; clear h54
     refine pk0 (v := pt N37 0) h63 rfl fun a64 h64 => ?_; clear h63
     refine pk0 (v := pt N37 2) h64 rfl fun a65 h65 => ?_; clear h64
     refine pk (v := y30.ops) h65 rfl (rn_load1 rfl rfl Try.isAgg24 (hk46'.cell rfl)) fun a66 h66 => ?_; clear h65
     refine pw h66 rfl (op_appendSrc rfl w.heap.size 66 (z := .agg #[.string (⟨#[]⟩), .string (⟨#[]⟩), .bool false]) (size := 3) (bytes := 40) Try.underlying24 (by kernel_rfl) rfl rfl rfl hr58 rfl (oky30.ops.below hB56) (fun y hy => ⟨opE_len y, opE_one y⟩) (by first | omega | (simp only [List.length_nil, List.length_append, List.length_cons, List.length_take, List.length_drop]; omega)) (by first | omega | (simp only [List.length_nil, List.length_append, List.length_cons, List.length_take, List.length_drop]; omega)) (by omega)) ?_; clear h66
     rintro v69 w68 a67 ⟨hr70, hg71⟩ h67
     have hr70' : w68.ownsRow w.heap.size 66 3 v69 ((stOJ tm (l.take i) ++ y30.opl).length) ((stOJ tm (l.take i) ++ y30.opl).flatMap opE) := row_app hr70; clear hr70
     have hz73 := hg71.size
     refine pk0 (v := v69) h67 rfl fun a74 h74 => ?_; clear h67
     refine pl_nil ?_
     refine co_blockN ?_
     refine co_then ?_
     refine co_reg ?_
     refine pk (v := .int .i64 ((i + 1 : Nat) : Int)) h74 rfl (rn_arith' rfl rfl rfl rfl rfl rfl (IntWalk.i64_in _ (by omega)) (by omega)) fun a75 h75 => ?_; clear h74
     refine pk0 (v := .int .i64 ((i + 1 : Nat) : Int)) h75 rfl fun a76 h76 => ?_; clear h75
     refine pl_nil ?_
     refine co_then ?_
     refine ⟨(l.length - (i + 1)), by omega, ?_⟩
     have hB77 := hb_row hB56 hr58 (by omega) hg71
     exact ⟨i + 1, v69, h76.sub ⟨rfl, rfl, rfl, rfl, rfl, trivial⟩, rfl, by omega, (row_eq hr70' (by first | exact stOJ_y hy30 (by omega) | exact stOJ_n hy30 (by omega))), hB77⟩
set_option maxRecDepth 100000 in
theorem jRows1 (p : ByteArray × ByteArray) (k : ByteArray) (N : Nat) (w : World) (hN : Blk w N 35 #[.int .i64 1, .int .i64 0, .string k, .string (⟨#[]⟩), .int .u64 0, .int .i64 0, .slice none 0 0]) :
    Calls Try.prog 27 #[.agg #[.string p.1, .string p.2], pt N 0] w fun e w' => e = .returned (.bool (p.1.toList == k.toList)) ∧ Below w.heap.size w w' := by
 have hB0 := Below.refl w.heap.size w
 have hl_hN := hN.lt
 refine co_enter (n := 9) Try.func27 rfl rfl rfl [(0, .agg #[.string p.1, .string p.2]), (1, pt N 0)] rfl (fun a h0 => ?_)
 refine co_seq ?_
 refine co_reg ?_
 refine pw h0 rfl (op_new (v := fun N => pt N 0) (T := 38) (cs := #[.string p.1, .string p.2]) (by kernel_rfl) (by kernel_rfl) (by kernel_rfl)) ?_; clear h0
 rintro _ w2 a1 ⟨N3, rfl, hN6, hz7, hk5, hg4⟩ h1
 have hz8 := hg4.size
 try dsimp only at h1
 refine pk0 (v := .bool false) h1 rfl fun a9 h9 => ?_; clear h1
 refine pl_nil ?_
 refine co_then ?_
 refine co_seq ?_
 refine co_reg ?_
 refine pk0 (v := pt N3 0) h9 rfl fun a10 h10 => ?_; clear h9
 refine pk (v := .string p.1) h10 rfl (rn_load1 rfl rfl Try.isAgg9 (hk5.cell rfl)) fun a11 h11 => ?_; clear h10
 refine pk0 (v := pt N 2) h11 rfl fun a12 h12 => ?_; clear h11
 have hk13 := hN.kept hg4 (by simp)
 refine pk (v := .string k) h12 rfl (rn_load1 rfl rfl Try.isAgg9 (hk13.cell rfl)) fun a14 h14 => ?_; clear h12
 refine pk0 (v := .bool (p.1.toList == k.toList)) h14 rfl fun a15 h15 => ?_; clear h14
 refine pk0 (v := .bool (p.1.toList == k.toList)) h15 rfl fun a16 h16 => ?_; clear h15
 refine pl_nil ?_
 refine co_then ?_
 refine wp_ret ?_
 refine co_ret1 h16 rfl rfl ?_
 have hB17 := hb_new hB0 hg4
 exact ⟨rfl, hB17⟩
set_option maxRecDepth 100000 in
set_option maxHeartbeats 1600000 in
theorem jRowsG (v : Value) (l : List EntT) (tm : Int) (k : ByteArray) (w : World) (hs : SliceOf entE 4 w v l) (hok : ∀ z ∈ l, EntOk w z) (hl20 : ∀ z ∈ l, z.opl.length ≤ 100) (ht : 0 ≤ tm ∧ tm < 18446744073709551616) (hlen : (stOJ tm l).length ≤ 999) :
    Calls Try.prog 11 #[v, .agg #[.int .i64 1, .int .i64 0, .string k, .string (⟨#[]⟩), .int .u64 0, .int .i64 0, .slice none 0 0], .int .u64 tm] w fun e w' => ∃ (ys : List ValT) (u : Value), e = .returned (u) ∧ w'.ownsRow w.heap.size 38 2 u (fstK k ys).length ((fstK k ys).flatMap valE) ∧ SetG (fun y : ValT => y.1) (ovG [] (stOJ tm l)) ys ∧ Below w.heap.size w w' := by
 have hB0 := Below.refl w.heap.size w
 have hl_hs := sl_len hs
 refine co_enter (n := 46) Try.func11 rfl rfl rfl [(0, v), (1, .agg #[.int .i64 1, .int .i64 0, .string k, .string (⟨#[]⟩), .int .u64 0, .int .i64 0, .slice none 0 0]), (2, .int .u64 tm)] rfl (fun a h0 => ?_)
 refine co_seq ?_
 refine co_reg ?_
 refine pw h0 rfl (op_new (v := fun N => pt N 0) (T := 35) (cs := #[.int .i64 1, .int .i64 0, .string k, .string (⟨#[]⟩), .int .u64 0, .int .i64 0, .slice none 0 0]) (by kernel_rfl) (by kernel_rfl) (by kernel_rfl)) ?_; clear h0
 rintro _ w2 a1 ⟨N3, rfl, hN6, hz7, hk5, hg4⟩ h1
 have hz8 := hg4.size
 try dsimp only at h1
 refine pk0 (v := .slice none 0 0) h1 rfl fun a9 h9 => ?_; clear h1
 refine pl_nil ?_
 refine co_then ?_
 refine co_seq ?_
 refine co_reg ?_
 refine pk0 (v := .slice none 0 0) h9 rfl fun a10 h10 => ?_; clear h9
 refine pl_nil ?_
 refine co_then ?_
 refine co_seq ?_
 refine co_reg ?_
 refine pk0 (v := .int .i64 1) h10 rfl fun a11 h11 => ?_; clear h10
 refine pl_nil ?_
 refine co_then ?_
 refine co_seq ?_
 refine co_reg ?_
 refine pk0 (v := .func (.func 27) #[] #[pt N3 0]) h11 rfl fun a12 h12 => ?_; clear h11
 refine pk0 (v := .func (.func 27) #[] #[pt N3 0]) h12 rfl fun a13 h13 => ?_; clear h12
 refine pl_nil ?_
 refine co_then ?_
 refine co_seq ?_
 refine co_seq ?_
 refine co_reg ?_
 refine pk0 (v := pt N3 0) h13 rfl fun a14 h14 => ?_; clear h13
 refine pk (v := .int .i64 1) h14 rfl (rn_load1 rfl rfl Try.isAgg3 (hk5.cell rfl)) fun a15 h15 => ?_; clear h14
 refine pl_nil ?_
 refine co_then ?_
 refine wp_block ?_
 refine co_seq ?_
 refine co_seq ?_
 refine co_reg ?_
 refine pk0 (v := .bool ((1 : Int) == 1)) h15 rfl fun a16 h16 => ?_; clear h15
 refine pk0 (v := .bool ((1 : Int) == 1)) h16 rfl fun a17 h17 => ?_; clear h16
 refine pl_nil ?_
 refine co_then ?_
 have hc18 : ((1 : Int) == 1) = true := by first | (simp; done) | (simp; omega) | exact beq_false_of_ne (by omega) | exact beq_iff_eq.2 (by omega)
 rw [hc18] at h17; clear hc18
 refine co_true h17 rfl ?_
 refine wp_skip ?_
 refine co_then ?_
 refine co_true h17 rfl ?_
 refine wp_skip ?_
 refine co_blockN ?_
 refine co_then ?_
 refine co_seq ?_
 refine co_seq ?_
 refine co_reg ?_
 refine pk0 (v := v) h17 rfl fun a19 h19 => ?_; clear h17
 refine pk0 (v := .int .u64 tm) h19 rfl fun a20 h20 => ?_; clear h19
 have hB23 := hb_new hB0 hg4
 refine pw h20 rfl (op_call (args := #[v, .int .u64 tm]) (R := fun res xw => ∃ ys : List ValT, ∃ u : Value, res = u ∧ xw.ownsRow w2.heap.size 38 2 u ys.length (ys.flatMap valE) ∧ SetG (fun y : ValT => y.1) (ovG [] (stOJ tm l)) ys ∧ ys.length ≤ 999 ∧ Below w2.heap.size w2 xw) rfl rfl rfl (by kernel_rfl) (by kernel_rfl) (Try.call10 _ _) (jState_any v l tm w2 (hs.below hB23) (fun z hz => (hok z hz).below hB23) (by first | omega | (simp; done) | (simp; omega)) (by first | omega | (simp; done) | (simp; omega)) (by first | omega | (simp; done) | (simp; omega))) (by rintro e x ⟨ys, u, rfl, hq26, hq27, hq28, hb29⟩; exact ⟨_, rfl, ⟨ys, u, rfl, hq26, hq27, hq28, hb29⟩⟩)) ?_; clear h20
 rintro u25 w22 a21 ⟨ys24, _, rfl, hq26, hq27, hq28, hb29⟩ h21
 have hz30 := hb29.size
 have hl31 := sl_len (row_sl hq26 valE_len)
 refine pk (v := .int .i64 ((ys24.length : Nat) : Int)) h21 rfl (rn_lenOwn rfl rfl Try.underlying31 hq26) fun a32 h32 => ?_; clear h21
 refine pk0 (v := .int .i64 0) h32 rfl fun a33 h33 => ?_; clear h32
 refine pl_nil ?_
 refine co_then ?_
 refine wp_block ?_
 have hB34 := hb_call hB23 hb29
 have hun9 := fun i (hi : Value.ownBlock u25 = some i) => (hq26.lt i hi).2
 have h35 : Slots 46 [(4, pt N3 0), (7, .slice none 0 0), (8, .int .i64 1), (9, .func (.func 27) #[] #[pt N3 0]), (25, u25), (26, .int .i64 ((ys24.length : Nat) : Int)), (27, .int .i64 0)] _ := h33.sub ⟨rfl, rfl, rfl, rfl, rfl, rfl, rfl, trivial⟩; clear h33
 refine co_loop (fun mm a x => ∃ (j : Nat) (un : Value), Slots 46 [(4, pt N3 0), (7, un), (8, .int .i64 1), (9, .func (.func 27) #[] #[pt N3 0]), (25, u25), (26, .int .i64 ((ys24.length : Nat) : Int)), (27, .int .i64 ((j : Nat) : Int))] a ∧ mm = ys24.length - j ∧ (j ≤ ys24.length) ∧ w22.heap.size ≤ x.heap.size ∧ x.ownsRow w2.heap.size 38 2 u25 ys24.length (ys24.flatMap valE) ∧ x.ownsRow w22.heap.size 38 2 un (fstK k (ys24.take j)).length ((fstK k (ys24.take j)).flatMap valE) ∧ Below w.heap.size w x ∧ Blk x N3 35 #[.int .i64 1, .int .i64 0, .string k, .string (⟨#[]⟩), .int .u64 0, .int .i64 0, .slice none 0 0]) (ys24.length - 0) ?_ ?_
 have hk36 := hk5.below hb29
 · exact ⟨0, (.slice none 0 0), h35.sub ⟨rfl, rfl, rfl, rfl, rfl, rfl, (slot_eq rfl (congrArg (Value.int .i64) (by first | rfl | omega))), trivial⟩, rfl, by omega, (by omega), hq26, (row_nilL _ _ _ _ _), hB34, hk36⟩
 · rintro k37 a38 w39 ⟨j, un, h38, rfl, hi40, hf41, hf42, hf43, hB44, hk45⟩
   have hz46 := hB44.size
   have hl47 := hk45.lt
   have hle9 : (fstK k (ys24.take j)).length ≤ 1 := fstK_len _ _
   refine co_seq ?_
   refine co_reg ?_
   refine pk0 (v := .bool (decide (((j : Nat) : Int) < ((ys24.length : Nat) : Int)))) h38 rfl fun a48 h48 => ?_; clear h38
   refine pl_nil ?_
   refine co_then ?_
   refine co_seq ?_
   cases hc49 : (decide (((j : Nat) : Int) < ((ys24.length : Nat) : Int)))
   ·
    rw [hc49] at h48
    have hp50 : ¬ (((j : Nat) : Int) < ((ys24.length : Nat) : Int)) := of_decide_eq_false hc49
    clear hc49
    refine co_false h48 rfl ?_
    refine wp_exit ?_
    refine co_thenX ?_
    refine co_thenX ?_
    refine co_blockX ?_
    refine co_then ?_
    refine co_seq ?_
    refine co_reg ?_
    refine pk0 (v := un) h48 rfl fun a51 h51 => ?_; clear h48
    refine pk0 (v := un) h51 rfl fun a52 h52 => ?_; clear h51
    refine pl_nil ?_
    refine co_then ?_
    refine wp_ret ?_
    refine co_ret1 h52 rfl rfl ?_
    have htj : ys24.take j = ys24 := List.take_of_length_le (by omega)
    exact ⟨ys24, _, rfl, by rw [show fstK k ys24 = fstK k (ys24.take j) by rw [htj]]; exact (row_lows hf43 (by omega)), hq27, hB44⟩
   ·
    rw [hc49] at h48
    have hp53 : ((j : Nat) : Int) < ((ys24.length : Nat) : Int) := of_decide_eq_true hc49
    clear hc49
    refine co_true h48 rfl ?_
    refine wp_skip ?_
    refine co_then ?_
    refine co_seq ?_
    refine wp_block ?_
    refine co_seq ?_
    refine co_reg ?_
    obtain ⟨y54, hy54⟩ : ∃ z, ys24[j]? = some z := ⟨_, List.getElem?_eq_getElem (by first | omega | (simp; done) | (simp; omega))⟩
    refine pk (v := pt (blkOf u25) (offOf u25 + j * 2)) h48 rfl (rn_index rfl rfl rfl Try.underlying31 Try.sizeOf38 (row_sl hf42 valE_len) (by omega) (by first | omega | (simp; done) | (simp; omega))) fun a55 h55 => ?_; clear h48
    refine pk (v := .agg #[.string y54.1, .string y54.2]) h55 rfl (rn_loadN rfl rfl Try.underlying38 rfl (by kernel_rfl) (sl_at (row_sl hf42 valE_len) hy54)) fun a56 h56 => ?_; clear h55
    refine pw h56 rfl (op_new (v := fun N => pt N 0) (T := 38) (cs := #[.string (⟨#[]⟩), .string (⟨#[]⟩)]) (by kernel_rfl) (by kernel_rfl) (by kernel_rfl)) ?_; clear h56
    rintro _ w58 a57 ⟨N59, rfl, hN62, hz63, hk61, hg60⟩ h57
    have ha64 := row_fresh hf42 hN62
    have ha65 := row_fresh hf43 hN62
    have hz66 := hg60.size
    try dsimp only at h57
    refine pwD h57 rfl (op_storeN rfl rfl rfl (by kernel_rfl) (by kernel_rfl) hk61 rfl) ?_; clear h57
    rintro _ w68 a67 ⟨hk69, hz70, hg71⟩ h67
    have hk69' : Blk w68 N59 38 #[.string y54.1, .string y54.2] := hk69; clear hk69
    have hz72 := hg71.size
    refine pl_nil ?_
    refine co_then ?_
    refine co_seq ?_
    refine co_reg ?_
    refine pk0 (v := un) h67 rfl fun a73 h73 => ?_; clear h67
    have hr74 := row_kept_new hf43 hg60
    have hr75 := row_kept_at hr74 hg71 (ha65)
    refine pk (v := .int .i64 (((fstK k (ys24.take j)).length : Nat) : Int)) h73 rfl (rn_lenOwn rfl rfl Try.underlying31 hr75) fun a76 h76 => ?_; clear h73
    refine pk0 (v := .int .i64 1) h76 rfl fun a77 h77 => ?_; clear h76
    refine pk0 (v := .bool (decide ((((fstK k (ys24.take j)).length : Nat) : Int) < 1))) h77 rfl fun a78 h78 => ?_; clear h77
    refine pk0 (v := .bool (decide ((((fstK k (ys24.take j)).length : Nat) : Int) < 1))) h78 rfl fun a79 h79 => ?_; clear h78
    have hB81 := hb_new hB44 hg60
    have hB82 := hb_at hB81 hg71 (by omega)
    have hk83 := hk45.kept hg60 (by simp)
    have hk84 := hk83.kept hg71 (by simp; omega)
    have hr85 := row_kept_new hf42 hg60
    have hr86 := row_kept_at hr85 hg71 (ha64)
    cases hc80 : (decide ((((fstK k (ys24.take j)).length : Nat) : Int) < 1))
    ·
     rw [hc80] at h79
     have hp87 : ¬ ((((fstK k (ys24.take j)).length : Nat) : Int) < 1) := of_decide_eq_false hc80
     clear hc80
     refine psk h79 rfl fun a88 h88 => ?_; clear h79
     refine psk h88 rfl fun a89 h89 => ?_; clear h88
     refine psk h89 rfl fun a90 h90 => ?_; clear h89
     refine pk0 (v := .bool false) h90 rfl fun a91 h91 => ?_; clear h90
     refine pl_nil ?_
     refine co_then ?_
     refine co_false h91 rfl ?_
     refine wp_skip ?_
     refine co_blockN ?_
     refine co_then ?_
     refine co_reg ?_
     refine pk (v := .int .i64 ((j + 1 : Nat) : Int)) h91 rfl (rn_arith' rfl rfl rfl rfl rfl rfl (IntWalk.i64_in _ (by omega)) (by omega)) fun a92 h92 => ?_; clear h91
     refine pk0 (v := .int .i64 ((j + 1 : Nat) : Int)) h92 rfl fun a93 h93 => ?_; clear h92
     refine pl_nil ?_
     refine co_then ?_
     refine ⟨(ys24.length - (j + 1)), by omega, ?_⟩
     exact ⟨j + 1, un, h93.sub ⟨rfl, rfl, rfl, rfl, rfl, rfl, rfl, trivial⟩, rfl, by omega, (by omega), hr86, (row_eq hr75 (by first | exact fstK_y hy54 (by omega) (by assumption) | exact fstK_f hy54 (by omega) | exact fstK_n hy54 (by assumption))), hB82, hk84⟩
    ·
     rw [hc80] at h79
     have hp94 : (((fstK k (ys24.take j)).length : Nat) : Int) < 1 := of_decide_eq_true hc80
     clear hc80
     refine pk0 (v := .func (.func 27) #[] #[pt N3 0]) h79 rfl fun a95 h95 => ?_; clear h79
     refine pk (v := .agg #[.string y54.1, .string y54.2]) h95 rfl (rn_loadN rfl rfl Try.underlying38 rfl (by kernel_rfl) hk69'.all) fun a96 h96 => ?_; clear h95
     refine pw h96 rfl (op_callV (args := #[.agg #[.string y54.1, .string y54.2], pt N3 0]) (R := fun res xw => res = .bool (y54.1.toList == k.toList) ∧ Below w68.heap.size w68 xw) rfl rfl rfl (by kernel_rfl) (by kernel_rfl) (Try.call27 _ _) (jRows1 y54 k N3 w68 hk84) (by rintro e x ⟨rfl, hb99⟩; exact ⟨_, rfl, ⟨rfl, hb99⟩⟩)) ?_; clear h96
     rintro _ w98 a97 ⟨rfl, hb99⟩ h97
     have hz100 := hb99.size
     refine pk0 (v := .bool (y54.1.toList == k.toList)) h97 rfl fun a101 h101 => ?_; clear h97
     refine pl_nil ?_
     refine co_then ?_
     have hB103 := hb_call hB82 hb99
     cases hc102 : (y54.1.toList == k.toList)
     ·
      rw [hc102] at h101
      refine co_false h101 rfl ?_
      refine wp_skip ?_
      refine co_blockN ?_
      refine co_then ?_
      refine co_reg ?_
      refine pk (v := .int .i64 ((j + 1 : Nat) : Int)) h101 rfl (rn_arith' rfl rfl rfl rfl rfl rfl (IntWalk.i64_in _ (by omega)) (by omega)) fun a104 h104 => ?_; clear h101
      refine pk0 (v := .int .i64 ((j + 1 : Nat) : Int)) h104 rfl fun a105 h105 => ?_; clear h104
      refine pl_nil ?_
      refine co_then ?_
      refine ⟨(ys24.length - (j + 1)), by omega, ?_⟩
      have hr106 := row_kept_new hr86 (below_grown hb99)
      have hr107 := row_kept_new hr75 (below_grown hb99)
      have hk108 := hk84.below hb99
      exact ⟨j + 1, un, h105.sub ⟨rfl, rfl, rfl, rfl, rfl, rfl, rfl, trivial⟩, rfl, by omega, (by omega), hr106, (row_eq hr107 (by first | exact fstK_y hy54 (by omega) (by assumption) | exact fstK_f hy54 (by omega) | exact fstK_n hy54 (by assumption))), hB103, hk108⟩
     ·
      rw [hc102] at h101
      refine co_true h101 rfl ?_
      refine co_reg ?_
      refine pk0 (v := un) h101 rfl fun a109 h109 => ?_; clear h101
      have hk110 := hk69'.below hb99
      refine pk (v := .agg #[.string y54.1, .string y54.2]) h109 rfl (rn_loadN rfl rfl Try.underlying38 rfl (by kernel_rfl) hk110.all) fun a111 h111 => ?_; clear h109
      refine pw h111 rfl (op_new (v := fun N => .slice (some ⟨N, 0, none⟩) 1 1) (T := 38) (cs := #[.string y54.1, .string y54.2]) (by kernel_rfl) (by kernel_rfl) (by kernel_rfl)) ?_; clear h111
      rintro _ w113 a112 ⟨N114, rfl, hN117, hz118, hk116, hg115⟩ h112
      have hr120 := row_kept_new hr86 (below_grown hb99)
      have ha119 := row_fresh hr120 hN117
      have hr122 := row_kept_new hr75 (below_grown hb99)
      have ha121 := row_fresh hr122 hN117
      have hz123 := hg115.size
      try dsimp only at h112
      have hr130 := row_kept_new hr122 hg115
      refine pw h112 rfl (op_append rfl w22.heap.size 38 (z := .agg #[.string (⟨#[]⟩), .string (⟨#[]⟩)]) (size := 2) (bytes := 32) Try.underlying31 (by kernel_rfl) rfl rfl rfl hr130 rfl hk116 rfl (by kernel_rfl) (by first | omega | (simp only [List.length_nil, List.length_append, List.length_cons, List.length_take, List.length_drop]; omega)) (by first | omega | (simp only [List.length_nil, List.length_append, List.length_cons, List.length_take, List.length_drop]; omega)) (by omega)) ?_; clear h112
      rintro v126 w125 a124 ⟨hr127, hg128⟩ h124
      have hr127' : w125.ownsRow w22.heap.size 38 2 v126 ((fstK k (ys24.take j) ++ [(y54.1, y54.2)]).length) ((fstK k (ys24.take j) ++ [(y54.1, y54.2)]).flatMap valE) := row_push (y := (y54.1, y54.2)) hr127 rfl rfl; clear hr127
      have hz131 := hg128.size
      refine pk0 (v := v126) h124 rfl fun a132 h132 => ?_; clear h124
      refine pl_nil ?_
      refine co_blockN ?_
      refine co_then ?_
      refine co_reg ?_
      refine pk (v := .int .i64 ((j + 1 : Nat) : Int)) h132 rfl (rn_arith' rfl rfl rfl rfl rfl rfl (IntWalk.i64_in _ (by omega)) (by omega)) fun a133 h133 => ?_; clear h132
      refine pk0 (v := .int .i64 ((j + 1 : Nat) : Int)) h133 rfl fun a134 h134 => ?_; clear h133
      refine pl_nil ?_
      refine co_then ?_
      refine ⟨(ys24.length - (j + 1)), by omega, ?_⟩
      have hr135 := row_kept_new hr120 hg115
      have hr136 := row_kept_ap hr135 hr130 hun9 hg128
      have hB137 := hb_new hB103 hg115
      have hB138 := hb_row hB137 hr130 (by omega) hg128
      have hk139 := hk84.below hb99
      have hk140 := hk139.kept hg115 (by simp)
      have hk141 := hk140.kept hg128 (own_neT hr130 hk140 (by decide))
      exact ⟨j + 1, v126, h134.sub ⟨rfl, rfl, rfl, rfl, rfl, rfl, rfl, trivial⟩, rfl, by omega, (by omega), hr136, (row_eq hr127' (by first | exact fstK_y hy54 (by omega) (by assumption) | exact fstK_f hy54 (by omega) | exact fstK_n hy54 (by assumption))), hB138, hk141⟩
end Go.Proofs.Ytdgboikkgeioeaa

/- catenalaw38: awake. Conditions: none. -/
namespace Go.Proofs.Ytdgboikkgeioeaa
open Go.RowKit Go.PlainAid
set_option linter.unusedVariables false
set_option linter.unusedSimpArgs false


section
variable {Q : Exit → Act → World → Prop} {a : Act} {w : World}
theorem co_scopeR (h : Q .ret a w) : Exit.noGoto Q .ret a w := h
end
theorem awL20 (a b : Nat) : ∀ z ∈ awL a b, z.opl.length ≤ 100 := fun z hz => by
  simp [awL] at hz
  rcases hz with rfl | rfl <;> simp
theorem awS_len (t : Int) (a b : Nat) : (stOJ t (awL a b)).length ≤ 999 := by
  have h := sum_stJ t (awL a b) 0
  have e : (awL a b).foldl (fun n e => n + (e.opl.length : Int)) 0 = 2 := rfl
  rw [e] at h; omega
theorem awState_any {a b : Nat} (v : Value) (L : List EntT) (hL : L = awL a b) (w : World) (hs : SliceOf entE 4 w v L) (hok : ∀ z ∈ L, EntOk w z) : Calls Try.prog 10 #[v, .int .u64 5] w fun e w' => ∃ u : Value, e = .returned u ∧ w'.ownsRow w.heap.size 38 2 u ([(⟨#[97]⟩, ⟨#[49]⟩)] : List ValT).length (([(⟨#[97]⟩, ⟨#[49]⟩)] : List ValT).flatMap valE) ∧ Below w.heap.size w w' := by
  refine (jState_any v L 5 w hs hok (by rw [hL]; exact awL20 a b) (by omega) (by rw [hL]; exact awS_len _ _ _)).mono ?_
  rintro e x ⟨ys, u, rfl, h1, h2, h3, h4⟩
  rw [hL] at h2
  rw [aw5 h2] at h1
  exact ⟨u, rfl, h1, h4⟩
theorem aw_one {y : ValT} {j : Nat} (h : ([(⟨#[97]⟩, ⟨#[49]⟩)] : List ValT)[j]? = some y) : y = (⟨#[97]⟩, ⟨#[49]⟩) := by
  cases j with
  | zero => simpa using h.symm
  | succ j => simp at h

set_option maxRecDepth 100000 in
theorem jReads_a  (w : World)  :
    Calls Try.prog 49 #[.agg #[.int .i64 0, .int .i64 0, .int .i64 1, .int .i64 0, .string (⟨#[97]⟩), .string (⟨#[]⟩), .int .u64 0, .int .i64 0, .slice none 0 0, .int .i64 0, .int .i64 1, .int .i64 0, .int .i64 0, .int .u64 7, .int .i64 0, .slice none 0 0]] w fun e w' => e = .returned (.bool true) ∧ Below w.heap.size w w' := by
 have hB0 := Below.refl w.heap.size w
 refine co_enter (n := 19) Try.func49 rfl rfl rfl [(0, .agg #[.int .i64 0, .int .i64 0, .int .i64 1, .int .i64 0, .string (⟨#[97]⟩), .string (⟨#[]⟩), .int .u64 0, .int .i64 0, .slice none 0 0, .int .i64 0, .int .i64 1, .int .i64 0, .int .i64 0, .int .u64 7, .int .i64 0, .slice none 0 0])] rfl (fun a h0 => ?_)
 refine co_seq ?_
 refine co_reg ?_
 refine pw h0 rfl (op_new (v := fun N => pt N 0) (T := 72) (cs := #[.int .i64 0, .int .i64 0, .int .i64 1, .int .i64 0, .string (⟨#[97]⟩), .string (⟨#[]⟩), .int .u64 0, .int .i64 0, .slice none 0 0, .int .i64 0, .int .i64 1, .int .i64 0, .int .i64 0, .int .u64 7, .int .i64 0, .slice none 0 0]) (by kernel_rfl) (by kernel_rfl) (by kernel_rfl)) ?_; clear h0
 rintro _ w2 a1 ⟨N3, rfl, hN6, hz7, hk5, hg4⟩ h1
 have hz8 := hg4.size
 try dsimp only at h1
 refine pk0 (v := .bool false) h1 rfl fun a9 h9 => ?_; clear h1
 refine pl_nil ?_
 refine co_then ?_
 refine co_seq ?_
 refine co_reg ?_
 refine pk0 (v := pt N3 2) h9 rfl fun a10 h10 => ?_; clear h9
 refine pk0 (v := pt N3 2) h10 rfl fun a11 h11 => ?_; clear h10
 refine pk (v := .int .i64 1) h11 rfl (rn_load1 rfl rfl Try.isAgg3 (hk5.cell rfl)) fun a12 h12 => ?_; clear h11
 refine pk0 (v := .bool ((1 : Int) == 1)) h12 rfl fun a13 h13 => ?_; clear h12
 refine pk0 (v := .bool ((1 : Int) == 1)) h13 rfl fun a14 h14 => ?_; clear h13
 have hc15 : ((1 : Int) == 1) = true := by first | (simp; done) | (simp; omega) | exact beq_false_of_ne (by omega) | exact beq_iff_eq.2 (by omega)
 rw [hc15] at h14; clear hc15
 refine psk h14 rfl fun a16 h16 => ?_; clear h14
 refine psk h16 rfl fun a17 h17 => ?_; clear h16
 refine psk h17 rfl fun a18 h18 => ?_; clear h17
 refine psk h18 rfl fun a19 h19 => ?_; clear h18
 refine pk0 (v := .bool true) h19 rfl fun a20 h20 => ?_; clear h19
 refine pk0 (v := .bool true) h20 rfl fun a21 h21 => ?_; clear h20
 refine psk h21 rfl fun a22 h22 => ?_; clear h21
 refine psk h22 rfl fun a23 h23 => ?_; clear h22
 refine psk h23 rfl fun a24 h24 => ?_; clear h23
 refine psk h24 rfl fun a25 h25 => ?_; clear h24
 refine pk0 (v := .bool true) h25 rfl fun a26 h26 => ?_; clear h25
 refine pk0 (v := .bool true) h26 rfl fun a27 h27 => ?_; clear h26
 refine pl_nil ?_
 refine co_then ?_
 refine wp_ret ?_
 refine co_ret1 h27 rfl rfl ?_
 have hB28 := hb_new hB0 hg4
 exact ⟨rfl, hB28⟩
set_option maxRecDepth 100000 in
theorem jEqualN (v : Value) (l : List (ByteArray × ByteArray)) (w : World) (hs : SliceOf valE 2 w v l) (hl : l.length = 1) :
    Calls Try.prog 50 #[.slice none 0 0, v] w fun e w' => e = .returned (.bool false) ∧ Below w.heap.size w w' := by
 have hB0 := Below.refl w.heap.size w
 have hl_hs := sl_len hs
 refine co_enter (n := 26) Try.func50 rfl rfl rfl [(0, .slice none 0 0), (1, v)] rfl (fun a h0 => ?_)
 refine co_seq ?_
 refine co_reg ?_
 refine pk0 (v := .bool false) h0 rfl fun a1 h1 => ?_; clear h0
 refine pl_nil ?_
 refine co_then ?_
 refine co_seq ?_
 refine co_seq ?_
 refine co_reg ?_
 refine pk0 (v := .slice none 0 0) h1 rfl fun a2 h2 => ?_; clear h1
 refine pk0 (v := .int .i64 0) h2 rfl fun a3 h3 => ?_; clear h2
 refine pk0 (v := v) h3 rfl fun a4 h4 => ?_; clear h3
 refine pk (v := .int .i64 ((l.length : Nat) : Int)) h4 rfl (rn_len rfl rfl Try.underlying31 hs) fun a5 h5 => ?_; clear h4
 refine pk0 (v := .bool ((0 : Int) != ((l.length : Nat) : Int))) h5 rfl fun a6 h6 => ?_; clear h5
 refine pl_nil ?_
 refine co_then ?_
 have hc7 : ((0 : Int) != ((l.length : Nat) : Int)) = true := by first | (simp; done) | (simp; omega) | exact beq_false_of_ne (by omega) | exact beq_iff_eq.2 (by omega)
 rw [hc7] at h6; clear hc7
 refine co_true h6 rfl ?_
 refine co_seq ?_
 refine co_reg ?_
 refine pk0 (v := .bool false) h6 rfl fun a8 h8 => ?_; clear h6
 refine pl_nil ?_
 refine co_then ?_
 refine wp_ret ?_
 refine co_thenR ?_
 refine co_ret1 h8 rfl rfl ?_
 exact ⟨rfl, hB0⟩
set_option maxRecDepth 100000 in
set_option maxHeartbeats 1600000 in
theorem jWrong_a (v : Value) (l : List EntT) (na : Nat) (nb : Nat) (B : Nat) (w : World) (hs : SliceOf entE 4 w v l) (hok : ∀ z ∈ l, EntOk w z) (hl20 : ∀ z ∈ l, z.opl.length ≤ 100) (hl : l = awL na nb) (hB : Blk w B 22 #[v]) :
    Calls Try.prog 48 #[.agg #[.int .i64 0, .int .i64 0, .int .i64 1, .int .i64 0, .string (⟨#[97]⟩), .string (⟨#[]⟩), .int .u64 0, .int .i64 0, .slice none 0 0, .int .i64 0, .int .i64 1, .int .i64 0, .int .i64 0, .int .u64 7, .int .i64 0, .slice none 0 0], pt B 0] w fun e w' => e = .returned (.int .i64 18) ∧ Below w.heap.size w w' := by
 have hB0 := Below.refl w.heap.size w
 have hl_hs := sl_len hs
 have hl_hB := hB.lt
 refine co_enter (n := 28) Try.func48 rfl rfl rfl [(0, .agg #[.int .i64 0, .int .i64 0, .int .i64 1, .int .i64 0, .string (⟨#[97]⟩), .string (⟨#[]⟩), .int .u64 0, .int .i64 0, .slice none 0 0, .int .i64 0, .int .i64 1, .int .i64 0, .int .i64 0, .int .u64 7, .int .i64 0, .slice none 0 0]), (1, pt B 0)] rfl (fun a h0 => ?_)
 refine co_seq ?_
 refine co_reg ?_
 refine pw h0 rfl (op_new (v := fun N => pt N 0) (T := 72) (cs := #[.int .i64 0, .int .i64 0, .int .i64 1, .int .i64 0, .string (⟨#[97]⟩), .string (⟨#[]⟩), .int .u64 0, .int .i64 0, .slice none 0 0, .int .i64 0, .int .i64 1, .int .i64 0, .int .i64 0, .int .u64 7, .int .i64 0, .slice none 0 0]) (by kernel_rfl) (by kernel_rfl) (by kernel_rfl)) ?_; clear h0
 rintro _ w2 a1 ⟨N3, rfl, hN6, hz7, hk5, hg4⟩ h1
 have hz8 := hg4.size
 try dsimp only at h1
 refine pk0 (v := .int .i64 0) h1 rfl fun a9 h9 => ?_; clear h1
 refine pl_nil ?_
 refine co_then ?_
 refine co_seq ?_
 refine co_reg ?_
 refine pk0 (v := pt N3 11) h9 rfl fun a10 h10 => ?_; clear h9
 refine pk (v := .agg #[.int .i64 0, .int .i64 0, .int .u64 7, .int .i64 0, .slice none 0 0]) h10 rfl (rn_loadN rfl rfl Try.underlying70 rfl (by kernel_rfl) (blk_part hk5 11 (by rfl))) fun a11 h11 => ?_; clear h10
 refine pw h11 rfl (op_new (v := fun N => pt N 0) (T := 70) (cs := #[.int .i64 0, .int .i64 0, .int .u64 0, .int .i64 0, .slice none 0 0]) (by kernel_rfl) (by kernel_rfl) (by kernel_rfl)) ?_; clear h11
 rintro _ w13 a12 ⟨N14, rfl, hN17, hz18, hk16, hg15⟩ h12
 have hz19 := hg15.size
 try dsimp only at h12
 refine pwD h12 rfl (op_storeN rfl rfl rfl (all_cons rfl (all_cons rfl (all_cons rfl (all_cons rfl (all_cons rfl all_nil))))) (by kernel_rfl) hk16 rfl) ?_; clear h12
 rintro _ w21 a20 ⟨hk22, hz23, hg24⟩ h20
 have hk22' : Blk w21 N14 70 #[.int .i64 0, .int .i64 0, .int .u64 7, .int .i64 0, .slice none 0 0] := hk22; clear hk22
 have hz25 := hg24.size
 refine pl_nil ?_
 refine co_then ?_
 refine co_seq ?_
 refine co_seq ?_
 refine co_reg ?_
 refine pk0 (v := pt N14 1) h20 rfl fun a26 h26 => ?_; clear h20
 refine pk (v := .int .i64 0) h26 rfl (rn_load1 rfl rfl Try.isAgg44 (hk22'.cell rfl)) fun a27 h27 => ?_; clear h26
 refine pk0 (v := .bool ((0 : Int) != 0)) h27 rfl fun a28 h28 => ?_; clear h27
 refine pl_nil ?_
 refine co_then ?_
 have hc29 : ((0 : Int) != 0) = false := by first | (simp; done) | (simp; omega) | exact beq_false_of_ne (by omega) | exact beq_iff_eq.2 (by omega)
 rw [hc29] at h28; clear hc29
 refine co_false h28 rfl ?_
 refine wp_skip ?_
 refine co_then ?_
 refine co_seq ?_
 refine co_seq ?_
 refine dr_gen (fun x => Below w.heap.size w x ∧ Blk x B 22 #[v] ∧ Blk x N3 72 #[.int .i64 0, .int .i64 0, .int .i64 1, .int .i64 0, .string (⟨#[97]⟩), .string (⟨#[]⟩), .int .u64 0, .int .i64 0, .slice none 0 0, .int .i64 0, .int .i64 1, .int .i64 0, .int .i64 0, .int .u64 7, .int .i64 0, .slice none 0 0] ∧ Blk x N14 70 #[.int .i64 0, .int .i64 0, .int .u64 7, .int .i64 0, .slice none 0 0]) (by kernel_rfl) (fun w30 hg31 => ?_) (fun w30 hg31 => ?_)
 ·
  have hz32 := hg31.size
  have hB33 := hb_new hB0 hg4
  have hB34 := hb_new hB33 hg15
  have hB35 := hb_at hB34 hg24 (by omega)
  have hB36 := hb_new hB35 hg31
  have hk37 := hB.kept hg4 (by simp)
  have hk38 := hk37.kept hg15 (by simp)
  have hk39 := hk38.kept hg24 (by simp; omega)
  have hk40 := hk39.kept hg31 (by simp)
  have hk41 := hk5.kept hg15 (by simp)
  have hk42 := hk41.kept hg24 (by simp; omega)
  have hk43 := hk42.kept hg31 (by simp)
  have hk44 := hk22'.kept hg31 (by simp)
  exact ⟨hB36, hk40, hk43, hk44⟩
 have hz45 := hg31.size
 have hB46 := hb_new hB0 hg4
 have hB47 := hb_new hB46 hg15
 have hB48 := hb_at hB47 hg24 (by omega)
 have hB49 := hb_new hB48 hg31
 have hk50 := hB.kept hg4 (by simp)
 have hk51 := hk50.kept hg15 (by simp)
 have hk52 := hk51.kept hg24 (by simp; omega)
 have hk53 := hk52.kept hg31 (by simp)
 have hk54 := hk5.kept hg15 (by simp)
 have hk55 := hk54.kept hg24 (by simp; omega)
 have hk56 := hk55.kept hg31 (by simp)
 have hk57 := hk22'.kept hg31 (by simp)
 refine dk 0 (v := .agg #[.int .i64 0, .int .i64 0, .int .i64 1, .int .i64 0, .string (⟨#[97]⟩), .string (⟨#[]⟩), .int .u64 0, .int .i64 0, .slice none 0 0, .int .i64 0, .int .i64 1, .int .i64 0, .int .i64 0, .int .u64 7, .int .i64 0, .slice none 0 0]) h28 rfl rfl ⟨hB49, hk53, hk56, hk57⟩ (fun x hx => (rn_loadN rfl rfl Try.underlying72 rfl (by kernel_rfl) hx.2.2.1.all)) fun a58 h58 => ?_; clear h28
 refine d1 1 h58 rfl rfl (op_call (args := #[.agg #[.int .i64 0, .int .i64 0, .int .i64 1, .int .i64 0, .string (⟨#[97]⟩), .string (⟨#[]⟩), .int .u64 0, .int .i64 0, .slice none 0 0, .int .i64 0, .int .i64 1, .int .i64 0, .int .i64 0, .int .u64 7, .int .i64 0, .slice none 0 0]]) (R := fun res xw => res = .bool true ∧ Below w30.heap.size w30 xw) rfl rfl rfl (by kernel_rfl) (by kernel_rfl) (Try.call49 _ _) (jReads_a  w30 ) (by rintro e x ⟨rfl, hb61⟩; exact ⟨_, rfl, ⟨rfl, hb61⟩⟩)) ?_ ?_; clear h58
 ·
  rintro _ w60 ⟨rfl, hb61⟩
  have hz62 := hb61.size
  have hB63 := hb_call hB49 hb61
  have hk64 := hk53.below hb61
  have hk65 := hk56.below hb61
  have hk66 := hk57.below hb61
  exact ⟨hB63, hk64, hk65, hk66⟩
 rintro _ w60 a59 ⟨rfl, hb61⟩ h59
 have hz62 := hb61.size
 have hB63 := hb_call hB49 hb61
 have hk64 := hk53.below hb61
 have hk65 := hk56.below hb61
 have hk66 := hk57.below hb61
 refine dk0 2 (v := .bool true) h59 rfl rfl ⟨hB63, hk64, hk65, hk66⟩ fun a67 h67 => ?_; clear h59
 refine dk0 3 (v := pt N14 4) h67 rfl rfl ⟨hB63, hk64, hk65, hk66⟩ fun a68 h68 => ?_; clear h67
 refine dk 4 (v := .slice none 0 0) h68 rfl rfl ⟨hB63, hk64, hk65, hk66⟩ (fun x hx => (rn_load1 rfl rfl Try.isAgg31 (hx.2.2.2.cell rfl))) fun a69 h69 => ?_; clear h68
 refine dk 5 (v := v) h69 rfl rfl ⟨hB63, hk64, hk65, hk66⟩ (fun x hx => (rn_load1 rfl rfl Try.isAgg22 (hx.2.1.cell rfl))) fun a70 h70 => ?_; clear h69
 refine dk0 6 (v := pt N3 2) h70 rfl rfl ⟨hB63, hk64, hk65, hk66⟩ fun a71 h71 => ?_; clear h70
 refine dk 7 (v := .agg #[.int .i64 1, .int .i64 0, .string (⟨#[97]⟩), .string (⟨#[]⟩), .int .u64 0, .int .i64 0, .slice none 0 0]) h71 rfl rfl ⟨hB63, hk64, hk65, hk66⟩ (fun x hx => (rn_loadN rfl rfl Try.underlying35 rfl (by kernel_rfl) (blk_part hx.2.2.1 2 (by rfl)))) fun a72 h72 => ?_; clear h71
 refine dk0 8 (v := pt N14 2) h72 rfl rfl ⟨hB63, hk64, hk65, hk66⟩ fun a73 h73 => ?_; clear h72
 refine dk 9 (v := .int .u64 7) h73 rfl rfl ⟨hB63, hk64, hk65, hk66⟩ (fun x hx => (rn_load1 rfl rfl Try.isAgg23 (hx.2.2.2.cell rfl))) fun a74 h74 => ?_; clear h73
 refine d1 10 h74 rfl rfl (op_call (args := #[v, .agg #[.int .i64 1, .int .i64 0, .string (⟨#[97]⟩), .string (⟨#[]⟩), .int .u64 0, .int .i64 0, .slice none 0 0], .int .u64 7]) (R := fun res xw => ∃ ys : List ValT, ∃ u : Value, res = u ∧ xw.ownsRow w60.heap.size 38 2 u (fstK (⟨#[97]⟩) ys).length ((fstK (⟨#[97]⟩) ys).flatMap valE) ∧ SetG (fun y : ValT => y.1) (ovG [] (stOJ 7 l)) ys ∧ Below w60.heap.size w60 xw) rfl rfl rfl (by kernel_rfl) (by kernel_rfl) (Try.call11 _ _) (jRowsG v l 7 (⟨#[97]⟩) w60 (hs.below hB63) (fun z hz => (hok z hz).below hB63) hl20 (by omega) (by rw [hl]; exact awS_len _ _ _)) (by rintro e x ⟨ys, u, rfl, hq79, hq80, hb81⟩; exact ⟨_, rfl, ⟨ys, u, rfl, hq79, hq80, hb81⟩⟩)) ?_ ?_; clear h74
 ·
  rintro u78 w76 ⟨ys77, _, rfl, hq79, hq80, hb81⟩
  have hz82 := hb81.size
  have hl83 := sl_len (row_sl hq79 valE_len)
  have hf7 : (fstK ⟨#[97]⟩ ys77).length = 1 := fstK_a7 (by rw [← hl]; exact hq80)
  have hB84 := hb_call hB63 hb81
  have hk85 := hk64.below hb81
  have hk86 := hk65.below hb81
  have hk87 := hk66.below hb81
  exact ⟨hB84, hk85, hk86, hk87⟩
 rintro u78 w76 a75 ⟨ys77, _, rfl, hq79, hq80, hb81⟩ h75
 have hz82 := hb81.size
 have hl83 := sl_len (row_sl hq79 valE_len)
 have hf7 : (fstK ⟨#[97]⟩ ys77).length = 1 := fstK_a7 (by rw [← hl]; exact hq80)
 have hB84 := hb_call hB63 hb81
 have hk85 := hk64.below hb81
 have hk86 := hk65.below hb81
 have hk87 := hk66.below hb81
 refine d1 11 h75 rfl rfl (op_call (args := #[.slice none 0 0, u78]) (R := fun res xw => res = .bool false ∧ Below w76.heap.size w76 xw) rfl rfl rfl (by kernel_rfl) (by kernel_rfl) (Try.call50 _ _) (jEqualN u78 (fstK (⟨#[97]⟩) ys77) w76 (row_sl hq79 valE_len) hf7) (by rintro e x ⟨rfl, hb90⟩; exact ⟨_, rfl, ⟨rfl, hb90⟩⟩)) ?_ ?_; clear h75
 ·
  rintro _ w89 ⟨rfl, hb90⟩
  have hz91 := hb90.size
  have hB92 := hb_call hB84 hb90
  have hk93 := hk85.below hb90
  have hk94 := hk86.below hb90
  have hk95 := hk87.below hb90
  exact ⟨hB92, hk93, hk94, hk95⟩
 rintro _ w89 a88 ⟨rfl, hb90⟩ h88
 have hz91 := hb90.size
 have hB92 := hb_call hB84 hb90
 have hk93 := hk85.below hb90
 have hk94 := hk86.below hb90
 have hk95 := hk87.below hb90
 refine dk0 12 (v := .bool true) h88 rfl rfl ⟨hB92, hk93, hk94, hk95⟩ fun a96 h96 => ?_; clear h88
 refine dk0 13 (v := .bool true) h96 rfl rfl ⟨hB92, hk93, hk94, hk95⟩ fun a97 h97 => ?_; clear h96
 refine dr_done (by kernel_rfl) ?_
 refine co_then ?_
 refine co_true h97 rfl ?_
 refine co_seq ?_
 refine co_reg ?_
 refine pk0 (v := .int .i64 18) h97 rfl fun a98 h98 => ?_; clear h97
 refine pl_nil ?_
 refine co_then ?_
 refine wp_ret ?_
 refine co_thenR ?_
 refine co_ret1 h98 rfl rfl ?_
 exact ⟨rfl, hB92⟩
set_option maxRecDepth 100000 in
set_option maxHeartbeats 1600000 in
theorem jFirst_a (v : Value) (l : List EntT) (na : Nat) (nb : Nat) (B : Nat) (N : Nat) (w : World) (hs : SliceOf entE 4 w v l) (hok : ∀ z ∈ l, EntOk w z) (hl20 : ∀ z ∈ l, z.opl.length ≤ 100) (hl : l = awL na nb) (hB : Blk w B 22 #[v]) (hN : Blk w N 72 #[.int .i64 0, .int .i64 0, .int .i64 1, .int .i64 0, .string (⟨#[97]⟩), .string (⟨#[]⟩), .int .u64 0, .int .i64 0, .slice none 0 0, .int .i64 0, .int .i64 1, .int .i64 0, .int .i64 0, .int .u64 7, .int .i64 0, .slice none 0 0]) :
    Calls Try.prog 47 #[.slice (some ⟨N, 0, none⟩) 1 1, .func (.func 48) #[] #[pt B 0]] w fun e w' => e = .returned (.tuple #[.int .i64 0, .int .i64 18]) ∧ Below w.heap.size w w' := by
 have hB0 := Below.refl w.heap.size w
 have hl_hs := sl_len hs
 have hl_hB := hB.lt
 have hl_hN := hN.lt
 refine co_enter (n := 29) Try.func47 rfl rfl rfl [(0, .slice (some ⟨N, 0, none⟩) 1 1), (1, .func (.func 48) #[] #[pt B 0])] rfl (fun a h0 => ?_)
 refine co_seq ?_
 refine co_reg ?_
 refine pk0 (v := .int .i64 0) h0 rfl fun a1 h1 => ?_; clear h0
 refine pk0 (v := .int .i64 0) h1 rfl fun a2 h2 => ?_; clear h1
 refine pl_nil ?_
 refine co_then ?_
 refine wp_scope_straight ?_
 refine co_seq ?_
 refine co_reg ?_
 refine pk0 (v := .int .i64 (-1)) h2 rfl fun a3 h3 => ?_; clear h2
 refine pk0 (v := .int .i64 0) h3 rfl fun a4 h4 => ?_; clear h3
 refine pl_nil ?_
 refine co_then ?_
 refine co_seq ?_
 refine wp_label ?_
 refine co_then ?_
 refine co_seq ?_
 refine co_seq ?_
 refine co_reg ?_
 refine pk0 (v := .slice (some ⟨N, 0, none⟩) 1 1) h4 rfl fun a5 h5 => ?_; clear h4
 refine pk0 (v := .int .i64 1) h5 rfl fun a6 h6 => ?_; clear h5
 refine pk0 (v := .int .i64 0) h6 rfl fun a7 h7 => ?_; clear h6
 refine pl_nil ?_
 refine co_then ?_
 refine wp_block ?_
 refine wp_loop_rounds 2 ?_
 refine co_unroll (n := 1) ?_
 refine co_seq ?_
 refine co_reg ?_
 refine pk0 (v := .bool (decide (0 < 1))) h7 rfl fun a8 h8 => ?_; clear h7
 refine pl_nil ?_
 refine co_then ?_
 refine co_seq ?_
 have hc9 : (decide (0 < 1)) = true := decide_eq_true (by omega)
 rw [hc9] at h8; clear hc9
 refine co_true h8 rfl ?_
 refine wp_skip ?_
 refine co_then ?_
 refine co_seq ?_
 refine wp_block ?_
 refine co_seq ?_
 refine co_reg ?_
 refine pk0 (v := .int .i64 0) h8 rfl fun a10 h10 => ?_; clear h8
 refine pk0 (v := pt N 0) h10 rfl fun a11 h11 => ?_; clear h10
 refine pk (v := .agg #[.int .i64 0, .int .i64 0, .int .i64 1, .int .i64 0, .string (⟨#[97]⟩), .string (⟨#[]⟩), .int .u64 0, .int .i64 0, .slice none 0 0, .int .i64 0, .int .i64 1, .int .i64 0, .int .i64 0, .int .u64 7, .int .i64 0, .slice none 0 0]) h11 rfl (rn_loadN rfl rfl Try.underlying72 rfl (by kernel_rfl) hN.all) fun a12 h12 => ?_; clear h11
 refine pw h12 rfl (op_new (v := fun N => pt N 0) (T := 72) (cs := #[.int .i64 0, .int .i64 0, .int .i64 0, .int .i64 0, .string (⟨#[]⟩), .string (⟨#[]⟩), .int .u64 0, .int .i64 0, .slice none 0 0, .int .i64 0, .int .i64 0, .int .i64 0, .int .i64 0, .int .u64 0, .int .i64 0, .slice none 0 0]) (by kernel_rfl) (by kernel_rfl) (by kernel_rfl)) ?_; clear h12
 rintro _ w14 a13 ⟨N15, rfl, hN18, hz19, hk17, hg16⟩ h13
 have hz20 := hg16.size
 try dsimp only at h13
 refine pk0 (v := .int .i64 0) h13 rfl fun a21 h21 => ?_; clear h13
 refine pwD h21 rfl (op_storeN rfl rfl rfl (all_cons rfl (all_cons rfl (all_cons rfl (all_cons rfl (all_cons rfl (all_cons rfl (all_cons rfl (all_cons rfl (all_cons rfl (all_cons rfl (all_cons rfl (all_cons rfl (all_cons rfl (all_cons rfl (all_cons rfl (all_cons rfl all_nil)))))))))))))))) (by kernel_rfl) hk17 rfl) ?_; clear h21
 rintro _ w23 a22 ⟨hk24, hz25, hg26⟩ h22
 have hk24' : Blk w23 N15 72 #[.int .i64 0, .int .i64 0, .int .i64 1, .int .i64 0, .string (⟨#[97]⟩), .string (⟨#[]⟩), .int .u64 0, .int .i64 0, .slice none 0 0, .int .i64 0, .int .i64 1, .int .i64 0, .int .i64 0, .int .u64 7, .int .i64 0, .slice none 0 0] := hk24; clear hk24
 have hz27 := hg26.size
 refine pl_nil ?_
 refine co_then ?_
 refine co_seq ?_
 refine co_seq ?_
 refine co_reg ?_
 refine pk0 (v := pt N15 10) h22 rfl fun a28 h28 => ?_; clear h22
 refine pk (v := .int .i64 1) h28 rfl (rn_load1 rfl rfl Try.isAgg3 (hk24'.cell rfl)) fun a29 h29 => ?_; clear h28
 refine pk0 (v := .bool (decide (1 ≤ 0))) h29 rfl fun a30 h30 => ?_; clear h29
 refine pl_nil ?_
 refine co_then ?_
 have hc31 : (decide (1 ≤ 0)) = false := decide_eq_false (by omega)
 rw [hc31] at h30; clear hc31
 refine co_false h30 rfl ?_
 refine wp_skip ?_
 refine co_then ?_
 refine co_seq ?_
 refine co_reg ?_
 refine pk0 (v := .func (.func 48) #[] #[pt B 0]) h30 rfl fun a32 h32 => ?_; clear h30
 refine pk (v := .agg #[.int .i64 0, .int .i64 0, .int .i64 1, .int .i64 0, .string (⟨#[97]⟩), .string (⟨#[]⟩), .int .u64 0, .int .i64 0, .slice none 0 0, .int .i64 0, .int .i64 1, .int .i64 0, .int .i64 0, .int .u64 7, .int .i64 0, .slice none 0 0]) h32 rfl (rn_loadN rfl rfl Try.underlying72 rfl (by kernel_rfl) hk24'.all) fun a33 h33 => ?_; clear h32
 have hB36 := hb_new hB0 hg16
 have hB37 := hb_at hB36 hg26 (by omega)
 have hk38 := hB.kept hg16 (by simp)
 have hk39 := hk38.kept hg26 (by simp; omega)
 refine pw h33 rfl (op_callV (args := #[.agg #[.int .i64 0, .int .i64 0, .int .i64 1, .int .i64 0, .string (⟨#[97]⟩), .string (⟨#[]⟩), .int .u64 0, .int .i64 0, .slice none 0 0, .int .i64 0, .int .i64 1, .int .i64 0, .int .i64 0, .int .u64 7, .int .i64 0, .slice none 0 0], pt B 0]) (R := fun res xw => res = .int .i64 18 ∧ Below w23.heap.size w23 xw) rfl rfl rfl (by kernel_rfl) (by kernel_rfl) (Try.call48 _ _) (jWrong_a v l na nb B w23 (hs.below hB37) (fun z hz => (hok z hz).below hB37) hl20 hl hk39) (by rintro e x ⟨rfl, hb40⟩; exact ⟨_, rfl, ⟨rfl, hb40⟩⟩)) ?_; clear h33
 rintro _ w35 a34 ⟨rfl, hb40⟩ h34
 have hz41 := hb40.size
 refine pk0 (v := .int .i64 18) h34 rfl fun a42 h42 => ?_; clear h34
 refine pl_nil ?_
 refine co_then ?_
 refine co_seq ?_
 refine co_reg ?_
 refine pk0 (v := .int .i64 18) h42 rfl fun a43 h43 => ?_; clear h42
 refine pk0 (v := .bool ((18 : Int) != 0)) h43 rfl fun a44 h44 => ?_; clear h43
 refine pl_nil ?_
 refine co_then ?_
 have hc45 : ((18 : Int) != 0) = true := by first | (simp; done) | (simp; omega) | exact beq_false_of_ne (by omega) | exact beq_iff_eq.2 (by omega)
 rw [hc45] at h44; clear hc45
 refine co_true h44 rfl ?_
 refine co_seq ?_
 refine co_reg ?_
 refine pk0 (v := .int .i64 0) h44 rfl fun a46 h46 => ?_; clear h44
 refine pk0 (v := .int .i64 0) h46 rfl fun a47 h47 => ?_; clear h46
 refine pl_nil ?_
 refine co_then ?_
 refine wp_exit ?_
 refine co_blockY (by decide) ?_
 refine co_thenX ?_
 refine co_thenX ?_
 refine co_blockX ?_
 refine co_then ?_
 refine co_seq ?_
 refine co_reg ?_
 refine pk0 (v := .int .i64 0) h47 rfl fun a48 h48 => ?_; clear h47
 refine pk0 (v := .int .i64 18) h48 rfl fun a49 h49 => ?_; clear h48
 refine pk0 (v := .int .i64 0) h49 rfl fun a50 h50 => ?_; clear h49
 refine pk0 (v := .int .i64 18) h50 rfl fun a51 h51 => ?_; clear h50
 refine pl_nil ?_
 refine co_then ?_
 refine wp_ret ?_
 refine co_scopeR ?_
 refine co_ret2 h51 rfl rfl rfl ?_
 have hB52 := hb_call hB37 hb40
 exact ⟨rfl, hB52⟩
set_option maxRecDepth 100000 in
set_option maxHeartbeats 1600000 in
theorem jReads_any (v : Value) (l : List EntT) (na : Nat) (nb : Nat) (N : Nat) (w : World) (hs : SliceOf entE 4 w v l) (hok : ∀ z ∈ l, EntOk w z) (hl20 : ∀ z ∈ l, z.opl.length ≤ 100) (hl : l = awL na nb) (hN : Blk w N 72 #[.int .i64 0, .int .i64 0, .int .i64 1, .int .i64 0, .string (⟨#[97]⟩), .string (⟨#[]⟩), .int .u64 0, .int .i64 0, .slice none 0 0, .int .i64 0, .int .i64 1, .int .i64 0, .int .i64 0, .int .u64 7, .int .i64 0, .slice none 0 0]) :
    Calls Try.prog 25 #[v, .slice (some ⟨N, 0, none⟩) 1 1] w fun e w' => e = .returned (.tuple #[.int .i64 0, .int .i64 18]) ∧ Below w.heap.size w w' := by
 have hB0 := Below.refl w.heap.size w
 have hl_hs := sl_len hs
 have hl_hN := hN.lt
 refine co_enter (n := 11) Try.func25 rfl rfl rfl [(0, v), (1, .slice (some ⟨N, 0, none⟩) 1 1)] rfl (fun a h0 => ?_)
 refine co_seq ?_
 refine co_reg ?_
 refine pw h0 rfl (op_new (v := fun N => pt N 0) (T := 22) (cs := #[v]) (by kernel_rfl) (by kernel_rfl) (box_run rfl rfl (sl_one hs))) ?_; clear h0
 rintro _ w2 a1 ⟨N3, rfl, hN6, hz7, hk5, hg4⟩ h1
 have hz8 := hg4.size
 try dsimp only at h1
 refine pk0 (v := .int .i64 0) h1 rfl fun a9 h9 => ?_; clear h1
 refine pk0 (v := .int .i64 0) h9 rfl fun a10 h10 => ?_; clear h9
 refine pl_nil ?_
 refine co_then ?_
 refine co_seq ?_
 refine co_reg ?_
 refine pk0 (v := .slice (some ⟨N, 0, none⟩) 1 1) h10 rfl fun a11 h11 => ?_; clear h10
 refine pk0 (v := .func (.func 48) #[] #[pt N3 0]) h11 rfl fun a12 h12 => ?_; clear h11
 have hB15 := hb_new hB0 hg4
 have hk16 := hN.kept hg4 (by simp)
 refine pw h12 rfl (op_call (args := #[.slice (some ⟨N, 0, none⟩) 1 1, .func (.func 48) #[] #[pt N3 0]]) (R := fun res xw => res = .tuple #[.int .i64 0, .int .i64 18] ∧ Below w2.heap.size w2 xw) rfl rfl rfl (by kernel_rfl) (by kernel_rfl) (Try.call47 _ _) (jFirst_a v l na nb N3 N w2 (hs.below hB15) (fun z hz => (hok z hz).below hB15) hl20 hl hk5 hk16) (by rintro e x ⟨rfl, hb17⟩; exact ⟨_, rfl, ⟨rfl, hb17⟩⟩)) ?_; clear h12
 rintro _ w14 a13 ⟨rfl, hb17⟩ h13
 have hz18 := hb17.size
 refine pk0 (v := .int .i64 0) h13 rfl fun a19 h19 => ?_; clear h13
 refine pk0 (v := .int .i64 18) h19 rfl fun a20 h20 => ?_; clear h19
 refine pk0 (v := .int .i64 0) h20 rfl fun a21 h21 => ?_; clear h20
 refine pk0 (v := .int .i64 18) h21 rfl fun a22 h22 => ?_; clear h21
 refine pl_nil ?_
 refine co_then ?_
 refine wp_ret ?_
 refine co_ret2 h22 rfl rfl rfl ?_
 have hB23 := hb_call hB15 hb17
 exact ⟨rfl, hB23⟩
set_option maxRecDepth 100000 in
set_option maxHeartbeats 1600000 in
theorem awake38  (w : World)  :
    Calls Try.prog 9 #[] w fun e w' => e = .returned (.bool true) ∧ Below w.heap.size w w' := by
 have hB0 := Below.refl w.heap.size w
 refine co_enter (n := 39) Try.func9 rfl rfl rfl [] rfl (fun a h0 => ?_)
 refine co_seq ?_
 refine co_reg ?_
 refine pk0 (v := .bool false) h0 rfl fun a1 h1 => ?_; clear h0
 refine pl_nil ?_
 refine co_then ?_
 refine co_seq ?_
 refine co_reg ?_
 refine pk0 (v := .agg #[.string (⟨#[97]⟩), .string (⟨#[49]⟩), .bool false]) h1 rfl fun a2 h2 => ?_; clear h1
 refine pw h2 rfl (op_new (v := fun N => .slice (some ⟨N, 0, none⟩) 1 1) (T := 66) (cs := #[.string (⟨#[97]⟩), .string (⟨#[49]⟩), .bool false]) (by kernel_rfl) (by kernel_rfl) (by kernel_rfl)) ?_; clear h2
 rintro _ w4 a3 ⟨N5, rfl, hN8, hz9, hk7, hg6⟩ h3
 have hz10 := hg6.size
 try dsimp only at h3
 refine pk0 (v := .agg #[.int .i64 0, .int .i64 1, .slice (some ⟨N5, 0, none⟩) 1 1]) h3 rfl fun a11 h11 => ?_; clear h3
 refine pk0 (v := .agg #[.int .i64 0, .int .i64 1, .slice (some ⟨N5, 0, none⟩) 1 1, .int .u64 3]) h11 rfl fun a12 h12 => ?_; clear h11
 refine pk0 (v := .agg #[.string (⟨#[97]⟩), .string (⟨#[50]⟩), .bool false]) h12 rfl fun a13 h13 => ?_; clear h12
 refine pw h13 rfl (op_new (v := fun N => .slice (some ⟨N, 0, none⟩) 1 1) (T := 66) (cs := #[.string (⟨#[97]⟩), .string (⟨#[50]⟩), .bool false]) (by kernel_rfl) (by kernel_rfl) (by kernel_rfl)) ?_; clear h13
 rintro _ w15 a14 ⟨N16, rfl, hN19, hz20, hk18, hg17⟩ h14
 have hz21 := hg17.size
 try dsimp only at h14
 refine pk0 (v := .agg #[.int .i64 0, .int .i64 2, .slice (some ⟨N16, 0, none⟩) 1 1]) h14 rfl fun a22 h22 => ?_; clear h14
 refine pk0 (v := .agg #[.int .i64 0, .int .i64 2, .slice (some ⟨N16, 0, none⟩) 1 1, .int .u64 7]) h22 rfl fun a23 h23 => ?_; clear h22
 refine pw h23 rfl (op_new (v := fun N => .slice (some ⟨N, 0, none⟩) 2 2) (T := 28) (cs := #[.int .i64 0, .int .i64 1, .slice (some ⟨N5, 0, none⟩) 1 1, .int .u64 3, .int .i64 0, .int .i64 2, .slice (some ⟨N16, 0, none⟩) 1 1, .int .u64 7]) (by kernel_rfl) (by kernel_rfl) (by kernel_rfl)) ?_; clear h23
 rintro _ w25 a24 ⟨N26, rfl, hN29, hz30, hk28, hg27⟩ h24
 have hz31 := hg27.size
 try dsimp only at h24
 refine pk0 (v := .slice (some ⟨N26, 0, none⟩) 2 2) h24 rfl fun a32 h32 => ?_; clear h24
 refine pl_nil ?_
 refine co_then ?_
 refine co_seq ?_
 refine co_reg ?_
 refine pk0 (v := .slice (some ⟨N26, 0, none⟩) 2 2) h32 rfl fun a33 h33 => ?_; clear h32
 have hB36 := hb_new hB0 hg6
 have hB37 := hb_new hB36 hg17
 have hB38 := hb_new hB37 hg27
 have hk39 := hk7.kept hg17 (by simp)
 have hk40 := hk39.kept hg27 (by simp)
 obtain ⟨A2, hA2⟩ : ∃ L : List EntT, L = awL N5 N16 := ⟨_, rfl⟩
 have hr41 : w25.ownsRow N26 28 4 (.slice (some ⟨N26, 0, none⟩) 2 2) A2.length (A2.flatMap entE) := by rw [hA2]; exact row_of_cells (enc := entE) (sz := 4) (awL N5 N16) hk28 (Nat.le_refl _) rfl rfl (by unfold maxLen; simp [awL])
 have hk45 := hk18.kept hg27 (by simp)
 refine pw h33 rfl (op_call (args := #[.slice (some ⟨N26, 0, none⟩) 2 2, .int .u64 5]) (R := fun res xw => ∃ u : Value, res = u ∧ xw.ownsRow w25.heap.size 38 2 u ([(⟨#[97]⟩, ⟨#[49]⟩)] : List ValT).length (([(⟨#[97]⟩, ⟨#[49]⟩)] : List ValT).flatMap valE) ∧ Below w25.heap.size w25 xw) rfl rfl rfl (by kernel_rfl) (by kernel_rfl) (Try.call10 _ _) (awState_any (.slice (some ⟨N26, 0, none⟩) 2 2) A2 hA2 w25 (row_sl hr41 entE_len) (by rw [hA2]; exact awOk hk40 hk45)) (by rintro e x ⟨u, h0, h⟩; exact ⟨_, h0, u, rfl, h⟩)) ?_; clear h33
 rintro u42 w35 a34 ⟨_, rfl, hr43, hb44⟩ h34
 have hz46 := hb44.size
 refine pk0 (v := u42) h34 rfl fun a47 h47 => ?_; clear h34
 refine pl_nil ?_
 refine co_then ?_
 refine co_seq ?_
 refine co_reg ?_
 refine pk0 (v := .slice (some ⟨N26, 0, none⟩) 2 2) h47 rfl fun a48 h48 => ?_; clear h47
 refine pk0 (v := .agg #[.int .i64 1, .int .i64 0, .string (⟨#[97]⟩), .string (⟨#[]⟩), .int .u64 0, .int .i64 0, .slice none 0 0]) h48 rfl fun a49 h49 => ?_; clear h48
 refine pk0 (v := .agg #[.int .i64 0, .int .i64 0, .int .u64 7, .int .i64 0, .slice none 0 0]) h49 rfl fun a50 h50 => ?_; clear h49
 refine pk0 (v := .agg #[.int .i64 0, .int .i64 0, .int .i64 1, .int .i64 0, .string (⟨#[97]⟩), .string (⟨#[]⟩), .int .u64 0, .int .i64 0, .slice none 0 0, .int .i64 0, .int .i64 1, .int .i64 0, .int .i64 0, .int .u64 7, .int .i64 0, .slice none 0 0]) h50 rfl fun a51 h51 => ?_; clear h50
 refine pw h51 rfl (op_new (v := fun N => .slice (some ⟨N, 0, none⟩) 1 1) (T := 72) (cs := #[.int .i64 0, .int .i64 0, .int .i64 1, .int .i64 0, .string (⟨#[97]⟩), .string (⟨#[]⟩), .int .u64 0, .int .i64 0, .slice none 0 0, .int .i64 0, .int .i64 1, .int .i64 0, .int .i64 0, .int .u64 7, .int .i64 0, .slice none 0 0]) (by kernel_rfl) (by kernel_rfl) (by kernel_rfl)) ?_; clear h51
 rintro _ w53 a52 ⟨N54, rfl, hN57, hz58, hk56, hg55⟩ h52
 have hr60 := row_kept_new hr41 (below_grown hb44)
 have ha59 := row_fresh hr60 hN57
 have ha61 := row_fresh hr43 hN57
 have hz62 := hg55.size
 try dsimp only at h52
 have hB65 := hb_call hB38 hb44
 have hB66 := hb_new hB65 hg55
 have hk67 := hk40.below hb44
 have hk68 := hk67.kept hg55 (by simp)
 have hk69 := hk45.below hb44
 have hk70 := hk69.kept hg55 (by simp)
 have hr71 := row_kept_new hr60 hg55
 refine pw h52 rfl (op_call (args := #[.slice (some ⟨N26, 0, none⟩) 2 2, .slice (some ⟨N54, 0, none⟩) 1 1]) (R := fun res xw => res = .tuple #[.int .i64 0, .int .i64 18] ∧ Below w53.heap.size w53 xw) rfl rfl rfl (by kernel_rfl) (by kernel_rfl) (Try.call25 _ _) (jReads_any (.slice (some ⟨N26, 0, none⟩) 2 2) A2 N5 N16 N54 w53 (row_sl hr71 entE_len) (by rw [hA2]; exact awOk hk68 hk70) (by rw [hA2]; exact awL20 _ _) hA2 hk56) (by rintro e x ⟨rfl, h⟩; exact ⟨_, rfl, rfl, h⟩)) ?_; clear h52
 rintro _ w64 a63 ⟨rfl, hb72⟩ h63
 have hz73 := hb72.size
 refine pk0 (v := .tuple #[.int .i64 0, .int .i64 18]) h63 rfl fun a74 h74 => ?_; clear h63
 refine pk0 (v := .int .i64 0) h74 rfl fun a75 h75 => ?_; clear h74
 refine pk0 (v := .int .i64 18) h75 rfl fun a76 h76 => ?_; clear h75
 refine pk0 (v := .int .i64 0) h76 rfl fun a77 h77 => ?_; clear h76
 refine pk0 (v := .int .i64 18) h77 rfl fun a78 h78 => ?_; clear h77
 refine pl_nil ?_
 refine co_then ?_
 refine co_seq ?_
 refine co_reg ?_
 refine pk0 (v := u42) h78 rfl fun a79 h79 => ?_; clear h78
 have hr80 := row_kept_new hr43 hg55
 have hr81 := row_kept_new hr80 (below_grown hb72)
 refine pk (v := .int .i64 ((([(⟨#[97]⟩, ⟨#[49]⟩)] : List ValT).length : Nat) : Int)) h79 rfl (rn_lenOwn rfl rfl Try.underlying31 hr81) fun a82 h82 => ?_; clear h79
 refine pk0 (v := .bool (((([(⟨#[97]⟩, ⟨#[49]⟩)] : List ValT).length : Nat) : Int) == 1)) h82 rfl fun a83 h83 => ?_; clear h82
 refine pk0 (v := .bool (((([(⟨#[97]⟩, ⟨#[49]⟩)] : List ValT).length : Nat) : Int) == 1)) h83 rfl fun a84 h84 => ?_; clear h83
 have hc85 : (((([(⟨#[97]⟩, ⟨#[49]⟩)] : List ValT).length : Nat) : Int) == 1) = true := by rfl
 rw [hc85] at h84; clear hc85
 refine pk0 (v := u42) h84 rfl fun a86 h86 => ?_; clear h84
 obtain ⟨y87, hy87⟩ : ∃ z, ([(⟨#[97]⟩, ⟨#[49]⟩)] : List ValT)[0]? = some z := ⟨_, List.getElem?_eq_getElem (by first | omega | (simp; done) | (simp; omega))⟩
 refine pk (v := pt (blkOf u42) (offOf u42 + 0 * 2)) h86 rfl (rn_index rfl rfl rfl Try.underlying31 Try.sizeOf38 (row_sl hr81 valE_len) (by omega) (by first | omega | (simp; done) | (simp; omega))) fun a88 h88 => ?_; clear h86
 refine pk0 (v := pt (blkOf u42) (offOf u42 + 0 * 2 + 1)) h88 rfl fun a89 h89 => ?_; clear h88
 refine pk (v := .string y87.2) h89 rfl (rn_load1 rfl rfl Try.isAgg9 ((sl_at (row_sl hr81 valE_len) hy87) 1 _ rfl)) fun a90 h90 => ?_; clear h89
 refine pk0 (v := .bool (y87.2.toList == (⟨#[49]⟩ : ByteArray).toList)) h90 rfl fun a91 h91 => ?_; clear h90
 refine pk0 (v := .bool (y87.2.toList == (⟨#[49]⟩ : ByteArray).toList)) h91 rfl fun a92 h92 => ?_; clear h91
 refine pk0 (v := .bool (y87.2.toList == (⟨#[49]⟩ : ByteArray).toList)) h92 rfl fun a93 h93 => ?_; clear h92
 have hc94 : (y87.2.toList == (⟨#[49]⟩ : ByteArray).toList) = true := by rw [aw_one hy87]; simp
 rw [hc94] at h93; clear hc94
 refine pk0 (v := .int .i64 18) h93 rfl fun a95 h95 => ?_; clear h93
 refine pk0 (v := .bool ((18 : Int) == 18)) h95 rfl fun a96 h96 => ?_; clear h95
 refine pk0 (v := .bool ((18 : Int) == 18)) h96 rfl fun a97 h97 => ?_; clear h96
 refine pk0 (v := .bool ((18 : Int) == 18)) h97 rfl fun a98 h98 => ?_; clear h97
 refine pl_nil ?_
 refine co_then ?_
 refine wp_ret ?_
 refine co_ret1 h98 rfl rfl ?_
 have hB99 := hb_call hB66 hb72
 exact ⟨rfl, hB99⟩
end Go.Proofs.Ytdgboikkgeioeaa

/- Package plan and the document's own: Floor, set, the closures, In, has. Conditions: none. -/
namespace Go.Proofs.Ytdgboikkgeioeaa
open Go.RowKit Go.PlainAid
set_option linter.unusedVariables false
set_option linter.unusedSimpArgs false


theorem MapG.toE {K V : Type} [DecidableEq K] {kv : K → Value} {enc : V → Value} {z : V} {w : World} {B : Nat} {g g' : K → V} (h : MapG kv enc z w B g) (e : g = g') : MapG kv enc z w B g' := by subst e; exact h
theorem intz (w : World) : (zeroValue 3).run Try.prog w = .ok (intK 0) w := by kernel_rfl
theorem floorP_a {fl last : Int} (h : last = 18446744073709551615) : 18446744073709551615 = floorP fl last := by unfold floorP; rw [if_pos h]
theorem floorP_b {fl last : Int} (h : ¬ last = 18446744073709551615) (h2 : fl < last + 1) : last + 1 = floorP fl last := by unfold floorP; rw [if_neg h, if_pos h2]
theorem floorP_c {fl last : Int} (h : ¬ last = 18446744073709551615) (h2 : ¬ fl < last + 1) : fl = floorP fl last := by unfold floorP; rw [if_neg h, if_neg h2]
theorem floorP_bd {fl last : Int} (h : 0 ≤ fl ∧ fl < 18446744073709551616) (h2 : 0 ≤ last ∧ last < 18446744073709551616) : (0 ≤ floorP fl last ∧ floorP fl last < 18446744073709551616) ∧ fl ≤ floorP fl last := by
  unfold floorP
  by_cases q : last = 18446744073709551615
  · rw [if_pos q]; omega
  · rw [if_neg q]
    by_cases q2 : fl < last + 1
    · rw [if_pos q2]; omega
    · rw [if_neg q2]; omega
theorem selA_n {lg gn : List Int} {m : MemT} (h : ¬ cntL gn m.1 = 0) : false = selA lg gn m := by
  have h0 := cnt_0 gn m.1
  have h1 : (cntL gn m.1 == 0) = false := by simpa using h
  rw [h1] at h0; unfold selA; rw [← h0]; rfl
theorem selB_n {lg gn : List Int} {m : MemT} (h : ¬ cntL gn m.1 = 0) : false = selB lg gn m := by
  have h0 := cnt_0 gn m.1
  have h1 : (cntL gn m.1 == 0) = false := by simpa using h
  rw [h1] at h0; unfold selB; rw [← h0]; rfl
theorem selA_y {lg gn : List Int} {m : MemT} (h : cntL gn m.1 = 0) : decide (cntL lg m.1 > 0) = selA lg gn m := by
  have h0 := cnt_0 gn m.1
  have h1 : (cntL gn m.1 == 0) = true := by simpa using h
  rw [h1] at h0; unfold selA; rw [← h0, cnt_in]; rfl
theorem selB_y {lg gn : List Int} {m : MemT} (h : cntL gn m.1 = 0) : (cntL lg m.1 == 0) = selB lg gn m := by
  have h0 := cnt_0 gn m.1
  have h1 : (cntL gn m.1 == 0) = true := by simpa using h
  rw [h1] at h0; unfold selB; rw [← h0, cnt_0]; rfl
theorem may_b (m : MemT) : (chkC 1 ([(m.1, m.2)] : List MemT) == 0) = mayM m := by unfold mayM; rw [Bool.eq_iff_iff]; simp
def joinB (acc : List MemT) (m : MemT) : Bool := decide (acc.length < 4) && mayM m && !(hasM acc m.1)
theorem joinB_1 {acc : List MemT} {m : MemT} (h : ¬ ((acc.length : Nat) : Int) < 4) : false = joinB acc m := by unfold joinB; rw [decide_eq_false (by omega)]; rfl
theorem joinB_2 {acc : List MemT} {m : MemT} (h : mayM m = false) : false = joinB acc m := by unfold joinB; rw [h]; simp
theorem joinB_3 {acc : List MemT} {m : MemT} (h : hasM acc m.1 = true) : false = joinB acc m := by unfold joinB; rw [h]; simp
theorem joinB_y {acc : List MemT} {m : MemT} (h : ((acc.length : Nat) : Int) < 4) (h2 : mayM m = true) (h3 : hasM acc m.1 = false) : true = joinB acc m := by unfold joinB; rw [decide_eq_true (by omega), h2, h3]; rfl
theorem joinF_t {acc : List MemT} {m : MemT} (h : joinB acc m = true) : acc ++ [m] = joinF acc m := by unfold joinF; unfold joinB at h; rw [if_pos h]
theorem joinF_f {acc : List MemT} {m : MemT} (h : joinB acc m = false) : acc = joinF acc m := by unfold joinF; unfold joinB at h; rw [h]; rfl
theorem app_yes {p : MemT → Bool} {acc l : List MemT} {i : Nat} {y : MemT} (h : l[i]? = some y) (hp : p y = true) : acc ++ (l.take i).filter p ++ [y] = acc ++ (l.take (i + 1)).filter p := by rw [List.append_assoc, filt_yes h hp]
theorem app_no {p : MemT → Bool} {acc l : List MemT} {i : Nat} {y : MemT} (h : l[i]? = some y) (hp : p y = false) : acc ++ (l.take i).filter p = acc ++ (l.take (i + 1)).filter p := by rw [filt_no h hp]
theorem jn_yes {acc l : List MemT} {i : Nat} {y : MemT} (h : l[i]? = some y) (hp : joinB (joinL acc (l.take i)) y = true) : joinL acc (l.take i) ++ [y] = joinL acc (l.take (i + 1)) := by rw [join_step h, joinF_t hp]
theorem jn_no {acc l : List MemT} {i : Nat} {y : MemT} (h : l[i]? = some y) (hp : joinB (joinL acc (l.take i)) y = false) : joinL acc (l.take i) = joinL acc (l.take (i + 1)) := by rw [join_step h, ← joinF_f hp]
theorem jn_0 (acc l : List MemT) : acc = joinL acc (l.take 0) := rfl
theorem jn_end {acc l : List MemT} {i : Nat} (h : l.length ≤ i) : joinL acc (l.take i) = joinL acc l := join_end (.inl h)
theorem filt_take {p : MemT → Bool} {l : List MemT} {i : Nat} : ((l.take i).filter p).length ≤ l.length := Nat.le_trans (List.length_filter_le ..) (by rw [List.length_take]; omega)
theorem filt_end {p : MemT → Bool} {acc l : List MemT} {i : Nat} (h : l.length ≤ i) : acc ++ (l.take i).filter p = acc ++ l.filter p := by rw [List.take_of_length_le h]
theorem keep_le (ms : List MemT) (lg gn : List Int) : (keepL ms lg gn).length ≤ ms.length := List.length_filter_le ..
theorem stayL_le (ms : List MemT) (lg gn : List Int) : (stayL ms lg gn).length ≤ ms.length := by unfold stayL; rw [List.length_append]; exact stay_le ms lg gn

set_option maxRecDepth 100000 in
theorem floor_any (fl : Int) (last : Int) (w : World) (hfl : 0 ≤ fl ∧ fl < 18446744073709551616) (hlast : 0 ≤ last ∧ last < 18446744073709551616) :
    Calls Try.prog 40 #[.int .u64 fl, .int .u64 last] w fun e w' => e = .returned (.int .u64 (floorP fl last)) ∧ Below w.heap.size w w' := by
 have hB0 := Below.refl w.heap.size w
 refine co_enter (n := 11) Try.func40 rfl rfl rfl [(0, .int .u64 fl), (1, .int .u64 last)] rfl (fun a h0 => ?_)
 refine co_seq ?_
 refine co_reg ?_
 refine pk0 (v := .int .u64 0) h0 rfl fun a1 h1 => ?_; clear h0
 refine pl_nil ?_
 refine co_then ?_
 refine co_seq ?_
 refine co_seq ?_
 refine co_reg ?_
 refine pk0 (v := .int .u64 last) h1 rfl fun a2 h2 => ?_; clear h1
 refine pk0 (v := .bool (last == 18446744073709551615)) h2 rfl fun a3 h3 => ?_; clear h2
 refine pl_nil ?_
 refine co_then ?_
 cases hc4 : (last == 18446744073709551615)
 ·
  rw [hc4] at h3
  have hp5 : ¬ (last = 18446744073709551615) := by first | simpa using hc4 | simpa [and_assoc] using hc4
  clear hc4
  refine co_false h3 rfl ?_
  refine wp_skip ?_
  refine co_then ?_
  refine co_seq ?_
  refine co_reg ?_
  refine pk0 (v := .int .u64 fl) h3 rfl fun a6 h6 => ?_; clear h3
  refine pk0 (v := .int .u64 last) h6 rfl fun a7 h7 => ?_; clear h6
  refine pk (v := .int .u64 (last + 1)) h7 rfl (rn_arith rfl rfl rfl rfl rfl rfl (IntWalk.u64_in _ (by omega))) fun a8 h8 => ?_; clear h7
  by_cases hs9 : fl < last + 1
  ·
   refine pk (v := .int .u64 (last + 1)) h8 rfl (rn_max2 rfl rfl rfl rfl (by omega)) fun a10 h10 => ?_; clear h8
   refine pk0 (v := .int .u64 (last + 1)) h10 rfl fun a11 h11 => ?_; clear h10
   refine pl_nil ?_
   refine co_then ?_
   refine wp_ret ?_
   refine co_ret1 h11 rfl rfl ?_
   exact ⟨ret_int (by first | exact floorP_a (by omega) | exact floorP_b (by omega) (by omega) | exact floorP_c (by omega) (by omega)), hB0⟩
  ·
   refine pk (v := .int .u64 fl) h8 rfl (rn_max1 rfl rfl rfl rfl (by omega)) fun a12 h12 => ?_; clear h8
   refine pk0 (v := .int .u64 fl) h12 rfl fun a13 h13 => ?_; clear h12
   refine pl_nil ?_
   refine co_then ?_
   refine wp_ret ?_
   refine co_ret1 h13 rfl rfl ?_
   exact ⟨ret_int (by first | exact floorP_a (by omega) | exact floorP_b (by omega) (by omega) | exact floorP_c (by omega) (by omega)), hB0⟩
 ·
  rw [hc4] at h3
  have hp14 : last = 18446744073709551615 := by first | simpa using hc4 | simpa [and_assoc] using hc4
  clear hc4
  refine co_true h3 rfl ?_
  refine co_seq ?_
  refine co_reg ?_
  refine pk0 (v := .int .u64 18446744073709551615) h3 rfl fun a15 h15 => ?_; clear h3
  refine pl_nil ?_
  refine co_then ?_
  refine wp_ret ?_
  refine co_thenR ?_
  refine co_ret1 h15 rfl rfl ?_
  exact ⟨ret_int (by first | exact floorP_a (by omega) | exact floorP_b (by omega) (by omega) | exact floorP_c (by omega) (by omega)), hB0⟩
set_option maxRecDepth 100000 in
theorem set_any (v : Value) (l : List Int) (w : World) (hs : SliceOf (intE .i64) 1 w v l) :
    Calls Try.prog 58 #[v] w fun e w' => ∃ (N : Nat), e = .returned (.map (some N)) ∧ MapG intK intK 0 w' N (cntL l) ∧ w.heap.size ≤ N ∧ Below w.heap.size w w' := by
 have hB0 := Below.refl w.heap.size w
 have hl_hs := sl_len hs
 refine co_enter (n := 19) Try.func58 rfl rfl rfl [(0, v)] rfl (fun a h0 => ?_)
 refine co_seq ?_
 refine co_reg ?_
 refine pk0 (v := .map none) h0 rfl fun a1 h1 => ?_; clear h0
 refine pl_nil ?_
 refine co_then ?_
 refine co_seq ?_
 refine co_reg ?_
 refine pw h1 rfl (op_makeG intK intK 0 (by kernel_rfl) (by kernel_rfl) rfl) ?_; clear h1
 rintro _ w3 a2 ⟨B4, rfl, hN5, hz6, hm7, hg8⟩ h2
 have hz9 := hg8.size
 have hl10 := hm7.lt
 refine pk0 (v := .map (some B4)) h2 rfl fun a11 h11 => ?_; clear h2
 refine pl_nil ?_
 refine co_then ?_
 refine co_seq ?_
 refine co_seq ?_
 refine co_reg ?_
 refine pk0 (v := v) h11 rfl fun a12 h12 => ?_; clear h11
 have hB13 := hb_new hB0 hg8
 refine pk (v := .int .i64 ((l.length : Nat) : Int)) h12 rfl (rn_len rfl rfl Try.underlying43 (hs.below hB13)) fun a14 h14 => ?_; clear h12
 refine pk0 (v := .int .i64 0) h14 rfl fun a15 h15 => ?_; clear h14
 refine pl_nil ?_
 refine co_then ?_
 refine wp_block ?_
 have h16 : Slots 19 [(0, v), (3, .map (some B4)), (7, v), (8, .int .i64 ((l.length : Nat) : Int)), (9, .int .i64 0)] _ := h15.sub ⟨rfl, rfl, rfl, rfl, rfl, trivial⟩; clear h15
 refine co_loop (fun mm a x => ∃ (i : Nat), Slots 19 [(0, v), (3, .map (some B4)), (7, v), (8, .int .i64 ((l.length : Nat) : Int)), (9, .int .i64 ((i : Nat) : Int))] a ∧ mm = l.length - i ∧ (i ≤ l.length) ∧ MapG intK intK 0 x B4 (cntL (l.take i)) ∧ Below w.heap.size w x) (l.length - 0) ?_ ?_
 · exact ⟨0, h16.sub ⟨rfl, rfl, rfl, rfl, (slot_eq rfl (congrArg (Value.int .i64) (by first | rfl | omega))), trivial⟩, rfl, by omega, (hm7.toE (cntL_nil)), hB13⟩
 · rintro k17 a18 w19 ⟨i, h18, rfl, hi20, hf21, hB22⟩
   have hz23 := hB22.size
   have hl24 := hf21.lt
   refine co_seq ?_
   refine co_reg ?_
   refine pk0 (v := .bool (decide (((i : Nat) : Int) < ((l.length : Nat) : Int)))) h18 rfl fun a25 h25 => ?_; clear h18
   refine pl_nil ?_
   refine co_then ?_
   refine co_seq ?_
   cases hc26 : (decide (((i : Nat) : Int) < ((l.length : Nat) : Int)))
   ·
    rw [hc26] at h25
    have hp27 : ¬ (((i : Nat) : Int) < ((l.length : Nat) : Int)) := of_decide_eq_false hc26
    clear hc26
    refine co_false h25 rfl ?_
    refine wp_exit ?_
    refine co_thenX ?_
    refine co_thenX ?_
    refine co_blockX ?_
    refine co_then ?_
    refine co_seq ?_
    refine co_reg ?_
    refine pk0 (v := .map (some B4)) h25 rfl fun a28 h28 => ?_; clear h25
    refine pk0 (v := .map (some B4)) h28 rfl fun a29 h29 => ?_; clear h28
    refine pl_nil ?_
    refine co_then ?_
    refine wp_ret ?_
    refine co_ret1 h29 rfl rfl ?_
    exact ⟨_, rfl, hf21.toE (by rw [List.take_of_length_le (by omega)]), by omega, hB22⟩
   ·
    rw [hc26] at h25
    have hp30 : ((i : Nat) : Int) < ((l.length : Nat) : Int) := of_decide_eq_true hc26
    clear hc26
    refine co_true h25 rfl ?_
    refine wp_skip ?_
    refine co_then ?_
    refine co_seq ?_
    refine wp_block ?_
    refine co_seq ?_
    refine co_reg ?_
    obtain ⟨y31, hy31⟩ : ∃ z, l[i]? = some z := ⟨_, List.getElem?_eq_getElem (by first | omega | (simp; done) | (simp; omega))⟩
    refine pk (v := pt (blkOf v) (offOf v + i * 1)) h25 rfl (rn_index rfl rfl rfl Try.underlying43 Try.sizeOf3 (hs.below hB22) (by omega) (by first | omega | (simp; done) | (simp; omega))) fun a32 h32 => ?_; clear h25
    refine pk (v := .int .i64 y31) h32 rfl (rn_load1 rfl rfl Try.isAgg3 ((sl_at (hs.below hB22) hy31) 0 _ rfl)) fun a33 h33 => ?_; clear h32
    refine pk0 (v := .int .i64 y31) h33 rfl fun a34 h34 => ?_; clear h33
    refine pl_nil ?_
    refine co_then ?_
    refine co_reg ?_
    refine pk0 (v := .map (some B4)) h34 rfl fun a35 h35 => ?_; clear h34
    refine pk0 (v := .int .i64 y31) h35 rfl fun a36 h36 => ?_; clear h35
    have k37 : 0 ≤ cntL (l.take i) y31 ∧ cntL (l.take i) y31 ≤ i := by have := cntL_nn (l.take i) y31; rw [List.length_take] at this; omega
    refine pk (v := .int .i64 (cntL (l.take i) y31)) h36 rfl (rn_lookG (a := y31) (intKL Try.underlying3) rfl rfl rfl Try.underlying108 intz hf21) fun a38 h38 => ?_; clear h36
    refine pk (v := .int .i64 ((cntL (l.take i) y31) + 1)) h38 rfl (rn_arith rfl rfl rfl rfl rfl rfl (IntWalk.i64_in _ (by omega))) fun a39 h39 => ?_; clear h38
    refine pwD h39 rfl (op_updateG (a := y31) (v := ((cntL (l.take i) y31) + 1)) (intKL Try.underlying3) rfl rfl rfl rfl Try.underlying108 hf21) ?_; clear h39
    rintro _ w41 a40 ⟨hm42, hz43, hg44⟩ h40
    have hz45 := hg44.size
    have hl46 := hm42.lt
    refine pl_nil ?_
    refine co_blockN ?_
    refine co_then ?_
    refine co_reg ?_
    refine pk (v := .int .i64 ((i + 1 : Nat) : Int)) h40 rfl (rn_arith' rfl rfl rfl rfl rfl rfl (IntWalk.i64_in _ (by omega)) (by omega)) fun a47 h47 => ?_; clear h40
    refine pk0 (v := .int .i64 ((i + 1 : Nat) : Int)) h47 rfl fun a48 h48 => ?_; clear h47
    refine pl_nil ?_
    refine co_then ?_
    refine ⟨(l.length - (i + 1)), by omega, ?_⟩
    have hB49 := hb_at hB22 hg44 (by omega)
    exact ⟨i + 1, h48.sub ⟨rfl, rfl, rfl, rfl, rfl, trivial⟩, rfl, by omega, (hm42.toE (cntL_step hy31)), hB49⟩
set_option maxRecDepth 100000 in
theorem selA_any (m : MemT) (G : Nat) (T : Nat) (mg : Nat) (mt : Nat) (gn : List Int) (lg : List Int) (w : World) (hG : Blk w G 108 #[.map (some mg)]) (hT : Blk w T 108 #[.map (some mt)]) (hmg : MapG intK intK 0 w mg (cntL gn)) (hmt : MapG intK intK 0 w mt (cntL lg)) :
    Calls Try.prog 60 #[.agg #[.int .i64 m.1, .int .i64 m.2], pt G 0, pt T 0] w fun e w' => e = .returned (.bool (selA lg gn m)) ∧ Below w.heap.size w w' := by
 have hB0 := Below.refl w.heap.size w
 have hl_hG := hG.lt
 have hl_hT := hT.lt
 have hlmg := hmg.lt
 have hlmt := hmt.lt
 refine co_enter (n := 17) Try.func60 rfl rfl rfl [(0, .agg #[.int .i64 m.1, .int .i64 m.2]), (1, pt G 0), (2, pt T 0)] rfl (fun a h0 => ?_)
 refine co_seq ?_
 refine co_reg ?_
 refine pw h0 rfl (op_new (v := fun N => pt N 0) (T := 80) (cs := #[.int .i64 m.1, .int .i64 m.2]) (by kernel_rfl) (by kernel_rfl) (by kernel_rfl)) ?_; clear h0
 rintro _ w2 a1 ⟨N3, rfl, hN6, hz7, hk5, hg4⟩ h1
 have hz8 := hg4.size
 try dsimp only at h1
 refine pk0 (v := .bool false) h1 rfl fun a9 h9 => ?_; clear h1
 refine pl_nil ?_
 refine co_then ?_
 refine co_seq ?_
 refine co_reg ?_
 have hk10 := hG.kept hg4 (by simp)
 refine pk (v := .map (some mg)) h9 rfl (rn_load1 rfl rfl Try.isAgg108 (hk10.cell rfl)) fun a11 h11 => ?_; clear h9
 refine pk0 (v := pt N3 0) h11 rfl fun a12 h12 => ?_; clear h11
 refine pk (v := .int .i64 m.1) h12 rfl (rn_load1 rfl rfl Try.isAgg3 (hk5.cell rfl)) fun a13 h13 => ?_; clear h12
 have hI14 := hmg.kept hg4 (by simp)
 refine pk (v := .int .i64 (cntL gn m.1)) h13 rfl (rn_lookG (a := m.1) (intKL Try.underlying3) rfl rfl rfl Try.underlying108 intz hI14) fun a15 h15 => ?_; clear h13
 refine pk0 (v := .bool (cntL gn m.1 == 0)) h15 rfl fun a16 h16 => ?_; clear h15
 refine pk0 (v := .bool (cntL gn m.1 == 0)) h16 rfl fun a17 h17 => ?_; clear h16
 have hB19 := hb_new hB0 hg4
 cases hc18 : (cntL gn m.1 == 0)
 ·
  rw [hc18] at h17
  have hp20 : ¬ (cntL gn m.1 = 0) := by first | simpa using hc18 | simpa [and_assoc] using hc18
  clear hc18
  refine psk h17 rfl fun a21 h21 => ?_; clear h17
  refine psk h21 rfl fun a22 h22 => ?_; clear h21
  refine psk h22 rfl fun a23 h23 => ?_; clear h22
  refine psk h23 rfl fun a24 h24 => ?_; clear h23
  refine psk h24 rfl fun a25 h25 => ?_; clear h24
  refine pk0 (v := .bool false) h25 rfl fun a26 h26 => ?_; clear h25
  refine pk0 (v := .bool false) h26 rfl fun a27 h27 => ?_; clear h26
  refine pl_nil ?_
  refine co_then ?_
  refine wp_ret ?_
  refine co_ret1 h27 rfl rfl ?_
  exact ⟨ret_bool (by first | exact selA_y (by omega) | exact selA_n (by omega)), hB19⟩
 ·
  rw [hc18] at h17
  have hp28 : cntL gn m.1 = 0 := by first | simpa using hc18 | simpa [and_assoc] using hc18
  clear hc18
  have hk29 := hT.kept hg4 (by simp)
  refine pk (v := .map (some mt)) h17 rfl (rn_load1 rfl rfl Try.isAgg108 (hk29.cell rfl)) fun a30 h30 => ?_; clear h17
  refine pk0 (v := pt N3 0) h30 rfl fun a31 h31 => ?_; clear h30
  refine pk (v := .int .i64 m.1) h31 rfl (rn_load1 rfl rfl Try.isAgg3 (hk5.cell rfl)) fun a32 h32 => ?_; clear h31
  have hI33 := hmt.kept hg4 (by simp)
  refine pk (v := .int .i64 (cntL lg m.1)) h32 rfl (rn_lookG (a := m.1) (intKL Try.underlying3) rfl rfl rfl Try.underlying108 intz hI33) fun a34 h34 => ?_; clear h32
  refine pk0 (v := .bool (decide (cntL lg m.1 > 0))) h34 rfl fun a35 h35 => ?_; clear h34
  refine pk0 (v := .bool (decide (cntL lg m.1 > 0))) h35 rfl fun a36 h36 => ?_; clear h35
  refine pk0 (v := .bool (decide (cntL lg m.1 > 0))) h36 rfl fun a37 h37 => ?_; clear h36
  refine pl_nil ?_
  refine co_then ?_
  refine wp_ret ?_
  refine co_ret1 h37 rfl rfl ?_
  exact ⟨ret_bool (by first | exact selA_y (by omega) | exact selA_n (by omega)), hB19⟩
set_option maxRecDepth 100000 in
theorem selB_any (m : MemT) (G : Nat) (T : Nat) (mg : Nat) (mt : Nat) (gn : List Int) (lg : List Int) (w : World) (hG : Blk w G 108 #[.map (some mg)]) (hT : Blk w T 108 #[.map (some mt)]) (hmg : MapG intK intK 0 w mg (cntL gn)) (hmt : MapG intK intK 0 w mt (cntL lg)) :
    Calls Try.prog 61 #[.agg #[.int .i64 m.1, .int .i64 m.2], pt G 0, pt T 0] w fun e w' => e = .returned (.bool (selB lg gn m)) ∧ Below w.heap.size w w' := by
 have hB0 := Below.refl w.heap.size w
 have hl_hG := hG.lt
 have hl_hT := hT.lt
 have hlmg := hmg.lt
 have hlmt := hmt.lt
 refine co_enter (n := 17) Try.func61 rfl rfl rfl [(0, .agg #[.int .i64 m.1, .int .i64 m.2]), (1, pt G 0), (2, pt T 0)] rfl (fun a h0 => ?_)
 refine co_seq ?_
 refine co_reg ?_
 refine pw h0 rfl (op_new (v := fun N => pt N 0) (T := 80) (cs := #[.int .i64 m.1, .int .i64 m.2]) (by kernel_rfl) (by kernel_rfl) (by kernel_rfl)) ?_; clear h0
 rintro _ w2 a1 ⟨N3, rfl, hN6, hz7, hk5, hg4⟩ h1
 have hz8 := hg4.size
 try dsimp only at h1
 refine pk0 (v := .bool false) h1 rfl fun a9 h9 => ?_; clear h1
 refine pl_nil ?_
 refine co_then ?_
 refine co_seq ?_
 refine co_reg ?_
 have hk10 := hG.kept hg4 (by simp)
 refine pk (v := .map (some mg)) h9 rfl (rn_load1 rfl rfl Try.isAgg108 (hk10.cell rfl)) fun a11 h11 => ?_; clear h9
 refine pk0 (v := pt N3 0) h11 rfl fun a12 h12 => ?_; clear h11
 refine pk (v := .int .i64 m.1) h12 rfl (rn_load1 rfl rfl Try.isAgg3 (hk5.cell rfl)) fun a13 h13 => ?_; clear h12
 have hI14 := hmg.kept hg4 (by simp)
 refine pk (v := .int .i64 (cntL gn m.1)) h13 rfl (rn_lookG (a := m.1) (intKL Try.underlying3) rfl rfl rfl Try.underlying108 intz hI14) fun a15 h15 => ?_; clear h13
 refine pk0 (v := .bool (cntL gn m.1 == 0)) h15 rfl fun a16 h16 => ?_; clear h15
 refine pk0 (v := .bool (cntL gn m.1 == 0)) h16 rfl fun a17 h17 => ?_; clear h16
 have hB19 := hb_new hB0 hg4
 cases hc18 : (cntL gn m.1 == 0)
 ·
  rw [hc18] at h17
  have hp20 : ¬ (cntL gn m.1 = 0) := by first | simpa using hc18 | simpa [and_assoc] using hc18
  clear hc18
  refine psk h17 rfl fun a21 h21 => ?_; clear h17
  refine psk h21 rfl fun a22 h22 => ?_; clear h21
  refine psk h22 rfl fun a23 h23 => ?_; clear h22
  refine psk h23 rfl fun a24 h24 => ?_; clear h23
  refine psk h24 rfl fun a25 h25 => ?_; clear h24
  refine pk0 (v := .bool false) h25 rfl fun a26 h26 => ?_; clear h25
  refine pk0 (v := .bool false) h26 rfl fun a27 h27 => ?_; clear h26
  refine pl_nil ?_
  refine co_then ?_
  refine wp_ret ?_
  refine co_ret1 h27 rfl rfl ?_
  exact ⟨ret_bool (by first | exact selB_y (by omega) | exact selB_n (by omega)), hB19⟩
 ·
  rw [hc18] at h17
  have hp28 : cntL gn m.1 = 0 := by first | simpa using hc18 | simpa [and_assoc] using hc18
  clear hc18
  have hk29 := hT.kept hg4 (by simp)
  refine pk (v := .map (some mt)) h17 rfl (rn_load1 rfl rfl Try.isAgg108 (hk29.cell rfl)) fun a30 h30 => ?_; clear h17
  refine pk0 (v := pt N3 0) h30 rfl fun a31 h31 => ?_; clear h30
  refine pk (v := .int .i64 m.1) h31 rfl (rn_load1 rfl rfl Try.isAgg3 (hk5.cell rfl)) fun a32 h32 => ?_; clear h31
  have hI33 := hmt.kept hg4 (by simp)
  refine pk (v := .int .i64 (cntL lg m.1)) h32 rfl (rn_lookG (a := m.1) (intKL Try.underlying3) rfl rfl rfl Try.underlying108 intz hI33) fun a34 h34 => ?_; clear h32
  refine pk0 (v := .bool (cntL lg m.1 == 0)) h34 rfl fun a35 h35 => ?_; clear h34
  refine pk0 (v := .bool (cntL lg m.1 == 0)) h35 rfl fun a36 h36 => ?_; clear h35
  refine pk0 (v := .bool (cntL lg m.1 == 0)) h36 rfl fun a37 h37 => ?_; clear h36
  refine pl_nil ?_
  refine co_then ?_
  refine wp_ret ?_
  refine co_ret1 h37 rfl rfl ?_
  exact ⟨ret_bool (by first | exact selB_y (by omega) | exact selB_n (by omega)), hB19⟩
set_option maxRecDepth 100000 in
theorem hasId27_any (p : MemT) (id : Int) (N : Nat) (w : World) (hr : w.rangeAt N 0 [.int .i64 id]) :
    Calls Try.prog 63 #[.agg #[.int .i64 p.1, .int .i64 p.2], pt N 0] w fun e w' => e = .returned (.bool (p.1 == id)) ∧ Below w.heap.size w w' := by
 have hB0 := Below.refl w.heap.size w
 refine co_enter (n := 9) Try.func63 rfl rfl rfl [(0, .agg #[.int .i64 p.1, .int .i64 p.2]), (1, pt N 0)] rfl (fun a h0 => ?_)
 refine co_seq ?_
 refine co_reg ?_
 refine pw h0 rfl (op_new (v := fun N => pt N 0) (T := 80) (cs := #[.int .i64 p.1, .int .i64 p.2]) (by kernel_rfl) (by kernel_rfl) (by kernel_rfl)) ?_; clear h0
 rintro _ w2 a1 ⟨N3, rfl, hN6, hz7, hk5, hg4⟩ h1
 have hz8 := hg4.size
 try dsimp only at h1
 refine pk0 (v := .bool false) h1 rfl fun a9 h9 => ?_; clear h1
 refine pl_nil ?_
 refine co_then ?_
 refine co_seq ?_
 refine co_reg ?_
 refine pk0 (v := pt N3 0) h9 rfl fun a10 h10 => ?_; clear h9
 refine pk (v := .int .i64 p.1) h10 rfl (rn_load1 rfl rfl Try.isAgg3 (hk5.cell rfl)) fun a11 h11 => ?_; clear h10
 refine pk0 (v := pt N 0) h11 rfl fun a12 h12 => ?_; clear h11
 have hB13 := hb_new hB0 hg4
 refine pk (v := .int .i64 id) h12 rfl (rn_load1 rfl rfl Try.isAgg3 ((range_below hr hB13) 0 _ rfl)) fun a14 h14 => ?_; clear h12
 refine pk0 (v := .bool (p.1 == id)) h14 rfl fun a15 h15 => ?_; clear h14
 refine pk0 (v := .bool (p.1 == id)) h15 rfl fun a16 h16 => ?_; clear h15
 refine pl_nil ?_
 refine co_then ?_
 refine wp_ret ?_
 refine co_ret1 h16 rfl rfl ?_
 exact ⟨rfl, hB13⟩
set_option maxRecDepth 100000 in
theorem indexM_any (v : Value) (l : List MemT) (id : Int) (N : Nat) (w : World) (hs : SliceOf memE 2 w v l) (hr : w.rangeAt N 0 [.int .i64 id]) :
    Calls Try.prog 92 #[v, .func (.func 63) #[] #[pt N 0]] w fun e w' => ∃ (j : Int), e = .returned (.int .i64 j) ∧ decide (j ≥ 0) = hasM l id ∧ Below w.heap.size w w' := by
 have hB0 := Below.refl w.heap.size w
 have hl_hs := sl_len hs
 refine co_enter (n := 19) Try.func92 rfl rfl rfl [(0, v), (1, .func (.func 63) #[] #[pt N 0])] rfl (fun a h0 => ?_)
 refine co_seq ?_
 refine co_reg ?_
 refine pk0 (v := .int .i64 0) h0 rfl fun a1 h1 => ?_; clear h0
 refine pl_nil ?_
 refine co_then ?_
 refine co_seq ?_
 refine co_seq ?_
 refine co_reg ?_
 refine pk0 (v := v) h1 rfl fun a2 h2 => ?_; clear h1
 refine pk (v := .int .i64 ((l.length : Nat) : Int)) h2 rfl (rn_len rfl rfl Try.underlying40 hs) fun a3 h3 => ?_; clear h2
 refine pk0 (v := .int .i64 0) h3 rfl fun a4 h4 => ?_; clear h3
 refine pl_nil ?_
 refine co_then ?_
 refine wp_block ?_
 have h5 : Slots 19 [(0, v), (1, .func (.func 63) #[] #[pt N 0]), (6, v), (7, .int .i64 ((l.length : Nat) : Int)), (8, .int .i64 0)] _ := h4.sub ⟨rfl, rfl, rfl, rfl, rfl, trivial⟩; clear h4
 refine co_loop (fun mm a x => ∃ (i : Nat), Slots 19 [(0, v), (1, .func (.func 63) #[] #[pt N 0]), (6, v), (7, .int .i64 ((l.length : Nat) : Int)), (8, .int .i64 ((i : Nat) : Int))] a ∧ mm = l.length - i ∧ (i ≤ l.length) ∧ (∀ j, j < i → ∀ z, l[j]? = some z → z.1 ≠ id) ∧ Below w.heap.size w x) (l.length - 0) ?_ ?_
 · exact ⟨0, h5.sub ⟨rfl, rfl, rfl, rfl, (slot_eq rfl (congrArg (Value.int .i64) (by first | rfl | omega))), trivial⟩, rfl, by omega, by first | (intro j hj; omega) | exact has_next (by assumption) (by assumption) (by omega), hB0⟩
 · rintro k6 a7 w8 ⟨i, h7, rfl, hi9, hi10, hB11⟩
   have hz12 := hB11.size
   refine co_seq ?_
   refine co_reg ?_
   refine pk0 (v := .bool (decide (((i : Nat) : Int) < ((l.length : Nat) : Int)))) h7 rfl fun a13 h13 => ?_; clear h7
   refine pl_nil ?_
   refine co_then ?_
   refine co_seq ?_
   cases hc14 : (decide (((i : Nat) : Int) < ((l.length : Nat) : Int)))
   ·
    rw [hc14] at h13
    have hp15 : ¬ (((i : Nat) : Int) < ((l.length : Nat) : Int)) := of_decide_eq_false hc14
    clear hc14
    refine co_false h13 rfl ?_
    refine wp_exit ?_
    refine co_thenX ?_
    refine co_thenX ?_
    refine co_blockX ?_
    refine co_then ?_
    refine co_seq ?_
    refine co_reg ?_
    refine pk0 (v := .int .i64 (-1)) h13 rfl fun a16 h16 => ?_; clear h13
    refine pl_nil ?_
    refine co_then ?_
    refine wp_ret ?_
    refine co_ret1 h16 rfl rfl ?_
    exact ⟨_, rfl, by rw [decide_eq_false (by omega)]; exact hasM_end (by assumption) (by omega), hB11⟩
   ·
    rw [hc14] at h13
    have hp17 : ((i : Nat) : Int) < ((l.length : Nat) : Int) := of_decide_eq_true hc14
    clear hc14
    refine co_true h13 rfl ?_
    refine wp_skip ?_
    refine co_then ?_
    refine co_seq ?_
    refine wp_block ?_
    refine co_seq ?_
    refine co_reg ?_
    refine pk0 (v := .int .i64 ((i : Nat) : Int)) h13 rfl fun a18 h18 => ?_; clear h13
    refine pk0 (v := .int .i64 ((i : Nat) : Int)) h18 rfl fun a19 h19 => ?_; clear h18
    refine pl_nil ?_
    refine co_then ?_
    refine co_seq ?_
    refine co_reg ?_
    refine pk0 (v := .func (.func 63) #[] #[pt N 0]) h19 rfl fun a20 h20 => ?_; clear h19
    refine pk0 (v := v) h20 rfl fun a21 h21 => ?_; clear h20
    refine pk0 (v := .int .i64 ((i : Nat) : Int)) h21 rfl fun a22 h22 => ?_; clear h21
    obtain ⟨y23, hy23⟩ : ∃ z, l[i]? = some z := ⟨_, List.getElem?_eq_getElem (by first | omega | (simp; done) | (simp; omega))⟩
    refine pk (v := pt (blkOf v) (offOf v + i * 2)) h22 rfl (rn_index rfl rfl rfl Try.underlying40 Try.sizeOf80 (hs.below hB11) (by omega) (by first | omega | (simp; done) | (simp; omega))) fun a24 h24 => ?_; clear h22
    refine pk (v := .agg #[.int .i64 y23.1, .int .i64 y23.2]) h24 rfl (rn_loadN rfl rfl Try.underlying80 rfl (by kernel_rfl) (sl_at (hs.below hB11) hy23)) fun a25 h25 => ?_; clear h24
    refine pw h25 rfl (op_callV (args := #[.agg #[.int .i64 y23.1, .int .i64 y23.2], pt N 0]) (R := fun res xw => res = .bool (y23.1 == id) ∧ Below w8.heap.size w8 xw) rfl rfl rfl (by kernel_rfl) (by kernel_rfl) (Try.call63 _ _) (hasId27_any y23 id N w8 (range_below hr hB11)) (by rintro e x ⟨rfl, hb28⟩; exact ⟨_, rfl, ⟨rfl, hb28⟩⟩)) ?_; clear h25
    rintro _ w27 a26 ⟨rfl, hb28⟩ h26
    have hz29 := hb28.size
    refine pl_nil ?_
    refine co_then ?_
    have hB31 := hb_call hB11 hb28
    cases hc30 : (y23.1 == id)
    ·
     rw [hc30] at h26
     have hp32 : ¬ (y23.1 = id) := by first | simpa using hc30 | simpa [and_assoc] using hc30
     clear hc30
     refine co_false h26 rfl ?_
     refine wp_skip ?_
     refine co_blockN ?_
     refine co_then ?_
     refine co_reg ?_
     refine pk (v := .int .i64 ((i + 1 : Nat) : Int)) h26 rfl (rn_arith' rfl rfl rfl rfl rfl rfl (IntWalk.i64_in _ (by omega)) (by omega)) fun a33 h33 => ?_; clear h26
     refine pk0 (v := .int .i64 ((i + 1 : Nat) : Int)) h33 rfl fun a34 h34 => ?_; clear h33
     refine pl_nil ?_
     refine co_then ?_
     refine ⟨(l.length - (i + 1)), by omega, ?_⟩
     exact ⟨i + 1, h34.sub ⟨rfl, rfl, rfl, rfl, rfl, trivial⟩, rfl, by omega, by first | (intro j hj; omega) | exact has_next (by assumption) (by assumption) (by omega), hB31⟩
    ·
     rw [hc30] at h26
     have hp35 : y23.1 = id := by first | simpa using hc30 | simpa [and_assoc] using hc30
     clear hc30
     refine co_true h26 rfl ?_
     refine co_seq ?_
     refine co_reg ?_
     refine pk0 (v := .int .i64 ((i : Nat) : Int)) h26 rfl fun a36 h36 => ?_; clear h26
     refine pk0 (v := .int .i64 ((i : Nat) : Int)) h36 rfl fun a37 h37 => ?_; clear h36
     refine pl_nil ?_
     refine co_then ?_
     refine wp_ret ?_
     refine co_blockR ?_
     refine co_thenR ?_
     refine co_thenR ?_
     refine co_blockR ?_
     refine co_thenR ?_
     refine co_ret1 h37 rfl rfl ?_
     exact ⟨_, rfl, by rw [decide_eq_true (by omega)]; exact hasM_at (by assumption) (by omega), hB31⟩
set_option maxRecDepth 100000 in
theorem containsM_any (v : Value) (l : List MemT) (id : Int) (N : Nat) (w : World) (hs : SliceOf memE 2 w v l) (hr : w.rangeAt N 0 [.int .i64 id]) :
    Calls Try.prog 65 #[v, .func (.func 63) #[] #[pt N 0]] w fun e w' => e = .returned (.bool (hasM l id)) ∧ Below w.heap.size w w' := by
 have hB0 := Below.refl w.heap.size w
 have hl_hs := sl_len hs
 refine co_enter (n := 9) Try.func65 rfl rfl rfl [(0, v), (1, .func (.func 63) #[] #[pt N 0])] rfl (fun a h0 => ?_)
 refine co_seq ?_
 refine co_reg ?_
 refine pk0 (v := .bool false) h0 rfl fun a1 h1 => ?_; clear h0
 refine pl_nil ?_
 refine co_then ?_
 refine co_seq ?_
 refine co_reg ?_
 refine pk0 (v := v) h1 rfl fun a2 h2 => ?_; clear h1
 refine pk0 (v := .func (.func 63) #[] #[pt N 0]) h2 rfl fun a3 h3 => ?_; clear h2
 refine pw h3 rfl (op_call (args := #[v, .func (.func 63) #[] #[pt N 0]]) (R := fun res xw => ∃ j : Int, res = .int .i64 j ∧ decide (j ≥ 0) = hasM l id ∧ Below w.heap.size w xw) rfl rfl rfl (by kernel_rfl) (by kernel_rfl) (Try.call92 _ _) (indexM_any v l id N w hs hr) (by rintro e x ⟨j, rfl, hq7, hb8⟩; exact ⟨_, rfl, ⟨j, rfl, hq7, hb8⟩⟩)) ?_; clear h3
 rintro _ w5 a4 ⟨j6, rfl, hq7, hb8⟩ h4
 have hz9 := hb8.size
 refine pk0 (v := .bool (decide (j6 ≥ 0))) h4 rfl fun a10 h10 => ?_; clear h4
 refine pk0 (v := .bool (decide (j6 ≥ 0))) h10 rfl fun a11 h11 => ?_; clear h10
 refine pl_nil ?_
 refine co_then ?_
 refine wp_ret ?_
 refine co_ret1 h11 rfl rfl ?_
 have hB12 := hb_call hB0 hb8
 exact ⟨ret_bool (by assumption), hB12⟩
set_option maxRecDepth 100000 in
theorem may_any (m : MemT) (w : World) (hm : memOk m) :
    Calls Try.prog 64 #[.agg #[.int .i64 m.1, .int .i64 m.2]] w fun e w' => e = .returned (.bool (mayM m)) ∧ Below w.heap.size w w' := by
 have hB0 := Below.refl w.heap.size w
 refine co_enter (n := 8) Try.func64 rfl rfl rfl [(0, .agg #[.int .i64 m.1, .int .i64 m.2])] rfl (fun a h0 => ?_)
 refine co_seq ?_
 refine co_reg ?_
 refine pw h0 rfl (op_new (v := fun N => pt N 0) (T := 80) (cs := #[.int .i64 m.1, .int .i64 m.2]) (by kernel_rfl) (by kernel_rfl) (by kernel_rfl)) ?_; clear h0
 rintro _ w2 a1 ⟨N3, rfl, hN6, hz7, hk5, hg4⟩ h1
 have hz8 := hg4.size
 try dsimp only at h1
 refine pk0 (v := .bool false) h1 rfl fun a9 h9 => ?_; clear h1
 refine pl_nil ?_
 refine co_then ?_
 refine co_seq ?_
 refine co_reg ?_
 refine pk (v := .agg #[.int .i64 m.1, .int .i64 m.2]) h9 rfl (rn_loadN rfl rfl Try.underlying80 rfl (by kernel_rfl) hk5.all) fun a10 h10 => ?_; clear h9
 refine pw h10 rfl (op_new (v := fun N => .slice (some ⟨N, 0, none⟩) 1 1) (T := 80) (cs := #[.int .i64 m.1, .int .i64 m.2]) (by kernel_rfl) (by kernel_rfl) (by kernel_rfl)) ?_; clear h10
 rintro _ w12 a11 ⟨N13, rfl, hN16, hz17, hk15, hg14⟩ h11
 have hz18 := hg14.size
 try dsimp only at h11
 refine pk0 (v := .agg #[.int .i64 1, .slice (some ⟨N13, 0, none⟩) 1 1, .int .u64 0]) h11 rfl fun a19 h19 => ?_; clear h11
 have hr22 := row_of_cells (enc := memE) (sz := 2) ([(m.1, m.2)] : List MemT) hk15 (Nat.le_refl _) rfl rfl (by unfold maxLen; simp)
 refine pw h19 rfl (op_call (args := #[.agg #[.int .i64 1, .slice (some ⟨N13, 0, none⟩) 1 1, .int .u64 0]]) (R := fun res xw => res = .int .i64 (chkC 1 ([(m.1, m.2)] : List MemT)) ∧ Below w12.heap.size w12 xw) rfl rfl rfl (by kernel_rfl) (by kernel_rfl) (Try.call30 _ _) (wcheck_any 1 (.slice (some ⟨N13, 0, none⟩) 1 1) ([(m.1, m.2)] : List MemT) 0 w12 (row_sl hr22 memE_len) (by intro z hz; simp at hz; subst hz; exact hm) (by omega) (by omega)) (by rintro e x ⟨rfl, hb23⟩; exact ⟨_, rfl, ⟨rfl, hb23⟩⟩)) ?_; clear h19
 rintro _ w21 a20 ⟨rfl, hb23⟩ h20
 have hz24 := hb23.size
 refine pk0 (v := .bool (chkC 1 ([(m.1, m.2)] : List MemT) == 0)) h20 rfl fun a25 h25 => ?_; clear h20
 refine pk0 (v := .bool (chkC 1 ([(m.1, m.2)] : List MemT) == 0)) h25 rfl fun a26 h26 => ?_; clear h25
 refine pl_nil ?_
 refine co_then ?_
 refine wp_ret ?_
 refine co_ret1 h26 rfl rfl ?_
 have hB27 := hb_new hB0 hg4
 have hB28 := hb_new hB27 hg14
 have hB29 := hb_call hB28 hb23
 exact ⟨ret_bool (may_b m), hB29⟩
set_option maxRecDepth 100000 in
theorem joinB_any (m : MemT) (L : Nat) (u : Value) (acc : List MemT) (w : World) (hm : memOk m) (hL : Blk w L 40 #[u]) (hs : SliceOf memE 2 w u acc) :
    Calls Try.prog 62 #[.agg #[.int .i64 m.1, .int .i64 m.2], pt L 0] w fun e w' => e = .returned (.bool (joinB acc m)) ∧ Below w.heap.size w w' := by
 have hB0 := Below.refl w.heap.size w
 have hl_hL := hL.lt
 have hl_hs := sl_len hs
 refine co_enter (n := 19) Try.func62 rfl rfl rfl [(0, .agg #[.int .i64 m.1, .int .i64 m.2]), (1, pt L 0)] rfl (fun a h0 => ?_)
 refine co_seq ?_
 refine co_reg ?_
 refine pw h0 rfl (op_new (v := fun N => pt N 0) (T := 80) (cs := #[.int .i64 m.1, .int .i64 m.2]) (by kernel_rfl) (by kernel_rfl) (by kernel_rfl)) ?_; clear h0
 rintro _ w2 a1 ⟨N3, rfl, hN6, hz7, hk5, hg4⟩ h1
 have hz8 := hg4.size
 try dsimp only at h1
 refine pk0 (v := .bool false) h1 rfl fun a9 h9 => ?_; clear h1
 refine pl_nil ?_
 refine co_then ?_
 refine co_seq ?_
 refine co_reg ?_
 refine pk0 (v := .func (.func 63) #[] #[pt N3 0]) h9 rfl fun a10 h10 => ?_; clear h9
 refine pk0 (v := .func (.func 63) #[] #[pt N3 0]) h10 rfl fun a11 h11 => ?_; clear h10
 refine pl_nil ?_
 refine co_then ?_
 refine co_seq ?_
 refine co_reg ?_
 have hk12 := hL.kept hg4 (by simp)
 refine pk (v := u) h11 rfl (rn_load1 rfl rfl Try.isAgg40 (hk12.cell rfl)) fun a13 h13 => ?_; clear h11
 have hB14 := hb_new hB0 hg4
 refine pk (v := .int .i64 ((acc.length : Nat) : Int)) h13 rfl (rn_len rfl rfl Try.underlying40 (hs.below hB14)) fun a15 h15 => ?_; clear h13
 refine pk0 (v := .bool (decide (((acc.length : Nat) : Int) < 4))) h15 rfl fun a16 h16 => ?_; clear h15
 refine pk0 (v := .bool (decide (((acc.length : Nat) : Int) < 4))) h16 rfl fun a17 h17 => ?_; clear h16
 cases hc18 : (decide (((acc.length : Nat) : Int) < 4))
 ·
  rw [hc18] at h17
  have hp19 : ¬ (((acc.length : Nat) : Int) < 4) := of_decide_eq_false hc18
  clear hc18
  refine psk h17 rfl fun a20 h20 => ?_; clear h17
  refine psk h20 rfl fun a21 h21 => ?_; clear h20
  refine pk0 (v := .bool false) h21 rfl fun a22 h22 => ?_; clear h21
  refine pk0 (v := .bool false) h22 rfl fun a23 h23 => ?_; clear h22
  refine psk h23 rfl fun a24 h24 => ?_; clear h23
  refine psk h24 rfl fun a25 h25 => ?_; clear h24
  refine psk h25 rfl fun a26 h26 => ?_; clear h25
  refine psk h26 rfl fun a27 h27 => ?_; clear h26
  refine pk0 (v := .bool false) h27 rfl fun a28 h28 => ?_; clear h27
  refine pk0 (v := .bool false) h28 rfl fun a29 h29 => ?_; clear h28
  refine pl_nil ?_
  refine co_then ?_
  refine wp_ret ?_
  refine co_ret1 h29 rfl rfl ?_
  exact ⟨ret_bool (by first | exact joinB_y (by omega) (by assumption) (by assumption) | exact joinB_1 (by omega) | exact joinB_2 (by assumption) | exact joinB_3 (by assumption)), hB14⟩
 ·
  rw [hc18] at h17
  have hp30 : ((acc.length : Nat) : Int) < 4 := of_decide_eq_true hc18
  clear hc18
  refine pk (v := .agg #[.int .i64 m.1, .int .i64 m.2]) h17 rfl (rn_loadN rfl rfl Try.underlying80 rfl (by kernel_rfl) hk5.all) fun a31 h31 => ?_; clear h17
  refine pw h31 rfl (op_call (args := #[.agg #[.int .i64 m.1, .int .i64 m.2]]) (R := fun res xw => res = .bool (mayM m) ∧ Below w2.heap.size w2 xw) rfl rfl rfl (by kernel_rfl) (by kernel_rfl) (Try.call64 _ _) (may_any m w2 hm) (by rintro e x ⟨rfl, hb34⟩; exact ⟨_, rfl, ⟨rfl, hb34⟩⟩)) ?_; clear h31
  rintro _ w33 a32 ⟨rfl, hb34⟩ h32
  have hz35 := hb34.size
  refine pk0 (v := .bool (mayM m)) h32 rfl fun a36 h36 => ?_; clear h32
  refine pk0 (v := .bool (mayM m)) h36 rfl fun a37 h37 => ?_; clear h36
  have hB39 := hb_call hB14 hb34
  cases hc38 : (mayM m)
  ·
   rw [hc38] at h37
   refine psk h37 rfl fun a40 h40 => ?_; clear h37
   refine psk h40 rfl fun a41 h41 => ?_; clear h40
   refine psk h41 rfl fun a42 h42 => ?_; clear h41
   refine psk h42 rfl fun a43 h43 => ?_; clear h42
   refine pk0 (v := .bool false) h43 rfl fun a44 h44 => ?_; clear h43
   refine pk0 (v := .bool false) h44 rfl fun a45 h45 => ?_; clear h44
   refine pl_nil ?_
   refine co_then ?_
   refine wp_ret ?_
   refine co_ret1 h45 rfl rfl ?_
   exact ⟨ret_bool (by first | exact joinB_y (by omega) (by assumption) (by assumption) | exact joinB_1 (by omega) | exact joinB_2 (by assumption) | exact joinB_3 (by assumption)), hB39⟩
  ·
   rw [hc38] at h37
   have hk46 := hk12.below hb34
   refine pk (v := u) h37 rfl (rn_load1 rfl rfl Try.isAgg40 (hk46.cell rfl)) fun a47 h47 => ?_; clear h37
   refine pk0 (v := .func (.func 63) #[] #[pt N3 0]) h47 rfl fun a48 h48 => ?_; clear h47
   have hk51 := hk5.below hb34
   refine pw h48 rfl (op_call (args := #[u, .func (.func 63) #[] #[pt N3 0]]) (R := fun res xw => res = .bool (hasM acc m.1) ∧ Below w33.heap.size w33 xw) rfl rfl rfl (by kernel_rfl) (by kernel_rfl) (Try.call65 _ _) (containsM_any u acc m.1 N3 w33 (hs.below hB39) (blk_part hk51 0 rfl)) (by rintro e x ⟨rfl, hb52⟩; exact ⟨_, rfl, ⟨rfl, hb52⟩⟩)) ?_; clear h48
   rintro _ w50 a49 ⟨rfl, hb52⟩ h49
   have hz53 := hb52.size
   have hB55 := hb_call hB39 hb52
   cases hc54 : (hasM acc m.1)
   ·
    rw [hc54] at h49
    refine pk0 (v := .bool true) h49 rfl fun a56 h56 => ?_; clear h49
    refine pk0 (v := .bool true) h56 rfl fun a57 h57 => ?_; clear h56
    refine pk0 (v := .bool true) h57 rfl fun a58 h58 => ?_; clear h57
    refine pl_nil ?_
    refine co_then ?_
    refine wp_ret ?_
    refine co_ret1 h58 rfl rfl ?_
    exact ⟨ret_bool (by first | exact joinB_y (by omega) (by assumption) (by assumption) | exact joinB_1 (by omega) | exact joinB_2 (by assumption) | exact joinB_3 (by assumption)), hB55⟩
   ·
    rw [hc54] at h49
    refine pk0 (v := .bool false) h49 rfl fun a59 h59 => ?_; clear h49
    refine pk0 (v := .bool false) h59 rfl fun a60 h60 => ?_; clear h59
    refine pk0 (v := .bool false) h60 rfl fun a61 h61 => ?_; clear h60
    refine pl_nil ?_
    refine co_then ?_
    refine wp_ret ?_
    refine co_ret1 h61 rfl rfl ?_
    exact ⟨ret_bool (by first | exact joinB_y (by omega) (by assumption) (by assumption) | exact joinB_1 (by omega) | exact joinB_2 (by assumption) | exact joinB_3 (by assumption)), hB55⟩
set_option maxRecDepth 100000 in
theorem in_any (v : Value) (l : List Int) (n : Int) (w : World) (hs : SliceOf (intE .i64) 1 w v l) :
    Calls Try.prog 36 #[v, .int .i64 n] w fun e w' => e = .returned (.bool (inL l n)) ∧ Below w.heap.size w w' := by
 have hB0 := Below.refl w.heap.size w
 have hl_hs := sl_len hs
 refine co_enter (n := 18) Try.func36 rfl rfl rfl [(0, v), (1, .int .i64 n)] rfl (fun a h0 => ?_)
 refine co_seq ?_
 refine co_reg ?_
 refine pk0 (v := .bool false) h0 rfl fun a1 h1 => ?_; clear h0
 refine pl_nil ?_
 refine co_then ?_
 refine co_seq ?_
 refine co_seq ?_
 refine co_reg ?_
 refine pk0 (v := .int .i64 0) h1 rfl fun a2 h2 => ?_; clear h1
 refine pl_nil ?_
 refine co_then ?_
 refine wp_block ?_
 have h3 : Slots 18 [(0, v), (1, .int .i64 n), (5, .int .i64 0)] _ := h2.sub ⟨rfl, rfl, rfl, trivial⟩; clear h2
 refine co_loop (fun mm a x => ∃ (i : Nat), Slots 18 [(0, v), (1, .int .i64 n), (5, .int .i64 ((i : Nat) : Int))] a ∧ mm = l.length - i ∧ (i ≤ l.length) ∧ (∀ j, j < i → ∀ z, l[j]? = some z → z ≠ n) ∧ Below w.heap.size w x) (l.length - 0) ?_ ?_
 · exact ⟨0, h3.sub ⟨rfl, rfl, (slot_eq rfl (congrArg (Value.int .i64) (by first | rfl | omega))), trivial⟩, rfl, by omega, by first | (intro j hj; omega) | exact in_next (by assumption) (by assumption) (by omega), hB0⟩
 · rintro k4 a5 w6 ⟨i, h5, rfl, hi7, hi8, hB9⟩
   have hz10 := hB9.size
   refine co_seq ?_
   refine co_seq ?_
   refine co_reg ?_
   refine pk0 (v := .int .i64 ((i : Nat) : Int)) h5 rfl fun a11 h11 => ?_; clear h5
   refine pk0 (v := v) h11 rfl fun a12 h12 => ?_; clear h11
   refine pk (v := .int .i64 ((l.length : Nat) : Int)) h12 rfl (rn_len rfl rfl Try.underlying43 (hs.below hB9)) fun a13 h13 => ?_; clear h12
   refine pk0 (v := .bool (decide (((i : Nat) : Int) < ((l.length : Nat) : Int)))) h13 rfl fun a14 h14 => ?_; clear h13
   refine pl_nil ?_
   refine co_then ?_
   cases hc15 : (decide (((i : Nat) : Int) < ((l.length : Nat) : Int)))
   ·
    rw [hc15] at h14
    have hp16 : ¬ (((i : Nat) : Int) < ((l.length : Nat) : Int)) := of_decide_eq_false hc15
    clear hc15
    refine co_false h14 rfl ?_
    refine wp_exit ?_
    refine co_thenX ?_
    refine co_thenX ?_
    refine co_blockX ?_
    refine co_then ?_
    refine co_seq ?_
    refine co_reg ?_
    refine pk0 (v := .bool false) h14 rfl fun a17 h17 => ?_; clear h14
    refine pl_nil ?_
    refine co_then ?_
    refine wp_ret ?_
    refine co_ret1 h17 rfl rfl ?_
    exact ⟨ret_bool (by first | exact inL_at (by assumption) (by assumption) (by omega) | exact inL_end (i := i) (by assumption) (by omega)), hB9⟩
   ·
    rw [hc15] at h14
    have hp18 : ((i : Nat) : Int) < ((l.length : Nat) : Int) := of_decide_eq_true hc15
    clear hc15
    refine co_true h14 rfl ?_
    refine wp_skip ?_
    refine co_then ?_
    refine co_seq ?_
    refine wp_block ?_
    refine co_seq ?_
    refine co_reg ?_
    refine pk0 (v := v) h14 rfl fun a19 h19 => ?_; clear h14
    refine pk0 (v := .int .i64 ((i : Nat) : Int)) h19 rfl fun a20 h20 => ?_; clear h19
    obtain ⟨y21, hy21⟩ : ∃ z, l[i]? = some z := ⟨_, List.getElem?_eq_getElem (by first | omega | (simp; done) | (simp; omega))⟩
    refine pk (v := pt (blkOf v) (offOf v + i * 1)) h20 rfl (rn_index rfl rfl rfl Try.underlying43 Try.sizeOf3 (hs.below hB9) (by omega) (by first | omega | (simp; done) | (simp; omega))) fun a22 h22 => ?_; clear h20
    refine pk (v := .int .i64 y21) h22 rfl (rn_load1 rfl rfl Try.isAgg3 ((sl_at (hs.below hB9) hy21) 0 _ rfl)) fun a23 h23 => ?_; clear h22
    refine pk0 (v := .int .i64 n) h23 rfl fun a24 h24 => ?_; clear h23
    refine pk0 (v := .bool (y21 == n)) h24 rfl fun a25 h25 => ?_; clear h24
    refine pl_nil ?_
    refine co_then ?_
    cases hc26 : (y21 == n)
    ·
     rw [hc26] at h25
     have hp27 : ¬ (y21 = n) := by first | simpa using hc26 | simpa [and_assoc] using hc26
     clear hc26
     refine co_false h25 rfl ?_
     refine wp_skip ?_
     refine co_blockN ?_
     refine co_then ?_
     refine co_reg ?_
     refine pk0 (v := .int .i64 ((i : Nat) : Int)) h25 rfl fun a28 h28 => ?_; clear h25
     refine pk (v := .int .i64 ((i + 1 : Nat) : Int)) h28 rfl (rn_arith' rfl rfl rfl rfl rfl rfl (IntWalk.i64_in _ (by omega)) (by omega)) fun a29 h29 => ?_; clear h28
     refine pk0 (v := .int .i64 ((i + 1 : Nat) : Int)) h29 rfl fun a30 h30 => ?_; clear h29
     refine pl_nil ?_
     refine co_then ?_
     refine ⟨(l.length - (i + 1)), by omega, ?_⟩
     exact ⟨i + 1, h30.sub ⟨rfl, rfl, rfl, trivial⟩, rfl, by omega, by first | (intro j hj; omega) | exact in_next (by assumption) (by assumption) (by omega), hB9⟩
    ·
     rw [hc26] at h25
     have hp31 : y21 = n := by first | simpa using hc26 | simpa [and_assoc] using hc26
     clear hc26
     refine co_true h25 rfl ?_
     refine co_seq ?_
     refine co_reg ?_
     refine pk0 (v := .bool true) h25 rfl fun a32 h32 => ?_; clear h25
     refine pl_nil ?_
     refine co_then ?_
     refine wp_ret ?_
     refine co_blockR ?_
     refine co_thenR ?_
     refine co_thenR ?_
     refine co_blockR ?_
     refine co_thenR ?_
     refine co_ret1 h32 rfl rfl ?_
     exact ⟨ret_bool (by first | exact inL_at (by assumption) (by assumption) (by omega) | exact inL_end (i := i) (by assumption) (by omega)), hB9⟩
end Go.Proofs.Ytdgboikkgeioeaa

/- Package plan: chain. Conditions: at most 4 members, at most 1000 who join. -/
namespace Go.Proofs.Ytdgboikkgeioeaa
open Go.RowKit Go.PlainAid
set_option linter.unusedVariables false
set_option linter.unusedSimpArgs false


theorem keep_acc {ms : List MemT} {lg gn : List Int} (h : ms.length ≤ 4) : (keepL ms lg gn).length ≤ 4 := Nat.le_trans (keep_le ms lg gn) h
theorem stay_acc {ms : List MemT} {lg gn : List Int} (h : ms.length ≤ 4) : (stayL ms lg gn).length ≤ 4 := Nat.le_trans (stayL_le ms lg gn) h

set_option maxRecDepth 100000 in
theorem addA_any (w0 : World) (v : Value) (l : List MemT) (u : Value) (acc : List MemT) (gn : List Int) (lg : List Int) (C : Nat) (mt : Nat) (mg : Nat) (T : Nat) (G : Nat) (L : Nat) (ep : Int) (mv : Value) (fl : Int) (w : World) (hs : SliceOf memE 2 w0 v l) (hmk : ∀ z ∈ l, memOk z) (hbw : Below w0.heap.size w0 w) (hL : Blk w L 40 #[u]) (hC : Blk w C 42 #[.int .i64 ep, mv, .int .u64 fl]) (hG : Blk w G 108 #[.map (some mg)]) (hT : Blk w T 108 #[.map (some mt)]) (hmg : MapG intK intK 0 w mg (cntL gn)) (hmt : MapG intK intK 0 w mt (cntL lg)) (hord : w0.heap.size ≤ C ∧ C < mt ∧ mt < mg ∧ mg < T ∧ T < G ∧ G < L) (hlen : acc.length ≤ 4 ∧ l.length ≤ 1000) (hr : w.ownsRow w0.heap.size 80 2 u acc.length (acc.flatMap memE)) :
    Calls Try.prog 59 #[v, .func (.func 60) #[] #[pt G 0, pt T 0], pt L 0] w fun e w' => ∃ (u' : Value), e = .returned (.tuple #[]) ∧ Blk w' L 40 #[u'] ∧ w'.ownsRow w0.heap.size 80 2 u' (acc ++ l.filter (selA lg gn)).length ((acc ++ l.filter (selA lg gn)).flatMap memE) ∧ Blk w' C 42 #[.int .i64 ep, mv, .int .u64 fl] ∧ Blk w' G 108 #[.map (some mg)] ∧ Blk w' T 108 #[.map (some mt)] ∧ MapG intK intK 0 w' mg (cntL gn) ∧ MapG intK intK 0 w' mt (cntL lg) ∧ Below w0.heap.size w0 w' := by
 have hB0 := hbw
 have hz0 := hbw.size
 have hl_hs := sl_len hs
 have hl_hL := hL.lt
 have hl_hC := hC.lt
 have hl_hG := hG.lt
 have hl_hT := hT.lt
 have hlmg := hmg.lt
 have hlmt := hmt.lt
 have hl_acc := sl_len (row_sl hr memE_len)
 have hlr := hr.1
 refine co_enter (n := 21) Try.func59 rfl rfl rfl [(0, v), (1, .func (.func 60) #[] #[pt G 0, pt T 0]), (2, pt L 0)] rfl (fun a h0 => ?_)
 refine co_seq ?_
 refine co_reg ?_
 refine pk0 (v := v) h0 rfl fun a1 h1 => ?_; clear h0
 refine pk (v := .int .i64 ((l.length : Nat) : Int)) h1 rfl (rn_len rfl rfl Try.underlying40 (hs.below hB0)) fun a2 h2 => ?_; clear h1
 refine pk0 (v := .int .i64 0) h2 rfl fun a3 h3 => ?_; clear h2
 refine pl_nil ?_
 refine co_then ?_
 refine wp_block ?_
 have h4 : Slots 21 [(0, v), (1, .func (.func 60) #[] #[pt G 0, pt T 0]), (2, pt L 0), (7, v), (8, .int .i64 ((l.length : Nat) : Int)), (9, .int .i64 0)] _ := h3.sub ⟨rfl, rfl, rfl, rfl, rfl, rfl, trivial⟩; clear h3
 refine co_loop (fun mm a x => ∃ (i : Nat) (u1 : Value), Slots 21 [(0, v), (1, .func (.func 60) #[] #[pt G 0, pt T 0]), (2, pt L 0), (7, v), (8, .int .i64 ((l.length : Nat) : Int)), (9, .int .i64 ((i : Nat) : Int))] a ∧ mm = l.length - i ∧ (i ≤ l.length) ∧ Blk x L 40 #[u1] ∧ x.ownsRow w0.heap.size 80 2 u1 (acc ++ (l.take i).filter (selA lg gn)).length ((acc ++ (l.take i).filter (selA lg gn)).flatMap memE) ∧ MapG intK intK 0 x mg (cntL gn) ∧ MapG intK intK 0 x mt (cntL lg) ∧ Below w0.heap.size w0 x ∧ Blk x C 42 #[.int .i64 ep, mv, .int .u64 fl] ∧ Blk x G 108 #[.map (some mg)] ∧ Blk x T 108 #[.map (some mt)]) (l.length - 0) ?_ ?_
 · exact ⟨0, u, h4.sub ⟨rfl, rfl, rfl, rfl, rfl, (slot_eq rfl (congrArg (Value.int .i64) (by first | rfl | omega))), trivial⟩, rfl, by omega, hL, (row_eq hr (by first | exact (List.append_nil _).symm | exact app_yes (by assumption) (by assumption) | exact app_no (by assumption) (by assumption))), hmg, hmt, hB0, hC, hG, hT⟩
 · rintro k5 a6 w7 ⟨i, u1, h6, rfl, hi8, hf9, hf10, hf11, hf12, hB13, hk14, hk15, hk16⟩
   have hz17 := hB13.size
   have hl18 := hk14.lt
   have hl19 := hk15.lt
   have hl20 := hk16.lt
   have hl21 := hf9.lt
   have hl22 := hf11.lt
   have hl23 := hf12.lt
   have hjl := filt_take (p := selA lg gn) (l := l) (i := i)
   refine co_seq ?_
   refine co_reg ?_
   refine pk0 (v := .bool (decide (((i : Nat) : Int) < ((l.length : Nat) : Int)))) h6 rfl fun a24 h24 => ?_; clear h6
   refine pl_nil ?_
   refine co_then ?_
   refine co_seq ?_
   cases hc25 : (decide (((i : Nat) : Int) < ((l.length : Nat) : Int)))
   ·
    rw [hc25] at h24
    have hp26 : ¬ (((i : Nat) : Int) < ((l.length : Nat) : Int)) := of_decide_eq_false hc25
    clear hc25
    refine co_false h24 rfl ?_
    refine wp_exit ?_
    refine co_thenX ?_
    refine co_thenX ?_
    refine co_blockX ?_
    refine co_ret0n h24 rfl ?_
    exact ⟨_, rfl, hf9, (row_eq (row_lows hf10 (by omega)) (filt_end (by omega))), hk14, hk15, hk16, hf11, hf12, hB13⟩
   ·
    rw [hc25] at h24
    have hp27 : ((i : Nat) : Int) < ((l.length : Nat) : Int) := of_decide_eq_true hc25
    clear hc25
    refine co_true h24 rfl ?_
    refine wp_skip ?_
    refine co_then ?_
    refine co_seq ?_
    refine wp_block ?_
    refine co_seq ?_
    refine co_reg ?_
    obtain ⟨y28, hy28⟩ : ∃ z, l[i]? = some z := ⟨_, List.getElem?_eq_getElem (by first | omega | (simp; done) | (simp; omega))⟩
    have oky28 := hmk _ (List.mem_of_getElem? hy28)
    refine pk (v := pt (blkOf v) (offOf v + i * 2)) h24 rfl (rn_index rfl rfl rfl Try.underlying40 Try.sizeOf80 (hs.below hB13) (by omega) (by first | omega | (simp; done) | (simp; omega))) fun a29 h29 => ?_; clear h24
    refine pk (v := .agg #[.int .i64 y28.1, .int .i64 y28.2]) h29 rfl (rn_loadN rfl rfl Try.underlying80 rfl (by kernel_rfl) (sl_at (hs.below hB13) hy28)) fun a30 h30 => ?_; clear h29
    refine pw h30 rfl (op_new (v := fun N => pt N 0) (T := 80) (cs := #[.int .i64 0, .int .i64 0]) (by kernel_rfl) (by kernel_rfl) (by kernel_rfl)) ?_; clear h30
    rintro _ w32 a31 ⟨N33, rfl, hN36, hz37, hk35, hg34⟩ h31
    have ha38 := row_fresh hf10 hN36
    have hz39 := hg34.size
    try dsimp only at h31
    refine pwD h31 rfl (op_storeN rfl rfl rfl (by kernel_rfl) (by kernel_rfl) hk35 rfl) ?_; clear h31
    rintro _ w41 a40 ⟨hk42, hz43, hg44⟩ h40
    have hk42' : Blk w41 N33 80 #[.int .i64 y28.1, .int .i64 y28.2] := hk42; clear hk42
    have hz45 := hg44.size
    refine pl_nil ?_
    refine co_then ?_
    refine co_seq ?_
    refine co_reg ?_
    refine pk0 (v := .func (.func 60) #[] #[pt G 0, pt T 0]) h40 rfl fun a46 h46 => ?_; clear h40
    refine pk (v := .agg #[.int .i64 y28.1, .int .i64 y28.2]) h46 rfl (rn_loadN rfl rfl Try.underlying80 rfl (by kernel_rfl) hk42'.all) fun a47 h47 => ?_; clear h46
    have hI50 := hf11.kept hg34 (by simp)
    have hI51 := hI50.kept hg44 (by simp; omega)
    have hI52 := hf12.kept hg34 (by simp)
    have hI53 := hI52.kept hg44 (by simp; omega)
    have hk54 := hk15.kept hg34 (by simp)
    have hk55 := hk54.kept hg44 (by simp; omega)
    have hk56 := hk16.kept hg34 (by simp)
    have hk57 := hk56.kept hg44 (by simp; omega)
    refine pw h47 rfl (op_callV (args := #[.agg #[.int .i64 y28.1, .int .i64 y28.2], pt G 0, pt T 0]) (R := fun res xw => res = .bool (selA lg gn y28) ∧ Below w41.heap.size w41 xw) rfl rfl rfl (by kernel_rfl) (by kernel_rfl) (Try.call60 _ _) (selA_any y28 G T mg mt gn lg w41 hk55 hk57 hI51 hI53) (by rintro e x ⟨rfl, hb58⟩; exact ⟨_, rfl, ⟨rfl, hb58⟩⟩)) ?_; clear h47
    rintro _ w49 a48 ⟨rfl, hb58⟩ h48
    have hz59 := hb58.size
    refine pl_nil ?_
    refine co_then ?_
    have hB61 := hb_new hB13 hg34
    have hB62 := hb_at hB61 hg44 (by omega)
    have hB63 := hb_call hB62 hb58
    have hk64 := hk14.kept hg34 (by simp)
    have hk65 := hk64.kept hg44 (by simp; omega)
    have hk66 := hk65.below hb58
    have hk67 := hf9.kept hg34 (by simp)
    have hk68 := hk67.kept hg44 (by simp; omega)
    have hk69 := hk68.below hb58
    have hr70 := row_kept_new hf10 hg34
    have hr71 := row_kept_at hr70 hg44 (ha38)
    have hr72 := row_kept_new hr71 (below_grown hb58)
    cases hc60 : (selA lg gn y28)
    ·
     rw [hc60] at h48
     refine co_false h48 rfl ?_
     refine wp_skip ?_
     refine co_blockN ?_
     refine co_then ?_
     refine co_reg ?_
     refine pk (v := .int .i64 ((i + 1 : Nat) : Int)) h48 rfl (rn_arith' rfl rfl rfl rfl rfl rfl (IntWalk.i64_in _ (by omega)) (by omega)) fun a73 h73 => ?_; clear h48
     refine pk0 (v := .int .i64 ((i + 1 : Nat) : Int)) h73 rfl fun a74 h74 => ?_; clear h73
     refine pl_nil ?_
     refine co_then ?_
     refine ⟨(l.length - (i + 1)), by omega, ?_⟩
     have hI75 := hI51.kept (below_grown hb58) (by simp)
     have hI76 := hI53.kept (below_grown hb58) (by simp)
     have hk77 := hk55.below hb58
     have hk78 := hk57.below hb58
     exact ⟨i + 1, u1, h74.sub ⟨rfl, rfl, rfl, rfl, rfl, rfl, trivial⟩, rfl, by omega, hk69, (row_eq hr72 (by first | exact (List.append_nil _).symm | exact app_yes (by assumption) (by assumption) | exact app_no (by assumption) (by assumption))), hI75, hI76, hB63, hk66, hk77, hk78⟩
    ·
     rw [hc60] at h48
     refine co_true h48 rfl ?_
     refine co_reg ?_
     refine pk (v := u1) h48 rfl (rn_load1 rfl rfl Try.isAgg40 (hk69.cell rfl)) fun a79 h79 => ?_; clear h48
     have hk80 := hk42'.below hb58
     refine pk (v := .agg #[.int .i64 y28.1, .int .i64 y28.2]) h79 rfl (rn_loadN rfl rfl Try.underlying80 rfl (by kernel_rfl) hk80.all) fun a81 h81 => ?_; clear h79
     refine pw h81 rfl (op_new (v := fun N => .slice (some ⟨N, 0, none⟩) 1 1) (T := 80) (cs := #[.int .i64 y28.1, .int .i64 y28.2]) (by kernel_rfl) (by kernel_rfl) (by kernel_rfl)) ?_; clear h81
     rintro _ w83 a82 ⟨N84, rfl, hN87, hz88, hk86, hg85⟩ h82
     have ha89 := row_fresh hr72 hN87
     have hz90 := hg85.size
     try dsimp only at h82
     have hr97 := row_kept_new hr72 hg85
     refine pw h82 rfl (op_append rfl w0.heap.size 80 (z := .agg #[.int .i64 0, .int .i64 0]) (size := 2) (bytes := 16) Try.underlying40 (by kernel_rfl) rfl rfl rfl hr97 rfl hk86 rfl (by kernel_rfl) (by first | omega | (simp only [List.length_nil, List.length_append, List.length_cons, List.length_take, List.length_drop]; omega)) (by first | omega | (simp only [List.length_nil, List.length_append, List.length_cons, List.length_take, List.length_drop]; omega)) (by omega)) ?_; clear h82
     rintro v93 w92 a91 ⟨hr94, hg95⟩ h91
     have hr94' : w92.ownsRow w0.heap.size 80 2 v93 ((acc ++ (l.take i).filter (selA lg gn) ++ [(y28.1, y28.2)]).length) ((acc ++ (l.take i).filter (selA lg gn) ++ [(y28.1, y28.2)]).flatMap memE) := row_push (y := (y28.1, y28.2)) hr94 rfl rfl; clear hr94
     have hz98 := hg95.size
     have hk104 := hk69.kept hg85 (by simp)
     have hk105 := hk104.kept hg95 (own_neT hr97 hk104 (by decide))
     refine pwD h91 rfl (op_store1 rfl rfl rfl (row_one hr94') Try.sizeOf40 hk105 rfl) ?_; clear h91
     rintro _ w100 a99 ⟨hk101, hz102, hg103⟩ h99
     have hk101' : Blk w100 L 40 #[v93] := hk101; clear hk101
     have hz106 := hg103.size
     refine pl_nil ?_
     refine co_blockN ?_
     refine co_then ?_
     refine co_reg ?_
     refine pk (v := .int .i64 ((i + 1 : Nat) : Int)) h99 rfl (rn_arith' rfl rfl rfl rfl rfl rfl (IntWalk.i64_in _ (by omega)) (by omega)) fun a107 h107 => ?_; clear h99
     refine pk0 (v := .int .i64 ((i + 1 : Nat) : Int)) h107 rfl fun a108 h108 => ?_; clear h107
     refine pl_nil ?_
     refine co_then ?_
     refine ⟨(l.length - (i + 1)), by omega, ?_⟩
     have hr109 := row_kept_at hr94' hg103 (own_neT hr94' hk105 (by decide))
     have hI110 := hI51.kept (below_grown hb58) (by simp)
     have hI111 := hI110.kept hg85 (by simp)
     have hI112 := hI111.kept hg95 (hI111.row hr97)
     have hI113 := hI112.kept hg103 (by simp; omega)
     have hI114 := hI53.kept (below_grown hb58) (by simp)
     have hI115 := hI114.kept hg85 (by simp)
     have hI116 := hI115.kept hg95 (hI115.row hr97)
     have hI117 := hI116.kept hg103 (by simp; omega)
     have hB118 := hb_new hB63 hg85
     have hB119 := hb_row hB118 hr97 (by omega) hg95
     have hB120 := hb_at hB119 hg103 (by omega)
     have hk121 := hk66.kept hg85 (by simp)
     have hk122 := hk121.kept hg95 (own_neT hr97 hk121 (by decide))
     have hk123 := hk122.kept hg103 (by simp; omega)
     have hk124 := hk55.below hb58
     have hk125 := hk124.kept hg85 (by simp)
     have hk126 := hk125.kept hg95 (own_neT hr97 hk125 (by decide))
     have hk127 := hk126.kept hg103 (by simp; omega)
     have hk128 := hk57.below hb58
     have hk129 := hk128.kept hg85 (by simp)
     have hk130 := hk129.kept hg95 (own_neT hr97 hk129 (by decide))
     have hk131 := hk130.kept hg103 (by simp; omega)
     exact ⟨i + 1, v93, h108.sub ⟨rfl, rfl, rfl, rfl, rfl, rfl, trivial⟩, rfl, by omega, hk101', (row_eq hr109 (by first | exact (List.append_nil _).symm | exact app_yes (by assumption) (by assumption) | exact app_no (by assumption) (by assumption))), hI113, hI117, hB120, hk123, hk127, hk131⟩
set_option maxRecDepth 100000 in
theorem addB_any (w0 : World) (v : Value) (l : List MemT) (u : Value) (acc : List MemT) (gn : List Int) (lg : List Int) (C : Nat) (mt : Nat) (mg : Nat) (T : Nat) (G : Nat) (L : Nat) (ep : Int) (mv : Value) (fl : Int) (w : World) (hs : SliceOf memE 2 w0 v l) (hmk : ∀ z ∈ l, memOk z) (hbw : Below w0.heap.size w0 w) (hL : Blk w L 40 #[u]) (hC : Blk w C 42 #[.int .i64 ep, mv, .int .u64 fl]) (hG : Blk w G 108 #[.map (some mg)]) (hT : Blk w T 108 #[.map (some mt)]) (hmg : MapG intK intK 0 w mg (cntL gn)) (hmt : MapG intK intK 0 w mt (cntL lg)) (hord : w0.heap.size ≤ C ∧ C < mt ∧ mt < mg ∧ mg < T ∧ T < G ∧ G < L) (hlen : acc.length ≤ 4 ∧ l.length ≤ 1000) (hr : w.ownsRow w0.heap.size 80 2 u acc.length (acc.flatMap memE)) :
    Calls Try.prog 59 #[v, .func (.func 61) #[] #[pt G 0, pt T 0], pt L 0] w fun e w' => ∃ (u' : Value), e = .returned (.tuple #[]) ∧ Blk w' L 40 #[u'] ∧ w'.ownsRow w0.heap.size 80 2 u' (acc ++ l.filter (selB lg gn)).length ((acc ++ l.filter (selB lg gn)).flatMap memE) ∧ Blk w' C 42 #[.int .i64 ep, mv, .int .u64 fl] ∧ Blk w' G 108 #[.map (some mg)] ∧ Blk w' T 108 #[.map (some mt)] ∧ MapG intK intK 0 w' mg (cntL gn) ∧ MapG intK intK 0 w' mt (cntL lg) ∧ Below w0.heap.size w0 w' := by
 have hB0 := hbw
 have hz0 := hbw.size
 have hl_hs := sl_len hs
 have hl_hL := hL.lt
 have hl_hC := hC.lt
 have hl_hG := hG.lt
 have hl_hT := hT.lt
 have hlmg := hmg.lt
 have hlmt := hmt.lt
 have hl_acc := sl_len (row_sl hr memE_len)
 have hlr := hr.1
 refine co_enter (n := 21) Try.func59 rfl rfl rfl [(0, v), (1, .func (.func 61) #[] #[pt G 0, pt T 0]), (2, pt L 0)] rfl (fun a h0 => ?_)
 refine co_seq ?_
 refine co_reg ?_
 refine pk0 (v := v) h0 rfl fun a1 h1 => ?_; clear h0
 refine pk (v := .int .i64 ((l.length : Nat) : Int)) h1 rfl (rn_len rfl rfl Try.underlying40 (hs.below hB0)) fun a2 h2 => ?_; clear h1
 refine pk0 (v := .int .i64 0) h2 rfl fun a3 h3 => ?_; clear h2
 refine pl_nil ?_
 refine co_then ?_
 refine wp_block ?_
 have h4 : Slots 21 [(0, v), (1, .func (.func 61) #[] #[pt G 0, pt T 0]), (2, pt L 0), (7, v), (8, .int .i64 ((l.length : Nat) : Int)), (9, .int .i64 0)] _ := h3.sub ⟨rfl, rfl, rfl, rfl, rfl, rfl, trivial⟩; clear h3
 refine co_loop (fun mm a x => ∃ (i : Nat) (u1 : Value), Slots 21 [(0, v), (1, .func (.func 61) #[] #[pt G 0, pt T 0]), (2, pt L 0), (7, v), (8, .int .i64 ((l.length : Nat) : Int)), (9, .int .i64 ((i : Nat) : Int))] a ∧ mm = l.length - i ∧ (i ≤ l.length) ∧ Blk x L 40 #[u1] ∧ x.ownsRow w0.heap.size 80 2 u1 (acc ++ (l.take i).filter (selB lg gn)).length ((acc ++ (l.take i).filter (selB lg gn)).flatMap memE) ∧ MapG intK intK 0 x mg (cntL gn) ∧ MapG intK intK 0 x mt (cntL lg) ∧ Below w0.heap.size w0 x ∧ Blk x C 42 #[.int .i64 ep, mv, .int .u64 fl] ∧ Blk x G 108 #[.map (some mg)] ∧ Blk x T 108 #[.map (some mt)]) (l.length - 0) ?_ ?_
 · exact ⟨0, u, h4.sub ⟨rfl, rfl, rfl, rfl, rfl, (slot_eq rfl (congrArg (Value.int .i64) (by first | rfl | omega))), trivial⟩, rfl, by omega, hL, (row_eq hr (by first | exact (List.append_nil _).symm | exact app_yes (by assumption) (by assumption) | exact app_no (by assumption) (by assumption))), hmg, hmt, hB0, hC, hG, hT⟩
 · rintro k5 a6 w7 ⟨i, u1, h6, rfl, hi8, hf9, hf10, hf11, hf12, hB13, hk14, hk15, hk16⟩
   have hz17 := hB13.size
   have hl18 := hk14.lt
   have hl19 := hk15.lt
   have hl20 := hk16.lt
   have hl21 := hf9.lt
   have hl22 := hf11.lt
   have hl23 := hf12.lt
   have hjl := filt_take (p := selB lg gn) (l := l) (i := i)
   refine co_seq ?_
   refine co_reg ?_
   refine pk0 (v := .bool (decide (((i : Nat) : Int) < ((l.length : Nat) : Int)))) h6 rfl fun a24 h24 => ?_; clear h6
   refine pl_nil ?_
   refine co_then ?_
   refine co_seq ?_
   cases hc25 : (decide (((i : Nat) : Int) < ((l.length : Nat) : Int)))
   ·
    rw [hc25] at h24
    have hp26 : ¬ (((i : Nat) : Int) < ((l.length : Nat) : Int)) := of_decide_eq_false hc25
    clear hc25
    refine co_false h24 rfl ?_
    refine wp_exit ?_
    refine co_thenX ?_
    refine co_thenX ?_
    refine co_blockX ?_
    refine co_ret0n h24 rfl ?_
    exact ⟨_, rfl, hf9, (row_eq (row_lows hf10 (by omega)) (filt_end (by omega))), hk14, hk15, hk16, hf11, hf12, hB13⟩
   ·
    rw [hc25] at h24
    have hp27 : ((i : Nat) : Int) < ((l.length : Nat) : Int) := of_decide_eq_true hc25
    clear hc25
    refine co_true h24 rfl ?_
    refine wp_skip ?_
    refine co_then ?_
    refine co_seq ?_
    refine wp_block ?_
    refine co_seq ?_
    refine co_reg ?_
    obtain ⟨y28, hy28⟩ : ∃ z, l[i]? = some z := ⟨_, List.getElem?_eq_getElem (by first | omega | (simp; done) | (simp; omega))⟩
    have oky28 := hmk _ (List.mem_of_getElem? hy28)
    refine pk (v := pt (blkOf v) (offOf v + i * 2)) h24 rfl (rn_index rfl rfl rfl Try.underlying40 Try.sizeOf80 (hs.below hB13) (by omega) (by first | omega | (simp; done) | (simp; omega))) fun a29 h29 => ?_; clear h24
    refine pk (v := .agg #[.int .i64 y28.1, .int .i64 y28.2]) h29 rfl (rn_loadN rfl rfl Try.underlying80 rfl (by kernel_rfl) (sl_at (hs.below hB13) hy28)) fun a30 h30 => ?_; clear h29
    refine pw h30 rfl (op_new (v := fun N => pt N 0) (T := 80) (cs := #[.int .i64 0, .int .i64 0]) (by kernel_rfl) (by kernel_rfl) (by kernel_rfl)) ?_; clear h30
    rintro _ w32 a31 ⟨N33, rfl, hN36, hz37, hk35, hg34⟩ h31
    have ha38 := row_fresh hf10 hN36
    have hz39 := hg34.size
    try dsimp only at h31
    refine pwD h31 rfl (op_storeN rfl rfl rfl (by kernel_rfl) (by kernel_rfl) hk35 rfl) ?_; clear h31
    rintro _ w41 a40 ⟨hk42, hz43, hg44⟩ h40
    have hk42' : Blk w41 N33 80 #[.int .i64 y28.1, .int .i64 y28.2] := hk42; clear hk42
    have hz45 := hg44.size
    refine pl_nil ?_
    refine co_then ?_
    refine co_seq ?_
    refine co_reg ?_
    refine pk0 (v := .func (.func 61) #[] #[pt G 0, pt T 0]) h40 rfl fun a46 h46 => ?_; clear h40
    refine pk (v := .agg #[.int .i64 y28.1, .int .i64 y28.2]) h46 rfl (rn_loadN rfl rfl Try.underlying80 rfl (by kernel_rfl) hk42'.all) fun a47 h47 => ?_; clear h46
    have hI50 := hf11.kept hg34 (by simp)
    have hI51 := hI50.kept hg44 (by simp; omega)
    have hI52 := hf12.kept hg34 (by simp)
    have hI53 := hI52.kept hg44 (by simp; omega)
    have hk54 := hk15.kept hg34 (by simp)
    have hk55 := hk54.kept hg44 (by simp; omega)
    have hk56 := hk16.kept hg34 (by simp)
    have hk57 := hk56.kept hg44 (by simp; omega)
    refine pw h47 rfl (op_callV (args := #[.agg #[.int .i64 y28.1, .int .i64 y28.2], pt G 0, pt T 0]) (R := fun res xw => res = .bool (selB lg gn y28) ∧ Below w41.heap.size w41 xw) rfl rfl rfl (by kernel_rfl) (by kernel_rfl) (Try.call61 _ _) (selB_any y28 G T mg mt gn lg w41 hk55 hk57 hI51 hI53) (by rintro e x ⟨rfl, hb58⟩; exact ⟨_, rfl, ⟨rfl, hb58⟩⟩)) ?_; clear h47
    rintro _ w49 a48 ⟨rfl, hb58⟩ h48
    have hz59 := hb58.size
    refine pl_nil ?_
    refine co_then ?_
    have hB61 := hb_new hB13 hg34
    have hB62 := hb_at hB61 hg44 (by omega)
    have hB63 := hb_call hB62 hb58
    have hk64 := hk14.kept hg34 (by simp)
    have hk65 := hk64.kept hg44 (by simp; omega)
    have hk66 := hk65.below hb58
    have hk67 := hf9.kept hg34 (by simp)
    have hk68 := hk67.kept hg44 (by simp; omega)
    have hk69 := hk68.below hb58
    have hr70 := row_kept_new hf10 hg34
    have hr71 := row_kept_at hr70 hg44 (ha38)
    have hr72 := row_kept_new hr71 (below_grown hb58)
    cases hc60 : (selB lg gn y28)
    ·
     rw [hc60] at h48
     refine co_false h48 rfl ?_
     refine wp_skip ?_
     refine co_blockN ?_
     refine co_then ?_
     refine co_reg ?_
     refine pk (v := .int .i64 ((i + 1 : Nat) : Int)) h48 rfl (rn_arith' rfl rfl rfl rfl rfl rfl (IntWalk.i64_in _ (by omega)) (by omega)) fun a73 h73 => ?_; clear h48
     refine pk0 (v := .int .i64 ((i + 1 : Nat) : Int)) h73 rfl fun a74 h74 => ?_; clear h73
     refine pl_nil ?_
     refine co_then ?_
     refine ⟨(l.length - (i + 1)), by omega, ?_⟩
     have hI75 := hI51.kept (below_grown hb58) (by simp)
     have hI76 := hI53.kept (below_grown hb58) (by simp)
     have hk77 := hk55.below hb58
     have hk78 := hk57.below hb58
     exact ⟨i + 1, u1, h74.sub ⟨rfl, rfl, rfl, rfl, rfl, rfl, trivial⟩, rfl, by omega, hk69, (row_eq hr72 (by first | exact (List.append_nil _).symm | exact app_yes (by assumption) (by assumption) | exact app_no (by assumption) (by assumption))), hI75, hI76, hB63, hk66, hk77, hk78⟩
    ·
     rw [hc60] at h48
     refine co_true h48 rfl ?_
     refine co_reg ?_
     refine pk (v := u1) h48 rfl (rn_load1 rfl rfl Try.isAgg40 (hk69.cell rfl)) fun a79 h79 => ?_; clear h48
     have hk80 := hk42'.below hb58
     refine pk (v := .agg #[.int .i64 y28.1, .int .i64 y28.2]) h79 rfl (rn_loadN rfl rfl Try.underlying80 rfl (by kernel_rfl) hk80.all) fun a81 h81 => ?_; clear h79
     refine pw h81 rfl (op_new (v := fun N => .slice (some ⟨N, 0, none⟩) 1 1) (T := 80) (cs := #[.int .i64 y28.1, .int .i64 y28.2]) (by kernel_rfl) (by kernel_rfl) (by kernel_rfl)) ?_; clear h81
     rintro _ w83 a82 ⟨N84, rfl, hN87, hz88, hk86, hg85⟩ h82
     have ha89 := row_fresh hr72 hN87
     have hz90 := hg85.size
     try dsimp only at h82
     have hr97 := row_kept_new hr72 hg85
     refine pw h82 rfl (op_append rfl w0.heap.size 80 (z := .agg #[.int .i64 0, .int .i64 0]) (size := 2) (bytes := 16) Try.underlying40 (by kernel_rfl) rfl rfl rfl hr97 rfl hk86 rfl (by kernel_rfl) (by first | omega | (simp only [List.length_nil, List.length_append, List.length_cons, List.length_take, List.length_drop]; omega)) (by first | omega | (simp only [List.length_nil, List.length_append, List.length_cons, List.length_take, List.length_drop]; omega)) (by omega)) ?_; clear h82
     rintro v93 w92 a91 ⟨hr94, hg95⟩ h91
     have hr94' : w92.ownsRow w0.heap.size 80 2 v93 ((acc ++ (l.take i).filter (selB lg gn) ++ [(y28.1, y28.2)]).length) ((acc ++ (l.take i).filter (selB lg gn) ++ [(y28.1, y28.2)]).flatMap memE) := row_push (y := (y28.1, y28.2)) hr94 rfl rfl; clear hr94
     have hz98 := hg95.size
     have hk104 := hk69.kept hg85 (by simp)
     have hk105 := hk104.kept hg95 (own_neT hr97 hk104 (by decide))
     refine pwD h91 rfl (op_store1 rfl rfl rfl (row_one hr94') Try.sizeOf40 hk105 rfl) ?_; clear h91
     rintro _ w100 a99 ⟨hk101, hz102, hg103⟩ h99
     have hk101' : Blk w100 L 40 #[v93] := hk101; clear hk101
     have hz106 := hg103.size
     refine pl_nil ?_
     refine co_blockN ?_
     refine co_then ?_
     refine co_reg ?_
     refine pk (v := .int .i64 ((i + 1 : Nat) : Int)) h99 rfl (rn_arith' rfl rfl rfl rfl rfl rfl (IntWalk.i64_in _ (by omega)) (by omega)) fun a107 h107 => ?_; clear h99
     refine pk0 (v := .int .i64 ((i + 1 : Nat) : Int)) h107 rfl fun a108 h108 => ?_; clear h107
     refine pl_nil ?_
     refine co_then ?_
     refine ⟨(l.length - (i + 1)), by omega, ?_⟩
     have hr109 := row_kept_at hr94' hg103 (own_neT hr94' hk105 (by decide))
     have hI110 := hI51.kept (below_grown hb58) (by simp)
     have hI111 := hI110.kept hg85 (by simp)
     have hI112 := hI111.kept hg95 (hI111.row hr97)
     have hI113 := hI112.kept hg103 (by simp; omega)
     have hI114 := hI53.kept (below_grown hb58) (by simp)
     have hI115 := hI114.kept hg85 (by simp)
     have hI116 := hI115.kept hg95 (hI115.row hr97)
     have hI117 := hI116.kept hg103 (by simp; omega)
     have hB118 := hb_new hB63 hg85
     have hB119 := hb_row hB118 hr97 (by omega) hg95
     have hB120 := hb_at hB119 hg103 (by omega)
     have hk121 := hk66.kept hg85 (by simp)
     have hk122 := hk121.kept hg95 (own_neT hr97 hk121 (by decide))
     have hk123 := hk122.kept hg103 (by simp; omega)
     have hk124 := hk55.below hb58
     have hk125 := hk124.kept hg85 (by simp)
     have hk126 := hk125.kept hg95 (own_neT hr97 hk125 (by decide))
     have hk127 := hk126.kept hg103 (by simp; omega)
     have hk128 := hk57.below hb58
     have hk129 := hk128.kept hg85 (by simp)
     have hk130 := hk129.kept hg95 (own_neT hr97 hk129 (by decide))
     have hk131 := hk130.kept hg103 (by simp; omega)
     exact ⟨i + 1, v93, h108.sub ⟨rfl, rfl, rfl, rfl, rfl, rfl, trivial⟩, rfl, by omega, hk101', (row_eq hr109 (by first | exact (List.append_nil _).symm | exact app_yes (by assumption) (by assumption) | exact app_no (by assumption) (by assumption))), hI113, hI117, hB120, hk123, hk127, hk131⟩
set_option maxRecDepth 100000 in
theorem addJ_any (w0 : World) (v : Value) (l : List MemT) (u : Value) (acc : List MemT) (gn : List Int) (lg : List Int) (C : Nat) (mt : Nat) (mg : Nat) (T : Nat) (G : Nat) (L : Nat) (ep : Int) (mv : Value) (fl : Int) (w : World) (hs : SliceOf memE 2 w0 v l) (hmk : ∀ z ∈ l, memOk z) (hbw : Below w0.heap.size w0 w) (hL : Blk w L 40 #[u]) (hC : Blk w C 42 #[.int .i64 ep, mv, .int .u64 fl]) (hG : Blk w G 108 #[.map (some mg)]) (hT : Blk w T 108 #[.map (some mt)]) (hmg : MapG intK intK 0 w mg (cntL gn)) (hmt : MapG intK intK 0 w mt (cntL lg)) (hord : w0.heap.size ≤ C ∧ C < mt ∧ mt < mg ∧ mg < T ∧ T < G ∧ G < L) (hlen : acc.length ≤ 4 ∧ l.length ≤ 1000) (hr : w.ownsRow w0.heap.size 80 2 u acc.length (acc.flatMap memE)) :
    Calls Try.prog 59 #[v, .func (.func 62) #[] #[pt L 0], pt L 0] w fun e w' => ∃ (u' : Value), e = .returned (.tuple #[]) ∧ Blk w' L 40 #[u'] ∧ w'.ownsRow w0.heap.size 80 2 u' (joinL acc l).length ((joinL acc l).flatMap memE) ∧ Blk w' C 42 #[.int .i64 ep, mv, .int .u64 fl] ∧ Blk w' G 108 #[.map (some mg)] ∧ Blk w' T 108 #[.map (some mt)] ∧ MapG intK intK 0 w' mg (cntL gn) ∧ MapG intK intK 0 w' mt (cntL lg) ∧ Below w0.heap.size w0 w' := by
 have hB0 := hbw
 have hz0 := hbw.size
 have hl_hs := sl_len hs
 have hl_hL := hL.lt
 have hl_hC := hC.lt
 have hl_hG := hG.lt
 have hl_hT := hT.lt
 have hlmg := hmg.lt
 have hlmt := hmt.lt
 have hl_acc := sl_len (row_sl hr memE_len)
 have hlr := hr.1
 refine co_enter (n := 21) Try.func59 rfl rfl rfl [(0, v), (1, .func (.func 62) #[] #[pt L 0]), (2, pt L 0)] rfl (fun a h0 => ?_)
 refine co_seq ?_
 refine co_reg ?_
 refine pk0 (v := v) h0 rfl fun a1 h1 => ?_; clear h0
 refine pk (v := .int .i64 ((l.length : Nat) : Int)) h1 rfl (rn_len rfl rfl Try.underlying40 (hs.below hB0)) fun a2 h2 => ?_; clear h1
 refine pk0 (v := .int .i64 0) h2 rfl fun a3 h3 => ?_; clear h2
 refine pl_nil ?_
 refine co_then ?_
 refine wp_block ?_
 have h4 : Slots 21 [(0, v), (1, .func (.func 62) #[] #[pt L 0]), (2, pt L 0), (7, v), (8, .int .i64 ((l.length : Nat) : Int)), (9, .int .i64 0)] _ := h3.sub ⟨rfl, rfl, rfl, rfl, rfl, rfl, trivial⟩; clear h3
 refine co_loop (fun mm a x => ∃ (i : Nat) (u1 : Value), Slots 21 [(0, v), (1, .func (.func 62) #[] #[pt L 0]), (2, pt L 0), (7, v), (8, .int .i64 ((l.length : Nat) : Int)), (9, .int .i64 ((i : Nat) : Int))] a ∧ mm = l.length - i ∧ (i ≤ l.length) ∧ Blk x L 40 #[u1] ∧ x.ownsRow w0.heap.size 80 2 u1 (joinL acc (l.take i)).length ((joinL acc (l.take i)).flatMap memE) ∧ MapG intK intK 0 x mg (cntL gn) ∧ MapG intK intK 0 x mt (cntL lg) ∧ Below w0.heap.size w0 x ∧ Blk x C 42 #[.int .i64 ep, mv, .int .u64 fl] ∧ Blk x G 108 #[.map (some mg)] ∧ Blk x T 108 #[.map (some mt)]) (l.length - 0) ?_ ?_
 · exact ⟨0, u, h4.sub ⟨rfl, rfl, rfl, rfl, rfl, (slot_eq rfl (congrArg (Value.int .i64) (by first | rfl | omega))), trivial⟩, rfl, by omega, hL, (row_eq hr (by first | exact jn_0 _ _ | exact jn_yes (by assumption) (by assumption) | exact jn_no (by assumption) (by assumption))), hmg, hmt, hB0, hC, hG, hT⟩
 · rintro k5 a6 w7 ⟨i, u1, h6, rfl, hi8, hf9, hf10, hf11, hf12, hB13, hk14, hk15, hk16⟩
   have hz17 := hB13.size
   have hl18 := hk14.lt
   have hl19 := hk15.lt
   have hl20 := hk16.lt
   have hl21 := hf9.lt
   have hl22 := hf11.lt
   have hl23 := hf12.lt
   have hjl := join_le (acc := acc) (by omega) (l.take i)
   refine co_seq ?_
   refine co_reg ?_
   refine pk0 (v := .bool (decide (((i : Nat) : Int) < ((l.length : Nat) : Int)))) h6 rfl fun a24 h24 => ?_; clear h6
   refine pl_nil ?_
   refine co_then ?_
   refine co_seq ?_
   cases hc25 : (decide (((i : Nat) : Int) < ((l.length : Nat) : Int)))
   ·
    rw [hc25] at h24
    have hp26 : ¬ (((i : Nat) : Int) < ((l.length : Nat) : Int)) := of_decide_eq_false hc25
    clear hc25
    refine co_false h24 rfl ?_
    refine wp_exit ?_
    refine co_thenX ?_
    refine co_thenX ?_
    refine co_blockX ?_
    refine co_ret0n h24 rfl ?_
    exact ⟨_, rfl, hf9, (row_eq (row_lows hf10 (by omega)) (jn_end (by omega))), hk14, hk15, hk16, hf11, hf12, hB13⟩
   ·
    rw [hc25] at h24
    have hp27 : ((i : Nat) : Int) < ((l.length : Nat) : Int) := of_decide_eq_true hc25
    clear hc25
    refine co_true h24 rfl ?_
    refine wp_skip ?_
    refine co_then ?_
    refine co_seq ?_
    refine wp_block ?_
    refine co_seq ?_
    refine co_reg ?_
    obtain ⟨y28, hy28⟩ : ∃ z, l[i]? = some z := ⟨_, List.getElem?_eq_getElem (by first | omega | (simp; done) | (simp; omega))⟩
    have oky28 := hmk _ (List.mem_of_getElem? hy28)
    refine pk (v := pt (blkOf v) (offOf v + i * 2)) h24 rfl (rn_index rfl rfl rfl Try.underlying40 Try.sizeOf80 (hs.below hB13) (by omega) (by first | omega | (simp; done) | (simp; omega))) fun a29 h29 => ?_; clear h24
    refine pk (v := .agg #[.int .i64 y28.1, .int .i64 y28.2]) h29 rfl (rn_loadN rfl rfl Try.underlying80 rfl (by kernel_rfl) (sl_at (hs.below hB13) hy28)) fun a30 h30 => ?_; clear h29
    refine pw h30 rfl (op_new (v := fun N => pt N 0) (T := 80) (cs := #[.int .i64 0, .int .i64 0]) (by kernel_rfl) (by kernel_rfl) (by kernel_rfl)) ?_; clear h30
    rintro _ w32 a31 ⟨N33, rfl, hN36, hz37, hk35, hg34⟩ h31
    have ha38 := row_fresh hf10 hN36
    have hz39 := hg34.size
    try dsimp only at h31
    refine pwD h31 rfl (op_storeN rfl rfl rfl (by kernel_rfl) (by kernel_rfl) hk35 rfl) ?_; clear h31
    rintro _ w41 a40 ⟨hk42, hz43, hg44⟩ h40
    have hk42' : Blk w41 N33 80 #[.int .i64 y28.1, .int .i64 y28.2] := hk42; clear hk42
    have hz45 := hg44.size
    refine pl_nil ?_
    refine co_then ?_
    refine co_seq ?_
    refine co_reg ?_
    refine pk0 (v := .func (.func 62) #[] #[pt L 0]) h40 rfl fun a46 h46 => ?_; clear h40
    refine pk (v := .agg #[.int .i64 y28.1, .int .i64 y28.2]) h46 rfl (rn_loadN rfl rfl Try.underlying80 rfl (by kernel_rfl) hk42'.all) fun a47 h47 => ?_; clear h46
    have hr50 := row_kept_new hf10 hg34
    have hr51 := row_kept_at hr50 hg44 (ha38)
    have hk52 := hf9.kept hg34 (by simp)
    have hk53 := hk52.kept hg44 (by simp; omega)
    refine pw h47 rfl (op_callV (args := #[.agg #[.int .i64 y28.1, .int .i64 y28.2], pt L 0]) (R := fun res xw => res = .bool (joinB (joinL acc (l.take i)) y28) ∧ Below w41.heap.size w41 xw) rfl rfl rfl (by kernel_rfl) (by kernel_rfl) (Try.call62 _ _) (joinB_any y28 L u1 (joinL acc (l.take i)) w41 oky28 hk53 (row_sl hr51 memE_len)) (by rintro e x ⟨rfl, hb54⟩; exact ⟨_, rfl, ⟨rfl, hb54⟩⟩)) ?_; clear h47
    rintro _ w49 a48 ⟨rfl, hb54⟩ h48
    have hz55 := hb54.size
    refine pl_nil ?_
    refine co_then ?_
    have hB57 := hb_new hB13 hg34
    have hB58 := hb_at hB57 hg44 (by omega)
    have hB59 := hb_call hB58 hb54
    have hk60 := hk14.kept hg34 (by simp)
    have hk61 := hk60.kept hg44 (by simp; omega)
    have hk62 := hk61.below hb54
    have hk63 := hk15.kept hg34 (by simp)
    have hk64 := hk63.kept hg44 (by simp; omega)
    have hk65 := hk64.below hb54
    have hk66 := hk16.kept hg34 (by simp)
    have hk67 := hk66.kept hg44 (by simp; omega)
    have hk68 := hk67.below hb54
    have hI69 := hf11.kept hg34 (by simp)
    have hI70 := hI69.kept hg44 (by simp; omega)
    have hI71 := hI70.kept (below_grown hb54) (by simp)
    have hI72 := hf12.kept hg34 (by simp)
    have hI73 := hI72.kept hg44 (by simp; omega)
    have hI74 := hI73.kept (below_grown hb54) (by simp)
    cases hc56 : (joinB (joinL acc (l.take i)) y28)
    ·
     rw [hc56] at h48
     refine co_false h48 rfl ?_
     refine wp_skip ?_
     refine co_blockN ?_
     refine co_then ?_
     refine co_reg ?_
     refine pk (v := .int .i64 ((i + 1 : Nat) : Int)) h48 rfl (rn_arith' rfl rfl rfl rfl rfl rfl (IntWalk.i64_in _ (by omega)) (by omega)) fun a75 h75 => ?_; clear h48
     refine pk0 (v := .int .i64 ((i + 1 : Nat) : Int)) h75 rfl fun a76 h76 => ?_; clear h75
     refine pl_nil ?_
     refine co_then ?_
     refine ⟨(l.length - (i + 1)), by omega, ?_⟩
     have hk77 := hk53.below hb54
     have hr78 := row_kept_new hr51 (below_grown hb54)
     exact ⟨i + 1, u1, h76.sub ⟨rfl, rfl, rfl, rfl, rfl, rfl, trivial⟩, rfl, by omega, hk77, (row_eq hr78 (by first | exact jn_0 _ _ | exact jn_yes (by assumption) (by assumption) | exact jn_no (by assumption) (by assumption))), hI71, hI74, hB59, hk62, hk65, hk68⟩
    ·
     rw [hc56] at h48
     refine co_true h48 rfl ?_
     refine co_reg ?_
     have hk79 := hk53.below hb54
     refine pk (v := u1) h48 rfl (rn_load1 rfl rfl Try.isAgg40 (hk79.cell rfl)) fun a80 h80 => ?_; clear h48
     have hk81 := hk42'.below hb54
     refine pk (v := .agg #[.int .i64 y28.1, .int .i64 y28.2]) h80 rfl (rn_loadN rfl rfl Try.underlying80 rfl (by kernel_rfl) hk81.all) fun a82 h82 => ?_; clear h80
     refine pw h82 rfl (op_new (v := fun N => .slice (some ⟨N, 0, none⟩) 1 1) (T := 80) (cs := #[.int .i64 y28.1, .int .i64 y28.2]) (by kernel_rfl) (by kernel_rfl) (by kernel_rfl)) ?_; clear h82
     rintro _ w84 a83 ⟨N85, rfl, hN88, hz89, hk87, hg86⟩ h83
     have hr91 := row_kept_new hr51 (below_grown hb54)
     have ha90 := row_fresh hr91 hN88
     have hz92 := hg86.size
     try dsimp only at h83
     have hr99 := row_kept_new hr91 hg86
     refine pw h83 rfl (op_append rfl w0.heap.size 80 (z := .agg #[.int .i64 0, .int .i64 0]) (size := 2) (bytes := 16) Try.underlying40 (by kernel_rfl) rfl rfl rfl hr99 rfl hk87 rfl (by kernel_rfl) (by first | omega | (simp only [List.length_nil, List.length_append, List.length_cons, List.length_take, List.length_drop]; omega)) (by first | omega | (simp only [List.length_nil, List.length_append, List.length_cons, List.length_take, List.length_drop]; omega)) (by omega)) ?_; clear h83
     rintro v95 w94 a93 ⟨hr96, hg97⟩ h93
     have hr96' : w94.ownsRow w0.heap.size 80 2 v95 ((joinL acc (l.take i) ++ [(y28.1, y28.2)]).length) ((joinL acc (l.take i) ++ [(y28.1, y28.2)]).flatMap memE) := row_push (y := (y28.1, y28.2)) hr96 rfl rfl; clear hr96
     have hz100 := hg97.size
     have hk106 := hk79.kept hg86 (by simp)
     have hk107 := hk106.kept hg97 (own_neT hr99 hk106 (by decide))
     refine pwD h93 rfl (op_store1 rfl rfl rfl (row_one hr96') Try.sizeOf40 hk107 rfl) ?_; clear h93
     rintro _ w102 a101 ⟨hk103, hz104, hg105⟩ h101
     have hk103' : Blk w102 L 40 #[v95] := hk103; clear hk103
     have hz108 := hg105.size
     refine pl_nil ?_
     refine co_blockN ?_
     refine co_then ?_
     refine co_reg ?_
     refine pk (v := .int .i64 ((i + 1 : Nat) : Int)) h101 rfl (rn_arith' rfl rfl rfl rfl rfl rfl (IntWalk.i64_in _ (by omega)) (by omega)) fun a109 h109 => ?_; clear h101
     refine pk0 (v := .int .i64 ((i + 1 : Nat) : Int)) h109 rfl fun a110 h110 => ?_; clear h109
     refine pl_nil ?_
     refine co_then ?_
     refine ⟨(l.length - (i + 1)), by omega, ?_⟩
     have hr111 := row_kept_at hr96' hg105 (own_neT hr96' hk107 (by decide))
     have hI112 := hI71.kept hg86 (by simp)
     have hI113 := hI112.kept hg97 (hI112.row hr99)
     have hI114 := hI113.kept hg105 (by simp; omega)
     have hI115 := hI74.kept hg86 (by simp)
     have hI116 := hI115.kept hg97 (hI115.row hr99)
     have hI117 := hI116.kept hg105 (by simp; omega)
     have hB118 := hb_new hB59 hg86
     have hB119 := hb_row hB118 hr99 (by omega) hg97
     have hB120 := hb_at hB119 hg105 (by omega)
     have hk121 := hk62.kept hg86 (by simp)
     have hk122 := hk121.kept hg97 (own_neT hr99 hk121 (by decide))
     have hk123 := hk122.kept hg105 (by simp; omega)
     have hk124 := hk65.kept hg86 (by simp)
     have hk125 := hk124.kept hg97 (own_neT hr99 hk124 (by decide))
     have hk126 := hk125.kept hg105 (by simp; omega)
     have hk127 := hk68.kept hg86 (by simp)
     have hk128 := hk127.kept hg97 (own_neT hr99 hk127 (by decide))
     have hk129 := hk128.kept hg105 (by simp; omega)
     exact ⟨i + 1, v95, h110.sub ⟨rfl, rfl, rfl, rfl, rfl, rfl, trivial⟩, rfl, by omega, hk103', (row_eq hr111 (by first | exact jn_0 _ _ | exact jn_yes (by assumption) (by assumption) | exact jn_no (by assumption) (by assumption))), hI114, hI117, hB120, hk123, hk126, hk129⟩
set_option maxRecDepth 100000 in
theorem chain_any (ep : Int) (mv : Value) (ms : List MemT) (fl : Int) (lv : Value) (lg : List Int) (gv : Value) (gn : List Int) (jv : Value) (js : List MemT) (w : World) (hs : SliceOf memE 2 w mv ms) (hmk : ∀ z ∈ ms, memOk z) (hlg : SliceOf (intE .i64) 1 w lv lg) (hgn : SliceOf (intE .i64) 1 w gv gn) (hjs : SliceOf memE 2 w jv js) (hjk : ∀ z ∈ js, memOk z) (hlen : ms.length ≤ 4 ∧ js.length ≤ 1000) :
    Calls Try.prog 37 #[.agg #[.int .i64 ep, mv, .int .u64 fl], lv, gv, jv] w fun e w' => ∃ (u : Value), e = .returned (.tuple #[u, .int .i64 (((keepL ms lg gn).length : Nat) : Int)]) ∧ w'.ownsRow w.heap.size 80 2 u (planL ms lg gn js).length ((planL ms lg gn js).flatMap memE) ∧ Below w.heap.size w w' := by
 have hB0 := Below.refl w.heap.size w
 have hl_hs := sl_len hs
 have hl_hlg := sl_len hlg
 have hl_hgn := sl_len hgn
 have hl_hjs := sl_len hjs
 refine co_enter (n := 38) Try.func37 rfl rfl rfl [(0, .agg #[.int .i64 ep, mv, .int .u64 fl]), (1, lv), (2, gv), (3, jv)] rfl (fun a h0 => ?_)
 refine co_seq ?_
 refine co_reg ?_
 refine pw h0 rfl (op_new (v := fun N => pt N 0) (T := 42) (cs := #[.int .i64 ep, mv, .int .u64 fl]) (by kernel_rfl) (by kernel_rfl) (by kernel_rfl)) ?_; clear h0
 rintro _ w2 a1 ⟨N3, rfl, hN6, hz7, hk5, hg4⟩ h1
 have hz8 := hg4.size
 try dsimp only at h1
 refine pk0 (v := .slice none 0 0) h1 rfl fun a9 h9 => ?_; clear h1
 refine pk0 (v := .int .i64 0) h9 rfl fun a10 h10 => ?_; clear h9
 refine pl_nil ?_
 refine co_then ?_
 refine co_seq ?_
 refine co_reg ?_
 refine pk0 (v := lv) h10 rfl fun a11 h11 => ?_; clear h10
 have hB14 := hb_new hB0 hg4
 refine pw h11 rfl (op_call (args := #[lv]) (R := fun res xw => ∃ N : Nat, res = .map (some N) ∧ MapG intK intK 0 xw N (cntL lg) ∧ w2.heap.size ≤ N ∧ Below w2.heap.size w2 xw) rfl rfl rfl (by kernel_rfl) (by kernel_rfl) (Try.call58 _ _) (set_any lv lg w2 (hlg.below hB14)) (by rintro e x ⟨N, rfl, hq16, hq17, hb18⟩; exact ⟨_, rfl, ⟨N, rfl, hq16, hq17, hb18⟩⟩)) ?_; clear h11
 rintro _ w13 a12 ⟨N15, rfl, hq16, hq17, hb18⟩ h12
 have hz19 := hb18.size
 have hl20 := hq16.lt
 refine pk0 (v := gv) h12 rfl fun a21 h21 => ?_; clear h12
 have hB24 := hb_call hB14 hb18
 refine pw h21 rfl (op_call (args := #[gv]) (R := fun res xw => ∃ N : Nat, res = .map (some N) ∧ MapG intK intK 0 xw N (cntL gn) ∧ w13.heap.size ≤ N ∧ Below w13.heap.size w13 xw) rfl rfl rfl (by kernel_rfl) (by kernel_rfl) (Try.call58 _ _) (set_any gv gn w13 (hgn.below hB24)) (by rintro e x ⟨N, rfl, hq26, hq27, hb28⟩; exact ⟨_, rfl, ⟨N, rfl, hq26, hq27, hb28⟩⟩)) ?_; clear h21
 rintro _ w23 a22 ⟨N25, rfl, hq26, hq27, hb28⟩ h22
 have hz29 := hb28.size
 have hl30 := hq26.lt
 refine pw h22 rfl (op_new (v := fun N => pt N 0) (T := 108) (cs := #[.map none]) (by kernel_rfl) (by kernel_rfl) (by kernel_rfl)) ?_; clear h22
 rintro _ w32 a31 ⟨N33, rfl, hN36, hz37, hk35, hg34⟩ h31
 have hz38 := hg34.size
 try dsimp only at h31
 refine pw h31 rfl (op_new (v := fun N => pt N 0) (T := 108) (cs := #[.map none]) (by kernel_rfl) (by kernel_rfl) (by kernel_rfl)) ?_; clear h31
 rintro _ w40 a39 ⟨N41, rfl, hN44, hz45, hk43, hg42⟩ h39
 have hz46 := hg42.size
 try dsimp only at h39
 have hk52 := hk35.kept hg42 (by simp)
 refine pwD h39 rfl (op_store1 rfl rfl rfl rfl Try.sizeOf108 hk52 rfl) ?_; clear h39
 rintro _ w48 a47 ⟨hk49, hz50, hg51⟩ h47
 have hk49' : Blk w48 N33 108 #[.map (some N15)] := hk49; clear hk49
 have hz53 := hg51.size
 have hk59 := hk43.kept hg51 (by simp; omega)
 refine pwD h47 rfl (op_store1 rfl rfl rfl rfl Try.sizeOf108 hk59 rfl) ?_; clear h47
 rintro _ w55 a54 ⟨hk56, hz57, hg58⟩ h54
 have hk56' : Blk w55 N41 108 #[.map (some N25)] := hk56; clear hk56
 have hz60 := hg58.size
 refine pl_nil ?_
 refine co_then ?_
 refine co_seq ?_
 refine co_reg ?_
 refine pw h54 rfl (op_new (v := fun N => pt N 0) (T := 40) (cs := #[.slice none 0 0]) (by kernel_rfl) (by kernel_rfl) (by kernel_rfl)) ?_; clear h54
 rintro _ w62 a61 ⟨N63, rfl, hN66, hz67, hk65, hg64⟩ h61
 have hz68 := hg64.size
 try dsimp only at h61
 refine pl_nil ?_
 refine co_then ?_
 refine co_seq ?_
 refine co_reg ?_
 refine pk0 (v := .func (.func 59) #[] #[pt N63 0]) h61 rfl fun a69 h69 => ?_; clear h61
 refine pk0 (v := .func (.func 59) #[] #[pt N63 0]) h69 rfl fun a70 h70 => ?_; clear h69
 refine pl_nil ?_
 refine co_then ?_
 refine co_seq ?_
 refine co_reg ?_
 refine pk0 (v := .func (.func 59) #[] #[pt N63 0]) h70 rfl fun a71 h71 => ?_; clear h70
 refine pk0 (v := pt N3 1) h71 rfl fun a72 h72 => ?_; clear h71
 have hk73 := hk5.below hb18
 have hk74 := hk73.below hb28
 have hk75 := hk74.kept hg34 (by simp)
 have hk76 := hk75.kept hg42 (by simp)
 have hk77 := hk76.kept hg51 (by simp; omega)
 have hk78 := hk77.kept hg58 (by simp; omega)
 have hk79 := hk78.kept hg64 (by simp)
 refine pk (v := mv) h72 rfl (rn_load1 rfl rfl Try.isAgg40 (hk79.cell rfl)) fun a80 h80 => ?_; clear h72
 refine pk0 (v := .func (.func 60) #[] #[pt N41 0, pt N33 0]) h80 rfl fun a81 h81 => ?_; clear h80
 have hB93 := hb_call hB24 hb28
 have hB94 := hb_new hB93 hg34
 have hB95 := hb_new hB94 hg42
 have hB96 := hb_at hB95 hg51 (by omega)
 have hB97 := hb_at hB96 hg58 (by omega)
 have hB98 := hb_new hB97 hg64
 have hI99 := hq16.kept (below_grown hb28) (by simp)
 have hI100 := hI99.kept hg34 (by simp)
 have hI101 := hI100.kept hg42 (by simp)
 have hI102 := hI101.kept hg51 (by simp; omega)
 have hI103 := hI102.kept hg58 (by simp; omega)
 have hI104 := hI103.kept hg64 (by simp)
 have hI105 := hq26.kept hg34 (by simp)
 have hI106 := hI105.kept hg42 (by simp)
 have hI107 := hI106.kept hg51 (by simp; omega)
 have hI108 := hI107.kept hg58 (by simp; omega)
 have hI109 := hI108.kept hg64 (by simp)
 have hk110 := hk49'.kept hg58 (by simp; omega)
 have hk111 := hk110.kept hg64 (by simp)
 have hk112 := hk56'.kept hg64 (by simp)
 refine pw h81 rfl (op_callV (args := #[mv, .func (.func 60) #[] #[pt N41 0, pt N33 0], pt N63 0]) (R := fun res xw => res = .tuple #[] ∧ ∃ u' : Value, Blk xw N63 40 #[u'] ∧ xw.ownsRow w.heap.size 80 2 u' (([] : List MemT) ++ ms.filter (selA lg gn)).length ((([] : List MemT) ++ ms.filter (selA lg gn)).flatMap memE) ∧ Blk xw N3 42 #[.int .i64 ep, mv, .int .u64 fl] ∧ Blk xw N41 108 #[.map (some N25)] ∧ Blk xw N33 108 #[.map (some N15)] ∧ MapG intK intK 0 xw N25 (cntL gn) ∧ MapG intK intK 0 xw N15 (cntL lg) ∧ Below w.heap.size w xw) rfl rfl rfl (by kernel_rfl) (by kernel_rfl) (Try.call59 _ _) (addA_any w mv ms (.slice none 0 0) ([]) gn lg N3 N15 N25 N33 N41 N63 ep mv fl w62 hs hmk hB98 hk65 hk79 hk112 hk111 hI109 hI104 (by omega) ⟨by simp, by omega⟩ (row_nilL _ _ _ _ _)) (by rintro e x ⟨u', rfl, k1, k2, k3, k4, k5, k6, k7, k8⟩; exact ⟨_, rfl, rfl, u', k1, k2, k3, k4, k5, k6, k7, k8⟩)) ?_; clear h81
 rintro _ w83 a82 ⟨rfl, u84, hq85, hq86, hq87, hq88, hq89, hq90, hq91, hb92⟩ h82
 have hz113 := hb92.size
 have hl114 := hq85.lt
 have hl115 := hq87.lt
 have hl116 := hq88.lt
 have hl117 := hq89.lt
 have hl118 := hq90.lt
 have hl119 := hq91.lt
 have hr120 : w83.ownsRow w.heap.size 80 2 u84 (keepL ms lg gn).length ((keepL ms lg gn).flatMap memE) := hq86
 refine pl_nil ?_
 refine co_then ?_
 refine co_seq ?_
 refine co_reg ?_
 refine pk (v := u84) h82 rfl (rn_load1 rfl rfl Try.isAgg40 (hq85.cell rfl)) fun a121 h121 => ?_; clear h82
 refine pk (v := .int .i64 (((keepL ms lg gn).length : Nat) : Int)) h121 rfl (rn_lenOwn rfl rfl Try.underlying40 hr120) fun a122 h122 => ?_; clear h121
 refine pk0 (v := .int .i64 (((keepL ms lg gn).length : Nat) : Int)) h122 rfl fun a123 h123 => ?_; clear h122
 refine pl_nil ?_
 refine co_then ?_
 refine co_seq ?_
 refine co_reg ?_
 refine pk0 (v := .func (.func 59) #[] #[pt N63 0]) h123 rfl fun a124 h124 => ?_; clear h123
 refine pk0 (v := pt N3 1) h124 rfl fun a125 h125 => ?_; clear h124
 refine pk (v := mv) h125 rfl (rn_load1 rfl rfl Try.isAgg40 (hq87.cell rfl)) fun a126 h126 => ?_; clear h125
 refine pk0 (v := .func (.func 61) #[] #[pt N41 0, pt N33 0]) h126 rfl fun a127 h127 => ?_; clear h126
 refine pw h127 rfl (op_callV (args := #[mv, .func (.func 61) #[] #[pt N41 0, pt N33 0], pt N63 0]) (R := fun res xw => res = .tuple #[] ∧ ∃ u' : Value, Blk xw N63 40 #[u'] ∧ xw.ownsRow w.heap.size 80 2 u' (keepL ms lg gn ++ ms.filter (selB lg gn)).length ((keepL ms lg gn ++ ms.filter (selB lg gn)).flatMap memE) ∧ Blk xw N3 42 #[.int .i64 ep, mv, .int .u64 fl] ∧ Blk xw N41 108 #[.map (some N25)] ∧ Blk xw N33 108 #[.map (some N15)] ∧ MapG intK intK 0 xw N25 (cntL gn) ∧ MapG intK intK 0 xw N15 (cntL lg) ∧ Below w.heap.size w xw) rfl rfl rfl (by kernel_rfl) (by kernel_rfl) (Try.call59 _ _) (addB_any w mv ms u84 (keepL ms lg gn) gn lg N3 N15 N25 N33 N41 N63 ep mv fl w83 hs hmk hb92 hq85 hq87 hq88 hq89 hq90 hq91 (by omega) ⟨by first | exact keep_acc (by omega) | omega, by omega⟩ hr120) (by rintro e x ⟨u', rfl, k1, k2, k3, k4, k5, k6, k7, k8⟩; exact ⟨_, rfl, rfl, u', k1, k2, k3, k4, k5, k6, k7, k8⟩)) ?_; clear h127
 rintro _ w129 a128 ⟨rfl, u130, hq131, hq132, hq133, hq134, hq135, hq136, hq137, hb138⟩ h128
 have hz139 := hb138.size
 have hl140 := hq131.lt
 have hl141 := hq133.lt
 have hl142 := hq134.lt
 have hl143 := hq135.lt
 have hl144 := hq136.lt
 have hl145 := hq137.lt
 have hr146 : w129.ownsRow w.heap.size 80 2 u130 (stayL ms lg gn).length ((stayL ms lg gn).flatMap memE) := hq132
 refine pl_nil ?_
 refine co_then ?_
 refine co_seq ?_
 refine co_reg ?_
 refine pk0 (v := .func (.func 59) #[] #[pt N63 0]) h128 rfl fun a147 h147 => ?_; clear h128
 refine pk0 (v := jv) h147 rfl fun a148 h148 => ?_; clear h147
 refine pk0 (v := .func (.func 62) #[] #[pt N63 0]) h148 rfl fun a149 h149 => ?_; clear h148
 refine pw h149 rfl (op_callV (args := #[jv, .func (.func 62) #[] #[pt N63 0], pt N63 0]) (R := fun res xw => res = .tuple #[] ∧ ∃ u' : Value, Blk xw N63 40 #[u'] ∧ xw.ownsRow w.heap.size 80 2 u' (joinL (stayL ms lg gn) js).length ((joinL (stayL ms lg gn) js).flatMap memE) ∧ Blk xw N3 42 #[.int .i64 ep, mv, .int .u64 fl] ∧ Blk xw N41 108 #[.map (some N25)] ∧ Blk xw N33 108 #[.map (some N15)] ∧ MapG intK intK 0 xw N25 (cntL gn) ∧ MapG intK intK 0 xw N15 (cntL lg) ∧ Below w.heap.size w xw) rfl rfl rfl (by kernel_rfl) (by kernel_rfl) (Try.call59 _ _) (addJ_any w jv js u130 (stayL ms lg gn) gn lg N3 N15 N25 N33 N41 N63 ep mv fl w129 hjs hjk hb138 hq131 hq133 hq134 hq135 hq136 hq137 (by omega) ⟨by first | exact stay_acc (by omega) | omega, by omega⟩ hr146) (by rintro e x ⟨u', rfl, k1, k2, k3, k4, k5, k6, k7, k8⟩; exact ⟨_, rfl, rfl, u', k1, k2, k3, k4, k5, k6, k7, k8⟩)) ?_; clear h149
 rintro _ w151 a150 ⟨rfl, u152, hq153, hq154, hq155, hq156, hq157, hq158, hq159, hb160⟩ h150
 have hz161 := hb160.size
 have hl162 := hq153.lt
 have hl163 := hq155.lt
 have hl164 := hq156.lt
 have hl165 := hq157.lt
 have hl166 := hq158.lt
 have hl167 := hq159.lt
 have hr168 : w151.ownsRow w.heap.size 80 2 u152 (planL ms lg gn js).length ((planL ms lg gn js).flatMap memE) := hq154
 refine pl_nil ?_
 refine co_then ?_
 refine co_seq ?_
 refine co_reg ?_
 refine pk (v := u152) h150 rfl (rn_load1 rfl rfl Try.isAgg40 (hq153.cell rfl)) fun a169 h169 => ?_; clear h150
 refine pk0 (v := .int .i64 (((keepL ms lg gn).length : Nat) : Int)) h169 rfl fun a170 h170 => ?_; clear h169
 refine pk0 (v := u152) h170 rfl fun a171 h171 => ?_; clear h170
 refine pk0 (v := .int .i64 (((keepL ms lg gn).length : Nat) : Int)) h171 rfl fun a172 h172 => ?_; clear h171
 refine pl_nil ?_
 refine co_then ?_
 refine wp_ret ?_
 refine co_ret2 h172 rfl rfl rfl ?_
 exact ⟨_, rfl, (row_lows hr168 (by omega)), hb160⟩
end Go.Proofs.Ytdgboikkgeioeaa

/- Package plan: Next. Conditions: at most 1000 who join. -/
namespace Go.Proofs.Ytdgboikkgeioeaa
open Go.RowKit Go.PlainAid
set_option linter.unusedVariables false
set_option linter.unusedSimpArgs false


theorem plan_pre (ms : List MemT) (lg gn : List Int) (js : List MemT) : ∃ r, planL ms lg gn js = keepL ms lg gn ++ r := by
  obtain ⟨r, h, _⟩ := join_pre js (stayL ms lg gn)
  exact ⟨restL ms lg gn ++ r, by unfold planL; rw [h]; unfold stayL; rw [List.append_assoc]⟩
theorem plan_ge (ms : List MemT) (lg gn : List Int) (js : List MemT) : (keepL ms lg gn).length ≤ (planL ms lg gn js).length := by
  obtain ⟨r, h⟩ := plan_pre ms lg gn js; rw [h, List.length_append]; omega
theorem plan_take (ms : List MemT) (lg gn : List Int) (js : List MemT) : (planL ms lg gn js).take (keepL ms lg gn).length = keepL ms lg gn := by
  obtain ⟨r, h⟩ := plan_pre ms lg gn js; rw [h]; simp
theorem plan_le4 {ms : List MemT} {lg gn : List Int} {js : List MemT} (h : ms.length ≤ 4) : (planL ms lg gn js).length ≤ 4 := join_le (Nat.le_trans (stayL_le ms lg gn) h) js
theorem mem_plan {ms : List MemT} {lg gn : List Int} {js : List MemT} {m : MemT} (h : m ∈ planL ms lg gn js) : (m ∈ keepL ms lg gn ∨ m ∈ restL ms lg gn) ∨ (m ∈ js ∧ mayM m = true) := by
  obtain ⟨r, h1, h2⟩ := join_pre js (stayL ms lg gn)
  unfold planL at h; rw [h1] at h
  rcases List.mem_append.1 h with h | h
  · exact .inl (List.mem_append.1 h)
  · exact .inr (h2 m h)
theorem plan_ok {ms : List MemT} {lg gn : List Int} {js : List MemT} (h : ∀ z ∈ ms, memOk z) (h2 : ∀ z ∈ js, memOk z) : ∀ z ∈ planL ms lg gn js, memOk z := by
  intro z hz
  rcases mem_plan hz with (k | k) | k
  · exact h z (List.mem_filter.1 k).1
  · exact h z (List.mem_filter.1 k).1
  · exact h2 z k.1
theorem keep_good {ep : Int} {ms : List MemT} {lg gn : List Int} (h : chkC ep ms = 0) : ∀ m ∈ keepL ms lg gn, ¬ badId m := fun m hm => ((chkC_iff.1 h).2.2.1 m (List.mem_filter.1 hm).1).1
theorem id_at {l : List MemT} {i : Nat} {y : MemT} (h : l[i]? = some y) : (l.take i).map (fun o => o.1) ++ [y.1] = (l.take (i + 1)).map (fun o => o.1) := by rw [takeP_at h]; simp
theorem ids_eq {ep : Int} {ms : List MemT} {lg gn : List Int} {js : List MemT} {i : Nat} (h : chkC ep ms = 0) (hi : ((planL ms lg gn js).take (keepL ms lg gn).length).length ≤ i) : srt ((((planL ms lg gn js).take (keepL ms lg gn).length).take i).map (fun o => o.1)) = trustL (keepL ms lg gn) := by
  rw [List.take_of_length_le hi, plan_take]; exact trust_srt (keep_good h)
theorem row_nn {w : World} {B : Nat} {T : TypeId} {sz : Nat} {v : Value} {k : Nat} {xs : List Value} (h : w.ownsRow B T sz v k xs) (hk : 0 < k) : v ≠ .slice none 0 0 := by
  rintro rfl
  rcases h.2 with ⟨_, h1⟩ | ⟨g, cap, cur, h1, _⟩
  · have h0 := h.1; omega
  · simp at h1
theorem len_ids {l : List MemT} {i : Nat} (h : i ≤ l.length) : ((l.take i).map (fun o => o.1)).length = i := by rw [List.length_map, List.length_take]; omega
set_option maxRecDepth 100000 in
theorem next_any (ep : Int) (mv : Value) (ms : List MemT) (fl : Int) (lv : Value) (lg : List Int) (gv : Value) (gn : List Int) (jv : Value) (js : List MemT) (last : Int) (w : World) (hs : SliceOf memE 2 w mv ms) (hmk : ∀ z ∈ ms, memOk z) (hlg : SliceOf (intE .i64) 1 w lv lg) (hgn : SliceOf (intE .i64) 1 w gv gn) (hjs : SliceOf memE 2 w jv js) (hjk : ∀ z ∈ js, memOk z) (he : -9223372036854775808 ≤ ep ∧ ep ≤ 9223372036854775807) (hf : 0 ≤ fl ∧ fl < 18446744073709551616) (hla : 0 ≤ last ∧ last < 18446744073709551616) (hjl : js.length ≤ 1000) :
    Calls Try.prog 15 #[.agg #[.int .i64 ep, mv, .int .u64 fl], lv, gv, jv, .int .u64 last] w fun e w' => ∃ (u : Value) (t : Value), e = .returned (.tuple #[.agg #[.int .i64 (nextEp ep ms lg gn js), u, .int .u64 (nextFl ep ms fl lg gn js last)], t, .int .i64 (nextE ep ms lg gn js)]) ∧ w'.ownsRow w.heap.size 80 2 u (nextM ep ms lg gn js).length ((nextM ep ms lg gn js).flatMap memE) ∧ w'.ownsRow w.heap.size 3 1 t (nextT ep ms lg gn js).length ((nextT ep ms lg gn js).flatMap (intE .i64)) ∧ Below w.heap.size w w' := by
 have hB0 := Below.refl w.heap.size w
 have hl_hs := sl_len hs
 have hl_hlg := sl_len hlg
 have hl_hgn := sl_len hgn
 have hl_hjs := sl_len hjs
 refine co_enter (n := 71) Try.func15 rfl rfl rfl [(0, .agg #[.int .i64 ep, mv, .int .u64 fl]), (1, lv), (2, gv), (3, jv), (4, .int .u64 last)] rfl (fun a h0 => ?_)
 refine co_seq ?_
 refine co_reg ?_
 refine pw h0 rfl (op_new (v := fun N => pt N 0) (T := 42) (cs := #[.int .i64 ep, mv, .int .u64 fl]) (by kernel_rfl) (by kernel_rfl) (by kernel_rfl)) ?_; clear h0
 rintro _ w2 a1 ⟨N3, rfl, hN6, hz7, hk5, hg4⟩ h1
 have hz8 := hg4.size
 try dsimp only at h1
 refine pw h1 rfl (op_new (v := fun N => pt N 0) (T := 42) (cs := #[.int .i64 0, .slice none 0 0, .int .u64 0]) (by kernel_rfl) (by kernel_rfl) (by kernel_rfl)) ?_; clear h1
 rintro _ w10 a9 ⟨N11, rfl, hN14, hz15, hk13, hg12⟩ h9
 have hz16 := hg12.size
 try dsimp only at h9
 refine pk0 (v := .slice none 0 0) h9 rfl fun a17 h17 => ?_; clear h9
 refine pk0 (v := .int .i64 0) h17 rfl fun a18 h18 => ?_; clear h17
 refine pl_nil ?_
 refine co_then ?_
 refine co_seq ?_
 refine co_seq ?_
 refine co_reg ?_
 have hk19 := hk5.kept hg12 (by simp)
 refine pk (v := .agg #[.int .i64 ep, mv, .int .u64 fl]) h18 rfl (rn_loadN rfl rfl Try.underlying42 rfl (by kernel_rfl) hk19.all) fun a20 h20 => ?_; clear h18
 have hB23 := hb_new hB0 hg4
 have hB24 := hb_new hB23 hg12
 refine pw h20 rfl (op_call (args := #[.agg #[.int .i64 ep, mv, .int .u64 fl]]) (R := fun res xw => res = .int .i64 (chkC ep ms) ∧ Below w10.heap.size w10 xw) rfl rfl rfl (by kernel_rfl) (by kernel_rfl) (Try.call30 _ _) (wcheck_any ep mv ms fl w10 (hs.below hB24) (by assumption) (by first | omega | (simp; done) | (simp; omega)) (by first | omega | (simp; done) | (simp; omega))) (by rintro e x ⟨rfl, hb25⟩; exact ⟨_, rfl, ⟨rfl, hb25⟩⟩)) ?_; clear h20
 rintro _ w22 a21 ⟨rfl, hb25⟩ h21
 have hz26 := hb25.size
 refine pk0 (v := .int .i64 (chkC ep ms)) h21 rfl fun a27 h27 => ?_; clear h21
 refine pl_nil ?_
 refine co_then ?_
 refine co_seq ?_
 refine co_reg ?_
 refine pk0 (v := .int .i64 (chkC ep ms)) h27 rfl fun a28 h28 => ?_; clear h27
 refine pk0 (v := .bool (chkC ep ms != 0)) h28 rfl fun a29 h29 => ?_; clear h28
 refine pl_nil ?_
 refine co_then ?_
 have hB31 := hb_call hB24 hb25
 cases hc30 : (chkC ep ms != 0)
 ·
  rw [hc30] at h29
  have hp32 : ¬ (chkC ep ms ≠ 0) := by first | simpa using hc30 | simpa [and_assoc] using hc30
  clear hc30
  refine co_false h29 rfl ?_
  refine wp_skip ?_
  refine co_then ?_
  refine co_seq ?_
  refine co_reg ?_
  have hk33 := hk19.below hb25
  refine pk (v := .agg #[.int .i64 ep, mv, .int .u64 fl]) h29 rfl (rn_loadN rfl rfl Try.underlying42 rfl (by kernel_rfl) hk33.all) fun a34 h34 => ?_; clear h29
  refine pk0 (v := lv) h34 rfl fun a35 h35 => ?_; clear h34
  refine pk0 (v := gv) h35 rfl fun a36 h36 => ?_; clear h35
  refine pk0 (v := jv) h36 rfl fun a37 h37 => ?_; clear h36
  have hk4 := (chkC_iff.1 (by omega : chkC ep ms = 0)).2.1
  have hke := (chkC_iff.1 (by omega : chkC ep ms = 0)).1
  have hge := plan_ge ms lg gn js
  have hp4 := plan_le4 (lg := lg) (gn := gn) (js := js) hk4.2
  refine pw h37 rfl (op_call (args := #[.agg #[.int .i64 ep, mv, .int .u64 fl], lv, gv, jv]) (R := fun res xw => ∃ u : Value, res = .tuple #[u, .int .i64 (((keepL ms lg gn).length : Nat) : Int)] ∧ xw.ownsRow w22.heap.size 80 2 u (planL ms lg gn js).length ((planL ms lg gn js).flatMap memE) ∧ Below w22.heap.size w22 xw) rfl rfl rfl (by kernel_rfl) (by kernel_rfl) (Try.call37 _ _) (chain_any ep mv ms fl lv lg gv gn jv js w22 (hs.below hB31) hmk (hlg.below hB31) (hgn.below hB31) (hjs.below hB31) hjk (by first | omega | (simp; done) | (simp; omega))) (by rintro e x ⟨u, rfl, hq41, hb42⟩; exact ⟨_, rfl, ⟨u, rfl, hq41, hb42⟩⟩)) ?_; clear h37
  rintro _ w39 a38 ⟨u40, rfl, hq41, hb42⟩ h38
  have hz43 := hb42.size
  have hl44 := sl_len (row_sl hq41 memE_len)
  refine pk0 (v := .tuple #[u40, .int .i64 (((keepL ms lg gn).length : Nat) : Int)]) h38 rfl fun a45 h45 => ?_; clear h38
  refine pk0 (v := u40) h45 rfl fun a46 h46 => ?_; clear h45
  refine pk0 (v := .int .i64 (((keepL ms lg gn).length : Nat) : Int)) h46 rfl fun a47 h47 => ?_; clear h46
  refine pk0 (v := u40) h47 rfl fun a48 h48 => ?_; clear h47
  refine pk0 (v := .int .i64 (((keepL ms lg gn).length : Nat) : Int)) h48 rfl fun a49 h49 => ?_; clear h48
  refine pl_nil ?_
  refine co_then ?_
  refine co_seq ?_
  refine co_seq ?_
  refine co_reg ?_
  refine pk0 (v := .int .i64 (((keepL ms lg gn).length : Nat) : Int)) h49 rfl fun a50 h50 => ?_; clear h49
  refine pk0 (v := .bool ((((keepL ms lg gn).length : Nat) : Int) == 0)) h50 rfl fun a51 h51 => ?_; clear h50
  refine pl_nil ?_
  refine co_then ?_
  have hB53 := hb_call hB31 hb42
  have hk54 := hk13.below hb25
  have hk55 := hk54.below hb42
  cases hc52 : ((((keepL ms lg gn).length : Nat) : Int) == 0)
  ·
   rw [hc52] at h51
   have hp56 : ¬ ((((keepL ms lg gn).length : Nat) : Int) = 0) := by first | simpa using hc52 | simpa [and_assoc] using hc52
   clear hc52
   refine co_false h51 rfl ?_
   refine wp_skip ?_
   refine co_then ?_
   refine co_seq ?_
   refine co_seq ?_
   refine co_reg ?_
   refine pk0 (v := u40) h51 rfl fun a57 h57 => ?_; clear h51
   refine pk0 (v := pt N3 1) h57 rfl fun a58 h58 => ?_; clear h57
   have hk59 := hk33.below hb42
   refine pk (v := mv) h58 rfl (rn_load1 rfl rfl Try.isAgg40 (hk59.cell rfl)) fun a60 h60 => ?_; clear h58
   refine pw h60 rfl (op_call (args := #[u40, mv]) (R := fun res xw => res = .bool (decide ((planL ms lg gn js) = ms)) ∧ Below w39.heap.size w39 xw) rfl rfl rfl (by kernel_rfl) (by kernel_rfl) (Try.call38 _ _) (equal_any u40 mv (planL ms lg gn js) ms w39 (row_sl hq41 memE_len) (hs.below hB53)) (by rintro e x ⟨rfl, hb63⟩; exact ⟨_, rfl, ⟨rfl, hb63⟩⟩)) ?_; clear h60
   rintro _ w62 a61 ⟨rfl, hb63⟩ h61
   have hz64 := hb63.size
   refine pl_nil ?_
   refine co_then ?_
   have hB66 := hb_call hB53 hb63
   cases hc65 : (decide ((planL ms lg gn js) = ms))
   ·
    rw [hc65] at h61
    have hp67 : ¬ ((planL ms lg gn js) = ms) := of_decide_eq_false hc65
    clear hc65
    refine co_false h61 rfl ?_
    refine wp_skip ?_
    refine co_then ?_
    refine co_seq ?_
    refine co_seq ?_
    refine co_reg ?_
    refine pk0 (v := pt N3 0) h61 rfl fun a68 h68 => ?_; clear h61
    have hk69 := hk59.below hb63
    refine pk (v := .int .i64 ep) h68 rfl (rn_load1 rfl rfl Try.isAgg3 (hk69.cell rfl)) fun a70 h70 => ?_; clear h68
    refine pk0 (v := .bool (ep == 1073741824)) h70 rfl fun a71 h71 => ?_; clear h70
    refine pl_nil ?_
    refine co_then ?_
    cases hc72 : (ep == 1073741824)
    ·
     rw [hc72] at h71
     have hp73 : ¬ (ep = 1073741824) := by first | simpa using hc72 | simpa [and_assoc] using hc72
     clear hc72
     refine co_false h71 rfl ?_
     refine wp_skip ?_
     refine co_then ?_
     refine co_seq ?_
     refine co_reg ?_
     refine pk0 (v := .slice none 0 0) h71 rfl fun a74 h74 => ?_; clear h71
     refine pl_nil ?_
     refine co_then ?_
     refine co_seq ?_
     refine co_seq ?_
     refine co_reg ?_
     refine pk0 (v := u40) h74 rfl fun a75 h75 => ?_; clear h74
     refine pk0 (v := .int .i64 (((keepL ms lg gn).length : Nat) : Int)) h75 rfl fun a76 h76 => ?_; clear h75
     have hr77 := row_kept_new hq41 (below_grown hb63)
     refine pk (v := subV u40 0 ((keepL ms lg gn).length) 2) h76 rfl (rn_sliceTo rfl rfl rfl Try.underlying40 Try.sizeOf80 (row_sl hr77 memE_len) (by omega) (by omega)) fun a78 h78 => ?_; clear h76
     refine pk (v := .int .i64 ((((planL ms lg gn js).take ((keepL ms lg gn).length)).length : Nat) : Int)) h78 rfl (rn_len rfl rfl Try.underlying40 (sl_take (row_sl hr77 memE_len) _ (by omega))) fun a79 h79 => ?_; clear h78
     refine pk0 (v := .int .i64 0) h79 rfl fun a80 h80 => ?_; clear h79
     refine pl_nil ?_
     refine co_then ?_
     refine wp_block ?_
     have h81 : Slots 71 [(4, .int .u64 last), (5, pt N3 0), (10, pt N11 0), (14, u40), (15, .int .i64 (((keepL ms lg gn).length : Nat) : Int)), (16, .slice none 0 0), (47, subV u40 0 ((keepL ms lg gn).length) 2), (48, .int .i64 ((((planL ms lg gn js).take ((keepL ms lg gn).length)).length : Nat) : Int)), (49, .int .i64 0)] _ := h80.sub ⟨rfl, rfl, rfl, rfl, rfl, rfl, rfl, rfl, rfl, trivial⟩; clear h80
     refine co_loop (fun mm a x => ∃ (i : Nat) (u1 : Value), Slots 71 [(4, .int .u64 last), (5, pt N3 0), (10, pt N11 0), (14, u40), (15, .int .i64 (((keepL ms lg gn).length : Nat) : Int)), (16, u1), (47, subV u40 0 ((keepL ms lg gn).length) 2), (48, .int .i64 ((((planL ms lg gn js).take ((keepL ms lg gn).length)).length : Nat) : Int)), (49, .int .i64 ((i : Nat) : Int))] a ∧ mm = ((planL ms lg gn js).take (keepL ms lg gn).length).length - i ∧ (i ≤ ((planL ms lg gn js).take (keepL ms lg gn).length).length) ∧ x.ownsRow w22.heap.size 80 2 u40 (planL ms lg gn js).length ((planL ms lg gn js).flatMap memE) ∧ x.ownsRow (N11 + 1) 3 1 u1 ((((planL ms lg gn js).take (keepL ms lg gn).length).take i).map (fun o => o.1)).length (((((planL ms lg gn js).take (keepL ms lg gn).length).take i).map (fun o => o.1)).flatMap (intE .i64)) ∧ Below w.heap.size w x ∧ Blk x N3 42 #[.int .i64 ep, mv, .int .u64 fl] ∧ Blk x N11 42 #[.int .i64 0, .slice none 0 0, .int .u64 0]) (((planL ms lg gn js).take (keepL ms lg gn).length).length - 0) ?_ ?_
     have hk82 := hk55.below hb63
     · exact ⟨0, (.slice none 0 0), h81.sub ⟨rfl, rfl, rfl, rfl, rfl, rfl, rfl, rfl, (slot_eq rfl (congrArg (Value.int .i64) (by first | rfl | omega))), trivial⟩, rfl, by omega, hr77, (row_nilL _ _ _ _ _), hB66, hk69, hk82⟩
     · rintro k83 a84 w85 ⟨i, u1, h84, rfl, hi86, hf87, hf88, hB89, hk90, hk91⟩
       have hz92 := hB89.size
       have hl93 := hk90.lt
       have hl94 := hk91.lt
       have hlt := len_ids (l := (planL ms lg gn js).take (keepL ms lg gn).length) (i := i) (by assumption)
       have htk : ((planL ms lg gn js).take (keepL ms lg gn).length).length = (keepL ms lg gn).length := by rw [plan_take]
       refine co_seq ?_
       refine co_reg ?_
       refine pk0 (v := .bool (decide (((i : Nat) : Int) < ((((planL ms lg gn js).take ((keepL ms lg gn).length)).length : Nat) : Int)))) h84 rfl fun a95 h95 => ?_; clear h84
       refine pl_nil ?_
       refine co_then ?_
       refine co_seq ?_
       cases hc96 : (decide (((i : Nat) : Int) < ((((planL ms lg gn js).take ((keepL ms lg gn).length)).length : Nat) : Int)))
       ·
        rw [hc96] at h95
        have hp97 : ¬ (((i : Nat) : Int) < ((((planL ms lg gn js).take ((keepL ms lg gn).length)).length : Nat) : Int)) := of_decide_eq_false hc96
        clear hc96
        refine co_false h95 rfl ?_
        refine wp_exit ?_
        refine co_thenX ?_
        refine co_thenX ?_
        refine co_blockX ?_
        refine co_then ?_
        refine co_seq ?_
        refine co_reg ?_
        refine pk0 (v := u1) h95 rfl fun a98 h98 => ?_; clear h95
        have hnn := row_nn hf88 (by first | omega | (rw [hlt]; omega))
        refine pw h98 rfl (op_call (args := #[u1]) (R := fun res xw => res = .tuple #[] ∧ xw.ownsRow (N11 + 1) 3 1 u1 (srt ((((planL ms lg gn js).take (keepL ms lg gn).length).take i).map (fun o => o.1))).length ((srt ((((planL ms lg gn js).take (keepL ms lg gn).length).take i).map (fun o => o.1))).flatMap (intE .i64)) ∧ w85.grownBy xw (Value.ownBlock u1)) rfl rfl rfl (by kernel_rfl) (by kernel_rfl) (Try.call39 _ _) (sortI_any u1 ((((planL ms lg gn js).take (keepL ms lg gn).length).take i).map (fun o => o.1)) (N11 + 1) 3 w85 hf88 hnn (by omega)) (by rintro e x ⟨rfl, h⟩; exact ⟨_, rfl, rfl, h⟩)) ?_; clear h98
        rintro _ w100 a99 ⟨rfl, hr101, hg102⟩ h99
        have hz103 := hg102.size
        have hle104 := srt_len ((((planL ms lg gn js).take (keepL ms lg gn).length).take i).map (fun o => o.1))
        refine pl_nil ?_
        refine co_then ?_
        refine co_seq ?_
        refine dr_gen (fun x => Below w.heap.size w x ∧ Blk x N3 42 #[.int .i64 ep, mv, .int .u64 fl]) (by kernel_rfl) (fun w105 hg106 => ?_) (fun w105 hg106 => ?_)
        ·
         have hz107 := hg106.size
         have hB108 := hb_row hB89 hf88 (by omega) hg102
         have hB109 := hb_new hB108 hg106
         have hk110 := hk90.kept hg102 (own_neT hf88 hk90 (by decide))
         have hk111 := hk110.kept hg106 (by simp)
         exact ⟨hB109, hk111⟩
        have hz112 := hg106.size
        have hB113 := hb_row hB89 hf88 (by omega) hg102
        have hB114 := hb_new hB113 hg106
        have hk115 := hk90.kept hg102 (own_neT hf88 hk90 (by decide))
        have hk116 := hk115.kept hg106 (by simp)
        refine dk0 0 (v := pt N3 0) h99 rfl rfl ⟨hB114, hk116⟩ fun a117 h117 => ?_; clear h99
        refine dk 1 (v := .int .i64 ep) h117 rfl rfl ⟨hB114, hk116⟩ (fun x hx => (rn_load1 rfl rfl Try.isAgg3 (hx.2.cell rfl))) fun a118 h118 => ?_; clear h117
        refine dk 2 (v := .int .i64 (ep + 1)) h118 rfl rfl ⟨hB114, hk116⟩ (fun x hx => (rn_arith rfl rfl rfl rfl rfl rfl (IntWalk.i64_in _ (by omega)))) fun a119 h119 => ?_; clear h118
        refine dk0 3 (v := u40) h119 rfl rfl ⟨hB114, hk116⟩ fun a120 h120 => ?_; clear h119
        refine dk0 4 (v := pt N3 2) h120 rfl rfl ⟨hB114, hk116⟩ fun a121 h121 => ?_; clear h120
        refine dk 5 (v := .int .u64 fl) h121 rfl rfl ⟨hB114, hk116⟩ (fun x hx => (rn_load1 rfl rfl Try.isAgg23 (hx.2.cell rfl))) fun a122 h122 => ?_; clear h121
        refine dk0 6 (v := .int .u64 last) h122 rfl rfl ⟨hB114, hk116⟩ fun a123 h123 => ?_; clear h122
        refine dk0 9 (v := u1) h123 rfl rfl ⟨hB114, hk116⟩ fun a124 h124 => ?_; clear h123
        refine d1 7 h124 rfl rfl (op_call (args := #[.int .u64 fl, .int .u64 last]) (R := fun res xw => res = .int .u64 (floorP fl last) ∧ Below w105.heap.size w105 xw) rfl rfl rfl (by kernel_rfl) (by kernel_rfl) (Try.call40 _ _) (floor_any fl last w105 (by first | omega | (simp; done) | (simp; omega)) (by first | omega | (simp; done) | (simp; omega))) (by rintro e x ⟨rfl, hb127⟩; exact ⟨_, rfl, ⟨rfl, hb127⟩⟩)) ?_ ?_; clear h124
        ·
         rintro _ w126 ⟨rfl, hb127⟩
         have hz128 := hb127.size
         have hB129 := hb_call hB114 hb127
         have hk130 := hk116.below hb127
         exact ⟨hB129, hk130⟩
        rintro _ w126 a125 ⟨rfl, hb127⟩ h125
        have hz128 := hb127.size
        have hB129 := hb_call hB114 hb127
        have hk130 := hk116.below hb127
        have hr131 := row_kept_row hf87 hf88 hg102 (by decide)
        have hr132 := row_kept_new hr131 hg106
        have hr133 := row_kept_new hr132 (below_grown hb127)
        refine dk 8 (v := .agg #[.int .i64 (ep + 1), u40, .int .u64 (floorP fl last)]) h125 rfl rfl ⟨hB129, hk130⟩ (fun x hx => (by obtain ⟨_, _, _, hq⟩ := row_form hr133; subst hq; kernel_rfl)) fun a134 h134 => ?_; clear h125
        have hk140 := hk91.kept hg102 (own_neT hf88 hk91 (by decide))
        have hk141 := hk140.kept hg106 (by simp)
        have hk142 := hk141.below hb127
        refine d1D 10 h134 rfl rfl (op_storeN rfl rfl rfl (all_cons rfl (all_cons (row_one hr133) (all_cons rfl all_nil))) (by kernel_rfl) hk142 rfl) ?_ ?_; clear h134
        ·
         rintro _ w136 ⟨hk137, hz138, hg139⟩
         have hk137' : Blk w136 N11 42 #[.int .i64 (ep + 1), u40, .int .u64 (floorP fl last)] := hk137; clear hk137
         have hz143 := hg139.size
         have hB144 := hb_at hB129 hg139 (by omega)
         have hk145 := hk130.kept hg139 (by simp; omega)
         exact ⟨hB144, hk145⟩
        rintro _ w136 a135 ⟨hk137, hz138, hg139⟩ h135
        have hk137' : Blk w136 N11 42 #[.int .i64 (ep + 1), u40, .int .u64 (floorP fl last)] := hk137; clear hk137
        have hz143 := hg139.size
        have hB144 := hb_at hB129 hg139 (by omega)
        have hk145 := hk130.kept hg139 (by simp; omega)
        refine dk0 11 (v := u1) h135 rfl rfl ⟨hB144, hk145⟩ fun a146 h146 => ?_; clear h135
        refine dk0 12 (v := .int .i64 0) h146 rfl rfl ⟨hB144, hk145⟩ fun a147 h147 => ?_; clear h146
        refine dr_done (by kernel_rfl) ?_
        refine co_then ?_
        refine wp_ret ?_
        refine co_retC2 (Q := fun _ _ _ => True) h147 rfl rfl rfl rfl hk137' Try.underlying42 rfl (by kernel_rfl) ?_
        have hr148 := row_kept_at hr133 hg139 (own_neT hr133 hk142 (by decide))
        have hr149 := row_kept_new hr101 hg106
        have hr150 := row_kept_new hr149 (below_grown hb127)
        have hr151 := row_kept_at hr150 hg139 (own_neT hr150 hk142 (by decide))
        have hE : 0 = nextE ep ms lg gn js := nextE_0 (by omega) (by omega) ((by assumption)) (by omega)
        have hX := next_ok (fl := fl) (last := last) hE
        exact ⟨_, _, by rw [hX.2.1, hX.2.2.1, ← hE], (row_eq (row_lows hr148 (by omega)) (hX.1.symm)), (row_eq (row_lows hr151 (by omega)) ((ids_eq (ep := ep) (i := i) (by omega) (by omega)).trans hX.2.2.2.symm)), hB144⟩
       ·
        rw [hc96] at h95
        have hp152 : ((i : Nat) : Int) < ((((planL ms lg gn js).take ((keepL ms lg gn).length)).length : Nat) : Int) := of_decide_eq_true hc96
        clear hc96
        refine co_true h95 rfl ?_
        refine wp_skip ?_
        refine co_then ?_
        refine co_seq ?_
        refine wp_block ?_
        refine co_seq ?_
        refine co_reg ?_
        obtain ⟨y153, hy153⟩ : ∃ z, ((planL ms lg gn js).take ((keepL ms lg gn).length))[i]? = some z := ⟨_, List.getElem?_eq_getElem (by first | omega | (simp; done) | (simp; omega))⟩
        refine pk (v := pt (blkOf (subV u40 0 ((keepL ms lg gn).length) 2)) (offOf (subV u40 0 ((keepL ms lg gn).length) 2) + i * 2)) h95 rfl (rn_index rfl rfl rfl Try.underlying40 Try.sizeOf80 (sl_take (row_sl hf87 memE_len) _ (by omega)) (by omega) (by first | omega | (simp; done) | (simp; omega))) fun a154 h154 => ?_; clear h95
        refine pk (v := .agg #[.int .i64 y153.1, .int .i64 y153.2]) h154 rfl (rn_loadN rfl rfl Try.underlying80 rfl (by kernel_rfl) (sl_at (sl_take (row_sl hf87 memE_len) _ (by omega)) hy153)) fun a155 h155 => ?_; clear h154
        refine pw h155 rfl (op_new (v := fun N => pt N 0) (T := 80) (cs := #[.int .i64 0, .int .i64 0]) (by kernel_rfl) (by kernel_rfl) (by kernel_rfl)) ?_; clear h155
        rintro _ w157 a156 ⟨N158, rfl, hN161, hz162, hk160, hg159⟩ h156
        have ha163 := row_fresh hf87 hN161
        have ha164 := row_fresh hf88 hN161
        have hz165 := hg159.size
        try dsimp only at h156
        refine pwD h156 rfl (op_storeN rfl rfl rfl (by kernel_rfl) (by kernel_rfl) hk160 rfl) ?_; clear h156
        rintro _ w167 a166 ⟨hk168, hz169, hg170⟩ h166
        have hk168' : Blk w167 N158 80 #[.int .i64 y153.1, .int .i64 y153.2] := hk168; clear hk168
        have hz171 := hg170.size
        refine pl_nil ?_
        refine co_then ?_
        refine co_reg ?_
        refine pk0 (v := u1) h166 rfl fun a172 h172 => ?_; clear h166
        refine pk0 (v := pt N158 0) h172 rfl fun a173 h173 => ?_; clear h172
        refine pk (v := .int .i64 y153.1) h173 rfl (rn_load1 rfl rfl Try.isAgg3 (hk168'.cell rfl)) fun a174 h174 => ?_; clear h173
        refine pw h174 rfl (op_new (v := fun N => .slice (some ⟨N, 0, none⟩) 1 1) (T := 3) (cs := #[.int .i64 y153.1]) (by kernel_rfl) (by kernel_rfl) (by kernel_rfl)) ?_; clear h174
        rintro _ w176 a175 ⟨N177, rfl, hN180, hz181, hk179, hg178⟩ h175
        have hr183 := row_kept_new hf87 hg159
        have hr184 := row_kept_at hr183 hg170 (ha163)
        have ha182 := row_fresh hr184 hN180
        have hr186 := row_kept_new hf88 hg159
        have hr187 := row_kept_at hr186 hg170 (ha164)
        have ha185 := row_fresh hr187 hN180
        have hz188 := hg178.size
        try dsimp only at h175
        have hr195 := row_kept_new hr187 hg178
        refine pw h175 rfl (op_append rfl (N11 + 1) 3 (z := .int .i64 0) (size := 1) (bytes := 8) Try.underlying43 (by kernel_rfl) rfl rfl rfl hr195 rfl hk179 rfl (by kernel_rfl) (by first | omega | (simp only [List.length_nil, List.length_append, List.length_cons, List.length_take, List.length_drop]; omega)) (by first | omega | (simp only [List.length_nil, List.length_append, List.length_cons, List.length_take, List.length_drop]; omega)) (by omega)) ?_; clear h175
        rintro v191 w190 a189 ⟨hr192, hg193⟩ h189
        have hr192' : w190.ownsRow (N11 + 1) 3 1 v191 (((((planL ms lg gn js).take (keepL ms lg gn).length).take i).map (fun o => o.1) ++ [y153.1]).length) (((((planL ms lg gn js).take (keepL ms lg gn).length).take i).map (fun o => o.1) ++ [y153.1]).flatMap (intE .i64)) := row_push (y := y153.1) hr192 rfl rfl; clear hr192
        have hz196 := hg193.size
        have hk197 := hk90.kept hg159 (by simp)
        have hk198 := hk197.kept hg170 (by simp; omega)
        have hk199 := hk198.kept hg178 (by simp)
        have hk200 := hk91.kept hg159 (by simp)
        have hk201 := hk200.kept hg170 (by simp; omega)
        have hk202 := hk201.kept hg178 (by simp)
        refine pk0 (v := v191) h189 rfl fun a203 h203 => ?_; clear h189
        refine pl_nil ?_
        refine co_blockN ?_
        refine co_then ?_
        refine co_reg ?_
        refine pk (v := .int .i64 ((i + 1 : Nat) : Int)) h203 rfl (rn_arith' rfl rfl rfl rfl rfl rfl (IntWalk.i64_in _ (by omega)) (by omega)) fun a204 h204 => ?_; clear h203
        refine pk0 (v := .int .i64 ((i + 1 : Nat) : Int)) h204 rfl fun a205 h205 => ?_; clear h204
        refine pl_nil ?_
        refine co_then ?_
        refine ⟨(((planL ms lg gn js).take (keepL ms lg gn).length).length - (i + 1)), by omega, ?_⟩
        have hr206 := row_kept_new hr184 hg178
        have hr207 := row_kept_row hr206 hr195 hg193 (by decide)
        have hB208 := hb_new hB89 hg159
        have hB209 := hb_at hB208 hg170 (by omega)
        have hB210 := hb_new hB209 hg178
        have hB211 := hb_row hB210 hr195 (by omega) hg193
        have hk212 := hk199.kept hg193 (own_neT hr195 hk199 (by decide))
        have hk213 := hk202.kept hg193 (own_neT hr195 hk202 (by decide))
        exact ⟨i + 1, v191, h205.sub ⟨rfl, rfl, rfl, rfl, rfl, rfl, rfl, rfl, rfl, trivial⟩, rfl, by omega, hr207, (row_eq hr192' (by first | rfl | exact id_at (by assumption))), hB211, hk212, hk213⟩
    ·
     rw [hc72] at h71
     have hp214 : ep = 1073741824 := by first | simpa using hc72 | simpa [and_assoc] using hc72
     clear hc72
     refine co_true h71 rfl ?_
     refine co_seq ?_
     refine co_reg ?_
     refine pk0 (v := .agg #[.int .i64 0, .slice none 0 0, .int .u64 0]) h71 rfl fun a215 h215 => ?_; clear h71
     have hk221 := hk55.below hb63
     refine pwD h215 rfl (op_storeN rfl rfl rfl (all_cons rfl (all_cons rfl (all_cons rfl all_nil))) (by kernel_rfl) hk221 rfl) ?_; clear h215
     rintro _ w217 a216 ⟨hk218, hz219, hg220⟩ h216
     have hk218' : Blk w217 N11 42 #[.int .i64 0, .slice none 0 0, .int .u64 0] := hk218; clear hk218
     have hz222 := hg220.size
     refine pk0 (v := .slice none 0 0) h216 rfl fun a223 h223 => ?_; clear h216
     refine pk0 (v := .int .i64 5) h223 rfl fun a224 h224 => ?_; clear h223
     refine pl_nil ?_
     refine co_then ?_
     refine wp_ret ?_
     refine co_thenR ?_
     refine co_retC2 (Q := fun _ _ _ => True) h224 rfl rfl rfl rfl hk218' Try.underlying42 rfl (by kernel_rfl) ?_
     have hB225 := hb_at hB66 hg220 (by omega)
     have hE : 5 = nextE ep ms lg gn js := nextE_4 (by omega) (by omega) (by assumption) (by omega)
     have hX := next_err (fl := fl) (last := last) (show ¬ nextE ep ms lg gn js = 0 by rw [← hE]; omega)
     exact ⟨.slice none 0 0, .slice none 0 0, by rw [hX.2.1, hX.2.2.1, ← hE], by rw [hX.1]; exact row_nilL _ _ _ _ _, by rw [hX.2.2.2]; exact row_nilL _ _ _ _ _, hB225⟩
   ·
    rw [hc65] at h61
    have hp226 : (planL ms lg gn js) = ms := of_decide_eq_true hc65
    clear hc65
    refine co_true h61 rfl ?_
    refine co_seq ?_
    refine co_reg ?_
    refine pk0 (v := .agg #[.int .i64 0, .slice none 0 0, .int .u64 0]) h61 rfl fun a227 h227 => ?_; clear h61
    have hk233 := hk55.below hb63
    refine pwD h227 rfl (op_storeN rfl rfl rfl (all_cons rfl (all_cons rfl (all_cons rfl all_nil))) (by kernel_rfl) hk233 rfl) ?_; clear h227
    rintro _ w229 a228 ⟨hk230, hz231, hg232⟩ h228
    have hk230' : Blk w229 N11 42 #[.int .i64 0, .slice none 0 0, .int .u64 0] := hk230; clear hk230
    have hz234 := hg232.size
    refine pk0 (v := .slice none 0 0) h228 rfl fun a235 h235 => ?_; clear h228
    refine pk0 (v := .int .i64 20) h235 rfl fun a236 h236 => ?_; clear h235
    refine pl_nil ?_
    refine co_then ?_
    refine wp_ret ?_
    refine co_thenR ?_
    refine co_retC2 (Q := fun _ _ _ => True) h236 rfl rfl rfl rfl hk230' Try.underlying42 rfl (by kernel_rfl) ?_
    have hB237 := hb_at hB66 hg232 (by omega)
    have hE : 20 = nextE ep ms lg gn js := nextE_3 (by omega) (by omega) (by assumption)
    have hX := next_err (fl := fl) (last := last) (show ¬ nextE ep ms lg gn js = 0 by rw [← hE]; omega)
    exact ⟨.slice none 0 0, .slice none 0 0, by rw [hX.2.1, hX.2.2.1, ← hE], by rw [hX.1]; exact row_nilL _ _ _ _ _, by rw [hX.2.2.2]; exact row_nilL _ _ _ _ _, hB237⟩
  ·
   rw [hc52] at h51
   have hp238 : (((keepL ms lg gn).length : Nat) : Int) = 0 := by first | simpa using hc52 | simpa [and_assoc] using hc52
   clear hc52
   refine co_true h51 rfl ?_
   refine co_seq ?_
   refine co_reg ?_
   refine pk0 (v := .agg #[.int .i64 0, .slice none 0 0, .int .u64 0]) h51 rfl fun a239 h239 => ?_; clear h51
   refine pwD h239 rfl (op_storeN rfl rfl rfl (all_cons rfl (all_cons rfl (all_cons rfl all_nil))) (by kernel_rfl) hk55 rfl) ?_; clear h239
   rintro _ w241 a240 ⟨hk242, hz243, hg244⟩ h240
   have hk242' : Blk w241 N11 42 #[.int .i64 0, .slice none 0 0, .int .u64 0] := hk242; clear hk242
   have hz245 := hg244.size
   refine pk0 (v := .slice none 0 0) h240 rfl fun a246 h246 => ?_; clear h240
   refine pk0 (v := .int .i64 7) h246 rfl fun a247 h247 => ?_; clear h246
   refine pl_nil ?_
   refine co_then ?_
   refine wp_ret ?_
   refine co_thenR ?_
   refine co_retC2 (Q := fun _ _ _ => True) h247 rfl rfl rfl rfl hk242' Try.underlying42 rfl (by kernel_rfl) ?_
   have hB248 := hb_at hB53 hg244 (by omega)
   have hE : 7 = nextE ep ms lg gn js := nextE_2 (by omega) (by omega)
   have hX := next_err (fl := fl) (last := last) (show ¬ nextE ep ms lg gn js = 0 by rw [← hE]; omega)
   exact ⟨.slice none 0 0, .slice none 0 0, by rw [hX.2.1, hX.2.2.1, ← hE], by rw [hX.1]; exact row_nilL _ _ _ _ _, by rw [hX.2.2.2]; exact row_nilL _ _ _ _ _, hB248⟩
 ·
  rw [hc30] at h29
  have hp249 : chkC ep ms ≠ 0 := by first | simpa using hc30 | simpa [and_assoc] using hc30
  clear hc30
  refine co_true h29 rfl ?_
  refine co_seq ?_
  refine co_reg ?_
  refine pk0 (v := .agg #[.int .i64 0, .slice none 0 0, .int .u64 0]) h29 rfl fun a250 h250 => ?_; clear h29
  refine pk0 (v := .int .i64 (chkC ep ms)) h250 rfl fun a251 h251 => ?_; clear h250
  have hk257 := hk13.below hb25
  refine pwD h251 rfl (op_storeN rfl rfl rfl (all_cons rfl (all_cons rfl (all_cons rfl all_nil))) (by kernel_rfl) hk257 rfl) ?_; clear h251
  rintro _ w253 a252 ⟨hk254, hz255, hg256⟩ h252
  have hk254' : Blk w253 N11 42 #[.int .i64 0, .slice none 0 0, .int .u64 0] := hk254; clear hk254
  have hz258 := hg256.size
  refine pk0 (v := .slice none 0 0) h252 rfl fun a259 h259 => ?_; clear h252
  refine pk0 (v := .int .i64 (chkC ep ms)) h259 rfl fun a260 h260 => ?_; clear h259
  refine pl_nil ?_
  refine co_then ?_
  refine wp_ret ?_
  refine co_thenR ?_
  refine co_retC2 (Q := fun _ _ _ => True) h260 rfl rfl rfl rfl hk254' Try.underlying42 rfl (by kernel_rfl) ?_
  have hB261 := hb_at hB31 hg256 (by omega)
  have hE : chkC ep ms = nextE ep ms lg gn js := nextE_1 (by omega)
  have hX := next_err (fl := fl) (last := last) (show ¬ nextE ep ms lg gn js = 0 by rw [← hE]; omega)
  exact ⟨.slice none 0 0, .slice none 0 0, by rw [hX.2.1, hX.2.2.1, ← hE], by rw [hX.1]; exact row_nilL _ _ _ _ _, by rw [hX.2.2.2]; exact row_nilL _ _ _ _ _, hB261⟩
end Go.Proofs.Ytdgboikkgeioeaa

/- catenalaw27: PlanPlays, PlanAgain. Conditions: none. -/
namespace Go.Proofs.Ytdgboikkgeioeaa
open Go.RowKit Go.PlainAid
set_option linter.unusedVariables false
set_option linter.unusedSimpArgs false


theorem selAB {lg gn : List Int} {m : MemT} (h : selA lg gn m = true) : inL lg m.1 = true ∧ inL gn m.1 = false := by
  unfold selA at h; simp only [Bool.and_eq_true, Bool.not_eq_true'] at h; exact ⟨h.2, h.1⟩
theorem selBB {lg gn : List Int} {m : MemT} (h : selB lg gn m = true) : inL lg m.1 = false ∧ inL gn m.1 = false := by
  unfold selB at h; simp only [Bool.and_eq_true, Bool.not_eq_true'] at h; exact ⟨h.2, h.1⟩
theorem stay_nodup {ms : List MemT} {lg gn : List Int} (h : (ms.map (·.1)).Nodup) : ((stayL ms lg gn).map (·.1)).Nodup := by
  unfold stayL
  rw [List.map_append, List.nodup_append]
  refine ⟨(List.filter_sublist.map _).nodup h, (List.filter_sublist.map _).nodup h, fun a ha b hb e => ?_⟩
  obtain ⟨x, hx, rfl⟩ := List.mem_map.1 ha
  obtain ⟨y, hy, rfl⟩ := List.mem_map.1 hb
  have h1 := (selAB (List.mem_filter.1 hx).2).1
  have h2 := (selBB (List.mem_filter.1 hy).2).1
  rw [e, h2] at h1; cases h1
theorem plan_nodup {ep : Int} {ms : List MemT} {lg gn : List Int} {js : List MemT} (h : chkC ep ms = 0) : ((planL ms lg gn js).map (·.1)).Nodup := join_nodup (stay_nodup (chkC_iff.1 h).2.2.2)
theorem plan_good {ep : Int} {ms : List MemT} {lg gn : List Int} {js : List MemT} (h : chkC ep ms = 0) : ∀ m ∈ planL ms lg gn js, ¬ badId m ∧ ¬ badSer m := by
  intro m hm
  rcases mem_plan hm with (k | k) | k
  · exact (chkC_iff.1 h).2.2.1 m (List.mem_filter.1 k).1
  · exact (chkC_iff.1 h).2.2.1 m (List.mem_filter.1 k).1
  · exact may_iff.1 k.2
section
variable {ep : Int} {ms : List MemT} {fl : Int} {lg gn : List Int} {js : List MemT} {last : Int}
theorem chk_plan (h : nextE ep ms lg gn js = 0) : chkC (ep + 1) (planL ms lg gn js) = 0 := by
  obtain ⟨h1, h2, _, h4⟩ := nextE_of0 h
  have hc := chkC_iff.1 h1
  have hg := plan_ge ms lg gn js
  have hl := plan_le4 (lg := lg) (gn := gn) (js := js) hc.2.1.2
  exact chkC_iff.2 ⟨by omega, ⟨by omega, hl⟩, plan_good h1, plan_nodup h1⟩
theorem head_chk (h : nextE ep ms lg gn js = 0) : chkC (nextEp ep ms lg gn js) (nextM ep ms lg gn js) = 0 := by
  obtain ⟨h1, h2, _⟩ := next_ok (fl := 0) (last := 0) h.symm
  rw [h1, h2]; exact chk_plan h
theorem nextM_ok (h : ∀ z ∈ ms, memOk z) (h2 : ∀ z ∈ js, memOk z) : ∀ z ∈ nextM ep ms lg gn js, memOk z := by
  unfold nextM
  split
  · exact plan_ok h h2
  · intro z hz; cases hz
theorem nextEp_bd : 0 ≤ nextEp ep ms lg gn js ∧ nextEp ep ms lg gn js ≤ 1073741824 := by
  unfold nextEp
  split
  · rename_i h
    have := (chkC_iff.1 (chk_plan h)).1
    omega
  · omega
theorem nextFl_bd (hf : 0 ≤ fl ∧ fl < 18446744073709551616) (hl : 0 ≤ last ∧ last < 18446744073709551616) : 0 ≤ nextFl ep ms fl lg gn js last ∧ nextFl ep ms fl lg gn js last < 18446744073709551616 := by
  unfold nextFl
  split
  · exact (floorP_bd hf hl).1
  · omega
theorem next_ep (h : nextE ep ms lg gn js = 0) : nextEp ep ms lg gn js = ep + 1 := (next_ok (fl := 0) (last := 0) h.symm).2.1
theorem next_fl (h : nextE ep ms lg gn js = 0) (hf : 0 ≤ fl ∧ fl < 18446744073709551616) (hl : 0 ≤ last ∧ last < 18446744073709551616) : ¬ nextFl ep ms fl lg gn js last < fl := by
  have := (next_ok (fl := fl) (last := last) h.symm).2.2.1
  have h2 := (floorP_bd hf hl).2
  omega
def headI (l : List MemT) : Int := match l with | [] => -1 | m :: _ => m.1
theorem headI_0 {l : List MemT} (h : (0 : Int) ≥ (l.length : Nat)) : -1 = headI l := by
  obtain rfl : l = [] := List.eq_nil_of_length_eq_zero (by omega)
  rfl
theorem headI_y {l : List MemT} {y : MemT} (h : l[0]? = some y) : y.1 = headI l := by
  cases l with
  | nil => simp at h
  | cons m r => simp at h; subst h; rfl
theorem trust_in (h : chkC ep ms = 0) {x : Int} : inL (trustL (keepL ms lg gn)) x = true ↔ ∃ m ∈ keepL ms lg gn, m.1 = x := inL_mem.trans (trust_mem (keep_good h))
theorem head_in (h : nextE ep ms lg gn js = 0) : inL (nextT ep ms lg gn js) (headI (nextM ep ms lg gn js)) = true := by
  obtain ⟨h1, h2, _⟩ := nextE_of0 h
  obtain ⟨e1, _, _, e2⟩ := next_ok (fl := 0) (last := 0) h.symm
  rw [e1, e2, trust_in h1]
  obtain ⟨r, hr⟩ := plan_pre ms lg gn js
  cases hk : keepL ms lg gn with
  | nil => rw [hk] at h2; simp at h2
  | cons m q => exact ⟨m, by simp, by rw [hr, hk]; rfl⟩
def plB (ms : List MemT) (m : MemT) : Bool := ms.any fun o => o == m
theorem plB_mem {m : MemT} : plB ms m = true ↔ m ∈ ms := by
  unfold plB; rw [List.any_eq_true]
  exact ⟨fun ⟨x, hx, e⟩ => by have := eq_of_beq e; subst this; exact hx, fun h => ⟨m, h, by simp⟩⟩
theorem plan_uniq (h : chkC ep ms = 0) {a b : MemT} (ha : a ∈ planL ms lg gn js) (hb : b ∈ planL ms lg gn js) (e : a.1 = b.1) : a = b := by
  have hn := plan_nodup (lg := lg) (gn := gn) (js := js) h
  obtain ⟨i, hi, rfl⟩ := List.getElem_of_mem ha
  obtain ⟨j, hj, rfl⟩ := List.getElem_of_mem hb
  have hP := List.pairwise_iff_getElem.1 hn
  have : i = j := by
    rcases Nat.lt_trichotomy i j with q | q | q
    · exact absurd (by rw [List.getElem_map, List.getElem_map]; exact e) (hP i j (by simpa using hi) (by simpa using hj) q)
    · exact q
    · exact absurd (by rw [List.getElem_map, List.getElem_map]; exact e.symm) (hP j i (by simpa using hj) (by simpa using hi) q)
  subst this; rfl
theorem keep_sub {m : MemT} (hm : m ∈ keepL ms lg gn) : m ∈ planL ms lg gn js := by
  obtain ⟨r, hr⟩ := plan_pre ms lg gn js; rw [hr]; exact List.mem_append_left _ hm
theorem head_mem (h : nextE ep ms lg gn js = 0) {i : Nat} {y : MemT} (hy : (nextM ep ms lg gn js)[i]? = some y) : (inL (nextT ep ms lg gn js) y.1 = true → plB ms y = true ∧ inL lg y.1 = true ∧ inL gn y.1 = false) ∧ (js.any (fun o => o == y) = false → plB ms y = true ∧ inL gn y.1 = false) := by
  obtain ⟨h1, h2, _⟩ := nextE_of0 h
  obtain ⟨e1, _, _, e2⟩ := next_ok (fl := 0) (last := 0) h.symm
  have hm := List.mem_of_getElem? hy
  rw [e1] at hm
  rw [e2]
  constructor
  · intro ht
    obtain ⟨m, hk, e⟩ := (trust_in h1).1 ht
    have := plan_uniq (js := js) h1 (keep_sub hk) hm e
    subst this
    have hf := List.mem_filter.1 hk
    exact ⟨plB_mem.2 hf.1, (selAB hf.2).1, (selAB hf.2).2⟩
  · intro hj
    rcases mem_plan hm with (k | k) | k
    · have hf := List.mem_filter.1 k; exact ⟨plB_mem.2 hf.1, (selAB hf.2).2⟩
    · have hf := List.mem_filter.1 k; exact ⟨plB_mem.2 hf.1, (selBB hf.2).2⟩
    · have : js.any (fun o => o == y) = true := List.any_eq_true.2 ⟨y, k.1, by simp⟩
      rw [this] at hj; cases hj
end
theorem pl_at {l : List MemT} {i : Nat} {m y : MemT} (h : l[i]? = some y) (e : (y == m) = true) : true = plB l m := by
  have := eq_of_beq e; subst this; exact (plB_mem.2 (List.mem_of_getElem? h)).symm
theorem pl_end {l : List MemT} {i : Nat} {m : MemT} (hb : ∀ j, j < i → ∀ z, l[j]? = some z → (z == m) = false) (hi : l.length ≤ i) : false = plB l m := by
  symm; rw [Bool.eq_false_iff]; intro h
  obtain ⟨j, hj, e⟩ := List.getElem_of_mem (plB_mem.1 h)
  have := hb j (by omega) _ (List.getElem?_eq_getElem hj)
  rw [e] at this; simp at this
theorem pl_next {l : List MemT} {i : Nat} {m y : MemT} (hb : ∀ j, j < i → ∀ z, l[j]? = some z → (z == m) = false) (h : l[i]? = some y) (e : (y == m) = false) : ∀ j, j < i + 1 → ∀ z, l[j]? = some z → (z == m) = false := by
  intro j hj z hz
  by_cases q : j = i
  · subst q; rw [h] at hz; cases hz; exact e
  · exact hb j (by omega) z hz
end Go.Proofs.Ytdgboikkgeioeaa
