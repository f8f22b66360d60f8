/- Put together: ScrBSp, ScrCSp. Conditions: as each says. -/
import Derived.Test.YtdgboikkgeioeaaSq2
import Derived.LoopN
/- Package script and the document's own: a step's bytes. Conditions: at most 100 operations, texts of at most 1048576 bytes. -/
namespace Go.Proofs.Ytdgboikkgeioeaa
open Go.RowKit Go.PlainAid
set_option linter.unusedVariables false
set_option linter.unusedSimpArgs false


theorem co_unroll {P : Program} {c : Code} {Q : Exit → Act → World → Prop} {n : Nat} {a : Act} {w : World} (h : c.wp P (Exit.then (Code.rounds P c Q n) Q) a w) : Code.rounds P c Q (n + 1) a w := h
theorem rng_i {e : EvD} (h : rngE e) (hk : e.k = 0) : ((0 ≤ e.k ∧ e.k ≤ 1073741824) ∧ (0 ≤ e.nd ∧ e.nd ≤ 1073741824) ∧ (0 ≤ e.n ∧ e.n ≤ 1073741824)) ∧ (0 ≤ e.ak ∧ e.ak ≤ 1073741824) ∧ (0 ≤ e.an ∧ e.an ≤ 1073741824) ∧ (0 ≤ e.am ∧ e.am ≤ 1073741824) := ⟨h.1, h.2 hk⟩
theorem rng_i2 {e : EvD} (h : rngE e) (hk : ¬ e.k = 0) : (0 ≤ e.k ∧ e.k ≤ 1073741824) ∧ (0 ≤ e.nd ∧ e.nd ≤ 1073741824) ∧ (0 ≤ e.n ∧ e.n ≤ 1073741824) := h.1
theorem rng_o {e : EvD} (h : ¬ rngE e) (hk : e.k = 0) : ¬ (0 ≤ e.k ∧ e.k ≤ 1073741824) ∨ ¬ (0 ≤ e.nd ∧ e.nd ≤ 1073741824) ∨ ¬ (0 ≤ e.n ∧ e.n ≤ 1073741824) ∨ ¬ (0 ≤ e.ak ∧ e.ak ≤ 1073741824) ∨ ¬ (0 ≤ e.an ∧ e.an ≤ 1073741824) ∨ ¬ (0 ≤ e.am ∧ e.am ≤ 1073741824) := by
  apply Classical.byContradiction; intro q; exact h (rng_y ⟨by omega, .inr (by omega)⟩)
theorem rng_o2 {e : EvD} (h : ¬ rngE e) (hk : ¬ e.k = 0) : ¬ (0 ≤ e.k ∧ e.k ≤ 1073741824) ∨ ¬ (0 ≤ e.nd ∧ e.nd ≤ 1073741824) ∨ ¬ (0 ≤ e.n ∧ e.n ≤ 1073741824) := by
  apply Classical.byContradiction; intro q; exact h (rng_y ⟨by omega, .inl hk⟩)
theorem evB_y {e : EvD} (h : e.k = 0) : evB e = hedB e ++ askB e := if_pos h
theorem evB_n {e : EvD} (h : ¬ e.k = 0) : evB e = hedB e := if_neg h
theorem evS_size {e : EvD} {s : ByteArray} (h : s = ⟨(evB e).toArray⟩) : s.size = (evB e).length := by rw [h]; show (evB e).toArray.size = _; simp

set_option maxRecDepth 100000 in
theorem cloneOpS (v : Value) (l : List OpT) (w : World) (hs : SliceOf opE 3 w v l) (hlen : l.length ≤ 100) :
    Calls Try.prog 89 #[v] w fun e w' => ∃ (u : Value), e = .returned (u) ∧ w'.ownsRow w.heap.size 66 3 u l.length (l.flatMap opE) ∧ Below w.heap.size w w' := by
 have hB0 := Below.refl w.heap.size w
 have hl_hs := sl_len hs
 have hs' := hs; obtain ⟨ao, cap, hv, _, _, h3, _⟩ := hs'; subst hv; rcases ao with _ | ad
 · obtain ⟨hl0, hc0⟩ := h3 rfl; obtain rfl : l = [] := List.eq_nil_of_length_eq_zero hl0; subst hc0
   refine co_enter (n := 8) Try.func89 rfl rfl rfl [(0, .slice none 0 0)] rfl (fun a h0 => ?_)
   refine co_seq ?_
   refine co_reg ?_
   refine pk0 (v := .slice none 0 0) h0 rfl fun a1 h1 => ?_; clear h0
   refine pl_nil ?_
   refine co_then ?_
   refine co_seq ?_
   refine co_seq ?_
   refine co_reg ?_
   refine pk0 (v := .slice none 0 0) h1 rfl fun a2 h2 => ?_; clear h1
   refine pk0 (v := .bool true) h2 rfl fun a3 h3 => ?_; clear h2
   refine pl_nil ?_
   refine co_then ?_
   refine co_true h3 rfl ?_
   refine co_seq ?_
   refine co_reg ?_
   refine pk0 (v := .slice none 0 0) h3 rfl fun a4 h4 => ?_; clear h3
   refine pl_nil ?_
   refine co_then ?_
   refine wp_ret ?_
   refine co_thenR ?_
   refine co_ret1 h4 rfl rfl ?_
   exact ⟨_, rfl, (row_nilL _ _ _ _ _), hB0⟩
 · skip
   refine co_enter (n := 8) Try.func89 rfl rfl rfl [(0, .slice (some ad) l.length cap)] rfl (fun a h0 => ?_)
   refine co_seq ?_
   refine co_reg ?_
   refine pk0 (v := .slice none 0 0) h0 rfl fun a5 h5 => ?_; clear h0
   refine pl_nil ?_
   refine co_then ?_
   refine co_seq ?_
   refine co_seq ?_
   refine co_reg ?_
   refine pk0 (v := .slice (some ad) l.length cap) h5 rfl fun a6 h6 => ?_; clear h5
   refine pk0 (v := .bool false) h6 rfl fun a7 h7 => ?_; clear h6
   refine pl_nil ?_
   refine co_then ?_
   refine co_false h7 rfl ?_
   refine wp_skip ?_
   refine co_then ?_
   refine co_seq ?_
   refine co_reg ?_
   refine pw h7 rfl (op_new (v := fun N => .slice (some ⟨N, 0, none⟩) 0 0) (T := 66) (cs := #[]) (by kernel_rfl) (by kernel_rfl) (by kernel_rfl)) ?_; clear h7
   rintro _ w9 a8 ⟨N10, rfl, hN13, hz14, hk12, hg11⟩ h8
   have hz15 := hg11.size
   try dsimp only at h8
   refine pk0 (v := .slice (some ad) l.length cap) h8 rfl fun a16 h16 => ?_; clear h8
   have hr19 := row_of_blkL hk12 (Nat.le_refl _) 3 opE
   have hB24 := hb_new hB0 hg11
   refine pw h16 rfl (op_appendSrc rfl N10 66 (z := .agg #[.string (⟨#[]⟩), .string (⟨#[]⟩), .bool false]) (size := 3) (bytes := 40) Try.underlying24 (by kernel_rfl) rfl rfl rfl hr19 rfl (hs.below hB24) (fun y hy => ⟨opE_len y, opE_one y⟩) (by first | omega | (simp only [List.length_nil, List.length_append, List.length_cons, List.length_take, List.length_drop]; omega)) (by first | omega | (simp only [List.length_nil, List.length_append, List.length_cons, List.length_take, List.length_drop]; omega)) (by omega)) ?_; clear h16
   rintro v20 w18 a17 ⟨hr21, hg22⟩ h17
   have hr21' : w18.ownsRow N10 66 3 v20 l.length (l.flatMap opE) := row_app (l := []) hr21; clear hr21
   have hz25 := hg22.size
   refine pk0 (v := v20) h17 rfl fun a26 h26 => ?_; clear h17
   refine pl_nil ?_
   refine co_then ?_
   refine wp_ret ?_
   refine co_ret1 h26 rfl rfl ?_
   have hB27 := hb_row hB24 hr19 (by omega) hg22
   exact ⟨_, rfl, (row_lows hr21' (by omega)), hB27⟩
set_option maxRecDepth 100000 in
theorem freshAsk_any (d : EvD) (ov : Value) (w : World) (hs : SliceOf opE 3 w ov d.ops) (hlen : d.ops.length ≤ 100) :
    Calls Try.prog 46 #[.agg #[.int .i64 d.ak, .int .i64 d.an, .string d.ky, .string d.tt, .int .u64 d.at_, .int .i64 d.am, ov]] w fun e w' => ∃ (u : Value), e = .returned (.agg #[.int .i64 d.ak, .int .i64 d.an, .string d.ky, .string d.tt, .int .u64 d.at_, .int .i64 d.am, u]) ∧ w'.ownsRow w.heap.size 66 3 u d.ops.length (d.ops.flatMap opE) ∧ Below w.heap.size w w' := by
 have hB0 := Below.refl w.heap.size w
 have hl_hs := sl_len hs
 refine co_enter (n := 8) Try.func46 rfl rfl rfl [(0, .agg #[.int .i64 d.ak, .int .i64 d.an, .string d.ky, .string d.tt, .int .u64 d.at_, .int .i64 d.am, ov])] rfl (fun a h0 => ?_)
 refine co_seq ?_
 refine co_reg ?_
 refine pw h0 rfl (op_new (v := fun N => pt N 0) (T := 35) (cs := #[.int .i64 d.ak, .int .i64 d.an, .string d.ky, .string d.tt, .int .u64 d.at_, .int .i64 d.am, ov]) (by kernel_rfl) (by kernel_rfl) (by kernel_rfl)) ?_; clear h0
 rintro _ w2 a1 ⟨N3, rfl, hN6, hz7, hk5, hg4⟩ h1
 have hz8 := hg4.size
 try dsimp only at h1
 refine pw h1 rfl (op_new (v := fun N => pt N 0) (T := 35) (cs := #[.int .i64 0, .int .i64 0, .string (⟨#[]⟩), .string (⟨#[]⟩), .int .u64 0, .int .i64 0, .slice none 0 0]) (by kernel_rfl) (by kernel_rfl) (by kernel_rfl)) ?_; clear h1
 rintro _ w10 a9 ⟨N11, rfl, hN14, hz15, hk13, hg12⟩ h9
 have hz16 := hg12.size
 try dsimp only at h9
 refine pl_nil ?_
 refine co_then ?_
 refine co_seq ?_
 refine co_reg ?_
 refine pk0 (v := pt N3 6) h9 rfl fun a17 h17 => ?_; clear h9
 have hk18 := hk5.kept hg12 (by simp)
 refine pk (v := ov) h17 rfl (rn_load1 rfl rfl Try.isAgg24 (hk18.cell rfl)) fun a19 h19 => ?_; clear h17
 have hB22 := hb_new hB0 hg4
 have hB23 := hb_new hB22 hg12
 refine pw h19 rfl (op_call (args := #[ov]) (R := fun res xw => ∃ u : Value, res = u ∧ xw.ownsRow w10.heap.size 66 3 u d.ops.length (d.ops.flatMap opE) ∧ Below w10.heap.size w10 xw) rfl rfl rfl (by kernel_rfl) (by kernel_rfl) (Try.call89 _ _) (cloneOpS ov d.ops w10 (hs.below hB23) (by first | omega | (simp; done) | (simp; omega))) (by rintro e x ⟨u, rfl, hq25, hb26⟩; exact ⟨_, rfl, ⟨u, rfl, hq25, hb26⟩⟩)) ?_; clear h19
 rintro u24 w21 a20 ⟨_, rfl, hq25, hb26⟩ h20
 have hz27 := hb26.size
 have hl28 := sl_len (row_sl hq25 opE_len)
 refine pk0 (v := pt N3 6) h20 rfl fun a29 h29 => ?_; clear h20
 have hk35 := hk18.below hb26
 refine pwD h29 rfl (op_store1 rfl rfl rfl (row_one hq25) Try.sizeOf24 hk35 rfl) ?_; clear h29
 rintro _ w31 a30 ⟨hk32, hz33, hg34⟩ h30
 have hk32' : Blk w31 N3 35 #[.int .i64 d.ak, .int .i64 d.an, .string d.ky, .string d.tt, .int .u64 d.at_, .int .i64 d.am, u24] := hk32; clear hk32
 have hz36 := hg34.size
 refine pl_nil ?_
 refine co_then ?_
 refine co_seq ?_
 refine co_reg ?_
 refine pk (v := .agg #[.int .i64 d.ak, .int .i64 d.an, .string d.ky, .string d.tt, .int .u64 d.at_, .int .i64 d.am, u24]) h30 rfl (rn_loadN rfl rfl Try.underlying35 rfl (by kernel_rfl) hk32'.all) fun a37 h37 => ?_; clear h30
 have hr43 := row_kept_at hq25 hg34 (own_neT hq25 hk35 (by decide))
 have hk44 := hk13.below hb26
 have hk45 := hk44.kept hg34 (by simp; omega)
 refine pwD h37 rfl (op_storeN rfl rfl rfl (all_cons rfl (all_cons rfl (all_cons rfl (all_cons rfl (all_cons rfl (all_cons rfl (all_cons (row_one hr43) all_nil))))))) (by kernel_rfl) hk45 rfl) ?_; clear h37
 rintro _ w39 a38 ⟨hk40, hz41, hg42⟩ h38
 have hk40' : Blk w39 N11 35 #[.int .i64 d.ak, .int .i64 d.an, .string d.ky, .string d.tt, .int .u64 d.at_, .int .i64 d.am, u24] := hk40; clear hk40
 have hz46 := hg42.size
 refine pl_nil ?_
 refine co_then ?_
 refine wp_ret ?_
 refine co_retC (Q := fun _ _ _ => True) h38 rfl rfl hk40' Try.underlying35 rfl (by kernel_rfl) ?_
 have hr47 := row_kept_at hr43 hg42 (own_neT hr43 hk45 (by decide))
 have hB48 := hb_call hB23 hb26
 have hB49 := hb_at hB48 hg34 (by omega)
 have hB50 := hb_at hB49 hg42 (by omega)
 exact ⟨_, rfl, (row_lows hr47 (by omega)), hB50⟩
set_option maxRecDepth 100000 in
theorem cloneOpZ  (w : World)  :
    Calls Try.prog 89 #[.slice none 0 0] w fun e w' => ∃ (u : Value), e = .returned (u) ∧ w'.ownsRow w.heap.size 66 3 u ([] : List OpT).length (([] : List OpT).flatMap opE) ∧ Below w.heap.size w w' := by
 have hB0 := Below.refl w.heap.size w
 refine co_enter (n := 8) Try.func89 rfl rfl rfl [(0, .slice none 0 0)] rfl (fun a h0 => ?_)
 refine co_seq ?_
 refine co_reg ?_
 refine pk0 (v := .slice none 0 0) h0 rfl fun a1 h1 => ?_; clear h0
 refine pl_nil ?_
 refine co_then ?_
 refine co_seq ?_
 refine co_seq ?_
 refine co_reg ?_
 refine pk0 (v := .slice none 0 0) h1 rfl fun a2 h2 => ?_; clear h1
 refine pk0 (v := .bool true) h2 rfl fun a3 h3 => ?_; clear h2
 refine pl_nil ?_
 refine co_then ?_
 refine co_true h3 rfl ?_
 refine co_seq ?_
 refine co_reg ?_
 refine pk0 (v := .slice none 0 0) h3 rfl fun a4 h4 => ?_; clear h3
 refine pl_nil ?_
 refine co_then ?_
 refine wp_ret ?_
 refine co_thenR ?_
 refine co_ret1 h4 rfl rfl ?_
 exact ⟨_, rfl, (row_nilL _ _ _ _ _), hB0⟩
set_option maxRecDepth 100000 in
theorem freshAskZ  (w : World)  :
    Calls Try.prog 46 #[.agg #[.int .i64 0, .int .i64 0, .string (⟨#[]⟩), .string (⟨#[]⟩), .int .u64 0, .int .i64 0, .slice none 0 0]] w fun e w' => ∃ (u : Value), e = .returned (.agg #[.int .i64 0, .int .i64 0, .string (⟨#[]⟩), .string (⟨#[]⟩), .int .u64 0, .int .i64 0, u]) ∧ w'.ownsRow w.heap.size 66 3 u ([] : List OpT).length (([] : List OpT).flatMap opE) ∧ Below w.heap.size w w' := by
 have hB0 := Below.refl w.heap.size w
 refine co_enter (n := 8) Try.func46 rfl rfl rfl [(0, .agg #[.int .i64 0, .int .i64 0, .string (⟨#[]⟩), .string (⟨#[]⟩), .int .u64 0, .int .i64 0, .slice none 0 0])] rfl (fun a h0 => ?_)
 refine co_seq ?_
 refine co_reg ?_
 refine pw h0 rfl (op_new (v := fun N => pt N 0) (T := 35) (cs := #[.int .i64 0, .int .i64 0, .string (⟨#[]⟩), .string (⟨#[]⟩), .int .u64 0, .int .i64 0, .slice none 0 0]) (by kernel_rfl) (by kernel_rfl) (by kernel_rfl)) ?_; clear h0
 rintro _ w2 a1 ⟨N3, rfl, hN6, hz7, hk5, hg4⟩ h1
 have hz8 := hg4.size
 try dsimp only at h1
 refine pw h1 rfl (op_new (v := fun N => pt N 0) (T := 35) (cs := #[.int .i64 0, .int .i64 0, .string (⟨#[]⟩), .string (⟨#[]⟩), .int .u64 0, .int .i64 0, .slice none 0 0]) (by kernel_rfl) (by kernel_rfl) (by kernel_rfl)) ?_; clear h1
 rintro _ w10 a9 ⟨N11, rfl, hN14, hz15, hk13, hg12⟩ h9
 have hz16 := hg12.size
 try dsimp only at h9
 refine pl_nil ?_
 refine co_then ?_
 refine co_seq ?_
 refine co_reg ?_
 refine pk0 (v := pt N3 6) h9 rfl fun a17 h17 => ?_; clear h9
 have hk18 := hk5.kept hg12 (by simp)
 refine pk (v := .slice none 0 0) h17 rfl (rn_load1 rfl rfl Try.isAgg24 (hk18.cell rfl)) fun a19 h19 => ?_; clear h17
 refine pw h19 rfl (op_call (args := #[.slice none 0 0]) (R := fun res xw => ∃ u : Value, res = u ∧ xw.ownsRow w10.heap.size 66 3 u ([] : List OpT).length (([] : List OpT).flatMap opE) ∧ Below w10.heap.size w10 xw) rfl rfl rfl (by kernel_rfl) (by kernel_rfl) (Try.call89 _ _) (cloneOpZ  w10 ) (by rintro e x ⟨u, rfl, hq23, hb24⟩; exact ⟨_, rfl, ⟨u, rfl, hq23, hb24⟩⟩)) ?_; clear h19
 rintro u22 w21 a20 ⟨_, rfl, hq23, hb24⟩ h20
 have hz25 := hb24.size
 have hl26 := sl_len (row_sl hq23 opE_len)
 refine pk0 (v := pt N3 6) h20 rfl fun a27 h27 => ?_; clear h20
 have hk33 := hk18.below hb24
 refine pwD h27 rfl (op_store1 rfl rfl rfl (row_one hq23) Try.sizeOf24 hk33 rfl) ?_; clear h27
 rintro _ w29 a28 ⟨hk30, hz31, hg32⟩ h28
 have hk30' : Blk w29 N3 35 #[.int .i64 0, .int .i64 0, .string (⟨#[]⟩), .string (⟨#[]⟩), .int .u64 0, .int .i64 0, u22] := hk30; clear hk30
 have hz34 := hg32.size
 refine pl_nil ?_
 refine co_then ?_
 refine co_seq ?_
 refine co_reg ?_
 refine pk (v := .agg #[.int .i64 0, .int .i64 0, .string (⟨#[]⟩), .string (⟨#[]⟩), .int .u64 0, .int .i64 0, u22]) h28 rfl (rn_loadN rfl rfl Try.underlying35 rfl (by kernel_rfl) hk30'.all) fun a35 h35 => ?_; clear h28
 have hr41 := row_kept_at hq23 hg32 (own_neT hq23 hk33 (by decide))
 have hk42 := hk13.below hb24
 have hk43 := hk42.kept hg32 (by simp; omega)
 refine pwD h35 rfl (op_storeN rfl rfl rfl (all_cons rfl (all_cons rfl (all_cons rfl (all_cons rfl (all_cons rfl (all_cons rfl (all_cons (row_one hr41) all_nil))))))) (by kernel_rfl) hk43 rfl) ?_; clear h35
 rintro _ w37 a36 ⟨hk38, hz39, hg40⟩ h36
 have hk38' : Blk w37 N11 35 #[.int .i64 0, .int .i64 0, .string (⟨#[]⟩), .string (⟨#[]⟩), .int .u64 0, .int .i64 0, u22] := hk38; clear hk38
 have hz44 := hg40.size
 refine pl_nil ?_
 refine co_then ?_
 refine wp_ret ?_
 refine co_retC (Q := fun _ _ _ => True) h36 rfl rfl hk38' Try.underlying35 rfl (by kernel_rfl) ?_
 have hr45 := row_kept_at hr41 hg40 (own_neT hr41 hk43 (by decide))
 have hB46 := hb_new hB0 hg4
 have hB47 := hb_new hB46 hg12
 have hB48 := hb_call hB47 hb24
 have hB49 := hb_at hB48 hg32 (by omega)
 have hB50 := hb_at hB49 hg40 (by omega)
 exact ⟨_, rfl, (row_lows hr45 (by omega)), hB50⟩
set_option maxRecDepth 100000 in
theorem clean_y (d : EvD) (ov : Value) (w : World) (hs : SliceOf opE 3 w ov d.ops) (hlen : d.ops.length ≤ 100) (hk : d.k = 0) :
    Calls Try.prog 23 #[.agg #[.int .i64 d.k, .int .i64 d.nd, .int .i64 d.n, .int .i64 d.ak, .int .i64 d.an, .string d.ky, .string d.tt, .int .u64 d.at_, .int .i64 d.am, ov]] w fun e w' => ∃ (u : Value), e = .returned (.agg #[.int .i64 d.k, .int .i64 d.nd, .int .i64 d.n, .int .i64 d.ak, .int .i64 d.an, .string d.ky, .string d.tt, .int .u64 d.at_, .int .i64 d.am, u]) ∧ w'.ownsRow w.heap.size 66 3 u d.ops.length (d.ops.flatMap opE) ∧ Below w.heap.size w w' := by
 have hB0 := Below.refl w.heap.size w
 have hl_hs := sl_len hs
 refine co_enter (n := 13) Try.func23 rfl rfl rfl [(0, .agg #[.int .i64 d.k, .int .i64 d.nd, .int .i64 d.n, .int .i64 d.ak, .int .i64 d.an, .string d.ky, .string d.tt, .int .u64 d.at_, .int .i64 d.am, ov])] rfl (fun a h0 => ?_)
 refine co_seq ?_
 refine co_reg ?_
 refine pw h0 rfl (op_new (v := fun N => pt N 0) (T := 60) (cs := #[.int .i64 d.k, .int .i64 d.nd, .int .i64 d.n, .int .i64 d.ak, .int .i64 d.an, .string d.ky, .string d.tt, .int .u64 d.at_, .int .i64 d.am, ov]) (by kernel_rfl) (by kernel_rfl) (by kernel_rfl)) ?_; clear h0
 rintro _ w2 a1 ⟨N3, rfl, hN6, hz7, hk5, hg4⟩ h1
 have hz8 := hg4.size
 try dsimp only at h1
 refine pw h1 rfl (op_new (v := fun N => pt N 0) (T := 60) (cs := #[.int .i64 0, .int .i64 0, .int .i64 0, .int .i64 0, .int .i64 0, .string (⟨#[]⟩), .string (⟨#[]⟩), .int .u64 0, .int .i64 0, .slice none 0 0]) (by kernel_rfl) (by kernel_rfl) (by kernel_rfl)) ?_; clear h1
 rintro _ w10 a9 ⟨N11, rfl, hN14, hz15, hk13, hg12⟩ h9
 have hz16 := hg12.size
 try dsimp only at h9
 refine pl_nil ?_
 refine co_then ?_
 refine co_seq ?_
 refine co_seq ?_
 refine co_reg ?_
 refine pk0 (v := pt N3 0) h9 rfl fun a17 h17 => ?_; clear h9
 have hk18 := hk5.kept hg12 (by simp)
 refine pk (v := .int .i64 d.k) h17 rfl (rn_load1 rfl rfl Try.isAgg3 (hk18.cell rfl)) fun a19 h19 => ?_; clear h17
 refine pk0 (v := .bool (d.k != 0)) h19 rfl fun a20 h20 => ?_; clear h19
 refine pl_nil ?_
 refine co_then ?_
 have hc21 : (d.k != 0) = false := by first | (simp; done) | (simp; omega) | exact beq_false_of_ne (by omega) | exact beq_iff_eq.2 (by omega)
 rw [hc21] at h20; clear hc21
 refine co_false h20 rfl ?_
 refine wp_skip ?_
 refine co_then ?_
 refine co_seq ?_
 refine co_reg ?_
 refine pk0 (v := pt N3 3) h20 rfl fun a22 h22 => ?_; clear h20
 refine pk (v := .agg #[.int .i64 d.ak, .int .i64 d.an, .string d.ky, .string d.tt, .int .u64 d.at_, .int .i64 d.am, ov]) h22 rfl (rn_loadN rfl rfl Try.underlying35 rfl (by kernel_rfl) (blk_part hk18 3 (by rfl))) fun a23 h23 => ?_; clear h22
 have hB26 := hb_new hB0 hg4
 have hB27 := hb_new hB26 hg12
 refine pw h23 rfl (op_call (args := #[.agg #[.int .i64 d.ak, .int .i64 d.an, .string d.ky, .string d.tt, .int .u64 d.at_, .int .i64 d.am, ov]]) (R := fun res xw => ∃ u : Value, res = .agg #[.int .i64 d.ak, .int .i64 d.an, .string d.ky, .string d.tt, .int .u64 d.at_, .int .i64 d.am, u] ∧ xw.ownsRow w10.heap.size 66 3 u d.ops.length (d.ops.flatMap opE) ∧ Below w10.heap.size w10 xw) rfl rfl rfl (by kernel_rfl) (by kernel_rfl) (Try.call46 _ _) (freshAsk_any _ ov w10 (hs.below hB27) (by first | omega | (simp; done) | (simp; omega))) (by rintro e x ⟨u, rfl, hq29, hb30⟩; exact ⟨_, rfl, ⟨u, rfl, hq29, hb30⟩⟩)) ?_; clear h23
 rintro _ w25 a24 ⟨u28, rfl, hq29, hb30⟩ h24
 have hz31 := hb30.size
 have hl32 := sl_len (row_sl hq29 opE_len)
 refine pk0 (v := pt N3 3) h24 rfl fun a33 h33 => ?_; clear h24
 have hk39 := hk18.below hb30
 refine pwD h33 rfl (op_storePart (k := 3) (cs' := #[.int .i64 d.k, .int .i64 d.nd, .int .i64 d.n, .int .i64 d.ak, .int .i64 d.an, .string d.ky, .string d.tt, .int .u64 d.at_, .int .i64 d.am, u28]) rfl rfl rfl (all_cons rfl (all_cons rfl (all_cons rfl (all_cons rfl (all_cons rfl (all_cons rfl (all_cons (row_one hq29) all_nil))))))) (by kernel_rfl) hk39 rfl rfl) ?_; clear h33
 rintro _ w35 a34 ⟨hk36, hz37, hg38⟩ h34
 have hk36' : Blk w35 N3 60 #[.int .i64 d.k, .int .i64 d.nd, .int .i64 d.n, .int .i64 d.ak, .int .i64 d.an, .string d.ky, .string d.tt, .int .u64 d.at_, .int .i64 d.am, u28] := hk36; clear hk36
 have hz40 := hg38.size
 refine pl_nil ?_
 refine co_then ?_
 refine co_seq ?_
 refine co_reg ?_
 refine pk (v := .agg #[.int .i64 d.k, .int .i64 d.nd, .int .i64 d.n, .int .i64 d.ak, .int .i64 d.an, .string d.ky, .string d.tt, .int .u64 d.at_, .int .i64 d.am, u28]) h34 rfl (rn_loadN rfl rfl Try.underlying60 rfl (by kernel_rfl) hk36'.all) fun a41 h41 => ?_; clear h34
 have hr47 := row_kept_at hq29 hg38 (own_neT hq29 hk39 (by decide))
 have hk48 := hk13.below hb30
 have hk49 := hk48.kept hg38 (by simp; omega)
 refine pwD h41 rfl (op_storeN rfl rfl rfl (all_cons rfl (all_cons rfl (all_cons rfl (all_cons rfl (all_cons rfl (all_cons rfl (all_cons rfl (all_cons rfl (all_cons rfl (all_cons (row_one hr47) all_nil)))))))))) (by kernel_rfl) hk49 rfl) ?_; clear h41
 rintro _ w43 a42 ⟨hk44, hz45, hg46⟩ h42
 have hk44' : Blk w43 N11 60 #[.int .i64 d.k, .int .i64 d.nd, .int .i64 d.n, .int .i64 d.ak, .int .i64 d.an, .string d.ky, .string d.tt, .int .u64 d.at_, .int .i64 d.am, u28] := hk44; clear hk44
 have hz50 := hg46.size
 refine pl_nil ?_
 refine co_then ?_
 refine wp_ret ?_
 refine co_retC (Q := fun _ _ _ => True) h42 rfl rfl hk44' Try.underlying60 rfl (by kernel_rfl) ?_
 have hr51 := row_kept_at hr47 hg46 (own_neT hr47 hk49 (by decide))
 have hB52 := hb_call hB27 hb30
 have hB53 := hb_at hB52 hg38 (by omega)
 have hB54 := hb_at hB53 hg46 (by omega)
 exact ⟨_, rfl, (row_lows hr51 (by omega)), hB54⟩
set_option maxRecDepth 100000 in
theorem clean_n (d : EvD) (ov : Value) (w : World) (hs : SliceOf opE 3 w ov d.ops) (hk : ¬ d.k = 0) :
    Calls Try.prog 23 #[.agg #[.int .i64 d.k, .int .i64 d.nd, .int .i64 d.n, .int .i64 d.ak, .int .i64 d.an, .string d.ky, .string d.tt, .int .u64 d.at_, .int .i64 d.am, ov]] w fun e w' => ∃ (u : Value), e = .returned (.agg #[.int .i64 d.k, .int .i64 d.nd, .int .i64 d.n, .int .i64 0, .int .i64 0, .string (⟨#[]⟩), .string (⟨#[]⟩), .int .u64 0, .int .i64 0, u]) ∧ w'.ownsRow w.heap.size 66 3 u ([] : List OpT).length (([] : List OpT).flatMap opE) ∧ Below w.heap.size w w' := by
 have hB0 := Below.refl w.heap.size w
 have hl_hs := sl_len hs
 refine co_enter (n := 13) Try.func23 rfl rfl rfl [(0, .agg #[.int .i64 d.k, .int .i64 d.nd, .int .i64 d.n, .int .i64 d.ak, .int .i64 d.an, .string d.ky, .string d.tt, .int .u64 d.at_, .int .i64 d.am, ov])] rfl (fun a h0 => ?_)
 refine co_seq ?_
 refine co_reg ?_
 refine pw h0 rfl (op_new (v := fun N => pt N 0) (T := 60) (cs := #[.int .i64 d.k, .int .i64 d.nd, .int .i64 d.n, .int .i64 d.ak, .int .i64 d.an, .string d.ky, .string d.tt, .int .u64 d.at_, .int .i64 d.am, ov]) (by kernel_rfl) (by kernel_rfl) (by kernel_rfl)) ?_; clear h0
 rintro _ w2 a1 ⟨N3, rfl, hN6, hz7, hk5, hg4⟩ h1
 have hz8 := hg4.size
 try dsimp only at h1
 refine pw h1 rfl (op_new (v := fun N => pt N 0) (T := 60) (cs := #[.int .i64 0, .int .i64 0, .int .i64 0, .int .i64 0, .int .i64 0, .string (⟨#[]⟩), .string (⟨#[]⟩), .int .u64 0, .int .i64 0, .slice none 0 0]) (by kernel_rfl) (by kernel_rfl) (by kernel_rfl)) ?_; clear h1
 rintro _ w10 a9 ⟨N11, rfl, hN14, hz15, hk13, hg12⟩ h9
 have hz16 := hg12.size
 try dsimp only at h9
 refine pl_nil ?_
 refine co_then ?_
 refine co_seq ?_
 refine co_seq ?_
 refine co_reg ?_
 refine pk0 (v := pt N3 0) h9 rfl fun a17 h17 => ?_; clear h9
 have hk18 := hk5.kept hg12 (by simp)
 refine pk (v := .int .i64 d.k) h17 rfl (rn_load1 rfl rfl Try.isAgg3 (hk18.cell rfl)) fun a19 h19 => ?_; clear h17
 refine pk0 (v := .bool (d.k != 0)) h19 rfl fun a20 h20 => ?_; clear h19
 refine pl_nil ?_
 refine co_then ?_
 have hc21 : (d.k != 0) = true := by first | (simp; done) | (simp; omega) | exact beq_false_of_ne (by omega) | exact beq_iff_eq.2 (by omega)
 rw [hc21] at h20; clear hc21
 refine co_true h20 rfl ?_
 refine co_reg ?_
 refine pk0 (v := .agg #[.int .i64 0, .int .i64 0, .string (⟨#[]⟩), .string (⟨#[]⟩), .int .u64 0, .int .i64 0, .slice none 0 0]) h20 rfl fun a22 h22 => ?_; clear h20
 refine pk0 (v := pt N3 3) h22 rfl fun a23 h23 => ?_; clear h22
 refine pwD h23 rfl (op_storePart (k := 3) (cs' := #[.int .i64 d.k, .int .i64 d.nd, .int .i64 d.n, .int .i64 0, .int .i64 0, .string (⟨#[]⟩), .string (⟨#[]⟩), .int .u64 0, .int .i64 0, .slice none 0 0]) rfl rfl rfl (all_cons rfl (all_cons rfl (all_cons rfl (all_cons rfl (all_cons rfl (all_cons rfl (all_cons rfl all_nil))))))) (by kernel_rfl) hk18 rfl rfl) ?_; clear h23
 rintro _ w25 a24 ⟨hk26, hz27, hg28⟩ h24
 have hk26' : Blk w25 N3 60 #[.int .i64 d.k, .int .i64 d.nd, .int .i64 d.n, .int .i64 0, .int .i64 0, .string (⟨#[]⟩), .string (⟨#[]⟩), .int .u64 0, .int .i64 0, .slice none 0 0] := hk26; clear hk26
 have hz29 := hg28.size
 refine pl_nil ?_
 refine co_then ?_
 refine co_seq ?_
 refine co_reg ?_
 refine pk0 (v := pt N3 3) h24 rfl fun a30 h30 => ?_; clear h24
 refine pk (v := .agg #[.int .i64 0, .int .i64 0, .string (⟨#[]⟩), .string (⟨#[]⟩), .int .u64 0, .int .i64 0, .slice none 0 0]) h30 rfl (rn_loadN rfl rfl Try.underlying35 rfl (by kernel_rfl) (blk_part hk26' 3 (by rfl))) fun a31 h31 => ?_; clear h30
 refine pw h31 rfl (op_call (args := #[.agg #[.int .i64 0, .int .i64 0, .string (⟨#[]⟩), .string (⟨#[]⟩), .int .u64 0, .int .i64 0, .slice none 0 0]]) (R := fun res xw => ∃ u : Value, res = .agg #[.int .i64 0, .int .i64 0, .string (⟨#[]⟩), .string (⟨#[]⟩), .int .u64 0, .int .i64 0, u] ∧ xw.ownsRow w25.heap.size 66 3 u ([] : List OpT).length (([] : List OpT).flatMap opE) ∧ Below w25.heap.size w25 xw) rfl rfl rfl (by kernel_rfl) (by kernel_rfl) (Try.call46 _ _) (freshAskZ  w25 ) (by rintro e x ⟨u, rfl, hq35, hb36⟩; exact ⟨_, rfl, ⟨u, rfl, hq35, hb36⟩⟩)) ?_; clear h31
 rintro _ w33 a32 ⟨u34, rfl, hq35, hb36⟩ h32
 have hz37 := hb36.size
 have hl38 := sl_len (row_sl hq35 opE_len)
 refine pk0 (v := pt N3 3) h32 rfl fun a39 h39 => ?_; clear h32
 have hk45 := hk26'.below hb36
 refine pwD h39 rfl (op_storePart (k := 3) (cs' := #[.int .i64 d.k, .int .i64 d.nd, .int .i64 d.n, .int .i64 0, .int .i64 0, .string (⟨#[]⟩), .string (⟨#[]⟩), .int .u64 0, .int .i64 0, u34]) rfl rfl rfl (all_cons rfl (all_cons rfl (all_cons rfl (all_cons rfl (all_cons rfl (all_cons rfl (all_cons (row_one hq35) all_nil))))))) (by kernel_rfl) hk45 rfl rfl) ?_; clear h39
 rintro _ w41 a40 ⟨hk42, hz43, hg44⟩ h40
 have hk42' : Blk w41 N3 60 #[.int .i64 d.k, .int .i64 d.nd, .int .i64 d.n, .int .i64 0, .int .i64 0, .string (⟨#[]⟩), .string (⟨#[]⟩), .int .u64 0, .int .i64 0, u34] := hk42; clear hk42
 have hz46 := hg44.size
 refine pl_nil ?_
 refine co_then ?_
 refine co_seq ?_
 refine co_reg ?_
 refine pk (v := .agg #[.int .i64 d.k, .int .i64 d.nd, .int .i64 d.n, .int .i64 0, .int .i64 0, .string (⟨#[]⟩), .string (⟨#[]⟩), .int .u64 0, .int .i64 0, u34]) h40 rfl (rn_loadN rfl rfl Try.underlying60 rfl (by kernel_rfl) hk42'.all) fun a47 h47 => ?_; clear h40
 have hr53 := row_kept_at hq35 hg44 (own_neT hq35 hk45 (by decide))
 have hk54 := hk13.kept hg28 (by simp; omega)
 have hk55 := hk54.below hb36
 have hk56 := hk55.kept hg44 (by simp; omega)
 refine pwD h47 rfl (op_storeN rfl rfl rfl (all_cons rfl (all_cons rfl (all_cons rfl (all_cons rfl (all_cons rfl (all_cons rfl (all_cons rfl (all_cons rfl (all_cons rfl (all_cons (row_one hr53) all_nil)))))))))) (by kernel_rfl) hk56 rfl) ?_; clear h47
 rintro _ w49 a48 ⟨hk50, hz51, hg52⟩ h48
 have hk50' : Blk w49 N11 60 #[.int .i64 d.k, .int .i64 d.nd, .int .i64 d.n, .int .i64 0, .int .i64 0, .string (⟨#[]⟩), .string (⟨#[]⟩), .int .u64 0, .int .i64 0, u34] := hk50; clear hk50
 have hz57 := hg52.size
 refine pl_nil ?_
 refine co_then ?_
 refine wp_ret ?_
 refine co_retC (Q := fun _ _ _ => True) h48 rfl rfl hk50' Try.underlying60 rfl (by kernel_rfl) ?_
 have hr58 := row_kept_at hr53 hg52 (own_neT hr53 hk56 (by decide))
 have hB59 := hb_new hB0 hg4
 have hB60 := hb_new hB59 hg12
 have hB61 := hb_at hB60 hg28 (by omega)
 have hB62 := hb_call hB61 hb36
 have hB63 := hb_at hB62 hg44 (by omega)
 have hB64 := hb_at hB63 hg52 (by omega)
 exact ⟨_, rfl, (row_lows hr58 (by omega)), hB64⟩
set_option maxRecDepth 100000 in
theorem within_y (N : Nat) (z1 : Int) (z2 : Int) (z3 : Int) (z4 : Int) (z5 : Int) (z6 : Int) (w : World) (hN : Blk w N 3 #[.int .i64 z1, .int .i64 z2, .int .i64 z3, .int .i64 z4, .int .i64 z5, .int .i64 z6]) (hq : (0 ≤ z1 ∧ z1 ≤ 1073741824) ∧ (0 ≤ z2 ∧ z2 ≤ 1073741824) ∧ (0 ≤ z3 ∧ z3 ≤ 1073741824) ∧ (0 ≤ z4 ∧ z4 ≤ 1073741824) ∧ (0 ≤ z5 ∧ z5 ≤ 1073741824) ∧ (0 ≤ z6 ∧ z6 ≤ 1073741824)) :
    Calls Try.prog 68 #[.slice (some ⟨N, 0, none⟩) 6 6] w fun e w' => e = .returned (.bool true) ∧ Below w.heap.size w w' := by
 have hB0 := Below.refl w.heap.size w
 have hl_hN := hN.lt
 refine co_enter (n := 18) Try.func68 rfl rfl rfl [(0, .slice (some ⟨N, 0, none⟩) 6 6)] rfl (fun a h0 => ?_)
 refine co_seq ?_
 refine co_reg ?_
 refine pk0 (v := .bool false) h0 rfl fun a1 h1 => ?_; clear h0
 refine pl_nil ?_
 refine co_then ?_
 refine co_seq ?_
 refine co_seq ?_
 refine co_reg ?_
 refine pk0 (v := .slice (some ⟨N, 0, none⟩) 6 6) h1 rfl fun a2 h2 => ?_; clear h1
 refine pk0 (v := .int .i64 6) h2 rfl fun a3 h3 => ?_; clear h2
 refine pk0 (v := .int .i64 0) h3 rfl fun a4 h4 => ?_; clear h3
 refine pl_nil ?_
 refine co_then ?_
 refine wp_block ?_
 refine wp_loop_rounds 7 ?_
 refine co_unroll (n := 6) ?_
 refine co_seq ?_
 refine co_reg ?_
 refine pk0 (v := .bool (decide (0 < 6))) h4 rfl fun a5 h5 => ?_; clear h4
 refine pl_nil ?_
 refine co_then ?_
 refine co_seq ?_
 have hc6 : (decide (0 < 6)) = true := decide_eq_true (by omega)
 rw [hc6] at h5; clear hc6
 refine co_true h5 rfl ?_
 refine wp_skip ?_
 refine co_then ?_
 refine co_seq ?_
 refine wp_block ?_
 refine co_seq ?_
 refine co_reg ?_
 refine pk0 (v := pt N 0) h5 rfl fun a7 h7 => ?_; clear h5
 refine pk (v := .int .i64 z1) h7 rfl (rn_load1 rfl rfl Try.isAgg3 (hN.cell rfl)) fun a8 h8 => ?_; clear h7
 refine pk0 (v := .int .i64 z1) h8 rfl fun a9 h9 => ?_; clear h8
 refine pl_nil ?_
 refine co_then ?_
 refine co_seq ?_
 refine co_reg ?_
 refine pk0 (v := .int .i64 z1) h9 rfl fun a10 h10 => ?_; clear h9
 refine pk0 (v := .bool (decide (z1 < 0))) h10 rfl fun a11 h11 => ?_; clear h10
 refine pk0 (v := .bool (decide (z1 < 0))) h11 rfl fun a12 h12 => ?_; clear h11
 have hc13 : (decide (z1 < 0)) = false := decide_eq_false (by omega)
 rw [hc13] at h12; clear hc13
 refine pk0 (v := .int .i64 z1) h12 rfl fun a14 h14 => ?_; clear h12
 refine pk0 (v := .bool (decide (z1 > 1073741824))) h14 rfl fun a15 h15 => ?_; clear h14
 refine pk0 (v := .bool (decide (z1 > 1073741824))) h15 rfl fun a16 h16 => ?_; clear h15
 refine pl_nil ?_
 refine co_then ?_
 have hc17 : (decide (z1 > 1073741824)) = false := decide_eq_false (by omega)
 rw [hc17] at h16; clear hc17
 refine co_false h16 rfl ?_
 refine wp_skip ?_
 refine co_blockN ?_
 refine co_then ?_
 refine co_reg ?_
 refine pk0 (v := .int .i64 1) h16 rfl fun a18 h18 => ?_; clear h16
 refine pk0 (v := .int .i64 1) h18 rfl fun a19 h19 => ?_; clear h18
 refine pl_nil ?_
 refine co_then ?_
 refine co_unroll (n := 5) ?_
 refine co_seq ?_
 refine co_reg ?_
 refine pk0 (v := .bool (decide (1 < 6))) h19 rfl fun a20 h20 => ?_; clear h19
 refine pl_nil ?_
 refine co_then ?_
 refine co_seq ?_
 have hc21 : (decide (1 < 6)) = true := decide_eq_true (by omega)
 rw [hc21] at h20; clear hc21
 refine co_true h20 rfl ?_
 refine wp_skip ?_
 refine co_then ?_
 refine co_seq ?_
 refine wp_block ?_
 refine co_seq ?_
 refine co_reg ?_
 refine pk0 (v := pt N 1) h20 rfl fun a22 h22 => ?_; clear h20
 refine pk (v := .int .i64 z2) h22 rfl (rn_load1 rfl rfl Try.isAgg3 (hN.cell rfl)) fun a23 h23 => ?_; clear h22
 refine pk0 (v := .int .i64 z2) h23 rfl fun a24 h24 => ?_; clear h23
 refine pl_nil ?_
 refine co_then ?_
 refine co_seq ?_
 refine co_reg ?_
 refine pk0 (v := .int .i64 z2) h24 rfl fun a25 h25 => ?_; clear h24
 refine pk0 (v := .bool (decide (z2 < 0))) h25 rfl fun a26 h26 => ?_; clear h25
 refine pk0 (v := .bool (decide (z2 < 0))) h26 rfl fun a27 h27 => ?_; clear h26
 have hc28 : (decide (z2 < 0)) = false := decide_eq_false (by omega)
 rw [hc28] at h27; clear hc28
 refine pk0 (v := .int .i64 z2) h27 rfl fun a29 h29 => ?_; clear h27
 refine pk0 (v := .bool (decide (z2 > 1073741824))) h29 rfl fun a30 h30 => ?_; clear h29
 refine pk0 (v := .bool (decide (z2 > 1073741824))) h30 rfl fun a31 h31 => ?_; clear h30
 refine pl_nil ?_
 refine co_then ?_
 have hc32 : (decide (z2 > 1073741824)) = false := decide_eq_false (by omega)
 rw [hc32] at h31; clear hc32
 refine co_false h31 rfl ?_
 refine wp_skip ?_
 refine co_blockN ?_
 refine co_then ?_
 refine co_reg ?_
 refine pk0 (v := .int .i64 2) h31 rfl fun a33 h33 => ?_; clear h31
 refine pk0 (v := .int .i64 2) h33 rfl fun a34 h34 => ?_; clear h33
 refine pl_nil ?_
 refine co_then ?_
 refine co_unroll (n := 4) ?_
 refine co_seq ?_
 refine co_reg ?_
 refine pk0 (v := .bool (decide (2 < 6))) h34 rfl fun a35 h35 => ?_; clear h34
 refine pl_nil ?_
 refine co_then ?_
 refine co_seq ?_
 have hc36 : (decide (2 < 6)) = true := decide_eq_true (by omega)
 rw [hc36] at h35; clear hc36
 refine co_true h35 rfl ?_
 refine wp_skip ?_
 refine co_then ?_
 refine co_seq ?_
 refine wp_block ?_
 refine co_seq ?_
 refine co_reg ?_
 refine pk0 (v := pt N 2) h35 rfl fun a37 h37 => ?_; clear h35
 refine pk (v := .int .i64 z3) h37 rfl (rn_load1 rfl rfl Try.isAgg3 (hN.cell rfl)) fun a38 h38 => ?_; clear h37
 refine pk0 (v := .int .i64 z3) h38 rfl fun a39 h39 => ?_; clear h38
 refine pl_nil ?_
 refine co_then ?_
 refine co_seq ?_
 refine co_reg ?_
 refine pk0 (v := .int .i64 z3) h39 rfl fun a40 h40 => ?_; clear h39
 refine pk0 (v := .bool (decide (z3 < 0))) h40 rfl fun a41 h41 => ?_; clear h40
 refine pk0 (v := .bool (decide (z3 < 0))) h41 rfl fun a42 h42 => ?_; clear h41
 have hc43 : (decide (z3 < 0)) = false := decide_eq_false (by omega)
 rw [hc43] at h42; clear hc43
 refine pk0 (v := .int .i64 z3) h42 rfl fun a44 h44 => ?_; clear h42
 refine pk0 (v := .bool (decide (z3 > 1073741824))) h44 rfl fun a45 h45 => ?_; clear h44
 refine pk0 (v := .bool (decide (z3 > 1073741824))) h45 rfl fun a46 h46 => ?_; clear h45
 refine pl_nil ?_
 refine co_then ?_
 have hc47 : (decide (z3 > 1073741824)) = false := decide_eq_false (by omega)
 rw [hc47] at h46; clear hc47
 refine co_false h46 rfl ?_
 refine wp_skip ?_
 refine co_blockN ?_
 refine co_then ?_
 refine co_reg ?_
 refine pk0 (v := .int .i64 3) h46 rfl fun a48 h48 => ?_; clear h46
 refine pk0 (v := .int .i64 3) h48 rfl fun a49 h49 => ?_; clear h48
 refine pl_nil ?_
 refine co_then ?_
 refine co_unroll (n := 3) ?_
 refine co_seq ?_
 refine co_reg ?_
 refine pk0 (v := .bool (decide (3 < 6))) h49 rfl fun a50 h50 => ?_; clear h49
 refine pl_nil ?_
 refine co_then ?_
 refine co_seq ?_
 have hc51 : (decide (3 < 6)) = true := decide_eq_true (by omega)
 rw [hc51] at h50; clear hc51
 refine co_true h50 rfl ?_
 refine wp_skip ?_
 refine co_then ?_
 refine co_seq ?_
 refine wp_block ?_
 refine co_seq ?_
 refine co_reg ?_
 refine pk0 (v := pt N 3) h50 rfl fun a52 h52 => ?_; clear h50
 refine pk (v := .int .i64 z4) h52 rfl (rn_load1 rfl rfl Try.isAgg3 (hN.cell rfl)) fun a53 h53 => ?_; clear h52
 refine pk0 (v := .int .i64 z4) h53 rfl fun a54 h54 => ?_; clear h53
 refine pl_nil ?_
 refine co_then ?_
 refine co_seq ?_
 refine co_reg ?_
 refine pk0 (v := .int .i64 z4) h54 rfl fun a55 h55 => ?_; clear h54
 refine pk0 (v := .bool (decide (z4 < 0))) h55 rfl fun a56 h56 => ?_; clear h55
 refine pk0 (v := .bool (decide (z4 < 0))) h56 rfl fun a57 h57 => ?_; clear h56
 have hc58 : (decide (z4 < 0)) = false := decide_eq_false (by omega)
 rw [hc58] at h57; clear hc58
 refine pk0 (v := .int .i64 z4) h57 rfl fun a59 h59 => ?_; clear h57
 refine pk0 (v := .bool (decide (z4 > 1073741824))) h59 rfl fun a60 h60 => ?_; clear h59
 refine pk0 (v := .bool (decide (z4 > 1073741824))) h60 rfl fun a61 h61 => ?_; clear h60
 refine pl_nil ?_
 refine co_then ?_
 have hc62 : (decide (z4 > 1073741824)) = false := decide_eq_false (by omega)
 rw [hc62] at h61; clear hc62
 refine co_false h61 rfl ?_
 refine wp_skip ?_
 refine co_blockN ?_
 refine co_then ?_
 refine co_reg ?_
 refine pk0 (v := .int .i64 4) h61 rfl fun a63 h63 => ?_; clear h61
 refine pk0 (v := .int .i64 4) h63 rfl fun a64 h64 => ?_; clear h63
 refine pl_nil ?_
 refine co_then ?_
 refine co_unroll (n := 2) ?_
 refine co_seq ?_
 refine co_reg ?_
 refine pk0 (v := .bool (decide (4 < 6))) h64 rfl fun a65 h65 => ?_; clear h64
 refine pl_nil ?_
 refine co_then ?_
 refine co_seq ?_
 have hc66 : (decide (4 < 6)) = true := decide_eq_true (by omega)
 rw [hc66] at h65; clear hc66
 refine co_true h65 rfl ?_
 refine wp_skip ?_
 refine co_then ?_
 refine co_seq ?_
 refine wp_block ?_
 refine co_seq ?_
 refine co_reg ?_
 refine pk0 (v := pt N 4) h65 rfl fun a67 h67 => ?_; clear h65
 refine pk (v := .int .i64 z5) h67 rfl (rn_load1 rfl rfl Try.isAgg3 (hN.cell rfl)) fun a68 h68 => ?_; clear h67
 refine pk0 (v := .int .i64 z5) h68 rfl fun a69 h69 => ?_; clear h68
 refine pl_nil ?_
 refine co_then ?_
 refine co_seq ?_
 refine co_reg ?_
 refine pk0 (v := .int .i64 z5) h69 rfl fun a70 h70 => ?_; clear h69
 refine pk0 (v := .bool (decide (z5 < 0))) h70 rfl fun a71 h71 => ?_; clear h70
 refine pk0 (v := .bool (decide (z5 < 0))) h71 rfl fun a72 h72 => ?_; clear h71
 have hc73 : (decide (z5 < 0)) = false := decide_eq_false (by omega)
 rw [hc73] at h72; clear hc73
 refine pk0 (v := .int .i64 z5) h72 rfl fun a74 h74 => ?_; clear h72
 refine pk0 (v := .bool (decide (z5 > 1073741824))) h74 rfl fun a75 h75 => ?_; clear h74
 refine pk0 (v := .bool (decide (z5 > 1073741824))) h75 rfl fun a76 h76 => ?_; clear h75
 refine pl_nil ?_
 refine co_then ?_
 have hc77 : (decide (z5 > 1073741824)) = false := decide_eq_false (by omega)
 rw [hc77] at h76; clear hc77
 refine co_false h76 rfl ?_
 refine wp_skip ?_
 refine co_blockN ?_
 refine co_then ?_
 refine co_reg ?_
 refine pk0 (v := .int .i64 5) h76 rfl fun a78 h78 => ?_; clear h76
 refine pk0 (v := .int .i64 5) h78 rfl fun a79 h79 => ?_; clear h78
 refine pl_nil ?_
 refine co_then ?_
 refine co_unroll (n := 1) ?_
 refine co_seq ?_
 refine co_reg ?_
 refine pk0 (v := .bool (decide (5 < 6))) h79 rfl fun a80 h80 => ?_; clear h79
 refine pl_nil ?_
 refine co_then ?_
 refine co_seq ?_
 have hc81 : (decide (5 < 6)) = true := decide_eq_true (by omega)
 rw [hc81] at h80; clear hc81
 refine co_true h80 rfl ?_
 refine wp_skip ?_
 refine co_then ?_
 refine co_seq ?_
 refine wp_block ?_
 refine co_seq ?_
 refine co_reg ?_
 refine pk0 (v := pt N 5) h80 rfl fun a82 h82 => ?_; clear h80
 refine pk (v := .int .i64 z6) h82 rfl (rn_load1 rfl rfl Try.isAgg3 (hN.cell rfl)) fun a83 h83 => ?_; clear h82
 refine pk0 (v := .int .i64 z6) h83 rfl fun a84 h84 => ?_; clear h83
 refine pl_nil ?_
 refine co_then ?_
 refine co_seq ?_
 refine co_reg ?_
 refine pk0 (v := .int .i64 z6) h84 rfl fun a85 h85 => ?_; clear h84
 refine pk0 (v := .bool (decide (z6 < 0))) h85 rfl fun a86 h86 => ?_; clear h85
 refine pk0 (v := .bool (decide (z6 < 0))) h86 rfl fun a87 h87 => ?_; clear h86
 have hc88 : (decide (z6 < 0)) = false := decide_eq_false (by omega)
 rw [hc88] at h87; clear hc88
 refine pk0 (v := .int .i64 z6) h87 rfl fun a89 h89 => ?_; clear h87
 refine pk0 (v := .bool (decide (z6 > 1073741824))) h89 rfl fun a90 h90 => ?_; clear h89
 refine pk0 (v := .bool (decide (z6 > 1073741824))) h90 rfl fun a91 h91 => ?_; clear h90
 refine pl_nil ?_
 refine co_then ?_
 have hc92 : (decide (z6 > 1073741824)) = false := decide_eq_false (by omega)
 rw [hc92] at h91; clear hc92
 refine co_false h91 rfl ?_
 refine wp_skip ?_
 refine co_blockN ?_
 refine co_then ?_
 refine co_reg ?_
 refine pk0 (v := .int .i64 6) h91 rfl fun a93 h93 => ?_; clear h91
 refine pk0 (v := .int .i64 6) h93 rfl fun a94 h94 => ?_; clear h93
 refine pl_nil ?_
 refine co_then ?_
 refine co_unroll (n := 0) ?_
 refine co_seq ?_
 refine co_reg ?_
 refine pk0 (v := .bool (decide (6 < 6))) h94 rfl fun a95 h95 => ?_; clear h94
 refine pl_nil ?_
 refine co_then ?_
 refine co_seq ?_
 have hc96 : (decide (6 < 6)) = false := decide_eq_false (by omega)
 rw [hc96] at h95; clear hc96
 refine co_false h95 rfl ?_
 refine wp_exit ?_
 refine co_thenX ?_
 refine co_thenX ?_
 refine co_blockX ?_
 refine co_then ?_
 refine co_seq ?_
 refine co_reg ?_
 refine pk0 (v := .bool true) h95 rfl fun a97 h97 => ?_; clear h95
 refine pl_nil ?_
 refine co_then ?_
 refine wp_ret ?_
 refine co_ret1 h97 rfl rfl ?_
 exact ⟨rfl, hB0⟩
set_option maxRecDepth 100000 in
theorem within_n (N : Nat) (z1 : Int) (z2 : Int) (z3 : Int) (z4 : Int) (z5 : Int) (z6 : Int) (w : World) (hN : Blk w N 3 #[.int .i64 z1, .int .i64 z2, .int .i64 z3, .int .i64 z4, .int .i64 z5, .int .i64 z6]) (hq : ¬ (0 ≤ z1 ∧ z1 ≤ 1073741824) ∨ ¬ (0 ≤ z2 ∧ z2 ≤ 1073741824) ∨ ¬ (0 ≤ z3 ∧ z3 ≤ 1073741824) ∨ ¬ (0 ≤ z4 ∧ z4 ≤ 1073741824) ∨ ¬ (0 ≤ z5 ∧ z5 ≤ 1073741824) ∨ ¬ (0 ≤ z6 ∧ z6 ≤ 1073741824)) :
    Calls Try.prog 68 #[.slice (some ⟨N, 0, none⟩) 6 6] w fun e w' => e = .returned (.bool false) ∧ Below w.heap.size w w' := by
 have hB0 := Below.refl w.heap.size w
 have hl_hN := hN.lt
 refine co_enter (n := 18) Try.func68 rfl rfl rfl [(0, .slice (some ⟨N, 0, none⟩) 6 6)] rfl (fun a h0 => ?_)
 refine co_seq ?_
 refine co_reg ?_
 refine pk0 (v := .bool false) h0 rfl fun a1 h1 => ?_; clear h0
 refine pl_nil ?_
 refine co_then ?_
 refine co_seq ?_
 refine co_seq ?_
 refine co_reg ?_
 refine pk0 (v := .slice (some ⟨N, 0, none⟩) 6 6) h1 rfl fun a2 h2 => ?_; clear h1
 refine pk0 (v := .int .i64 6) h2 rfl fun a3 h3 => ?_; clear h2
 refine pk0 (v := .int .i64 0) h3 rfl fun a4 h4 => ?_; clear h3
 refine pl_nil ?_
 refine co_then ?_
 refine wp_block ?_
 refine wp_loop_rounds 7 ?_
 refine co_unroll (n := 6) ?_
 refine co_seq ?_
 refine co_reg ?_
 refine pk0 (v := .bool (decide (0 < 6))) h4 rfl fun a5 h5 => ?_; clear h4
 refine pl_nil ?_
 refine co_then ?_
 refine co_seq ?_
 have hc6 : (decide (0 < 6)) = true := decide_eq_true (by omega)
 rw [hc6] at h5; clear hc6
 refine co_true h5 rfl ?_
 refine wp_skip ?_
 refine co_then ?_
 refine co_seq ?_
 refine wp_block ?_
 refine co_seq ?_
 refine co_reg ?_
 refine pk0 (v := pt N 0) h5 rfl fun a7 h7 => ?_; clear h5
 refine pk (v := .int .i64 z1) h7 rfl (rn_load1 rfl rfl Try.isAgg3 (hN.cell rfl)) fun a8 h8 => ?_; clear h7
 refine pk0 (v := .int .i64 z1) h8 rfl fun a9 h9 => ?_; clear h8
 refine pl_nil ?_
 refine co_then ?_
 refine co_seq ?_
 refine co_reg ?_
 refine pk0 (v := .int .i64 z1) h9 rfl fun a10 h10 => ?_; clear h9
 refine pk0 (v := .bool (decide (z1 < 0))) h10 rfl fun a11 h11 => ?_; clear h10
 refine pk0 (v := .bool (decide (z1 < 0))) h11 rfl fun a12 h12 => ?_; clear h11
 cases hc13 : (decide (z1 < 0))
 ·
  rw [hc13] at h12
  have hp14 : ¬ (z1 < 0) := of_decide_eq_false hc13
  clear hc13
  refine pk0 (v := .int .i64 z1) h12 rfl fun a15 h15 => ?_; clear h12
  refine pk0 (v := .bool (decide (z1 > 1073741824))) h15 rfl fun a16 h16 => ?_; clear h15
  refine pk0 (v := .bool (decide (z1 > 1073741824))) h16 rfl fun a17 h17 => ?_; clear h16
  refine pl_nil ?_
  refine co_then ?_
  cases hc18 : (decide (z1 > 1073741824))
  ·
   rw [hc18] at h17
   have hp19 : ¬ (z1 > 1073741824) := of_decide_eq_false hc18
   clear hc18
   refine co_false h17 rfl ?_
   refine wp_skip ?_
   refine co_blockN ?_
   refine co_then ?_
   refine co_reg ?_
   refine pk0 (v := .int .i64 1) h17 rfl fun a20 h20 => ?_; clear h17
   refine pk0 (v := .int .i64 1) h20 rfl fun a21 h21 => ?_; clear h20
   refine pl_nil ?_
   refine co_then ?_
   refine co_unroll (n := 5) ?_
   refine co_seq ?_
   refine co_reg ?_
   refine pk0 (v := .bool (decide (1 < 6))) h21 rfl fun a22 h22 => ?_; clear h21
   refine pl_nil ?_
   refine co_then ?_
   refine co_seq ?_
   have hc23 : (decide (1 < 6)) = true := decide_eq_true (by omega)
   rw [hc23] at h22; clear hc23
   refine co_true h22 rfl ?_
   refine wp_skip ?_
   refine co_then ?_
   refine co_seq ?_
   refine wp_block ?_
   refine co_seq ?_
   refine co_reg ?_
   refine pk0 (v := pt N 1) h22 rfl fun a24 h24 => ?_; clear h22
   refine pk (v := .int .i64 z2) h24 rfl (rn_load1 rfl rfl Try.isAgg3 (hN.cell rfl)) fun a25 h25 => ?_; clear h24
   refine pk0 (v := .int .i64 z2) h25 rfl fun a26 h26 => ?_; clear h25
   refine pl_nil ?_
   refine co_then ?_
   refine co_seq ?_
   refine co_reg ?_
   refine pk0 (v := .int .i64 z2) h26 rfl fun a27 h27 => ?_; clear h26
   refine pk0 (v := .bool (decide (z2 < 0))) h27 rfl fun a28 h28 => ?_; clear h27
   refine pk0 (v := .bool (decide (z2 < 0))) h28 rfl fun a29 h29 => ?_; clear h28
   cases hc30 : (decide (z2 < 0))
   ·
    rw [hc30] at h29
    have hp31 : ¬ (z2 < 0) := of_decide_eq_false hc30
    clear hc30
    refine pk0 (v := .int .i64 z2) h29 rfl fun a32 h32 => ?_; clear h29
    refine pk0 (v := .bool (decide (z2 > 1073741824))) h32 rfl fun a33 h33 => ?_; clear h32
    refine pk0 (v := .bool (decide (z2 > 1073741824))) h33 rfl fun a34 h34 => ?_; clear h33
    refine pl_nil ?_
    refine co_then ?_
    cases hc35 : (decide (z2 > 1073741824))
    ·
     rw [hc35] at h34
     have hp36 : ¬ (z2 > 1073741824) := of_decide_eq_false hc35
     clear hc35
     refine co_false h34 rfl ?_
     refine wp_skip ?_
     refine co_blockN ?_
     refine co_then ?_
     refine co_reg ?_
     refine pk0 (v := .int .i64 2) h34 rfl fun a37 h37 => ?_; clear h34
     refine pk0 (v := .int .i64 2) h37 rfl fun a38 h38 => ?_; clear h37
     refine pl_nil ?_
     refine co_then ?_
     refine co_unroll (n := 4) ?_
     refine co_seq ?_
     refine co_reg ?_
     refine pk0 (v := .bool (decide (2 < 6))) h38 rfl fun a39 h39 => ?_; clear h38
     refine pl_nil ?_
     refine co_then ?_
     refine co_seq ?_
     have hc40 : (decide (2 < 6)) = true := decide_eq_true (by omega)
     rw [hc40] at h39; clear hc40
     refine co_true h39 rfl ?_
     refine wp_skip ?_
     refine co_then ?_
     refine co_seq ?_
     refine wp_block ?_
     refine co_seq ?_
     refine co_reg ?_
     refine pk0 (v := pt N 2) h39 rfl fun a41 h41 => ?_; clear h39
     refine pk (v := .int .i64 z3) h41 rfl (rn_load1 rfl rfl Try.isAgg3 (hN.cell rfl)) fun a42 h42 => ?_; clear h41
     refine pk0 (v := .int .i64 z3) h42 rfl fun a43 h43 => ?_; clear h42
     refine pl_nil ?_
     refine co_then ?_
     refine co_seq ?_
     refine co_reg ?_
     refine pk0 (v := .int .i64 z3) h43 rfl fun a44 h44 => ?_; clear h43
     refine pk0 (v := .bool (decide (z3 < 0))) h44 rfl fun a45 h45 => ?_; clear h44
     refine pk0 (v := .bool (decide (z3 < 0))) h45 rfl fun a46 h46 => ?_; clear h45
     cases hc47 : (decide (z3 < 0))
     ·
      rw [hc47] at h46
      have hp48 : ¬ (z3 < 0) := of_decide_eq_false hc47
      clear hc47
      refine pk0 (v := .int .i64 z3) h46 rfl fun a49 h49 => ?_; clear h46
      refine pk0 (v := .bool (decide (z3 > 1073741824))) h49 rfl fun a50 h50 => ?_; clear h49
      refine pk0 (v := .bool (decide (z3 > 1073741824))) h50 rfl fun a51 h51 => ?_; clear h50
      refine pl_nil ?_
      refine co_then ?_
      cases hc52 : (decide (z3 > 1073741824))
      ·
       rw [hc52] at h51
       have hp53 : ¬ (z3 > 1073741824) := of_decide_eq_false hc52
       clear hc52
       refine co_false h51 rfl ?_
       refine wp_skip ?_
       refine co_blockN ?_
       refine co_then ?_
       refine co_reg ?_
       refine pk0 (v := .int .i64 3) h51 rfl fun a54 h54 => ?_; clear h51
       refine pk0 (v := .int .i64 3) h54 rfl fun a55 h55 => ?_; clear h54
       refine pl_nil ?_
       refine co_then ?_
       refine co_unroll (n := 3) ?_
       refine co_seq ?_
       refine co_reg ?_
       refine pk0 (v := .bool (decide (3 < 6))) h55 rfl fun a56 h56 => ?_; clear h55
       refine pl_nil ?_
       refine co_then ?_
       refine co_seq ?_
       have hc57 : (decide (3 < 6)) = true := decide_eq_true (by omega)
       rw [hc57] at h56; clear hc57
       refine co_true h56 rfl ?_
       refine wp_skip ?_
       refine co_then ?_
       refine co_seq ?_
       refine wp_block ?_
       refine co_seq ?_
       refine co_reg ?_
       refine pk0 (v := pt N 3) h56 rfl fun a58 h58 => ?_; clear h56
       refine pk (v := .int .i64 z4) h58 rfl (rn_load1 rfl rfl Try.isAgg3 (hN.cell rfl)) fun a59 h59 => ?_; clear h58
       refine pk0 (v := .int .i64 z4) h59 rfl fun a60 h60 => ?_; clear h59
       refine pl_nil ?_
       refine co_then ?_
       refine co_seq ?_
       refine co_reg ?_
       refine pk0 (v := .int .i64 z4) h60 rfl fun a61 h61 => ?_; clear h60
       refine pk0 (v := .bool (decide (z4 < 0))) h61 rfl fun a62 h62 => ?_; clear h61
       refine pk0 (v := .bool (decide (z4 < 0))) h62 rfl fun a63 h63 => ?_; clear h62
       cases hc64 : (decide (z4 < 0))
       ·
        rw [hc64] at h63
        have hp65 : ¬ (z4 < 0) := of_decide_eq_false hc64
        clear hc64
        refine pk0 (v := .int .i64 z4) h63 rfl fun a66 h66 => ?_; clear h63
        refine pk0 (v := .bool (decide (z4 > 1073741824))) h66 rfl fun a67 h67 => ?_; clear h66
        refine pk0 (v := .bool (decide (z4 > 1073741824))) h67 rfl fun a68 h68 => ?_; clear h67
        refine pl_nil ?_
        refine co_then ?_
        cases hc69 : (decide (z4 > 1073741824))
        ·
         rw [hc69] at h68
         have hp70 : ¬ (z4 > 1073741824) := of_decide_eq_false hc69
         clear hc69
         refine co_false h68 rfl ?_
         refine wp_skip ?_
         refine co_blockN ?_
         refine co_then ?_
         refine co_reg ?_
         refine pk0 (v := .int .i64 4) h68 rfl fun a71 h71 => ?_; clear h68
         refine pk0 (v := .int .i64 4) h71 rfl fun a72 h72 => ?_; clear h71
         refine pl_nil ?_
         refine co_then ?_
         refine co_unroll (n := 2) ?_
         refine co_seq ?_
         refine co_reg ?_
         refine pk0 (v := .bool (decide (4 < 6))) h72 rfl fun a73 h73 => ?_; clear h72
         refine pl_nil ?_
         refine co_then ?_
         refine co_seq ?_
         have hc74 : (decide (4 < 6)) = true := decide_eq_true (by omega)
         rw [hc74] at h73; clear hc74
         refine co_true h73 rfl ?_
         refine wp_skip ?_
         refine co_then ?_
         refine co_seq ?_
         refine wp_block ?_
         refine co_seq ?_
         refine co_reg ?_
         refine pk0 (v := pt N 4) h73 rfl fun a75 h75 => ?_; clear h73
         refine pk (v := .int .i64 z5) h75 rfl (rn_load1 rfl rfl Try.isAgg3 (hN.cell rfl)) fun a76 h76 => ?_; clear h75
         refine pk0 (v := .int .i64 z5) h76 rfl fun a77 h77 => ?_; clear h76
         refine pl_nil ?_
         refine co_then ?_
         refine co_seq ?_
         refine co_reg ?_
         refine pk0 (v := .int .i64 z5) h77 rfl fun a78 h78 => ?_; clear h77
         refine pk0 (v := .bool (decide (z5 < 0))) h78 rfl fun a79 h79 => ?_; clear h78
         refine pk0 (v := .bool (decide (z5 < 0))) h79 rfl fun a80 h80 => ?_; clear h79
         cases hc81 : (decide (z5 < 0))
         ·
          rw [hc81] at h80
          have hp82 : ¬ (z5 < 0) := of_decide_eq_false hc81
          clear hc81
          refine pk0 (v := .int .i64 z5) h80 rfl fun a83 h83 => ?_; clear h80
          refine pk0 (v := .bool (decide (z5 > 1073741824))) h83 rfl fun a84 h84 => ?_; clear h83
          refine pk0 (v := .bool (decide (z5 > 1073741824))) h84 rfl fun a85 h85 => ?_; clear h84
          refine pl_nil ?_
          refine co_then ?_
          cases hc86 : (decide (z5 > 1073741824))
          ·
           rw [hc86] at h85
           have hp87 : ¬ (z5 > 1073741824) := of_decide_eq_false hc86
           clear hc86
           refine co_false h85 rfl ?_
           refine wp_skip ?_
           refine co_blockN ?_
           refine co_then ?_
           refine co_reg ?_
           refine pk0 (v := .int .i64 5) h85 rfl fun a88 h88 => ?_; clear h85
           refine pk0 (v := .int .i64 5) h88 rfl fun a89 h89 => ?_; clear h88
           refine pl_nil ?_
           refine co_then ?_
           refine co_unroll (n := 1) ?_
           refine co_seq ?_
           refine co_reg ?_
           refine pk0 (v := .bool (decide (5 < 6))) h89 rfl fun a90 h90 => ?_; clear h89
           refine pl_nil ?_
           refine co_then ?_
           refine co_seq ?_
           have hc91 : (decide (5 < 6)) = true := decide_eq_true (by omega)
           rw [hc91] at h90; clear hc91
           refine co_true h90 rfl ?_
           refine wp_skip ?_
           refine co_then ?_
           refine co_seq ?_
           refine wp_block ?_
           refine co_seq ?_
           refine co_reg ?_
           refine pk0 (v := pt N 5) h90 rfl fun a92 h92 => ?_; clear h90
           refine pk (v := .int .i64 z6) h92 rfl (rn_load1 rfl rfl Try.isAgg3 (hN.cell rfl)) fun a93 h93 => ?_; clear h92
           refine pk0 (v := .int .i64 z6) h93 rfl fun a94 h94 => ?_; clear h93
           refine pl_nil ?_
           refine co_then ?_
           refine co_seq ?_
           refine co_reg ?_
           refine pk0 (v := .int .i64 z6) h94 rfl fun a95 h95 => ?_; clear h94
           refine pk0 (v := .bool (decide (z6 < 0))) h95 rfl fun a96 h96 => ?_; clear h95
           refine pk0 (v := .bool (decide (z6 < 0))) h96 rfl fun a97 h97 => ?_; clear h96
           cases hc98 : (decide (z6 < 0))
           ·
            rw [hc98] at h97
            have hp99 : ¬ (z6 < 0) := of_decide_eq_false hc98
            clear hc98
            refine pk0 (v := .int .i64 z6) h97 rfl fun a100 h100 => ?_; clear h97
            refine pk0 (v := .bool (decide (z6 > 1073741824))) h100 rfl fun a101 h101 => ?_; clear h100
            refine pk0 (v := .bool (decide (z6 > 1073741824))) h101 rfl fun a102 h102 => ?_; clear h101
            refine pl_nil ?_
            refine co_then ?_
            have hc103 : (decide (z6 > 1073741824)) = true := decide_eq_true (by omega)
            rw [hc103] at h102; clear hc103
            refine co_true h102 rfl ?_
            refine co_seq ?_
            refine co_reg ?_
            refine pk0 (v := .bool false) h102 rfl fun a104 h104 => ?_; clear h102
            refine pl_nil ?_
            refine co_then ?_
            refine wp_ret ?_
            refine co_blockR ?_
            refine co_thenR ?_
            refine co_thenR ?_
            refine co_blockR ?_
            refine co_thenR ?_
            refine co_ret1 h104 rfl rfl ?_
            exact ⟨rfl, hB0⟩
           ·
            rw [hc98] at h97
            have hp105 : z6 < 0 := of_decide_eq_true hc98
            clear hc98
            refine psk h97 rfl fun a106 h106 => ?_; clear h97
            refine psk h106 rfl fun a107 h107 => ?_; clear h106
            refine pk0 (v := .bool true) h107 rfl fun a108 h108 => ?_; clear h107
            refine pl_nil ?_
            refine co_then ?_
            refine co_true h108 rfl ?_
            refine co_seq ?_
            refine co_reg ?_
            refine pk0 (v := .bool false) h108 rfl fun a109 h109 => ?_; clear h108
            refine pl_nil ?_
            refine co_then ?_
            refine wp_ret ?_
            refine co_blockR ?_
            refine co_thenR ?_
            refine co_thenR ?_
            refine co_blockR ?_
            refine co_thenR ?_
            refine co_ret1 h109 rfl rfl ?_
            exact ⟨rfl, hB0⟩
          ·
           rw [hc86] at h85
           have hp110 : z5 > 1073741824 := of_decide_eq_true hc86
           clear hc86
           refine co_true h85 rfl ?_
           refine co_seq ?_
           refine co_reg ?_
           refine pk0 (v := .bool false) h85 rfl fun a111 h111 => ?_; clear h85
           refine pl_nil ?_
           refine co_then ?_
           refine wp_ret ?_
           refine co_blockR ?_
           refine co_thenR ?_
           refine co_thenR ?_
           refine co_blockR ?_
           refine co_thenR ?_
           refine co_ret1 h111 rfl rfl ?_
           exact ⟨rfl, hB0⟩
         ·
          rw [hc81] at h80
          have hp112 : z5 < 0 := of_decide_eq_true hc81
          clear hc81
          refine psk h80 rfl fun a113 h113 => ?_; clear h80
          refine psk h113 rfl fun a114 h114 => ?_; clear h113
          refine pk0 (v := .bool true) h114 rfl fun a115 h115 => ?_; clear h114
          refine pl_nil ?_
          refine co_then ?_
          refine co_true h115 rfl ?_
          refine co_seq ?_
          refine co_reg ?_
          refine pk0 (v := .bool false) h115 rfl fun a116 h116 => ?_; clear h115
          refine pl_nil ?_
          refine co_then ?_
          refine wp_ret ?_
          refine co_blockR ?_
          refine co_thenR ?_
          refine co_thenR ?_
          refine co_blockR ?_
          refine co_thenR ?_
          refine co_ret1 h116 rfl rfl ?_
          exact ⟨rfl, hB0⟩
        ·
         rw [hc69] at h68
         have hp117 : z4 > 1073741824 := of_decide_eq_true hc69
         clear hc69
         refine co_true h68 rfl ?_
         refine co_seq ?_
         refine co_reg ?_
         refine pk0 (v := .bool false) h68 rfl fun a118 h118 => ?_; clear h68
         refine pl_nil ?_
         refine co_then ?_
         refine wp_ret ?_
         refine co_blockR ?_
         refine co_thenR ?_
         refine co_thenR ?_
         refine co_blockR ?_
         refine co_thenR ?_
         refine co_ret1 h118 rfl rfl ?_
         exact ⟨rfl, hB0⟩
       ·
        rw [hc64] at h63
        have hp119 : z4 < 0 := of_decide_eq_true hc64
        clear hc64
        refine psk h63 rfl fun a120 h120 => ?_; clear h63
        refine psk h120 rfl fun a121 h121 => ?_; clear h120
        refine pk0 (v := .bool true) h121 rfl fun a122 h122 => ?_; clear h121
        refine pl_nil ?_
        refine co_then ?_
        refine co_true h122 rfl ?_
        refine co_seq ?_
        refine co_reg ?_
        refine pk0 (v := .bool false) h122 rfl fun a123 h123 => ?_; clear h122
        refine pl_nil ?_
        refine co_then ?_
        refine wp_ret ?_
        refine co_blockR ?_
        refine co_thenR ?_
        refine co_thenR ?_
        refine co_blockR ?_
        refine co_thenR ?_
        refine co_ret1 h123 rfl rfl ?_
        exact ⟨rfl, hB0⟩
      ·
       rw [hc52] at h51
       have hp124 : z3 > 1073741824 := of_decide_eq_true hc52
       clear hc52
       refine co_true h51 rfl ?_
       refine co_seq ?_
       refine co_reg ?_
       refine pk0 (v := .bool false) h51 rfl fun a125 h125 => ?_; clear h51
       refine pl_nil ?_
       refine co_then ?_
       refine wp_ret ?_
       refine co_blockR ?_
       refine co_thenR ?_
       refine co_thenR ?_
       refine co_blockR ?_
       refine co_thenR ?_
       refine co_ret1 h125 rfl rfl ?_
       exact ⟨rfl, hB0⟩
     ·
      rw [hc47] at h46
      have hp126 : z3 < 0 := of_decide_eq_true hc47
      clear hc47
      refine psk h46 rfl fun a127 h127 => ?_; clear h46
      refine psk h127 rfl fun a128 h128 => ?_; clear h127
      refine pk0 (v := .bool true) h128 rfl fun a129 h129 => ?_; clear h128
      refine pl_nil ?_
      refine co_then ?_
      refine co_true h129 rfl ?_
      refine co_seq ?_
      refine co_reg ?_
      refine pk0 (v := .bool false) h129 rfl fun a130 h130 => ?_; clear h129
      refine pl_nil ?_
      refine co_then ?_
      refine wp_ret ?_
      refine co_blockR ?_
      refine co_thenR ?_
      refine co_thenR ?_
      refine co_blockR ?_
      refine co_thenR ?_
      refine co_ret1 h130 rfl rfl ?_
      exact ⟨rfl, hB0⟩
    ·
     rw [hc35] at h34
     have hp131 : z2 > 1073741824 := of_decide_eq_true hc35
     clear hc35
     refine co_true h34 rfl ?_
     refine co_seq ?_
     refine co_reg ?_
     refine pk0 (v := .bool false) h34 rfl fun a132 h132 => ?_; clear h34
     refine pl_nil ?_
     refine co_then ?_
     refine wp_ret ?_
     refine co_blockR ?_
     refine co_thenR ?_
     refine co_thenR ?_
     refine co_blockR ?_
     refine co_thenR ?_
     refine co_ret1 h132 rfl rfl ?_
     exact ⟨rfl, hB0⟩
   ·
    rw [hc30] at h29
    have hp133 : z2 < 0 := of_decide_eq_true hc30
    clear hc30
    refine psk h29 rfl fun a134 h134 => ?_; clear h29
    refine psk h134 rfl fun a135 h135 => ?_; clear h134
    refine pk0 (v := .bool true) h135 rfl fun a136 h136 => ?_; clear h135
    refine pl_nil ?_
    refine co_then ?_
    refine co_true h136 rfl ?_
    refine co_seq ?_
    refine co_reg ?_
    refine pk0 (v := .bool false) h136 rfl fun a137 h137 => ?_; clear h136
    refine pl_nil ?_
    refine co_then ?_
    refine wp_ret ?_
    refine co_blockR ?_
    refine co_thenR ?_
    refine co_thenR ?_
    refine co_blockR ?_
    refine co_thenR ?_
    refine co_ret1 h137 rfl rfl ?_
    exact ⟨rfl, hB0⟩
  ·
   rw [hc18] at h17
   have hp138 : z1 > 1073741824 := of_decide_eq_true hc18
   clear hc18
   refine co_true h17 rfl ?_
   refine co_seq ?_
   refine co_reg ?_
   refine pk0 (v := .bool false) h17 rfl fun a139 h139 => ?_; clear h17
   refine pl_nil ?_
   refine co_then ?_
   refine wp_ret ?_
   refine co_blockR ?_
   refine co_thenR ?_
   refine co_thenR ?_
   refine co_blockR ?_
   refine co_thenR ?_
   refine co_ret1 h139 rfl rfl ?_
   exact ⟨rfl, hB0⟩
 ·
  rw [hc13] at h12
  have hp140 : z1 < 0 := of_decide_eq_true hc13
  clear hc13
  refine psk h12 rfl fun a141 h141 => ?_; clear h12
  refine psk h141 rfl fun a142 h142 => ?_; clear h141
  refine pk0 (v := .bool true) h142 rfl fun a143 h143 => ?_; clear h142
  refine pl_nil ?_
  refine co_then ?_
  refine co_true h143 rfl ?_
  refine co_seq ?_
  refine co_reg ?_
  refine pk0 (v := .bool false) h143 rfl fun a144 h144 => ?_; clear h143
  refine pl_nil ?_
  refine co_then ?_
  refine wp_ret ?_
  refine co_blockR ?_
  refine co_thenR ?_
  refine co_thenR ?_
  refine co_blockR ?_
  refine co_thenR ?_
  refine co_ret1 h144 rfl rfl ?_
  exact ⟨rfl, hB0⟩
set_option maxRecDepth 100000 in
theorem rmay40 (n : Int) (w : World)  :
    Calls Try.prog 75 #[.int .i64 n] w fun e w' => e = .returned (.bool (decide (0 ≤ n ∧ n ≤ 1073741824))) ∧ Below w.heap.size w w' := by
 have hB0 := Below.refl w.heap.size w
 refine co_enter (n := 9) Try.func75 rfl rfl rfl [(0, .int .i64 n)] rfl (fun a h0 => ?_)
 refine co_seq ?_
 refine co_reg ?_
 refine pk0 (v := .bool false) h0 rfl fun a1 h1 => ?_; clear h0
 refine pl_nil ?_
 refine co_then ?_
 refine co_seq ?_
 refine co_reg ?_
 refine pk0 (v := .int .i64 n) h1 rfl fun a2 h2 => ?_; clear h1
 refine pk0 (v := .bool (decide (n ≥ 0))) h2 rfl fun a3 h3 => ?_; clear h2
 refine pk0 (v := .bool (decide (n ≥ 0))) h3 rfl fun a4 h4 => ?_; clear h3
 cases hc5 : (decide (n ≥ 0))
 ·
  rw [hc5] at h4
  have hp6 : ¬ (n ≥ 0) := of_decide_eq_false hc5
  clear hc5
  refine psk h4 rfl fun a7 h7 => ?_; clear h4
  refine psk h7 rfl fun a8 h8 => ?_; clear h7
  refine pk0 (v := .bool false) h8 rfl fun a9 h9 => ?_; clear h8
  refine pk0 (v := .bool false) h9 rfl fun a10 h10 => ?_; clear h9
  refine pl_nil ?_
  refine co_then ?_
  refine wp_ret ?_
  refine co_ret1 h10 rfl rfl ?_
  exact ⟨ret_bool (by first | (symm; exact decide_eq_true (by omega)) | (symm; exact decide_eq_false (by omega)) | (simp_all; done) | (simp_all; rfl)), hB0⟩
 ·
  rw [hc5] at h4
  have hp11 : n ≥ 0 := of_decide_eq_true hc5
  clear hc5
  refine pk0 (v := .int .i64 n) h4 rfl fun a12 h12 => ?_; clear h4
  refine pk0 (v := .bool (decide (n ≤ 1073741824))) h12 rfl fun a13 h13 => ?_; clear h12
  refine pk0 (v := .bool (decide (n ≤ 1073741824))) h13 rfl fun a14 h14 => ?_; clear h13
  refine pk0 (v := .bool (decide (n ≤ 1073741824))) h14 rfl fun a15 h15 => ?_; clear h14
  refine pl_nil ?_
  refine co_then ?_
  refine wp_ret ?_
  refine co_ret1 h15 rfl rfl ?_
  exact ⟨ret_bool (by first | (symm; exact decide_eq_true (by omega)) | (symm; exact decide_eq_false (by omega)) | (simp_all; done) | (simp_all; rfl)), hB0⟩
set_option maxRecDepth 100000 in
set_option maxHeartbeats 3200000 in
theorem scPut1_any (d : EvD) (ov : Value) (w : World) (hs : SliceOf opE 3 w ov d.ops) (hS : EvS d) (hln : d.ops.length ≤ 100) :
    Calls Try.prog 41 #[.agg #[.int .i64 d.k, .int .i64 d.nd, .int .i64 d.n, .int .i64 d.ak, .int .i64 d.an, .string d.ky, .string d.tt, .int .u64 d.at_, .int .i64 d.am, ov]] w fun e w' => e = .returned (.tuple #[.string (oneB d), .int .i64 (oneE d)]) ∧ Below w.heap.size w w' := by
 have hSt := hS.ts
 have hSk := hS.ky; have hSu := hS.tt
 have hB0 := Below.refl w.heap.size w
 have hl_hs := sl_len hs
 by_cases hk0 : d.k = 0 <;> by_cases hr : rngE d
 · skip
   have hrr := rng_i hr hk0
   refine co_enter (n := 95) Try.func41 rfl rfl rfl [(0, .agg #[.int .i64 d.k, .int .i64 d.nd, .int .i64 d.n, .int .i64 d.ak, .int .i64 d.an, .string d.ky, .string d.tt, .int .u64 d.at_, .int .i64 d.am, ov])] rfl (fun a h0 => ?_)
   refine co_seq ?_
   refine co_reg ?_
   refine pw h0 rfl (op_new (v := fun N => pt N 0) (T := 60) (cs := #[.int .i64 d.k, .int .i64 d.nd, .int .i64 d.n, .int .i64 d.ak, .int .i64 d.an, .string d.ky, .string d.tt, .int .u64 d.at_, .int .i64 d.am, ov]) (by kernel_rfl) (by kernel_rfl) (by kernel_rfl)) ?_; clear h0
   rintro _ w2 a1 ⟨N3, rfl, hN6, hz7, hk5, hg4⟩ h1
   have hz8 := hg4.size
   try dsimp only at h1
   refine pk0 (v := .string (⟨#[]⟩)) h1 rfl fun a9 h9 => ?_; clear h1
   refine pk0 (v := .int .i64 0) h9 rfl fun a10 h10 => ?_; clear h9
   refine pl_nil ?_
   refine co_then ?_
   refine co_seq ?_
   refine co_reg ?_
   refine pk (v := .agg #[.int .i64 d.k, .int .i64 d.nd, .int .i64 d.n, .int .i64 d.ak, .int .i64 d.an, .string d.ky, .string d.tt, .int .u64 d.at_, .int .i64 d.am, ov]) h10 rfl (rn_loadN rfl rfl Try.underlying60 rfl (by kernel_rfl) hk5.all) fun a11 h11 => ?_; clear h10
   have hB14 := hb_new hB0 hg4
   refine pw h11 rfl (op_call (args := #[.agg #[.int .i64 d.k, .int .i64 d.nd, .int .i64 d.n, .int .i64 d.ak, .int .i64 d.an, .string d.ky, .string d.tt, .int .u64 d.at_, .int .i64 d.am, ov]]) (R := fun res xw => ∃ u : Value, res = .agg #[.int .i64 d.k, .int .i64 d.nd, .int .i64 d.n, .int .i64 d.ak, .int .i64 d.an, .string d.ky, .string d.tt, .int .u64 d.at_, .int .i64 d.am, u] ∧ xw.ownsRow w2.heap.size 66 3 u d.ops.length (d.ops.flatMap opE) ∧ Below w2.heap.size w2 xw) rfl rfl rfl (by kernel_rfl) (by kernel_rfl) (Try.call23 _ _) (clean_y _ ov w2 (hs.below hB14) hln hk0) (by rintro e x ⟨u, rfl, hq16, hb17⟩; exact ⟨_, rfl, ⟨u, rfl, hq16, hb17⟩⟩)) ?_; clear h11
   rintro _ w13 a12 ⟨u15, rfl, hq16, hb17⟩ h12
   have hz18 := hb17.size
   have hl19 := sl_len (row_sl hq16 opE_len)
   have hk25 := hk5.below hb17
   refine pwD h12 rfl (op_storeN rfl rfl rfl (all_cons rfl (all_cons rfl (all_cons rfl (all_cons rfl (all_cons rfl (all_cons rfl (all_cons rfl (all_cons rfl (all_cons rfl (all_cons (row_one hq16) all_nil)))))))))) (by kernel_rfl) hk25 rfl) ?_; clear h12
   rintro _ w21 a20 ⟨hk22, hz23, hg24⟩ h20
   have hk22' : Blk w21 N3 60 #[.int .i64 d.k, .int .i64 d.nd, .int .i64 d.n, .int .i64 d.ak, .int .i64 d.an, .string d.ky, .string d.tt, .int .u64 d.at_, .int .i64 d.am, u15] := hk22; clear hk22
   have hz26 := hg24.size
   refine pl_nil ?_
   refine co_then ?_
   refine co_seq ?_
   refine co_reg ?_
   refine pk0 (v := pt N3 3) h20 rfl fun a27 h27 => ?_; clear h20
   refine pk (v := .agg #[.int .i64 d.ak, .int .i64 d.an, .string d.ky, .string d.tt, .int .u64 d.at_, .int .i64 d.am, u15]) h27 rfl (rn_loadN rfl rfl Try.underlying35 rfl (by kernel_rfl) (blk_part hk22' 3 (by rfl))) fun a28 h28 => ?_; clear h27
   refine pw h28 rfl (op_new (v := fun N => pt N 0) (T := 35) (cs := #[.int .i64 0, .int .i64 0, .string (⟨#[]⟩), .string (⟨#[]⟩), .int .u64 0, .int .i64 0, .slice none 0 0]) (by kernel_rfl) (by kernel_rfl) (by kernel_rfl)) ?_; clear h28
   rintro _ w30 a29 ⟨N31, rfl, hN34, hz35, hk33, hg32⟩ h29
   have hr37 := row_kept_at hq16 hg24 (own_neT hq16 hk25 (by decide))
   have ha36 := row_fresh hr37 hN34
   have hz38 := hg32.size
   try dsimp only at h29
   have hr44 := row_kept_new hr37 hg32
   refine pwD h29 rfl (op_storeN rfl rfl rfl (all_cons rfl (all_cons rfl (all_cons rfl (all_cons rfl (all_cons rfl (all_cons rfl (all_cons (row_one hr44) all_nil))))))) (by kernel_rfl) hk33 rfl) ?_; clear h29
   rintro _ w40 a39 ⟨hk41, hz42, hg43⟩ h39
   have hk41' : Blk w40 N31 35 #[.int .i64 d.ak, .int .i64 d.an, .string d.ky, .string d.tt, .int .u64 d.at_, .int .i64 d.am, u15] := hk41; clear hk41
   have hz45 := hg43.size
   refine pl_nil ?_
   refine co_then ?_
   refine co_seq ?_
   refine co_seq ?_
   refine co_reg ?_
   refine pk0 (v := pt N3 0) h39 rfl fun a46 h46 => ?_; clear h39
   have hk47 := hk22'.kept hg32 (by simp)
   have hk48 := hk47.kept hg43 (by simp; omega)
   refine pk (v := .int .i64 d.k) h46 rfl (rn_load1 rfl rfl Try.isAgg3 (hk48.cell rfl)) fun a49 h49 => ?_; clear h46
   refine pk0 (v := pt N3 1) h49 rfl fun a50 h50 => ?_; clear h49
   refine pk (v := .int .i64 d.nd) h50 rfl (rn_load1 rfl rfl Try.isAgg3 (hk48.cell rfl)) fun a51 h51 => ?_; clear h50
   refine pk0 (v := pt N3 2) h51 rfl fun a52 h52 => ?_; clear h51
   refine pk (v := .int .i64 d.n) h52 rfl (rn_load1 rfl rfl Try.isAgg3 (hk48.cell rfl)) fun a53 h53 => ?_; clear h52
   refine pk0 (v := pt N31 0) h53 rfl fun a54 h54 => ?_; clear h53
   refine pk (v := .int .i64 d.ak) h54 rfl (rn_load1 rfl rfl Try.isAgg3 (hk41'.cell rfl)) fun a55 h55 => ?_; clear h54
   refine pk0 (v := pt N31 1) h55 rfl fun a56 h56 => ?_; clear h55
   refine pk (v := .int .i64 d.an) h56 rfl (rn_load1 rfl rfl Try.isAgg3 (hk41'.cell rfl)) fun a57 h57 => ?_; clear h56
   refine pk0 (v := pt N31 5) h57 rfl fun a58 h58 => ?_; clear h57
   refine pk (v := .int .i64 d.am) h58 rfl (rn_load1 rfl rfl Try.isAgg3 (hk41'.cell rfl)) fun a59 h59 => ?_; clear h58
   refine pw h59 rfl (op_new (v := fun N => .slice (some ⟨N, 0, none⟩) 6 6) (T := 3) (cs := #[.int .i64 d.k, .int .i64 d.nd, .int .i64 d.n, .int .i64 d.ak, .int .i64 d.an, .int .i64 d.am]) (by kernel_rfl) (by kernel_rfl) (by kernel_rfl)) ?_; clear h59
   rintro _ w61 a60 ⟨N62, rfl, hN65, hz66, hk64, hg63⟩ h60
   have hr68 := row_kept_at hr44 hg43 (ha36)
   have ha67 := row_fresh hr68 hN65
   have hz69 := hg63.size
   try dsimp only at h60
   refine pw h60 rfl (op_call (args := #[.slice (some ⟨N62, 0, none⟩) 6 6]) (R := fun res xw => res = .bool true ∧ Below w61.heap.size w61 xw) rfl rfl rfl (by kernel_rfl) (by kernel_rfl) (Try.call68 _ _) (within_y N62 d.k d.nd d.n d.ak d.an d.am w61 hk64 (by omega)) (by rintro e x ⟨rfl, hb72⟩; exact ⟨_, rfl, ⟨rfl, hb72⟩⟩)) ?_; clear h60
   rintro _ w71 a70 ⟨rfl, hb72⟩ h70
   have hz73 := hb72.size
   refine pk0 (v := .bool false) h70 rfl fun a74 h74 => ?_; clear h70
   refine pl_nil ?_
   refine co_then ?_
   refine co_false h74 rfl ?_
   refine wp_skip ?_
   refine co_then ?_
   refine co_seq ?_
   refine dr_gen (fun x => Below w.heap.size w x ∧ Blk x N3 60 #[.int .i64 d.k, .int .i64 d.nd, .int .i64 d.n, .int .i64 d.ak, .int .i64 d.an, .string d.ky, .string d.tt, .int .u64 d.at_, .int .i64 d.am, u15]) (by kernel_rfl) (fun w75 hg76 => ?_) (fun w75 hg76 => ?_)
   ·
    have hz77 := hg76.size
    have hB78 := hb_call hB14 hb17
    have hB79 := hb_at hB78 hg24 (by omega)
    have hB80 := hb_new hB79 hg32
    have hB81 := hb_at hB80 hg43 (by omega)
    have hB82 := hb_new hB81 hg63
    have hB83 := hb_call hB82 hb72
    have hB84 := hb_new hB83 hg76
    have hk85 := hk48.kept hg63 (by simp)
    have hk86 := hk85.below hb72
    have hk87 := hk86.kept hg76 (by simp)
    exact ⟨hB84, hk87⟩
   have hz88 := hg76.size
   have hB89 := hb_call hB14 hb17
   have hB90 := hb_at hB89 hg24 (by omega)
   have hB91 := hb_new hB90 hg32
   have hB92 := hb_at hB91 hg43 (by omega)
   have hB93 := hb_new hB92 hg63
   have hB94 := hb_call hB93 hb72
   have hB95 := hb_new hB94 hg76
   have hk96 := hk48.kept hg63 (by simp)
   have hk97 := hk96.below hb72
   have hk98 := hk97.kept hg76 (by simp)
   refine dk0 1 (v := pt N3 0) h74 rfl rfl ⟨hB95, hk98⟩ fun a99 h99 => ?_; clear h74
   refine dk 2 (v := .int .i64 d.k) h99 rfl rfl ⟨hB95, hk98⟩ (fun x hx => (rn_load1 rfl rfl Try.isAgg3 (hx.2.cell rfl))) fun a100 h100 => ?_; clear h99
   refine dk0 4 (v := pt N3 1) h100 rfl rfl ⟨hB95, hk98⟩ fun a101 h101 => ?_; clear h100
   refine dk 5 (v := .int .i64 d.nd) h101 rfl rfl ⟨hB95, hk98⟩ (fun x hx => (rn_load1 rfl rfl Try.isAgg3 (hx.2.cell rfl))) fun a102 h102 => ?_; clear h101
   refine dk0 7 (v := pt N3 2) h102 rfl rfl ⟨hB95, hk98⟩ fun a103 h103 => ?_; clear h102
   refine dk 8 (v := .int .i64 d.n) h103 rfl rfl ⟨hB95, hk98⟩ (fun x hx => (rn_load1 rfl rfl Try.isAgg3 (hx.2.cell rfl))) fun a104 h104 => ?_; clear h103
   refine d1 0 h104 rfl rfl (op_call (args := #[]) (R := fun res xw => ∃ b : Nat, res = pt b 0 ∧ b = w75.heap.size ∧ OW b [] 0 xw ∧ Below w75.heap.size w75 xw) rfl rfl rfl (by kernel_rfl) (by kernel_rfl) (Try.call69 _ _) (ow_new w75) (by rintro e x ⟨b, rfl, h0, h1, h2⟩; exact ⟨_, rfl, b, rfl, h0, h1, h2⟩)) ?_ ?_; clear h104
   ·
    rintro _ w106 ⟨b107, rfl, hN108, ho109, hb110⟩
    have hr112 := row_kept_new hr68 hg63
    have hr113 := row_kept_new hr112 (below_grown hb72)
    have hr114 := row_kept_new hr113 hg76
    have ha111 := row_fresh hr114 hN108
    have hz115 := hb110.size
    have hl116 := ho109.lt
    have hB117 := hb_call hB95 hb110
    have hk118 := hk98.below hb110
    exact ⟨hB117, hk118⟩
   rintro _ w106 a105 ⟨b107, rfl, hN108, ho109, hb110⟩ h105
   have hr112 := row_kept_new hr68 hg63
   have hr113 := row_kept_new hr112 (below_grown hb72)
   have hr114 := row_kept_new hr113 hg76
   have ha111 := row_fresh hr114 hN108
   have hz115 := hb110.size
   have hl116 := ho109.lt
   have hB117 := hb_call hB95 hb110
   have hk118 := hk98.below hb110
   refine d1 3 h105 rfl rfl (op_call (args := #[pt b107 0, .int .i64 d.k]) (R := fun res xw => res = pt b107 0 ∧ OW b107 (([] : List UInt8) ++ putL d.k) (0 + 9) xw ∧ But (Rw w106 b107) w106 xw) rfl rfl rfl (by kernel_rfl) (by kernel_rfl) (Try.call70 _ _) (ow_num b107 ([]) 0 d.k w106 ho109 (by omega) (by omega) (by omega)) (by rintro e x ⟨rfl, h1, h2⟩; exact ⟨_, rfl, rfl, h1, h2⟩)) ?_ ?_; clear h105
   ·
    rintro _ w120 ⟨rfl, ho121, hx122⟩
    have hz123 := hx122.size
    have hl124 := ho121.lt
    have hB125 := hb_wr hB117 ho109 (by omega) hx122
    have hk126 := blk_wr hk118 ho109 (by decide) (by omega) hx122
    exact ⟨hB125, hk126⟩
   rintro _ w120 a119 ⟨rfl, ho121, hx122⟩ h119
   have hz123 := hx122.size
   have hl124 := ho121.lt
   have hB125 := hb_wr hB117 ho109 (by omega) hx122
   have hk126 := blk_wr hk118 ho109 (by decide) (by omega) hx122
   refine d1 6 h119 rfl rfl (op_call (args := #[pt b107 0, .int .i64 d.nd]) (R := fun res xw => res = pt b107 0 ∧ OW b107 ((([] : List UInt8) ++ putL d.k) ++ putL d.nd) (0 + 9 + 9) xw ∧ But (Rw w120 b107) w120 xw) rfl rfl rfl (by kernel_rfl) (by kernel_rfl) (Try.call70 _ _) (ow_num b107 (([] : List UInt8) ++ putL d.k) (0 + 9) d.nd w120 ho121 (by omega) (by omega) (by omega)) (by rintro e x ⟨rfl, h1, h2⟩; exact ⟨_, rfl, rfl, h1, h2⟩)) ?_ ?_; clear h119
   ·
    rintro _ w128 ⟨rfl, ho129, hx130⟩
    have hz131 := hx130.size
    have hl132 := ho129.lt
    have hB133 := hb_wr hB125 ho121 (by omega) hx130
    have hk134 := blk_wr hk126 ho121 (by decide) (by omega) hx130
    exact ⟨hB133, hk134⟩
   rintro _ w128 a127 ⟨rfl, ho129, hx130⟩ h127
   have hz131 := hx130.size
   have hl132 := ho129.lt
   have hB133 := hb_wr hB125 ho121 (by omega) hx130
   have hk134 := blk_wr hk126 ho121 (by decide) (by omega) hx130
   refine d1 9 h127 rfl rfl (op_call (args := #[pt b107 0, .int .i64 d.n]) (R := fun res xw => res = pt b107 0 ∧ OW b107 (((([] : List UInt8) ++ putL d.k) ++ putL d.nd) ++ putL d.n) (0 + 9 + 9 + 9) xw ∧ But (Rw w128 b107) w128 xw) rfl rfl rfl (by kernel_rfl) (by kernel_rfl) (Try.call70 _ _) (ow_num b107 ((([] : List UInt8) ++ putL d.k) ++ putL d.nd) (0 + 9 + 9) d.n w128 ho129 (by omega) (by omega) (by omega)) (by rintro e x ⟨rfl, h1, h2⟩; exact ⟨_, rfl, rfl, h1, h2⟩)) ?_ ?_; clear h127
   ·
    rintro _ w136 ⟨rfl, ho137, hx138⟩
    have hz139 := hx138.size
    have hl140 := ho137.lt
    have hB141 := hb_wr hB133 ho129 (by omega) hx138
    have hk142 := blk_wr hk134 ho129 (by decide) (by omega) hx138
    exact ⟨hB141, hk142⟩
   rintro _ w136 a135 ⟨rfl, ho137, hx138⟩ h135
   have hz139 := hx138.size
   have hl140 := ho137.lt
   have hB141 := hb_wr hB133 ho129 (by omega) hx138
   have hk142 := blk_wr hk134 ho129 (by decide) (by omega) hx138
   refine dk0 10 (v := pt b107 0) h135 rfl rfl ⟨hB141, hk142⟩ fun a143 h143 => ?_; clear h135
   refine dr_done (by kernel_rfl) ?_
   refine co_then ?_
   refine co_seq ?_
   refine co_seq ?_
   refine co_reg ?_
   refine pk0 (v := pt N3 0) h143 rfl fun a144 h144 => ?_; clear h143
   refine pk (v := .int .i64 d.k) h144 rfl (rn_load1 rfl rfl Try.isAgg3 (hk142.cell rfl)) fun a145 h145 => ?_; clear h144
   refine pk0 (v := .bool (d.k == 0)) h145 rfl fun a146 h146 => ?_; clear h145
   refine pl_nil ?_
   refine co_then ?_
   have hc147 : (d.k == 0) = true := by first | (simp; done) | (simp; omega) | exact beq_false_of_ne (by omega) | exact beq_iff_eq.2 (by omega)
   rw [hc147] at h146; clear hc147
   refine co_true h146 rfl ?_
   refine co_seq ?_
   refine dr_gen (fun x => Below w.heap.size w x ∧ x.ownsRow w2.heap.size 66 3 u15 d.ops.length (d.ops.flatMap opE) ∧ Blk x N31 35 #[.int .i64 d.ak, .int .i64 d.an, .string d.ky, .string d.tt, .int .u64 d.at_, .int .i64 d.am, u15]) (by kernel_rfl) (fun w148 hg149 => ?_) (fun w148 hg149 => ?_)
   ·
    have hz150 := hg149.size
    have hB151 := hb_new hB141 hg149
    have hr152 := row_kept_new hr114 (below_grown hb110)
    have hr153 := row_wr hr152 ho109 (by decide) (ha111) hx122
    have hr154 := row_wr hr153 ho121 (by decide) (ha111) hx130
    have hr155 := row_wr hr154 ho129 (by decide) (ha111) hx138
    have hr156 := row_kept_new hr155 hg149
    have hk157 := hk41'.kept hg63 (by simp)
    have hk158 := hk157.below hb72
    have hk159 := hk158.kept hg76 (by simp)
    have hk160 := hk159.below hb110
    have hk161 := blk_wr hk160 ho109 (by decide) (by omega) hx122
    have hk162 := blk_wr hk161 ho121 (by decide) (by omega) hx130
    have hk163 := blk_wr hk162 ho129 (by decide) (by omega) hx138
    have hk164 := hk163.kept hg149 (by simp)
    exact ⟨hB151, hr156, hk164⟩
   have hz165 := hg149.size
   have hB166 := hb_new hB141 hg149
   have hr167 := row_kept_new hr114 (below_grown hb110)
   have hr168 := row_wr hr167 ho109 (by decide) (ha111) hx122
   have hr169 := row_wr hr168 ho121 (by decide) (ha111) hx130
   have hr170 := row_wr hr169 ho129 (by decide) (ha111) hx138
   have hr171 := row_kept_new hr170 hg149
   have hk172 := hk41'.kept hg63 (by simp)
   have hk173 := hk172.below hb72
   have hk174 := hk173.kept hg76 (by simp)
   have hk175 := hk174.below hb110
   have hk176 := blk_wr hk175 ho109 (by decide) (by omega) hx122
   have hk177 := blk_wr hk176 ho121 (by decide) (by omega) hx130
   have hk178 := blk_wr hk177 ho129 (by decide) (by omega) hx138
   have hk179 := hk178.kept hg149 (by simp)
   refine dk0 0 (v := pt b107 0) h146 rfl rfl ⟨hB166, hr171, hk179⟩ fun a180 h180 => ?_; clear h146
   refine dk0 1 (v := pt N31 0) h180 rfl rfl ⟨hB166, hr171, hk179⟩ fun a181 h181 => ?_; clear h180
   refine dk 2 (v := .int .i64 d.ak) h181 rfl rfl ⟨hB166, hr171, hk179⟩ (fun x hx => (rn_load1 rfl rfl Try.isAgg3 (hx.2.2.cell rfl))) fun a182 h182 => ?_; clear h181
   refine dk0 4 (v := pt N31 1) h182 rfl rfl ⟨hB166, hr171, hk179⟩ fun a183 h183 => ?_; clear h182
   refine dk 5 (v := .int .i64 d.an) h183 rfl rfl ⟨hB166, hr171, hk179⟩ (fun x hx => (rn_load1 rfl rfl Try.isAgg3 (hx.2.2.cell rfl))) fun a184 h184 => ?_; clear h183
   refine dk0 7 (v := pt N31 5) h184 rfl rfl ⟨hB166, hr171, hk179⟩ fun a185 h185 => ?_; clear h184
   refine dk 8 (v := .int .i64 d.am) h185 rfl rfl ⟨hB166, hr171, hk179⟩ (fun x hx => (rn_load1 rfl rfl Try.isAgg3 (hx.2.2.cell rfl))) fun a186 h186 => ?_; clear h185
   refine dk0 10 (v := pt N31 4) h186 rfl rfl ⟨hB166, hr171, hk179⟩ fun a187 h187 => ?_; clear h186
   refine dk 11 (v := .int .u64 d.at_) h187 rfl rfl ⟨hB166, hr171, hk179⟩ (fun x hx => (rn_load1 rfl rfl Try.isAgg23 (hx.2.2.cell rfl))) fun a188 h188 => ?_; clear h187
   refine dk0 13 (v := pt N31 2) h188 rfl rfl ⟨hB166, hr171, hk179⟩ fun a189 h189 => ?_; clear h188
   refine dk 14 (v := .string d.ky) h189 rfl rfl ⟨hB166, hr171, hk179⟩ (fun x hx => (rn_load1 rfl rfl Try.isAgg9 (hx.2.2.cell rfl))) fun a190 h190 => ?_; clear h189
   refine dk0 16 (v := pt N31 3) h190 rfl rfl ⟨hB166, hr171, hk179⟩ fun a191 h191 => ?_; clear h190
   refine dk 17 (v := .string d.tt) h191 rfl rfl ⟨hB166, hr171, hk179⟩ (fun x hx => (rn_load1 rfl rfl Try.isAgg9 (hx.2.2.cell rfl))) fun a192 h192 => ?_; clear h191
   refine dk0 19 (v := pt N31 6) h192 rfl rfl ⟨hB166, hr171, hk179⟩ fun a193 h193 => ?_; clear h192
   refine dk 20 (v := u15) h193 rfl rfl ⟨hB166, hr171, hk179⟩ (fun x hx => (rn_load1 rfl rfl Try.isAgg24 (hx.2.2.cell rfl))) fun a194 h194 => ?_; clear h193
   refine dk 21 (v := .int .i64 ((d.ops.length : Nat) : Int)) h194 rfl rfl ⟨hB166, hr171, hk179⟩ (fun x hx => (rn_lenOwn rfl rfl Try.underlying24 hx.2.1)) fun a195 h195 => ?_; clear h194
   have ho200 := ho137.new hg149
   refine d1 3 h195 rfl rfl (op_call (args := #[pt b107 0, .int .i64 d.ak]) (R := fun res xw => res = pt b107 0 ∧ OW b107 ((((([] : List UInt8) ++ putL d.k) ++ putL d.nd) ++ putL d.n) ++ putL d.ak) (0 + 9 + 9 + 9 + 9) xw ∧ But (Rw w148 b107) w148 xw) rfl rfl rfl (by kernel_rfl) (by kernel_rfl) (Try.call70 _ _) (ow_num b107 (((([] : List UInt8) ++ putL d.k) ++ putL d.nd) ++ putL d.n) (0 + 9 + 9 + 9) d.ak w148 ho200 (by omega) (by omega) (by omega)) (by rintro e x ⟨rfl, h1, h2⟩; exact ⟨_, rfl, rfl, h1, h2⟩)) ?_ ?_; clear h195
   ·
    rintro _ w197 ⟨rfl, ho198, hx199⟩
    have hz201 := hx199.size
    have hl202 := ho198.lt
    have hB203 := hb_wr hB166 ho200 (by omega) hx199
    have hr204 := row_wr hr171 ho200 (by decide) (ha111) hx199
    have hk205 := blk_wr hk179 ho200 (by decide) (by omega) hx199
    exact ⟨hB203, hr204, hk205⟩
   rintro _ w197 a196 ⟨rfl, ho198, hx199⟩ h196
   have hz201 := hx199.size
   have hl202 := ho198.lt
   have hB203 := hb_wr hB166 ho200 (by omega) hx199
   have hr204 := row_wr hr171 ho200 (by decide) (ha111) hx199
   have hk205 := blk_wr hk179 ho200 (by decide) (by omega) hx199
   refine d1 6 h196 rfl rfl (op_call (args := #[pt b107 0, .int .i64 d.an]) (R := fun res xw => res = pt b107 0 ∧ OW b107 (((((([] : List UInt8) ++ putL d.k) ++ putL d.nd) ++ putL d.n) ++ putL d.ak) ++ putL d.an) (0 + 9 + 9 + 9 + 9 + 9) xw ∧ But (Rw w197 b107) w197 xw) rfl rfl rfl (by kernel_rfl) (by kernel_rfl) (Try.call70 _ _) (ow_num b107 ((((([] : List UInt8) ++ putL d.k) ++ putL d.nd) ++ putL d.n) ++ putL d.ak) (0 + 9 + 9 + 9 + 9) d.an w197 ho198 (by omega) (by omega) (by omega)) (by rintro e x ⟨rfl, h1, h2⟩; exact ⟨_, rfl, rfl, h1, h2⟩)) ?_ ?_; clear h196
   ·
    rintro _ w207 ⟨rfl, ho208, hx209⟩
    have hz210 := hx209.size
    have hl211 := ho208.lt
    have hB212 := hb_wr hB203 ho198 (by omega) hx209
    have hr213 := row_wr hr204 ho198 (by decide) (ha111) hx209
    have hk214 := blk_wr hk205 ho198 (by decide) (by omega) hx209
    exact ⟨hB212, hr213, hk214⟩
   rintro _ w207 a206 ⟨rfl, ho208, hx209⟩ h206
   have hz210 := hx209.size
   have hl211 := ho208.lt
   have hB212 := hb_wr hB203 ho198 (by omega) hx209
   have hr213 := row_wr hr204 ho198 (by decide) (ha111) hx209
   have hk214 := blk_wr hk205 ho198 (by decide) (by omega) hx209
   refine d1 9 h206 rfl rfl (op_call (args := #[pt b107 0, .int .i64 d.am]) (R := fun res xw => res = pt b107 0 ∧ OW b107 ((((((([] : List UInt8) ++ putL d.k) ++ putL d.nd) ++ putL d.n) ++ putL d.ak) ++ putL d.an) ++ putL d.am) (0 + 9 + 9 + 9 + 9 + 9 + 9) xw ∧ But (Rw w207 b107) w207 xw) rfl rfl rfl (by kernel_rfl) (by kernel_rfl) (Try.call70 _ _) (ow_num b107 (((((([] : List UInt8) ++ putL d.k) ++ putL d.nd) ++ putL d.n) ++ putL d.ak) ++ putL d.an) (0 + 9 + 9 + 9 + 9 + 9) d.am w207 ho208 (by omega) (by omega) (by omega)) (by rintro e x ⟨rfl, h1, h2⟩; exact ⟨_, rfl, rfl, h1, h2⟩)) ?_ ?_; clear h206
   ·
    rintro _ w216 ⟨rfl, ho217, hx218⟩
    have hz219 := hx218.size
    have hl220 := ho217.lt
    have hB221 := hb_wr hB212 ho208 (by omega) hx218
    have hr222 := row_wr hr213 ho208 (by decide) (ha111) hx218
    have hk223 := blk_wr hk214 ho208 (by decide) (by omega) hx218
    exact ⟨hB221, hr222, hk223⟩
   rintro _ w216 a215 ⟨rfl, ho217, hx218⟩ h215
   have hz219 := hx218.size
   have hl220 := ho217.lt
   have hB221 := hb_wr hB212 ho208 (by omega) hx218
   have hr222 := row_wr hr213 ho208 (by decide) (ha111) hx218
   have hk223 := blk_wr hk214 ho208 (by decide) (by omega) hx218
   refine d1 12 h215 rfl rfl (op_call (args := #[pt b107 0, .int .u64 d.at_]) (R := fun res xw => res = pt b107 0 ∧ OW b107 (((((((([] : List UInt8) ++ putL d.k) ++ putL d.nd) ++ putL d.n) ++ putL d.ak) ++ putL d.an) ++ putL d.am) ++ putL d.at_) (0 + 9 + 9 + 9 + 9 + 9 + 9 + 9) xw ∧ But (Rw w216 b107) w216 xw) rfl rfl rfl (by kernel_rfl) (by kernel_rfl) (Try.call71 _ _) (ow_big b107 ((((((([] : List UInt8) ++ putL d.k) ++ putL d.nd) ++ putL d.n) ++ putL d.ak) ++ putL d.an) ++ putL d.am) (0 + 9 + 9 + 9 + 9 + 9 + 9) d.at_ w216 ho217 (by omega) (by omega) (by omega)) (by rintro e x ⟨rfl, h1, h2⟩; exact ⟨_, rfl, rfl, h1, h2⟩)) ?_ ?_; clear h215
   ·
    rintro _ w225 ⟨rfl, ho226, hx227⟩
    have hz228 := hx227.size
    have hl229 := ho226.lt
    have hB230 := hb_wr hB221 ho217 (by omega) hx227
    have hr231 := row_wr hr222 ho217 (by decide) (ha111) hx227
    have hk232 := blk_wr hk223 ho217 (by decide) (by omega) hx227
    exact ⟨hB230, hr231, hk232⟩
   rintro _ w225 a224 ⟨rfl, ho226, hx227⟩ h224
   have hz228 := hx227.size
   have hl229 := ho226.lt
   have hB230 := hb_wr hB221 ho217 (by omega) hx227
   have hr231 := row_wr hr222 ho217 (by decide) (ha111) hx227
   have hk232 := blk_wr hk223 ho217 (by decide) (by omega) hx227
   refine d1 15 h224 rfl rfl (op_call (args := #[pt b107 0, .string d.ky]) (R := fun res xw => res = pt b107 0 ∧ OW b107 ((((((((([] : List UInt8) ++ putL d.k) ++ putL d.nd) ++ putL d.n) ++ putL d.ak) ++ putL d.an) ++ putL d.am) ++ putL d.at_) ++ (putL (d.ky.size : Int) ++ d.ky.data.toList)) (0 + 9 + 9 + 9 + 9 + 9 + 9 + 9 + (9 + d.ky.size)) xw ∧ But (Rw w225 b107) w225 xw) rfl rfl rfl (by kernel_rfl) (by kernel_rfl) (Try.call72 _ _) (ow_text b107 (((((((([] : List UInt8) ++ putL d.k) ++ putL d.nd) ++ putL d.n) ++ putL d.ak) ++ putL d.an) ++ putL d.am) ++ putL d.at_) (0 + 9 + 9 + 9 + 9 + 9 + 9 + 9) d.ky w225 ho226 (by first | omega | (simp; done) | (simp; omega))) (by rintro e x ⟨rfl, h1, h2⟩; exact ⟨_, rfl, rfl, h1, h2⟩)) ?_ ?_; clear h224
   ·
    rintro _ w234 ⟨rfl, ho235, hx236⟩
    have hz237 := hx236.size
    have hl238 := ho235.lt
    have hB239 := hb_wr hB230 ho226 (by omega) hx236
    have hr240 := row_wr hr231 ho226 (by decide) (ha111) hx236
    have hk241 := blk_wr hk232 ho226 (by decide) (by omega) hx236
    exact ⟨hB239, hr240, hk241⟩
   rintro _ w234 a233 ⟨rfl, ho235, hx236⟩ h233
   have hz237 := hx236.size
   have hl238 := ho235.lt
   have hB239 := hb_wr hB230 ho226 (by omega) hx236
   have hr240 := row_wr hr231 ho226 (by decide) (ha111) hx236
   have hk241 := blk_wr hk232 ho226 (by decide) (by omega) hx236
   refine d1 18 h233 rfl rfl (op_call (args := #[pt b107 0, .string d.tt]) (R := fun res xw => res = pt b107 0 ∧ OW b107 (((((((((([] : List UInt8) ++ putL d.k) ++ putL d.nd) ++ putL d.n) ++ putL d.ak) ++ putL d.an) ++ putL d.am) ++ putL d.at_) ++ (putL (d.ky.size : Int) ++ d.ky.data.toList)) ++ (putL (d.tt.size : Int) ++ d.tt.data.toList)) (0 + 9 + 9 + 9 + 9 + 9 + 9 + 9 + (9 + d.ky.size) + (9 + d.tt.size)) xw ∧ But (Rw w234 b107) w234 xw) rfl rfl rfl (by kernel_rfl) (by kernel_rfl) (Try.call72 _ _) (ow_text b107 ((((((((([] : List UInt8) ++ putL d.k) ++ putL d.nd) ++ putL d.n) ++ putL d.ak) ++ putL d.an) ++ putL d.am) ++ putL d.at_) ++ (putL (d.ky.size : Int) ++ d.ky.data.toList)) (0 + 9 + 9 + 9 + 9 + 9 + 9 + 9 + (9 + d.ky.size)) d.tt w234 ho235 (by first | omega | (simp; done) | (simp; omega))) (by rintro e x ⟨rfl, h1, h2⟩; exact ⟨_, rfl, rfl, h1, h2⟩)) ?_ ?_; clear h233
   ·
    rintro _ w243 ⟨rfl, ho244, hx245⟩
    have hz246 := hx245.size
    have hl247 := ho244.lt
    have hB248 := hb_wr hB239 ho235 (by omega) hx245
    have hr249 := row_wr hr240 ho235 (by decide) (ha111) hx245
    have hk250 := blk_wr hk241 ho235 (by decide) (by omega) hx245
    exact ⟨hB248, hr249, hk250⟩
   rintro _ w243 a242 ⟨rfl, ho244, hx245⟩ h242
   have hz246 := hx245.size
   have hl247 := ho244.lt
   have hB248 := hb_wr hB239 ho235 (by omega) hx245
   have hr249 := row_wr hr240 ho235 (by decide) (ha111) hx245
   have hk250 := blk_wr hk241 ho235 (by decide) (by omega) hx245
   refine d1 22 h242 rfl rfl (op_call (args := #[pt b107 0, .int .i64 ((d.ops.length : Nat) : Int)]) (R := fun res xw => res = pt b107 0 ∧ OW b107 ((((((((((([] : List UInt8) ++ putL d.k) ++ putL d.nd) ++ putL d.n) ++ putL d.ak) ++ putL d.an) ++ putL d.am) ++ putL d.at_) ++ (putL (d.ky.size : Int) ++ d.ky.data.toList)) ++ (putL (d.tt.size : Int) ++ d.tt.data.toList)) ++ putL ((d.ops.length : Nat) : Int)) (0 + 9 + 9 + 9 + 9 + 9 + 9 + 9 + (9 + d.ky.size) + (9 + d.tt.size) + 9) xw ∧ But (Rw w243 b107) w243 xw) rfl rfl rfl (by kernel_rfl) (by kernel_rfl) (Try.call70 _ _) (ow_num b107 (((((((((([] : List UInt8) ++ putL d.k) ++ putL d.nd) ++ putL d.n) ++ putL d.ak) ++ putL d.an) ++ putL d.am) ++ putL d.at_) ++ (putL (d.ky.size : Int) ++ d.ky.data.toList)) ++ (putL (d.tt.size : Int) ++ d.tt.data.toList)) (0 + 9 + 9 + 9 + 9 + 9 + 9 + 9 + (9 + d.ky.size) + (9 + d.tt.size)) ((d.ops.length : Nat) : Int) w243 ho244 (by omega) (by omega) (by omega)) (by rintro e x ⟨rfl, h1, h2⟩; exact ⟨_, rfl, rfl, h1, h2⟩)) ?_ ?_; clear h242
   ·
    rintro _ w252 ⟨rfl, ho253, hx254⟩
    have hz255 := hx254.size
    have hl256 := ho253.lt
    have hB257 := hb_wr hB248 ho244 (by omega) hx254
    have hr258 := row_wr hr249 ho244 (by decide) (ha111) hx254
    have hk259 := blk_wr hk250 ho244 (by decide) (by omega) hx254
    exact ⟨hB257, hr258, hk259⟩
   rintro _ w252 a251 ⟨rfl, ho253, hx254⟩ h251
   have hz255 := hx254.size
   have hl256 := ho253.lt
   refine dr_done (by kernel_rfl) ?_
   refine co_then ?_
   refine co_seq ?_
   refine co_reg ?_
   refine pk0 (v := pt N31 6) h251 rfl fun a257 h257 => ?_; clear h251
   have hk258 := blk_wr hk250 ho244 (by decide) (by omega) hx254
   refine pk (v := u15) h257 rfl (rn_load1 rfl rfl Try.isAgg24 (hk258.cell rfl)) fun a259 h259 => ?_; clear h257
   have hr260 := row_wr hr249 ho244 (by decide) (ha111) hx254
   refine pk (v := .int .i64 ((d.ops.length : Nat) : Int)) h259 rfl (rn_lenOwn rfl rfl Try.underlying24 hr260) fun a261 h261 => ?_; clear h259
   refine pk0 (v := .int .i64 0) h261 rfl fun a262 h262 => ?_; clear h261
   refine pl_nil ?_
   refine co_then ?_
   refine wp_block ?_
   have h263 : Slots 95 [(1, pt N3 0), (4, pt N31 0), (5, pt b107 0), (66, u15), (67, .int .i64 ((d.ops.length : Nat) : Int)), (68, .int .i64 0)] _ := h262.sub ⟨rfl, rfl, rfl, rfl, rfl, rfl, trivial⟩; clear h262
   refine co_loop (fun mm a x => ∃ (i : Nat), Slots 95 [(1, pt N3 0), (4, pt N31 0), (5, pt b107 0), (66, u15), (67, .int .i64 ((d.ops.length : Nat) : Int)), (68, .int .i64 ((i : Nat) : Int))] a ∧ mm = d.ops.length - i ∧ (i ≤ d.ops.length) ∧ x.ownsRow w2.heap.size 66 3 u15 d.ops.length (d.ops.flatMap opE) ∧ OW b107 (hedB d ++ (putL d.ak ++ putL d.an ++ putL d.am ++ putL d.at_ ++ txB d.ky ++ txB d.tt ++ putL ((d.ops.length : Nat) : Int)) ++ putOs (d.ops.take i)) (10000000 + i * 3000000) x ∧ Below w.heap.size w x ∧ Blk x N3 60 #[.int .i64 d.k, .int .i64 d.nd, .int .i64 d.n, .int .i64 d.ak, .int .i64 d.an, .string d.ky, .string d.tt, .int .u64 d.at_, .int .i64 d.am, u15] ∧ Blk x N31 35 #[.int .i64 d.ak, .int .i64 d.an, .string d.ky, .string d.tt, .int .u64 d.at_, .int .i64 d.am, u15] ∧ Blk x N62 3 #[.int .i64 d.k, .int .i64 d.nd, .int .i64 d.n, .int .i64 d.ak, .int .i64 d.an, .int .i64 d.am]) (d.ops.length - 0) ?_ ?_
   have hB264 := hb_wr hB248 ho244 (by omega) hx254
   have hk265 := hk142.kept hg149 (by simp)
   have hk266 := blk_wr hk265 ho200 (by decide) (by omega) hx199
   have hk267 := blk_wr hk266 ho198 (by decide) (by omega) hx209
   have hk268 := blk_wr hk267 ho208 (by decide) (by omega) hx218
   have hk269 := blk_wr hk268 ho217 (by decide) (by omega) hx227
   have hk270 := blk_wr hk269 ho226 (by decide) (by omega) hx236
   have hk271 := blk_wr hk270 ho235 (by decide) (by omega) hx245
   have hk272 := blk_wr hk271 ho244 (by decide) (by omega) hx254
   have hk273 := hk64.below hb72
   have hk274 := hk273.kept hg76 (by simp)
   have hk275 := hk274.below hb110
   have hk276 := blk_wr hk275 ho109 (by decide) (by omega) hx122
   have hk277 := blk_wr hk276 ho121 (by decide) (by omega) hx130
   have hk278 := blk_wr hk277 ho129 (by decide) (by omega) hx138
   have hk279 := hk278.kept hg149 (by simp)
   have hk280 := blk_wr hk279 ho200 (by decide) (by omega) hx199
   have hk281 := blk_wr hk280 ho198 (by decide) (by omega) hx209
   have hk282 := blk_wr hk281 ho208 (by decide) (by omega) hx218
   have hk283 := blk_wr hk282 ho217 (by decide) (by omega) hx227
   have hk284 := blk_wr hk283 ho226 (by decide) (by omega) hx236
   have hk285 := blk_wr hk284 ho235 (by decide) (by omega) hx245
   have hk286 := blk_wr hk285 ho244 (by decide) (by omega) hx254
   · exact ⟨0, h263.sub ⟨rfl, rfl, rfl, rfl, rfl, (slot_eq rfl (congrArg (Value.int .i64) (by first | rfl | omega))), trivial⟩, rfl, by omega, hr260, (ho253.eq (by first | (simp [putOs, hedB, txB]; done) | (rw [takeO_at (by assumption)]; simp [putOs, putO1])) (by first | omega | (simp; done) | (simp; omega))), hB264, hk272, hk258, hk286⟩
   · rintro k287 a288 w289 ⟨i, h288, rfl, hi290, hf291, hf292, hB293, hk294, hk295, hk296⟩
     have hz297 := hB293.size
     have hl298 := hk294.lt
     have hl299 := hk295.lt
     have hl300 := hk296.lt
     have hl301 := hf292.lt
     refine co_seq ?_
     refine co_reg ?_
     refine pk0 (v := .bool (decide (((i : Nat) : Int) < ((d.ops.length : Nat) : Int)))) h288 rfl fun a302 h302 => ?_; clear h288
     refine pl_nil ?_
     refine co_then ?_
     refine co_seq ?_
     cases hc303 : (decide (((i : Nat) : Int) < ((d.ops.length : Nat) : Int)))
     ·
      rw [hc303] at h302
      have hp304 : ¬ (((i : Nat) : Int) < ((d.ops.length : Nat) : Int)) := of_decide_eq_false hc303
      clear hc303
      refine co_false h302 rfl ?_
      refine wp_exit ?_
      refine co_thenX ?_
      refine co_thenX ?_
      refine co_blockX ?_
      refine co_then ?_
      refine co_seq ?_
      refine co_reg ?_
      refine pk0 (v := pt b107 0) h302 rfl fun a305 h305 => ?_; clear h302
      have hW310 := OW.eq (l' := evB d) hf292 (by rw [evB_y hk0]; simp [hedB, askB, txB, List.take_of_length_le (show d.ops.length ≤ i by omega)]) (Nat.le_refl _)
      obtain ⟨sv309, hsv⟩ : ∃ s : ByteArray, s = ⟨(evB d).toArray⟩ := ⟨_, rfl⟩
      have hsz := evS_size hsv
      refine pw h305 rfl (op_call (args := #[pt b107 0]) (R := fun res xw => res = .tuple #[.string sv309, .int .i64 0] ∧ Below w289.heap.size w289 xw) rfl rfl rfl (by kernel_rfl) (by kernel_rfl) (Try.call74 _ _) (ow_done b107 _ _ w289 hW310) (by rintro q x ⟨h1, h2⟩; rw [← hsv] at h1; exact ⟨_, h1, rfl, h2⟩)) ?_; clear h305
      rintro _ w307 a306 ⟨rfl, hb308⟩ h306
      have hz311 := hb308.size
      refine pk0 (v := .tuple #[.string sv309, .int .i64 0]) h306 rfl fun a312 h312 => ?_; clear h306
      refine pk0 (v := .string sv309) h312 rfl fun a313 h313 => ?_; clear h312
      refine pk0 (v := .int .i64 0) h313 rfl fun a314 h314 => ?_; clear h313
      refine pk0 (v := .string sv309) h314 rfl fun a315 h315 => ?_; clear h314
      refine pk0 (v := .int .i64 0) h315 rfl fun a316 h316 => ?_; clear h315
      refine pl_nil ?_
      refine co_then ?_
      refine co_seq ?_
      refine co_seq ?_
      refine co_reg ?_
      refine pk0 (v := .int .i64 0) h316 rfl fun a317 h317 => ?_; clear h316
      refine pk0 (v := .bool ((0 : Int) != 0)) h317 rfl fun a318 h318 => ?_; clear h317
      refine pl_nil ?_
      refine co_then ?_
      have hc319 : ((0 : Int) != 0) = false := by first | (simp; done) | (simp; omega) | exact beq_false_of_ne (by omega) | exact beq_iff_eq.2 (by omega)
      rw [hc319] at h318; clear hc319
      refine co_false h318 rfl ?_
      refine wp_skip ?_
      refine co_then ?_
      refine co_seq ?_
      refine co_seq ?_
      refine co_reg ?_
      refine pk0 (v := .string sv309) h318 rfl fun a320 h320 => ?_; clear h318
      refine pk (v := .int .i64 ((sv309.size : Nat) : Int)) h320 rfl (rn_lenStr rfl rfl Try.underlying9) fun a321 h321 => ?_; clear h320
      refine pk0 (v := .bool (decide (((sv309.size : Nat) : Int) > 255))) h321 rfl fun a322 h322 => ?_; clear h321
      refine pl_nil ?_
      refine co_then ?_
      have hB324 := hb_call hB293 hb308
      cases hc323 : (decide (((sv309.size : Nat) : Int) > 255))
      ·
       rw [hc323] at h322
       have hp325 : ¬ (((sv309.size : Nat) : Int) > 255) := of_decide_eq_false hc323
       clear hc323
       refine co_false h322 rfl ?_
       refine wp_skip ?_
       refine co_then ?_
       refine co_seq ?_
       refine co_reg ?_
       refine pk0 (v := .string sv309) h322 rfl fun a326 h326 => ?_; clear h322
       refine pk0 (v := .string sv309) h326 rfl fun a327 h327 => ?_; clear h326
       refine pk0 (v := .int .i64 0) h327 rfl fun a328 h328 => ?_; clear h327
       refine pl_nil ?_
       refine co_then ?_
       refine wp_ret ?_
       refine co_ret2 h328 rfl rfl rfl ?_
       exact ⟨by rw [(oneE_0 hr (by omega)).1, (oneE_0 hr (by omega)).2, hsv], hB324⟩
      ·
       rw [hc323] at h322
       have hp329 : ((sv309.size : Nat) : Int) > 255 := of_decide_eq_true hc323
       clear hc323
       refine co_true h322 rfl ?_
       refine co_seq ?_
       refine co_reg ?_
       refine pk0 (v := .string (⟨#[]⟩)) h322 rfl fun a330 h330 => ?_; clear h322
       refine pk0 (v := .int .i64 3) h330 rfl fun a331 h331 => ?_; clear h330
       refine pl_nil ?_
       refine co_then ?_
       refine wp_ret ?_
       refine co_thenR ?_
       refine co_ret2 h331 rfl rfl rfl ?_
       exact ⟨by rw [(oneE_3 hr (by omega)).1, (oneE_3 hr (by omega)).2], hB324⟩
     ·
      rw [hc303] at h302
      have hp332 : ((i : Nat) : Int) < ((d.ops.length : Nat) : Int) := of_decide_eq_true hc303
      clear hc303
      refine co_true h302 rfl ?_
      refine wp_skip ?_
      refine co_then ?_
      refine co_seq ?_
      refine wp_block ?_
      refine co_seq ?_
      refine co_reg ?_
      obtain ⟨y333, hy333⟩ : ∃ z, d.ops[i]? = some z := ⟨_, List.getElem?_eq_getElem (by first | omega | (simp; done) | (simp; omega))⟩
      have hqy333 := hS.ops _ (List.mem_of_getElem? hy333)
      refine pk (v := pt (blkOf u15) (offOf u15 + i * 3)) h302 rfl (rn_index rfl rfl rfl Try.underlying24 Try.sizeOf66 (row_sl hf291 opE_len) (by omega) (by first | omega | (simp; done) | (simp; omega))) fun a334 h334 => ?_; clear h302
      refine pk (v := .agg #[.string y333.1, .string y333.2.1, .bool y333.2.2]) h334 rfl (rn_loadN rfl rfl Try.underlying66 rfl (by kernel_rfl) (sl_at (row_sl hf291 opE_len) hy333)) fun a335 h335 => ?_; clear h334
      refine pw h335 rfl (op_new (v := fun N => pt N 0) (T := 66) (cs := #[.string (⟨#[]⟩), .string (⟨#[]⟩), .bool false]) (by kernel_rfl) (by kernel_rfl) (by kernel_rfl)) ?_; clear h335
      rintro _ w337 a336 ⟨N338, rfl, hN341, hz342, hk340, hg339⟩ h336
      have ha343 := row_fresh hf291 hN341
      have hz344 := hg339.size
      try dsimp only at h336
      refine pwD h336 rfl (op_storeN rfl rfl rfl (by kernel_rfl) (by kernel_rfl) hk340 rfl) ?_; clear h336
      rintro _ w346 a345 ⟨hk347, hz348, hg349⟩ h345
      have hk347' : Blk w346 N338 66 #[.string y333.1, .string y333.2.1, .bool y333.2.2] := hk347; clear hk347
      have hz350 := hg349.size
      refine pl_nil ?_
      refine co_then ?_
      refine dr_gen (fun x => Below w.heap.size w x ∧ Blk x N338 66 #[.string y333.1, .string y333.2.1, .bool y333.2.2]) (by kernel_rfl) (fun w351 hg352 => ?_) (fun w351 hg352 => ?_)
      ·
       have hz353 := hg352.size
       have hB354 := hb_new hB293 hg339
       have hB355 := hb_at hB354 hg349 (by omega)
       have hB356 := hb_new hB355 hg352
       have hk357 := hk347'.kept hg352 (by simp)
       exact ⟨hB356, hk357⟩
      have hz358 := hg352.size
      have hB359 := hb_new hB293 hg339
      have hB360 := hb_at hB359 hg349 (by omega)
      have hB361 := hb_new hB360 hg352
      have hk362 := hk347'.kept hg352 (by simp)
      refine dk0 0 (v := pt b107 0) h345 rfl rfl ⟨hB361, hk362⟩ fun a363 h363 => ?_; clear h345
      refine dk0 1 (v := pt N338 0) h363 rfl rfl ⟨hB361, hk362⟩ fun a364 h364 => ?_; clear h363
      refine dk 2 (v := .string y333.1) h364 rfl rfl ⟨hB361, hk362⟩ (fun x hx => (rn_load1 rfl rfl Try.isAgg9 (hx.2.cell rfl))) fun a365 h365 => ?_; clear h364
      refine dk0 4 (v := pt N338 2) h365 rfl rfl ⟨hB361, hk362⟩ fun a366 h366 => ?_; clear h365
      refine dk 5 (v := .bool y333.2.2) h366 rfl rfl ⟨hB361, hk362⟩ (fun x hx => (rn_load1 rfl rfl Try.isAgg4 (hx.2.cell rfl))) fun a367 h367 => ?_; clear h366
      refine dk0 7 (v := pt N338 1) h367 rfl rfl ⟨hB361, hk362⟩ fun a368 h368 => ?_; clear h367
      refine dk 8 (v := .string y333.2.1) h368 rfl rfl ⟨hB361, hk362⟩ (fun x hx => (rn_load1 rfl rfl Try.isAgg9 (hx.2.cell rfl))) fun a369 h369 => ?_; clear h368
      have ho374 := hf292.new hg339
      have ho375 := ho374.at hk340 (by decide) (by omega) hg349
      have ho376 := ho375.new hg352
      refine d1 3 h369 rfl rfl (op_call (args := #[pt b107 0, .string y333.1]) (R := fun res xw => res = pt b107 0 ∧ OW b107 ((hedB d ++ (putL d.ak ++ putL d.an ++ putL d.am ++ putL d.at_ ++ txB d.ky ++ txB d.tt ++ putL ((d.ops.length : Nat) : Int)) ++ putOs (d.ops.take i)) ++ (putL (y333.1.size : Int) ++ y333.1.data.toList)) (10000000 + i * 3000000 + (9 + y333.1.size)) xw ∧ But (Rw w351 b107) w351 xw) rfl rfl rfl (by kernel_rfl) (by kernel_rfl) (Try.call72 _ _) (ow_text b107 (hedB d ++ (putL d.ak ++ putL d.an ++ putL d.am ++ putL d.at_ ++ txB d.ky ++ txB d.tt ++ putL ((d.ops.length : Nat) : Int)) ++ putOs (d.ops.take i)) (10000000 + i * 3000000) y333.1 w351 ho376 (by first | omega | (simp; done) | (simp; omega))) (by rintro e x ⟨rfl, h1, h2⟩; exact ⟨_, rfl, rfl, h1, h2⟩)) ?_ ?_; clear h369
      ·
       rintro _ w371 ⟨rfl, ho372, hx373⟩
       have hz377 := hx373.size
       have hl378 := ho372.lt
       have hB379 := hb_wr hB361 ho376 (by omega) hx373
       have hk380 := blk_wr hk362 ho376 (by decide) (by omega) hx373
       exact ⟨hB379, hk380⟩
      rintro _ w371 a370 ⟨rfl, ho372, hx373⟩ h370
      have hz377 := hx373.size
      have hl378 := ho372.lt
      have hB379 := hb_wr hB361 ho376 (by omega) hx373
      have hk380 := blk_wr hk362 ho376 (by decide) (by omega) hx373
      refine d1 6 h370 rfl rfl (op_call (args := #[pt b107 0, .bool y333.2.2]) (R := fun res xw => res = pt b107 0 ∧ OW b107 (((hedB d ++ (putL d.ak ++ putL d.an ++ putL d.am ++ putL d.at_ ++ txB d.ky ++ txB d.tt ++ putL ((d.ops.length : Nat) : Int)) ++ putOs (d.ops.take i)) ++ (putL (y333.1.size : Int) ++ y333.1.data.toList)) ++ [flagB y333.2.2]) (10000000 + i * 3000000 + (9 + y333.1.size) + 1) xw ∧ But (Rw w371 b107) w371 xw) rfl rfl rfl (by kernel_rfl) (by kernel_rfl) (Try.call73 _ _) (ow_flag b107 ((hedB d ++ (putL d.ak ++ putL d.an ++ putL d.am ++ putL d.at_ ++ txB d.ky ++ txB d.tt ++ putL ((d.ops.length : Nat) : Int)) ++ putOs (d.ops.take i)) ++ (putL (y333.1.size : Int) ++ y333.1.data.toList)) (10000000 + i * 3000000 + (9 + y333.1.size)) y333.2.2 w371 ho372 (by omega)) (by rintro e x ⟨rfl, h1, h2⟩; exact ⟨_, rfl, rfl, h1, h2⟩)) ?_ ?_; clear h370
      ·
       rintro _ w382 ⟨rfl, ho383, hx384⟩
       have hz385 := hx384.size
       have hl386 := ho383.lt
       have hB387 := hb_wr hB379 ho372 (by omega) hx384
       have hk388 := blk_wr hk380 ho372 (by decide) (by omega) hx384
       exact ⟨hB387, hk388⟩
      rintro _ w382 a381 ⟨rfl, ho383, hx384⟩ h381
      have hz385 := hx384.size
      have hl386 := ho383.lt
      have hB387 := hb_wr hB379 ho372 (by omega) hx384
      have hk388 := blk_wr hk380 ho372 (by decide) (by omega) hx384
      refine d1 9 h381 rfl rfl (op_call (args := #[pt b107 0, .string y333.2.1]) (R := fun res xw => res = pt b107 0 ∧ OW b107 ((((hedB d ++ (putL d.ak ++ putL d.an ++ putL d.am ++ putL d.at_ ++ txB d.ky ++ txB d.tt ++ putL ((d.ops.length : Nat) : Int)) ++ putOs (d.ops.take i)) ++ (putL (y333.1.size : Int) ++ y333.1.data.toList)) ++ [flagB y333.2.2]) ++ (putL (y333.2.1.size : Int) ++ y333.2.1.data.toList)) (10000000 + i * 3000000 + (9 + y333.1.size) + 1 + (9 + y333.2.1.size)) xw ∧ But (Rw w382 b107) w382 xw) rfl rfl rfl (by kernel_rfl) (by kernel_rfl) (Try.call72 _ _) (ow_text b107 (((hedB d ++ (putL d.ak ++ putL d.an ++ putL d.am ++ putL d.at_ ++ txB d.ky ++ txB d.tt ++ putL ((d.ops.length : Nat) : Int)) ++ putOs (d.ops.take i)) ++ (putL (y333.1.size : Int) ++ y333.1.data.toList)) ++ [flagB y333.2.2]) (10000000 + i * 3000000 + (9 + y333.1.size) + 1) y333.2.1 w382 ho383 (by first | omega | (simp; done) | (simp; omega))) (by rintro e x ⟨rfl, h1, h2⟩; exact ⟨_, rfl, rfl, h1, h2⟩)) ?_ ?_; clear h381
      ·
       rintro _ w390 ⟨rfl, ho391, hx392⟩
       have hz393 := hx392.size
       have hl394 := ho391.lt
       have hB395 := hb_wr hB387 ho383 (by omega) hx392
       have hk396 := blk_wr hk388 ho383 (by decide) (by omega) hx392
       exact ⟨hB395, hk396⟩
      rintro _ w390 a389 ⟨rfl, ho391, hx392⟩ h389
      have hz393 := hx392.size
      have hl394 := ho391.lt
      refine dr_done (by kernel_rfl) ?_
      refine co_blockN ?_
      refine co_then ?_
      refine co_reg ?_
      refine pk (v := .int .i64 ((i + 1 : Nat) : Int)) h389 rfl (rn_arith' rfl rfl rfl rfl rfl rfl (IntWalk.i64_in _ (by omega)) (by omega)) fun a395 h395 => ?_; clear h389
      refine pk0 (v := .int .i64 ((i + 1 : Nat) : Int)) h395 rfl fun a396 h396 => ?_; clear h395
      refine pl_nil ?_
      refine co_then ?_
      refine ⟨(d.ops.length - (i + 1)), by omega, ?_⟩
      have hr397 := row_kept_new hf291 hg339
      have hr398 := row_kept_at hr397 hg349 (ha343)
      have hr399 := row_kept_new hr398 hg352
      have hr400 := row_wr hr399 ho376 (by decide) (ha111) hx373
      have hr401 := row_wr hr400 ho372 (by decide) (ha111) hx384
      have hr402 := row_wr hr401 ho383 (by decide) (ha111) hx392
      have hB403 := hb_wr hB387 ho383 (by omega) hx392
      have hk404 := hk294.kept hg339 (by simp)
      have hk405 := hk404.kept hg349 (by simp; omega)
      have hk406 := hk405.kept hg352 (by simp)
      have hk407 := blk_wr hk406 ho376 (by decide) (by omega) hx373
      have hk408 := blk_wr hk407 ho372 (by decide) (by omega) hx384
      have hk409 := blk_wr hk408 ho383 (by decide) (by omega) hx392
      have hk410 := hk295.kept hg339 (by simp)
      have hk411 := hk410.kept hg349 (by simp; omega)
      have hk412 := hk411.kept hg352 (by simp)
      have hk413 := blk_wr hk412 ho376 (by decide) (by omega) hx373
      have hk414 := blk_wr hk413 ho372 (by decide) (by omega) hx384
      have hk415 := blk_wr hk414 ho383 (by decide) (by omega) hx392
      have hk416 := hk296.kept hg339 (by simp)
      have hk417 := hk416.kept hg349 (by simp; omega)
      have hk418 := hk417.kept hg352 (by simp)
      have hk419 := blk_wr hk418 ho376 (by decide) (by omega) hx373
      have hk420 := blk_wr hk419 ho372 (by decide) (by omega) hx384
      have hk421 := blk_wr hk420 ho383 (by decide) (by omega) hx392
      exact ⟨i + 1, h396.sub ⟨rfl, rfl, rfl, rfl, rfl, rfl, trivial⟩, rfl, by omega, hr402, (ho391.eq (by first | (simp [putOs, hedB, txB]; done) | (rw [takeO_at (by assumption)]; simp [putOs, putO1])) (by first | omega | (simp; done) | (simp; omega))), hB403, hk409, hk415, hk421⟩
 · skip
   have hrr := rng_o hr hk0
   refine co_enter (n := 95) Try.func41 rfl rfl rfl [(0, .agg #[.int .i64 d.k, .int .i64 d.nd, .int .i64 d.n, .int .i64 d.ak, .int .i64 d.an, .string d.ky, .string d.tt, .int .u64 d.at_, .int .i64 d.am, ov])] rfl (fun a h0 => ?_)
   refine co_seq ?_
   refine co_reg ?_
   refine pw h0 rfl (op_new (v := fun N => pt N 0) (T := 60) (cs := #[.int .i64 d.k, .int .i64 d.nd, .int .i64 d.n, .int .i64 d.ak, .int .i64 d.an, .string d.ky, .string d.tt, .int .u64 d.at_, .int .i64 d.am, ov]) (by kernel_rfl) (by kernel_rfl) (by kernel_rfl)) ?_; clear h0
   rintro _ w423 a422 ⟨N424, rfl, hN427, hz428, hk426, hg425⟩ h422
   have hz429 := hg425.size
   try dsimp only at h422
   refine pk0 (v := .string (⟨#[]⟩)) h422 rfl fun a430 h430 => ?_; clear h422
   refine pk0 (v := .int .i64 0) h430 rfl fun a431 h431 => ?_; clear h430
   refine pl_nil ?_
   refine co_then ?_
   refine co_seq ?_
   refine co_reg ?_
   refine pk (v := .agg #[.int .i64 d.k, .int .i64 d.nd, .int .i64 d.n, .int .i64 d.ak, .int .i64 d.an, .string d.ky, .string d.tt, .int .u64 d.at_, .int .i64 d.am, ov]) h431 rfl (rn_loadN rfl rfl Try.underlying60 rfl (by kernel_rfl) hk426.all) fun a432 h432 => ?_; clear h431
   have hB435 := hb_new hB0 hg425
   refine pw h432 rfl (op_call (args := #[.agg #[.int .i64 d.k, .int .i64 d.nd, .int .i64 d.n, .int .i64 d.ak, .int .i64 d.an, .string d.ky, .string d.tt, .int .u64 d.at_, .int .i64 d.am, ov]]) (R := fun res xw => ∃ u : Value, res = .agg #[.int .i64 d.k, .int .i64 d.nd, .int .i64 d.n, .int .i64 d.ak, .int .i64 d.an, .string d.ky, .string d.tt, .int .u64 d.at_, .int .i64 d.am, u] ∧ xw.ownsRow w423.heap.size 66 3 u d.ops.length (d.ops.flatMap opE) ∧ Below w423.heap.size w423 xw) rfl rfl rfl (by kernel_rfl) (by kernel_rfl) (Try.call23 _ _) (clean_y _ ov w423 (hs.below hB435) hln hk0) (by rintro e x ⟨u, rfl, hq437, hb438⟩; exact ⟨_, rfl, ⟨u, rfl, hq437, hb438⟩⟩)) ?_; clear h432
   rintro _ w434 a433 ⟨u436, rfl, hq437, hb438⟩ h433
   have hz439 := hb438.size
   have hl440 := sl_len (row_sl hq437 opE_len)
   have hk446 := hk426.below hb438
   refine pwD h433 rfl (op_storeN rfl rfl rfl (all_cons rfl (all_cons rfl (all_cons rfl (all_cons rfl (all_cons rfl (all_cons rfl (all_cons rfl (all_cons rfl (all_cons rfl (all_cons (row_one hq437) all_nil)))))))))) (by kernel_rfl) hk446 rfl) ?_; clear h433
   rintro _ w442 a441 ⟨hk443, hz444, hg445⟩ h441
   have hk443' : Blk w442 N424 60 #[.int .i64 d.k, .int .i64 d.nd, .int .i64 d.n, .int .i64 d.ak, .int .i64 d.an, .string d.ky, .string d.tt, .int .u64 d.at_, .int .i64 d.am, u436] := hk443; clear hk443
   have hz447 := hg445.size
   refine pl_nil ?_
   refine co_then ?_
   refine co_seq ?_
   refine co_reg ?_
   refine pk0 (v := pt N424 3) h441 rfl fun a448 h448 => ?_; clear h441
   refine pk (v := .agg #[.int .i64 d.ak, .int .i64 d.an, .string d.ky, .string d.tt, .int .u64 d.at_, .int .i64 d.am, u436]) h448 rfl (rn_loadN rfl rfl Try.underlying35 rfl (by kernel_rfl) (blk_part hk443' 3 (by rfl))) fun a449 h449 => ?_; clear h448
   refine pw h449 rfl (op_new (v := fun N => pt N 0) (T := 35) (cs := #[.int .i64 0, .int .i64 0, .string (⟨#[]⟩), .string (⟨#[]⟩), .int .u64 0, .int .i64 0, .slice none 0 0]) (by kernel_rfl) (by kernel_rfl) (by kernel_rfl)) ?_; clear h449
   rintro _ w451 a450 ⟨N452, rfl, hN455, hz456, hk454, hg453⟩ h450
   have hr458 := row_kept_at hq437 hg445 (own_neT hq437 hk446 (by decide))
   have ha457 := row_fresh hr458 hN455
   have hz459 := hg453.size
   try dsimp only at h450
   have hr465 := row_kept_new hr458 hg453
   refine pwD h450 rfl (op_storeN rfl rfl rfl (all_cons rfl (all_cons rfl (all_cons rfl (all_cons rfl (all_cons rfl (all_cons rfl (all_cons (row_one hr465) all_nil))))))) (by kernel_rfl) hk454 rfl) ?_; clear h450
   rintro _ w461 a460 ⟨hk462, hz463, hg464⟩ h460
   have hk462' : Blk w461 N452 35 #[.int .i64 d.ak, .int .i64 d.an, .string d.ky, .string d.tt, .int .u64 d.at_, .int .i64 d.am, u436] := hk462; clear hk462
   have hz466 := hg464.size
   refine pl_nil ?_
   refine co_then ?_
   refine co_seq ?_
   refine co_seq ?_
   refine co_reg ?_
   refine pk0 (v := pt N424 0) h460 rfl fun a467 h467 => ?_; clear h460
   have hk468 := hk443'.kept hg453 (by simp)
   have hk469 := hk468.kept hg464 (by simp; omega)
   refine pk (v := .int .i64 d.k) h467 rfl (rn_load1 rfl rfl Try.isAgg3 (hk469.cell rfl)) fun a470 h470 => ?_; clear h467
   refine pk0 (v := pt N424 1) h470 rfl fun a471 h471 => ?_; clear h470
   refine pk (v := .int .i64 d.nd) h471 rfl (rn_load1 rfl rfl Try.isAgg3 (hk469.cell rfl)) fun a472 h472 => ?_; clear h471
   refine pk0 (v := pt N424 2) h472 rfl fun a473 h473 => ?_; clear h472
   refine pk (v := .int .i64 d.n) h473 rfl (rn_load1 rfl rfl Try.isAgg3 (hk469.cell rfl)) fun a474 h474 => ?_; clear h473
   refine pk0 (v := pt N452 0) h474 rfl fun a475 h475 => ?_; clear h474
   refine pk (v := .int .i64 d.ak) h475 rfl (rn_load1 rfl rfl Try.isAgg3 (hk462'.cell rfl)) fun a476 h476 => ?_; clear h475
   refine pk0 (v := pt N452 1) h476 rfl fun a477 h477 => ?_; clear h476
   refine pk (v := .int .i64 d.an) h477 rfl (rn_load1 rfl rfl Try.isAgg3 (hk462'.cell rfl)) fun a478 h478 => ?_; clear h477
   refine pk0 (v := pt N452 5) h478 rfl fun a479 h479 => ?_; clear h478
   refine pk (v := .int .i64 d.am) h479 rfl (rn_load1 rfl rfl Try.isAgg3 (hk462'.cell rfl)) fun a480 h480 => ?_; clear h479
   refine pw h480 rfl (op_new (v := fun N => .slice (some ⟨N, 0, none⟩) 6 6) (T := 3) (cs := #[.int .i64 d.k, .int .i64 d.nd, .int .i64 d.n, .int .i64 d.ak, .int .i64 d.an, .int .i64 d.am]) (by kernel_rfl) (by kernel_rfl) (by kernel_rfl)) ?_; clear h480
   rintro _ w482 a481 ⟨N483, rfl, hN486, hz487, hk485, hg484⟩ h481
   have hr489 := row_kept_at hr465 hg464 (ha457)
   have ha488 := row_fresh hr489 hN486
   have hz490 := hg484.size
   try dsimp only at h481
   refine pw h481 rfl (op_call (args := #[.slice (some ⟨N483, 0, none⟩) 6 6]) (R := fun res xw => res = .bool false ∧ Below w482.heap.size w482 xw) rfl rfl rfl (by kernel_rfl) (by kernel_rfl) (Try.call68 _ _) (within_n N483 d.k d.nd d.n d.ak d.an d.am w482 hk485 (by omega)) (by rintro e x ⟨rfl, hb493⟩; exact ⟨_, rfl, ⟨rfl, hb493⟩⟩)) ?_; clear h481
   rintro _ w492 a491 ⟨rfl, hb493⟩ h491
   have hz494 := hb493.size
   refine pk0 (v := .bool true) h491 rfl fun a495 h495 => ?_; clear h491
   refine pl_nil ?_
   refine co_then ?_
   refine co_true h495 rfl ?_
   refine co_seq ?_
   refine co_reg ?_
   refine pk0 (v := .string (⟨#[]⟩)) h495 rfl fun a496 h496 => ?_; clear h495
   refine pk0 (v := .int .i64 5) h496 rfl fun a497 h497 => ?_; clear h496
   refine pl_nil ?_
   refine co_then ?_
   refine wp_ret ?_
   refine co_thenR ?_
   refine co_ret2 h497 rfl rfl rfl ?_
   have hB498 := hb_call hB435 hb438
   have hB499 := hb_at hB498 hg445 (by omega)
   have hB500 := hb_new hB499 hg453
   have hB501 := hb_at hB500 hg464 (by omega)
   have hB502 := hb_new hB501 hg484
   have hB503 := hb_call hB502 hb493
   exact ⟨by rw [(oneE_5 hr).1, (oneE_5 hr).2], hB503⟩
 · skip
   have hrr := rng_i2 hr hk0
   refine co_enter (n := 95) Try.func41 rfl rfl rfl [(0, .agg #[.int .i64 d.k, .int .i64 d.nd, .int .i64 d.n, .int .i64 d.ak, .int .i64 d.an, .string d.ky, .string d.tt, .int .u64 d.at_, .int .i64 d.am, ov])] rfl (fun a h0 => ?_)
   refine co_seq ?_
   refine co_reg ?_
   refine pw h0 rfl (op_new (v := fun N => pt N 0) (T := 60) (cs := #[.int .i64 d.k, .int .i64 d.nd, .int .i64 d.n, .int .i64 d.ak, .int .i64 d.an, .string d.ky, .string d.tt, .int .u64 d.at_, .int .i64 d.am, ov]) (by kernel_rfl) (by kernel_rfl) (by kernel_rfl)) ?_; clear h0
   rintro _ w505 a504 ⟨N506, rfl, hN509, hz510, hk508, hg507⟩ h504
   have hz511 := hg507.size
   try dsimp only at h504
   refine pk0 (v := .string (⟨#[]⟩)) h504 rfl fun a512 h512 => ?_; clear h504
   refine pk0 (v := .int .i64 0) h512 rfl fun a513 h513 => ?_; clear h512
   refine pl_nil ?_
   refine co_then ?_
   refine co_seq ?_
   refine co_reg ?_
   refine pk (v := .agg #[.int .i64 d.k, .int .i64 d.nd, .int .i64 d.n, .int .i64 d.ak, .int .i64 d.an, .string d.ky, .string d.tt, .int .u64 d.at_, .int .i64 d.am, ov]) h513 rfl (rn_loadN rfl rfl Try.underlying60 rfl (by kernel_rfl) hk508.all) fun a514 h514 => ?_; clear h513
   have hB517 := hb_new hB0 hg507
   refine pw h514 rfl (op_call (args := #[.agg #[.int .i64 d.k, .int .i64 d.nd, .int .i64 d.n, .int .i64 d.ak, .int .i64 d.an, .string d.ky, .string d.tt, .int .u64 d.at_, .int .i64 d.am, ov]]) (R := fun res xw => ∃ u : Value, res = .agg #[.int .i64 d.k, .int .i64 d.nd, .int .i64 d.n, .int .i64 0, .int .i64 0, .string (⟨#[]⟩), .string (⟨#[]⟩), .int .u64 0, .int .i64 0, u] ∧ xw.ownsRow w505.heap.size 66 3 u ([] : List OpT).length (([] : List OpT).flatMap opE) ∧ Below w505.heap.size w505 xw) rfl rfl rfl (by kernel_rfl) (by kernel_rfl) (Try.call23 _ _) (clean_n _ ov w505 (hs.below hB517) hk0) (by rintro e x ⟨u, rfl, hq519, hb520⟩; exact ⟨_, rfl, ⟨u, rfl, hq519, hb520⟩⟩)) ?_; clear h514
   rintro _ w516 a515 ⟨u518, rfl, hq519, hb520⟩ h515
   have hz521 := hb520.size
   have hl522 := sl_len (row_sl hq519 opE_len)
   have hk528 := hk508.below hb520
   refine pwD h515 rfl (op_storeN rfl rfl rfl (all_cons rfl (all_cons rfl (all_cons rfl (all_cons rfl (all_cons rfl (all_cons rfl (all_cons rfl (all_cons rfl (all_cons rfl (all_cons (row_one hq519) all_nil)))))))))) (by kernel_rfl) hk528 rfl) ?_; clear h515
   rintro _ w524 a523 ⟨hk525, hz526, hg527⟩ h523
   have hk525' : Blk w524 N506 60 #[.int .i64 d.k, .int .i64 d.nd, .int .i64 d.n, .int .i64 0, .int .i64 0, .string (⟨#[]⟩), .string (⟨#[]⟩), .int .u64 0, .int .i64 0, u518] := hk525; clear hk525
   have hz529 := hg527.size
   refine pl_nil ?_
   refine co_then ?_
   refine co_seq ?_
   refine co_reg ?_
   refine pk0 (v := pt N506 3) h523 rfl fun a530 h530 => ?_; clear h523
   refine pk (v := .agg #[.int .i64 0, .int .i64 0, .string (⟨#[]⟩), .string (⟨#[]⟩), .int .u64 0, .int .i64 0, u518]) h530 rfl (rn_loadN rfl rfl Try.underlying35 rfl (by kernel_rfl) (blk_part hk525' 3 (by rfl))) fun a531 h531 => ?_; clear h530
   refine pw h531 rfl (op_new (v := fun N => pt N 0) (T := 35) (cs := #[.int .i64 0, .int .i64 0, .string (⟨#[]⟩), .string (⟨#[]⟩), .int .u64 0, .int .i64 0, .slice none 0 0]) (by kernel_rfl) (by kernel_rfl) (by kernel_rfl)) ?_; clear h531
   rintro _ w533 a532 ⟨N534, rfl, hN537, hz538, hk536, hg535⟩ h532
   have hr540 := row_kept_at hq519 hg527 (own_neT hq519 hk528 (by decide))
   have ha539 := row_fresh hr540 hN537
   have hz541 := hg535.size
   try dsimp only at h532
   have hr547 := row_kept_new hr540 hg535
   refine pwD h532 rfl (op_storeN rfl rfl rfl (all_cons rfl (all_cons rfl (all_cons rfl (all_cons rfl (all_cons rfl (all_cons rfl (all_cons (row_one hr547) all_nil))))))) (by kernel_rfl) hk536 rfl) ?_; clear h532
   rintro _ w543 a542 ⟨hk544, hz545, hg546⟩ h542
   have hk544' : Blk w543 N534 35 #[.int .i64 0, .int .i64 0, .string (⟨#[]⟩), .string (⟨#[]⟩), .int .u64 0, .int .i64 0, u518] := hk544; clear hk544
   have hz548 := hg546.size
   refine pl_nil ?_
   refine co_then ?_
   refine co_seq ?_
   refine co_seq ?_
   refine co_reg ?_
   refine pk0 (v := pt N506 0) h542 rfl fun a549 h549 => ?_; clear h542
   have hk550 := hk525'.kept hg535 (by simp)
   have hk551 := hk550.kept hg546 (by simp; omega)
   refine pk (v := .int .i64 d.k) h549 rfl (rn_load1 rfl rfl Try.isAgg3 (hk551.cell rfl)) fun a552 h552 => ?_; clear h549
   refine pk0 (v := pt N506 1) h552 rfl fun a553 h553 => ?_; clear h552
   refine pk (v := .int .i64 d.nd) h553 rfl (rn_load1 rfl rfl Try.isAgg3 (hk551.cell rfl)) fun a554 h554 => ?_; clear h553
   refine pk0 (v := pt N506 2) h554 rfl fun a555 h555 => ?_; clear h554
   refine pk (v := .int .i64 d.n) h555 rfl (rn_load1 rfl rfl Try.isAgg3 (hk551.cell rfl)) fun a556 h556 => ?_; clear h555
   refine pk0 (v := pt N534 0) h556 rfl fun a557 h557 => ?_; clear h556
   refine pk (v := .int .i64 0) h557 rfl (rn_load1 rfl rfl Try.isAgg3 (hk544'.cell rfl)) fun a558 h558 => ?_; clear h557
   refine pk0 (v := pt N534 1) h558 rfl fun a559 h559 => ?_; clear h558
   refine pk (v := .int .i64 0) h559 rfl (rn_load1 rfl rfl Try.isAgg3 (hk544'.cell rfl)) fun a560 h560 => ?_; clear h559
   refine pk0 (v := pt N534 5) h560 rfl fun a561 h561 => ?_; clear h560
   refine pk (v := .int .i64 0) h561 rfl (rn_load1 rfl rfl Try.isAgg3 (hk544'.cell rfl)) fun a562 h562 => ?_; clear h561
   refine pw h562 rfl (op_new (v := fun N => .slice (some ⟨N, 0, none⟩) 6 6) (T := 3) (cs := #[.int .i64 d.k, .int .i64 d.nd, .int .i64 d.n, .int .i64 0, .int .i64 0, .int .i64 0]) (by kernel_rfl) (by kernel_rfl) (by kernel_rfl)) ?_; clear h562
   rintro _ w564 a563 ⟨N565, rfl, hN568, hz569, hk567, hg566⟩ h563
   have hr571 := row_kept_at hr547 hg546 (ha539)
   have ha570 := row_fresh hr571 hN568
   have hz572 := hg566.size
   try dsimp only at h563
   refine pw h563 rfl (op_call (args := #[.slice (some ⟨N565, 0, none⟩) 6 6]) (R := fun res xw => res = .bool true ∧ Below w564.heap.size w564 xw) rfl rfl rfl (by kernel_rfl) (by kernel_rfl) (Try.call68 _ _) (within_y N565 d.k d.nd d.n 0 0 0 w564 hk567 (by omega)) (by rintro e x ⟨rfl, hb575⟩; exact ⟨_, rfl, ⟨rfl, hb575⟩⟩)) ?_; clear h563
   rintro _ w574 a573 ⟨rfl, hb575⟩ h573
   have hz576 := hb575.size
   refine pk0 (v := .bool false) h573 rfl fun a577 h577 => ?_; clear h573
   refine pl_nil ?_
   refine co_then ?_
   refine co_false h577 rfl ?_
   refine wp_skip ?_
   refine co_then ?_
   refine co_seq ?_
   refine dr_gen (fun x => Below w.heap.size w x ∧ Blk x N506 60 #[.int .i64 d.k, .int .i64 d.nd, .int .i64 d.n, .int .i64 0, .int .i64 0, .string (⟨#[]⟩), .string (⟨#[]⟩), .int .u64 0, .int .i64 0, u518]) (by kernel_rfl) (fun w578 hg579 => ?_) (fun w578 hg579 => ?_)
   ·
    have hz580 := hg579.size
    have hB581 := hb_call hB517 hb520
    have hB582 := hb_at hB581 hg527 (by omega)
    have hB583 := hb_new hB582 hg535
    have hB584 := hb_at hB583 hg546 (by omega)
    have hB585 := hb_new hB584 hg566
    have hB586 := hb_call hB585 hb575
    have hB587 := hb_new hB586 hg579
    have hk588 := hk551.kept hg566 (by simp)
    have hk589 := hk588.below hb575
    have hk590 := hk589.kept hg579 (by simp)
    exact ⟨hB587, hk590⟩
   have hz591 := hg579.size
   have hB592 := hb_call hB517 hb520
   have hB593 := hb_at hB592 hg527 (by omega)
   have hB594 := hb_new hB593 hg535
   have hB595 := hb_at hB594 hg546 (by omega)
   have hB596 := hb_new hB595 hg566
   have hB597 := hb_call hB596 hb575
   have hB598 := hb_new hB597 hg579
   have hk599 := hk551.kept hg566 (by simp)
   have hk600 := hk599.below hb575
   have hk601 := hk600.kept hg579 (by simp)
   refine dk0 1 (v := pt N506 0) h577 rfl rfl ⟨hB598, hk601⟩ fun a602 h602 => ?_; clear h577
   refine dk 2 (v := .int .i64 d.k) h602 rfl rfl ⟨hB598, hk601⟩ (fun x hx => (rn_load1 rfl rfl Try.isAgg3 (hx.2.cell rfl))) fun a603 h603 => ?_; clear h602
   refine dk0 4 (v := pt N506 1) h603 rfl rfl ⟨hB598, hk601⟩ fun a604 h604 => ?_; clear h603
   refine dk 5 (v := .int .i64 d.nd) h604 rfl rfl ⟨hB598, hk601⟩ (fun x hx => (rn_load1 rfl rfl Try.isAgg3 (hx.2.cell rfl))) fun a605 h605 => ?_; clear h604
   refine dk0 7 (v := pt N506 2) h605 rfl rfl ⟨hB598, hk601⟩ fun a606 h606 => ?_; clear h605
   refine dk 8 (v := .int .i64 d.n) h606 rfl rfl ⟨hB598, hk601⟩ (fun x hx => (rn_load1 rfl rfl Try.isAgg3 (hx.2.cell rfl))) fun a607 h607 => ?_; clear h606
   refine d1 0 h607 rfl rfl (op_call (args := #[]) (R := fun res xw => ∃ b : Nat, res = pt b 0 ∧ b = w578.heap.size ∧ OW b [] 0 xw ∧ Below w578.heap.size w578 xw) rfl rfl rfl (by kernel_rfl) (by kernel_rfl) (Try.call69 _ _) (ow_new w578) (by rintro e x ⟨b, rfl, h0, h1, h2⟩; exact ⟨_, rfl, b, rfl, h0, h1, h2⟩)) ?_ ?_; clear h607
   ·
    rintro _ w609 ⟨b610, rfl, hN611, ho612, hb613⟩
    have hr615 := row_kept_new hr571 hg566
    have hr616 := row_kept_new hr615 (below_grown hb575)
    have hr617 := row_kept_new hr616 hg579
    have ha614 := row_fresh hr617 hN611
    have hz618 := hb613.size
    have hl619 := ho612.lt
    have hB620 := hb_call hB598 hb613
    have hk621 := hk601.below hb613
    exact ⟨hB620, hk621⟩
   rintro _ w609 a608 ⟨b610, rfl, hN611, ho612, hb613⟩ h608
   have hr615 := row_kept_new hr571 hg566
   have hr616 := row_kept_new hr615 (below_grown hb575)
   have hr617 := row_kept_new hr616 hg579
   have ha614 := row_fresh hr617 hN611
   have hz618 := hb613.size
   have hl619 := ho612.lt
   have hB620 := hb_call hB598 hb613
   have hk621 := hk601.below hb613
   refine d1 3 h608 rfl rfl (op_call (args := #[pt b610 0, .int .i64 d.k]) (R := fun res xw => res = pt b610 0 ∧ OW b610 (([] : List UInt8) ++ putL d.k) (0 + 9) xw ∧ But (Rw w609 b610) w609 xw) rfl rfl rfl (by kernel_rfl) (by kernel_rfl) (Try.call70 _ _) (ow_num b610 ([]) 0 d.k w609 ho612 (by omega) (by omega) (by omega)) (by rintro e x ⟨rfl, h1, h2⟩; exact ⟨_, rfl, rfl, h1, h2⟩)) ?_ ?_; clear h608
   ·
    rintro _ w623 ⟨rfl, ho624, hx625⟩
    have hz626 := hx625.size
    have hl627 := ho624.lt
    have hB628 := hb_wr hB620 ho612 (by omega) hx625
    have hk629 := blk_wr hk621 ho612 (by decide) (by omega) hx625
    exact ⟨hB628, hk629⟩
   rintro _ w623 a622 ⟨rfl, ho624, hx625⟩ h622
   have hz626 := hx625.size
   have hl627 := ho624.lt
   have hB628 := hb_wr hB620 ho612 (by omega) hx625
   have hk629 := blk_wr hk621 ho612 (by decide) (by omega) hx625
   refine d1 6 h622 rfl rfl (op_call (args := #[pt b610 0, .int .i64 d.nd]) (R := fun res xw => res = pt b610 0 ∧ OW b610 ((([] : List UInt8) ++ putL d.k) ++ putL d.nd) (0 + 9 + 9) xw ∧ But (Rw w623 b610) w623 xw) rfl rfl rfl (by kernel_rfl) (by kernel_rfl) (Try.call70 _ _) (ow_num b610 (([] : List UInt8) ++ putL d.k) (0 + 9) d.nd w623 ho624 (by omega) (by omega) (by omega)) (by rintro e x ⟨rfl, h1, h2⟩; exact ⟨_, rfl, rfl, h1, h2⟩)) ?_ ?_; clear h622
   ·
    rintro _ w631 ⟨rfl, ho632, hx633⟩
    have hz634 := hx633.size
    have hl635 := ho632.lt
    have hB636 := hb_wr hB628 ho624 (by omega) hx633
    have hk637 := blk_wr hk629 ho624 (by decide) (by omega) hx633
    exact ⟨hB636, hk637⟩
   rintro _ w631 a630 ⟨rfl, ho632, hx633⟩ h630
   have hz634 := hx633.size
   have hl635 := ho632.lt
   have hB636 := hb_wr hB628 ho624 (by omega) hx633
   have hk637 := blk_wr hk629 ho624 (by decide) (by omega) hx633
   refine d1 9 h630 rfl rfl (op_call (args := #[pt b610 0, .int .i64 d.n]) (R := fun res xw => res = pt b610 0 ∧ OW b610 (((([] : List UInt8) ++ putL d.k) ++ putL d.nd) ++ putL d.n) (0 + 9 + 9 + 9) xw ∧ But (Rw w631 b610) w631 xw) rfl rfl rfl (by kernel_rfl) (by kernel_rfl) (Try.call70 _ _) (ow_num b610 ((([] : List UInt8) ++ putL d.k) ++ putL d.nd) (0 + 9 + 9) d.n w631 ho632 (by omega) (by omega) (by omega)) (by rintro e x ⟨rfl, h1, h2⟩; exact ⟨_, rfl, rfl, h1, h2⟩)) ?_ ?_; clear h630
   ·
    rintro _ w639 ⟨rfl, ho640, hx641⟩
    have hz642 := hx641.size
    have hl643 := ho640.lt
    have hB644 := hb_wr hB636 ho632 (by omega) hx641
    have hk645 := blk_wr hk637 ho632 (by decide) (by omega) hx641
    exact ⟨hB644, hk645⟩
   rintro _ w639 a638 ⟨rfl, ho640, hx641⟩ h638
   have hz642 := hx641.size
   have hl643 := ho640.lt
   have hB644 := hb_wr hB636 ho632 (by omega) hx641
   have hk645 := blk_wr hk637 ho632 (by decide) (by omega) hx641
   refine dk0 10 (v := pt b610 0) h638 rfl rfl ⟨hB644, hk645⟩ fun a646 h646 => ?_; clear h638
   refine dr_done (by kernel_rfl) ?_
   refine co_then ?_
   refine co_seq ?_
   refine co_seq ?_
   refine co_reg ?_
   refine pk0 (v := pt N506 0) h646 rfl fun a647 h647 => ?_; clear h646
   refine pk (v := .int .i64 d.k) h647 rfl (rn_load1 rfl rfl Try.isAgg3 (hk645.cell rfl)) fun a648 h648 => ?_; clear h647
   refine pk0 (v := .bool (d.k == 0)) h648 rfl fun a649 h649 => ?_; clear h648
   refine pl_nil ?_
   refine co_then ?_
   have hc650 : (d.k == 0) = false := by first | (simp; done) | (simp; omega) | exact beq_false_of_ne (by omega) | exact beq_iff_eq.2 (by omega)
   rw [hc650] at h649; clear hc650
   refine co_false h649 rfl ?_
   refine wp_skip ?_
   refine co_then ?_
   refine co_seq ?_
   refine co_reg ?_
   refine pk0 (v := pt b610 0) h649 rfl fun a651 h651 => ?_; clear h649
   have hr657 := row_kept_new hr617 (below_grown hb613)
   have hr658 := row_wr hr657 ho612 (by decide) (ha614) hx625
   have hr659 := row_wr hr658 ho624 (by decide) (ha614) hx633
   have hr660 := row_wr hr659 ho632 (by decide) (ha614) hx641
   have hk661 := hk544'.kept hg566 (by simp)
   have hk662 := hk661.below hb575
   have hk663 := hk662.kept hg579 (by simp)
   have hk664 := hk663.below hb613
   have hk665 := blk_wr hk664 ho612 (by decide) (by omega) hx625
   have hk666 := blk_wr hk665 ho624 (by decide) (by omega) hx633
   have hk667 := blk_wr hk666 ho632 (by decide) (by omega) hx641
   have hk668 := hk567.below hb575
   have hk669 := hk668.kept hg579 (by simp)
   have hk670 := hk669.below hb613
   have hk671 := blk_wr hk670 ho612 (by decide) (by omega) hx625
   have hk672 := blk_wr hk671 ho624 (by decide) (by omega) hx633
   have hk673 := blk_wr hk672 ho632 (by decide) (by omega) hx641
   have hW656 := OW.eq (l' := evB d) ho640 (by rw [evB_n hk0]; simp [hedB]) (Nat.le_refl _)
   obtain ⟨sv655, hsv⟩ : ∃ s : ByteArray, s = ⟨(evB d).toArray⟩ := ⟨_, rfl⟩
   have hsz := evS_size hsv
   refine pw h651 rfl (op_call (args := #[pt b610 0]) (R := fun res xw => res = .tuple #[.string sv655, .int .i64 0] ∧ Below w639.heap.size w639 xw) rfl rfl rfl (by kernel_rfl) (by kernel_rfl) (Try.call74 _ _) (ow_done b610 _ _ w639 hW656) (by rintro q x ⟨h1, h2⟩; rw [← hsv] at h1; exact ⟨_, h1, rfl, h2⟩)) ?_; clear h651
   rintro _ w653 a652 ⟨rfl, hb654⟩ h652
   have hz674 := hb654.size
   refine pk0 (v := .tuple #[.string sv655, .int .i64 0]) h652 rfl fun a675 h675 => ?_; clear h652
   refine pk0 (v := .string sv655) h675 rfl fun a676 h676 => ?_; clear h675
   refine pk0 (v := .int .i64 0) h676 rfl fun a677 h677 => ?_; clear h676
   refine pk0 (v := .string sv655) h677 rfl fun a678 h678 => ?_; clear h677
   refine pk0 (v := .int .i64 0) h678 rfl fun a679 h679 => ?_; clear h678
   refine pl_nil ?_
   refine co_then ?_
   refine co_seq ?_
   refine co_seq ?_
   refine co_reg ?_
   refine pk0 (v := .int .i64 0) h679 rfl fun a680 h680 => ?_; clear h679
   refine pk0 (v := .bool ((0 : Int) != 0)) h680 rfl fun a681 h681 => ?_; clear h680
   refine pl_nil ?_
   refine co_then ?_
   have hc682 : ((0 : Int) != 0) = false := by first | (simp; done) | (simp; omega) | exact beq_false_of_ne (by omega) | exact beq_iff_eq.2 (by omega)
   rw [hc682] at h681; clear hc682
   refine co_false h681 rfl ?_
   refine wp_skip ?_
   refine co_then ?_
   refine co_seq ?_
   refine co_seq ?_
   refine co_reg ?_
   refine pk0 (v := .string sv655) h681 rfl fun a683 h683 => ?_; clear h681
   refine pk (v := .int .i64 ((sv655.size : Nat) : Int)) h683 rfl (rn_lenStr rfl rfl Try.underlying9) fun a684 h684 => ?_; clear h683
   refine pk0 (v := .bool (decide (((sv655.size : Nat) : Int) > 255))) h684 rfl fun a685 h685 => ?_; clear h684
   refine pl_nil ?_
   refine co_then ?_
   have hB687 := hb_call hB644 hb654
   cases hc686 : (decide (((sv655.size : Nat) : Int) > 255))
   ·
    rw [hc686] at h685
    have hp688 : ¬ (((sv655.size : Nat) : Int) > 255) := of_decide_eq_false hc686
    clear hc686
    refine co_false h685 rfl ?_
    refine wp_skip ?_
    refine co_then ?_
    refine co_seq ?_
    refine co_reg ?_
    refine pk0 (v := .string sv655) h685 rfl fun a689 h689 => ?_; clear h685
    refine pk0 (v := .string sv655) h689 rfl fun a690 h690 => ?_; clear h689
    refine pk0 (v := .int .i64 0) h690 rfl fun a691 h691 => ?_; clear h690
    refine pl_nil ?_
    refine co_then ?_
    refine wp_ret ?_
    refine co_ret2 h691 rfl rfl rfl ?_
    exact ⟨by rw [(oneE_0 hr (by omega)).1, (oneE_0 hr (by omega)).2, hsv], hB687⟩
   ·
    rw [hc686] at h685
    have hp692 : ((sv655.size : Nat) : Int) > 255 := of_decide_eq_true hc686
    clear hc686
    refine co_true h685 rfl ?_
    refine co_seq ?_
    refine co_reg ?_
    refine pk0 (v := .string (⟨#[]⟩)) h685 rfl fun a693 h693 => ?_; clear h685
    refine pk0 (v := .int .i64 3) h693 rfl fun a694 h694 => ?_; clear h693
    refine pl_nil ?_
    refine co_then ?_
    refine wp_ret ?_
    refine co_thenR ?_
    refine co_ret2 h694 rfl rfl rfl ?_
    exact ⟨by rw [(oneE_3 hr (by omega)).1, (oneE_3 hr (by omega)).2], hB687⟩
 · skip
   have hrr := rng_o2 hr hk0
   refine co_enter (n := 95) Try.func41 rfl rfl rfl [(0, .agg #[.int .i64 d.k, .int .i64 d.nd, .int .i64 d.n, .int .i64 d.ak, .int .i64 d.an, .string d.ky, .string d.tt, .int .u64 d.at_, .int .i64 d.am, ov])] rfl (fun a h0 => ?_)
   refine co_seq ?_
   refine co_reg ?_
   refine pw h0 rfl (op_new (v := fun N => pt N 0) (T := 60) (cs := #[.int .i64 d.k, .int .i64 d.nd, .int .i64 d.n, .int .i64 d.ak, .int .i64 d.an, .string d.ky, .string d.tt, .int .u64 d.at_, .int .i64 d.am, ov]) (by kernel_rfl) (by kernel_rfl) (by kernel_rfl)) ?_; clear h0
   rintro _ w696 a695 ⟨N697, rfl, hN700, hz701, hk699, hg698⟩ h695
   have hz702 := hg698.size
   try dsimp only at h695
   refine pk0 (v := .string (⟨#[]⟩)) h695 rfl fun a703 h703 => ?_; clear h695
   refine pk0 (v := .int .i64 0) h703 rfl fun a704 h704 => ?_; clear h703
   refine pl_nil ?_
   refine co_then ?_
   refine co_seq ?_
   refine co_reg ?_
   refine pk (v := .agg #[.int .i64 d.k, .int .i64 d.nd, .int .i64 d.n, .int .i64 d.ak, .int .i64 d.an, .string d.ky, .string d.tt, .int .u64 d.at_, .int .i64 d.am, ov]) h704 rfl (rn_loadN rfl rfl Try.underlying60 rfl (by kernel_rfl) hk699.all) fun a705 h705 => ?_; clear h704
   have hB708 := hb_new hB0 hg698
   refine pw h705 rfl (op_call (args := #[.agg #[.int .i64 d.k, .int .i64 d.nd, .int .i64 d.n, .int .i64 d.ak, .int .i64 d.an, .string d.ky, .string d.tt, .int .u64 d.at_, .int .i64 d.am, ov]]) (R := fun res xw => ∃ u : Value, res = .agg #[.int .i64 d.k, .int .i64 d.nd, .int .i64 d.n, .int .i64 0, .int .i64 0, .string (⟨#[]⟩), .string (⟨#[]⟩), .int .u64 0, .int .i64 0, u] ∧ xw.ownsRow w696.heap.size 66 3 u ([] : List OpT).length (([] : List OpT).flatMap opE) ∧ Below w696.heap.size w696 xw) rfl rfl rfl (by kernel_rfl) (by kernel_rfl) (Try.call23 _ _) (clean_n _ ov w696 (hs.below hB708) hk0) (by rintro e x ⟨u, rfl, hq710, hb711⟩; exact ⟨_, rfl, ⟨u, rfl, hq710, hb711⟩⟩)) ?_; clear h705
   rintro _ w707 a706 ⟨u709, rfl, hq710, hb711⟩ h706
   have hz712 := hb711.size
   have hl713 := sl_len (row_sl hq710 opE_len)
   have hk719 := hk699.below hb711
   refine pwD h706 rfl (op_storeN rfl rfl rfl (all_cons rfl (all_cons rfl (all_cons rfl (all_cons rfl (all_cons rfl (all_cons rfl (all_cons rfl (all_cons rfl (all_cons rfl (all_cons (row_one hq710) all_nil)))))))))) (by kernel_rfl) hk719 rfl) ?_; clear h706
   rintro _ w715 a714 ⟨hk716, hz717, hg718⟩ h714
   have hk716' : Blk w715 N697 60 #[.int .i64 d.k, .int .i64 d.nd, .int .i64 d.n, .int .i64 0, .int .i64 0, .string (⟨#[]⟩), .string (⟨#[]⟩), .int .u64 0, .int .i64 0, u709] := hk716; clear hk716
   have hz720 := hg718.size
   refine pl_nil ?_
   refine co_then ?_
   refine co_seq ?_
   refine co_reg ?_
   refine pk0 (v := pt N697 3) h714 rfl fun a721 h721 => ?_; clear h714
   refine pk (v := .agg #[.int .i64 0, .int .i64 0, .string (⟨#[]⟩), .string (⟨#[]⟩), .int .u64 0, .int .i64 0, u709]) h721 rfl (rn_loadN rfl rfl Try.underlying35 rfl (by kernel_rfl) (blk_part hk716' 3 (by rfl))) fun a722 h722 => ?_; clear h721
   refine pw h722 rfl (op_new (v := fun N => pt N 0) (T := 35) (cs := #[.int .i64 0, .int .i64 0, .string (⟨#[]⟩), .string (⟨#[]⟩), .int .u64 0, .int .i64 0, .slice none 0 0]) (by kernel_rfl) (by kernel_rfl) (by kernel_rfl)) ?_; clear h722
   rintro _ w724 a723 ⟨N725, rfl, hN728, hz729, hk727, hg726⟩ h723
   have hr731 := row_kept_at hq710 hg718 (own_neT hq710 hk719 (by decide))
   have ha730 := row_fresh hr731 hN728
   have hz732 := hg726.size
   try dsimp only at h723
   have hr738 := row_kept_new hr731 hg726
   refine pwD h723 rfl (op_storeN rfl rfl rfl (all_cons rfl (all_cons rfl (all_cons rfl (all_cons rfl (all_cons rfl (all_cons rfl (all_cons (row_one hr738) all_nil))))))) (by kernel_rfl) hk727 rfl) ?_; clear h723
   rintro _ w734 a733 ⟨hk735, hz736, hg737⟩ h733
   have hk735' : Blk w734 N725 35 #[.int .i64 0, .int .i64 0, .string (⟨#[]⟩), .string (⟨#[]⟩), .int .u64 0, .int .i64 0, u709] := hk735; clear hk735
   have hz739 := hg737.size
   refine pl_nil ?_
   refine co_then ?_
   refine co_seq ?_
   refine co_seq ?_
   refine co_reg ?_
   refine pk0 (v := pt N697 0) h733 rfl fun a740 h740 => ?_; clear h733
   have hk741 := hk716'.kept hg726 (by simp)
   have hk742 := hk741.kept hg737 (by simp; omega)
   refine pk (v := .int .i64 d.k) h740 rfl (rn_load1 rfl rfl Try.isAgg3 (hk742.cell rfl)) fun a743 h743 => ?_; clear h740
   refine pk0 (v := pt N697 1) h743 rfl fun a744 h744 => ?_; clear h743
   refine pk (v := .int .i64 d.nd) h744 rfl (rn_load1 rfl rfl Try.isAgg3 (hk742.cell rfl)) fun a745 h745 => ?_; clear h744
   refine pk0 (v := pt N697 2) h745 rfl fun a746 h746 => ?_; clear h745
   refine pk (v := .int .i64 d.n) h746 rfl (rn_load1 rfl rfl Try.isAgg3 (hk742.cell rfl)) fun a747 h747 => ?_; clear h746
   refine pk0 (v := pt N725 0) h747 rfl fun a748 h748 => ?_; clear h747
   refine pk (v := .int .i64 0) h748 rfl (rn_load1 rfl rfl Try.isAgg3 (hk735'.cell rfl)) fun a749 h749 => ?_; clear h748
   refine pk0 (v := pt N725 1) h749 rfl fun a750 h750 => ?_; clear h749
   refine pk (v := .int .i64 0) h750 rfl (rn_load1 rfl rfl Try.isAgg3 (hk735'.cell rfl)) fun a751 h751 => ?_; clear h750
   refine pk0 (v := pt N725 5) h751 rfl fun a752 h752 => ?_; clear h751
   refine pk (v := .int .i64 0) h752 rfl (rn_load1 rfl rfl Try.isAgg3 (hk735'.cell rfl)) fun a753 h753 => ?_; clear h752
   refine pw h753 rfl (op_new (v := fun N => .slice (some ⟨N, 0, none⟩) 6 6) (T := 3) (cs := #[.int .i64 d.k, .int .i64 d.nd, .int .i64 d.n, .int .i64 0, .int .i64 0, .int .i64 0]) (by kernel_rfl) (by kernel_rfl) (by kernel_rfl)) ?_; clear h753
   rintro _ w755 a754 ⟨N756, rfl, hN759, hz760, hk758, hg757⟩ h754
   have hr762 := row_kept_at hr738 hg737 (ha730)
   have ha761 := row_fresh hr762 hN759
   have hz763 := hg757.size
   try dsimp only at h754
   refine pw h754 rfl (op_call (args := #[.slice (some ⟨N756, 0, none⟩) 6 6]) (R := fun res xw => res = .bool false ∧ Below w755.heap.size w755 xw) rfl rfl rfl (by kernel_rfl) (by kernel_rfl) (Try.call68 _ _) (within_n N756 d.k d.nd d.n 0 0 0 w755 hk758 (by omega)) (by rintro e x ⟨rfl, hb766⟩; exact ⟨_, rfl, ⟨rfl, hb766⟩⟩)) ?_; clear h754
   rintro _ w765 a764 ⟨rfl, hb766⟩ h764
   have hz767 := hb766.size
   refine pk0 (v := .bool true) h764 rfl fun a768 h768 => ?_; clear h764
   refine pl_nil ?_
   refine co_then ?_
   refine co_true h768 rfl ?_
   refine co_seq ?_
   refine co_reg ?_
   refine pk0 (v := .string (⟨#[]⟩)) h768 rfl fun a769 h769 => ?_; clear h768
   refine pk0 (v := .int .i64 5) h769 rfl fun a770 h770 => ?_; clear h769
   refine pl_nil ?_
   refine co_then ?_
   refine wp_ret ?_
   refine co_thenR ?_
   refine co_ret2 h770 rfl rfl rfl ?_
   have hB771 := hb_call hB708 hb711
   have hB772 := hb_at hB771 hg718 (by omega)
   have hB773 := hb_new hB772 hg726
   have hB774 := hb_at hB773 hg737 (by omega)
   have hB775 := hb_new hB774 hg757
   have hB776 := hb_call hB775 hb766
   exact ⟨by rw [(oneE_5 hr).1, (oneE_5 hr).2], hB776⟩
set_option maxRecDepth 100000 in
set_option maxHeartbeats 3200000 in
theorem rcOne_any (d : EvD) (ov : Value) (w : World) (hs : SliceOf opE 3 w ov d.ops) (hS : EvS d) (hln : d.ops.length ≤ 100) :
    Calls Try.prog 42 #[.agg #[.int .i64 d.k, .int .i64 d.nd, .int .i64 d.n, .int .i64 d.ak, .int .i64 d.an, .string d.ky, .string d.tt, .int .u64 d.at_, .int .i64 d.am, ov]] w fun e w' => e = .returned (.tuple #[.string (oneB d), .int .i64 (oneE d)]) ∧ Below w.heap.size w w' := by
 have hSt := hS.ts
 have hSk := hS.ky; have hSu := hS.tt
 have hB0 := Below.refl w.heap.size w
 have hl_hs := sl_len hs
 by_cases hk0 : d.k = 0 <;> by_cases hr : rngE d
 · skip
   have hrr := rng_i hr hk0
   refine co_enter (n := 139) Try.func42 rfl rfl rfl [(0, .agg #[.int .i64 d.k, .int .i64 d.nd, .int .i64 d.n, .int .i64 d.ak, .int .i64 d.an, .string d.ky, .string d.tt, .int .u64 d.at_, .int .i64 d.am, ov])] rfl (fun a h0 => ?_)
   refine co_seq ?_
   refine co_reg ?_
   refine pw h0 rfl (op_new (v := fun N => pt N 0) (T := 60) (cs := #[.int .i64 d.k, .int .i64 d.nd, .int .i64 d.n, .int .i64 d.ak, .int .i64 d.an, .string d.ky, .string d.tt, .int .u64 d.at_, .int .i64 d.am, ov]) (by kernel_rfl) (by kernel_rfl) (by kernel_rfl)) ?_; clear h0
   rintro _ w2 a1 ⟨N3, rfl, hN6, hz7, hk5, hg4⟩ h1
   have hz8 := hg4.size
   try dsimp only at h1
   refine pk0 (v := .string (⟨#[]⟩)) h1 rfl fun a9 h9 => ?_; clear h1
   refine pk0 (v := .int .i64 0) h9 rfl fun a10 h10 => ?_; clear h9
   refine pl_nil ?_
   refine co_then ?_
   refine co_seq ?_
   refine co_reg ?_
   refine pk0 (v := pt N3 3) h10 rfl fun a11 h11 => ?_; clear h10
   refine pk (v := .agg #[.int .i64 d.ak, .int .i64 d.an, .string d.ky, .string d.tt, .int .u64 d.at_, .int .i64 d.am, ov]) h11 rfl (rn_loadN rfl rfl Try.underlying35 rfl (by kernel_rfl) (blk_part hk5 3 (by rfl))) fun a12 h12 => ?_; clear h11
   refine pw h12 rfl (op_new (v := fun N => pt N 0) (T := 35) (cs := #[.int .i64 0, .int .i64 0, .string (⟨#[]⟩), .string (⟨#[]⟩), .int .u64 0, .int .i64 0, .slice none 0 0]) (by kernel_rfl) (by kernel_rfl) (by kernel_rfl)) ?_; clear h12
   rintro _ w14 a13 ⟨N15, rfl, hN18, hz19, hk17, hg16⟩ h13
   have hz20 := hg16.size
   try dsimp only at h13
   have hB26 := hb_new hB0 hg4
   have hB27 := hb_new hB26 hg16
   refine pwD h13 rfl (op_storeN rfl rfl rfl (all_cons rfl (all_cons rfl (all_cons rfl (all_cons rfl (all_cons rfl (all_cons rfl (all_cons (sl_one (hs.below hB27)) all_nil))))))) (by kernel_rfl) hk17 rfl) ?_; clear h13
   rintro _ w22 a21 ⟨hk23, hz24, hg25⟩ h21
   have hk23' : Blk w22 N15 35 #[.int .i64 d.ak, .int .i64 d.an, .string d.ky, .string d.tt, .int .u64 d.at_, .int .i64 d.am, ov] := hk23; clear hk23
   have hz28 := hg25.size
   refine pl_nil ?_
   refine co_then ?_
   refine co_seq ?_
   refine co_seq ?_
   refine co_reg ?_
   refine pk0 (v := pt N3 0) h21 rfl fun a29 h29 => ?_; clear h21
   have hk30 := hk5.kept hg16 (by simp)
   have hk31 := hk30.kept hg25 (by simp; omega)
   refine pk (v := .int .i64 d.k) h29 rfl (rn_load1 rfl rfl Try.isAgg3 (hk31.cell rfl)) fun a32 h32 => ?_; clear h29
   refine pw h32 rfl (op_call (args := #[.int .i64 d.k]) (R := fun res xw => res = .bool (decide (0 ≤ d.k ∧ d.k ≤ 1073741824)) ∧ Below w22.heap.size w22 xw) rfl rfl rfl (by kernel_rfl) (by kernel_rfl) (Try.call75 _ _) (rmay40 d.k w22 ) (by rintro e x ⟨rfl, hb35⟩; exact ⟨_, rfl, ⟨rfl, hb35⟩⟩)) ?_; clear h32
   rintro _ w34 a33 ⟨rfl, hb35⟩ h33
   have hz36 := hb35.size
   have hc37 : (decide (0 ≤ d.k ∧ d.k ≤ 1073741824)) = true := decide_eq_true (by omega)
   rw [hc37] at h33; clear hc37
   refine pk0 (v := .bool false) h33 rfl fun a38 h38 => ?_; clear h33
   refine pk0 (v := .bool false) h38 rfl fun a39 h39 => ?_; clear h38
   refine pk0 (v := pt N3 1) h39 rfl fun a40 h40 => ?_; clear h39
   have hk41 := hk31.below hb35
   refine pk (v := .int .i64 d.nd) h40 rfl (rn_load1 rfl rfl Try.isAgg3 (hk41.cell rfl)) fun a42 h42 => ?_; clear h40
   refine pw h42 rfl (op_call (args := #[.int .i64 d.nd]) (R := fun res xw => res = .bool (decide (0 ≤ d.nd ∧ d.nd ≤ 1073741824)) ∧ Below w34.heap.size w34 xw) rfl rfl rfl (by kernel_rfl) (by kernel_rfl) (Try.call75 _ _) (rmay40 d.nd w34 ) (by rintro e x ⟨rfl, hb45⟩; exact ⟨_, rfl, ⟨rfl, hb45⟩⟩)) ?_; clear h42
   rintro _ w44 a43 ⟨rfl, hb45⟩ h43
   have hz46 := hb45.size
   have hc47 : (decide (0 ≤ d.nd ∧ d.nd ≤ 1073741824)) = true := decide_eq_true (by omega)
   rw [hc47] at h43; clear hc47
   refine pk0 (v := .bool false) h43 rfl fun a48 h48 => ?_; clear h43
   refine pk0 (v := .bool false) h48 rfl fun a49 h49 => ?_; clear h48
   refine pk0 (v := .bool false) h49 rfl fun a50 h50 => ?_; clear h49
   refine pk0 (v := pt N3 2) h50 rfl fun a51 h51 => ?_; clear h50
   have hk52 := hk41.below hb45
   refine pk (v := .int .i64 d.n) h51 rfl (rn_load1 rfl rfl Try.isAgg3 (hk52.cell rfl)) fun a53 h53 => ?_; clear h51
   refine pw h53 rfl (op_call (args := #[.int .i64 d.n]) (R := fun res xw => res = .bool (decide (0 ≤ d.n ∧ d.n ≤ 1073741824)) ∧ Below w44.heap.size w44 xw) rfl rfl rfl (by kernel_rfl) (by kernel_rfl) (Try.call75 _ _) (rmay40 d.n w44 ) (by rintro e x ⟨rfl, hb56⟩; exact ⟨_, rfl, ⟨rfl, hb56⟩⟩)) ?_; clear h53
   rintro _ w55 a54 ⟨rfl, hb56⟩ h54
   have hz57 := hb56.size
   have hc58 : (decide (0 ≤ d.n ∧ d.n ≤ 1073741824)) = true := decide_eq_true (by omega)
   rw [hc58] at h54; clear hc58
   refine pk0 (v := .bool false) h54 rfl fun a59 h59 => ?_; clear h54
   refine pk0 (v := .bool false) h59 rfl fun a60 h60 => ?_; clear h59
   refine pk0 (v := .bool false) h60 rfl fun a61 h61 => ?_; clear h60
   refine pk0 (v := pt N3 0) h61 rfl fun a62 h62 => ?_; clear h61
   have hk63 := hk52.below hb56
   refine pk (v := .int .i64 d.k) h62 rfl (rn_load1 rfl rfl Try.isAgg3 (hk63.cell rfl)) fun a64 h64 => ?_; clear h62
   refine pk0 (v := .bool (d.k == 0)) h64 rfl fun a65 h65 => ?_; clear h64
   refine pk0 (v := .bool (d.k == 0)) h65 rfl fun a66 h66 => ?_; clear h65
   have hc67 : (d.k == 0) = true := by first | (simp; done) | (simp; omega) | exact beq_false_of_ne (by omega) | exact beq_iff_eq.2 (by omega)
   rw [hc67] at h66; clear hc67
   refine pk0 (v := pt N15 0) h66 rfl fun a68 h68 => ?_; clear h66
   have hk69 := hk23'.below hb35
   have hk70 := hk69.below hb45
   have hk71 := hk70.below hb56
   refine pk (v := .int .i64 d.ak) h68 rfl (rn_load1 rfl rfl Try.isAgg3 (hk71.cell rfl)) fun a72 h72 => ?_; clear h68
   refine pw h72 rfl (op_call (args := #[.int .i64 d.ak]) (R := fun res xw => res = .bool (decide (0 ≤ d.ak ∧ d.ak ≤ 1073741824)) ∧ Below w55.heap.size w55 xw) rfl rfl rfl (by kernel_rfl) (by kernel_rfl) (Try.call75 _ _) (rmay40 d.ak w55 ) (by rintro e x ⟨rfl, hb75⟩; exact ⟨_, rfl, ⟨rfl, hb75⟩⟩)) ?_; clear h72
   rintro _ w74 a73 ⟨rfl, hb75⟩ h73
   have hz76 := hb75.size
   have hc77 : (decide (0 ≤ d.ak ∧ d.ak ≤ 1073741824)) = true := decide_eq_true (by omega)
   rw [hc77] at h73; clear hc77
   refine pk0 (v := .bool false) h73 rfl fun a78 h78 => ?_; clear h73
   refine pk0 (v := .bool false) h78 rfl fun a79 h79 => ?_; clear h78
   refine pk0 (v := pt N15 1) h79 rfl fun a80 h80 => ?_; clear h79
   have hk81 := hk71.below hb75
   refine pk (v := .int .i64 d.an) h80 rfl (rn_load1 rfl rfl Try.isAgg3 (hk81.cell rfl)) fun a82 h82 => ?_; clear h80
   refine pw h82 rfl (op_call (args := #[.int .i64 d.an]) (R := fun res xw => res = .bool (decide (0 ≤ d.an ∧ d.an ≤ 1073741824)) ∧ Below w74.heap.size w74 xw) rfl rfl rfl (by kernel_rfl) (by kernel_rfl) (Try.call75 _ _) (rmay40 d.an w74 ) (by rintro e x ⟨rfl, hb85⟩; exact ⟨_, rfl, ⟨rfl, hb85⟩⟩)) ?_; clear h82
   rintro _ w84 a83 ⟨rfl, hb85⟩ h83
   have hz86 := hb85.size
   have hc87 : (decide (0 ≤ d.an ∧ d.an ≤ 1073741824)) = true := decide_eq_true (by omega)
   rw [hc87] at h83; clear hc87
   refine pk0 (v := .bool false) h83 rfl fun a88 h88 => ?_; clear h83
   refine pk0 (v := .bool false) h88 rfl fun a89 h89 => ?_; clear h88
   refine pk0 (v := .bool false) h89 rfl fun a90 h90 => ?_; clear h89
   refine pk0 (v := pt N15 5) h90 rfl fun a91 h91 => ?_; clear h90
   have hk92 := hk81.below hb85
   refine pk (v := .int .i64 d.am) h91 rfl (rn_load1 rfl rfl Try.isAgg3 (hk92.cell rfl)) fun a93 h93 => ?_; clear h91
   refine pw h93 rfl (op_call (args := #[.int .i64 d.am]) (R := fun res xw => res = .bool (decide (0 ≤ d.am ∧ d.am ≤ 1073741824)) ∧ Below w84.heap.size w84 xw) rfl rfl rfl (by kernel_rfl) (by kernel_rfl) (Try.call75 _ _) (rmay40 d.am w84 ) (by rintro e x ⟨rfl, hb96⟩; exact ⟨_, rfl, ⟨rfl, hb96⟩⟩)) ?_; clear h93
   rintro _ w95 a94 ⟨rfl, hb96⟩ h94
   have hz97 := hb96.size
   have hc98 : (decide (0 ≤ d.am ∧ d.am ≤ 1073741824)) = true := decide_eq_true (by omega)
   rw [hc98] at h94; clear hc98
   refine pk0 (v := .bool false) h94 rfl fun a99 h99 => ?_; clear h94
   refine pk0 (v := .bool false) h99 rfl fun a100 h100 => ?_; clear h99
   refine pk0 (v := .bool false) h100 rfl fun a101 h101 => ?_; clear h100
   refine pk0 (v := .bool false) h101 rfl fun a102 h102 => ?_; clear h101
   refine pl_nil ?_
   refine co_then ?_
   refine co_false h102 rfl ?_
   refine wp_skip ?_
   refine co_then ?_
   refine co_seq ?_
   refine co_reg ?_
   refine pk0 (v := .agg #[.string (⟨#[]⟩), .int .i64 0]) h102 rfl fun a103 h103 => ?_; clear h102
   refine pw h103 rfl (op_new (v := fun N => pt N 0) (T := 126) (cs := #[.string (⟨#[]⟩), .int .i64 0]) (by kernel_rfl) (by kernel_rfl) (by kernel_rfl)) ?_; clear h103
   rintro _ w105 a104 ⟨N106, rfl, hN109, hz110, hk108, hg107⟩ h104
   have hz111 := hg107.size
   try dsimp only at h104
   refine pk0 (v := pt N106 0) h104 rfl fun a112 h112 => ?_; clear h104
   refine pl_nil ?_
   refine co_then ?_
   refine co_seq ?_
   refine co_reg ?_
   refine pk0 (v := pt N106 0) h112 rfl fun a113 h113 => ?_; clear h112
   refine pk0 (v := pt N3 0) h113 rfl fun a114 h114 => ?_; clear h113
   have hk115 := hk63.below hb75
   have hk116 := hk115.below hb85
   have hk117 := hk116.below hb96
   have hk118 := hk117.kept hg107 (by simp)
   refine pk (v := .int .i64 d.k) h114 rfl (rn_load1 rfl rfl Try.isAgg3 (hk118.cell rfl)) fun a119 h119 => ?_; clear h114
   have ho122 := ox_of hk108
   refine pw h119 rfl (op_call (args := #[pt N106 0, .int .i64 d.k]) (R := fun res xw => res = .tuple #[] ∧ OX N106 (([] : List UInt8) ++ putL d.k) (0 + 9) xw ∧ w105.grownBy xw (some N106)) rfl rfl rfl (by kernel_rfl) (by kernel_rfl) (Try.call76 _ _) (ox_num N106 ([]) 0 d.k w105 ho122 (by omega) (by omega) (by omega)) (by rintro e x ⟨rfl, h1, h2⟩; exact ⟨_, rfl, rfl, h1, h2⟩)) ?_; clear h119
   rintro _ w121 a120 ⟨rfl, ho123, hx124⟩ h120
   have hz125 := hx124.size
   have hl126 := ho123.lt
   refine pl_nil ?_
   refine co_then ?_
   refine co_seq ?_
   refine co_reg ?_
   refine pk0 (v := pt N106 0) h120 rfl fun a127 h127 => ?_; clear h120
   refine pk0 (v := pt N3 1) h127 rfl fun a128 h128 => ?_; clear h127
   have hk129 := hk118.kept hx124 (by simp; omega)
   refine pk (v := .int .i64 d.nd) h128 rfl (rn_load1 rfl rfl Try.isAgg3 (hk129.cell rfl)) fun a130 h130 => ?_; clear h128
   refine pw h130 rfl (op_call (args := #[pt N106 0, .int .i64 d.nd]) (R := fun res xw => res = .tuple #[] ∧ OX N106 ((([] : List UInt8) ++ putL d.k) ++ putL d.nd) (0 + 9 + 9) xw ∧ w121.grownBy xw (some N106)) rfl rfl rfl (by kernel_rfl) (by kernel_rfl) (Try.call76 _ _) (ox_num N106 (([] : List UInt8) ++ putL d.k) (0 + 9) d.nd w121 ho123 (by omega) (by omega) (by omega)) (by rintro e x ⟨rfl, h1, h2⟩; exact ⟨_, rfl, rfl, h1, h2⟩)) ?_; clear h130
   rintro _ w132 a131 ⟨rfl, ho133, hx134⟩ h131
   have hz135 := hx134.size
   have hl136 := ho133.lt
   refine pl_nil ?_
   refine co_then ?_
   refine co_seq ?_
   refine co_reg ?_
   refine pk0 (v := pt N106 0) h131 rfl fun a137 h137 => ?_; clear h131
   refine pk0 (v := pt N3 2) h137 rfl fun a138 h138 => ?_; clear h137
   have hk139 := hk129.kept hx134 (by simp; omega)
   refine pk (v := .int .i64 d.n) h138 rfl (rn_load1 rfl rfl Try.isAgg3 (hk139.cell rfl)) fun a140 h140 => ?_; clear h138
   refine pw h140 rfl (op_call (args := #[pt N106 0, .int .i64 d.n]) (R := fun res xw => res = .tuple #[] ∧ OX N106 (((([] : List UInt8) ++ putL d.k) ++ putL d.nd) ++ putL d.n) (0 + 9 + 9 + 9) xw ∧ w132.grownBy xw (some N106)) rfl rfl rfl (by kernel_rfl) (by kernel_rfl) (Try.call76 _ _) (ox_num N106 ((([] : List UInt8) ++ putL d.k) ++ putL d.nd) (0 + 9 + 9) d.n w132 ho133 (by omega) (by omega) (by omega)) (by rintro e x ⟨rfl, h1, h2⟩; exact ⟨_, rfl, rfl, h1, h2⟩)) ?_; clear h140
   rintro _ w142 a141 ⟨rfl, ho143, hx144⟩ h141
   have hz145 := hx144.size
   have hl146 := ho143.lt
   refine pl_nil ?_
   refine co_then ?_
   refine co_seq ?_
   refine co_seq ?_
   refine co_reg ?_
   refine pk0 (v := pt N3 0) h141 rfl fun a147 h147 => ?_; clear h141
   have hk148 := hk139.kept hx144 (by simp; omega)
   refine pk (v := .int .i64 d.k) h147 rfl (rn_load1 rfl rfl Try.isAgg3 (hk148.cell rfl)) fun a149 h149 => ?_; clear h147
   refine pk0 (v := .bool (d.k == 0)) h149 rfl fun a150 h150 => ?_; clear h149
   refine pl_nil ?_
   refine co_then ?_
   have hc151 : (d.k == 0) = true := by first | (simp; done) | (simp; omega) | exact beq_false_of_ne (by omega) | exact beq_iff_eq.2 (by omega)
   rw [hc151] at h150; clear hc151
   refine co_true h150 rfl ?_
   refine co_seq ?_
   refine co_reg ?_
   refine pk0 (v := pt N106 0) h150 rfl fun a152 h152 => ?_; clear h150
   refine pk0 (v := pt N15 0) h152 rfl fun a153 h153 => ?_; clear h152
   have hk154 := hk92.below hb96
   have hk155 := hk154.kept hg107 (by simp)
   have hk156 := hk155.kept hx124 (by simp; omega)
   have hk157 := hk156.kept hx134 (by simp; omega)
   have hk158 := hk157.kept hx144 (by simp; omega)
   refine pk (v := .int .i64 d.ak) h153 rfl (rn_load1 rfl rfl Try.isAgg3 (hk158.cell rfl)) fun a159 h159 => ?_; clear h153
   refine pw h159 rfl (op_call (args := #[pt N106 0, .int .i64 d.ak]) (R := fun res xw => res = .tuple #[] ∧ OX N106 ((((([] : List UInt8) ++ putL d.k) ++ putL d.nd) ++ putL d.n) ++ putL d.ak) (0 + 9 + 9 + 9 + 9) xw ∧ w142.grownBy xw (some N106)) rfl rfl rfl (by kernel_rfl) (by kernel_rfl) (Try.call76 _ _) (ox_num N106 (((([] : List UInt8) ++ putL d.k) ++ putL d.nd) ++ putL d.n) (0 + 9 + 9 + 9) d.ak w142 ho143 (by omega) (by omega) (by omega)) (by rintro e x ⟨rfl, h1, h2⟩; exact ⟨_, rfl, rfl, h1, h2⟩)) ?_; clear h159
   rintro _ w161 a160 ⟨rfl, ho162, hx163⟩ h160
   have hz164 := hx163.size
   have hl165 := ho162.lt
   refine pl_nil ?_
   refine co_then ?_
   refine co_seq ?_
   refine co_reg ?_
   refine pk0 (v := pt N106 0) h160 rfl fun a166 h166 => ?_; clear h160
   refine pk0 (v := pt N15 1) h166 rfl fun a167 h167 => ?_; clear h166
   have hk168 := hk158.kept hx163 (by simp; omega)
   refine pk (v := .int .i64 d.an) h167 rfl (rn_load1 rfl rfl Try.isAgg3 (hk168.cell rfl)) fun a169 h169 => ?_; clear h167
   refine pw h169 rfl (op_call (args := #[pt N106 0, .int .i64 d.an]) (R := fun res xw => res = .tuple #[] ∧ OX N106 (((((([] : List UInt8) ++ putL d.k) ++ putL d.nd) ++ putL d.n) ++ putL d.ak) ++ putL d.an) (0 + 9 + 9 + 9 + 9 + 9) xw ∧ w161.grownBy xw (some N106)) rfl rfl rfl (by kernel_rfl) (by kernel_rfl) (Try.call76 _ _) (ox_num N106 ((((([] : List UInt8) ++ putL d.k) ++ putL d.nd) ++ putL d.n) ++ putL d.ak) (0 + 9 + 9 + 9 + 9) d.an w161 ho162 (by omega) (by omega) (by omega)) (by rintro e x ⟨rfl, h1, h2⟩; exact ⟨_, rfl, rfl, h1, h2⟩)) ?_; clear h169
   rintro _ w171 a170 ⟨rfl, ho172, hx173⟩ h170
   have hz174 := hx173.size
   have hl175 := ho172.lt
   refine pl_nil ?_
   refine co_then ?_
   refine co_seq ?_
   refine co_reg ?_
   refine pk0 (v := pt N106 0) h170 rfl fun a176 h176 => ?_; clear h170
   refine pk0 (v := pt N15 5) h176 rfl fun a177 h177 => ?_; clear h176
   have hk178 := hk168.kept hx173 (by simp; omega)
   refine pk (v := .int .i64 d.am) h177 rfl (rn_load1 rfl rfl Try.isAgg3 (hk178.cell rfl)) fun a179 h179 => ?_; clear h177
   refine pw h179 rfl (op_call (args := #[pt N106 0, .int .i64 d.am]) (R := fun res xw => res = .tuple #[] ∧ OX N106 ((((((([] : List UInt8) ++ putL d.k) ++ putL d.nd) ++ putL d.n) ++ putL d.ak) ++ putL d.an) ++ putL d.am) (0 + 9 + 9 + 9 + 9 + 9 + 9) xw ∧ w171.grownBy xw (some N106)) rfl rfl rfl (by kernel_rfl) (by kernel_rfl) (Try.call76 _ _) (ox_num N106 (((((([] : List UInt8) ++ putL d.k) ++ putL d.nd) ++ putL d.n) ++ putL d.ak) ++ putL d.an) (0 + 9 + 9 + 9 + 9 + 9) d.am w171 ho172 (by omega) (by omega) (by omega)) (by rintro e x ⟨rfl, h1, h2⟩; exact ⟨_, rfl, rfl, h1, h2⟩)) ?_; clear h179
   rintro _ w181 a180 ⟨rfl, ho182, hx183⟩ h180
   have hz184 := hx183.size
   have hl185 := ho182.lt
   refine pl_nil ?_
   refine co_then ?_
   refine co_seq ?_
   refine co_reg ?_
   refine pk0 (v := pt N106 0) h180 rfl fun a186 h186 => ?_; clear h180
   refine pk0 (v := pt N15 4) h186 rfl fun a187 h187 => ?_; clear h186
   have hk188 := hk178.kept hx183 (by simp; omega)
   refine pk (v := .int .u64 d.at_) h187 rfl (rn_load1 rfl rfl Try.isAgg23 (hk188.cell rfl)) fun a189 h189 => ?_; clear h187
   refine pw h189 rfl (op_call (args := #[pt N106 0, .int .u64 d.at_]) (R := fun res xw => res = .tuple #[] ∧ OX N106 (((((((([] : List UInt8) ++ putL d.k) ++ putL d.nd) ++ putL d.n) ++ putL d.ak) ++ putL d.an) ++ putL d.am) ++ putL d.at_) (0 + 9 + 9 + 9 + 9 + 9 + 9 + 9) xw ∧ w181.grownBy xw (some N106)) rfl rfl rfl (by kernel_rfl) (by kernel_rfl) (Try.call77 _ _) (ox_big N106 ((((((([] : List UInt8) ++ putL d.k) ++ putL d.nd) ++ putL d.n) ++ putL d.ak) ++ putL d.an) ++ putL d.am) (0 + 9 + 9 + 9 + 9 + 9 + 9) d.at_ w181 ho182 (by omega) (by omega) (by omega)) (by rintro e x ⟨rfl, h1, h2⟩; exact ⟨_, rfl, rfl, h1, h2⟩)) ?_; clear h189
   rintro _ w191 a190 ⟨rfl, ho192, hx193⟩ h190
   have hz194 := hx193.size
   have hl195 := ho192.lt
   refine pl_nil ?_
   refine co_then ?_
   refine co_seq ?_
   refine co_reg ?_
   refine pk0 (v := pt N106 0) h190 rfl fun a196 h196 => ?_; clear h190
   refine pk0 (v := pt N15 2) h196 rfl fun a197 h197 => ?_; clear h196
   have hk198 := hk188.kept hx193 (by simp; omega)
   refine pk (v := .string d.ky) h197 rfl (rn_load1 rfl rfl Try.isAgg9 (hk198.cell rfl)) fun a199 h199 => ?_; clear h197
   refine pw h199 rfl (op_call (args := #[pt N106 0, .string d.ky]) (R := fun res xw => res = .tuple #[] ∧ OX N106 ((((((((([] : List UInt8) ++ putL d.k) ++ putL d.nd) ++ putL d.n) ++ putL d.ak) ++ putL d.an) ++ putL d.am) ++ putL d.at_) ++ (putL (d.ky.size : Int) ++ d.ky.data.toList)) (0 + 9 + 9 + 9 + 9 + 9 + 9 + 9 + (9 + d.ky.size)) xw ∧ w191.grownBy xw (some N106)) rfl rfl rfl (by kernel_rfl) (by kernel_rfl) (Try.call78 _ _) (ox_text N106 (((((((([] : List UInt8) ++ putL d.k) ++ putL d.nd) ++ putL d.n) ++ putL d.ak) ++ putL d.an) ++ putL d.am) ++ putL d.at_) (0 + 9 + 9 + 9 + 9 + 9 + 9 + 9) d.ky w191 ho192 (by first | omega | (simp; done) | (simp; omega))) (by rintro e x ⟨rfl, h1, h2⟩; exact ⟨_, rfl, rfl, h1, h2⟩)) ?_; clear h199
   rintro _ w201 a200 ⟨rfl, ho202, hx203⟩ h200
   have hz204 := hx203.size
   have hl205 := ho202.lt
   refine pl_nil ?_
   refine co_then ?_
   refine co_seq ?_
   refine co_reg ?_
   refine pk0 (v := pt N106 0) h200 rfl fun a206 h206 => ?_; clear h200
   refine pk0 (v := pt N15 3) h206 rfl fun a207 h207 => ?_; clear h206
   have hk208 := hk198.kept hx203 (by simp; omega)
   refine pk (v := .string d.tt) h207 rfl (rn_load1 rfl rfl Try.isAgg9 (hk208.cell rfl)) fun a209 h209 => ?_; clear h207
   refine pw h209 rfl (op_call (args := #[pt N106 0, .string d.tt]) (R := fun res xw => res = .tuple #[] ∧ OX N106 (((((((((([] : List UInt8) ++ putL d.k) ++ putL d.nd) ++ putL d.n) ++ putL d.ak) ++ putL d.an) ++ putL d.am) ++ putL d.at_) ++ (putL (d.ky.size : Int) ++ d.ky.data.toList)) ++ (putL (d.tt.size : Int) ++ d.tt.data.toList)) (0 + 9 + 9 + 9 + 9 + 9 + 9 + 9 + (9 + d.ky.size) + (9 + d.tt.size)) xw ∧ w201.grownBy xw (some N106)) rfl rfl rfl (by kernel_rfl) (by kernel_rfl) (Try.call78 _ _) (ox_text N106 ((((((((([] : List UInt8) ++ putL d.k) ++ putL d.nd) ++ putL d.n) ++ putL d.ak) ++ putL d.an) ++ putL d.am) ++ putL d.at_) ++ (putL (d.ky.size : Int) ++ d.ky.data.toList)) (0 + 9 + 9 + 9 + 9 + 9 + 9 + 9 + (9 + d.ky.size)) d.tt w201 ho202 (by first | omega | (simp; done) | (simp; omega))) (by rintro e x ⟨rfl, h1, h2⟩; exact ⟨_, rfl, rfl, h1, h2⟩)) ?_; clear h209
   rintro _ w211 a210 ⟨rfl, ho212, hx213⟩ h210
   have hz214 := hx213.size
   have hl215 := ho212.lt
   refine pl_nil ?_
   refine co_then ?_
   refine co_seq ?_
   refine co_reg ?_
   refine pk0 (v := pt N106 0) h210 rfl fun a216 h216 => ?_; clear h210
   refine pk0 (v := pt N15 6) h216 rfl fun a217 h217 => ?_; clear h216
   have hk218 := hk208.kept hx213 (by simp; omega)
   refine pk (v := ov) h217 rfl (rn_load1 rfl rfl Try.isAgg24 (hk218.cell rfl)) fun a219 h219 => ?_; clear h217
   have hB220 := hb_at hB27 hg25 (by omega)
   have hB221 := hb_call hB220 hb35
   have hB222 := hb_call hB221 hb45
   have hB223 := hb_call hB222 hb56
   have hB224 := hb_call hB223 hb75
   have hB225 := hb_call hB224 hb85
   have hB226 := hb_call hB225 hb96
   have hB227 := hb_new hB226 hg107
   have hB228 := hb_at hB227 hx124 (by omega)
   have hB229 := hb_at hB228 hx134 (by omega)
   have hB230 := hb_at hB229 hx144 (by omega)
   have hB231 := hb_at hB230 hx163 (by omega)
   have hB232 := hb_at hB231 hx173 (by omega)
   have hB233 := hb_at hB232 hx183 (by omega)
   have hB234 := hb_at hB233 hx193 (by omega)
   have hB235 := hb_at hB234 hx203 (by omega)
   have hB236 := hb_at hB235 hx213 (by omega)
   refine pk (v := .int .i64 ((d.ops.length : Nat) : Int)) h219 rfl (rn_len rfl rfl Try.underlying24 (hs.below hB236)) fun a237 h237 => ?_; clear h219
   refine pw h237 rfl (op_call (args := #[pt N106 0, .int .i64 ((d.ops.length : Nat) : Int)]) (R := fun res xw => res = .tuple #[] ∧ OX N106 ((((((((((([] : List UInt8) ++ putL d.k) ++ putL d.nd) ++ putL d.n) ++ putL d.ak) ++ putL d.an) ++ putL d.am) ++ putL d.at_) ++ (putL (d.ky.size : Int) ++ d.ky.data.toList)) ++ (putL (d.tt.size : Int) ++ d.tt.data.toList)) ++ putL ((d.ops.length : Nat) : Int)) (0 + 9 + 9 + 9 + 9 + 9 + 9 + 9 + (9 + d.ky.size) + (9 + d.tt.size) + 9) xw ∧ w211.grownBy xw (some N106)) rfl rfl rfl (by kernel_rfl) (by kernel_rfl) (Try.call76 _ _) (ox_num N106 (((((((((([] : List UInt8) ++ putL d.k) ++ putL d.nd) ++ putL d.n) ++ putL d.ak) ++ putL d.an) ++ putL d.am) ++ putL d.at_) ++ (putL (d.ky.size : Int) ++ d.ky.data.toList)) ++ (putL (d.tt.size : Int) ++ d.tt.data.toList)) (0 + 9 + 9 + 9 + 9 + 9 + 9 + 9 + (9 + d.ky.size) + (9 + d.tt.size)) ((d.ops.length : Nat) : Int) w211 ho212 (by omega) (by omega) (by omega)) (by rintro e x ⟨rfl, h1, h2⟩; exact ⟨_, rfl, rfl, h1, h2⟩)) ?_; clear h237
   rintro _ w239 a238 ⟨rfl, ho240, hx241⟩ h238
   have hz242 := hx241.size
   have hl243 := ho240.lt
   refine pl_nil ?_
   refine co_then ?_
   refine co_seq ?_
   refine co_reg ?_
   refine pk0 (v := .int .i64 0) h238 rfl fun a244 h244 => ?_; clear h238
   refine pl_nil ?_
   refine co_then ?_
   refine wp_block ?_
   have h245 : Slots 139 [(1, pt N3 0), (4, pt N15 0), (5, pt N106 0), (6, .int .i64 0)] _ := h244.sub ⟨rfl, rfl, rfl, rfl, trivial⟩; clear h244
   refine co_loop (fun mm a x => ∃ (i : Nat), Slots 139 [(1, pt N3 0), (4, pt N15 0), (5, pt N106 0), (6, .int .i64 ((i : Nat) : Int))] a ∧ mm = d.ops.length - i ∧ (i ≤ d.ops.length) ∧ OX N106 (hedB d ++ (putL d.ak ++ putL d.an ++ putL d.am ++ putL d.at_ ++ txB d.ky ++ txB d.tt ++ putL ((d.ops.length : Nat) : Int)) ++ putOs (d.ops.take i)) (10000000 + i * 3000000) x ∧ Below w.heap.size w x ∧ Blk x N3 60 #[.int .i64 d.k, .int .i64 d.nd, .int .i64 d.n, .int .i64 d.ak, .int .i64 d.an, .string d.ky, .string d.tt, .int .u64 d.at_, .int .i64 d.am, ov] ∧ Blk x N15 35 #[.int .i64 d.ak, .int .i64 d.an, .string d.ky, .string d.tt, .int .u64 d.at_, .int .i64 d.am, ov]) (d.ops.length - 0) ?_ ?_
   have hB246 := hb_at hB236 hx241 (by omega)
   have hk247 := hk148.kept hx163 (by simp; omega)
   have hk248 := hk247.kept hx173 (by simp; omega)
   have hk249 := hk248.kept hx183 (by simp; omega)
   have hk250 := hk249.kept hx193 (by simp; omega)
   have hk251 := hk250.kept hx203 (by simp; omega)
   have hk252 := hk251.kept hx213 (by simp; omega)
   have hk253 := hk252.kept hx241 (by simp; omega)
   have hk254 := hk218.kept hx241 (by simp; omega)
   · exact ⟨0, h245.sub ⟨rfl, rfl, rfl, (slot_eq rfl (congrArg (Value.int .i64) (by first | rfl | omega))), trivial⟩, rfl, by omega, (ho240.eq (by first | (simp [putOs, hedB, txB]; done) | (rw [takeO_at (by assumption)]; simp [putOs, putO1])) (by first | omega | (simp; done) | (simp; omega))), hB246, hk253, hk254⟩
   · rintro k255 a256 w257 ⟨i, h256, rfl, hi258, hf259, hB260, hk261, hk262⟩
     have hz263 := hB260.size
     have hl264 := hk261.lt
     have hl265 := hk262.lt
     have hl266 := hf259.lt
     refine co_seq ?_
     refine co_seq ?_
     refine co_reg ?_
     refine pk0 (v := .int .i64 ((i : Nat) : Int)) h256 rfl fun a267 h267 => ?_; clear h256
     refine pk0 (v := pt N15 6) h267 rfl fun a268 h268 => ?_; clear h267
     refine pk (v := ov) h268 rfl (rn_load1 rfl rfl Try.isAgg24 (hk262.cell rfl)) fun a269 h269 => ?_; clear h268
     refine pk (v := .int .i64 ((d.ops.length : Nat) : Int)) h269 rfl (rn_len rfl rfl Try.underlying24 (hs.below hB260)) fun a270 h270 => ?_; clear h269
     refine pk0 (v := .bool (decide (((i : Nat) : Int) < ((d.ops.length : Nat) : Int)))) h270 rfl fun a271 h271 => ?_; clear h270
     refine pl_nil ?_
     refine co_then ?_
     cases hc272 : (decide (((i : Nat) : Int) < ((d.ops.length : Nat) : Int)))
     ·
      rw [hc272] at h271
      have hp273 : ¬ (((i : Nat) : Int) < ((d.ops.length : Nat) : Int)) := of_decide_eq_false hc272
      clear hc272
      refine co_false h271 rfl ?_
      refine wp_exit ?_
      refine co_thenX ?_
      refine co_thenX ?_
      refine co_blockX ?_
      refine co_then ?_
      refine co_seq ?_
      refine co_reg ?_
      refine pk0 (v := pt N106 0) h271 rfl fun a274 h274 => ?_; clear h271
      have hW279 := OX.eq (l' := evB d) hf259 (by rw [evB_y hk0]; simp [hedB, askB, txB, List.take_of_length_le (show d.ops.length ≤ i by omega)]) (Nat.le_refl _)
      obtain ⟨sv278, hsv⟩ : ∃ s : ByteArray, s = ⟨(evB d).toArray⟩ := ⟨_, rfl⟩
      have hsz := evS_size hsv
      refine pw h274 rfl (op_call (args := #[pt N106 0]) (R := fun res xw => res = .tuple #[.string sv278, .int .i64 0] ∧ Below w257.heap.size w257 xw) rfl rfl rfl (by kernel_rfl) (by kernel_rfl) (Try.call80 _ _) (ox_done N106 _ _ w257 hW279) (by rintro q x ⟨h1, h2⟩; rw [← hsv] at h1; exact ⟨_, h1, rfl, h2⟩)) ?_; clear h274
      rintro _ w276 a275 ⟨rfl, hb277⟩ h275
      have hz280 := hb277.size
      refine pk0 (v := .tuple #[.string sv278, .int .i64 0]) h275 rfl fun a281 h281 => ?_; clear h275
      refine pk0 (v := .string sv278) h281 rfl fun a282 h282 => ?_; clear h281
      refine pk0 (v := .int .i64 0) h282 rfl fun a283 h283 => ?_; clear h282
      refine pk0 (v := .string sv278) h283 rfl fun a284 h284 => ?_; clear h283
      refine pk0 (v := .int .i64 0) h284 rfl fun a285 h285 => ?_; clear h284
      refine pl_nil ?_
      refine co_then ?_
      refine co_seq ?_
      refine co_seq ?_
      refine co_reg ?_
      refine pk0 (v := .int .i64 0) h285 rfl fun a286 h286 => ?_; clear h285
      refine pk0 (v := .bool ((0 : Int) != 0)) h286 rfl fun a287 h287 => ?_; clear h286
      refine pl_nil ?_
      refine co_then ?_
      have hc288 : ((0 : Int) != 0) = false := by first | (simp; done) | (simp; omega) | exact beq_false_of_ne (by omega) | exact beq_iff_eq.2 (by omega)
      rw [hc288] at h287; clear hc288
      refine co_false h287 rfl ?_
      refine wp_skip ?_
      refine co_then ?_
      refine co_seq ?_
      refine co_seq ?_
      refine co_reg ?_
      refine pk0 (v := .string sv278) h287 rfl fun a289 h289 => ?_; clear h287
      refine pk (v := .int .i64 ((sv278.size : Nat) : Int)) h289 rfl (rn_lenStr rfl rfl Try.underlying9) fun a290 h290 => ?_; clear h289
      refine pk0 (v := .bool (decide (((sv278.size : Nat) : Int) > 255))) h290 rfl fun a291 h291 => ?_; clear h290
      refine pl_nil ?_
      refine co_then ?_
      have hB293 := hb_call hB260 hb277
      cases hc292 : (decide (((sv278.size : Nat) : Int) > 255))
      ·
       rw [hc292] at h291
       have hp294 : ¬ (((sv278.size : Nat) : Int) > 255) := of_decide_eq_false hc292
       clear hc292
       refine co_false h291 rfl ?_
       refine wp_skip ?_
       refine co_then ?_
       refine co_seq ?_
       refine co_reg ?_
       refine pk0 (v := .string sv278) h291 rfl fun a295 h295 => ?_; clear h291
       refine pk0 (v := .string sv278) h295 rfl fun a296 h296 => ?_; clear h295
       refine pk0 (v := .int .i64 0) h296 rfl fun a297 h297 => ?_; clear h296
       refine pl_nil ?_
       refine co_then ?_
       refine wp_ret ?_
       refine co_ret2 h297 rfl rfl rfl ?_
       exact ⟨by rw [(oneE_0 hr (by omega)).1, (oneE_0 hr (by omega)).2, hsv], hB293⟩
      ·
       rw [hc292] at h291
       have hp298 : ((sv278.size : Nat) : Int) > 255 := of_decide_eq_true hc292
       clear hc292
       refine co_true h291 rfl ?_
       refine co_seq ?_
       refine co_reg ?_
       refine pk0 (v := .string (⟨#[]⟩)) h291 rfl fun a299 h299 => ?_; clear h291
       refine pk0 (v := .int .i64 3) h299 rfl fun a300 h300 => ?_; clear h299
       refine pl_nil ?_
       refine co_then ?_
       refine wp_ret ?_
       refine co_thenR ?_
       refine co_ret2 h300 rfl rfl rfl ?_
       exact ⟨by rw [(oneE_3 hr (by omega)).1, (oneE_3 hr (by omega)).2], hB293⟩
     ·
      rw [hc272] at h271
      have hp301 : ((i : Nat) : Int) < ((d.ops.length : Nat) : Int) := of_decide_eq_true hc272
      clear hc272
      refine co_true h271 rfl ?_
      refine wp_skip ?_
      refine co_then ?_
      refine co_seq ?_
      refine wp_block ?_
      refine co_seq ?_
      refine co_reg ?_
      refine pk0 (v := pt N106 0) h271 rfl fun a302 h302 => ?_; clear h271
      refine pk0 (v := pt N15 6) h302 rfl fun a303 h303 => ?_; clear h302
      refine pk (v := ov) h303 rfl (rn_load1 rfl rfl Try.isAgg24 (hk262.cell rfl)) fun a304 h304 => ?_; clear h303
      refine pk0 (v := .int .i64 ((i : Nat) : Int)) h304 rfl fun a305 h305 => ?_; clear h304
      obtain ⟨y306, hy306⟩ : ∃ z, d.ops[i]? = some z := ⟨_, List.getElem?_eq_getElem (by first | omega | (simp; done) | (simp; omega))⟩
      have hqy306 := hS.ops _ (List.mem_of_getElem? hy306)
      refine pk (v := pt (blkOf ov) (offOf ov + i * 3)) h305 rfl (rn_index rfl rfl rfl Try.underlying24 Try.sizeOf66 (hs.below hB260) (by omega) (by first | omega | (simp; done) | (simp; omega))) fun a307 h307 => ?_; clear h305
      refine pk0 (v := pt (blkOf ov) (offOf ov + i * 3)) h307 rfl fun a308 h308 => ?_; clear h307
      refine pk (v := .string y306.1) h308 rfl (rn_load1 rfl rfl Try.isAgg9 ((sl_at (hs.below hB260) hy306) 0 _ rfl)) fun a309 h309 => ?_; clear h308
      refine pw h309 rfl (op_call (args := #[pt N106 0, .string y306.1]) (R := fun res xw => res = .tuple #[] ∧ OX N106 ((hedB d ++ (putL d.ak ++ putL d.an ++ putL d.am ++ putL d.at_ ++ txB d.ky ++ txB d.tt ++ putL ((d.ops.length : Nat) : Int)) ++ putOs (d.ops.take i)) ++ (putL (y306.1.size : Int) ++ y306.1.data.toList)) (10000000 + i * 3000000 + (9 + y306.1.size)) xw ∧ w257.grownBy xw (some N106)) rfl rfl rfl (by kernel_rfl) (by kernel_rfl) (Try.call78 _ _) (ox_text N106 (hedB d ++ (putL d.ak ++ putL d.an ++ putL d.am ++ putL d.at_ ++ txB d.ky ++ txB d.tt ++ putL ((d.ops.length : Nat) : Int)) ++ putOs (d.ops.take i)) (10000000 + i * 3000000) y306.1 w257 hf259 (by first | omega | (simp; done) | (simp; omega))) (by rintro e x ⟨rfl, h1, h2⟩; exact ⟨_, rfl, rfl, h1, h2⟩)) ?_; clear h309
      rintro _ w311 a310 ⟨rfl, ho312, hx313⟩ h310
      have hz314 := hx313.size
      have hl315 := ho312.lt
      refine pl_nil ?_
      refine co_then ?_
      refine co_seq ?_
      refine co_reg ?_
      refine pk0 (v := pt N106 0) h310 rfl fun a316 h316 => ?_; clear h310
      refine pk0 (v := pt N15 6) h316 rfl fun a317 h317 => ?_; clear h316
      have hk318 := hk262.kept hx313 (by simp; omega)
      refine pk (v := ov) h317 rfl (rn_load1 rfl rfl Try.isAgg24 (hk318.cell rfl)) fun a319 h319 => ?_; clear h317
      refine pk0 (v := .int .i64 ((i : Nat) : Int)) h319 rfl fun a320 h320 => ?_; clear h319
      have hB321 := hb_at hB260 hx313 (by omega)
      refine pk (v := pt (blkOf ov) (offOf ov + i * 3)) h320 rfl (rn_index rfl rfl rfl Try.underlying24 Try.sizeOf66 (hs.below hB321) (by omega) (by first | omega | (simp; done) | (simp; omega))) fun a322 h322 => ?_; clear h320
      refine pk0 (v := pt (blkOf ov) (offOf ov + i * 3 + 2)) h322 rfl fun a323 h323 => ?_; clear h322
      refine pk (v := .bool y306.2.2) h323 rfl (rn_load1 rfl rfl Try.isAgg4 ((sl_at (hs.below hB321) hy306) 2 _ rfl)) fun a324 h324 => ?_; clear h323
      refine pw h324 rfl (op_call (args := #[pt N106 0, .bool y306.2.2]) (R := fun res xw => res = .tuple #[] ∧ OX N106 (((hedB d ++ (putL d.ak ++ putL d.an ++ putL d.am ++ putL d.at_ ++ txB d.ky ++ txB d.tt ++ putL ((d.ops.length : Nat) : Int)) ++ putOs (d.ops.take i)) ++ (putL (y306.1.size : Int) ++ y306.1.data.toList)) ++ [flagB y306.2.2]) (10000000 + i * 3000000 + (9 + y306.1.size) + 1) xw ∧ w311.grownBy xw (some N106)) rfl rfl rfl (by kernel_rfl) (by kernel_rfl) (Try.call79 _ _) (ox_flag N106 ((hedB d ++ (putL d.ak ++ putL d.an ++ putL d.am ++ putL d.at_ ++ txB d.ky ++ txB d.tt ++ putL ((d.ops.length : Nat) : Int)) ++ putOs (d.ops.take i)) ++ (putL (y306.1.size : Int) ++ y306.1.data.toList)) (10000000 + i * 3000000 + (9 + y306.1.size)) y306.2.2 w311 ho312 (by omega)) (by rintro e x ⟨rfl, h1, h2⟩; exact ⟨_, rfl, rfl, h1, h2⟩)) ?_; clear h324
      rintro _ w326 a325 ⟨rfl, ho327, hx328⟩ h325
      have hz329 := hx328.size
      have hl330 := ho327.lt
      refine pl_nil ?_
      refine co_then ?_
      refine co_reg ?_
      refine pk0 (v := pt N106 0) h325 rfl fun a331 h331 => ?_; clear h325
      refine pk0 (v := pt N15 6) h331 rfl fun a332 h332 => ?_; clear h331
      have hk333 := hk318.kept hx328 (by simp; omega)
      refine pk (v := ov) h332 rfl (rn_load1 rfl rfl Try.isAgg24 (hk333.cell rfl)) fun a334 h334 => ?_; clear h332
      refine pk0 (v := .int .i64 ((i : Nat) : Int)) h334 rfl fun a335 h335 => ?_; clear h334
      have hB336 := hb_at hB321 hx328 (by omega)
      refine pk (v := pt (blkOf ov) (offOf ov + i * 3)) h335 rfl (rn_index rfl rfl rfl Try.underlying24 Try.sizeOf66 (hs.below hB336) (by omega) (by first | omega | (simp; done) | (simp; omega))) fun a337 h337 => ?_; clear h335
      refine pk0 (v := pt (blkOf ov) (offOf ov + i * 3 + 1)) h337 rfl fun a338 h338 => ?_; clear h337
      refine pk (v := .string y306.2.1) h338 rfl (rn_load1 rfl rfl Try.isAgg9 ((sl_at (hs.below hB336) hy306) 1 _ rfl)) fun a339 h339 => ?_; clear h338
      refine pw h339 rfl (op_call (args := #[pt N106 0, .string y306.2.1]) (R := fun res xw => res = .tuple #[] ∧ OX N106 ((((hedB d ++ (putL d.ak ++ putL d.an ++ putL d.am ++ putL d.at_ ++ txB d.ky ++ txB d.tt ++ putL ((d.ops.length : Nat) : Int)) ++ putOs (d.ops.take i)) ++ (putL (y306.1.size : Int) ++ y306.1.data.toList)) ++ [flagB y306.2.2]) ++ (putL (y306.2.1.size : Int) ++ y306.2.1.data.toList)) (10000000 + i * 3000000 + (9 + y306.1.size) + 1 + (9 + y306.2.1.size)) xw ∧ w326.grownBy xw (some N106)) rfl rfl rfl (by kernel_rfl) (by kernel_rfl) (Try.call78 _ _) (ox_text N106 (((hedB d ++ (putL d.ak ++ putL d.an ++ putL d.am ++ putL d.at_ ++ txB d.ky ++ txB d.tt ++ putL ((d.ops.length : Nat) : Int)) ++ putOs (d.ops.take i)) ++ (putL (y306.1.size : Int) ++ y306.1.data.toList)) ++ [flagB y306.2.2]) (10000000 + i * 3000000 + (9 + y306.1.size) + 1) y306.2.1 w326 ho327 (by first | omega | (simp; done) | (simp; omega))) (by rintro e x ⟨rfl, h1, h2⟩; exact ⟨_, rfl, rfl, h1, h2⟩)) ?_; clear h339
      rintro _ w341 a340 ⟨rfl, ho342, hx343⟩ h340
      have hz344 := hx343.size
      have hl345 := ho342.lt
      refine pl_nil ?_
      refine co_blockN ?_
      refine co_then ?_
      refine co_reg ?_
      refine pk0 (v := .int .i64 ((i : Nat) : Int)) h340 rfl fun a346 h346 => ?_; clear h340
      refine pk (v := .int .i64 ((i + 1 : Nat) : Int)) h346 rfl (rn_arith' rfl rfl rfl rfl rfl rfl (IntWalk.i64_in _ (by omega)) (by omega)) fun a347 h347 => ?_; clear h346
      refine pk0 (v := .int .i64 ((i + 1 : Nat) : Int)) h347 rfl fun a348 h348 => ?_; clear h347
      refine pl_nil ?_
      refine co_then ?_
      refine ⟨(d.ops.length - (i + 1)), by omega, ?_⟩
      have hB349 := hb_at hB336 hx343 (by omega)
      have hk350 := hk261.kept hx313 (by simp; omega)
      have hk351 := hk350.kept hx328 (by simp; omega)
      have hk352 := hk351.kept hx343 (by simp; omega)
      have hk353 := hk333.kept hx343 (by simp; omega)
      exact ⟨i + 1, h348.sub ⟨rfl, rfl, rfl, rfl, trivial⟩, rfl, by omega, (ho342.eq (by first | (simp [putOs, hedB, txB]; done) | (rw [takeO_at (by assumption)]; simp [putOs, putO1])) (by first | omega | (simp; done) | (simp; omega))), hB349, hk352, hk353⟩
 · skip
   have hrr := rng_o hr hk0
   refine co_enter (n := 139) Try.func42 rfl rfl rfl [(0, .agg #[.int .i64 d.k, .int .i64 d.nd, .int .i64 d.n, .int .i64 d.ak, .int .i64 d.an, .string d.ky, .string d.tt, .int .u64 d.at_, .int .i64 d.am, ov])] rfl (fun a h0 => ?_)
   refine co_seq ?_
   refine co_reg ?_
   refine pw h0 rfl (op_new (v := fun N => pt N 0) (T := 60) (cs := #[.int .i64 d.k, .int .i64 d.nd, .int .i64 d.n, .int .i64 d.ak, .int .i64 d.an, .string d.ky, .string d.tt, .int .u64 d.at_, .int .i64 d.am, ov]) (by kernel_rfl) (by kernel_rfl) (by kernel_rfl)) ?_; clear h0
   rintro _ w355 a354 ⟨N356, rfl, hN359, hz360, hk358, hg357⟩ h354
   have hz361 := hg357.size
   try dsimp only at h354
   refine pk0 (v := .string (⟨#[]⟩)) h354 rfl fun a362 h362 => ?_; clear h354
   refine pk0 (v := .int .i64 0) h362 rfl fun a363 h363 => ?_; clear h362
   refine pl_nil ?_
   refine co_then ?_
   refine co_seq ?_
   refine co_reg ?_
   refine pk0 (v := pt N356 3) h363 rfl fun a364 h364 => ?_; clear h363
   refine pk (v := .agg #[.int .i64 d.ak, .int .i64 d.an, .string d.ky, .string d.tt, .int .u64 d.at_, .int .i64 d.am, ov]) h364 rfl (rn_loadN rfl rfl Try.underlying35 rfl (by kernel_rfl) (blk_part hk358 3 (by rfl))) fun a365 h365 => ?_; clear h364
   refine pw h365 rfl (op_new (v := fun N => pt N 0) (T := 35) (cs := #[.int .i64 0, .int .i64 0, .string (⟨#[]⟩), .string (⟨#[]⟩), .int .u64 0, .int .i64 0, .slice none 0 0]) (by kernel_rfl) (by kernel_rfl) (by kernel_rfl)) ?_; clear h365
   rintro _ w367 a366 ⟨N368, rfl, hN371, hz372, hk370, hg369⟩ h366
   have hz373 := hg369.size
   try dsimp only at h366
   have hB379 := hb_new hB0 hg357
   have hB380 := hb_new hB379 hg369
   refine pwD h366 rfl (op_storeN rfl rfl rfl (all_cons rfl (all_cons rfl (all_cons rfl (all_cons rfl (all_cons rfl (all_cons rfl (all_cons (sl_one (hs.below hB380)) all_nil))))))) (by kernel_rfl) hk370 rfl) ?_; clear h366
   rintro _ w375 a374 ⟨hk376, hz377, hg378⟩ h374
   have hk376' : Blk w375 N368 35 #[.int .i64 d.ak, .int .i64 d.an, .string d.ky, .string d.tt, .int .u64 d.at_, .int .i64 d.am, ov] := hk376; clear hk376
   have hz381 := hg378.size
   refine pl_nil ?_
   refine co_then ?_
   refine co_seq ?_
   refine co_seq ?_
   refine co_reg ?_
   refine pk0 (v := pt N356 0) h374 rfl fun a382 h382 => ?_; clear h374
   have hk383 := hk358.kept hg369 (by simp)
   have hk384 := hk383.kept hg378 (by simp; omega)
   refine pk (v := .int .i64 d.k) h382 rfl (rn_load1 rfl rfl Try.isAgg3 (hk384.cell rfl)) fun a385 h385 => ?_; clear h382
   refine pw h385 rfl (op_call (args := #[.int .i64 d.k]) (R := fun res xw => res = .bool (decide (0 ≤ d.k ∧ d.k ≤ 1073741824)) ∧ Below w375.heap.size w375 xw) rfl rfl rfl (by kernel_rfl) (by kernel_rfl) (Try.call75 _ _) (rmay40 d.k w375 ) (by rintro e x ⟨rfl, hb388⟩; exact ⟨_, rfl, ⟨rfl, hb388⟩⟩)) ?_; clear h385
   rintro _ w387 a386 ⟨rfl, hb388⟩ h386
   have hz389 := hb388.size
   have hc390 : (decide (0 ≤ d.k ∧ d.k ≤ 1073741824)) = true := decide_eq_true (by omega)
   rw [hc390] at h386; clear hc390
   refine pk0 (v := .bool false) h386 rfl fun a391 h391 => ?_; clear h386
   refine pk0 (v := .bool false) h391 rfl fun a392 h392 => ?_; clear h391
   refine pk0 (v := pt N356 1) h392 rfl fun a393 h393 => ?_; clear h392
   have hk394 := hk384.below hb388
   refine pk (v := .int .i64 d.nd) h393 rfl (rn_load1 rfl rfl Try.isAgg3 (hk394.cell rfl)) fun a395 h395 => ?_; clear h393
   refine pw h395 rfl (op_call (args := #[.int .i64 d.nd]) (R := fun res xw => res = .bool (decide (0 ≤ d.nd ∧ d.nd ≤ 1073741824)) ∧ Below w387.heap.size w387 xw) rfl rfl rfl (by kernel_rfl) (by kernel_rfl) (Try.call75 _ _) (rmay40 d.nd w387 ) (by rintro e x ⟨rfl, hb398⟩; exact ⟨_, rfl, ⟨rfl, hb398⟩⟩)) ?_; clear h395
   rintro _ w397 a396 ⟨rfl, hb398⟩ h396
   have hz399 := hb398.size
   have hB401 := hb_at hB380 hg378 (by omega)
   have hB402 := hb_call hB401 hb388
   have hB403 := hb_call hB402 hb398
   have hk404 := hk376'.below hb388
   have hk405 := hk404.below hb398
   cases hc400 : (decide (0 ≤ d.nd ∧ d.nd ≤ 1073741824))
   ·
    rw [hc400] at h396
    have hp406 : ¬ (0 ≤ d.nd ∧ d.nd ≤ 1073741824) := of_decide_eq_false hc400
    clear hc400
    refine pk0 (v := .bool true) h396 rfl fun a407 h407 => ?_; clear h396
    refine pk0 (v := .bool true) h407 rfl fun a408 h408 => ?_; clear h407
    refine pk0 (v := .bool true) h408 rfl fun a409 h409 => ?_; clear h408
    refine psk h409 rfl fun a410 h410 => ?_; clear h409
    refine psk h410 rfl fun a411 h411 => ?_; clear h410
    refine psk h411 rfl fun a412 h412 => ?_; clear h411
    refine psk h412 rfl fun a413 h413 => ?_; clear h412
    refine pk0 (v := .bool true) h413 rfl fun a414 h414 => ?_; clear h413
    refine pk0 (v := .bool true) h414 rfl fun a415 h415 => ?_; clear h414
    refine psk h415 rfl fun a416 h416 => ?_; clear h415
    refine psk h416 rfl fun a417 h417 => ?_; clear h416
    refine psk h417 rfl fun a418 h418 => ?_; clear h417
    refine psk h418 rfl fun a419 h419 => ?_; clear h418
    refine psk h419 rfl fun a420 h420 => ?_; clear h419
    refine psk h420 rfl fun a421 h421 => ?_; clear h420
    refine psk h421 rfl fun a422 h422 => ?_; clear h421
    refine psk h422 rfl fun a423 h423 => ?_; clear h422
    refine psk h423 rfl fun a424 h424 => ?_; clear h423
    refine psk h424 rfl fun a425 h425 => ?_; clear h424
    refine psk h425 rfl fun a426 h426 => ?_; clear h425
    refine psk h426 rfl fun a427 h427 => ?_; clear h426
    refine psk h427 rfl fun a428 h428 => ?_; clear h427
    refine psk h428 rfl fun a429 h429 => ?_; clear h428
    refine psk h429 rfl fun a430 h430 => ?_; clear h429
    refine psk h430 rfl fun a431 h431 => ?_; clear h430
    refine psk h431 rfl fun a432 h432 => ?_; clear h431
    refine psk h432 rfl fun a433 h433 => ?_; clear h432
    refine psk h433 rfl fun a434 h434 => ?_; clear h433
    refine psk h434 rfl fun a435 h435 => ?_; clear h434
    refine psk h435 rfl fun a436 h436 => ?_; clear h435
    refine pk0 (v := .bool true) h436 rfl fun a437 h437 => ?_; clear h436
    refine pl_nil ?_
    refine co_then ?_
    refine co_true h437 rfl ?_
    refine co_seq ?_
    refine co_reg ?_
    refine pk0 (v := .string (⟨#[]⟩)) h437 rfl fun a438 h438 => ?_; clear h437
    refine pk0 (v := .int .i64 5) h438 rfl fun a439 h439 => ?_; clear h438
    refine pl_nil ?_
    refine co_then ?_
    refine wp_ret ?_
    refine co_thenR ?_
    refine co_ret2 h439 rfl rfl rfl ?_
    exact ⟨by rw [(oneE_5 hr).1, (oneE_5 hr).2], hB403⟩
   ·
    rw [hc400] at h396
    have hp440 : 0 ≤ d.nd ∧ d.nd ≤ 1073741824 := of_decide_eq_true hc400
    clear hc400
    refine pk0 (v := .bool false) h396 rfl fun a441 h441 => ?_; clear h396
    refine pk0 (v := .bool false) h441 rfl fun a442 h442 => ?_; clear h441
    refine pk0 (v := .bool false) h442 rfl fun a443 h443 => ?_; clear h442
    refine pk0 (v := pt N356 2) h443 rfl fun a444 h444 => ?_; clear h443
    have hk445 := hk394.below hb398
    refine pk (v := .int .i64 d.n) h444 rfl (rn_load1 rfl rfl Try.isAgg3 (hk445.cell rfl)) fun a446 h446 => ?_; clear h444
    refine pw h446 rfl (op_call (args := #[.int .i64 d.n]) (R := fun res xw => res = .bool (decide (0 ≤ d.n ∧ d.n ≤ 1073741824)) ∧ Below w397.heap.size w397 xw) rfl rfl rfl (by kernel_rfl) (by kernel_rfl) (Try.call75 _ _) (rmay40 d.n w397 ) (by rintro e x ⟨rfl, hb449⟩; exact ⟨_, rfl, ⟨rfl, hb449⟩⟩)) ?_; clear h446
    rintro _ w448 a447 ⟨rfl, hb449⟩ h447
    have hz450 := hb449.size
    have hB452 := hb_call hB403 hb449
    cases hc451 : (decide (0 ≤ d.n ∧ d.n ≤ 1073741824))
    ·
     rw [hc451] at h447
     have hp453 : ¬ (0 ≤ d.n ∧ d.n ≤ 1073741824) := of_decide_eq_false hc451
     clear hc451
     refine pk0 (v := .bool true) h447 rfl fun a454 h454 => ?_; clear h447
     refine pk0 (v := .bool true) h454 rfl fun a455 h455 => ?_; clear h454
     refine pk0 (v := .bool true) h455 rfl fun a456 h456 => ?_; clear h455
     refine psk h456 rfl fun a457 h457 => ?_; clear h456
     refine psk h457 rfl fun a458 h458 => ?_; clear h457
     refine psk h458 rfl fun a459 h459 => ?_; clear h458
     refine psk h459 rfl fun a460 h460 => ?_; clear h459
     refine psk h460 rfl fun a461 h461 => ?_; clear h460
     refine psk h461 rfl fun a462 h462 => ?_; clear h461
     refine psk h462 rfl fun a463 h463 => ?_; clear h462
     refine psk h463 rfl fun a464 h464 => ?_; clear h463
     refine psk h464 rfl fun a465 h465 => ?_; clear h464
     refine psk h465 rfl fun a466 h466 => ?_; clear h465
     refine psk h466 rfl fun a467 h467 => ?_; clear h466
     refine psk h467 rfl fun a468 h468 => ?_; clear h467
     refine psk h468 rfl fun a469 h469 => ?_; clear h468
     refine psk h469 rfl fun a470 h470 => ?_; clear h469
     refine psk h470 rfl fun a471 h471 => ?_; clear h470
     refine psk h471 rfl fun a472 h472 => ?_; clear h471
     refine psk h472 rfl fun a473 h473 => ?_; clear h472
     refine psk h473 rfl fun a474 h474 => ?_; clear h473
     refine psk h474 rfl fun a475 h475 => ?_; clear h474
     refine psk h475 rfl fun a476 h476 => ?_; clear h475
     refine psk h476 rfl fun a477 h477 => ?_; clear h476
     refine pk0 (v := .bool true) h477 rfl fun a478 h478 => ?_; clear h477
     refine pl_nil ?_
     refine co_then ?_
     refine co_true h478 rfl ?_
     refine co_seq ?_
     refine co_reg ?_
     refine pk0 (v := .string (⟨#[]⟩)) h478 rfl fun a479 h479 => ?_; clear h478
     refine pk0 (v := .int .i64 5) h479 rfl fun a480 h480 => ?_; clear h479
     refine pl_nil ?_
     refine co_then ?_
     refine wp_ret ?_
     refine co_thenR ?_
     refine co_ret2 h480 rfl rfl rfl ?_
     exact ⟨by rw [(oneE_5 hr).1, (oneE_5 hr).2], hB452⟩
    ·
     rw [hc451] at h447
     have hp481 : 0 ≤ d.n ∧ d.n ≤ 1073741824 := of_decide_eq_true hc451
     clear hc451
     refine pk0 (v := .bool false) h447 rfl fun a482 h482 => ?_; clear h447
     refine pk0 (v := .bool false) h482 rfl fun a483 h483 => ?_; clear h482
     refine pk0 (v := .bool false) h483 rfl fun a484 h484 => ?_; clear h483
     refine pk0 (v := pt N356 0) h484 rfl fun a485 h485 => ?_; clear h484
     have hk486 := hk445.below hb449
     refine pk (v := .int .i64 d.k) h485 rfl (rn_load1 rfl rfl Try.isAgg3 (hk486.cell rfl)) fun a487 h487 => ?_; clear h485
     refine pk0 (v := .bool (d.k == 0)) h487 rfl fun a488 h488 => ?_; clear h487
     refine pk0 (v := .bool (d.k == 0)) h488 rfl fun a489 h489 => ?_; clear h488
     have hc490 : (d.k == 0) = true := by first | (simp; done) | (simp; omega) | exact beq_false_of_ne (by omega) | exact beq_iff_eq.2 (by omega)
     rw [hc490] at h489; clear hc490
     refine pk0 (v := pt N368 0) h489 rfl fun a491 h491 => ?_; clear h489
     have hk492 := hk405.below hb449
     refine pk (v := .int .i64 d.ak) h491 rfl (rn_load1 rfl rfl Try.isAgg3 (hk492.cell rfl)) fun a493 h493 => ?_; clear h491
     refine pw h493 rfl (op_call (args := #[.int .i64 d.ak]) (R := fun res xw => res = .bool (decide (0 ≤ d.ak ∧ d.ak ≤ 1073741824)) ∧ Below w448.heap.size w448 xw) rfl rfl rfl (by kernel_rfl) (by kernel_rfl) (Try.call75 _ _) (rmay40 d.ak w448 ) (by rintro e x ⟨rfl, hb496⟩; exact ⟨_, rfl, ⟨rfl, hb496⟩⟩)) ?_; clear h493
     rintro _ w495 a494 ⟨rfl, hb496⟩ h494
     have hz497 := hb496.size
     have hB499 := hb_call hB452 hb496
     cases hc498 : (decide (0 ≤ d.ak ∧ d.ak ≤ 1073741824))
     ·
      rw [hc498] at h494
      have hp500 : ¬ (0 ≤ d.ak ∧ d.ak ≤ 1073741824) := of_decide_eq_false hc498
      clear hc498
      refine pk0 (v := .bool true) h494 rfl fun a501 h501 => ?_; clear h494
      refine pk0 (v := .bool true) h501 rfl fun a502 h502 => ?_; clear h501
      refine psk h502 rfl fun a503 h503 => ?_; clear h502
      refine psk h503 rfl fun a504 h504 => ?_; clear h503
      refine psk h504 rfl fun a505 h505 => ?_; clear h504
      refine psk h505 rfl fun a506 h506 => ?_; clear h505
      refine pk0 (v := .bool true) h506 rfl fun a507 h507 => ?_; clear h506
      refine pk0 (v := .bool true) h507 rfl fun a508 h508 => ?_; clear h507
      refine psk h508 rfl fun a509 h509 => ?_; clear h508
      refine psk h509 rfl fun a510 h510 => ?_; clear h509
      refine psk h510 rfl fun a511 h511 => ?_; clear h510
      refine psk h511 rfl fun a512 h512 => ?_; clear h511
      refine pk0 (v := .bool true) h512 rfl fun a513 h513 => ?_; clear h512
      refine pk0 (v := .bool true) h513 rfl fun a514 h514 => ?_; clear h513
      refine pk0 (v := .bool true) h514 rfl fun a515 h515 => ?_; clear h514
      refine pl_nil ?_
      refine co_then ?_
      refine co_true h515 rfl ?_
      refine co_seq ?_
      refine co_reg ?_
      refine pk0 (v := .string (⟨#[]⟩)) h515 rfl fun a516 h516 => ?_; clear h515
      refine pk0 (v := .int .i64 5) h516 rfl fun a517 h517 => ?_; clear h516
      refine pl_nil ?_
      refine co_then ?_
      refine wp_ret ?_
      refine co_thenR ?_
      refine co_ret2 h517 rfl rfl rfl ?_
      exact ⟨by rw [(oneE_5 hr).1, (oneE_5 hr).2], hB499⟩
     ·
      rw [hc498] at h494
      have hp518 : 0 ≤ d.ak ∧ d.ak ≤ 1073741824 := of_decide_eq_true hc498
      clear hc498
      refine pk0 (v := .bool false) h494 rfl fun a519 h519 => ?_; clear h494
      refine pk0 (v := .bool false) h519 rfl fun a520 h520 => ?_; clear h519
      refine pk0 (v := pt N368 1) h520 rfl fun a521 h521 => ?_; clear h520
      have hk522 := hk492.below hb496
      refine pk (v := .int .i64 d.an) h521 rfl (rn_load1 rfl rfl Try.isAgg3 (hk522.cell rfl)) fun a523 h523 => ?_; clear h521
      refine pw h523 rfl (op_call (args := #[.int .i64 d.an]) (R := fun res xw => res = .bool (decide (0 ≤ d.an ∧ d.an ≤ 1073741824)) ∧ Below w495.heap.size w495 xw) rfl rfl rfl (by kernel_rfl) (by kernel_rfl) (Try.call75 _ _) (rmay40 d.an w495 ) (by rintro e x ⟨rfl, hb526⟩; exact ⟨_, rfl, ⟨rfl, hb526⟩⟩)) ?_; clear h523
      rintro _ w525 a524 ⟨rfl, hb526⟩ h524
      have hz527 := hb526.size
      have hB529 := hb_call hB499 hb526
      have hk530 := hk486.below hb496
      have hk531 := hk530.below hb526
      cases hc528 : (decide (0 ≤ d.an ∧ d.an ≤ 1073741824))
      ·
       rw [hc528] at h524
       have hp532 : ¬ (0 ≤ d.an ∧ d.an ≤ 1073741824) := of_decide_eq_false hc528
       clear hc528
       refine pk0 (v := .bool true) h524 rfl fun a533 h533 => ?_; clear h524
       refine pk0 (v := .bool true) h533 rfl fun a534 h534 => ?_; clear h533
       refine pk0 (v := .bool true) h534 rfl fun a535 h535 => ?_; clear h534
       refine psk h535 rfl fun a536 h536 => ?_; clear h535
       refine psk h536 rfl fun a537 h537 => ?_; clear h536
       refine psk h537 rfl fun a538 h538 => ?_; clear h537
       refine psk h538 rfl fun a539 h539 => ?_; clear h538
       refine pk0 (v := .bool true) h539 rfl fun a540 h540 => ?_; clear h539
       refine pk0 (v := .bool true) h540 rfl fun a541 h541 => ?_; clear h540
       refine pk0 (v := .bool true) h541 rfl fun a542 h542 => ?_; clear h541
       refine pl_nil ?_
       refine co_then ?_
       refine co_true h542 rfl ?_
       refine co_seq ?_
       refine co_reg ?_
       refine pk0 (v := .string (⟨#[]⟩)) h542 rfl fun a543 h543 => ?_; clear h542
       refine pk0 (v := .int .i64 5) h543 rfl fun a544 h544 => ?_; clear h543
       refine pl_nil ?_
       refine co_then ?_
       refine wp_ret ?_
       refine co_thenR ?_
       refine co_ret2 h544 rfl rfl rfl ?_
       exact ⟨by rw [(oneE_5 hr).1, (oneE_5 hr).2], hB529⟩
      ·
       rw [hc528] at h524
       have hp545 : 0 ≤ d.an ∧ d.an ≤ 1073741824 := of_decide_eq_true hc528
       clear hc528
       refine pk0 (v := .bool false) h524 rfl fun a546 h546 => ?_; clear h524
       refine pk0 (v := .bool false) h546 rfl fun a547 h547 => ?_; clear h546
       refine pk0 (v := .bool false) h547 rfl fun a548 h548 => ?_; clear h547
       refine pk0 (v := pt N368 5) h548 rfl fun a549 h549 => ?_; clear h548
       have hk550 := hk522.below hb526
       refine pk (v := .int .i64 d.am) h549 rfl (rn_load1 rfl rfl Try.isAgg3 (hk550.cell rfl)) fun a551 h551 => ?_; clear h549
       refine pw h551 rfl (op_call (args := #[.int .i64 d.am]) (R := fun res xw => res = .bool (decide (0 ≤ d.am ∧ d.am ≤ 1073741824)) ∧ Below w525.heap.size w525 xw) rfl rfl rfl (by kernel_rfl) (by kernel_rfl) (Try.call75 _ _) (rmay40 d.am w525 ) (by rintro e x ⟨rfl, hb554⟩; exact ⟨_, rfl, ⟨rfl, hb554⟩⟩)) ?_; clear h551
       rintro _ w553 a552 ⟨rfl, hb554⟩ h552
       have hz555 := hb554.size
       have hc556 : (decide (0 ≤ d.am ∧ d.am ≤ 1073741824)) = false := decide_eq_false (by omega)
       rw [hc556] at h552; clear hc556
       refine pk0 (v := .bool true) h552 rfl fun a557 h557 => ?_; clear h552
       refine pk0 (v := .bool true) h557 rfl fun a558 h558 => ?_; clear h557
       refine pk0 (v := .bool true) h558 rfl fun a559 h559 => ?_; clear h558
       refine pk0 (v := .bool true) h559 rfl fun a560 h560 => ?_; clear h559
       refine pl_nil ?_
       refine co_then ?_
       refine co_true h560 rfl ?_
       refine co_seq ?_
       refine co_reg ?_
       refine pk0 (v := .string (⟨#[]⟩)) h560 rfl fun a561 h561 => ?_; clear h560
       refine pk0 (v := .int .i64 5) h561 rfl fun a562 h562 => ?_; clear h561
       refine pl_nil ?_
       refine co_then ?_
       refine wp_ret ?_
       refine co_thenR ?_
       refine co_ret2 h562 rfl rfl rfl ?_
       have hB563 := hb_call hB529 hb554
       exact ⟨by rw [(oneE_5 hr).1, (oneE_5 hr).2], hB563⟩
 · skip
   have hrr := rng_i2 hr hk0
   refine co_enter (n := 139) Try.func42 rfl rfl rfl [(0, .agg #[.int .i64 d.k, .int .i64 d.nd, .int .i64 d.n, .int .i64 d.ak, .int .i64 d.an, .string d.ky, .string d.tt, .int .u64 d.at_, .int .i64 d.am, ov])] rfl (fun a h0 => ?_)
   refine co_seq ?_
   refine co_reg ?_
   refine pw h0 rfl (op_new (v := fun N => pt N 0) (T := 60) (cs := #[.int .i64 d.k, .int .i64 d.nd, .int .i64 d.n, .int .i64 d.ak, .int .i64 d.an, .string d.ky, .string d.tt, .int .u64 d.at_, .int .i64 d.am, ov]) (by kernel_rfl) (by kernel_rfl) (by kernel_rfl)) ?_; clear h0
   rintro _ w565 a564 ⟨N566, rfl, hN569, hz570, hk568, hg567⟩ h564
   have hz571 := hg567.size
   try dsimp only at h564
   refine pk0 (v := .string (⟨#[]⟩)) h564 rfl fun a572 h572 => ?_; clear h564
   refine pk0 (v := .int .i64 0) h572 rfl fun a573 h573 => ?_; clear h572
   refine pl_nil ?_
   refine co_then ?_
   refine co_seq ?_
   refine co_reg ?_
   refine pk0 (v := pt N566 3) h573 rfl fun a574 h574 => ?_; clear h573
   refine pk (v := .agg #[.int .i64 d.ak, .int .i64 d.an, .string d.ky, .string d.tt, .int .u64 d.at_, .int .i64 d.am, ov]) h574 rfl (rn_loadN rfl rfl Try.underlying35 rfl (by kernel_rfl) (blk_part hk568 3 (by rfl))) fun a575 h575 => ?_; clear h574
   refine pw h575 rfl (op_new (v := fun N => pt N 0) (T := 35) (cs := #[.int .i64 0, .int .i64 0, .string (⟨#[]⟩), .string (⟨#[]⟩), .int .u64 0, .int .i64 0, .slice none 0 0]) (by kernel_rfl) (by kernel_rfl) (by kernel_rfl)) ?_; clear h575
   rintro _ w577 a576 ⟨N578, rfl, hN581, hz582, hk580, hg579⟩ h576
   have hz583 := hg579.size
   try dsimp only at h576
   have hB589 := hb_new hB0 hg567
   have hB590 := hb_new hB589 hg579
   refine pwD h576 rfl (op_storeN rfl rfl rfl (all_cons rfl (all_cons rfl (all_cons rfl (all_cons rfl (all_cons rfl (all_cons rfl (all_cons (sl_one (hs.below hB590)) all_nil))))))) (by kernel_rfl) hk580 rfl) ?_; clear h576
   rintro _ w585 a584 ⟨hk586, hz587, hg588⟩ h584
   have hk586' : Blk w585 N578 35 #[.int .i64 d.ak, .int .i64 d.an, .string d.ky, .string d.tt, .int .u64 d.at_, .int .i64 d.am, ov] := hk586; clear hk586
   have hz591 := hg588.size
   refine pl_nil ?_
   refine co_then ?_
   refine co_seq ?_
   refine co_seq ?_
   refine co_reg ?_
   refine pk0 (v := pt N566 0) h584 rfl fun a592 h592 => ?_; clear h584
   have hk593 := hk568.kept hg579 (by simp)
   have hk594 := hk593.kept hg588 (by simp; omega)
   refine pk (v := .int .i64 d.k) h592 rfl (rn_load1 rfl rfl Try.isAgg3 (hk594.cell rfl)) fun a595 h595 => ?_; clear h592
   refine pw h595 rfl (op_call (args := #[.int .i64 d.k]) (R := fun res xw => res = .bool (decide (0 ≤ d.k ∧ d.k ≤ 1073741824)) ∧ Below w585.heap.size w585 xw) rfl rfl rfl (by kernel_rfl) (by kernel_rfl) (Try.call75 _ _) (rmay40 d.k w585 ) (by rintro e x ⟨rfl, hb598⟩; exact ⟨_, rfl, ⟨rfl, hb598⟩⟩)) ?_; clear h595
   rintro _ w597 a596 ⟨rfl, hb598⟩ h596
   have hz599 := hb598.size
   have hc600 : (decide (0 ≤ d.k ∧ d.k ≤ 1073741824)) = true := decide_eq_true (by omega)
   rw [hc600] at h596; clear hc600
   refine pk0 (v := .bool false) h596 rfl fun a601 h601 => ?_; clear h596
   refine pk0 (v := .bool false) h601 rfl fun a602 h602 => ?_; clear h601
   refine pk0 (v := pt N566 1) h602 rfl fun a603 h603 => ?_; clear h602
   have hk604 := hk594.below hb598
   refine pk (v := .int .i64 d.nd) h603 rfl (rn_load1 rfl rfl Try.isAgg3 (hk604.cell rfl)) fun a605 h605 => ?_; clear h603
   refine pw h605 rfl (op_call (args := #[.int .i64 d.nd]) (R := fun res xw => res = .bool (decide (0 ≤ d.nd ∧ d.nd ≤ 1073741824)) ∧ Below w597.heap.size w597 xw) rfl rfl rfl (by kernel_rfl) (by kernel_rfl) (Try.call75 _ _) (rmay40 d.nd w597 ) (by rintro e x ⟨rfl, hb608⟩; exact ⟨_, rfl, ⟨rfl, hb608⟩⟩)) ?_; clear h605
   rintro _ w607 a606 ⟨rfl, hb608⟩ h606
   have hz609 := hb608.size
   have hc610 : (decide (0 ≤ d.nd ∧ d.nd ≤ 1073741824)) = true := decide_eq_true (by omega)
   rw [hc610] at h606; clear hc610
   refine pk0 (v := .bool false) h606 rfl fun a611 h611 => ?_; clear h606
   refine pk0 (v := .bool false) h611 rfl fun a612 h612 => ?_; clear h611
   refine pk0 (v := .bool false) h612 rfl fun a613 h613 => ?_; clear h612
   refine pk0 (v := pt N566 2) h613 rfl fun a614 h614 => ?_; clear h613
   have hk615 := hk604.below hb608
   refine pk (v := .int .i64 d.n) h614 rfl (rn_load1 rfl rfl Try.isAgg3 (hk615.cell rfl)) fun a616 h616 => ?_; clear h614
   refine pw h616 rfl (op_call (args := #[.int .i64 d.n]) (R := fun res xw => res = .bool (decide (0 ≤ d.n ∧ d.n ≤ 1073741824)) ∧ Below w607.heap.size w607 xw) rfl rfl rfl (by kernel_rfl) (by kernel_rfl) (Try.call75 _ _) (rmay40 d.n w607 ) (by rintro e x ⟨rfl, hb619⟩; exact ⟨_, rfl, ⟨rfl, hb619⟩⟩)) ?_; clear h616
   rintro _ w618 a617 ⟨rfl, hb619⟩ h617
   have hz620 := hb619.size
   have hc621 : (decide (0 ≤ d.n ∧ d.n ≤ 1073741824)) = true := decide_eq_true (by omega)
   rw [hc621] at h617; clear hc621
   refine pk0 (v := .bool false) h617 rfl fun a622 h622 => ?_; clear h617
   refine pk0 (v := .bool false) h622 rfl fun a623 h623 => ?_; clear h622
   refine pk0 (v := .bool false) h623 rfl fun a624 h624 => ?_; clear h623
   refine pk0 (v := pt N566 0) h624 rfl fun a625 h625 => ?_; clear h624
   have hk626 := hk615.below hb619
   refine pk (v := .int .i64 d.k) h625 rfl (rn_load1 rfl rfl Try.isAgg3 (hk626.cell rfl)) fun a627 h627 => ?_; clear h625
   refine pk0 (v := .bool (d.k == 0)) h627 rfl fun a628 h628 => ?_; clear h627
   refine pk0 (v := .bool (d.k == 0)) h628 rfl fun a629 h629 => ?_; clear h628
   have hc630 : (d.k == 0) = false := by first | (simp; done) | (simp; omega) | exact beq_false_of_ne (by omega) | exact beq_iff_eq.2 (by omega)
   rw [hc630] at h629; clear hc630
   refine psk h629 rfl fun a631 h631 => ?_; clear h629
   refine psk h631 rfl fun a632 h632 => ?_; clear h631
   refine psk h632 rfl fun a633 h633 => ?_; clear h632
   refine psk h633 rfl fun a634 h634 => ?_; clear h633
   refine psk h634 rfl fun a635 h635 => ?_; clear h634
   refine psk h635 rfl fun a636 h636 => ?_; clear h635
   refine psk h636 rfl fun a637 h637 => ?_; clear h636
   refine psk h637 rfl fun a638 h638 => ?_; clear h637
   refine psk h638 rfl fun a639 h639 => ?_; clear h638
   refine psk h639 rfl fun a640 h640 => ?_; clear h639
   refine psk h640 rfl fun a641 h641 => ?_; clear h640
   refine psk h641 rfl fun a642 h642 => ?_; clear h641
   refine psk h642 rfl fun a643 h643 => ?_; clear h642
   refine psk h643 rfl fun a644 h644 => ?_; clear h643
   refine psk h644 rfl fun a645 h645 => ?_; clear h644
   refine psk h645 rfl fun a646 h646 => ?_; clear h645
   refine pk0 (v := .bool false) h646 rfl fun a647 h647 => ?_; clear h646
   refine pk0 (v := .bool false) h647 rfl fun a648 h648 => ?_; clear h647
   refine pl_nil ?_
   refine co_then ?_
   refine co_false h648 rfl ?_
   refine wp_skip ?_
   refine co_then ?_
   refine co_seq ?_
   refine co_reg ?_
   refine pk0 (v := .agg #[.string (⟨#[]⟩), .int .i64 0]) h648 rfl fun a649 h649 => ?_; clear h648
   refine pw h649 rfl (op_new (v := fun N => pt N 0) (T := 126) (cs := #[.string (⟨#[]⟩), .int .i64 0]) (by kernel_rfl) (by kernel_rfl) (by kernel_rfl)) ?_; clear h649
   rintro _ w651 a650 ⟨N652, rfl, hN655, hz656, hk654, hg653⟩ h650
   have hz657 := hg653.size
   try dsimp only at h650
   refine pk0 (v := pt N652 0) h650 rfl fun a658 h658 => ?_; clear h650
   refine pl_nil ?_
   refine co_then ?_
   refine co_seq ?_
   refine co_reg ?_
   refine pk0 (v := pt N652 0) h658 rfl fun a659 h659 => ?_; clear h658
   refine pk0 (v := pt N566 0) h659 rfl fun a660 h660 => ?_; clear h659
   have hk661 := hk626.kept hg653 (by simp)
   refine pk (v := .int .i64 d.k) h660 rfl (rn_load1 rfl rfl Try.isAgg3 (hk661.cell rfl)) fun a662 h662 => ?_; clear h660
   have ho665 := ox_of hk654
   refine pw h662 rfl (op_call (args := #[pt N652 0, .int .i64 d.k]) (R := fun res xw => res = .tuple #[] ∧ OX N652 (([] : List UInt8) ++ putL d.k) (0 + 9) xw ∧ w651.grownBy xw (some N652)) rfl rfl rfl (by kernel_rfl) (by kernel_rfl) (Try.call76 _ _) (ox_num N652 ([]) 0 d.k w651 ho665 (by omega) (by omega) (by omega)) (by rintro e x ⟨rfl, h1, h2⟩; exact ⟨_, rfl, rfl, h1, h2⟩)) ?_; clear h662
   rintro _ w664 a663 ⟨rfl, ho666, hx667⟩ h663
   have hz668 := hx667.size
   have hl669 := ho666.lt
   refine pl_nil ?_
   refine co_then ?_
   refine co_seq ?_
   refine co_reg ?_
   refine pk0 (v := pt N652 0) h663 rfl fun a670 h670 => ?_; clear h663
   refine pk0 (v := pt N566 1) h670 rfl fun a671 h671 => ?_; clear h670
   have hk672 := hk661.kept hx667 (by simp; omega)
   refine pk (v := .int .i64 d.nd) h671 rfl (rn_load1 rfl rfl Try.isAgg3 (hk672.cell rfl)) fun a673 h673 => ?_; clear h671
   refine pw h673 rfl (op_call (args := #[pt N652 0, .int .i64 d.nd]) (R := fun res xw => res = .tuple #[] ∧ OX N652 ((([] : List UInt8) ++ putL d.k) ++ putL d.nd) (0 + 9 + 9) xw ∧ w664.grownBy xw (some N652)) rfl rfl rfl (by kernel_rfl) (by kernel_rfl) (Try.call76 _ _) (ox_num N652 (([] : List UInt8) ++ putL d.k) (0 + 9) d.nd w664 ho666 (by omega) (by omega) (by omega)) (by rintro e x ⟨rfl, h1, h2⟩; exact ⟨_, rfl, rfl, h1, h2⟩)) ?_; clear h673
   rintro _ w675 a674 ⟨rfl, ho676, hx677⟩ h674
   have hz678 := hx677.size
   have hl679 := ho676.lt
   refine pl_nil ?_
   refine co_then ?_
   refine co_seq ?_
   refine co_reg ?_
   refine pk0 (v := pt N652 0) h674 rfl fun a680 h680 => ?_; clear h674
   refine pk0 (v := pt N566 2) h680 rfl fun a681 h681 => ?_; clear h680
   have hk682 := hk672.kept hx677 (by simp; omega)
   refine pk (v := .int .i64 d.n) h681 rfl (rn_load1 rfl rfl Try.isAgg3 (hk682.cell rfl)) fun a683 h683 => ?_; clear h681
   refine pw h683 rfl (op_call (args := #[pt N652 0, .int .i64 d.n]) (R := fun res xw => res = .tuple #[] ∧ OX N652 (((([] : List UInt8) ++ putL d.k) ++ putL d.nd) ++ putL d.n) (0 + 9 + 9 + 9) xw ∧ w675.grownBy xw (some N652)) rfl rfl rfl (by kernel_rfl) (by kernel_rfl) (Try.call76 _ _) (ox_num N652 ((([] : List UInt8) ++ putL d.k) ++ putL d.nd) (0 + 9 + 9) d.n w675 ho676 (by omega) (by omega) (by omega)) (by rintro e x ⟨rfl, h1, h2⟩; exact ⟨_, rfl, rfl, h1, h2⟩)) ?_; clear h683
   rintro _ w685 a684 ⟨rfl, ho686, hx687⟩ h684
   have hz688 := hx687.size
   have hl689 := ho686.lt
   refine pl_nil ?_
   refine co_then ?_
   refine co_seq ?_
   refine co_seq ?_
   refine co_reg ?_
   refine pk0 (v := pt N566 0) h684 rfl fun a690 h690 => ?_; clear h684
   have hk691 := hk682.kept hx687 (by simp; omega)
   refine pk (v := .int .i64 d.k) h690 rfl (rn_load1 rfl rfl Try.isAgg3 (hk691.cell rfl)) fun a692 h692 => ?_; clear h690
   refine pk0 (v := .bool (d.k == 0)) h692 rfl fun a693 h693 => ?_; clear h692
   refine pl_nil ?_
   refine co_then ?_
   have hc694 : (d.k == 0) = false := by first | (simp; done) | (simp; omega) | exact beq_false_of_ne (by omega) | exact beq_iff_eq.2 (by omega)
   rw [hc694] at h693; clear hc694
   refine co_false h693 rfl ?_
   refine wp_skip ?_
   refine co_then ?_
   refine co_seq ?_
   refine co_reg ?_
   refine pk0 (v := pt N652 0) h693 rfl fun a695 h695 => ?_; clear h693
   have hB701 := hb_at hB590 hg588 (by omega)
   have hB702 := hb_call hB701 hb598
   have hB703 := hb_call hB702 hb608
   have hB704 := hb_call hB703 hb619
   have hB705 := hb_new hB704 hg653
   have hB706 := hb_at hB705 hx667 (by omega)
   have hB707 := hb_at hB706 hx677 (by omega)
   have hB708 := hb_at hB707 hx687 (by omega)
   have hk709 := hk586'.below hb598
   have hk710 := hk709.below hb608
   have hk711 := hk710.below hb619
   have hk712 := hk711.kept hg653 (by simp)
   have hk713 := hk712.kept hx667 (by simp; omega)
   have hk714 := hk713.kept hx677 (by simp; omega)
   have hk715 := hk714.kept hx687 (by simp; omega)
   have hW700 := OX.eq (l' := evB d) ho686 (by rw [evB_n hk0]; simp [hedB]) (Nat.le_refl _)
   obtain ⟨sv699, hsv⟩ : ∃ s : ByteArray, s = ⟨(evB d).toArray⟩ := ⟨_, rfl⟩
   have hsz := evS_size hsv
   refine pw h695 rfl (op_call (args := #[pt N652 0]) (R := fun res xw => res = .tuple #[.string sv699, .int .i64 0] ∧ Below w685.heap.size w685 xw) rfl rfl rfl (by kernel_rfl) (by kernel_rfl) (Try.call80 _ _) (ox_done N652 _ _ w685 hW700) (by rintro q x ⟨h1, h2⟩; rw [← hsv] at h1; exact ⟨_, h1, rfl, h2⟩)) ?_; clear h695
   rintro _ w697 a696 ⟨rfl, hb698⟩ h696
   have hz716 := hb698.size
   refine pk0 (v := .tuple #[.string sv699, .int .i64 0]) h696 rfl fun a717 h717 => ?_; clear h696
   refine pk0 (v := .string sv699) h717 rfl fun a718 h718 => ?_; clear h717
   refine pk0 (v := .int .i64 0) h718 rfl fun a719 h719 => ?_; clear h718
   refine pk0 (v := .string sv699) h719 rfl fun a720 h720 => ?_; clear h719
   refine pk0 (v := .int .i64 0) h720 rfl fun a721 h721 => ?_; clear h720
   refine pl_nil ?_
   refine co_then ?_
   refine co_seq ?_
   refine co_seq ?_
   refine co_reg ?_
   refine pk0 (v := .int .i64 0) h721 rfl fun a722 h722 => ?_; clear h721
   refine pk0 (v := .bool ((0 : Int) != 0)) h722 rfl fun a723 h723 => ?_; clear h722
   refine pl_nil ?_
   refine co_then ?_
   have hc724 : ((0 : Int) != 0) = false := by first | (simp; done) | (simp; omega) | exact beq_false_of_ne (by omega) | exact beq_iff_eq.2 (by omega)
   rw [hc724] at h723; clear hc724
   refine co_false h723 rfl ?_
   refine wp_skip ?_
   refine co_then ?_
   refine co_seq ?_
   refine co_seq ?_
   refine co_reg ?_
   refine pk0 (v := .string sv699) h723 rfl fun a725 h725 => ?_; clear h723
   refine pk (v := .int .i64 ((sv699.size : Nat) : Int)) h725 rfl (rn_lenStr rfl rfl Try.underlying9) fun a726 h726 => ?_; clear h725
   refine pk0 (v := .bool (decide (((sv699.size : Nat) : Int) > 255))) h726 rfl fun a727 h727 => ?_; clear h726
   refine pl_nil ?_
   refine co_then ?_
   have hB729 := hb_call hB708 hb698
   cases hc728 : (decide (((sv699.size : Nat) : Int) > 255))
   ·
    rw [hc728] at h727
    have hp730 : ¬ (((sv699.size : Nat) : Int) > 255) := of_decide_eq_false hc728
    clear hc728
    refine co_false h727 rfl ?_
    refine wp_skip ?_
    refine co_then ?_
    refine co_seq ?_
    refine co_reg ?_
    refine pk0 (v := .string sv699) h727 rfl fun a731 h731 => ?_; clear h727
    refine pk0 (v := .string sv699) h731 rfl fun a732 h732 => ?_; clear h731
    refine pk0 (v := .int .i64 0) h732 rfl fun a733 h733 => ?_; clear h732
    refine pl_nil ?_
    refine co_then ?_
    refine wp_ret ?_
    refine co_ret2 h733 rfl rfl rfl ?_
    exact ⟨by rw [(oneE_0 hr (by omega)).1, (oneE_0 hr (by omega)).2, hsv], hB729⟩
   ·
    rw [hc728] at h727
    have hp734 : ((sv699.size : Nat) : Int) > 255 := of_decide_eq_true hc728
    clear hc728
    refine co_true h727 rfl ?_
    refine co_seq ?_
    refine co_reg ?_
    refine pk0 (v := .string (⟨#[]⟩)) h727 rfl fun a735 h735 => ?_; clear h727
    refine pk0 (v := .int .i64 3) h735 rfl fun a736 h736 => ?_; clear h735
    refine pl_nil ?_
    refine co_then ?_
    refine wp_ret ?_
    refine co_thenR ?_
    refine co_ret2 h736 rfl rfl rfl ?_
    exact ⟨by rw [(oneE_3 hr (by omega)).1, (oneE_3 hr (by omega)).2], hB729⟩
 · skip
   have hrr := rng_o2 hr hk0
   refine co_enter (n := 139) Try.func42 rfl rfl rfl [(0, .agg #[.int .i64 d.k, .int .i64 d.nd, .int .i64 d.n, .int .i64 d.ak, .int .i64 d.an, .string d.ky, .string d.tt, .int .u64 d.at_, .int .i64 d.am, ov])] rfl (fun a h0 => ?_)
   refine co_seq ?_
   refine co_reg ?_
   refine pw h0 rfl (op_new (v := fun N => pt N 0) (T := 60) (cs := #[.int .i64 d.k, .int .i64 d.nd, .int .i64 d.n, .int .i64 d.ak, .int .i64 d.an, .string d.ky, .string d.tt, .int .u64 d.at_, .int .i64 d.am, ov]) (by kernel_rfl) (by kernel_rfl) (by kernel_rfl)) ?_; clear h0
   rintro _ w738 a737 ⟨N739, rfl, hN742, hz743, hk741, hg740⟩ h737
   have hz744 := hg740.size
   try dsimp only at h737
   refine pk0 (v := .string (⟨#[]⟩)) h737 rfl fun a745 h745 => ?_; clear h737
   refine pk0 (v := .int .i64 0) h745 rfl fun a746 h746 => ?_; clear h745
   refine pl_nil ?_
   refine co_then ?_
   refine co_seq ?_
   refine co_reg ?_
   refine pk0 (v := pt N739 3) h746 rfl fun a747 h747 => ?_; clear h746
   refine pk (v := .agg #[.int .i64 d.ak, .int .i64 d.an, .string d.ky, .string d.tt, .int .u64 d.at_, .int .i64 d.am, ov]) h747 rfl (rn_loadN rfl rfl Try.underlying35 rfl (by kernel_rfl) (blk_part hk741 3 (by rfl))) fun a748 h748 => ?_; clear h747
   refine pw h748 rfl (op_new (v := fun N => pt N 0) (T := 35) (cs := #[.int .i64 0, .int .i64 0, .string (⟨#[]⟩), .string (⟨#[]⟩), .int .u64 0, .int .i64 0, .slice none 0 0]) (by kernel_rfl) (by kernel_rfl) (by kernel_rfl)) ?_; clear h748
   rintro _ w750 a749 ⟨N751, rfl, hN754, hz755, hk753, hg752⟩ h749
   have hz756 := hg752.size
   try dsimp only at h749
   have hB762 := hb_new hB0 hg740
   have hB763 := hb_new hB762 hg752
   refine pwD h749 rfl (op_storeN rfl rfl rfl (all_cons rfl (all_cons rfl (all_cons rfl (all_cons rfl (all_cons rfl (all_cons rfl (all_cons (sl_one (hs.below hB763)) all_nil))))))) (by kernel_rfl) hk753 rfl) ?_; clear h749
   rintro _ w758 a757 ⟨hk759, hz760, hg761⟩ h757
   have hk759' : Blk w758 N751 35 #[.int .i64 d.ak, .int .i64 d.an, .string d.ky, .string d.tt, .int .u64 d.at_, .int .i64 d.am, ov] := hk759; clear hk759
   have hz764 := hg761.size
   refine pl_nil ?_
   refine co_then ?_
   refine co_seq ?_
   refine co_seq ?_
   refine co_reg ?_
   refine pk0 (v := pt N739 0) h757 rfl fun a765 h765 => ?_; clear h757
   have hk766 := hk741.kept hg752 (by simp)
   have hk767 := hk766.kept hg761 (by simp; omega)
   refine pk (v := .int .i64 d.k) h765 rfl (rn_load1 rfl rfl Try.isAgg3 (hk767.cell rfl)) fun a768 h768 => ?_; clear h765
   refine pw h768 rfl (op_call (args := #[.int .i64 d.k]) (R := fun res xw => res = .bool (decide (0 ≤ d.k ∧ d.k ≤ 1073741824)) ∧ Below w758.heap.size w758 xw) rfl rfl rfl (by kernel_rfl) (by kernel_rfl) (Try.call75 _ _) (rmay40 d.k w758 ) (by rintro e x ⟨rfl, hb771⟩; exact ⟨_, rfl, ⟨rfl, hb771⟩⟩)) ?_; clear h768
   rintro _ w770 a769 ⟨rfl, hb771⟩ h769
   have hz772 := hb771.size
   have hB774 := hb_at hB763 hg761 (by omega)
   have hB775 := hb_call hB774 hb771
   cases hc773 : (decide (0 ≤ d.k ∧ d.k ≤ 1073741824))
   ·
    rw [hc773] at h769
    have hp776 : ¬ (0 ≤ d.k ∧ d.k ≤ 1073741824) := of_decide_eq_false hc773
    clear hc773
    refine pk0 (v := .bool true) h769 rfl fun a777 h777 => ?_; clear h769
    refine pk0 (v := .bool true) h777 rfl fun a778 h778 => ?_; clear h777
    refine psk h778 rfl fun a779 h779 => ?_; clear h778
    refine psk h779 rfl fun a780 h780 => ?_; clear h779
    refine psk h780 rfl fun a781 h781 => ?_; clear h780
    refine psk h781 rfl fun a782 h782 => ?_; clear h781
    refine pk0 (v := .bool true) h782 rfl fun a783 h783 => ?_; clear h782
    refine pk0 (v := .bool true) h783 rfl fun a784 h784 => ?_; clear h783
    refine psk h784 rfl fun a785 h785 => ?_; clear h784
    refine psk h785 rfl fun a786 h786 => ?_; clear h785
    refine psk h786 rfl fun a787 h787 => ?_; clear h786
    refine psk h787 rfl fun a788 h788 => ?_; clear h787
    refine pk0 (v := .bool true) h788 rfl fun a789 h789 => ?_; clear h788
    refine pk0 (v := .bool true) h789 rfl fun a790 h790 => ?_; clear h789
    refine psk h790 rfl fun a791 h791 => ?_; clear h790
    refine psk h791 rfl fun a792 h792 => ?_; clear h791
    refine psk h792 rfl fun a793 h793 => ?_; clear h792
    refine psk h793 rfl fun a794 h794 => ?_; clear h793
    refine psk h794 rfl fun a795 h795 => ?_; clear h794
    refine psk h795 rfl fun a796 h796 => ?_; clear h795
    refine psk h796 rfl fun a797 h797 => ?_; clear h796
    refine psk h797 rfl fun a798 h798 => ?_; clear h797
    refine psk h798 rfl fun a799 h799 => ?_; clear h798
    refine psk h799 rfl fun a800 h800 => ?_; clear h799
    refine psk h800 rfl fun a801 h801 => ?_; clear h800
    refine psk h801 rfl fun a802 h802 => ?_; clear h801
    refine psk h802 rfl fun a803 h803 => ?_; clear h802
    refine psk h803 rfl fun a804 h804 => ?_; clear h803
    refine psk h804 rfl fun a805 h805 => ?_; clear h804
    refine psk h805 rfl fun a806 h806 => ?_; clear h805
    refine psk h806 rfl fun a807 h807 => ?_; clear h806
    refine psk h807 rfl fun a808 h808 => ?_; clear h807
    refine psk h808 rfl fun a809 h809 => ?_; clear h808
    refine psk h809 rfl fun a810 h810 => ?_; clear h809
    refine psk h810 rfl fun a811 h811 => ?_; clear h810
    refine pk0 (v := .bool true) h811 rfl fun a812 h812 => ?_; clear h811
    refine pl_nil ?_
    refine co_then ?_
    refine co_true h812 rfl ?_
    refine co_seq ?_
    refine co_reg ?_
    refine pk0 (v := .string (⟨#[]⟩)) h812 rfl fun a813 h813 => ?_; clear h812
    refine pk0 (v := .int .i64 5) h813 rfl fun a814 h814 => ?_; clear h813
    refine pl_nil ?_
    refine co_then ?_
    refine wp_ret ?_
    refine co_thenR ?_
    refine co_ret2 h814 rfl rfl rfl ?_
    exact ⟨by rw [(oneE_5 hr).1, (oneE_5 hr).2], hB775⟩
   ·
    rw [hc773] at h769
    have hp815 : 0 ≤ d.k ∧ d.k ≤ 1073741824 := of_decide_eq_true hc773
    clear hc773
    refine pk0 (v := .bool false) h769 rfl fun a816 h816 => ?_; clear h769
    refine pk0 (v := .bool false) h816 rfl fun a817 h817 => ?_; clear h816
    refine pk0 (v := pt N739 1) h817 rfl fun a818 h818 => ?_; clear h817
    have hk819 := hk767.below hb771
    refine pk (v := .int .i64 d.nd) h818 rfl (rn_load1 rfl rfl Try.isAgg3 (hk819.cell rfl)) fun a820 h820 => ?_; clear h818
    refine pw h820 rfl (op_call (args := #[.int .i64 d.nd]) (R := fun res xw => res = .bool (decide (0 ≤ d.nd ∧ d.nd ≤ 1073741824)) ∧ Below w770.heap.size w770 xw) rfl rfl rfl (by kernel_rfl) (by kernel_rfl) (Try.call75 _ _) (rmay40 d.nd w770 ) (by rintro e x ⟨rfl, hb823⟩; exact ⟨_, rfl, ⟨rfl, hb823⟩⟩)) ?_; clear h820
    rintro _ w822 a821 ⟨rfl, hb823⟩ h821
    have hz824 := hb823.size
    have hB826 := hb_call hB775 hb823
    have hk827 := hk759'.below hb771
    have hk828 := hk827.below hb823
    cases hc825 : (decide (0 ≤ d.nd ∧ d.nd ≤ 1073741824))
    ·
     rw [hc825] at h821
     have hp829 : ¬ (0 ≤ d.nd ∧ d.nd ≤ 1073741824) := of_decide_eq_false hc825
     clear hc825
     refine pk0 (v := .bool true) h821 rfl fun a830 h830 => ?_; clear h821
     refine pk0 (v := .bool true) h830 rfl fun a831 h831 => ?_; clear h830
     refine pk0 (v := .bool true) h831 rfl fun a832 h832 => ?_; clear h831
     refine psk h832 rfl fun a833 h833 => ?_; clear h832
     refine psk h833 rfl fun a834 h834 => ?_; clear h833
     refine psk h834 rfl fun a835 h835 => ?_; clear h834
     refine psk h835 rfl fun a836 h836 => ?_; clear h835
     refine pk0 (v := .bool true) h836 rfl fun a837 h837 => ?_; clear h836
     refine pk0 (v := .bool true) h837 rfl fun a838 h838 => ?_; clear h837
     refine psk h838 rfl fun a839 h839 => ?_; clear h838
     refine psk h839 rfl fun a840 h840 => ?_; clear h839
     refine psk h840 rfl fun a841 h841 => ?_; clear h840
     refine psk h841 rfl fun a842 h842 => ?_; clear h841
     refine psk h842 rfl fun a843 h843 => ?_; clear h842
     refine psk h843 rfl fun a844 h844 => ?_; clear h843
     refine psk h844 rfl fun a845 h845 => ?_; clear h844
     refine psk h845 rfl fun a846 h846 => ?_; clear h845
     refine psk h846 rfl fun a847 h847 => ?_; clear h846
     refine psk h847 rfl fun a848 h848 => ?_; clear h847
     refine psk h848 rfl fun a849 h849 => ?_; clear h848
     refine psk h849 rfl fun a850 h850 => ?_; clear h849
     refine psk h850 rfl fun a851 h851 => ?_; clear h850
     refine psk h851 rfl fun a852 h852 => ?_; clear h851
     refine psk h852 rfl fun a853 h853 => ?_; clear h852
     refine psk h853 rfl fun a854 h854 => ?_; clear h853
     refine psk h854 rfl fun a855 h855 => ?_; clear h854
     refine psk h855 rfl fun a856 h856 => ?_; clear h855
     refine psk h856 rfl fun a857 h857 => ?_; clear h856
     refine psk h857 rfl fun a858 h858 => ?_; clear h857
     refine psk h858 rfl fun a859 h859 => ?_; clear h858
     refine pk0 (v := .bool true) h859 rfl fun a860 h860 => ?_; clear h859
     refine pl_nil ?_
     refine co_then ?_
     refine co_true h860 rfl ?_
     refine co_seq ?_
     refine co_reg ?_
     refine pk0 (v := .string (⟨#[]⟩)) h860 rfl fun a861 h861 => ?_; clear h860
     refine pk0 (v := .int .i64 5) h861 rfl fun a862 h862 => ?_; clear h861
     refine pl_nil ?_
     refine co_then ?_
     refine wp_ret ?_
     refine co_thenR ?_
     refine co_ret2 h862 rfl rfl rfl ?_
     exact ⟨by rw [(oneE_5 hr).1, (oneE_5 hr).2], hB826⟩
    ·
     rw [hc825] at h821
     have hp863 : 0 ≤ d.nd ∧ d.nd ≤ 1073741824 := of_decide_eq_true hc825
     clear hc825
     refine pk0 (v := .bool false) h821 rfl fun a864 h864 => ?_; clear h821
     refine pk0 (v := .bool false) h864 rfl fun a865 h865 => ?_; clear h864
     refine pk0 (v := .bool false) h865 rfl fun a866 h866 => ?_; clear h865
     refine pk0 (v := pt N739 2) h866 rfl fun a867 h867 => ?_; clear h866
     have hk868 := hk819.below hb823
     refine pk (v := .int .i64 d.n) h867 rfl (rn_load1 rfl rfl Try.isAgg3 (hk868.cell rfl)) fun a869 h869 => ?_; clear h867
     refine pw h869 rfl (op_call (args := #[.int .i64 d.n]) (R := fun res xw => res = .bool (decide (0 ≤ d.n ∧ d.n ≤ 1073741824)) ∧ Below w822.heap.size w822 xw) rfl rfl rfl (by kernel_rfl) (by kernel_rfl) (Try.call75 _ _) (rmay40 d.n w822 ) (by rintro e x ⟨rfl, hb872⟩; exact ⟨_, rfl, ⟨rfl, hb872⟩⟩)) ?_; clear h869
     rintro _ w871 a870 ⟨rfl, hb872⟩ h870
     have hz873 := hb872.size
     have hc874 : (decide (0 ≤ d.n ∧ d.n ≤ 1073741824)) = false := decide_eq_false (by omega)
     rw [hc874] at h870; clear hc874
     refine pk0 (v := .bool true) h870 rfl fun a875 h875 => ?_; clear h870
     refine pk0 (v := .bool true) h875 rfl fun a876 h876 => ?_; clear h875
     refine pk0 (v := .bool true) h876 rfl fun a877 h877 => ?_; clear h876
     refine psk h877 rfl fun a878 h878 => ?_; clear h877
     refine psk h878 rfl fun a879 h879 => ?_; clear h878
     refine psk h879 rfl fun a880 h880 => ?_; clear h879
     refine psk h880 rfl fun a881 h881 => ?_; clear h880
     refine psk h881 rfl fun a882 h882 => ?_; clear h881
     refine psk h882 rfl fun a883 h883 => ?_; clear h882
     refine psk h883 rfl fun a884 h884 => ?_; clear h883
     refine psk h884 rfl fun a885 h885 => ?_; clear h884
     refine psk h885 rfl fun a886 h886 => ?_; clear h885
     refine psk h886 rfl fun a887 h887 => ?_; clear h886
     refine psk h887 rfl fun a888 h888 => ?_; clear h887
     refine psk h888 rfl fun a889 h889 => ?_; clear h888
     refine psk h889 rfl fun a890 h890 => ?_; clear h889
     refine psk h890 rfl fun a891 h891 => ?_; clear h890
     refine psk h891 rfl fun a892 h892 => ?_; clear h891
     refine psk h892 rfl fun a893 h893 => ?_; clear h892
     refine psk h893 rfl fun a894 h894 => ?_; clear h893
     refine psk h894 rfl fun a895 h895 => ?_; clear h894
     refine psk h895 rfl fun a896 h896 => ?_; clear h895
     refine psk h896 rfl fun a897 h897 => ?_; clear h896
     refine psk h897 rfl fun a898 h898 => ?_; clear h897
     refine pk0 (v := .bool true) h898 rfl fun a899 h899 => ?_; clear h898
     refine pl_nil ?_
     refine co_then ?_
     refine co_true h899 rfl ?_
     refine co_seq ?_
     refine co_reg ?_
     refine pk0 (v := .string (⟨#[]⟩)) h899 rfl fun a900 h900 => ?_; clear h899
     refine pk0 (v := .int .i64 5) h900 rfl fun a901 h901 => ?_; clear h900
     refine pl_nil ?_
     refine co_then ?_
     refine wp_ret ?_
     refine co_thenR ?_
     refine co_ret2 h901 rfl rfl rfl ?_
     have hB902 := hb_call hB826 hb872
     exact ⟨by rw [(oneE_5 hr).1, (oneE_5 hr).2], hB902⟩
end Go.Proofs.Ytdgboikkgeioeaa

/- Package script and the document's own: Put. Conditions: at most 100 steps of at most 100 operations each. -/
namespace Go.Proofs.Ytdgboikkgeioeaa
open Go.RowKit Go.PlainAid
set_option linter.unusedVariables false
set_option linter.unusedSimpArgs false


theorem u8_push {n : Nat} (h : n ≤ 255) : u8E (UInt8.ofNat n) = [.int .u8 ((n : Nat) : Int)] := by
  unfold u8E; rw [UInt8.toNat_ofNat_of_lt' (by show n < 256; omega)]
theorem row_byte {w : World} {N n : Nat} {T : TypeId} (h : Blk w N T #[.int .u8 ((n : Nat) : Int)]) (hn : n ≤ 255) : w.ownsRow N T 1 (.slice (some ⟨N, 0, none⟩) 1 1) [UInt8.ofNat n].length ([UInt8.ofNat n].flatMap u8E) := by
  refine ⟨by simp [u8E], .inr ⟨N, 1, _, rfl, Nat.le_refl _, h, Nat.le_refl _, by unfold maxLen; omega, rfl, ?_⟩⟩
  simp only [List.flatMap_cons, List.flatMap_nil, u8_push hn]; rfl
def bsB (l : List EvX) : ByteArray := ⟨(allB (l.map EvX.d)).toArray⟩
theorem takeX_at {l : List EvX} {i : Nat} {y : EvX} (h : l[i]? = some y) : (l.take (i + 1)).map EvX.d = (l.take i).map EvX.d ++ [y.d] := by rw [List.take_add_one, h]; simp
theorem allB_at {l : List EvX} {i : Nat} {y : EvX} (h : l[i]? = some y) : allB ((l.take (i + 1)).map EvX.d) = (allB ((l.take i).map EvX.d) ++ [UInt8.ofNat (oneB y.d).size]) ++ (oneB y.d).data.toList := by
  rw [takeX_at h]; simp [allB, pcB]
theorem allB_len : ∀ l : List EvX, (allB (l.map EvX.d)).length ≤ 256 * l.length
  | [] => by simp [allB]
  | x :: r => by
    have h1 := allB_len r; have h2 := oneB_len x.d; have h3 : (oneB x.d).data.toList.length = (oneB x.d).size := by simp
    simp only [allB, pcB, List.map_cons, List.flatMap_cons, List.length_append, List.length_cons] at h1 ⊢; omega
theorem bsB_size (l : List EvX) : (bsB l).size = (allB (l.map EvX.d)).length := by show (allB (l.map EvX.d)).toArray.size = _; simp
theorem bsB_len (l : List EvX) : (bsB l).size ≤ 256 * l.length := by rw [bsB_size]; exact allB_len l
theorem bsB_at {l : List EvX} {i : Nat} {y : EvX} (h : l[i]? = some y) : bsB (l.take (i + 1)) = (bsB (l.take i) ++ (⟨[UInt8.ofNat (oneB y.d).size].toArray⟩ : ByteArray)) ++ oneB y.d := by
  apply ByteArray.ext; unfold bsB; rw [allB_at h]; simp [ByteArray.data_append]
theorem allE_badX {l : List EvX} {i : Nat} {y : EvX} {z : Int} (h : allE ((l.map EvX.d).drop i) = z) (hy : l[i]? = some y) (hc : oneE y.d ≠ 0) : oneE y.d = z := allE_bad h (by rw [List.getElem?_map, hy]; rfl) hc
theorem allE_stepX {l : List EvX} {i : Nat} {y : EvX} {z : Int} (h : allE ((l.map EvX.d).drop i) = z) (hy : l[i]? = some y) (hc : oneE y.d = 0) : allE ((l.map EvX.d).drop (i + 1)) = z := allE_step h (by rw [List.getElem?_map, hy]; rfl) hc
theorem allE_endX {l : List EvX} {i : Nat} {z : Int} (h : allE ((l.map EvX.d).drop i) = z) (hi : l.length ≤ i) : 0 = z := allE_end h (by simpa using hi)
theorem putA_0 {l : List EvD} (h : allE l = 0) : putA l = ⟨(allB l).toArray⟩ := if_pos h
theorem putA_n {l : List EvD} (h : ¬ allE l = 0) : putA l = ⟨#[]⟩ := if_neg h

set_option maxRecDepth 100000 in
set_option maxHeartbeats 1600000 in
theorem scPut_any (v : Value) (l : List EvX) (w : World) (hs : SliceOf evE 10 w v l) (hok : ∀ z ∈ l, EvOk w z) (h100 : ∀ z ∈ l, z.d.ops.length ≤ 100) (hlen : l.length ≤ 100) :
    Calls Try.prog 18 #[v] w fun e w' => e = .returned (.tuple #[.string (putA (l.map EvX.d)), .int .i64 (allE (l.map EvX.d))]) ∧ Below w.heap.size w w' := by
 have hB0 := Below.refl w.heap.size w
 have hl_hs := sl_len hs
 refine co_enter (n := 35) Try.func18 rfl rfl rfl [(0, v)] rfl (fun a h0 => ?_)
 refine co_seq ?_
 refine co_reg ?_
 refine pk0 (v := .string (⟨#[]⟩)) h0 rfl fun a1 h1 => ?_; clear h0
 refine pk0 (v := .int .i64 0) h1 rfl fun a2 h2 => ?_; clear h1
 refine pl_nil ?_
 refine co_then ?_
 refine co_seq ?_
 refine co_reg ?_
 refine pk0 (v := .slice none 0 0) h2 rfl fun a3 h3 => ?_; clear h2
 refine pl_nil ?_
 refine co_then ?_
 refine co_seq ?_
 refine co_seq ?_
 refine co_reg ?_
 refine pk0 (v := v) h3 rfl fun a4 h4 => ?_; clear h3
 refine pk (v := .int .i64 ((l.length : Nat) : Int)) h4 rfl (rn_len rfl rfl Try.underlying50 hs) fun a5 h5 => ?_; clear h4
 refine pk0 (v := .int .i64 0) h5 rfl fun a6 h6 => ?_; clear h5
 refine pl_nil ?_
 refine co_then ?_
 refine wp_block ?_
 have h7 : Slots 35 [(0, v), (4, .slice none 0 0), (9, v), (10, .int .i64 ((l.length : Nat) : Int)), (11, .int .i64 0)] _ := h6.sub ⟨rfl, rfl, rfl, rfl, rfl, trivial⟩; clear h6
 refine co_loop (fun mm a x => ∃ (i : Nat) (u : Value), Slots 35 [(0, v), (4, u), (9, v), (10, .int .i64 ((l.length : Nat) : Int)), (11, .int .i64 ((i : Nat) : Int))] a ∧ mm = l.length - i ∧ (i ≤ l.length) ∧ (allE ((l.map EvX.d).drop i) = allE (l.map EvX.d)) ∧ x.ownsRow w.heap.size 5 1 u (allB ((l.take i).map EvX.d)).length ((allB ((l.take i).map EvX.d)).flatMap u8E) ∧ Below w.heap.size w x) (l.length - 0) ?_ ?_
 · exact ⟨0, (.slice none 0 0), h7.sub ⟨rfl, rfl, rfl, rfl, (slot_eq rfl (congrArg (Value.int .i64) (by first | rfl | omega))), trivial⟩, rfl, by omega, by first | rfl | exact hinv', (row_nilL _ _ _ _ _), hB0⟩
 · rintro k8 a9 w10 ⟨i, u, h9, rfl, hi11, hi12, hf13, hB14⟩
   have hz15 := hB14.size
   have hae : allE ((l.map EvX.d).drop i) = allE (l.map EvX.d) := by assumption
   have hal := allB_len (l.take i)
   have hal2 := List.length_take_le i l
   have hal3 : (allB ((l.take i).map EvX.d)).length ≤ 25600 := by omega
   refine co_seq ?_
   refine co_reg ?_
   refine pk0 (v := .bool (decide (((i : Nat) : Int) < ((l.length : Nat) : Int)))) h9 rfl fun a16 h16 => ?_; clear h9
   refine pl_nil ?_
   refine co_then ?_
   refine co_seq ?_
   cases hc17 : (decide (((i : Nat) : Int) < ((l.length : Nat) : Int)))
   ·
    rw [hc17] at h16
    have hp18 : ¬ (((i : Nat) : Int) < ((l.length : Nat) : Int)) := of_decide_eq_false hc17
    clear hc17
    refine co_false h16 rfl ?_
    refine wp_exit ?_
    refine co_thenX ?_
    refine co_thenX ?_
    refine co_blockX ?_
    refine co_then ?_
    refine co_seq ?_
    refine co_reg ?_
    refine pk0 (v := u) h16 rfl fun a19 h19 => ?_; clear h16
    refine pk (v := .string (⟨(allB ((l.take i).map EvX.d)).toArray⟩)) h19 rfl (rn_convOwn rfl rfl Try.underlying63 Try.underlying5 Try.underlying9 hf13) fun a20 h20 => ?_; clear h19
    refine pk0 (v := .string (⟨(allB ((l.take i).map EvX.d)).toArray⟩)) h20 rfl fun a21 h21 => ?_; clear h20
    refine pk0 (v := .int .i64 0) h21 rfl fun a22 h22 => ?_; clear h21
    refine pl_nil ?_
    refine co_then ?_
    refine wp_ret ?_
    refine co_ret2 h22 rfl rfl rfl ?_
    have hz := allE_endX hae (by omega)
    exact ⟨by rw [← hz, putA_0 hz.symm, List.take_of_length_le (by omega)] <;> rfl, hB14⟩
   ·
    rw [hc17] at h16
    have hp23 : ((i : Nat) : Int) < ((l.length : Nat) : Int) := of_decide_eq_true hc17
    clear hc17
    refine co_true h16 rfl ?_
    refine wp_skip ?_
    refine co_then ?_
    refine co_seq ?_
    refine wp_block ?_
    refine co_seq ?_
    refine co_reg ?_
    obtain ⟨y24, hy24⟩ : ∃ z, l[i]? = some z := ⟨_, List.getElem?_eq_getElem (by first | omega | (simp; done) | (simp; omega))⟩
    have oky24 := hok _ (List.mem_of_getElem? hy24)
    have h100y24 := h100 y24 (List.mem_of_getElem? hy24)
    refine pk (v := pt (blkOf v) (offOf v + i * 10)) h16 rfl (rn_index rfl rfl rfl Try.underlying50 Try.sizeOf60 (hs.below hB14) (by omega) (by first | omega | (simp; done) | (simp; omega))) fun a25 h25 => ?_; clear h16
    refine pk (v := .agg #[.int .i64 y24.d.k, .int .i64 y24.d.nd, .int .i64 y24.d.n, .int .i64 y24.d.ak, .int .i64 y24.d.an, .string y24.d.ky, .string y24.d.tt, .int .u64 y24.d.at_, .int .i64 y24.d.am, y24.ov]) h25 rfl (rn_loadN rfl rfl Try.underlying60 rfl (by kernel_rfl) (sl_at (hs.below hB14) hy24)) fun a26 h26 => ?_; clear h25
    refine pw h26 rfl (op_new (v := fun N => pt N 0) (T := 60) (cs := #[.int .i64 0, .int .i64 0, .int .i64 0, .int .i64 0, .int .i64 0, .string (⟨#[]⟩), .string (⟨#[]⟩), .int .u64 0, .int .i64 0, .slice none 0 0]) (by kernel_rfl) (by kernel_rfl) (by kernel_rfl)) ?_; clear h26
    rintro _ w28 a27 ⟨N29, rfl, hN32, hz33, hk31, hg30⟩ h27
    have ha34 := row_fresh hf13 hN32
    have hz35 := hg30.size
    try dsimp only at h27
    have hB41 := hb_new hB14 hg30
    refine pwD h27 rfl (op_storeN rfl rfl rfl (all_cons rfl (all_cons rfl (all_cons rfl (all_cons rfl (all_cons rfl (all_cons rfl (all_cons rfl (all_cons rfl (all_cons rfl (all_cons (sl_one (oky24.sl.below hB41)) all_nil)))))))))) (by kernel_rfl) hk31 rfl) ?_; clear h27
    rintro _ w37 a36 ⟨hk38, hz39, hg40⟩ h36
    have hk38' : Blk w37 N29 60 #[.int .i64 y24.d.k, .int .i64 y24.d.nd, .int .i64 y24.d.n, .int .i64 y24.d.ak, .int .i64 y24.d.an, .string y24.d.ky, .string y24.d.tt, .int .u64 y24.d.at_, .int .i64 y24.d.am, y24.ov] := hk38; clear hk38
    have hz42 := hg40.size
    refine pl_nil ?_
    refine co_then ?_
    refine co_seq ?_
    refine co_reg ?_
    refine pk (v := .agg #[.int .i64 y24.d.k, .int .i64 y24.d.nd, .int .i64 y24.d.n, .int .i64 y24.d.ak, .int .i64 y24.d.an, .string y24.d.ky, .string y24.d.tt, .int .u64 y24.d.at_, .int .i64 y24.d.am, y24.ov]) h36 rfl (rn_loadN rfl rfl Try.underlying60 rfl (by kernel_rfl) hk38'.all) fun a43 h43 => ?_; clear h36
    have hB46 := hb_at hB41 hg40 (by omega)
    refine pw h43 rfl (op_call (args := #[.agg #[.int .i64 y24.d.k, .int .i64 y24.d.nd, .int .i64 y24.d.n, .int .i64 y24.d.ak, .int .i64 y24.d.an, .string y24.d.ky, .string y24.d.tt, .int .u64 y24.d.at_, .int .i64 y24.d.am, y24.ov]]) (R := fun res xw => res = .tuple #[.string (oneB y24.d), .int .i64 (oneE y24.d)] ∧ Below w37.heap.size w37 xw) rfl rfl rfl (by kernel_rfl) (by kernel_rfl) (Try.call41 _ _) (scPut1_any y24.d y24.ov w37 (oky24.sl.below hB46) oky24.s (by omega)) (by rintro e x ⟨rfl, hb47⟩; exact ⟨_, rfl, ⟨rfl, hb47⟩⟩)) ?_; clear h43
    rintro _ w45 a44 ⟨rfl, hb47⟩ h44
    have hz48 := hb47.size
    have hoby24 := oneB_len y24.d
    refine pk0 (v := .tuple #[.string (oneB y24.d), .int .i64 (oneE y24.d)]) h44 rfl fun a49 h49 => ?_; clear h44
    refine pk0 (v := .string (oneB y24.d)) h49 rfl fun a50 h50 => ?_; clear h49
    refine pk0 (v := .int .i64 (oneE y24.d)) h50 rfl fun a51 h51 => ?_; clear h50
    refine pk0 (v := .string (oneB y24.d)) h51 rfl fun a52 h52 => ?_; clear h51
    refine pk0 (v := .int .i64 (oneE y24.d)) h52 rfl fun a53 h53 => ?_; clear h52
    refine pl_nil ?_
    refine co_then ?_
    refine co_seq ?_
    refine co_seq ?_
    refine co_reg ?_
    refine pk0 (v := .int .i64 (oneE y24.d)) h53 rfl fun a54 h54 => ?_; clear h53
    refine pk0 (v := .bool (oneE y24.d != 0)) h54 rfl fun a55 h55 => ?_; clear h54
    refine pl_nil ?_
    refine co_then ?_
    have hB57 := hb_call hB46 hb47
    have hr58 := row_kept_new hf13 hg30
    have hr59 := row_kept_at hr58 hg40 (ha34)
    have hr60 := row_kept_new hr59 (below_grown hb47)
    cases hc56 : (oneE y24.d != 0)
    ·
     rw [hc56] at h55
     have hp61 : ¬ (oneE y24.d ≠ 0) := by first | simpa using hc56 | simpa [and_assoc] using hc56
     clear hc56
     refine co_false h55 rfl ?_
     refine wp_skip ?_
     refine co_then ?_
     refine co_seq ?_
     refine co_reg ?_
     refine pk0 (v := u) h55 rfl fun a62 h62 => ?_; clear h55
     refine pk0 (v := .string (oneB y24.d)) h62 rfl fun a63 h63 => ?_; clear h62
     refine pk (v := .int .i64 (((oneB y24.d : ByteArray).size : Nat) : Int)) h63 rfl (rn_lenStr rfl rfl Try.underlying9) fun a64 h64 => ?_; clear h63
     refine pk (v := .int .u8 (((oneB y24.d : ByteArray).size : Nat) : Int)) h64 rfl (rn_conv rfl rfl Try.underlying3 Try.underlying5 (IntWalk.u8_in _ (by omega))) fun a65 h65 => ?_; clear h64
     refine pw h65 rfl (op_new (v := fun N => .slice (some ⟨N, 0, none⟩) 1 1) (T := 5) (cs := #[.int .u8 (((oneB y24.d : ByteArray).size : Nat) : Int)]) (by kernel_rfl) (by kernel_rfl) (by kernel_rfl)) ?_; clear h65
     rintro _ w67 a66 ⟨N68, rfl, hN71, hz72, hk70, hg69⟩ h66
     have ha73 := row_fresh hr60 hN71
     have hz74 := hg69.size
     try dsimp only at h66
     have hr81 := row_kept_new hr60 hg69
     refine pw h66 rfl (op_append rfl w.heap.size 5 (z := .int .u8 0) (size := 1) (bytes := 1) Try.underlying63 (by kernel_rfl) rfl rfl rfl hr81 rfl hk70 rfl (by kernel_rfl) (by first | omega | (simp only [List.length_nil, List.length_append, List.length_cons, List.length_take, List.length_drop]; omega)) (by first | omega | (simp only [List.length_nil, List.length_append, List.length_cons, List.length_take, List.length_drop]; omega)) (by omega)) ?_; clear h66
     rintro v77 w76 a75 ⟨hr78, hg79⟩ h75
     have hr78' : w76.ownsRow w.heap.size 5 1 v77 ((allB ((l.take i).map EvX.d) ++ [UInt8.ofNat ((oneB y24.d : ByteArray).size)]).length) ((allB ((l.take i).map EvX.d) ++ [UInt8.ofNat ((oneB y24.d : ByteArray).size)]).flatMap u8E) := row_push (y := UInt8.ofNat ((oneB y24.d : ByteArray).size)) hr78 rfl (u8_push (by omega)); clear hr78
     have hz82 := hg79.size
     refine pk0 (v := v77) h75 rfl fun a83 h83 => ?_; clear h75
     refine pl_nil ?_
     refine co_then ?_
     refine co_reg ?_
     refine pk0 (v := v77) h83 rfl fun a84 h84 => ?_; clear h83
     refine pk0 (v := .string (oneB y24.d)) h84 rfl fun a85 h85 => ?_; clear h84
     refine pw h85 rfl (op_appendStrF rfl w.heap.size 5 Try.underlying63 Try.underlying9 (by kernel_rfl) rfl hr78' rfl (by first | omega | (simp only [List.length_append, List.length_cons, List.length_nil]; omega)) (by omega)) ?_; clear h85
     rintro v88 w87 a86 ⟨hr89, hwt91, hg90⟩ h86
     have hz92 := hg90.size
     refine pk0 (v := v88) h86 rfl fun a93 h93 => ?_; clear h86
     refine pl_nil ?_
     refine co_blockN ?_
     refine co_then ?_
     refine co_reg ?_
     refine pk (v := .int .i64 ((i + 1 : Nat) : Int)) h93 rfl (rn_arith' rfl rfl rfl rfl rfl rfl (IntWalk.i64_in _ (by omega)) (by omega)) fun a94 h94 => ?_; clear h93
     refine pk0 (v := .int .i64 ((i + 1 : Nat) : Int)) h94 rfl fun a95 h95 => ?_; clear h94
     refine pl_nil ?_
     refine co_then ?_
     refine ⟨(l.length - (i + 1)), by omega, ?_⟩
     have hinv' := allE_stepX hae hy24 (by first | omega | assumption)
     have hB96 := hb_new hB57 hg69
     have hB97 := hb_row hB96 hr81 (by omega) hg79
     have hB98 := hb_row hB97 hr78' (by omega) hg90
     exact ⟨i + 1, v88, h95.sub ⟨rfl, rfl, rfl, rfl, rfl, trivial⟩, rfl, by omega, by first | rfl | exact hinv', (row_eq hr89 ((allB_at hy24).symm)), hB98⟩
    ·
     rw [hc56] at h55
     have hp99 : oneE y24.d ≠ 0 := by first | simpa using hc56 | simpa [and_assoc] using hc56
     clear hc56
     refine co_true h55 rfl ?_
     refine co_seq ?_
     refine co_reg ?_
     refine pk0 (v := .int .i64 (oneE y24.d)) h55 rfl fun a100 h100 => ?_; clear h55
     refine pk0 (v := .string (⟨#[]⟩)) h100 rfl fun a101 h101 => ?_; clear h100
     refine pk0 (v := .int .i64 (oneE y24.d)) h101 rfl fun a102 h102 => ?_; clear h101
     refine pl_nil ?_
     refine co_then ?_
     refine wp_ret ?_
     refine co_thenR ?_
     refine co_blockR ?_
     refine co_thenR ?_
     refine co_thenR ?_
     refine co_blockR ?_
     refine co_thenR ?_
     refine co_ret2 h102 rfl rfl rfl ?_
     have hz := allE_badX hae hy24 (by first | assumption | omega)
     exact ⟨by rw [putA_n (by rw [← hz]; first | assumption | omega), ← hz], hB57⟩
set_option maxRecDepth 100000 in
set_option maxHeartbeats 1600000 in
theorem rcPut_any (v : Value) (l : List EvX) (w : World) (hs : SliceOf evE 10 w v l) (hok : ∀ z ∈ l, EvOk w z) (h100 : ∀ z ∈ l, z.d.ops.length ≤ 100) (hlen : l.length ≤ 100) :
    Calls Try.prog 19 #[v] w fun e w' => e = .returned (.tuple #[.string (putA (l.map EvX.d)), .int .i64 (allE (l.map EvX.d))]) ∧ Below w.heap.size w w' := by
 have hB0 := Below.refl w.heap.size w
 have hl_hs := sl_len hs
 refine co_enter (n := 35) Try.func19 rfl rfl rfl [(0, v)] rfl (fun a h0 => ?_)
 refine co_seq ?_
 refine co_reg ?_
 refine pk0 (v := .string (⟨#[]⟩)) h0 rfl fun a1 h1 => ?_; clear h0
 refine pk0 (v := .int .i64 0) h1 rfl fun a2 h2 => ?_; clear h1
 refine pl_nil ?_
 refine co_then ?_
 refine co_seq ?_
 refine co_reg ?_
 refine pk0 (v := .string (⟨#[]⟩)) h2 rfl fun a3 h3 => ?_; clear h2
 refine pl_nil ?_
 refine co_then ?_
 refine co_seq ?_
 refine co_seq ?_
 refine co_reg ?_
 refine pk0 (v := .int .i64 0) h3 rfl fun a4 h4 => ?_; clear h3
 refine pl_nil ?_
 refine co_then ?_
 refine wp_block ?_
 have h5 : Slots 35 [(0, v), (4, .string (⟨#[]⟩)), (5, .int .i64 0)] _ := h4.sub ⟨rfl, rfl, rfl, trivial⟩; clear h4
 refine co_loop (fun mm a x => ∃ (i : Nat), Slots 35 [(0, v), (4, .string (bsB (l.take i))), (5, .int .i64 ((i : Nat) : Int))] a ∧ mm = l.length - i ∧ (i ≤ l.length) ∧ (allE ((l.map EvX.d).drop i) = allE (l.map EvX.d)) ∧ Below w.heap.size w x) (l.length - 0) ?_ ?_
 · exact ⟨0, h5.sub ⟨rfl, (slot_eq rfl (congrArg Value.string (by first | rfl | exact (bsB_at (by assumption)).symm))), (slot_eq rfl (congrArg (Value.int .i64) (by first | rfl | omega))), trivial⟩, rfl, by omega, by first | rfl | exact hinv', hB0⟩
 · rintro k6 a7 w8 ⟨i, h7, rfl, hi9, hi10, hB11⟩
   have hz12 := hB11.size
   have hae : allE ((l.map EvX.d).drop i) = allE (l.map EvX.d) := by assumption
   have hal := bsB_len (l.take i)
   have hal2 := List.length_take_le i l
   have hal3 : (bsB (l.take i)).size ≤ 25600 := by omega
   refine co_seq ?_
   refine co_seq ?_
   refine co_reg ?_
   refine pk0 (v := .int .i64 ((i : Nat) : Int)) h7 rfl fun a13 h13 => ?_; clear h7
   refine pk0 (v := v) h13 rfl fun a14 h14 => ?_; clear h13
   refine pk (v := .int .i64 ((l.length : Nat) : Int)) h14 rfl (rn_len rfl rfl Try.underlying50 (hs.below hB11)) fun a15 h15 => ?_; clear h14
   refine pk0 (v := .bool (decide (((i : Nat) : Int) < ((l.length : Nat) : Int)))) h15 rfl fun a16 h16 => ?_; clear h15
   refine pl_nil ?_
   refine co_then ?_
   cases hc17 : (decide (((i : Nat) : Int) < ((l.length : Nat) : Int)))
   ·
    rw [hc17] at h16
    have hp18 : ¬ (((i : Nat) : Int) < ((l.length : Nat) : Int)) := of_decide_eq_false hc17
    clear hc17
    refine co_false h16 rfl ?_
    refine wp_exit ?_
    refine co_thenX ?_
    refine co_thenX ?_
    refine co_blockX ?_
    refine co_then ?_
    refine co_seq ?_
    refine co_reg ?_
    refine pk0 (v := .string (bsB (l.take i))) h16 rfl fun a19 h19 => ?_; clear h16
    refine pk0 (v := .string (bsB (l.take i))) h19 rfl fun a20 h20 => ?_; clear h19
    refine pk0 (v := .int .i64 0) h20 rfl fun a21 h21 => ?_; clear h20
    refine pl_nil ?_
    refine co_then ?_
    refine wp_ret ?_
    refine co_ret2 h21 rfl rfl rfl ?_
    have hz := allE_endX hae (by omega)
    exact ⟨by rw [← hz, putA_0 hz.symm, List.take_of_length_le (by omega)] <;> rfl, hB11⟩
   ·
    rw [hc17] at h16
    have hp22 : ((i : Nat) : Int) < ((l.length : Nat) : Int) := of_decide_eq_true hc17
    clear hc17
    refine co_true h16 rfl ?_
    refine wp_skip ?_
    refine co_then ?_
    refine co_seq ?_
    refine wp_block ?_
    refine co_seq ?_
    refine co_reg ?_
    refine pk0 (v := v) h16 rfl fun a23 h23 => ?_; clear h16
    refine pk0 (v := .int .i64 ((i : Nat) : Int)) h23 rfl fun a24 h24 => ?_; clear h23
    obtain ⟨y25, hy25⟩ : ∃ z, l[i]? = some z := ⟨_, List.getElem?_eq_getElem (by first | omega | (simp; done) | (simp; omega))⟩
    have oky25 := hok _ (List.mem_of_getElem? hy25)
    have h100y25 := h100 y25 (List.mem_of_getElem? hy25)
    refine pk (v := pt (blkOf v) (offOf v + i * 10)) h24 rfl (rn_index rfl rfl rfl Try.underlying50 Try.sizeOf60 (hs.below hB11) (by omega) (by first | omega | (simp; done) | (simp; omega))) fun a26 h26 => ?_; clear h24
    refine pk (v := .agg #[.int .i64 y25.d.k, .int .i64 y25.d.nd, .int .i64 y25.d.n, .int .i64 y25.d.ak, .int .i64 y25.d.an, .string y25.d.ky, .string y25.d.tt, .int .u64 y25.d.at_, .int .i64 y25.d.am, y25.ov]) h26 rfl (rn_loadN rfl rfl Try.underlying60 rfl (by kernel_rfl) (sl_at (hs.below hB11) hy25)) fun a27 h27 => ?_; clear h26
    refine pw h27 rfl (op_call (args := #[.agg #[.int .i64 y25.d.k, .int .i64 y25.d.nd, .int .i64 y25.d.n, .int .i64 y25.d.ak, .int .i64 y25.d.an, .string y25.d.ky, .string y25.d.tt, .int .u64 y25.d.at_, .int .i64 y25.d.am, y25.ov]]) (R := fun res xw => res = .tuple #[.string (oneB y25.d), .int .i64 (oneE y25.d)] ∧ Below w8.heap.size w8 xw) rfl rfl rfl (by kernel_rfl) (by kernel_rfl) (Try.call42 _ _) (rcOne_any y25.d y25.ov w8 (oky25.sl.below hB11) oky25.s (by omega)) (by rintro e x ⟨rfl, hb30⟩; exact ⟨_, rfl, ⟨rfl, hb30⟩⟩)) ?_; clear h27
    rintro _ w29 a28 ⟨rfl, hb30⟩ h28
    have hz31 := hb30.size
    have hoby25 := oneB_len y25.d
    refine pk0 (v := .tuple #[.string (oneB y25.d), .int .i64 (oneE y25.d)]) h28 rfl fun a32 h32 => ?_; clear h28
    refine pk0 (v := .string (oneB y25.d)) h32 rfl fun a33 h33 => ?_; clear h32
    refine pk0 (v := .int .i64 (oneE y25.d)) h33 rfl fun a34 h34 => ?_; clear h33
    refine pk0 (v := .string (oneB y25.d)) h34 rfl fun a35 h35 => ?_; clear h34
    refine pk0 (v := .int .i64 (oneE y25.d)) h35 rfl fun a36 h36 => ?_; clear h35
    refine pl_nil ?_
    refine co_then ?_
    refine co_seq ?_
    refine co_seq ?_
    refine co_reg ?_
    refine pk0 (v := .int .i64 (oneE y25.d)) h36 rfl fun a37 h37 => ?_; clear h36
    refine pk0 (v := .bool (oneE y25.d != 0)) h37 rfl fun a38 h38 => ?_; clear h37
    refine pl_nil ?_
    refine co_then ?_
    have hB40 := hb_call hB11 hb30
    cases hc39 : (oneE y25.d != 0)
    ·
     rw [hc39] at h38
     have hp41 : ¬ (oneE y25.d ≠ 0) := by first | simpa using hc39 | simpa [and_assoc] using hc39
     clear hc39
     refine co_false h38 rfl ?_
     refine wp_skip ?_
     refine co_then ?_
     refine co_reg ?_
     refine pk0 (v := .string (bsB (l.take i))) h38 rfl fun a42 h42 => ?_; clear h38
     refine pk0 (v := .string (oneB y25.d)) h42 rfl fun a43 h43 => ?_; clear h42
     refine pk (v := .int .i64 (((oneB y25.d : ByteArray).size : Nat) : Int)) h43 rfl (rn_lenStr rfl rfl Try.underlying9) fun a44 h44 => ?_; clear h43
     refine pk (v := .int .u8 (((oneB y25.d : ByteArray).size : Nat) : Int)) h44 rfl (rn_conv rfl rfl Try.underlying3 Try.underlying5 (IntWalk.u8_in _ (by omega))) fun a45 h45 => ?_; clear h44
     refine pw h45 rfl (op_new (v := fun N => .slice (some ⟨N, 0, none⟩) 1 1) (T := 5) (cs := #[.int .u8 (((oneB y25.d : ByteArray).size : Nat) : Int)]) (by kernel_rfl) (by kernel_rfl) (by kernel_rfl)) ?_; clear h45
     rintro _ w47 a46 ⟨N48, rfl, hN51, hz52, hk50, hg49⟩ h46
     have hz53 := hg49.size
     try dsimp only at h46
     have hcs54 : (⟨[UInt8.ofNat ((oneB y25.d : ByteArray).size)].toArray⟩ : ByteArray).size = 1 := rfl
     refine pk (v := .string (⟨[UInt8.ofNat ((oneB y25.d : ByteArray).size)].toArray⟩ : ByteArray)) h46 rfl (rn_convOwn rfl rfl Try.underlying63 Try.underlying5 Try.underlying9 (row_byte hk50 (by omega))) fun a55 h55 => ?_; clear h46
     have hcs56 : ((bsB (l.take i)) ++ (⟨[UInt8.ofNat ((oneB y25.d : ByteArray).size)].toArray⟩ : ByteArray)).size = (bsB (l.take i) : ByteArray).size + ((⟨[UInt8.ofNat ((oneB y25.d : ByteArray).size)].toArray⟩ : ByteArray) : ByteArray).size := ByteArray.size_append
     refine pk (v := .string ((bsB (l.take i)) ++ (⟨[UInt8.ofNat ((oneB y25.d : ByteArray).size)].toArray⟩ : ByteArray))) h55 rfl (rn_addStr rfl rfl rfl (by omega)) fun a57 h57 => ?_; clear h55
     refine pk0 (v := .string (oneB y25.d)) h57 rfl fun a58 h58 => ?_; clear h57
     have hcs59 : (((bsB (l.take i)) ++ (⟨[UInt8.ofNat ((oneB y25.d : ByteArray).size)].toArray⟩ : ByteArray)) ++ (oneB y25.d)).size = ((bsB (l.take i)) ++ (⟨[UInt8.ofNat ((oneB y25.d : ByteArray).size)].toArray⟩ : ByteArray) : ByteArray).size + (oneB y25.d : ByteArray).size := ByteArray.size_append
     refine pk (v := .string (((bsB (l.take i)) ++ (⟨[UInt8.ofNat ((oneB y25.d : ByteArray).size)].toArray⟩ : ByteArray)) ++ (oneB y25.d))) h58 rfl (rn_addStr rfl rfl rfl (by omega)) fun a60 h60 => ?_; clear h58
     refine pk0 (v := .string (((bsB (l.take i)) ++ (⟨[UInt8.ofNat ((oneB y25.d : ByteArray).size)].toArray⟩ : ByteArray)) ++ (oneB y25.d))) h60 rfl fun a61 h61 => ?_; clear h60
     refine pl_nil ?_
     refine co_blockN ?_
     refine co_then ?_
     refine co_reg ?_
     refine pk0 (v := .int .i64 ((i : Nat) : Int)) h61 rfl fun a62 h62 => ?_; clear h61
     refine pk (v := .int .i64 ((i + 1 : Nat) : Int)) h62 rfl (rn_arith' rfl rfl rfl rfl rfl rfl (IntWalk.i64_in _ (by omega)) (by omega)) fun a63 h63 => ?_; clear h62
     refine pk0 (v := .int .i64 ((i + 1 : Nat) : Int)) h63 rfl fun a64 h64 => ?_; clear h63
     refine pl_nil ?_
     refine co_then ?_
     refine ⟨(l.length - (i + 1)), by omega, ?_⟩
     have hinv' := allE_stepX hae hy25 (by first | omega | assumption)
     have hB65 := hb_new hB40 hg49
     exact ⟨i + 1, h64.sub ⟨rfl, (slot_eq rfl (congrArg Value.string (by first | rfl | exact (bsB_at (by assumption)).symm))), rfl, trivial⟩, rfl, by omega, by first | rfl | exact hinv', hB65⟩
    ·
     rw [hc39] at h38
     have hp66 : oneE y25.d ≠ 0 := by first | simpa using hc39 | simpa [and_assoc] using hc39
     clear hc39
     refine co_true h38 rfl ?_
     refine co_seq ?_
     refine co_reg ?_
     refine pk0 (v := .int .i64 (oneE y25.d)) h38 rfl fun a67 h67 => ?_; clear h38
     refine pk0 (v := .string (⟨#[]⟩)) h67 rfl fun a68 h68 => ?_; clear h67
     refine pk0 (v := .int .i64 (oneE y25.d)) h68 rfl fun a69 h69 => ?_; clear h68
     refine pl_nil ?_
     refine co_then ?_
     refine wp_ret ?_
     refine co_thenR ?_
     refine co_blockR ?_
     refine co_thenR ?_
     refine co_thenR ?_
     refine co_blockR ?_
     refine co_thenR ?_
     refine co_ret2 h69 rfl rfl rfl ?_
     have hz := allE_badX hae hy25 (by first | assumption | omega)
     exact ⟨by rw [putA_n (by rw [← hz]; first | assumption | omega), ← hz], hB40⟩
end Go.Proofs.Ytdgboikkgeioeaa
