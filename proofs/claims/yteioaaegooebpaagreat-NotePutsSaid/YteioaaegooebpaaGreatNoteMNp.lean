/- Notes: copies; Clean, Same of the program, Clean of the document's. Conditions: at most 20 of each list (Clean). -/
import Derived.Test.YteioaaegooebpaaGreatNp4
namespace Go.Proofs.YteioaaegooebpaaGreat
open Go.RowKit Go.PlainAid
set_option linter.unusedVariables false


def cleanN (d : NoteD) : NoteD :=
  if d.k = 1 then zC d.k (d.ep, d.ms, d.fl) d.lg
  else if d.k = 2 then zE d.k d.n (d.ec, d.er, d.el, d.ets)
  else if d.k = 3 ∨ d.k = 4 then zT d.k d.n d.t
  else if d.k = 5 ∨ d.k = 7 then zT d.k d.n 0
  else if d.k = 6 then zP d.k d.pid d.pat d.plf
  else if d.k = 8 then zS d.k d.sc d.sr d.se d.sp else zN 0
theorem cl_1 {d : NoteD} (h : d.k = 1) : cleanN d = zC d.k (d.ep, d.ms, d.fl) d.lg := by unfold cleanN; rw [if_pos h]
theorem cl_2 {d : NoteD} (h : d.k = 2) : cleanN d = zE d.k d.n (d.ec, d.er, d.el, d.ets) := by unfold cleanN; rw [if_neg (by omega), if_pos h]
theorem cl_3 {d : NoteD} (h : d.k = 3 ∨ d.k = 4) : cleanN d = zT d.k d.n d.t := by unfold cleanN; rw [if_neg (by omega), if_neg (by omega), if_pos h]
theorem cl_5 {d : NoteD} (h : d.k = 5 ∨ d.k = 7) : cleanN d = zT d.k d.n 0 := by unfold cleanN; rw [if_neg (by omega), if_neg (by omega), if_neg (by omega), if_pos h]
theorem cl_6 {d : NoteD} (h : d.k = 6) : cleanN d = zP d.k d.pid d.pat d.plf := by unfold cleanN; rw [if_neg (by omega), if_neg (by omega), if_neg (by omega), if_neg (by omega), if_pos h]
theorem cl_8 {d : NoteD} (h : d.k = 8) : cleanN d = zS d.k d.sc d.sr d.se d.sp := by unfold cleanN; rw [if_neg (by omega), if_neg (by omega), if_neg (by omega), if_neg (by omega), if_neg (by omega), if_pos h]
theorem cl_0 {d : NoteD} (h : ¬ (1 ≤ d.k ∧ d.k ≤ 8)) : cleanN d = zN 0 := by unfold cleanN; rw [if_neg (by omega), if_neg (by omega), if_neg (by omega), if_neg (by omega), if_neg (by omega), if_neg (by omega)]
theorem clean_R {d : NoteD} (h : NoteR d) : NoteR (cleanN d) := by
  have c0 : (-9223372036854775808 : Int) ≤ 0 ∧ (0 : Int) ≤ 9223372036854775807 := by decide
  have u0 : (0 : Int) ≤ 0 ∧ (0 : Int) < 18446744073709551616 := by decide
  obtain ⟨h1, h2, h3, h4, h5, h6⟩ := h
  unfold cleanN
  split
  · exact ⟨h1, h2, h3, u0, u0, u0⟩
  split
  · exact ⟨by simp [zE], c0, u0, u0, h5, u0⟩
  split
  · exact ⟨by simp [zT], c0, u0, h4, u0, u0⟩
  split
  · exact ⟨by simp [zT], c0, u0, u0, u0, u0⟩
  split
  · exact ⟨by simp [zP], c0, u0, u0, u0, h6⟩
  split
  · exact ⟨by simp [zS], c0, u0, u0, u0, u0⟩
  · exact zN_R 0
def CleanV (d : NoteD) (mv lv ev cm cl ce : Value) : Prop := (∀ x, SliceOf memE 2 x mv d.ms → SliceOf memE 2 x cm (cleanN d).ms) ∧ (∀ x, SliceOf (intE .i64) 1 x lv d.lg → SliceOf (intE .i64) 1 x cl (cleanN d).lg) ∧ (∀ x, SliceOf opE 3 x ev d.el → SliceOf opE 3 x ce (cleanN d).el)

set_option maxRecDepth 100000 in
theorem cloneI_any (v : Value) (l : List Int) (w : World) (hs : SliceOf (intE .i64) 1 w v l) (hlen : l.length ≤ 20) :
    Calls Tryz.prog 86 #[v] w fun e w' => ∃ (u : Value), e = .returned (u) ∧ w'.ownsRow w.heap.size 3 1 u l.length (l.flatMap (intE .i64)) ∧ Below w.heap.size w w' := by
 have hB0 := Below.refl w.heap.size w
 have hl_hs := sl_len hs
 have hs' := hs; obtain ⟨ao, cap, hv, _, _, h3, _⟩ := hs'; subst hv; rcases ao with _ | ad
 · obtain ⟨hl0, hc0⟩ := h3 rfl; obtain rfl : l = [] := List.eq_nil_of_length_eq_zero hl0; subst hc0
   refine co_enter (n := 8) Tryz.func86 rfl rfl rfl [(0, .slice none 0 0)] rfl (fun a h0 => ?_)
   refine co_seq ?_
   refine co_reg ?_
   refine pk0 (v := .slice none 0 0) h0 rfl fun a1 h1 => ?_; clear h0
   refine pl_nil ?_
   refine co_then ?_
   refine co_seq ?_
   refine co_seq ?_
   refine co_reg ?_
   refine pk0 (v := .slice none 0 0) h1 rfl fun a2 h2 => ?_; clear h1
   refine pk0 (v := .bool true) h2 rfl fun a3 h3 => ?_; clear h2
   refine pl_nil ?_
   refine co_then ?_
   refine co_true h3 rfl ?_
   refine co_seq ?_
   refine co_reg ?_
   refine pk0 (v := .slice none 0 0) h3 rfl fun a4 h4 => ?_; clear h3
   refine pl_nil ?_
   refine co_then ?_
   refine wp_ret ?_
   refine co_thenR ?_
   refine co_ret1 h4 rfl rfl ?_
   exact ⟨_, rfl, (row_nilL _ _ _ _ _), hB0⟩
 · skip
   refine co_enter (n := 8) Tryz.func86 rfl rfl rfl [(0, .slice (some ad) l.length cap)] rfl (fun a h0 => ?_)
   refine co_seq ?_
   refine co_reg ?_
   refine pk0 (v := .slice none 0 0) h0 rfl fun a5 h5 => ?_; clear h0
   refine pl_nil ?_
   refine co_then ?_
   refine co_seq ?_
   refine co_seq ?_
   refine co_reg ?_
   refine pk0 (v := .slice (some ad) l.length cap) h5 rfl fun a6 h6 => ?_; clear h5
   refine pk0 (v := .bool false) h6 rfl fun a7 h7 => ?_; clear h6
   refine pl_nil ?_
   refine co_then ?_
   refine co_false h7 rfl ?_
   refine wp_skip ?_
   refine co_then ?_
   refine co_seq ?_
   refine co_reg ?_
   refine pw h7 rfl (op_new (v := fun N => .slice (some ⟨N, 0, none⟩) 0 0) (T := 3) (cs := #[]) (by kernel_rfl) (by kernel_rfl) (by kernel_rfl)) ?_; clear h7
   rintro _ w9 a8 ⟨N10, rfl, hN13, hz14, hk12, hg11⟩ h8
   have hz15 := hg11.size
   try dsimp only at h8
   refine pk0 (v := .slice (some ad) l.length cap) h8 rfl fun a16 h16 => ?_; clear h8
   have hr19 := row_of_blkL hk12 (Nat.le_refl _) 1 (intE .i64)
   have hB23 := hb_new hB0 hg11
   refine pw h16 rfl (op_appendSrc rfl N10 3 (z := .int .i64 0) (size := 1) (bytes := 8) Tryz.underlying50 (by kernel_rfl) rfl rfl rfl hr19 rfl (hs.below hB23) (fun y _ => ⟨(intE_len .i64) y, (intE_one .i64) y⟩) (by first | omega | (simp only [List.length_nil, List.length_append, List.length_cons, List.length_take, List.length_drop]; omega)) (by first | omega | (simp only [List.length_nil, List.length_append, List.length_cons, List.length_take, List.length_drop]; omega)) (by omega)) ?_; clear h16
   rintro v20 w18 a17 ⟨hr21, hg22⟩ h17
   have hr21' : w18.ownsRow N10 3 1 v20 l.length (l.flatMap (intE .i64)) := row_app (l := []) hr21; clear hr21
   have hz24 := hg22.size
   refine pk0 (v := v20) h17 rfl fun a25 h25 => ?_; clear h17
   refine pl_nil ?_
   refine co_then ?_
   refine wp_ret ?_
   refine co_ret1 h25 rfl rfl ?_
   have hB26 := hb_row hB23 hr19 (by omega) hg22
   exact ⟨_, rfl, (row_lows hr21' (by omega)), hB26⟩
set_option maxRecDepth 100000 in
theorem cloneM_any (v : Value) (l : List MemT) (w : World) (hs : SliceOf memE 2 w v l) (hlen : l.length ≤ 20) :
    Calls Tryz.prog 110 #[v] w fun e w' => ∃ (u : Value), e = .returned (u) ∧ w'.ownsRow w.heap.size 154 2 u l.length (l.flatMap memE) ∧ Below w.heap.size w w' := by
 have hB0 := Below.refl w.heap.size w
 have hl_hs := sl_len hs
 have hs' := hs; obtain ⟨ao, cap, hv, _, _, h3, _⟩ := hs'; subst hv; rcases ao with _ | ad
 · obtain ⟨hl0, hc0⟩ := h3 rfl; obtain rfl : l = [] := List.eq_nil_of_length_eq_zero hl0; subst hc0
   refine co_enter (n := 8) Tryz.func110 rfl rfl rfl [(0, .slice none 0 0)] rfl (fun a h0 => ?_)
   refine co_seq ?_
   refine co_reg ?_
   refine pk0 (v := .slice none 0 0) h0 rfl fun a1 h1 => ?_; clear h0
   refine pl_nil ?_
   refine co_then ?_
   refine co_seq ?_
   refine co_seq ?_
   refine co_reg ?_
   refine pk0 (v := .slice none 0 0) h1 rfl fun a2 h2 => ?_; clear h1
   refine pk0 (v := .bool true) h2 rfl fun a3 h3 => ?_; clear h2
   refine pl_nil ?_
   refine co_then ?_
   refine co_true h3 rfl ?_
   refine co_seq ?_
   refine co_reg ?_
   refine pk0 (v := .slice none 0 0) h3 rfl fun a4 h4 => ?_; clear h3
   refine pl_nil ?_
   refine co_then ?_
   refine wp_ret ?_
   refine co_thenR ?_
   refine co_ret1 h4 rfl rfl ?_
   exact ⟨_, rfl, (row_nilL _ _ _ _ _), hB0⟩
 · skip
   refine co_enter (n := 8) Tryz.func110 rfl rfl rfl [(0, .slice (some ad) l.length cap)] rfl (fun a h0 => ?_)
   refine co_seq ?_
   refine co_reg ?_
   refine pk0 (v := .slice none 0 0) h0 rfl fun a5 h5 => ?_; clear h0
   refine pl_nil ?_
   refine co_then ?_
   refine co_seq ?_
   refine co_seq ?_
   refine co_reg ?_
   refine pk0 (v := .slice (some ad) l.length cap) h5 rfl fun a6 h6 => ?_; clear h5
   refine pk0 (v := .bool false) h6 rfl fun a7 h7 => ?_; clear h6
   refine pl_nil ?_
   refine co_then ?_
   refine co_false h7 rfl ?_
   refine wp_skip ?_
   refine co_then ?_
   refine co_seq ?_
   refine co_reg ?_
   refine pw h7 rfl (op_new (v := fun N => .slice (some ⟨N, 0, none⟩) 0 0) (T := 154) (cs := #[]) (by kernel_rfl) (by kernel_rfl) (by kernel_rfl)) ?_; clear h7
   rintro _ w9 a8 ⟨N10, rfl, hN13, hz14, hk12, hg11⟩ h8
   have hz15 := hg11.size
   try dsimp only at h8
   refine pk0 (v := .slice (some ad) l.length cap) h8 rfl fun a16 h16 => ?_; clear h8
   have hr19 := row_of_blkL hk12 (Nat.le_refl _) 2 memE
   have hB23 := hb_new hB0 hg11
   refine pw h16 rfl (op_appendSrc rfl N10 154 (z := .agg #[.int .i64 0, .int .i64 0]) (size := 2) (bytes := 16) Tryz.underlying24 (by kernel_rfl) rfl rfl rfl hr19 rfl (hs.below hB23) (fun y _ => ⟨memE_len y, memE_one y⟩) (by first | omega | (simp only [List.length_nil, List.length_append, List.length_cons, List.length_take, List.length_drop]; omega)) (by first | omega | (simp only [List.length_nil, List.length_append, List.length_cons, List.length_take, List.length_drop]; omega)) (by omega)) ?_; clear h16
   rintro v20 w18 a17 ⟨hr21, hg22⟩ h17
   have hr21' : w18.ownsRow N10 154 2 v20 l.length (l.flatMap memE) := row_app (l := []) hr21; clear hr21
   have hz24 := hg22.size
   refine pk0 (v := v20) h17 rfl fun a25 h25 => ?_; clear h17
   refine pl_nil ?_
   refine co_then ?_
   refine wp_ret ?_
   refine co_ret1 h25 rfl rfl ?_
   have hB26 := hb_row hB23 hr19 (by omega) hg22
   exact ⟨_, rfl, (row_lows hr21' (by omega)), hB26⟩
set_option maxRecDepth 100000 in
theorem cloneO_any (v : Value) (l : List OpT) (w : World) (hs : SliceOf opE 3 w v l) (hlen : l.length ≤ 20) :
    Calls Tryz.prog 111 #[v] w fun e w' => ∃ (u : Value), e = .returned (u) ∧ w'.ownsRow w.heap.size 159 3 u l.length (l.flatMap opE) ∧ Below w.heap.size w w' := by
 have hB0 := Below.refl w.heap.size w
 have hl_hs := sl_len hs
 have hs' := hs; obtain ⟨ao, cap, hv, _, _, h3, _⟩ := hs'; subst hv; rcases ao with _ | ad
 · obtain ⟨hl0, hc0⟩ := h3 rfl; obtain rfl : l = [] := List.eq_nil_of_length_eq_zero hl0; subst hc0
   refine co_enter (n := 8) Tryz.func111 rfl rfl rfl [(0, .slice none 0 0)] rfl (fun a h0 => ?_)
   refine co_seq ?_
   refine co_reg ?_
   refine pk0 (v := .slice none 0 0) h0 rfl fun a1 h1 => ?_; clear h0
   refine pl_nil ?_
   refine co_then ?_
   refine co_seq ?_
   refine co_seq ?_
   refine co_reg ?_
   refine pk0 (v := .slice none 0 0) h1 rfl fun a2 h2 => ?_; clear h1
   refine pk0 (v := .bool true) h2 rfl fun a3 h3 => ?_; clear h2
   refine pl_nil ?_
   refine co_then ?_
   refine co_true h3 rfl ?_
   refine co_seq ?_
   refine co_reg ?_
   refine pk0 (v := .slice none 0 0) h3 rfl fun a4 h4 => ?_; clear h3
   refine pl_nil ?_
   refine co_then ?_
   refine wp_ret ?_
   refine co_thenR ?_
   refine co_ret1 h4 rfl rfl ?_
   exact ⟨_, rfl, (row_nilL _ _ _ _ _), hB0⟩
 · skip
   refine co_enter (n := 8) Tryz.func111 rfl rfl rfl [(0, .slice (some ad) l.length cap)] rfl (fun a h0 => ?_)
   refine co_seq ?_
   refine co_reg ?_
   refine pk0 (v := .slice none 0 0) h0 rfl fun a5 h5 => ?_; clear h0
   refine pl_nil ?_
   refine co_then ?_
   refine co_seq ?_
   refine co_seq ?_
   refine co_reg ?_
   refine pk0 (v := .slice (some ad) l.length cap) h5 rfl fun a6 h6 => ?_; clear h5
   refine pk0 (v := .bool false) h6 rfl fun a7 h7 => ?_; clear h6
   refine pl_nil ?_
   refine co_then ?_
   refine co_false h7 rfl ?_
   refine wp_skip ?_
   refine co_then ?_
   refine co_seq ?_
   refine co_reg ?_
   refine pw h7 rfl (op_new (v := fun N => .slice (some ⟨N, 0, none⟩) 0 0) (T := 159) (cs := #[]) (by kernel_rfl) (by kernel_rfl) (by kernel_rfl)) ?_; clear h7
   rintro _ w9 a8 ⟨N10, rfl, hN13, hz14, hk12, hg11⟩ h8
   have hz15 := hg11.size
   try dsimp only at h8
   refine pk0 (v := .slice (some ad) l.length cap) h8 rfl fun a16 h16 => ?_; clear h8
   have hr19 := row_of_blkL hk12 (Nat.le_refl _) 3 opE
   have hB23 := hb_new hB0 hg11
   refine pw h16 rfl (op_appendSrc rfl N10 159 (z := .agg #[.string (⟨#[]⟩), .string (⟨#[]⟩), .bool false]) (size := 3) (bytes := 40) Tryz.underlying27 (by kernel_rfl) rfl rfl rfl hr19 rfl (hs.below hB23) (fun y _ => ⟨opE_len y, opE_one y⟩) (by first | omega | (simp only [List.length_nil, List.length_append, List.length_cons, List.length_take, List.length_drop]; omega)) (by first | omega | (simp only [List.length_nil, List.length_append, List.length_cons, List.length_take, List.length_drop]; omega)) (by omega)) ?_; clear h16
   rintro v20 w18 a17 ⟨hr21, hg22⟩ h17
   have hr21' : w18.ownsRow N10 159 3 v20 l.length (l.flatMap opE) := row_app (l := []) hr21; clear hr21
   have hz24 := hg22.size
   refine pk0 (v := v20) h17 rfl fun a25 h25 => ?_; clear h17
   refine pl_nil ?_
   refine co_then ?_
   refine wp_ret ?_
   refine co_ret1 h25 rfl rfl ?_
   have hB26 := hb_row hB23 hr19 (by omega) hg22
   exact ⟨_, rfl, (row_lows hr21' (by omega)), hB26⟩
set_option maxRecDepth 100000 in
theorem freshConf_any (ep : Int) (mv : Value) (ms : List MemT) (fl : Int) (w : World) (hs : SliceOf memE 2 w mv ms) (hlen : ms.length ≤ 20) (he : -9223372036854775808 ≤ ep ∧ ep ≤ 9223372036854775807) (hf : 0 ≤ fl ∧ fl < 18446744073709551616) :
    Calls Tryz.prog 48 #[.agg #[.int .i64 ep, mv, .int .u64 fl]] w fun e w' => ∃ (u : Value), e = .returned (.agg #[.int .i64 ep, u, .int .u64 fl]) ∧ w'.ownsRow w.heap.size 154 2 u ms.length (ms.flatMap memE) ∧ Below w.heap.size w w' := by
 have hB0 := Below.refl w.heap.size w
 have hl_hs := sl_len hs
 refine co_enter (n := 8) Tryz.func48 rfl rfl rfl [(0, .agg #[.int .i64 ep, mv, .int .u64 fl])] rfl (fun a h0 => ?_)
 refine co_seq ?_
 refine co_reg ?_
 refine pw h0 rfl (op_new (v := fun N => pt N 0) (T := 26) (cs := #[.int .i64 ep, mv, .int .u64 fl]) (by kernel_rfl) (by kernel_rfl) (by kernel_rfl)) ?_; clear h0
 rintro _ w2 a1 ⟨N3, rfl, hN6, hz7, hk5, hg4⟩ h1
 have hz8 := hg4.size
 try dsimp only at h1
 refine pw h1 rfl (op_new (v := fun N => pt N 0) (T := 26) (cs := #[.int .i64 0, .slice none 0 0, .int .u64 0]) (by kernel_rfl) (by kernel_rfl) (by kernel_rfl)) ?_; clear h1
 rintro _ w10 a9 ⟨N11, rfl, hN14, hz15, hk13, hg12⟩ h9
 have hz16 := hg12.size
 try dsimp only at h9
 refine pl_nil ?_
 refine co_then ?_
 refine co_seq ?_
 refine co_reg ?_
 refine pk0 (v := pt N3 1) h9 rfl fun a17 h17 => ?_; clear h9
 have hk18 := hk5.kept hg12 (by simp)
 refine pk (v := mv) h17 rfl (rn_load1 rfl rfl Tryz.isAgg24 (hk18.cell rfl)) fun a19 h19 => ?_; clear h17
 have hB22 := hb_new hB0 hg4
 have hB23 := hb_new hB22 hg12
 refine pw h19 rfl (op_call (args := #[mv]) (R := fun res xw => ∃ u : Value, res = u ∧ xw.ownsRow w10.heap.size 154 2 u ms.length (ms.flatMap memE) ∧ Below w10.heap.size w10 xw) rfl rfl rfl (by kernel_rfl) (by kernel_rfl) (Tryz.call110 _ _) (cloneM_any mv ms w10 (hs.below hB23) (by first | omega | (simp; done) | (simp; omega))) (by rintro e x ⟨u, rfl, hq25, hb26⟩; exact ⟨_, rfl, ⟨u, rfl, hq25, hb26⟩⟩)) ?_; clear h19
 rintro u24 w21 a20 ⟨_, rfl, hq25, hb26⟩ h20
 have hz27 := hb26.size
 have hl28 := sl_len (row_sl hq25 memE_len)
 refine pk0 (v := pt N3 1) h20 rfl fun a29 h29 => ?_; clear h20
 have hk35 := hk18.below hb26
 refine pwD h29 rfl (op_store1 rfl rfl rfl (row_one hq25) Tryz.sizeOf24 hk35 rfl) ?_; clear h29
 rintro _ w31 a30 ⟨hk32, hz33, hg34⟩ h30
 have hk32' : Blk w31 N3 26 #[.int .i64 ep, u24, .int .u64 fl] := hk32; clear hk32
 have hz36 := hg34.size
 refine pl_nil ?_
 refine co_then ?_
 refine co_seq ?_
 refine co_reg ?_
 refine pk (v := .agg #[.int .i64 ep, u24, .int .u64 fl]) h30 rfl (rn_loadN rfl rfl Tryz.underlying26 rfl (by kernel_rfl) hk32'.all) fun a37 h37 => ?_; clear h30
 have hr43 := row_kept_at hq25 hg34 (row_ne_lt hq25 (by omega))
 have hk44 := hk13.below hb26
 have hk45 := hk44.kept hg34 (by simp; omega)
 refine pwD h37 rfl (op_storeN rfl rfl rfl (all_cons rfl (all_cons (row_one hr43) (all_cons rfl all_nil))) (by kernel_rfl) hk45 rfl) ?_; clear h37
 rintro _ w39 a38 ⟨hk40, hz41, hg42⟩ h38
 have hk40' : Blk w39 N11 26 #[.int .i64 ep, u24, .int .u64 fl] := hk40; clear hk40
 have hz46 := hg42.size
 refine pl_nil ?_
 refine co_then ?_
 refine wp_ret ?_
 refine co_retC (Q := fun _ _ _ => True) h38 rfl rfl hk40' Tryz.underlying26 rfl (by kernel_rfl) ?_
 have hr47 := row_kept_at hr43 hg42 (row_ne_lt hr43 (by omega))
 have hB48 := hb_call hB23 hb26
 have hB49 := hb_at hB48 hg34 (by omega)
 have hB50 := hb_at hB49 hg42 (by omega)
 exact ⟨_, rfl, (row_lows hr47 (by omega)), hB50⟩
set_option maxRecDepth 100000 in
theorem freshBatch_any (c : Int) (r : Int) (v : Value) (l : List OpT) (w : World) (hs : SliceOf opE 3 w v l) (hlen : l.length ≤ 20) :
    Calls Tryz.prog 49 #[.agg #[.int .i64 c, .int .i64 r, v]] w fun e w' => ∃ (u : Value), e = .returned (.agg #[.int .i64 c, .int .i64 r, u]) ∧ w'.ownsRow w.heap.size 159 3 u l.length (l.flatMap opE) ∧ Below w.heap.size w w' := by
 have hB0 := Below.refl w.heap.size w
 have hl_hs := sl_len hs
 refine co_enter (n := 8) Tryz.func49 rfl rfl rfl [(0, .agg #[.int .i64 c, .int .i64 r, v])] rfl (fun a h0 => ?_)
 refine co_seq ?_
 refine co_reg ?_
 refine pw h0 rfl (op_new (v := fun N => pt N 0) (T := 29) (cs := #[.int .i64 c, .int .i64 r, v]) (by kernel_rfl) (by kernel_rfl) (by kernel_rfl)) ?_; clear h0
 rintro _ w2 a1 ⟨N3, rfl, hN6, hz7, hk5, hg4⟩ h1
 have hz8 := hg4.size
 try dsimp only at h1
 refine pw h1 rfl (op_new (v := fun N => pt N 0) (T := 29) (cs := #[.int .i64 0, .int .i64 0, .slice none 0 0]) (by kernel_rfl) (by kernel_rfl) (by kernel_rfl)) ?_; clear h1
 rintro _ w10 a9 ⟨N11, rfl, hN14, hz15, hk13, hg12⟩ h9
 have hz16 := hg12.size
 try dsimp only at h9
 refine pl_nil ?_
 refine co_then ?_
 refine co_seq ?_
 refine co_reg ?_
 refine pk0 (v := pt N3 2) h9 rfl fun a17 h17 => ?_; clear h9
 have hk18 := hk5.kept hg12 (by simp)
 refine pk (v := v) h17 rfl (rn_load1 rfl rfl Tryz.isAgg27 (hk18.cell rfl)) fun a19 h19 => ?_; clear h17
 have hB22 := hb_new hB0 hg4
 have hB23 := hb_new hB22 hg12
 refine pw h19 rfl (op_call (args := #[v]) (R := fun res xw => ∃ u : Value, res = u ∧ xw.ownsRow w10.heap.size 159 3 u l.length (l.flatMap opE) ∧ Below w10.heap.size w10 xw) rfl rfl rfl (by kernel_rfl) (by kernel_rfl) (Tryz.call111 _ _) (cloneO_any v l w10 (hs.below hB23) (by first | omega | (simp; done) | (simp; omega))) (by rintro e x ⟨u, rfl, hq25, hb26⟩; exact ⟨_, rfl, ⟨u, rfl, hq25, hb26⟩⟩)) ?_; clear h19
 rintro u24 w21 a20 ⟨_, rfl, hq25, hb26⟩ h20
 have hz27 := hb26.size
 have hl28 := sl_len (row_sl hq25 opE_len)
 refine pk0 (v := pt N3 2) h20 rfl fun a29 h29 => ?_; clear h20
 have hk35 := hk18.below hb26
 refine pwD h29 rfl (op_store1 rfl rfl rfl (row_one hq25) Tryz.sizeOf27 hk35 rfl) ?_; clear h29
 rintro _ w31 a30 ⟨hk32, hz33, hg34⟩ h30
 have hk32' : Blk w31 N3 29 #[.int .i64 c, .int .i64 r, u24] := hk32; clear hk32
 have hz36 := hg34.size
 refine pl_nil ?_
 refine co_then ?_
 refine co_seq ?_
 refine co_reg ?_
 refine pk (v := .agg #[.int .i64 c, .int .i64 r, u24]) h30 rfl (rn_loadN rfl rfl Tryz.underlying29 rfl (by kernel_rfl) hk32'.all) fun a37 h37 => ?_; clear h30
 have hr43 := row_kept_at hq25 hg34 (row_ne_lt hq25 (by omega))
 have hk44 := hk13.below hb26
 have hk45 := hk44.kept hg34 (by simp; omega)
 refine pwD h37 rfl (op_storeN rfl rfl rfl (all_cons rfl (all_cons rfl (all_cons (row_one hr43) all_nil))) (by kernel_rfl) hk45 rfl) ?_; clear h37
 rintro _ w39 a38 ⟨hk40, hz41, hg42⟩ h38
 have hk40' : Blk w39 N11 29 #[.int .i64 c, .int .i64 r, u24] := hk40; clear hk40
 have hz46 := hg42.size
 refine pl_nil ?_
 refine co_then ?_
 refine wp_ret ?_
 refine co_retC (Q := fun _ _ _ => True) h38 rfl rfl hk40' Tryz.underlying29 rfl (by kernel_rfl) ?_
 have hr47 := row_kept_at hr43 hg42 (row_ne_lt hr43 (by omega))
 have hB48 := hb_call hB23 hb26
 have hB49 := hb_at hB48 hg34 (by omega)
 have hB50 := hb_at hB49 hg42 (by omega)
 exact ⟨_, rfl, (row_lows hr47 (by omega)), hB50⟩
set_option maxRecDepth 100000 in
theorem freshEntry_any (c : Int) (r : Int) (v : Value) (l : List OpT) (ts : Int) (w : World) (hs : SliceOf opE 3 w v l) (hlen : l.length ≤ 20) :
    Calls Tryz.prog 87 #[.agg #[.int .i64 c, .int .i64 r, v, .int .u64 ts]] w fun e w' => ∃ (u : Value), e = .returned (.agg #[.int .i64 c, .int .i64 r, u, .int .u64 ts]) ∧ w'.ownsRow w.heap.size 159 3 u l.length (l.flatMap opE) ∧ Below w.heap.size w w' := by
 have hB0 := Below.refl w.heap.size w
 have hl_hs := sl_len hs
 refine co_enter (n := 8) Tryz.func87 rfl rfl rfl [(0, .agg #[.int .i64 c, .int .i64 r, v, .int .u64 ts])] rfl (fun a h0 => ?_)
 refine co_seq ?_
 refine co_reg ?_
 refine pw h0 rfl (op_new (v := fun N => pt N 0) (T := 52) (cs := #[.int .i64 c, .int .i64 r, v, .int .u64 ts]) (by kernel_rfl) (by kernel_rfl) (by kernel_rfl)) ?_; clear h0
 rintro _ w2 a1 ⟨N3, rfl, hN6, hz7, hk5, hg4⟩ h1
 have hz8 := hg4.size
 try dsimp only at h1
 refine pw h1 rfl (op_new (v := fun N => pt N 0) (T := 52) (cs := #[.int .i64 0, .int .i64 0, .slice none 0 0, .int .u64 0]) (by kernel_rfl) (by kernel_rfl) (by kernel_rfl)) ?_; clear h1
 rintro _ w10 a9 ⟨N11, rfl, hN14, hz15, hk13, hg12⟩ h9
 have hz16 := hg12.size
 try dsimp only at h9
 refine pl_nil ?_
 refine co_then ?_
 refine co_seq ?_
 refine co_reg ?_
 refine pk0 (v := pt N3 0) h9 rfl fun a17 h17 => ?_; clear h9
 have hk18 := hk5.kept hg12 (by simp)
 refine pk (v := .agg #[.int .i64 c, .int .i64 r, v]) h17 rfl (rn_loadN rfl rfl Tryz.underlying29 rfl (by kernel_rfl) (blk_part hk18 0 (by rfl))) fun a19 h19 => ?_; clear h17
 have hB22 := hb_new hB0 hg4
 have hB23 := hb_new hB22 hg12
 refine pw h19 rfl (op_call (args := #[.agg #[.int .i64 c, .int .i64 r, v]]) (R := fun res xw => ∃ u : Value, res = .agg #[.int .i64 c, .int .i64 r, u] ∧ xw.ownsRow w10.heap.size 159 3 u l.length (l.flatMap opE) ∧ Below w10.heap.size w10 xw) rfl rfl rfl (by kernel_rfl) (by kernel_rfl) (Tryz.call49 _ _) (freshBatch_any c r v l w10 (hs.below hB23) (by first | omega | (simp; done) | (simp; omega))) (by rintro e x ⟨u, rfl, hq25, hb26⟩; exact ⟨_, rfl, ⟨u, rfl, hq25, hb26⟩⟩)) ?_; clear h19
 rintro _ w21 a20 ⟨u24, rfl, hq25, hb26⟩ h20
 have hz27 := hb26.size
 have hl28 := sl_len (row_sl hq25 opE_len)
 refine pk0 (v := pt N3 0) h20 rfl fun a29 h29 => ?_; clear h20
 have hk35 := hk18.below hb26
 refine pwD h29 rfl (op_storePart (k := 0) (cs' := #[.int .i64 c, .int .i64 r, u24, .int .u64 ts]) rfl rfl rfl (all_cons rfl (all_cons rfl (all_cons (row_one hq25) all_nil))) (by kernel_rfl) hk35 rfl rfl) ?_; clear h29
 rintro _ w31 a30 ⟨hk32, hz33, hg34⟩ h30
 have hk32' : Blk w31 N3 52 #[.int .i64 c, .int .i64 r, u24, .int .u64 ts] := hk32; clear hk32
 have hz36 := hg34.size
 refine pl_nil ?_
 refine co_then ?_
 refine co_seq ?_
 refine co_reg ?_
 refine pk (v := .agg #[.int .i64 c, .int .i64 r, u24, .int .u64 ts]) h30 rfl (rn_loadN rfl rfl Tryz.underlying52 rfl (by kernel_rfl) hk32'.all) fun a37 h37 => ?_; clear h30
 have hr43 := row_kept_at hq25 hg34 (row_ne_lt hq25 (by omega))
 have hk44 := hk13.below hb26
 have hk45 := hk44.kept hg34 (by simp; omega)
 refine pwD h37 rfl (op_storeN rfl rfl rfl (all_cons rfl (all_cons rfl (all_cons (row_one hr43) (all_cons rfl all_nil)))) (by kernel_rfl) hk45 rfl) ?_; clear h37
 rintro _ w39 a38 ⟨hk40, hz41, hg42⟩ h38
 have hk40' : Blk w39 N11 52 #[.int .i64 c, .int .i64 r, u24, .int .u64 ts] := hk40; clear hk40
 have hz46 := hg42.size
 refine pl_nil ?_
 refine co_then ?_
 refine wp_ret ?_
 refine co_retC (Q := fun _ _ _ => True) h38 rfl rfl hk40' Tryz.underlying52 rfl (by kernel_rfl) ?_
 have hr47 := row_kept_at hr43 hg42 (row_ne_lt hr43 (by omega))
 have hB48 := hb_call hB23 hb26
 have hB49 := hb_at hB48 hg34 (by omega)
 have hB50 := hb_at hB49 hg42 (by omega)
 exact ⟨_, rfl, (row_lows hr47 (by omega)), hB50⟩
set_option maxRecDepth 100000 in
theorem nClean_any (d : NoteD) (mv : Value) (lv : Value) (ev : Value) (w : World) (hm : SliceOf memE 2 w mv d.ms) (hg : SliceOf (intE .i64) 1 w lv d.lg) (he : SliceOf opE 3 w ev d.el) (hR : NoteR d) (hlen : d.ms.length ≤ 20 ∧ d.lg.length ≤ 20 ∧ d.el.length ≤ 20) :
    Calls Tryz.prog 25 #[.agg #[.int .i64 d.k, .int .i64 d.n, .int .u64 d.t, .int .i64 d.ep, mv, .int .u64 d.fl, lv, .int .i64 d.ec, .int .i64 d.er, ev, .int .u64 d.ets, .int .i64 d.pid, .int .u64 d.pat, .int .i64 d.plf, .int .i64 d.sc, .int .i64 d.sr, .int .i64 d.se, .int .i64 d.sp]] w fun e w' => ∃ (cm : Value) (cl : Value) (ce : Value), e = .returned (.agg #[.int .i64 ((cleanN d).k), .int .i64 ((cleanN d).n), .int .u64 ((cleanN d).t), .int .i64 ((cleanN d).ep), cm, .int .u64 ((cleanN d).fl), cl, .int .i64 ((cleanN d).ec), .int .i64 ((cleanN d).er), ce, .int .u64 ((cleanN d).ets), .int .i64 ((cleanN d).pid), .int .u64 ((cleanN d).pat), .int .i64 ((cleanN d).plf), .int .i64 ((cleanN d).sc), .int .i64 ((cleanN d).sr), .int .i64 ((cleanN d).se), .int .i64 ((cleanN d).sp)]) ∧ w'.ownsRow w.heap.size 154 2 cm ((cleanN d).ms).length (((cleanN d).ms).flatMap memE) ∧ w'.ownsRow w.heap.size 3 1 cl ((cleanN d).lg).length (((cleanN d).lg).flatMap (intE .i64)) ∧ w'.ownsRow w.heap.size 159 3 ce ((cleanN d).el).length (((cleanN d).el).flatMap opE) ∧ Below w.heap.size w w' := by
 have hrng := hR.rng
 have hB0 := Below.refl w.heap.size w
 have hl_hm := sl_len hm
 have hl_hg := sl_len hg
 have hl_he := sl_len he
 refine co_enter (n := 52) Tryz.func25 rfl rfl rfl [(0, .agg #[.int .i64 d.k, .int .i64 d.n, .int .u64 d.t, .int .i64 d.ep, mv, .int .u64 d.fl, lv, .int .i64 d.ec, .int .i64 d.er, ev, .int .u64 d.ets, .int .i64 d.pid, .int .u64 d.pat, .int .i64 d.plf, .int .i64 d.sc, .int .i64 d.sr, .int .i64 d.se, .int .i64 d.sp])] rfl (fun a h0 => ?_)
 refine co_seq ?_
 refine co_reg ?_
 refine pw h0 rfl (op_new (v := fun N => pt N 0) (T := 58) (cs := #[.int .i64 d.k, .int .i64 d.n, .int .u64 d.t, .int .i64 d.ep, mv, .int .u64 d.fl, lv, .int .i64 d.ec, .int .i64 d.er, ev, .int .u64 d.ets, .int .i64 d.pid, .int .u64 d.pat, .int .i64 d.plf, .int .i64 d.sc, .int .i64 d.sr, .int .i64 d.se, .int .i64 d.sp]) (by kernel_rfl) (by kernel_rfl) (by kernel_rfl)) ?_; clear h0
 rintro _ w2 a1 ⟨N3, rfl, hN6, hz7, hk5, hg4⟩ h1
 have hz8 := hg4.size
 try dsimp only at h1
 refine pw h1 rfl (op_new (v := fun N => pt N 0) (T := 58) (cs := #[.int .i64 0, .int .i64 0, .int .u64 0, .int .i64 0, .slice none 0 0, .int .u64 0, .slice none 0 0, .int .i64 0, .int .i64 0, .slice none 0 0, .int .u64 0, .int .i64 0, .int .u64 0, .int .i64 0, .int .i64 0, .int .i64 0, .int .i64 0, .int .i64 0]) (by kernel_rfl) (by kernel_rfl) (by kernel_rfl)) ?_; clear h1
 rintro _ w10 a9 ⟨N11, rfl, hN14, hz15, hk13, hg12⟩ h9
 have hz16 := hg12.size
 try dsimp only at h9
 refine pl_nil ?_
 refine co_then ?_
 refine co_seq ?_
 refine co_reg ?_
 refine pk0 (v := pt N3 0) h9 rfl fun a17 h17 => ?_; clear h9
 have hk18 := hk5.kept hg12 (by simp)
 refine pk (v := .int .i64 d.k) h17 rfl (rn_load1 rfl rfl Tryz.isAgg3 (hk18.cell rfl)) fun a19 h19 => ?_; clear h17
 refine pk0 (v := .agg #[.int .i64 d.k, .int .i64 0, .int .u64 0, .int .i64 0, .slice none 0 0, .int .u64 0, .slice none 0 0, .int .i64 0, .int .i64 0, .slice none 0 0, .int .u64 0, .int .i64 0, .int .u64 0, .int .i64 0, .int .i64 0, .int .i64 0, .int .i64 0, .int .i64 0]) h19 rfl fun a20 h20 => ?_; clear h19
 refine pw h20 rfl (op_new (v := fun N => pt N 0) (T := 58) (cs := #[.int .i64 0, .int .i64 0, .int .u64 0, .int .i64 0, .slice none 0 0, .int .u64 0, .slice none 0 0, .int .i64 0, .int .i64 0, .slice none 0 0, .int .u64 0, .int .i64 0, .int .u64 0, .int .i64 0, .int .i64 0, .int .i64 0, .int .i64 0, .int .i64 0]) (by kernel_rfl) (by kernel_rfl) (by kernel_rfl)) ?_; clear h20
 rintro _ w22 a21 ⟨N23, rfl, hN26, hz27, hk25, hg24⟩ h21
 have hz28 := hg24.size
 try dsimp only at h21
 refine pwD h21 rfl (op_storeN rfl rfl rfl (all_cons rfl (all_cons rfl (all_cons rfl (all_cons rfl (all_cons rfl (all_cons rfl (all_cons rfl (all_cons rfl (all_cons rfl (all_cons rfl (all_cons rfl (all_cons rfl (all_cons rfl (all_cons rfl (all_cons rfl (all_cons rfl (all_cons rfl (all_cons rfl all_nil)))))))))))))))))) (by kernel_rfl) hk25 rfl) ?_; clear h21
 rintro _ w30 a29 ⟨hk31, hz32, hg33⟩ h29
 have hk31' : Blk w30 N23 58 #[.int .i64 d.k, .int .i64 0, .int .u64 0, .int .i64 0, .slice none 0 0, .int .u64 0, .slice none 0 0, .int .i64 0, .int .i64 0, .slice none 0 0, .int .u64 0, .int .i64 0, .int .u64 0, .int .i64 0, .int .i64 0, .int .i64 0, .int .i64 0, .int .i64 0] := hk31; clear hk31
 have hz34 := hg33.size
 refine pl_nil ?_
 refine co_then ?_
 refine co_seq ?_
 refine co_seq ?_
 refine co_reg ?_
 refine pk0 (v := pt N3 0) h29 rfl fun a35 h35 => ?_; clear h29
 have hk36 := hk18.kept hg24 (by simp)
 have hk37 := hk36.kept hg33 (by simp; omega)
 refine pk (v := .int .i64 d.k) h35 rfl (rn_load1 rfl rfl Tryz.isAgg3 (hk37.cell rfl)) fun a38 h38 => ?_; clear h35
 refine pl_nil ?_
 refine co_then ?_
 refine wp_block ?_
 refine co_seq ?_
 refine wp_block ?_
 refine co_seq ?_
 refine wp_block ?_
 refine co_seq ?_
 refine wp_block ?_
 refine co_seq ?_
 refine wp_block ?_
 refine co_seq ?_
 refine wp_block ?_
 refine co_seq ?_
 refine wp_block ?_
 refine co_seq ?_
 refine wp_block ?_
 refine co_seq ?_
 refine co_seq ?_
 refine co_seq ?_
 refine co_reg ?_
 refine pk0 (v := .bool (d.k == 1)) h38 rfl fun a39 h39 => ?_; clear h38
 refine pk0 (v := .bool (d.k == 1)) h39 rfl fun a40 h40 => ?_; clear h39
 refine pl_nil ?_
 refine co_then ?_
 have hB42 := hb_new hB0 hg4
 have hB43 := hb_new hB42 hg12
 have hB44 := hb_new hB43 hg24
 have hB45 := hb_at hB44 hg33 (by omega)
 have hk46 := hk13.kept hg24 (by simp)
 have hk47 := hk46.kept hg33 (by simp; omega)
 cases hc41 : (d.k == 1)
 ·
  rw [hc41] at h40
  have hp48 : ¬ (d.k = 1) := by first | simpa using hc41 | simpa [and_assoc] using hc41
  clear hc41
  refine co_false h40 rfl ?_
  refine wp_skip ?_
  refine co_then ?_
  refine co_seq ?_
  refine co_seq ?_
  refine co_reg ?_
  refine pk0 (v := .bool (d.k == 2)) h40 rfl fun a49 h49 => ?_; clear h40
  refine pk0 (v := .bool (d.k == 2)) h49 rfl fun a50 h50 => ?_; clear h49
  refine pl_nil ?_
  refine co_then ?_
  cases hc51 : (d.k == 2)
  ·
   rw [hc51] at h50
   have hp52 : ¬ (d.k = 2) := by first | simpa using hc51 | simpa [and_assoc] using hc51
   clear hc51
   refine co_false h50 rfl ?_
   refine wp_skip ?_
   refine co_then ?_
   refine co_seq ?_
   refine co_seq ?_
   refine co_seq ?_
   refine co_reg ?_
   refine pk0 (v := .bool (d.k == 3)) h50 rfl fun a53 h53 => ?_; clear h50
   refine pk0 (v := .bool (d.k == 3)) h53 rfl fun a54 h54 => ?_; clear h53
   refine pl_nil ?_
   refine co_then ?_
   cases hc55 : (d.k == 3)
   ·
    rw [hc55] at h54
    have hp56 : ¬ (d.k = 3) := by first | simpa using hc55 | simpa [and_assoc] using hc55
    clear hc55
    refine co_false h54 rfl ?_
    refine co_reg ?_
    refine pk0 (v := .bool (d.k == 4)) h54 rfl fun a57 h57 => ?_; clear h54
    refine pk0 (v := .bool (d.k == 4)) h57 rfl fun a58 h58 => ?_; clear h57
    refine pl_nil ?_
    refine co_then ?_
    cases hc59 : (d.k == 4)
    ·
     rw [hc59] at h58
     have hp60 : ¬ (d.k = 4) := by first | simpa using hc59 | simpa [and_assoc] using hc59
     clear hc59
     refine co_false h58 rfl ?_
     refine wp_skip ?_
     refine co_then ?_
     refine co_seq ?_
     refine co_seq ?_
     refine co_seq ?_
     refine co_reg ?_
     refine pk0 (v := .bool (d.k == 5)) h58 rfl fun a61 h61 => ?_; clear h58
     refine pk0 (v := .bool (d.k == 5)) h61 rfl fun a62 h62 => ?_; clear h61
     refine pl_nil ?_
     refine co_then ?_
     cases hc63 : (d.k == 5)
     ·
      rw [hc63] at h62
      have hp64 : ¬ (d.k = 5) := by first | simpa using hc63 | simpa [and_assoc] using hc63
      clear hc63
      refine co_false h62 rfl ?_
      refine co_reg ?_
      refine pk0 (v := .bool (d.k == 7)) h62 rfl fun a65 h65 => ?_; clear h62
      refine pk0 (v := .bool (d.k == 7)) h65 rfl fun a66 h66 => ?_; clear h65
      refine pl_nil ?_
      refine co_then ?_
      cases hc67 : (d.k == 7)
      ·
       rw [hc67] at h66
       have hp68 : ¬ (d.k = 7) := by first | simpa using hc67 | simpa [and_assoc] using hc67
       clear hc67
       refine co_false h66 rfl ?_
       refine wp_skip ?_
       refine co_then ?_
       refine co_seq ?_
       refine co_seq ?_
       refine co_reg ?_
       refine pk0 (v := .bool (d.k == 6)) h66 rfl fun a69 h69 => ?_; clear h66
       refine pk0 (v := .bool (d.k == 6)) h69 rfl fun a70 h70 => ?_; clear h69
       refine pl_nil ?_
       refine co_then ?_
       cases hc71 : (d.k == 6)
       ·
        rw [hc71] at h70
        have hp72 : ¬ (d.k = 6) := by first | simpa using hc71 | simpa [and_assoc] using hc71
        clear hc71
        refine co_false h70 rfl ?_
        refine wp_skip ?_
        refine co_then ?_
        refine co_seq ?_
        refine co_reg ?_
        refine pk0 (v := .bool (d.k == 8)) h70 rfl fun a73 h73 => ?_; clear h70
        refine pk0 (v := .bool (d.k == 8)) h73 rfl fun a74 h74 => ?_; clear h73
        refine pl_nil ?_
        refine co_then ?_
        cases hc75 : (d.k == 8)
        ·
         rw [hc75] at h74
         have hp76 : ¬ (d.k = 8) := by first | simpa using hc75 | simpa [and_assoc] using hc75
         clear hc75
         refine co_false h74 rfl ?_
         refine wp_skip ?_
         refine co_then ?_
         refine wp_exit ?_
         refine co_blockY (by decide) ?_
         refine co_thenX ?_
         refine co_blockY (by decide) ?_
         refine co_thenX ?_
         refine co_blockY (by decide) ?_
         refine co_thenX ?_
         refine co_blockY (by decide) ?_
         refine co_thenX ?_
         refine co_blockY (by decide) ?_
         refine co_thenX ?_
         refine co_blockY (by decide) ?_
         refine co_thenX ?_
         refine co_blockX ?_
         refine co_then ?_
         refine co_seq ?_
         refine co_seq ?_
         refine co_reg ?_
         refine pk0 (v := .agg #[.int .i64 0, .int .i64 0, .int .u64 0, .int .i64 0, .slice none 0 0, .int .u64 0, .slice none 0 0, .int .i64 0, .int .i64 0, .slice none 0 0, .int .u64 0, .int .i64 0, .int .u64 0, .int .i64 0, .int .i64 0, .int .i64 0, .int .i64 0, .int .i64 0]) h74 rfl fun a77 h77 => ?_; clear h74
         refine pwD h77 rfl (op_storeN rfl rfl rfl (all_cons rfl (all_cons rfl (all_cons rfl (all_cons rfl (all_cons rfl (all_cons rfl (all_cons rfl (all_cons rfl (all_cons rfl (all_cons rfl (all_cons rfl (all_cons rfl (all_cons rfl (all_cons rfl (all_cons rfl (all_cons rfl (all_cons rfl (all_cons rfl all_nil)))))))))))))))))) (by kernel_rfl) hk47 rfl) ?_; clear h77
         rintro _ w79 a78 ⟨hk80, hz81, hg82⟩ h78
         have hk80' : Blk w79 N11 58 #[.int .i64 0, .int .i64 0, .int .u64 0, .int .i64 0, .slice none 0 0, .int .u64 0, .slice none 0 0, .int .i64 0, .int .i64 0, .slice none 0 0, .int .u64 0, .int .i64 0, .int .u64 0, .int .i64 0, .int .i64 0, .int .i64 0, .int .i64 0, .int .i64 0] := hk80; clear hk80
         have hz83 := hg82.size
         refine pl_nil ?_
         refine co_then ?_
         refine wp_ret ?_
         refine co_thenR ?_
         refine co_blockR ?_
         refine co_thenR ?_
         refine co_retC (Q := fun _ _ _ => True) h78 rfl rfl hk80' Tryz.underlying58 rfl (by kernel_rfl) ?_
         have hB84 := hb_at hB45 hg82 (by omega)
         have hcl := cl_0 (d := d) (by omega)
         refine ⟨_, _, _, by rw [hcl]; rfl, ?_, ?_, ?_, hB84⟩
         · rw [hcl]; exact (row_nilL _ _ _ _ _)
         · rw [hcl]; exact (row_nilL _ _ _ _ _)
         · rw [hcl]; exact (row_nilL _ _ _ _ _)
        ·
         rw [hc75] at h74
         have hp85 : d.k = 8 := by first | simpa using hc75 | simpa [and_assoc] using hc75
         clear hc75
         refine co_true h74 rfl ?_
         refine wp_exit ?_
         refine co_thenX ?_
         refine co_blockY (by decide) ?_
         refine co_thenX ?_
         refine co_blockY (by decide) ?_
         refine co_thenX ?_
         refine co_blockY (by decide) ?_
         refine co_thenX ?_
         refine co_blockY (by decide) ?_
         refine co_thenX ?_
         refine co_blockY (by decide) ?_
         refine co_thenX ?_
         refine co_blockX ?_
         refine co_then ?_
         refine co_seq ?_
         refine co_reg ?_
         refine pk0 (v := pt N3 14) h74 rfl fun a86 h86 => ?_; clear h74
         refine pk (v := .agg #[.int .i64 d.sc, .int .i64 d.sr, .int .i64 d.se, .int .i64 d.sp]) h86 rfl (rn_loadN rfl rfl Tryz.underlying56 rfl (by kernel_rfl) (blk_part hk37 14 (by rfl))) fun a87 h87 => ?_; clear h86
         refine pk0 (v := pt N23 14) h87 rfl fun a88 h88 => ?_; clear h87
         refine pwD h88 rfl (op_storePart (k := 14) (cs' := #[.int .i64 d.k, .int .i64 0, .int .u64 0, .int .i64 0, .slice none 0 0, .int .u64 0, .slice none 0 0, .int .i64 0, .int .i64 0, .slice none 0 0, .int .u64 0, .int .i64 0, .int .u64 0, .int .i64 0, .int .i64 d.sc, .int .i64 d.sr, .int .i64 d.se, .int .i64 d.sp]) rfl rfl rfl (by kernel_rfl) (by kernel_rfl) hk31' rfl rfl) ?_; clear h88
         rintro _ w90 a89 ⟨hk91, hz92, hg93⟩ h89
         have hk91' : Blk w90 N23 58 #[.int .i64 d.k, .int .i64 0, .int .u64 0, .int .i64 0, .slice none 0 0, .int .u64 0, .slice none 0 0, .int .i64 0, .int .i64 0, .slice none 0 0, .int .u64 0, .int .i64 0, .int .u64 0, .int .i64 0, .int .i64 d.sc, .int .i64 d.sr, .int .i64 d.se, .int .i64 d.sp] := hk91; clear hk91
         have hz94 := hg93.size
         refine pl_nil ?_
         refine co_then ?_
         refine wp_exit ?_
         refine co_blockY (by decide) ?_
         refine co_thenX ?_
         refine co_blockX ?_
         refine co_then ?_
         refine co_seq ?_
         refine co_reg ?_
         refine pk (v := .agg #[.int .i64 d.k, .int .i64 0, .int .u64 0, .int .i64 0, .slice none 0 0, .int .u64 0, .slice none 0 0, .int .i64 0, .int .i64 0, .slice none 0 0, .int .u64 0, .int .i64 0, .int .u64 0, .int .i64 0, .int .i64 d.sc, .int .i64 d.sr, .int .i64 d.se, .int .i64 d.sp]) h89 rfl (rn_loadN rfl rfl Tryz.underlying58 rfl (by kernel_rfl) hk91'.all) fun a95 h95 => ?_; clear h89
         have hk101 := hk47.kept hg93 (by simp; omega)
         refine pwD h95 rfl (op_storeN rfl rfl rfl (all_cons rfl (all_cons rfl (all_cons rfl (all_cons rfl (all_cons rfl (all_cons rfl (all_cons rfl (all_cons rfl (all_cons rfl (all_cons rfl (all_cons rfl (all_cons rfl (all_cons rfl (all_cons rfl (all_cons rfl (all_cons rfl (all_cons rfl (all_cons rfl all_nil)))))))))))))))))) (by kernel_rfl) hk101 rfl) ?_; clear h95
         rintro _ w97 a96 ⟨hk98, hz99, hg100⟩ h96
         have hk98' : Blk w97 N11 58 #[.int .i64 d.k, .int .i64 0, .int .u64 0, .int .i64 0, .slice none 0 0, .int .u64 0, .slice none 0 0, .int .i64 0, .int .i64 0, .slice none 0 0, .int .u64 0, .int .i64 0, .int .u64 0, .int .i64 0, .int .i64 d.sc, .int .i64 d.sr, .int .i64 d.se, .int .i64 d.sp] := hk98; clear hk98
         have hz102 := hg100.size
         refine pl_nil ?_
         refine co_then ?_
         refine wp_ret ?_
         refine co_retC (Q := fun _ _ _ => True) h96 rfl rfl hk98' Tryz.underlying58 rfl (by kernel_rfl) ?_
         have hB103 := hb_at hB45 hg93 (by omega)
         have hB104 := hb_at hB103 hg100 (by omega)
         have hcl := cl_8 (d := d) (by omega)
         refine ⟨_, _, _, by rw [hcl]; rfl, ?_, ?_, ?_, hB104⟩
         · rw [hcl]; exact (row_nilL _ _ _ _ _)
         · rw [hcl]; exact (row_nilL _ _ _ _ _)
         · rw [hcl]; exact (row_nilL _ _ _ _ _)
       ·
        rw [hc71] at h70
        have hp105 : d.k = 6 := by first | simpa using hc71 | simpa [and_assoc] using hc71
        clear hc71
        refine co_true h70 rfl ?_
        refine wp_exit ?_
        refine co_thenX ?_
        refine co_thenX ?_
        refine co_blockY (by decide) ?_
        refine co_thenX ?_
        refine co_blockY (by decide) ?_
        refine co_thenX ?_
        refine co_blockY (by decide) ?_
        refine co_thenX ?_
        refine co_blockY (by decide) ?_
        refine co_thenX ?_
        refine co_blockX ?_
        refine co_then ?_
        refine co_seq ?_
        refine co_reg ?_
        refine pk0 (v := pt N3 11) h70 rfl fun a106 h106 => ?_; clear h70
        refine pk (v := .agg #[.int .i64 d.pid, .int .u64 d.pat, .int .i64 d.plf]) h106 rfl (rn_loadN rfl rfl Tryz.underlying54 rfl (by kernel_rfl) (blk_part hk37 11 (by rfl))) fun a107 h107 => ?_; clear h106
        refine pk0 (v := pt N23 11) h107 rfl fun a108 h108 => ?_; clear h107
        refine pwD h108 rfl (op_storePart (k := 11) (cs' := #[.int .i64 d.k, .int .i64 0, .int .u64 0, .int .i64 0, .slice none 0 0, .int .u64 0, .slice none 0 0, .int .i64 0, .int .i64 0, .slice none 0 0, .int .u64 0, .int .i64 d.pid, .int .u64 d.pat, .int .i64 d.plf, .int .i64 0, .int .i64 0, .int .i64 0, .int .i64 0]) rfl rfl rfl (by kernel_rfl) (by kernel_rfl) hk31' rfl rfl) ?_; clear h108
        rintro _ w110 a109 ⟨hk111, hz112, hg113⟩ h109
        have hk111' : Blk w110 N23 58 #[.int .i64 d.k, .int .i64 0, .int .u64 0, .int .i64 0, .slice none 0 0, .int .u64 0, .slice none 0 0, .int .i64 0, .int .i64 0, .slice none 0 0, .int .u64 0, .int .i64 d.pid, .int .u64 d.pat, .int .i64 d.plf, .int .i64 0, .int .i64 0, .int .i64 0, .int .i64 0] := hk111; clear hk111
        have hz114 := hg113.size
        refine pl_nil ?_
        refine co_then ?_
        refine wp_exit ?_
        refine co_blockY (by decide) ?_
        refine co_thenX ?_
        refine co_blockY (by decide) ?_
        refine co_thenX ?_
        refine co_blockX ?_
        refine co_then ?_
        refine co_seq ?_
        refine co_reg ?_
        refine pk (v := .agg #[.int .i64 d.k, .int .i64 0, .int .u64 0, .int .i64 0, .slice none 0 0, .int .u64 0, .slice none 0 0, .int .i64 0, .int .i64 0, .slice none 0 0, .int .u64 0, .int .i64 d.pid, .int .u64 d.pat, .int .i64 d.plf, .int .i64 0, .int .i64 0, .int .i64 0, .int .i64 0]) h109 rfl (rn_loadN rfl rfl Tryz.underlying58 rfl (by kernel_rfl) hk111'.all) fun a115 h115 => ?_; clear h109
        have hk121 := hk47.kept hg113 (by simp; omega)
        refine pwD h115 rfl (op_storeN rfl rfl rfl (all_cons rfl (all_cons rfl (all_cons rfl (all_cons rfl (all_cons rfl (all_cons rfl (all_cons rfl (all_cons rfl (all_cons rfl (all_cons rfl (all_cons rfl (all_cons rfl (all_cons rfl (all_cons rfl (all_cons rfl (all_cons rfl (all_cons rfl (all_cons rfl all_nil)))))))))))))))))) (by kernel_rfl) hk121 rfl) ?_; clear h115
        rintro _ w117 a116 ⟨hk118, hz119, hg120⟩ h116
        have hk118' : Blk w117 N11 58 #[.int .i64 d.k, .int .i64 0, .int .u64 0, .int .i64 0, .slice none 0 0, .int .u64 0, .slice none 0 0, .int .i64 0, .int .i64 0, .slice none 0 0, .int .u64 0, .int .i64 d.pid, .int .u64 d.pat, .int .i64 d.plf, .int .i64 0, .int .i64 0, .int .i64 0, .int .i64 0] := hk118; clear hk118
        have hz122 := hg120.size
        refine pl_nil ?_
        refine co_then ?_
        refine wp_ret ?_
        refine co_retC (Q := fun _ _ _ => True) h116 rfl rfl hk118' Tryz.underlying58 rfl (by kernel_rfl) ?_
        have hB123 := hb_at hB45 hg113 (by omega)
        have hB124 := hb_at hB123 hg120 (by omega)
        have hcl := cl_6 (d := d) (by omega)
        refine ⟨_, _, _, by rw [hcl]; rfl, ?_, ?_, ?_, hB124⟩
        · rw [hcl]; exact (row_nilL _ _ _ _ _)
        · rw [hcl]; exact (row_nilL _ _ _ _ _)
        · rw [hcl]; exact (row_nilL _ _ _ _ _)
      ·
       rw [hc67] at h66
       have hp125 : d.k = 7 := by first | simpa using hc67 | simpa [and_assoc] using hc67
       clear hc67
       refine co_true h66 rfl ?_
       refine wp_exit ?_
       refine co_thenX ?_
       refine co_thenX ?_
       refine co_blockY (by decide) ?_
       refine co_thenX ?_
       refine co_blockY (by decide) ?_
       refine co_thenX ?_
       refine co_blockY (by decide) ?_
       refine co_thenX ?_
       refine co_blockX ?_
       refine co_then ?_
       refine co_seq ?_
       refine co_reg ?_
       refine pk0 (v := pt N3 1) h66 rfl fun a126 h126 => ?_; clear h66
       refine pk (v := .int .i64 d.n) h126 rfl (rn_load1 rfl rfl Tryz.isAgg3 (hk37.cell rfl)) fun a127 h127 => ?_; clear h126
       refine pk0 (v := pt N23 1) h127 rfl fun a128 h128 => ?_; clear h127
       refine pwD h128 rfl (op_store1 rfl rfl rfl rfl Tryz.sizeOf3 hk31' rfl) ?_; clear h128
       rintro _ w130 a129 ⟨hk131, hz132, hg133⟩ h129
       have hk131' : Blk w130 N23 58 #[.int .i64 d.k, .int .i64 d.n, .int .u64 0, .int .i64 0, .slice none 0 0, .int .u64 0, .slice none 0 0, .int .i64 0, .int .i64 0, .slice none 0 0, .int .u64 0, .int .i64 0, .int .u64 0, .int .i64 0, .int .i64 0, .int .i64 0, .int .i64 0, .int .i64 0] := hk131; clear hk131
       have hz134 := hg133.size
       refine pl_nil ?_
       refine co_then ?_
       refine wp_exit ?_
       refine co_blockY (by decide) ?_
       refine co_thenX ?_
       refine co_blockY (by decide) ?_
       refine co_thenX ?_
       refine co_blockY (by decide) ?_
       refine co_thenX ?_
       refine co_blockX ?_
       refine co_then ?_
       refine co_seq ?_
       refine co_reg ?_
       refine pk (v := .agg #[.int .i64 d.k, .int .i64 d.n, .int .u64 0, .int .i64 0, .slice none 0 0, .int .u64 0, .slice none 0 0, .int .i64 0, .int .i64 0, .slice none 0 0, .int .u64 0, .int .i64 0, .int .u64 0, .int .i64 0, .int .i64 0, .int .i64 0, .int .i64 0, .int .i64 0]) h129 rfl (rn_loadN rfl rfl Tryz.underlying58 rfl (by kernel_rfl) hk131'.all) fun a135 h135 => ?_; clear h129
       have hk141 := hk47.kept hg133 (by simp; omega)
       refine pwD h135 rfl (op_storeN rfl rfl rfl (all_cons rfl (all_cons rfl (all_cons rfl (all_cons rfl (all_cons rfl (all_cons rfl (all_cons rfl (all_cons rfl (all_cons rfl (all_cons rfl (all_cons rfl (all_cons rfl (all_cons rfl (all_cons rfl (all_cons rfl (all_cons rfl (all_cons rfl (all_cons rfl all_nil)))))))))))))))))) (by kernel_rfl) hk141 rfl) ?_; clear h135
       rintro _ w137 a136 ⟨hk138, hz139, hg140⟩ h136
       have hk138' : Blk w137 N11 58 #[.int .i64 d.k, .int .i64 d.n, .int .u64 0, .int .i64 0, .slice none 0 0, .int .u64 0, .slice none 0 0, .int .i64 0, .int .i64 0, .slice none 0 0, .int .u64 0, .int .i64 0, .int .u64 0, .int .i64 0, .int .i64 0, .int .i64 0, .int .i64 0, .int .i64 0] := hk138; clear hk138
       have hz142 := hg140.size
       refine pl_nil ?_
       refine co_then ?_
       refine wp_ret ?_
       refine co_retC (Q := fun _ _ _ => True) h136 rfl rfl hk138' Tryz.underlying58 rfl (by kernel_rfl) ?_
       have hB143 := hb_at hB45 hg133 (by omega)
       have hB144 := hb_at hB143 hg140 (by omega)
       have hcl := cl_5 (d := d) (by omega)
       refine ⟨_, _, _, by rw [hcl]; rfl, ?_, ?_, ?_, hB144⟩
       · rw [hcl]; exact (row_nilL _ _ _ _ _)
       · rw [hcl]; exact (row_nilL _ _ _ _ _)
       · rw [hcl]; exact (row_nilL _ _ _ _ _)
     ·
      rw [hc63] at h62
      have hp145 : d.k = 5 := by first | simpa using hc63 | simpa [and_assoc] using hc63
      clear hc63
      refine co_true h62 rfl ?_
      refine wp_skip ?_
      refine co_then ?_
      refine co_true h62 rfl ?_
      refine wp_exit ?_
      refine co_thenX ?_
      refine co_thenX ?_
      refine co_blockY (by decide) ?_
      refine co_thenX ?_
      refine co_blockY (by decide) ?_
      refine co_thenX ?_
      refine co_blockY (by decide) ?_
      refine co_thenX ?_
      refine co_blockX ?_
      refine co_then ?_
      refine co_seq ?_
      refine co_reg ?_
      refine pk0 (v := pt N3 1) h62 rfl fun a146 h146 => ?_; clear h62
      refine pk (v := .int .i64 d.n) h146 rfl (rn_load1 rfl rfl Tryz.isAgg3 (hk37.cell rfl)) fun a147 h147 => ?_; clear h146
      refine pk0 (v := pt N23 1) h147 rfl fun a148 h148 => ?_; clear h147
      refine pwD h148 rfl (op_store1 rfl rfl rfl rfl Tryz.sizeOf3 hk31' rfl) ?_; clear h148
      rintro _ w150 a149 ⟨hk151, hz152, hg153⟩ h149
      have hk151' : Blk w150 N23 58 #[.int .i64 d.k, .int .i64 d.n, .int .u64 0, .int .i64 0, .slice none 0 0, .int .u64 0, .slice none 0 0, .int .i64 0, .int .i64 0, .slice none 0 0, .int .u64 0, .int .i64 0, .int .u64 0, .int .i64 0, .int .i64 0, .int .i64 0, .int .i64 0, .int .i64 0] := hk151; clear hk151
      have hz154 := hg153.size
      refine pl_nil ?_
      refine co_then ?_
      refine wp_exit ?_
      refine co_blockY (by decide) ?_
      refine co_thenX ?_
      refine co_blockY (by decide) ?_
      refine co_thenX ?_
      refine co_blockY (by decide) ?_
      refine co_thenX ?_
      refine co_blockX ?_
      refine co_then ?_
      refine co_seq ?_
      refine co_reg ?_
      refine pk (v := .agg #[.int .i64 d.k, .int .i64 d.n, .int .u64 0, .int .i64 0, .slice none 0 0, .int .u64 0, .slice none 0 0, .int .i64 0, .int .i64 0, .slice none 0 0, .int .u64 0, .int .i64 0, .int .u64 0, .int .i64 0, .int .i64 0, .int .i64 0, .int .i64 0, .int .i64 0]) h149 rfl (rn_loadN rfl rfl Tryz.underlying58 rfl (by kernel_rfl) hk151'.all) fun a155 h155 => ?_; clear h149
      have hk161 := hk47.kept hg153 (by simp; omega)
      refine pwD h155 rfl (op_storeN rfl rfl rfl (all_cons rfl (all_cons rfl (all_cons rfl (all_cons rfl (all_cons rfl (all_cons rfl (all_cons rfl (all_cons rfl (all_cons rfl (all_cons rfl (all_cons rfl (all_cons rfl (all_cons rfl (all_cons rfl (all_cons rfl (all_cons rfl (all_cons rfl (all_cons rfl all_nil)))))))))))))))))) (by kernel_rfl) hk161 rfl) ?_; clear h155
      rintro _ w157 a156 ⟨hk158, hz159, hg160⟩ h156
      have hk158' : Blk w157 N11 58 #[.int .i64 d.k, .int .i64 d.n, .int .u64 0, .int .i64 0, .slice none 0 0, .int .u64 0, .slice none 0 0, .int .i64 0, .int .i64 0, .slice none 0 0, .int .u64 0, .int .i64 0, .int .u64 0, .int .i64 0, .int .i64 0, .int .i64 0, .int .i64 0, .int .i64 0] := hk158; clear hk158
      have hz162 := hg160.size
      refine pl_nil ?_
      refine co_then ?_
      refine wp_ret ?_
      refine co_retC (Q := fun _ _ _ => True) h156 rfl rfl hk158' Tryz.underlying58 rfl (by kernel_rfl) ?_
      have hB163 := hb_at hB45 hg153 (by omega)
      have hB164 := hb_at hB163 hg160 (by omega)
      have hcl := cl_5 (d := d) (by omega)
      refine ⟨_, _, _, by rw [hcl]; rfl, ?_, ?_, ?_, hB164⟩
      · rw [hcl]; exact (row_nilL _ _ _ _ _)
      · rw [hcl]; exact (row_nilL _ _ _ _ _)
      · rw [hcl]; exact (row_nilL _ _ _ _ _)
    ·
     rw [hc59] at h58
     have hp165 : d.k = 4 := by first | simpa using hc59 | simpa [and_assoc] using hc59
     clear hc59
     refine co_true h58 rfl ?_
     refine wp_exit ?_
     refine co_thenX ?_
     refine co_thenX ?_
     refine co_blockY (by decide) ?_
     refine co_thenX ?_
     refine co_blockY (by decide) ?_
     refine co_thenX ?_
     refine co_blockX ?_
     refine co_then ?_
     refine co_reg ?_
     refine pk0 (v := pt N3 2) h58 rfl fun a166 h166 => ?_; clear h58
     refine pk (v := .int .u64 d.t) h166 rfl (rn_load1 rfl rfl Tryz.isAgg22 (hk37.cell rfl)) fun a167 h167 => ?_; clear h166
     refine pk0 (v := pt N23 2) h167 rfl fun a168 h168 => ?_; clear h167
     refine pwD h168 rfl (op_store1 rfl rfl rfl rfl Tryz.sizeOf22 hk31' rfl) ?_; clear h168
     rintro _ w170 a169 ⟨hk171, hz172, hg173⟩ h169
     have hk171' : Blk w170 N23 58 #[.int .i64 d.k, .int .i64 0, .int .u64 d.t, .int .i64 0, .slice none 0 0, .int .u64 0, .slice none 0 0, .int .i64 0, .int .i64 0, .slice none 0 0, .int .u64 0, .int .i64 0, .int .u64 0, .int .i64 0, .int .i64 0, .int .i64 0, .int .i64 0, .int .i64 0] := hk171; clear hk171
     have hz174 := hg173.size
     refine pl_nil ?_
     refine co_blockN ?_
     refine co_then ?_
     refine co_seq ?_
     refine co_reg ?_
     refine pk0 (v := pt N3 1) h169 rfl fun a175 h175 => ?_; clear h169
     have hk176 := hk37.kept hg173 (by simp; omega)
     refine pk (v := .int .i64 d.n) h175 rfl (rn_load1 rfl rfl Tryz.isAgg3 (hk176.cell rfl)) fun a177 h177 => ?_; clear h175
     refine pk0 (v := pt N23 1) h177 rfl fun a178 h178 => ?_; clear h177
     refine pwD h178 rfl (op_store1 rfl rfl rfl rfl Tryz.sizeOf3 hk171' rfl) ?_; clear h178
     rintro _ w180 a179 ⟨hk181, hz182, hg183⟩ h179
     have hk181' : Blk w180 N23 58 #[.int .i64 d.k, .int .i64 d.n, .int .u64 d.t, .int .i64 0, .slice none 0 0, .int .u64 0, .slice none 0 0, .int .i64 0, .int .i64 0, .slice none 0 0, .int .u64 0, .int .i64 0, .int .u64 0, .int .i64 0, .int .i64 0, .int .i64 0, .int .i64 0, .int .i64 0] := hk181; clear hk181
     have hz184 := hg183.size
     refine pl_nil ?_
     refine co_then ?_
     refine wp_exit ?_
     refine co_blockY (by decide) ?_
     refine co_thenX ?_
     refine co_blockY (by decide) ?_
     refine co_thenX ?_
     refine co_blockY (by decide) ?_
     refine co_thenX ?_
     refine co_blockX ?_
     refine co_then ?_
     refine co_seq ?_
     refine co_reg ?_
     refine pk (v := .agg #[.int .i64 d.k, .int .i64 d.n, .int .u64 d.t, .int .i64 0, .slice none 0 0, .int .u64 0, .slice none 0 0, .int .i64 0, .int .i64 0, .slice none 0 0, .int .u64 0, .int .i64 0, .int .u64 0, .int .i64 0, .int .i64 0, .int .i64 0, .int .i64 0, .int .i64 0]) h179 rfl (rn_loadN rfl rfl Tryz.underlying58 rfl (by kernel_rfl) hk181'.all) fun a185 h185 => ?_; clear h179
     have hk191 := hk47.kept hg173 (by simp; omega)
     have hk192 := hk191.kept hg183 (by simp; omega)
     refine pwD h185 rfl (op_storeN rfl rfl rfl (all_cons rfl (all_cons rfl (all_cons rfl (all_cons rfl (all_cons rfl (all_cons rfl (all_cons rfl (all_cons rfl (all_cons rfl (all_cons rfl (all_cons rfl (all_cons rfl (all_cons rfl (all_cons rfl (all_cons rfl (all_cons rfl (all_cons rfl (all_cons rfl all_nil)))))))))))))))))) (by kernel_rfl) hk192 rfl) ?_; clear h185
     rintro _ w187 a186 ⟨hk188, hz189, hg190⟩ h186
     have hk188' : Blk w187 N11 58 #[.int .i64 d.k, .int .i64 d.n, .int .u64 d.t, .int .i64 0, .slice none 0 0, .int .u64 0, .slice none 0 0, .int .i64 0, .int .i64 0, .slice none 0 0, .int .u64 0, .int .i64 0, .int .u64 0, .int .i64 0, .int .i64 0, .int .i64 0, .int .i64 0, .int .i64 0] := hk188; clear hk188
     have hz193 := hg190.size
     refine pl_nil ?_
     refine co_then ?_
     refine wp_ret ?_
     refine co_retC (Q := fun _ _ _ => True) h186 rfl rfl hk188' Tryz.underlying58 rfl (by kernel_rfl) ?_
     have hB194 := hb_at hB45 hg173 (by omega)
     have hB195 := hb_at hB194 hg183 (by omega)
     have hB196 := hb_at hB195 hg190 (by omega)
     have hcl := cl_3 (d := d) (by omega)
     refine ⟨_, _, _, by rw [hcl]; rfl, ?_, ?_, ?_, hB196⟩
     · rw [hcl]; exact (row_nilL _ _ _ _ _)
     · rw [hcl]; exact (row_nilL _ _ _ _ _)
     · rw [hcl]; exact (row_nilL _ _ _ _ _)
   ·
    rw [hc55] at h54
    have hp197 : d.k = 3 := by first | simpa using hc55 | simpa [and_assoc] using hc55
    clear hc55
    refine co_true h54 rfl ?_
    refine wp_skip ?_
    refine co_then ?_
    refine co_true h54 rfl ?_
    refine wp_exit ?_
    refine co_thenX ?_
    refine co_thenX ?_
    refine co_blockY (by decide) ?_
    refine co_thenX ?_
    refine co_blockY (by decide) ?_
    refine co_thenX ?_
    refine co_blockX ?_
    refine co_then ?_
    refine co_reg ?_
    refine pk0 (v := pt N3 2) h54 rfl fun a198 h198 => ?_; clear h54
    refine pk (v := .int .u64 d.t) h198 rfl (rn_load1 rfl rfl Tryz.isAgg22 (hk37.cell rfl)) fun a199 h199 => ?_; clear h198
    refine pk0 (v := pt N23 2) h199 rfl fun a200 h200 => ?_; clear h199
    refine pwD h200 rfl (op_store1 rfl rfl rfl rfl Tryz.sizeOf22 hk31' rfl) ?_; clear h200
    rintro _ w202 a201 ⟨hk203, hz204, hg205⟩ h201
    have hk203' : Blk w202 N23 58 #[.int .i64 d.k, .int .i64 0, .int .u64 d.t, .int .i64 0, .slice none 0 0, .int .u64 0, .slice none 0 0, .int .i64 0, .int .i64 0, .slice none 0 0, .int .u64 0, .int .i64 0, .int .u64 0, .int .i64 0, .int .i64 0, .int .i64 0, .int .i64 0, .int .i64 0] := hk203; clear hk203
    have hz206 := hg205.size
    refine pl_nil ?_
    refine co_blockN ?_
    refine co_then ?_
    refine co_seq ?_
    refine co_reg ?_
    refine pk0 (v := pt N3 1) h201 rfl fun a207 h207 => ?_; clear h201
    have hk208 := hk37.kept hg205 (by simp; omega)
    refine pk (v := .int .i64 d.n) h207 rfl (rn_load1 rfl rfl Tryz.isAgg3 (hk208.cell rfl)) fun a209 h209 => ?_; clear h207
    refine pk0 (v := pt N23 1) h209 rfl fun a210 h210 => ?_; clear h209
    refine pwD h210 rfl (op_store1 rfl rfl rfl rfl Tryz.sizeOf3 hk203' rfl) ?_; clear h210
    rintro _ w212 a211 ⟨hk213, hz214, hg215⟩ h211
    have hk213' : Blk w212 N23 58 #[.int .i64 d.k, .int .i64 d.n, .int .u64 d.t, .int .i64 0, .slice none 0 0, .int .u64 0, .slice none 0 0, .int .i64 0, .int .i64 0, .slice none 0 0, .int .u64 0, .int .i64 0, .int .u64 0, .int .i64 0, .int .i64 0, .int .i64 0, .int .i64 0, .int .i64 0] := hk213; clear hk213
    have hz216 := hg215.size
    refine pl_nil ?_
    refine co_then ?_
    refine wp_exit ?_
    refine co_blockY (by decide) ?_
    refine co_thenX ?_
    refine co_blockY (by decide) ?_
    refine co_thenX ?_
    refine co_blockY (by decide) ?_
    refine co_thenX ?_
    refine co_blockX ?_
    refine co_then ?_
    refine co_seq ?_
    refine co_reg ?_
    refine pk (v := .agg #[.int .i64 d.k, .int .i64 d.n, .int .u64 d.t, .int .i64 0, .slice none 0 0, .int .u64 0, .slice none 0 0, .int .i64 0, .int .i64 0, .slice none 0 0, .int .u64 0, .int .i64 0, .int .u64 0, .int .i64 0, .int .i64 0, .int .i64 0, .int .i64 0, .int .i64 0]) h211 rfl (rn_loadN rfl rfl Tryz.underlying58 rfl (by kernel_rfl) hk213'.all) fun a217 h217 => ?_; clear h211
    have hk223 := hk47.kept hg205 (by simp; omega)
    have hk224 := hk223.kept hg215 (by simp; omega)
    refine pwD h217 rfl (op_storeN rfl rfl rfl (all_cons rfl (all_cons rfl (all_cons rfl (all_cons rfl (all_cons rfl (all_cons rfl (all_cons rfl (all_cons rfl (all_cons rfl (all_cons rfl (all_cons rfl (all_cons rfl (all_cons rfl (all_cons rfl (all_cons rfl (all_cons rfl (all_cons rfl (all_cons rfl all_nil)))))))))))))))))) (by kernel_rfl) hk224 rfl) ?_; clear h217
    rintro _ w219 a218 ⟨hk220, hz221, hg222⟩ h218
    have hk220' : Blk w219 N11 58 #[.int .i64 d.k, .int .i64 d.n, .int .u64 d.t, .int .i64 0, .slice none 0 0, .int .u64 0, .slice none 0 0, .int .i64 0, .int .i64 0, .slice none 0 0, .int .u64 0, .int .i64 0, .int .u64 0, .int .i64 0, .int .i64 0, .int .i64 0, .int .i64 0, .int .i64 0] := hk220; clear hk220
    have hz225 := hg222.size
    refine pl_nil ?_
    refine co_then ?_
    refine wp_ret ?_
    refine co_retC (Q := fun _ _ _ => True) h218 rfl rfl hk220' Tryz.underlying58 rfl (by kernel_rfl) ?_
    have hB226 := hb_at hB45 hg205 (by omega)
    have hB227 := hb_at hB226 hg215 (by omega)
    have hB228 := hb_at hB227 hg222 (by omega)
    have hcl := cl_3 (d := d) (by omega)
    refine ⟨_, _, _, by rw [hcl]; rfl, ?_, ?_, ?_, hB228⟩
    · rw [hcl]; exact (row_nilL _ _ _ _ _)
    · rw [hcl]; exact (row_nilL _ _ _ _ _)
    · rw [hcl]; exact (row_nilL _ _ _ _ _)
  ·
   rw [hc51] at h50
   have hp229 : d.k = 2 := by first | simpa using hc51 | simpa [and_assoc] using hc51
   clear hc51
   refine co_true h50 rfl ?_
   refine wp_exit ?_
   refine co_thenX ?_
   refine co_thenX ?_
   refine co_blockY (by decide) ?_
   refine co_thenX ?_
   refine co_blockX ?_
   refine co_then ?_
   refine co_seq ?_
   refine dr_gen (fun x => Below w.heap.size w x ∧ Blk x N3 58 #[.int .i64 d.k, .int .i64 d.n, .int .u64 d.t, .int .i64 d.ep, mv, .int .u64 d.fl, lv, .int .i64 d.ec, .int .i64 d.er, ev, .int .u64 d.ets, .int .i64 d.pid, .int .u64 d.pat, .int .i64 d.plf, .int .i64 d.sc, .int .i64 d.sr, .int .i64 d.se, .int .i64 d.sp]) (by kernel_rfl) (fun w230 hg231 => ?_) (fun w230 hg231 => ?_)
   ·
    have hz232 := hg231.size
    have hB233 := hb_new hB45 hg231
    have hk234 := hk37.kept hg231 (by simp)
    exact ⟨hB233, hk234⟩
   have hz235 := hg231.size
   have hB236 := hb_new hB45 hg231
   have hk237 := hk37.kept hg231 (by simp)
   refine dk0 0 (v := pt N3 1) h50 rfl rfl ⟨hB236, hk237⟩ fun a238 h238 => ?_; clear h50
   refine dk0 2 (v := pt N3 7) h238 rfl rfl ⟨hB236, hk237⟩ fun a239 h239 => ?_; clear h238
   refine dr_many [1, 3] (by kernel_rfl) (by simp) ⟨?_, ?_, trivial⟩
   ·
    refine dr_opVal (i := 1) (v := .int .i64 d.n) h239 rfl rfl rfl rfl (by kernel_rfl) rfl (rn_load1 rfl rfl Tryz.isAgg3 (hk237.cell rfl)) ⟨hB236, hk237⟩ (fun a240 h240 => ?_); clear h239
    refine dk0 5 (v := pt N23 1) h240 rfl rfl ⟨hB236, hk237⟩ fun a241 h241 => ?_; clear h240
    refine dr_many [3] (by kernel_rfl) (by simp) ⟨?_, trivial⟩
    ·
     refine dr_opVal (i := 3) (v := .agg #[.int .i64 d.ec, .int .i64 d.er, ev, .int .u64 d.ets]) h241 rfl rfl rfl rfl (by kernel_rfl) rfl (rn_loadN rfl rfl Tryz.underlying52 rfl (by kernel_rfl) (blk_part hk237 7 (by rfl))) ⟨hB236, hk237⟩ (fun a242 h242 => ?_); clear h241
     refine d1 4 h242 rfl rfl (op_call (args := #[.agg #[.int .i64 d.ec, .int .i64 d.er, ev, .int .u64 d.ets]]) (R := fun res xw => ∃ u : Value, res = .agg #[.int .i64 d.ec, .int .i64 d.er, u, .int .u64 d.ets] ∧ xw.ownsRow w230.heap.size 159 3 u d.el.length (d.el.flatMap opE) ∧ Below w230.heap.size w230 xw) rfl rfl rfl (by kernel_rfl) (by kernel_rfl) (Tryz.call87 _ _) (freshEntry_any d.ec d.er ev d.el d.ets w230 (he.below hB236) (by first | omega | (simp; done) | (simp; omega))) (by rintro e x ⟨u, rfl, hq246, hb247⟩; exact ⟨_, rfl, ⟨u, rfl, hq246, hb247⟩⟩)) ?_ ?_; clear h242
     ·
      rintro _ w244 ⟨u245, rfl, hq246, hb247⟩
      have hz248 := hb247.size
      have hl249 := sl_len (row_sl hq246 opE_len)
      have hB250 := hb_call hB236 hb247
      have hk251 := hk237.below hb247
      exact ⟨hB250, hk251⟩
     rintro _ w244 a243 ⟨u245, rfl, hq246, hb247⟩ h243
     have hz248 := hb247.size
     have hl249 := sl_len (row_sl hq246 opE_len)
     have hB250 := hb_call hB236 hb247
     have hk251 := hk237.below hb247
     have hk257 := hk31'.kept hg231 (by simp)
     have hk258 := hk257.below hb247
     refine d1D 6 h243 rfl rfl (op_store1 rfl rfl rfl rfl Tryz.sizeOf3 hk258 rfl) ?_ ?_; clear h243
     ·
      rintro _ w253 ⟨hk254, hz255, hg256⟩
      have hk254' : Blk w253 N23 58 #[.int .i64 d.k, .int .i64 d.n, .int .u64 0, .int .i64 0, .slice none 0 0, .int .u64 0, .slice none 0 0, .int .i64 0, .int .i64 0, .slice none 0 0, .int .u64 0, .int .i64 0, .int .u64 0, .int .i64 0, .int .i64 0, .int .i64 0, .int .i64 0, .int .i64 0] := hk254; clear hk254
      have hz259 := hg256.size
      have hB260 := hb_at hB250 hg256 (by omega)
      have hk261 := hk251.kept hg256 (by simp; omega)
      exact ⟨hB260, hk261⟩
     rintro _ w253 a252 ⟨hk254, hz255, hg256⟩ h252
     have hk254' : Blk w253 N23 58 #[.int .i64 d.k, .int .i64 d.n, .int .u64 0, .int .i64 0, .slice none 0 0, .int .u64 0, .slice none 0 0, .int .i64 0, .int .i64 0, .slice none 0 0, .int .u64 0, .int .i64 0, .int .u64 0, .int .i64 0, .int .i64 0, .int .i64 0, .int .i64 0, .int .i64 0] := hk254; clear hk254
     have hz259 := hg256.size
     have hB260 := hb_at hB250 hg256 (by omega)
     have hk261 := hk251.kept hg256 (by simp; omega)
     refine dk0 7 (v := pt N23 7) h252 rfl rfl ⟨hB260, hk261⟩ fun a262 h262 => ?_; clear h252
     have hr268 := row_kept_at hq246 hg256 (row_ne_lt hq246 (by omega))
     refine d1D 8 h262 rfl rfl (op_storePart (k := 7) (cs' := #[.int .i64 d.k, .int .i64 d.n, .int .u64 0, .int .i64 0, .slice none 0 0, .int .u64 0, .slice none 0 0, .int .i64 d.ec, .int .i64 d.er, u245, .int .u64 d.ets, .int .i64 0, .int .u64 0, .int .i64 0, .int .i64 0, .int .i64 0, .int .i64 0, .int .i64 0]) rfl rfl rfl (all_cons rfl (all_cons rfl (all_cons (row_one hr268) (all_cons rfl all_nil)))) (by kernel_rfl) hk254' rfl rfl) ?_ ?_; clear h262
     ·
      rintro _ w264 ⟨hk265, hz266, hg267⟩
      have hk265' : Blk w264 N23 58 #[.int .i64 d.k, .int .i64 d.n, .int .u64 0, .int .i64 0, .slice none 0 0, .int .u64 0, .slice none 0 0, .int .i64 d.ec, .int .i64 d.er, u245, .int .u64 d.ets, .int .i64 0, .int .u64 0, .int .i64 0, .int .i64 0, .int .i64 0, .int .i64 0, .int .i64 0] := hk265; clear hk265
      have hz269 := hg267.size
      have hB270 := hb_at hB260 hg267 (by omega)
      have hk271 := hk261.kept hg267 (by simp; omega)
      exact ⟨hB270, hk271⟩
     rintro _ w264 a263 ⟨hk265, hz266, hg267⟩ h263
     have hk265' : Blk w264 N23 58 #[.int .i64 d.k, .int .i64 d.n, .int .u64 0, .int .i64 0, .slice none 0 0, .int .u64 0, .slice none 0 0, .int .i64 d.ec, .int .i64 d.er, u245, .int .u64 d.ets, .int .i64 0, .int .u64 0, .int .i64 0, .int .i64 0, .int .i64 0, .int .i64 0, .int .i64 0] := hk265; clear hk265
     have hz269 := hg267.size
     refine dr_done (by kernel_rfl) ?_
     refine co_then ?_
     refine wp_exit ?_
     refine co_blockY (by decide) ?_
     refine co_thenX ?_
     refine co_blockY (by decide) ?_
     refine co_thenX ?_
     refine co_blockY (by decide) ?_
     refine co_thenX ?_
     refine co_blockY (by decide) ?_
     refine co_thenX ?_
     refine co_blockY (by decide) ?_
     refine co_thenX ?_
     refine co_blockX ?_
     refine co_then ?_
     refine co_seq ?_
     refine co_reg ?_
     refine pk (v := .agg #[.int .i64 d.k, .int .i64 d.n, .int .u64 0, .int .i64 0, .slice none 0 0, .int .u64 0, .slice none 0 0, .int .i64 d.ec, .int .i64 d.er, u245, .int .u64 d.ets, .int .i64 0, .int .u64 0, .int .i64 0, .int .i64 0, .int .i64 0, .int .i64 0, .int .i64 0]) h263 rfl (rn_loadN rfl rfl Tryz.underlying58 rfl (by kernel_rfl) hk265'.all) fun a270 h270 => ?_; clear h263
     have hr276 := row_kept_at hr268 hg267 (row_ne_lt hr268 (by omega))
     have hk277 := hk47.kept hg231 (by simp)
     have hk278 := hk277.below hb247
     have hk279 := hk278.kept hg256 (by simp; omega)
     have hk280 := hk279.kept hg267 (by simp; omega)
     refine pwD h270 rfl (op_storeN rfl rfl rfl (all_cons rfl (all_cons rfl (all_cons rfl (all_cons rfl (all_cons rfl (all_cons rfl (all_cons rfl (all_cons rfl (all_cons rfl (all_cons (row_one hr276) (all_cons rfl (all_cons rfl (all_cons rfl (all_cons rfl (all_cons rfl (all_cons rfl (all_cons rfl (all_cons rfl all_nil)))))))))))))))))) (by kernel_rfl) hk280 rfl) ?_; clear h270
     rintro _ w272 a271 ⟨hk273, hz274, hg275⟩ h271
     have hk273' : Blk w272 N11 58 #[.int .i64 d.k, .int .i64 d.n, .int .u64 0, .int .i64 0, .slice none 0 0, .int .u64 0, .slice none 0 0, .int .i64 d.ec, .int .i64 d.er, u245, .int .u64 d.ets, .int .i64 0, .int .u64 0, .int .i64 0, .int .i64 0, .int .i64 0, .int .i64 0, .int .i64 0] := hk273; clear hk273
     have hz281 := hg275.size
     refine pl_nil ?_
     refine co_then ?_
     refine wp_ret ?_
     refine co_retC (Q := fun _ _ _ => True) h271 rfl rfl hk273' Tryz.underlying58 rfl (by kernel_rfl) ?_
     have hB282 := hb_at hB260 hg267 (by omega)
     have hB283 := hb_at hB282 hg275 (by omega)
     have hr284 := row_kept_at hr276 hg275 (row_ne_lt hr276 (by omega))
     have hcl := cl_2 (d := d) (by omega)
     refine ⟨_, _, _, by rw [hcl]; rfl, ?_, ?_, ?_, hB283⟩
     · rw [hcl]; exact (row_nilL _ _ _ _ _)
     · rw [hcl]; exact (row_nilL _ _ _ _ _)
     · rw [hcl]; exact (row_lows hr284 (by omega))
   ·
    refine dr_opVal (i := 3) (v := .agg #[.int .i64 d.ec, .int .i64 d.er, ev, .int .u64 d.ets]) h239 rfl rfl rfl rfl (by kernel_rfl) rfl (rn_loadN rfl rfl Tryz.underlying52 rfl (by kernel_rfl) (blk_part hk237 7 (by rfl))) ⟨hB236, hk237⟩ (fun a285 h285 => ?_); clear h239
    refine dr_many [1, 4] (by kernel_rfl) (by simp) ⟨?_, ?_, trivial⟩
    ·
     refine dr_opVal (i := 1) (v := .int .i64 d.n) h285 rfl rfl rfl rfl (by kernel_rfl) rfl (rn_load1 rfl rfl Tryz.isAgg3 (hk237.cell rfl)) ⟨hB236, hk237⟩ (fun a286 h286 => ?_); clear h285
     refine dk0 5 (v := pt N23 1) h286 rfl rfl ⟨hB236, hk237⟩ fun a287 h287 => ?_; clear h286
     refine d1 4 h287 rfl rfl (op_call (args := #[.agg #[.int .i64 d.ec, .int .i64 d.er, ev, .int .u64 d.ets]]) (R := fun res xw => ∃ u : Value, res = .agg #[.int .i64 d.ec, .int .i64 d.er, u, .int .u64 d.ets] ∧ xw.ownsRow w230.heap.size 159 3 u d.el.length (d.el.flatMap opE) ∧ Below w230.heap.size w230 xw) rfl rfl rfl (by kernel_rfl) (by kernel_rfl) (Tryz.call87 _ _) (freshEntry_any d.ec d.er ev d.el d.ets w230 (he.below hB236) (by first | omega | (simp; done) | (simp; omega))) (by rintro e x ⟨u, rfl, hq291, hb292⟩; exact ⟨_, rfl, ⟨u, rfl, hq291, hb292⟩⟩)) ?_ ?_; clear h287
     ·
      rintro _ w289 ⟨u290, rfl, hq291, hb292⟩
      have hz293 := hb292.size
      have hl294 := sl_len (row_sl hq291 opE_len)
      have hB295 := hb_call hB236 hb292
      have hk296 := hk237.below hb292
      exact ⟨hB295, hk296⟩
     rintro _ w289 a288 ⟨u290, rfl, hq291, hb292⟩ h288
     have hz293 := hb292.size
     have hl294 := sl_len (row_sl hq291 opE_len)
     have hB295 := hb_call hB236 hb292
     have hk296 := hk237.below hb292
     have hk302 := hk31'.kept hg231 (by simp)
     have hk303 := hk302.below hb292
     refine d1D 6 h288 rfl rfl (op_store1 rfl rfl rfl rfl Tryz.sizeOf3 hk303 rfl) ?_ ?_; clear h288
     ·
      rintro _ w298 ⟨hk299, hz300, hg301⟩
      have hk299' : Blk w298 N23 58 #[.int .i64 d.k, .int .i64 d.n, .int .u64 0, .int .i64 0, .slice none 0 0, .int .u64 0, .slice none 0 0, .int .i64 0, .int .i64 0, .slice none 0 0, .int .u64 0, .int .i64 0, .int .u64 0, .int .i64 0, .int .i64 0, .int .i64 0, .int .i64 0, .int .i64 0] := hk299; clear hk299
      have hz304 := hg301.size
      have hB305 := hb_at hB295 hg301 (by omega)
      have hk306 := hk296.kept hg301 (by simp; omega)
      exact ⟨hB305, hk306⟩
     rintro _ w298 a297 ⟨hk299, hz300, hg301⟩ h297
     have hk299' : Blk w298 N23 58 #[.int .i64 d.k, .int .i64 d.n, .int .u64 0, .int .i64 0, .slice none 0 0, .int .u64 0, .slice none 0 0, .int .i64 0, .int .i64 0, .slice none 0 0, .int .u64 0, .int .i64 0, .int .u64 0, .int .i64 0, .int .i64 0, .int .i64 0, .int .i64 0, .int .i64 0] := hk299; clear hk299
     have hz304 := hg301.size
     have hB305 := hb_at hB295 hg301 (by omega)
     have hk306 := hk296.kept hg301 (by simp; omega)
     refine dk0 7 (v := pt N23 7) h297 rfl rfl ⟨hB305, hk306⟩ fun a307 h307 => ?_; clear h297
     have hr313 := row_kept_at hq291 hg301 (row_ne_lt hq291 (by omega))
     refine d1D 8 h307 rfl rfl (op_storePart (k := 7) (cs' := #[.int .i64 d.k, .int .i64 d.n, .int .u64 0, .int .i64 0, .slice none 0 0, .int .u64 0, .slice none 0 0, .int .i64 d.ec, .int .i64 d.er, u290, .int .u64 d.ets, .int .i64 0, .int .u64 0, .int .i64 0, .int .i64 0, .int .i64 0, .int .i64 0, .int .i64 0]) rfl rfl rfl (all_cons rfl (all_cons rfl (all_cons (row_one hr313) (all_cons rfl all_nil)))) (by kernel_rfl) hk299' rfl rfl) ?_ ?_; clear h307
     ·
      rintro _ w309 ⟨hk310, hz311, hg312⟩
      have hk310' : Blk w309 N23 58 #[.int .i64 d.k, .int .i64 d.n, .int .u64 0, .int .i64 0, .slice none 0 0, .int .u64 0, .slice none 0 0, .int .i64 d.ec, .int .i64 d.er, u290, .int .u64 d.ets, .int .i64 0, .int .u64 0, .int .i64 0, .int .i64 0, .int .i64 0, .int .i64 0, .int .i64 0] := hk310; clear hk310
      have hz314 := hg312.size
      have hB315 := hb_at hB305 hg312 (by omega)
      have hk316 := hk306.kept hg312 (by simp; omega)
      exact ⟨hB315, hk316⟩
     rintro _ w309 a308 ⟨hk310, hz311, hg312⟩ h308
     have hk310' : Blk w309 N23 58 #[.int .i64 d.k, .int .i64 d.n, .int .u64 0, .int .i64 0, .slice none 0 0, .int .u64 0, .slice none 0 0, .int .i64 d.ec, .int .i64 d.er, u290, .int .u64 d.ets, .int .i64 0, .int .u64 0, .int .i64 0, .int .i64 0, .int .i64 0, .int .i64 0, .int .i64 0] := hk310; clear hk310
     have hz314 := hg312.size
     refine dr_done (by kernel_rfl) ?_
     refine co_then ?_
     refine wp_exit ?_
     refine co_blockY (by decide) ?_
     refine co_thenX ?_
     refine co_blockY (by decide) ?_
     refine co_thenX ?_
     refine co_blockY (by decide) ?_
     refine co_thenX ?_
     refine co_blockY (by decide) ?_
     refine co_thenX ?_
     refine co_blockY (by decide) ?_
     refine co_thenX ?_
     refine co_blockX ?_
     refine co_then ?_
     refine co_seq ?_
     refine co_reg ?_
     refine pk (v := .agg #[.int .i64 d.k, .int .i64 d.n, .int .u64 0, .int .i64 0, .slice none 0 0, .int .u64 0, .slice none 0 0, .int .i64 d.ec, .int .i64 d.er, u290, .int .u64 d.ets, .int .i64 0, .int .u64 0, .int .i64 0, .int .i64 0, .int .i64 0, .int .i64 0, .int .i64 0]) h308 rfl (rn_loadN rfl rfl Tryz.underlying58 rfl (by kernel_rfl) hk310'.all) fun a315 h315 => ?_; clear h308
     have hr321 := row_kept_at hr313 hg312 (row_ne_lt hr313 (by omega))
     have hk322 := hk47.kept hg231 (by simp)
     have hk323 := hk322.below hb292
     have hk324 := hk323.kept hg301 (by simp; omega)
     have hk325 := hk324.kept hg312 (by simp; omega)
     refine pwD h315 rfl (op_storeN rfl rfl rfl (all_cons rfl (all_cons rfl (all_cons rfl (all_cons rfl (all_cons rfl (all_cons rfl (all_cons rfl (all_cons rfl (all_cons rfl (all_cons (row_one hr321) (all_cons rfl (all_cons rfl (all_cons rfl (all_cons rfl (all_cons rfl (all_cons rfl (all_cons rfl (all_cons rfl all_nil)))))))))))))))))) (by kernel_rfl) hk325 rfl) ?_; clear h315
     rintro _ w317 a316 ⟨hk318, hz319, hg320⟩ h316
     have hk318' : Blk w317 N11 58 #[.int .i64 d.k, .int .i64 d.n, .int .u64 0, .int .i64 0, .slice none 0 0, .int .u64 0, .slice none 0 0, .int .i64 d.ec, .int .i64 d.er, u290, .int .u64 d.ets, .int .i64 0, .int .u64 0, .int .i64 0, .int .i64 0, .int .i64 0, .int .i64 0, .int .i64 0] := hk318; clear hk318
     have hz326 := hg320.size
     refine pl_nil ?_
     refine co_then ?_
     refine wp_ret ?_
     refine co_retC (Q := fun _ _ _ => True) h316 rfl rfl hk318' Tryz.underlying58 rfl (by kernel_rfl) ?_
     have hB327 := hb_at hB305 hg312 (by omega)
     have hB328 := hb_at hB327 hg320 (by omega)
     have hr329 := row_kept_at hr321 hg320 (row_ne_lt hr321 (by omega))
     have hcl := cl_2 (d := d) (by omega)
     refine ⟨_, _, _, by rw [hcl]; rfl, ?_, ?_, ?_, hB328⟩
     · rw [hcl]; exact (row_nilL _ _ _ _ _)
     · rw [hcl]; exact (row_nilL _ _ _ _ _)
     · rw [hcl]; exact (row_lows hr329 (by omega))
    ·
     refine dr_op (i := 4) h285 rfl rfl rfl rfl (op_call (args := #[.agg #[.int .i64 d.ec, .int .i64 d.er, ev, .int .u64 d.ets]]) (R := fun res xw => ∃ u : Value, res = .agg #[.int .i64 d.ec, .int .i64 d.er, u, .int .u64 d.ets] ∧ xw.ownsRow w230.heap.size 159 3 u d.el.length (d.el.flatMap opE) ∧ Below w230.heap.size w230 xw) rfl rfl rfl (by kernel_rfl) (by kernel_rfl) (Tryz.call87 _ _) (freshEntry_any d.ec d.er ev d.el d.ets w230 (he.below hB236) (by first | omega | (simp; done) | (simp; omega))) (by rintro e x ⟨u, rfl, hq333, hb334⟩; exact ⟨_, rfl, ⟨u, rfl, hq333, hb334⟩⟩)) ?_ ?_; clear h285
     ·
      rintro _ w331 ⟨u332, rfl, hq333, hb334⟩
      have hz335 := hb334.size
      have hl336 := sl_len (row_sl hq333 opE_len)
      have hB337 := hb_call hB236 hb334
      have hk338 := hk237.below hb334
      exact ⟨hB337, hk338⟩
     rintro _ w331 a330 ⟨u332, rfl, hq333, hb334⟩ h330
     have hz335 := hb334.size
     have hl336 := sl_len (row_sl hq333 opE_len)
     have hB337 := hb_call hB236 hb334
     have hk338 := hk237.below hb334
     refine dr_many [1] (by kernel_rfl) (by simp) ⟨?_, trivial⟩
     ·
      refine dr_opVal (i := 1) (v := .int .i64 d.n) h330 rfl rfl rfl rfl (by kernel_rfl) rfl (rn_load1 rfl rfl Tryz.isAgg3 (hk338.cell rfl)) ⟨hB337, hk338⟩ (fun a339 h339 => ?_); clear h330
      refine dk0 5 (v := pt N23 1) h339 rfl rfl ⟨hB337, hk338⟩ fun a340 h340 => ?_; clear h339
      have hk346 := hk31'.kept hg231 (by simp)
      have hk347 := hk346.below hb334
      refine d1D 6 h340 rfl rfl (op_store1 rfl rfl rfl rfl Tryz.sizeOf3 hk347 rfl) ?_ ?_; clear h340
      ·
       rintro _ w342 ⟨hk343, hz344, hg345⟩
       have hk343' : Blk w342 N23 58 #[.int .i64 d.k, .int .i64 d.n, .int .u64 0, .int .i64 0, .slice none 0 0, .int .u64 0, .slice none 0 0, .int .i64 0, .int .i64 0, .slice none 0 0, .int .u64 0, .int .i64 0, .int .u64 0, .int .i64 0, .int .i64 0, .int .i64 0, .int .i64 0, .int .i64 0] := hk343; clear hk343
       have hz348 := hg345.size
       have hB349 := hb_at hB337 hg345 (by omega)
       have hk350 := hk338.kept hg345 (by simp; omega)
       exact ⟨hB349, hk350⟩
      rintro _ w342 a341 ⟨hk343, hz344, hg345⟩ h341
      have hk343' : Blk w342 N23 58 #[.int .i64 d.k, .int .i64 d.n, .int .u64 0, .int .i64 0, .slice none 0 0, .int .u64 0, .slice none 0 0, .int .i64 0, .int .i64 0, .slice none 0 0, .int .u64 0, .int .i64 0, .int .u64 0, .int .i64 0, .int .i64 0, .int .i64 0, .int .i64 0, .int .i64 0] := hk343; clear hk343
      have hz348 := hg345.size
      have hB349 := hb_at hB337 hg345 (by omega)
      have hk350 := hk338.kept hg345 (by simp; omega)
      refine dk0 7 (v := pt N23 7) h341 rfl rfl ⟨hB349, hk350⟩ fun a351 h351 => ?_; clear h341
      have hr357 := row_kept_at hq333 hg345 (row_ne_lt hq333 (by omega))
      refine d1D 8 h351 rfl rfl (op_storePart (k := 7) (cs' := #[.int .i64 d.k, .int .i64 d.n, .int .u64 0, .int .i64 0, .slice none 0 0, .int .u64 0, .slice none 0 0, .int .i64 d.ec, .int .i64 d.er, u332, .int .u64 d.ets, .int .i64 0, .int .u64 0, .int .i64 0, .int .i64 0, .int .i64 0, .int .i64 0, .int .i64 0]) rfl rfl rfl (all_cons rfl (all_cons rfl (all_cons (row_one hr357) (all_cons rfl all_nil)))) (by kernel_rfl) hk343' rfl rfl) ?_ ?_; clear h351
      ·
       rintro _ w353 ⟨hk354, hz355, hg356⟩
       have hk354' : Blk w353 N23 58 #[.int .i64 d.k, .int .i64 d.n, .int .u64 0, .int .i64 0, .slice none 0 0, .int .u64 0, .slice none 0 0, .int .i64 d.ec, .int .i64 d.er, u332, .int .u64 d.ets, .int .i64 0, .int .u64 0, .int .i64 0, .int .i64 0, .int .i64 0, .int .i64 0, .int .i64 0] := hk354; clear hk354
       have hz358 := hg356.size
       have hB359 := hb_at hB349 hg356 (by omega)
       have hk360 := hk350.kept hg356 (by simp; omega)
       exact ⟨hB359, hk360⟩
      rintro _ w353 a352 ⟨hk354, hz355, hg356⟩ h352
      have hk354' : Blk w353 N23 58 #[.int .i64 d.k, .int .i64 d.n, .int .u64 0, .int .i64 0, .slice none 0 0, .int .u64 0, .slice none 0 0, .int .i64 d.ec, .int .i64 d.er, u332, .int .u64 d.ets, .int .i64 0, .int .u64 0, .int .i64 0, .int .i64 0, .int .i64 0, .int .i64 0, .int .i64 0] := hk354; clear hk354
      have hz358 := hg356.size
      refine dr_done (by kernel_rfl) ?_
      refine co_then ?_
      refine wp_exit ?_
      refine co_blockY (by decide) ?_
      refine co_thenX ?_
      refine co_blockY (by decide) ?_
      refine co_thenX ?_
      refine co_blockY (by decide) ?_
      refine co_thenX ?_
      refine co_blockY (by decide) ?_
      refine co_thenX ?_
      refine co_blockY (by decide) ?_
      refine co_thenX ?_
      refine co_blockX ?_
      refine co_then ?_
      refine co_seq ?_
      refine co_reg ?_
      refine pk (v := .agg #[.int .i64 d.k, .int .i64 d.n, .int .u64 0, .int .i64 0, .slice none 0 0, .int .u64 0, .slice none 0 0, .int .i64 d.ec, .int .i64 d.er, u332, .int .u64 d.ets, .int .i64 0, .int .u64 0, .int .i64 0, .int .i64 0, .int .i64 0, .int .i64 0, .int .i64 0]) h352 rfl (rn_loadN rfl rfl Tryz.underlying58 rfl (by kernel_rfl) hk354'.all) fun a359 h359 => ?_; clear h352
      have hr365 := row_kept_at hr357 hg356 (row_ne_lt hr357 (by omega))
      have hk366 := hk47.kept hg231 (by simp)
      have hk367 := hk366.below hb334
      have hk368 := hk367.kept hg345 (by simp; omega)
      have hk369 := hk368.kept hg356 (by simp; omega)
      refine pwD h359 rfl (op_storeN rfl rfl rfl (all_cons rfl (all_cons rfl (all_cons rfl (all_cons rfl (all_cons rfl (all_cons rfl (all_cons rfl (all_cons rfl (all_cons rfl (all_cons (row_one hr365) (all_cons rfl (all_cons rfl (all_cons rfl (all_cons rfl (all_cons rfl (all_cons rfl (all_cons rfl (all_cons rfl all_nil)))))))))))))))))) (by kernel_rfl) hk369 rfl) ?_; clear h359
      rintro _ w361 a360 ⟨hk362, hz363, hg364⟩ h360
      have hk362' : Blk w361 N11 58 #[.int .i64 d.k, .int .i64 d.n, .int .u64 0, .int .i64 0, .slice none 0 0, .int .u64 0, .slice none 0 0, .int .i64 d.ec, .int .i64 d.er, u332, .int .u64 d.ets, .int .i64 0, .int .u64 0, .int .i64 0, .int .i64 0, .int .i64 0, .int .i64 0, .int .i64 0] := hk362; clear hk362
      have hz370 := hg364.size
      refine pl_nil ?_
      refine co_then ?_
      refine wp_ret ?_
      refine co_retC (Q := fun _ _ _ => True) h360 rfl rfl hk362' Tryz.underlying58 rfl (by kernel_rfl) ?_
      have hB371 := hb_at hB349 hg356 (by omega)
      have hB372 := hb_at hB371 hg364 (by omega)
      have hr373 := row_kept_at hr365 hg364 (row_ne_lt hr365 (by omega))
      have hcl := cl_2 (d := d) (by omega)
      refine ⟨_, _, _, by rw [hcl]; rfl, ?_, ?_, ?_, hB372⟩
      · rw [hcl]; exact (row_nilL _ _ _ _ _)
      · rw [hcl]; exact (row_nilL _ _ _ _ _)
      · rw [hcl]; exact (row_lows hr373 (by omega))
 ·
  rw [hc41] at h40
  have hp374 : d.k = 1 := by first | simpa using hc41 | simpa [and_assoc] using hc41
  clear hc41
  refine co_true h40 rfl ?_
  refine wp_exit ?_
  refine co_thenX ?_
  refine co_thenX ?_
  refine co_blockX ?_
  refine co_then ?_
  refine co_seq ?_
  refine dr_gen (fun x => Below w.heap.size w x ∧ Blk x N3 58 #[.int .i64 d.k, .int .i64 d.n, .int .u64 d.t, .int .i64 d.ep, mv, .int .u64 d.fl, lv, .int .i64 d.ec, .int .i64 d.er, ev, .int .u64 d.ets, .int .i64 d.pid, .int .u64 d.pat, .int .i64 d.plf, .int .i64 d.sc, .int .i64 d.sr, .int .i64 d.se, .int .i64 d.sp]) (by kernel_rfl) (fun w375 hg376 => ?_) (fun w375 hg376 => ?_)
  ·
   have hz377 := hg376.size
   have hB378 := hb_new hB45 hg376
   have hk379 := hk37.kept hg376 (by simp)
   exact ⟨hB378, hk379⟩
  have hz380 := hg376.size
  have hB381 := hb_new hB45 hg376
  have hk382 := hk37.kept hg376 (by simp)
  refine dk0 0 (v := pt N3 3) h40 rfl rfl ⟨hB381, hk382⟩ fun a383 h383 => ?_; clear h40
  refine dk0 3 (v := pt N3 6) h383 rfl rfl ⟨hB381, hk382⟩ fun a384 h384 => ?_; clear h383
  refine dr_many [1, 4] (by kernel_rfl) (by simp) ⟨?_, ?_, trivial⟩
  ·
   refine dr_opVal (i := 1) (v := .agg #[.int .i64 d.ep, mv, .int .u64 d.fl]) h384 rfl rfl rfl rfl (by kernel_rfl) rfl (rn_loadN rfl rfl Tryz.underlying26 rfl (by kernel_rfl) (blk_part hk382 3 (by rfl))) ⟨hB381, hk382⟩ (fun a385 h385 => ?_); clear h384
   refine dr_many [2, 4] (by kernel_rfl) (by simp) ⟨?_, ?_, trivial⟩
   ·
    refine dr_op (i := 2) h385 rfl rfl rfl rfl (op_call (args := #[.agg #[.int .i64 d.ep, mv, .int .u64 d.fl]]) (R := fun res xw => ∃ u : Value, res = .agg #[.int .i64 d.ep, u, .int .u64 d.fl] ∧ xw.ownsRow w375.heap.size 154 2 u d.ms.length (d.ms.flatMap memE) ∧ Below w375.heap.size w375 xw) rfl rfl rfl (by kernel_rfl) (by kernel_rfl) (Tryz.call48 _ _) (freshConf_any d.ep mv d.ms d.fl w375 (hm.below hB381) (by first | omega | (simp; done) | (simp; omega)) (by first | omega | (simp; done) | (simp; omega)) (by first | omega | (simp; done) | (simp; omega))) (by rintro e x ⟨u, rfl, hq389, hb390⟩; exact ⟨_, rfl, ⟨u, rfl, hq389, hb390⟩⟩)) ?_ ?_; clear h385
    ·
     rintro _ w387 ⟨u388, rfl, hq389, hb390⟩
     have hz391 := hb390.size
     have hl392 := sl_len (row_sl hq389 memE_len)
     have hB393 := hb_call hB381 hb390
     have hk394 := hk382.below hb390
     exact ⟨hB393, hk394⟩
    rintro _ w387 a386 ⟨u388, rfl, hq389, hb390⟩ h386
    have hz391 := hb390.size
    have hl392 := sl_len (row_sl hq389 memE_len)
    have hB393 := hb_call hB381 hb390
    have hk394 := hk382.below hb390
    refine dk0 6 (v := pt N23 3) h386 rfl rfl ⟨hB393, hk394⟩ fun a395 h395 => ?_; clear h386
    refine dr_many [4] (by kernel_rfl) (by simp) ⟨?_, trivial⟩
    ·
     refine dr_opVal (i := 4) (v := lv) h395 rfl rfl rfl rfl (by kernel_rfl) rfl (rn_load1 rfl rfl Tryz.isAgg50 (hk394.cell rfl)) ⟨hB393, hk394⟩ (fun a396 h396 => ?_); clear h395
     refine d1 5 h396 rfl rfl (op_call (args := #[lv]) (R := fun res xw => ∃ u : Value, res = u ∧ xw.ownsRow w387.heap.size 3 1 u d.lg.length (d.lg.flatMap (intE .i64)) ∧ Below w387.heap.size w387 xw) rfl rfl rfl (by kernel_rfl) (by kernel_rfl) (Tryz.call86 _ _) (cloneI_any lv d.lg w387 (hg.below hB393) (by first | omega | (simp; done) | (simp; omega))) (by rintro e x ⟨u, rfl, hq400, hb401⟩; exact ⟨_, rfl, ⟨u, rfl, hq400, hb401⟩⟩)) ?_ ?_; clear h396
     ·
      rintro u399 w398 ⟨_, rfl, hq400, hb401⟩
      have hz402 := hb401.size
      have hl403 := sl_len (row_sl hq400 (intE_len .i64))
      have hB404 := hb_call hB393 hb401
      have hk405 := hk394.below hb401
      exact ⟨hB404, hk405⟩
     rintro u399 w398 a397 ⟨_, rfl, hq400, hb401⟩ h397
     have hz402 := hb401.size
     have hl403 := sl_len (row_sl hq400 (intE_len .i64))
     have hB404 := hb_call hB393 hb401
     have hk405 := hk394.below hb401
     have hr411 := row_kept_new hq389 (below_grown hb401)
     have hk412 := hk31'.kept hg376 (by simp)
     have hk413 := hk412.below hb390
     have hk414 := hk413.below hb401
     refine d1D 7 h397 rfl rfl (op_storePart (k := 3) (cs' := #[.int .i64 d.k, .int .i64 0, .int .u64 0, .int .i64 d.ep, u388, .int .u64 d.fl, .slice none 0 0, .int .i64 0, .int .i64 0, .slice none 0 0, .int .u64 0, .int .i64 0, .int .u64 0, .int .i64 0, .int .i64 0, .int .i64 0, .int .i64 0, .int .i64 0]) rfl rfl rfl (all_cons rfl (all_cons (row_one hr411) (all_cons rfl all_nil))) (by kernel_rfl) hk414 rfl rfl) ?_ ?_; clear h397
     ·
      rintro _ w407 ⟨hk408, hz409, hg410⟩
      have hk408' : Blk w407 N23 58 #[.int .i64 d.k, .int .i64 0, .int .u64 0, .int .i64 d.ep, u388, .int .u64 d.fl, .slice none 0 0, .int .i64 0, .int .i64 0, .slice none 0 0, .int .u64 0, .int .i64 0, .int .u64 0, .int .i64 0, .int .i64 0, .int .i64 0, .int .i64 0, .int .i64 0] := hk408; clear hk408
      have hz415 := hg410.size
      have hB416 := hb_at hB404 hg410 (by omega)
      have hk417 := hk405.kept hg410 (by simp; omega)
      exact ⟨hB416, hk417⟩
     rintro _ w407 a406 ⟨hk408, hz409, hg410⟩ h406
     have hk408' : Blk w407 N23 58 #[.int .i64 d.k, .int .i64 0, .int .u64 0, .int .i64 d.ep, u388, .int .u64 d.fl, .slice none 0 0, .int .i64 0, .int .i64 0, .slice none 0 0, .int .u64 0, .int .i64 0, .int .u64 0, .int .i64 0, .int .i64 0, .int .i64 0, .int .i64 0, .int .i64 0] := hk408; clear hk408
     have hz415 := hg410.size
     have hB416 := hb_at hB404 hg410 (by omega)
     have hk417 := hk405.kept hg410 (by simp; omega)
     refine dk0 8 (v := pt N23 6) h406 rfl rfl ⟨hB416, hk417⟩ fun a418 h418 => ?_; clear h406
     have hr424 := row_kept_at hq400 hg410 (row_ne_lt hq400 (by omega))
     refine d1D 9 h418 rfl rfl (op_store1 rfl rfl rfl (row_one hr424) Tryz.sizeOf50 hk408' rfl) ?_ ?_; clear h418
     ·
      rintro _ w420 ⟨hk421, hz422, hg423⟩
      have hk421' : Blk w420 N23 58 #[.int .i64 d.k, .int .i64 0, .int .u64 0, .int .i64 d.ep, u388, .int .u64 d.fl, u399, .int .i64 0, .int .i64 0, .slice none 0 0, .int .u64 0, .int .i64 0, .int .u64 0, .int .i64 0, .int .i64 0, .int .i64 0, .int .i64 0, .int .i64 0] := hk421; clear hk421
      have hz425 := hg423.size
      have hB426 := hb_at hB416 hg423 (by omega)
      have hk427 := hk417.kept hg423 (by simp; omega)
      exact ⟨hB426, hk427⟩
     rintro _ w420 a419 ⟨hk421, hz422, hg423⟩ h419
     have hk421' : Blk w420 N23 58 #[.int .i64 d.k, .int .i64 0, .int .u64 0, .int .i64 d.ep, u388, .int .u64 d.fl, u399, .int .i64 0, .int .i64 0, .slice none 0 0, .int .u64 0, .int .i64 0, .int .u64 0, .int .i64 0, .int .i64 0, .int .i64 0, .int .i64 0, .int .i64 0] := hk421; clear hk421
     have hz425 := hg423.size
     refine dr_done (by kernel_rfl) ?_
     refine co_then ?_
     refine wp_exit ?_
     refine co_blockY (by decide) ?_
     refine co_thenX ?_
     refine co_blockY (by decide) ?_
     refine co_thenX ?_
     refine co_blockY (by decide) ?_
     refine co_thenX ?_
     refine co_blockY (by decide) ?_
     refine co_thenX ?_
     refine co_blockY (by decide) ?_
     refine co_thenX ?_
     refine co_blockY (by decide) ?_
     refine co_thenX ?_
     refine co_blockX ?_
     refine co_then ?_
     refine co_seq ?_
     refine co_reg ?_
     refine pk (v := .agg #[.int .i64 d.k, .int .i64 0, .int .u64 0, .int .i64 d.ep, u388, .int .u64 d.fl, u399, .int .i64 0, .int .i64 0, .slice none 0 0, .int .u64 0, .int .i64 0, .int .u64 0, .int .i64 0, .int .i64 0, .int .i64 0, .int .i64 0, .int .i64 0]) h419 rfl (rn_loadN rfl rfl Tryz.underlying58 rfl (by kernel_rfl) hk421'.all) fun a426 h426 => ?_; clear h419
     have hr432 := row_kept_at hr424 hg423 (row_ne_lt hr424 (by omega))
     have hr433 := row_kept_at hr411 hg410 (row_ne_lt hr411 (by omega))
     have hr434 := row_kept_at hr433 hg423 (row_ne_lt hr433 (by omega))
     have hk435 := hk47.kept hg376 (by simp)
     have hk436 := hk435.below hb390
     have hk437 := hk436.below hb401
     have hk438 := hk437.kept hg410 (by simp; omega)
     have hk439 := hk438.kept hg423 (by simp; omega)
     refine pwD h426 rfl (op_storeN rfl rfl rfl (all_cons rfl (all_cons rfl (all_cons rfl (all_cons rfl (all_cons (row_one hr434) (all_cons rfl (all_cons (row_one hr432) (all_cons rfl (all_cons rfl (all_cons rfl (all_cons rfl (all_cons rfl (all_cons rfl (all_cons rfl (all_cons rfl (all_cons rfl (all_cons rfl (all_cons rfl all_nil)))))))))))))))))) (by kernel_rfl) hk439 rfl) ?_; clear h426
     rintro _ w428 a427 ⟨hk429, hz430, hg431⟩ h427
     have hk429' : Blk w428 N11 58 #[.int .i64 d.k, .int .i64 0, .int .u64 0, .int .i64 d.ep, u388, .int .u64 d.fl, u399, .int .i64 0, .int .i64 0, .slice none 0 0, .int .u64 0, .int .i64 0, .int .u64 0, .int .i64 0, .int .i64 0, .int .i64 0, .int .i64 0, .int .i64 0] := hk429; clear hk429
     have hz440 := hg431.size
     refine pl_nil ?_
     refine co_then ?_
     refine wp_ret ?_
     refine co_retC (Q := fun _ _ _ => True) h427 rfl rfl hk429' Tryz.underlying58 rfl (by kernel_rfl) ?_
     have hB441 := hb_at hB416 hg423 (by omega)
     have hB442 := hb_at hB441 hg431 (by omega)
     have hr443 := row_kept_at hr434 hg431 (row_ne_lt hr434 (by omega))
     have hr444 := row_kept_at hr432 hg431 (row_ne_lt hr432 (by omega))
     have hcl := cl_1 (d := d) (by omega)
     refine ⟨_, _, _, by rw [hcl]; rfl, ?_, ?_, ?_, hB442⟩
     · rw [hcl]; exact (row_lows hr443 (by omega))
     · rw [hcl]; exact (row_lows hr444 (by omega))
     · rw [hcl]; exact (row_nilL _ _ _ _ _)
   ·
    refine dr_opVal (i := 4) (v := lv) h385 rfl rfl rfl rfl (by kernel_rfl) rfl (rn_load1 rfl rfl Tryz.isAgg50 (hk382.cell rfl)) ⟨hB381, hk382⟩ (fun a445 h445 => ?_); clear h385
    refine d1 2 h445 rfl rfl (op_call (args := #[.agg #[.int .i64 d.ep, mv, .int .u64 d.fl]]) (R := fun res xw => ∃ u : Value, res = .agg #[.int .i64 d.ep, u, .int .u64 d.fl] ∧ xw.ownsRow w375.heap.size 154 2 u d.ms.length (d.ms.flatMap memE) ∧ Below w375.heap.size w375 xw) rfl rfl rfl (by kernel_rfl) (by kernel_rfl) (Tryz.call48 _ _) (freshConf_any d.ep mv d.ms d.fl w375 (hm.below hB381) (by first | omega | (simp; done) | (simp; omega)) (by first | omega | (simp; done) | (simp; omega)) (by first | omega | (simp; done) | (simp; omega))) (by rintro e x ⟨u, rfl, hq449, hb450⟩; exact ⟨_, rfl, ⟨u, rfl, hq449, hb450⟩⟩)) ?_ ?_; clear h445
    ·
     rintro _ w447 ⟨u448, rfl, hq449, hb450⟩
     have hz451 := hb450.size
     have hl452 := sl_len (row_sl hq449 memE_len)
     have hB453 := hb_call hB381 hb450
     have hk454 := hk382.below hb450
     exact ⟨hB453, hk454⟩
    rintro _ w447 a446 ⟨u448, rfl, hq449, hb450⟩ h446
    have hz451 := hb450.size
    have hl452 := sl_len (row_sl hq449 memE_len)
    have hB453 := hb_call hB381 hb450
    have hk454 := hk382.below hb450
    refine dk0 6 (v := pt N23 3) h446 rfl rfl ⟨hB453, hk454⟩ fun a455 h455 => ?_; clear h446
    refine d1 5 h455 rfl rfl (op_call (args := #[lv]) (R := fun res xw => ∃ u : Value, res = u ∧ xw.ownsRow w447.heap.size 3 1 u d.lg.length (d.lg.flatMap (intE .i64)) ∧ Below w447.heap.size w447 xw) rfl rfl rfl (by kernel_rfl) (by kernel_rfl) (Tryz.call86 _ _) (cloneI_any lv d.lg w447 (hg.below hB453) (by first | omega | (simp; done) | (simp; omega))) (by rintro e x ⟨u, rfl, hq459, hb460⟩; exact ⟨_, rfl, ⟨u, rfl, hq459, hb460⟩⟩)) ?_ ?_; clear h455
    ·
     rintro u458 w457 ⟨_, rfl, hq459, hb460⟩
     have hz461 := hb460.size
     have hl462 := sl_len (row_sl hq459 (intE_len .i64))
     have hB463 := hb_call hB453 hb460
     have hk464 := hk454.below hb460
     exact ⟨hB463, hk464⟩
    rintro u458 w457 a456 ⟨_, rfl, hq459, hb460⟩ h456
    have hz461 := hb460.size
    have hl462 := sl_len (row_sl hq459 (intE_len .i64))
    have hB463 := hb_call hB453 hb460
    have hk464 := hk454.below hb460
    have hr470 := row_kept_new hq449 (below_grown hb460)
    have hk471 := hk31'.kept hg376 (by simp)
    have hk472 := hk471.below hb450
    have hk473 := hk472.below hb460
    refine d1D 7 h456 rfl rfl (op_storePart (k := 3) (cs' := #[.int .i64 d.k, .int .i64 0, .int .u64 0, .int .i64 d.ep, u448, .int .u64 d.fl, .slice none 0 0, .int .i64 0, .int .i64 0, .slice none 0 0, .int .u64 0, .int .i64 0, .int .u64 0, .int .i64 0, .int .i64 0, .int .i64 0, .int .i64 0, .int .i64 0]) rfl rfl rfl (all_cons rfl (all_cons (row_one hr470) (all_cons rfl all_nil))) (by kernel_rfl) hk473 rfl rfl) ?_ ?_; clear h456
    ·
     rintro _ w466 ⟨hk467, hz468, hg469⟩
     have hk467' : Blk w466 N23 58 #[.int .i64 d.k, .int .i64 0, .int .u64 0, .int .i64 d.ep, u448, .int .u64 d.fl, .slice none 0 0, .int .i64 0, .int .i64 0, .slice none 0 0, .int .u64 0, .int .i64 0, .int .u64 0, .int .i64 0, .int .i64 0, .int .i64 0, .int .i64 0, .int .i64 0] := hk467; clear hk467
     have hz474 := hg469.size
     have hB475 := hb_at hB463 hg469 (by omega)
     have hk476 := hk464.kept hg469 (by simp; omega)
     exact ⟨hB475, hk476⟩
    rintro _ w466 a465 ⟨hk467, hz468, hg469⟩ h465
    have hk467' : Blk w466 N23 58 #[.int .i64 d.k, .int .i64 0, .int .u64 0, .int .i64 d.ep, u448, .int .u64 d.fl, .slice none 0 0, .int .i64 0, .int .i64 0, .slice none 0 0, .int .u64 0, .int .i64 0, .int .u64 0, .int .i64 0, .int .i64 0, .int .i64 0, .int .i64 0, .int .i64 0] := hk467; clear hk467
    have hz474 := hg469.size
    have hB475 := hb_at hB463 hg469 (by omega)
    have hk476 := hk464.kept hg469 (by simp; omega)
    refine dk0 8 (v := pt N23 6) h465 rfl rfl ⟨hB475, hk476⟩ fun a477 h477 => ?_; clear h465
    have hr483 := row_kept_at hq459 hg469 (row_ne_lt hq459 (by omega))
    refine d1D 9 h477 rfl rfl (op_store1 rfl rfl rfl (row_one hr483) Tryz.sizeOf50 hk467' rfl) ?_ ?_; clear h477
    ·
     rintro _ w479 ⟨hk480, hz481, hg482⟩
     have hk480' : Blk w479 N23 58 #[.int .i64 d.k, .int .i64 0, .int .u64 0, .int .i64 d.ep, u448, .int .u64 d.fl, u458, .int .i64 0, .int .i64 0, .slice none 0 0, .int .u64 0, .int .i64 0, .int .u64 0, .int .i64 0, .int .i64 0, .int .i64 0, .int .i64 0, .int .i64 0] := hk480; clear hk480
     have hz484 := hg482.size
     have hB485 := hb_at hB475 hg482 (by omega)
     have hk486 := hk476.kept hg482 (by simp; omega)
     exact ⟨hB485, hk486⟩
    rintro _ w479 a478 ⟨hk480, hz481, hg482⟩ h478
    have hk480' : Blk w479 N23 58 #[.int .i64 d.k, .int .i64 0, .int .u64 0, .int .i64 d.ep, u448, .int .u64 d.fl, u458, .int .i64 0, .int .i64 0, .slice none 0 0, .int .u64 0, .int .i64 0, .int .u64 0, .int .i64 0, .int .i64 0, .int .i64 0, .int .i64 0, .int .i64 0] := hk480; clear hk480
    have hz484 := hg482.size
    refine dr_done (by kernel_rfl) ?_
    refine co_then ?_
    refine wp_exit ?_
    refine co_blockY (by decide) ?_
    refine co_thenX ?_
    refine co_blockY (by decide) ?_
    refine co_thenX ?_
    refine co_blockY (by decide) ?_
    refine co_thenX ?_
    refine co_blockY (by decide) ?_
    refine co_thenX ?_
    refine co_blockY (by decide) ?_
    refine co_thenX ?_
    refine co_blockY (by decide) ?_
    refine co_thenX ?_
    refine co_blockX ?_
    refine co_then ?_
    refine co_seq ?_
    refine co_reg ?_
    refine pk (v := .agg #[.int .i64 d.k, .int .i64 0, .int .u64 0, .int .i64 d.ep, u448, .int .u64 d.fl, u458, .int .i64 0, .int .i64 0, .slice none 0 0, .int .u64 0, .int .i64 0, .int .u64 0, .int .i64 0, .int .i64 0, .int .i64 0, .int .i64 0, .int .i64 0]) h478 rfl (rn_loadN rfl rfl Tryz.underlying58 rfl (by kernel_rfl) hk480'.all) fun a485 h485 => ?_; clear h478
    have hr491 := row_kept_at hr483 hg482 (row_ne_lt hr483 (by omega))
    have hr492 := row_kept_at hr470 hg469 (row_ne_lt hr470 (by omega))
    have hr493 := row_kept_at hr492 hg482 (row_ne_lt hr492 (by omega))
    have hk494 := hk47.kept hg376 (by simp)
    have hk495 := hk494.below hb450
    have hk496 := hk495.below hb460
    have hk497 := hk496.kept hg469 (by simp; omega)
    have hk498 := hk497.kept hg482 (by simp; omega)
    refine pwD h485 rfl (op_storeN rfl rfl rfl (all_cons rfl (all_cons rfl (all_cons rfl (all_cons rfl (all_cons (row_one hr493) (all_cons rfl (all_cons (row_one hr491) (all_cons rfl (all_cons rfl (all_cons rfl (all_cons rfl (all_cons rfl (all_cons rfl (all_cons rfl (all_cons rfl (all_cons rfl (all_cons rfl (all_cons rfl all_nil)))))))))))))))))) (by kernel_rfl) hk498 rfl) ?_; clear h485
    rintro _ w487 a486 ⟨hk488, hz489, hg490⟩ h486
    have hk488' : Blk w487 N11 58 #[.int .i64 d.k, .int .i64 0, .int .u64 0, .int .i64 d.ep, u448, .int .u64 d.fl, u458, .int .i64 0, .int .i64 0, .slice none 0 0, .int .u64 0, .int .i64 0, .int .u64 0, .int .i64 0, .int .i64 0, .int .i64 0, .int .i64 0, .int .i64 0] := hk488; clear hk488
    have hz499 := hg490.size
    refine pl_nil ?_
    refine co_then ?_
    refine wp_ret ?_
    refine co_retC (Q := fun _ _ _ => True) h486 rfl rfl hk488' Tryz.underlying58 rfl (by kernel_rfl) ?_
    have hB500 := hb_at hB475 hg482 (by omega)
    have hB501 := hb_at hB500 hg490 (by omega)
    have hr502 := row_kept_at hr493 hg490 (row_ne_lt hr493 (by omega))
    have hr503 := row_kept_at hr491 hg490 (row_ne_lt hr491 (by omega))
    have hcl := cl_1 (d := d) (by omega)
    refine ⟨_, _, _, by rw [hcl]; rfl, ?_, ?_, ?_, hB501⟩
    · rw [hcl]; exact (row_lows hr502 (by omega))
    · rw [hcl]; exact (row_lows hr503 (by omega))
    · rw [hcl]; exact (row_nilL _ _ _ _ _)
  ·
   refine dr_opVal (i := 4) (v := lv) h384 rfl rfl rfl rfl (by kernel_rfl) rfl (rn_load1 rfl rfl Tryz.isAgg50 (hk382.cell rfl)) ⟨hB381, hk382⟩ (fun a504 h504 => ?_); clear h384
   refine dr_many [1] (by kernel_rfl) (by simp) ⟨?_, trivial⟩
   ·
    refine dr_opVal (i := 1) (v := .agg #[.int .i64 d.ep, mv, .int .u64 d.fl]) h504 rfl rfl rfl rfl (by kernel_rfl) rfl (rn_loadN rfl rfl Tryz.underlying26 rfl (by kernel_rfl) (blk_part hk382 3 (by rfl))) ⟨hB381, hk382⟩ (fun a505 h505 => ?_); clear h504
    refine d1 2 h505 rfl rfl (op_call (args := #[.agg #[.int .i64 d.ep, mv, .int .u64 d.fl]]) (R := fun res xw => ∃ u : Value, res = .agg #[.int .i64 d.ep, u, .int .u64 d.fl] ∧ xw.ownsRow w375.heap.size 154 2 u d.ms.length (d.ms.flatMap memE) ∧ Below w375.heap.size w375 xw) rfl rfl rfl (by kernel_rfl) (by kernel_rfl) (Tryz.call48 _ _) (freshConf_any d.ep mv d.ms d.fl w375 (hm.below hB381) (by first | omega | (simp; done) | (simp; omega)) (by first | omega | (simp; done) | (simp; omega)) (by first | omega | (simp; done) | (simp; omega))) (by rintro e x ⟨u, rfl, hq509, hb510⟩; exact ⟨_, rfl, ⟨u, rfl, hq509, hb510⟩⟩)) ?_ ?_; clear h505
    ·
     rintro _ w507 ⟨u508, rfl, hq509, hb510⟩
     have hz511 := hb510.size
     have hl512 := sl_len (row_sl hq509 memE_len)
     have hB513 := hb_call hB381 hb510
     have hk514 := hk382.below hb510
     exact ⟨hB513, hk514⟩
    rintro _ w507 a506 ⟨u508, rfl, hq509, hb510⟩ h506
    have hz511 := hb510.size
    have hl512 := sl_len (row_sl hq509 memE_len)
    have hB513 := hb_call hB381 hb510
    have hk514 := hk382.below hb510
    refine dk0 6 (v := pt N23 3) h506 rfl rfl ⟨hB513, hk514⟩ fun a515 h515 => ?_; clear h506
    refine d1 5 h515 rfl rfl (op_call (args := #[lv]) (R := fun res xw => ∃ u : Value, res = u ∧ xw.ownsRow w507.heap.size 3 1 u d.lg.length (d.lg.flatMap (intE .i64)) ∧ Below w507.heap.size w507 xw) rfl rfl rfl (by kernel_rfl) (by kernel_rfl) (Tryz.call86 _ _) (cloneI_any lv d.lg w507 (hg.below hB513) (by first | omega | (simp; done) | (simp; omega))) (by rintro e x ⟨u, rfl, hq519, hb520⟩; exact ⟨_, rfl, ⟨u, rfl, hq519, hb520⟩⟩)) ?_ ?_; clear h515
    ·
     rintro u518 w517 ⟨_, rfl, hq519, hb520⟩
     have hz521 := hb520.size
     have hl522 := sl_len (row_sl hq519 (intE_len .i64))
     have hB523 := hb_call hB513 hb520
     have hk524 := hk514.below hb520
     exact ⟨hB523, hk524⟩
    rintro u518 w517 a516 ⟨_, rfl, hq519, hb520⟩ h516
    have hz521 := hb520.size
    have hl522 := sl_len (row_sl hq519 (intE_len .i64))
    have hB523 := hb_call hB513 hb520
    have hk524 := hk514.below hb520
    have hr530 := row_kept_new hq509 (below_grown hb520)
    have hk531 := hk31'.kept hg376 (by simp)
    have hk532 := hk531.below hb510
    have hk533 := hk532.below hb520
    refine d1D 7 h516 rfl rfl (op_storePart (k := 3) (cs' := #[.int .i64 d.k, .int .i64 0, .int .u64 0, .int .i64 d.ep, u508, .int .u64 d.fl, .slice none 0 0, .int .i64 0, .int .i64 0, .slice none 0 0, .int .u64 0, .int .i64 0, .int .u64 0, .int .i64 0, .int .i64 0, .int .i64 0, .int .i64 0, .int .i64 0]) rfl rfl rfl (all_cons rfl (all_cons (row_one hr530) (all_cons rfl all_nil))) (by kernel_rfl) hk533 rfl rfl) ?_ ?_; clear h516
    ·
     rintro _ w526 ⟨hk527, hz528, hg529⟩
     have hk527' : Blk w526 N23 58 #[.int .i64 d.k, .int .i64 0, .int .u64 0, .int .i64 d.ep, u508, .int .u64 d.fl, .slice none 0 0, .int .i64 0, .int .i64 0, .slice none 0 0, .int .u64 0, .int .i64 0, .int .u64 0, .int .i64 0, .int .i64 0, .int .i64 0, .int .i64 0, .int .i64 0] := hk527; clear hk527
     have hz534 := hg529.size
     have hB535 := hb_at hB523 hg529 (by omega)
     have hk536 := hk524.kept hg529 (by simp; omega)
     exact ⟨hB535, hk536⟩
    rintro _ w526 a525 ⟨hk527, hz528, hg529⟩ h525
    have hk527' : Blk w526 N23 58 #[.int .i64 d.k, .int .i64 0, .int .u64 0, .int .i64 d.ep, u508, .int .u64 d.fl, .slice none 0 0, .int .i64 0, .int .i64 0, .slice none 0 0, .int .u64 0, .int .i64 0, .int .u64 0, .int .i64 0, .int .i64 0, .int .i64 0, .int .i64 0, .int .i64 0] := hk527; clear hk527
    have hz534 := hg529.size
    have hB535 := hb_at hB523 hg529 (by omega)
    have hk536 := hk524.kept hg529 (by simp; omega)
    refine dk0 8 (v := pt N23 6) h525 rfl rfl ⟨hB535, hk536⟩ fun a537 h537 => ?_; clear h525
    have hr543 := row_kept_at hq519 hg529 (row_ne_lt hq519 (by omega))
    refine d1D 9 h537 rfl rfl (op_store1 rfl rfl rfl (row_one hr543) Tryz.sizeOf50 hk527' rfl) ?_ ?_; clear h537
    ·
     rintro _ w539 ⟨hk540, hz541, hg542⟩
     have hk540' : Blk w539 N23 58 #[.int .i64 d.k, .int .i64 0, .int .u64 0, .int .i64 d.ep, u508, .int .u64 d.fl, u518, .int .i64 0, .int .i64 0, .slice none 0 0, .int .u64 0, .int .i64 0, .int .u64 0, .int .i64 0, .int .i64 0, .int .i64 0, .int .i64 0, .int .i64 0] := hk540; clear hk540
     have hz544 := hg542.size
     have hB545 := hb_at hB535 hg542 (by omega)
     have hk546 := hk536.kept hg542 (by simp; omega)
     exact ⟨hB545, hk546⟩
    rintro _ w539 a538 ⟨hk540, hz541, hg542⟩ h538
    have hk540' : Blk w539 N23 58 #[.int .i64 d.k, .int .i64 0, .int .u64 0, .int .i64 d.ep, u508, .int .u64 d.fl, u518, .int .i64 0, .int .i64 0, .slice none 0 0, .int .u64 0, .int .i64 0, .int .u64 0, .int .i64 0, .int .i64 0, .int .i64 0, .int .i64 0, .int .i64 0] := hk540; clear hk540
    have hz544 := hg542.size
    refine dr_done (by kernel_rfl) ?_
    refine co_then ?_
    refine wp_exit ?_
    refine co_blockY (by decide) ?_
    refine co_thenX ?_
    refine co_blockY (by decide) ?_
    refine co_thenX ?_
    refine co_blockY (by decide) ?_
    refine co_thenX ?_
    refine co_blockY (by decide) ?_
    refine co_thenX ?_
    refine co_blockY (by decide) ?_
    refine co_thenX ?_
    refine co_blockY (by decide) ?_
    refine co_thenX ?_
    refine co_blockX ?_
    refine co_then ?_
    refine co_seq ?_
    refine co_reg ?_
    refine pk (v := .agg #[.int .i64 d.k, .int .i64 0, .int .u64 0, .int .i64 d.ep, u508, .int .u64 d.fl, u518, .int .i64 0, .int .i64 0, .slice none 0 0, .int .u64 0, .int .i64 0, .int .u64 0, .int .i64 0, .int .i64 0, .int .i64 0, .int .i64 0, .int .i64 0]) h538 rfl (rn_loadN rfl rfl Tryz.underlying58 rfl (by kernel_rfl) hk540'.all) fun a545 h545 => ?_; clear h538
    have hr551 := row_kept_at hr543 hg542 (row_ne_lt hr543 (by omega))
    have hr552 := row_kept_at hr530 hg529 (row_ne_lt hr530 (by omega))
    have hr553 := row_kept_at hr552 hg542 (row_ne_lt hr552 (by omega))
    have hk554 := hk47.kept hg376 (by simp)
    have hk555 := hk554.below hb510
    have hk556 := hk555.below hb520
    have hk557 := hk556.kept hg529 (by simp; omega)
    have hk558 := hk557.kept hg542 (by simp; omega)
    refine pwD h545 rfl (op_storeN rfl rfl rfl (all_cons rfl (all_cons rfl (all_cons rfl (all_cons rfl (all_cons (row_one hr553) (all_cons rfl (all_cons (row_one hr551) (all_cons rfl (all_cons rfl (all_cons rfl (all_cons rfl (all_cons rfl (all_cons rfl (all_cons rfl (all_cons rfl (all_cons rfl (all_cons rfl (all_cons rfl all_nil)))))))))))))))))) (by kernel_rfl) hk558 rfl) ?_; clear h545
    rintro _ w547 a546 ⟨hk548, hz549, hg550⟩ h546
    have hk548' : Blk w547 N11 58 #[.int .i64 d.k, .int .i64 0, .int .u64 0, .int .i64 d.ep, u508, .int .u64 d.fl, u518, .int .i64 0, .int .i64 0, .slice none 0 0, .int .u64 0, .int .i64 0, .int .u64 0, .int .i64 0, .int .i64 0, .int .i64 0, .int .i64 0, .int .i64 0] := hk548; clear hk548
    have hz559 := hg550.size
    refine pl_nil ?_
    refine co_then ?_
    refine wp_ret ?_
    refine co_retC (Q := fun _ _ _ => True) h546 rfl rfl hk548' Tryz.underlying58 rfl (by kernel_rfl) ?_
    have hB560 := hb_at hB535 hg542 (by omega)
    have hB561 := hb_at hB560 hg550 (by omega)
    have hr562 := row_kept_at hr553 hg550 (row_ne_lt hr553 (by omega))
    have hr563 := row_kept_at hr551 hg550 (row_ne_lt hr551 (by omega))
    have hcl := cl_1 (d := d) (by omega)
    refine ⟨_, _, _, by rw [hcl]; rfl, ?_, ?_, ?_, hB561⟩
    · rw [hcl]; exact (row_lows hr562 (by omega))
    · rw [hcl]; exact (row_lows hr563 (by omega))
    · rw [hcl]; exact (row_nilL _ _ _ _ _)
set_option maxRecDepth 100000 in
theorem nEqInts_any (v : Value) (l : List Int) (v2 : Value) (l2 : List Int) (w : World) (hs : SliceOf (intE .i64) 1 w v l) (hs2 : SliceOf (intE .i64) 1 w v2 l2) :
    Calls Tryz.prog 89 #[v, v2] w fun e w' => e = .returned (.bool (sameI l l2)) ∧ Below w.heap.size w w' := by
 have hB0 := Below.refl w.heap.size w
 have hl_hs := sl_len hs
 have hl_hs2 := sl_len hs2
 refine co_enter (n := 26) Tryz.func89 rfl rfl rfl [(0, v), (1, v2)] rfl (fun a h0 => ?_)
 refine co_seq ?_
 refine co_reg ?_
 refine pk0 (v := .bool false) h0 rfl fun a1 h1 => ?_; clear h0
 refine pl_nil ?_
 refine co_then ?_
 refine co_seq ?_
 refine co_seq ?_
 refine co_reg ?_
 refine pk0 (v := v) h1 rfl fun a2 h2 => ?_; clear h1
 refine pk (v := .int .i64 ((l.length : Nat) : Int)) h2 rfl (rn_len rfl rfl Tryz.underlying50 hs) fun a3 h3 => ?_; clear h2
 refine pk0 (v := v2) h3 rfl fun a4 h4 => ?_; clear h3
 refine pk (v := .int .i64 ((l2.length : Nat) : Int)) h4 rfl (rn_len rfl rfl Tryz.underlying50 hs2) fun a5 h5 => ?_; clear h4
 refine pk0 (v := .bool (((l.length : Nat) : Int) != ((l2.length : Nat) : Int))) h5 rfl fun a6 h6 => ?_; clear h5
 refine pl_nil ?_
 refine co_then ?_
 cases hc7 : (((l.length : Nat) : Int) != ((l2.length : Nat) : Int))
 ·
  rw [hc7] at h6
  have hp8 : ¬ (((l.length : Nat) : Int) ≠ ((l2.length : Nat) : Int)) := by first | simpa using hc7 | simpa [and_assoc] using hc7
  clear hc7
  refine co_false h6 rfl ?_
  refine wp_skip ?_
  refine co_then ?_
  refine co_seq ?_
  refine co_seq ?_
  refine co_reg ?_
  refine pk0 (v := v) h6 rfl fun a9 h9 => ?_; clear h6
  refine pk (v := .int .i64 ((l.length : Nat) : Int)) h9 rfl (rn_len rfl rfl Tryz.underlying50 hs) fun a10 h10 => ?_; clear h9
  refine pk0 (v := .int .i64 0) h10 rfl fun a11 h11 => ?_; clear h10
  refine pl_nil ?_
  refine co_then ?_
  refine wp_block ?_
  have h12 : Slots 26 [(0, v), (1, v2), (4, .bool false), (12, .int .i64 ((l.length : Nat) : Int)), (13, .int .i64 0)] _ := h11.sub ⟨rfl, rfl, rfl, rfl, rfl, trivial⟩; clear h11
  refine co_loop (fun mm a x => ∃ (i : Nat), Slots 26 [(0, v), (1, v2), (4, .bool false), (12, .int .i64 ((l.length : Nat) : Int)), (13, .int .i64 ((i : Nat) : Int))] a ∧ mm = l.length - i ∧ (i ≤ l.length) ∧ (l.length = l2.length) ∧ (l.take i = l2.take i) ∧ Below w.heap.size w x) (l.length - 0) ?_ ?_
  · exact ⟨0, h12.sub ⟨rfl, rfl, rfl, rfl, (slot_eq rfl (congrArg (Value.int .i64) (by first | rfl | omega))), trivial⟩, rfl, by omega, by omega, by first | rfl | exact hL', hB0⟩
  · rintro k13 a14 w15 ⟨i, h14, rfl, hi16, hi17, hi18, hB19⟩
    have hz20 := hB19.size
    have hL : l.take i = l2.take i := by assumption
    refine co_seq ?_
    refine co_reg ?_
    refine pk0 (v := .bool (decide (((i : Nat) : Int) < ((l.length : Nat) : Int)))) h14 rfl fun a21 h21 => ?_; clear h14
    refine pl_nil ?_
    refine co_then ?_
    refine co_seq ?_
    cases hc22 : (decide (((i : Nat) : Int) < ((l.length : Nat) : Int)))
    ·
     rw [hc22] at h21
     have hp23 : ¬ (((i : Nat) : Int) < ((l.length : Nat) : Int)) := of_decide_eq_false hc22
     clear hc22
     refine co_false h21 rfl ?_
     refine wp_exit ?_
     refine co_thenX ?_
     refine co_thenX ?_
     refine co_blockX ?_
     refine co_then ?_
     refine co_seq ?_
     refine co_reg ?_
     refine pk0 (v := .bool true) h21 rfl fun a24 h24 => ?_; clear h21
     refine pl_nil ?_
     refine co_then ?_
     refine wp_ret ?_
     refine co_ret1 h24 rfl rfl ?_
     exact ⟨ret_bool (sameI_end (i := i) hL (by omega) (by omega)), hB19⟩
    ·
     rw [hc22] at h21
     have hp25 : ((i : Nat) : Int) < ((l.length : Nat) : Int) := of_decide_eq_true hc22
     clear hc22
     refine co_true h21 rfl ?_
     refine wp_skip ?_
     refine co_then ?_
     refine co_seq ?_
     refine wp_block ?_
     refine co_seq ?_
     refine co_reg ?_
     refine pk0 (v := .int .i64 ((i : Nat) : Int)) h21 rfl fun a26 h26 => ?_; clear h21
     refine pk0 (v := .int .i64 ((i : Nat) : Int)) h26 rfl fun a27 h27 => ?_; clear h26
     refine pl_nil ?_
     refine co_then ?_
     refine co_seq ?_
     refine dr_eq (by kernel_rfl) (fun w28 hg29 => ?_)
     have hz30 := hg29.size
     refine dk0 0 (v := v) h27 rfl rfl rfl fun a31 h31 => ?_; clear h27
     refine dk0 1 (v := .int .i64 ((i : Nat) : Int)) h31 rfl rfl rfl fun a32 h32 => ?_; clear h31
     have hB34 := hb_new hB19 hg29
     obtain ⟨y33, hy33⟩ : ∃ z, l[i]? = some z := ⟨_, List.getElem?_eq_getElem (by first | omega | (simp; done) | (simp; omega))⟩
     refine dk 2 (v := pt (blkOf v) (offOf v + i * 1)) h32 rfl rfl rfl (fun x hx => by subst hx; exact (rn_index rfl rfl rfl Tryz.underlying50 Tryz.sizeOf3 (hs.below hB34) (by omega) (by first | omega | (simp; done) | (simp; omega)))) fun a35 h35 => ?_; clear h32
     refine dk 3 (v := .int .i64 y33) h35 rfl rfl rfl (fun x hx => by subst hx; exact (rn_load1 rfl rfl Tryz.isAgg3 ((sl_at (hs.below hB34) hy33) 0 _ rfl))) fun a36 h36 => ?_; clear h35
     refine dk0 4 (v := v2) h36 rfl rfl rfl fun a37 h37 => ?_; clear h36
     refine dk0 5 (v := .int .i64 ((i : Nat) : Int)) h37 rfl rfl rfl fun a38 h38 => ?_; clear h37
     obtain ⟨y39, hy39⟩ : ∃ z, l2[i]? = some z := ⟨_, List.getElem?_eq_getElem (by first | omega | (simp; done) | (simp; omega))⟩
     refine dk 6 (v := pt (blkOf v2) (offOf v2 + i * 1)) h38 rfl rfl rfl (fun x hx => by subst hx; exact (rn_index rfl rfl rfl Tryz.underlying50 Tryz.sizeOf3 (hs2.below hB34) (by omega) (by first | omega | (simp; done) | (simp; omega)))) fun a40 h40 => ?_; clear h38
     refine dk 7 (v := .int .i64 y39) h40 rfl rfl rfl (fun x hx => by subst hx; exact (rn_load1 rfl rfl Tryz.isAgg3 ((sl_at (hs2.below hB34) hy39) 0 _ rfl))) fun a41 h41 => ?_; clear h40
     refine dk0 8 (v := .bool (y33 != y39)) h41 rfl rfl rfl fun a42 h42 => ?_; clear h41
     refine dr_done (by kernel_rfl) ?_
     refine co_then ?_
     cases hc43 : (y33 != y39)
     ·
      rw [hc43] at h42
      have hp44 : ¬ (y33 ≠ y39) := by first | simpa using hc43 | simpa [and_assoc] using hc43
      clear hc43
      refine co_false h42 rfl ?_
      refine wp_skip ?_
      refine co_blockN ?_
      refine co_then ?_
      refine co_reg ?_
      refine pk (v := .int .i64 ((i + 1 : Nat) : Int)) h42 rfl (rn_arith' rfl rfl rfl rfl rfl rfl (IntWalk.i64_in _ (by omega)) (by omega)) fun a45 h45 => ?_; clear h42
      refine pk0 (v := .int .i64 ((i + 1 : Nat) : Int)) h45 rfl fun a46 h46 => ?_; clear h45
      refine pl_nil ?_
      refine co_then ?_
      refine ⟨(l.length - (i + 1)), by omega, ?_⟩
      have hL' := sameI_step hL hy33 hy39 (by omega)
      exact ⟨i + 1, h46.sub ⟨rfl, rfl, rfl, rfl, rfl, trivial⟩, rfl, by omega, by omega, by first | rfl | exact hL', hB34⟩
     ·
      rw [hc43] at h42
      have hp47 : y33 ≠ y39 := by first | simpa using hc43 | simpa [and_assoc] using hc43
      clear hc43
      refine co_true h42 rfl ?_
      refine co_seq ?_
      refine co_reg ?_
      refine pk0 (v := .bool false) h42 rfl fun a48 h48 => ?_; clear h42
      refine pl_nil ?_
      refine co_then ?_
      refine wp_ret ?_
      refine co_blockR ?_
      refine co_thenR ?_
      refine co_thenR ?_
      refine co_blockR ?_
      refine co_thenR ?_
      refine co_ret1 h48 rfl rfl ?_
      exact ⟨ret_bool (sameI_no hy33 hy39 (by omega)), hB34⟩
 ·
  rw [hc7] at h6
  have hp49 : ((l.length : Nat) : Int) ≠ ((l2.length : Nat) : Int) := by first | simpa using hc7 | simpa [and_assoc] using hc7
  clear hc7
  refine co_true h6 rfl ?_
  refine co_seq ?_
  refine co_reg ?_
  refine pk0 (v := .bool false) h6 rfl fun a50 h50 => ?_; clear h6
  refine pl_nil ?_
  refine co_then ?_
  refine wp_ret ?_
  refine co_thenR ?_
  refine co_ret1 h50 rfl rfl ?_
  exact ⟨ret_bool (sameI_len (by omega)), hB0⟩
set_option maxRecDepth 100000 in
theorem nSame_any (d : NoteD) (mv : Value) (lv : Value) (ev : Value) (d2 : NoteD) (mv2 : Value) (lv2 : Value) (ev2 : Value) (w : World) (hm : SliceOf memE 2 w mv d.ms) (hg : SliceOf (intE .i64) 1 w lv d.lg) (he : SliceOf opE 3 w ev d.el) (hR : NoteR d) (hm2 : SliceOf memE 2 w mv2 d2.ms) (hg2 : SliceOf (intE .i64) 1 w lv2 d2.lg) (he2 : SliceOf opE 3 w ev2 d2.el) (hR2 : NoteR d2) :
    Calls Tryz.prog 27 #[.agg #[.int .i64 d.k, .int .i64 d.n, .int .u64 d.t, .int .i64 d.ep, mv, .int .u64 d.fl, lv, .int .i64 d.ec, .int .i64 d.er, ev, .int .u64 d.ets, .int .i64 d.pid, .int .u64 d.pat, .int .i64 d.plf, .int .i64 d.sc, .int .i64 d.sr, .int .i64 d.se, .int .i64 d.sp], .agg #[.int .i64 d2.k, .int .i64 d2.n, .int .u64 d2.t, .int .i64 d2.ep, mv2, .int .u64 d2.fl, lv2, .int .i64 d2.ec, .int .i64 d2.er, ev2, .int .u64 d2.ets, .int .i64 d2.pid, .int .u64 d2.pat, .int .i64 d2.plf, .int .i64 d2.sc, .int .i64 d2.sr, .int .i64 d2.se, .int .i64 d2.sp]] w fun e w' => e = .returned (.bool (sameN d d2)) ∧ Below w.heap.size w w' := by
 have hrng := hR.rng
 have hrng2 := hR2.rng
 have hB0 := Below.refl w.heap.size w
 have hl_hm := sl_len hm
 have hl_hg := sl_len hg
 have hl_he := sl_len he
 have hl_hm2 := sl_len hm2
 have hl_hg2 := sl_len hg2
 have hl_he2 := sl_len he2
 refine co_enter (n := 59) Tryz.func27 rfl rfl rfl [(0, .agg #[.int .i64 d.k, .int .i64 d.n, .int .u64 d.t, .int .i64 d.ep, mv, .int .u64 d.fl, lv, .int .i64 d.ec, .int .i64 d.er, ev, .int .u64 d.ets, .int .i64 d.pid, .int .u64 d.pat, .int .i64 d.plf, .int .i64 d.sc, .int .i64 d.sr, .int .i64 d.se, .int .i64 d.sp]), (1, .agg #[.int .i64 d2.k, .int .i64 d2.n, .int .u64 d2.t, .int .i64 d2.ep, mv2, .int .u64 d2.fl, lv2, .int .i64 d2.ec, .int .i64 d2.er, ev2, .int .u64 d2.ets, .int .i64 d2.pid, .int .u64 d2.pat, .int .i64 d2.plf, .int .i64 d2.sc, .int .i64 d2.sr, .int .i64 d2.se, .int .i64 d2.sp])] rfl (fun a h0 => ?_)
 refine co_seq ?_
 refine co_reg ?_
 refine pw h0 rfl (op_new (v := fun N => pt N 0) (T := 58) (cs := #[.int .i64 d.k, .int .i64 d.n, .int .u64 d.t, .int .i64 d.ep, mv, .int .u64 d.fl, lv, .int .i64 d.ec, .int .i64 d.er, ev, .int .u64 d.ets, .int .i64 d.pid, .int .u64 d.pat, .int .i64 d.plf, .int .i64 d.sc, .int .i64 d.sr, .int .i64 d.se, .int .i64 d.sp]) (by kernel_rfl) (by kernel_rfl) (by kernel_rfl)) ?_; clear h0
 rintro _ w2 a1 ⟨N3, rfl, hN6, hz7, hk5, hg4⟩ h1
 have hz8 := hg4.size
 try dsimp only at h1
 refine pw h1 rfl (op_new (v := fun N => pt N 0) (T := 58) (cs := #[.int .i64 d2.k, .int .i64 d2.n, .int .u64 d2.t, .int .i64 d2.ep, mv2, .int .u64 d2.fl, lv2, .int .i64 d2.ec, .int .i64 d2.er, ev2, .int .u64 d2.ets, .int .i64 d2.pid, .int .u64 d2.pat, .int .i64 d2.plf, .int .i64 d2.sc, .int .i64 d2.sr, .int .i64 d2.se, .int .i64 d2.sp]) (by kernel_rfl) (by kernel_rfl) (by kernel_rfl)) ?_; clear h1
 rintro _ w10 a9 ⟨N11, rfl, hN14, hz15, hk13, hg12⟩ h9
 have hz16 := hg12.size
 try dsimp only at h9
 refine pk0 (v := .bool false) h9 rfl fun a17 h17 => ?_; clear h9
 refine pl_nil ?_
 refine co_then ?_
 refine co_seq ?_
 refine co_reg ?_
 refine pk0 (v := pt N3 0) h17 rfl fun a18 h18 => ?_; clear h17
 have hk19 := hk5.kept hg12 (by simp)
 refine pk (v := .int .i64 d.k) h18 rfl (rn_load1 rfl rfl Tryz.isAgg3 (hk19.cell rfl)) fun a20 h20 => ?_; clear h18
 refine pk0 (v := pt N11 0) h20 rfl fun a21 h21 => ?_; clear h20
 refine pk (v := .int .i64 d2.k) h21 rfl (rn_load1 rfl rfl Tryz.isAgg3 (hk13.cell rfl)) fun a22 h22 => ?_; clear h21
 refine pk0 (v := .bool (d.k == d2.k)) h22 rfl fun a23 h23 => ?_; clear h22
 refine pk0 (v := .bool (d.k == d2.k)) h23 rfl fun a24 h24 => ?_; clear h23
 have hB26 := hb_new hB0 hg4
 have hB27 := hb_new hB26 hg12
 cases hc25 : (d.k == d2.k)
 ·
  rw [hc25] at h24
  have hp28 : ¬ (d.k = d2.k) := by first | simpa using hc25 | simpa [and_assoc] using hc25
  clear hc25
  refine psk h24 rfl fun a29 h29 => ?_; clear h24
  refine psk h29 rfl fun a30 h30 => ?_; clear h29
  refine psk h30 rfl fun a31 h31 => ?_; clear h30
  refine psk h31 rfl fun a32 h32 => ?_; clear h31
  refine psk h32 rfl fun a33 h33 => ?_; clear h32
  refine pk0 (v := .bool false) h33 rfl fun a34 h34 => ?_; clear h33
  refine pk0 (v := .bool false) h34 rfl fun a35 h35 => ?_; clear h34
  refine psk h35 rfl fun a36 h36 => ?_; clear h35
  refine psk h36 rfl fun a37 h37 => ?_; clear h36
  refine psk h37 rfl fun a38 h38 => ?_; clear h37
  refine psk h38 rfl fun a39 h39 => ?_; clear h38
  refine psk h39 rfl fun a40 h40 => ?_; clear h39
  refine pk0 (v := .bool false) h40 rfl fun a41 h41 => ?_; clear h40
  refine pk0 (v := .bool false) h41 rfl fun a42 h42 => ?_; clear h41
  refine psk h42 rfl fun a43 h43 => ?_; clear h42
  refine psk h43 rfl fun a44 h44 => ?_; clear h43
  refine psk h44 rfl fun a45 h45 => ?_; clear h44
  refine psk h45 rfl fun a46 h46 => ?_; clear h45
  refine psk h46 rfl fun a47 h47 => ?_; clear h46
  refine pk0 (v := .bool false) h47 rfl fun a48 h48 => ?_; clear h47
  refine pk0 (v := .bool false) h48 rfl fun a49 h49 => ?_; clear h48
  refine psk h49 rfl fun a50 h50 => ?_; clear h49
  refine psk h50 rfl fun a51 h51 => ?_; clear h50
  refine psk h51 rfl fun a52 h52 => ?_; clear h51
  refine psk h52 rfl fun a53 h53 => ?_; clear h52
  refine psk h53 rfl fun a54 h54 => ?_; clear h53
  refine pk0 (v := .bool false) h54 rfl fun a55 h55 => ?_; clear h54
  refine pk0 (v := .bool false) h55 rfl fun a56 h56 => ?_; clear h55
  refine psk h56 rfl fun a57 h57 => ?_; clear h56
  refine psk h57 rfl fun a58 h58 => ?_; clear h57
  refine psk h58 rfl fun a59 h59 => ?_; clear h58
  refine psk h59 rfl fun a60 h60 => ?_; clear h59
  refine psk h60 rfl fun a61 h61 => ?_; clear h60
  refine pk0 (v := .bool false) h61 rfl fun a62 h62 => ?_; clear h61
  refine pk0 (v := .bool false) h62 rfl fun a63 h63 => ?_; clear h62
  refine psk h63 rfl fun a64 h64 => ?_; clear h63
  refine psk h64 rfl fun a65 h65 => ?_; clear h64
  refine psk h65 rfl fun a66 h66 => ?_; clear h65
  refine psk h66 rfl fun a67 h67 => ?_; clear h66
  refine psk h67 rfl fun a68 h68 => ?_; clear h67
  refine pk0 (v := .bool false) h68 rfl fun a69 h69 => ?_; clear h68
  refine pk0 (v := .bool false) h69 rfl fun a70 h70 => ?_; clear h69
  refine psk h70 rfl fun a71 h71 => ?_; clear h70
  refine psk h71 rfl fun a72 h72 => ?_; clear h71
  refine psk h72 rfl fun a73 h73 => ?_; clear h72
  refine psk h73 rfl fun a74 h74 => ?_; clear h73
  refine psk h74 rfl fun a75 h75 => ?_; clear h74
  refine pk0 (v := .bool false) h75 rfl fun a76 h76 => ?_; clear h75
  refine pk0 (v := .bool false) h76 rfl fun a77 h77 => ?_; clear h76
  refine pl_nil ?_
  refine co_then ?_
  refine wp_ret ?_
  refine co_ret1 h77 rfl rfl ?_
  exact ⟨ret_bool (sameN_no (by omega)), hB27⟩
 ·
  rw [hc25] at h24
  have hp78 : d.k = d2.k := by first | simpa using hc25 | simpa [and_assoc] using hc25
  clear hc25
  refine pk0 (v := pt N3 1) h24 rfl fun a79 h79 => ?_; clear h24
  refine pk (v := .int .i64 d.n) h79 rfl (rn_load1 rfl rfl Tryz.isAgg3 (hk19.cell rfl)) fun a80 h80 => ?_; clear h79
  refine pk0 (v := pt N11 1) h80 rfl fun a81 h81 => ?_; clear h80
  refine pk (v := .int .i64 d2.n) h81 rfl (rn_load1 rfl rfl Tryz.isAgg3 (hk13.cell rfl)) fun a82 h82 => ?_; clear h81
  refine pk0 (v := .bool (d.n == d2.n)) h82 rfl fun a83 h83 => ?_; clear h82
  refine pk0 (v := .bool (d.n == d2.n)) h83 rfl fun a84 h84 => ?_; clear h83
  refine pk0 (v := .bool (d.n == d2.n)) h84 rfl fun a85 h85 => ?_; clear h84
  cases hc86 : (d.n == d2.n)
  ·
   rw [hc86] at h85
   have hp87 : ¬ (d.n = d2.n) := by first | simpa using hc86 | simpa [and_assoc] using hc86
   clear hc86
   refine psk h85 rfl fun a88 h88 => ?_; clear h85
   refine psk h88 rfl fun a89 h89 => ?_; clear h88
   refine psk h89 rfl fun a90 h90 => ?_; clear h89
   refine psk h90 rfl fun a91 h91 => ?_; clear h90
   refine psk h91 rfl fun a92 h92 => ?_; clear h91
   refine pk0 (v := .bool false) h92 rfl fun a93 h93 => ?_; clear h92
   refine pk0 (v := .bool false) h93 rfl fun a94 h94 => ?_; clear h93
   refine psk h94 rfl fun a95 h95 => ?_; clear h94
   refine psk h95 rfl fun a96 h96 => ?_; clear h95
   refine psk h96 rfl fun a97 h97 => ?_; clear h96
   refine psk h97 rfl fun a98 h98 => ?_; clear h97
   refine psk h98 rfl fun a99 h99 => ?_; clear h98
   refine pk0 (v := .bool false) h99 rfl fun a100 h100 => ?_; clear h99
   refine pk0 (v := .bool false) h100 rfl fun a101 h101 => ?_; clear h100
   refine psk h101 rfl fun a102 h102 => ?_; clear h101
   refine psk h102 rfl fun a103 h103 => ?_; clear h102
   refine psk h103 rfl fun a104 h104 => ?_; clear h103
   refine psk h104 rfl fun a105 h105 => ?_; clear h104
   refine psk h105 rfl fun a106 h106 => ?_; clear h105
   refine pk0 (v := .bool false) h106 rfl fun a107 h107 => ?_; clear h106
   refine pk0 (v := .bool false) h107 rfl fun a108 h108 => ?_; clear h107
   refine psk h108 rfl fun a109 h109 => ?_; clear h108
   refine psk h109 rfl fun a110 h110 => ?_; clear h109
   refine psk h110 rfl fun a111 h111 => ?_; clear h110
   refine psk h111 rfl fun a112 h112 => ?_; clear h111
   refine psk h112 rfl fun a113 h113 => ?_; clear h112
   refine pk0 (v := .bool false) h113 rfl fun a114 h114 => ?_; clear h113
   refine pk0 (v := .bool false) h114 rfl fun a115 h115 => ?_; clear h114
   refine psk h115 rfl fun a116 h116 => ?_; clear h115
   refine psk h116 rfl fun a117 h117 => ?_; clear h116
   refine psk h117 rfl fun a118 h118 => ?_; clear h117
   refine psk h118 rfl fun a119 h119 => ?_; clear h118
   refine psk h119 rfl fun a120 h120 => ?_; clear h119
   refine pk0 (v := .bool false) h120 rfl fun a121 h121 => ?_; clear h120
   refine pk0 (v := .bool false) h121 rfl fun a122 h122 => ?_; clear h121
   refine psk h122 rfl fun a123 h123 => ?_; clear h122
   refine psk h123 rfl fun a124 h124 => ?_; clear h123
   refine psk h124 rfl fun a125 h125 => ?_; clear h124
   refine psk h125 rfl fun a126 h126 => ?_; clear h125
   refine psk h126 rfl fun a127 h127 => ?_; clear h126
   refine pk0 (v := .bool false) h127 rfl fun a128 h128 => ?_; clear h127
   refine pk0 (v := .bool false) h128 rfl fun a129 h129 => ?_; clear h128
   refine pl_nil ?_
   refine co_then ?_
   refine wp_ret ?_
   refine co_ret1 h129 rfl rfl ?_
   exact ⟨ret_bool (sameN_no (by omega)), hB27⟩
  ·
   rw [hc86] at h85
   have hp130 : d.n = d2.n := by first | simpa using hc86 | simpa [and_assoc] using hc86
   clear hc86
   refine pk0 (v := pt N3 2) h85 rfl fun a131 h131 => ?_; clear h85
   refine pk (v := .int .u64 d.t) h131 rfl (rn_load1 rfl rfl Tryz.isAgg22 (hk19.cell rfl)) fun a132 h132 => ?_; clear h131
   refine pk0 (v := pt N11 2) h132 rfl fun a133 h133 => ?_; clear h132
   refine pk (v := .int .u64 d2.t) h133 rfl (rn_load1 rfl rfl Tryz.isAgg22 (hk13.cell rfl)) fun a134 h134 => ?_; clear h133
   refine pk0 (v := .bool (d.t == d2.t)) h134 rfl fun a135 h135 => ?_; clear h134
   refine pk0 (v := .bool (d.t == d2.t)) h135 rfl fun a136 h136 => ?_; clear h135
   refine pk0 (v := .bool (d.t == d2.t)) h136 rfl fun a137 h137 => ?_; clear h136
   cases hc138 : (d.t == d2.t)
   ·
    rw [hc138] at h137
    have hp139 : ¬ (d.t = d2.t) := by first | simpa using hc138 | simpa [and_assoc] using hc138
    clear hc138
    refine psk h137 rfl fun a140 h140 => ?_; clear h137
    refine psk h140 rfl fun a141 h141 => ?_; clear h140
    refine psk h141 rfl fun a142 h142 => ?_; clear h141
    refine psk h142 rfl fun a143 h143 => ?_; clear h142
    refine psk h143 rfl fun a144 h144 => ?_; clear h143
    refine pk0 (v := .bool false) h144 rfl fun a145 h145 => ?_; clear h144
    refine pk0 (v := .bool false) h145 rfl fun a146 h146 => ?_; clear h145
    refine psk h146 rfl fun a147 h147 => ?_; clear h146
    refine psk h147 rfl fun a148 h148 => ?_; clear h147
    refine psk h148 rfl fun a149 h149 => ?_; clear h148
    refine psk h149 rfl fun a150 h150 => ?_; clear h149
    refine psk h150 rfl fun a151 h151 => ?_; clear h150
    refine pk0 (v := .bool false) h151 rfl fun a152 h152 => ?_; clear h151
    refine pk0 (v := .bool false) h152 rfl fun a153 h153 => ?_; clear h152
    refine psk h153 rfl fun a154 h154 => ?_; clear h153
    refine psk h154 rfl fun a155 h155 => ?_; clear h154
    refine psk h155 rfl fun a156 h156 => ?_; clear h155
    refine psk h156 rfl fun a157 h157 => ?_; clear h156
    refine psk h157 rfl fun a158 h158 => ?_; clear h157
    refine pk0 (v := .bool false) h158 rfl fun a159 h159 => ?_; clear h158
    refine pk0 (v := .bool false) h159 rfl fun a160 h160 => ?_; clear h159
    refine psk h160 rfl fun a161 h161 => ?_; clear h160
    refine psk h161 rfl fun a162 h162 => ?_; clear h161
    refine psk h162 rfl fun a163 h163 => ?_; clear h162
    refine psk h163 rfl fun a164 h164 => ?_; clear h163
    refine psk h164 rfl fun a165 h165 => ?_; clear h164
    refine pk0 (v := .bool false) h165 rfl fun a166 h166 => ?_; clear h165
    refine pk0 (v := .bool false) h166 rfl fun a167 h167 => ?_; clear h166
    refine psk h167 rfl fun a168 h168 => ?_; clear h167
    refine psk h168 rfl fun a169 h169 => ?_; clear h168
    refine psk h169 rfl fun a170 h170 => ?_; clear h169
    refine psk h170 rfl fun a171 h171 => ?_; clear h170
    refine psk h171 rfl fun a172 h172 => ?_; clear h171
    refine pk0 (v := .bool false) h172 rfl fun a173 h173 => ?_; clear h172
    refine pk0 (v := .bool false) h173 rfl fun a174 h174 => ?_; clear h173
    refine pl_nil ?_
    refine co_then ?_
    refine wp_ret ?_
    refine co_ret1 h174 rfl rfl ?_
    exact ⟨ret_bool (sameN_no (by omega)), hB27⟩
   ·
    rw [hc138] at h137
    have hp175 : d.t = d2.t := by first | simpa using hc138 | simpa [and_assoc] using hc138
    clear hc138
    refine pk0 (v := pt N3 3) h137 rfl fun a176 h176 => ?_; clear h137
    refine pk (v := .agg #[.int .i64 d.ep, mv, .int .u64 d.fl]) h176 rfl (rn_loadN rfl rfl Tryz.underlying26 rfl (by kernel_rfl) (blk_part hk19 3 (by rfl))) fun a177 h177 => ?_; clear h176
    refine pk0 (v := pt N11 3) h177 rfl fun a178 h178 => ?_; clear h177
    refine pk (v := .agg #[.int .i64 d2.ep, mv2, .int .u64 d2.fl]) h178 rfl (rn_loadN rfl rfl Tryz.underlying26 rfl (by kernel_rfl) (blk_part hk13 3 (by rfl))) fun a179 h179 => ?_; clear h178
    refine pw h179 rfl (op_call (args := #[.agg #[.int .i64 d.ep, mv, .int .u64 d.fl], .agg #[.int .i64 d2.ep, mv2, .int .u64 d2.fl]]) (R := fun res xw => res = .bool (sameCf d.ep d.ms d.fl d2.ep d2.ms d2.fl) ∧ Below w10.heap.size w10 xw) rfl rfl rfl (by kernel_rfl) (by kernel_rfl) (Tryz.call88 _ _) (wsame_any d.ep mv d.ms d.fl d2.ep mv2 d2.ms d2.fl w10 (hm.below hB27) hR.mem (by omega) (by omega) (hm2.below hB27) hR2.mem (by omega) (by omega)) (by rintro e x ⟨rfl, hb182⟩; exact ⟨_, rfl, ⟨rfl, hb182⟩⟩)) ?_; clear h179
    rintro _ w181 a180 ⟨rfl, hb182⟩ h180
    have hz183 := hb182.size
    refine pk0 (v := .bool (sameCf d.ep d.ms d.fl d2.ep d2.ms d2.fl)) h180 rfl fun a184 h184 => ?_; clear h180
    refine pk0 (v := .bool (sameCf d.ep d.ms d.fl d2.ep d2.ms d2.fl)) h184 rfl fun a185 h185 => ?_; clear h184
    have hB187 := hb_call hB27 hb182
    cases hc186 : (sameCf d.ep d.ms d.fl d2.ep d2.ms d2.fl)
    ·
     rw [hc186] at h185
     refine psk h185 rfl fun a188 h188 => ?_; clear h185
     refine psk h188 rfl fun a189 h189 => ?_; clear h188
     refine psk h189 rfl fun a190 h190 => ?_; clear h189
     refine psk h190 rfl fun a191 h191 => ?_; clear h190
     refine psk h191 rfl fun a192 h192 => ?_; clear h191
     refine pk0 (v := .bool false) h192 rfl fun a193 h193 => ?_; clear h192
     refine pk0 (v := .bool false) h193 rfl fun a194 h194 => ?_; clear h193
     refine psk h194 rfl fun a195 h195 => ?_; clear h194
     refine psk h195 rfl fun a196 h196 => ?_; clear h195
     refine psk h196 rfl fun a197 h197 => ?_; clear h196
     refine psk h197 rfl fun a198 h198 => ?_; clear h197
     refine psk h198 rfl fun a199 h199 => ?_; clear h198
     refine pk0 (v := .bool false) h199 rfl fun a200 h200 => ?_; clear h199
     refine pk0 (v := .bool false) h200 rfl fun a201 h201 => ?_; clear h200
     refine psk h201 rfl fun a202 h202 => ?_; clear h201
     refine psk h202 rfl fun a203 h203 => ?_; clear h202
     refine psk h203 rfl fun a204 h204 => ?_; clear h203
     refine psk h204 rfl fun a205 h205 => ?_; clear h204
     refine psk h205 rfl fun a206 h206 => ?_; clear h205
     refine pk0 (v := .bool false) h206 rfl fun a207 h207 => ?_; clear h206
     refine pk0 (v := .bool false) h207 rfl fun a208 h208 => ?_; clear h207
     refine psk h208 rfl fun a209 h209 => ?_; clear h208
     refine psk h209 rfl fun a210 h210 => ?_; clear h209
     refine psk h210 rfl fun a211 h211 => ?_; clear h210
     refine psk h211 rfl fun a212 h212 => ?_; clear h211
     refine psk h212 rfl fun a213 h213 => ?_; clear h212
     refine pk0 (v := .bool false) h213 rfl fun a214 h214 => ?_; clear h213
     refine pk0 (v := .bool false) h214 rfl fun a215 h215 => ?_; clear h214
     refine pl_nil ?_
     refine co_then ?_
     refine wp_ret ?_
     refine co_ret1 h215 rfl rfl ?_
     exact ⟨ret_bool (by rw [sameN_y (by omega)]; exact s_a (by assumption)), hB187⟩
    ·
     rw [hc186] at h185
     refine pk0 (v := pt N3 6) h185 rfl fun a216 h216 => ?_; clear h185
     have hk217 := hk19.below hb182
     refine pk (v := lv) h216 rfl (rn_load1 rfl rfl Tryz.isAgg50 (hk217.cell rfl)) fun a218 h218 => ?_; clear h216
     refine pk0 (v := pt N11 6) h218 rfl fun a219 h219 => ?_; clear h218
     have hk220 := hk13.below hb182
     refine pk (v := lv2) h219 rfl (rn_load1 rfl rfl Tryz.isAgg50 (hk220.cell rfl)) fun a221 h221 => ?_; clear h219
     refine pw h221 rfl (op_call (args := #[lv, lv2]) (R := fun res xw => res = .bool (sameI d.lg d2.lg) ∧ Below w181.heap.size w181 xw) rfl rfl rfl (by kernel_rfl) (by kernel_rfl) (Tryz.call89 _ _) (nEqInts_any lv d.lg lv2 d2.lg w181 (hg.below hB187) (hg2.below hB187)) (by rintro e x ⟨rfl, hb224⟩; exact ⟨_, rfl, ⟨rfl, hb224⟩⟩)) ?_; clear h221
     rintro _ w223 a222 ⟨rfl, hb224⟩ h222
     have hz225 := hb224.size
     refine pk0 (v := .bool (sameI d.lg d2.lg)) h222 rfl fun a226 h226 => ?_; clear h222
     refine pk0 (v := .bool (sameI d.lg d2.lg)) h226 rfl fun a227 h227 => ?_; clear h226
     have hB229 := hb_call hB187 hb224
     cases hc228 : (sameI d.lg d2.lg)
     ·
      rw [hc228] at h227
      refine psk h227 rfl fun a230 h230 => ?_; clear h227
      refine psk h230 rfl fun a231 h231 => ?_; clear h230
      refine psk h231 rfl fun a232 h232 => ?_; clear h231
      refine psk h232 rfl fun a233 h233 => ?_; clear h232
      refine psk h233 rfl fun a234 h234 => ?_; clear h233
      refine pk0 (v := .bool false) h234 rfl fun a235 h235 => ?_; clear h234
      refine pk0 (v := .bool false) h235 rfl fun a236 h236 => ?_; clear h235
      refine psk h236 rfl fun a237 h237 => ?_; clear h236
      refine psk h237 rfl fun a238 h238 => ?_; clear h237
      refine psk h238 rfl fun a239 h239 => ?_; clear h238
      refine psk h239 rfl fun a240 h240 => ?_; clear h239
      refine psk h240 rfl fun a241 h241 => ?_; clear h240
      refine pk0 (v := .bool false) h241 rfl fun a242 h242 => ?_; clear h241
      refine pk0 (v := .bool false) h242 rfl fun a243 h243 => ?_; clear h242
      refine psk h243 rfl fun a244 h244 => ?_; clear h243
      refine psk h244 rfl fun a245 h245 => ?_; clear h244
      refine psk h245 rfl fun a246 h246 => ?_; clear h245
      refine psk h246 rfl fun a247 h247 => ?_; clear h246
      refine psk h247 rfl fun a248 h248 => ?_; clear h247
      refine pk0 (v := .bool false) h248 rfl fun a249 h249 => ?_; clear h248
      refine pk0 (v := .bool false) h249 rfl fun a250 h250 => ?_; clear h249
      refine pl_nil ?_
      refine co_then ?_
      refine wp_ret ?_
      refine co_ret1 h250 rfl rfl ?_
      exact ⟨ret_bool (by rw [sameN_y (by omega)]; exact s_b (by assumption) (by assumption)), hB229⟩
     ·
      rw [hc228] at h227
      refine pk0 (v := pt N3 7) h227 rfl fun a251 h251 => ?_; clear h227
      have hk252 := hk217.below hb224
      refine pk (v := .agg #[.int .i64 d.ec, .int .i64 d.er, ev, .int .u64 d.ets]) h251 rfl (rn_loadN rfl rfl Tryz.underlying52 rfl (by kernel_rfl) (blk_part hk252 7 (by rfl))) fun a253 h253 => ?_; clear h251
      refine pk0 (v := pt N11 7) h253 rfl fun a254 h254 => ?_; clear h253
      have hk255 := hk220.below hb224
      refine pk (v := .agg #[.int .i64 d2.ec, .int .i64 d2.er, ev2, .int .u64 d2.ets]) h254 rfl (rn_loadN rfl rfl Tryz.underlying52 rfl (by kernel_rfl) (blk_part hk255 7 (by rfl))) fun a256 h256 => ?_; clear h254
      refine pw h256 rfl (op_call (args := #[.agg #[.int .i64 d.ec, .int .i64 d.er, ev, .int .u64 d.ets], .agg #[.int .i64 d2.ec, .int .i64 d2.er, ev2, .int .u64 d2.ets]]) (R := fun res xw => res = .bool (sameE d.ec d.er d.el d.ets d2.ec d2.er d2.el d2.ets) ∧ Below w223.heap.size w223 xw) rfl rfl rfl (by kernel_rfl) (by kernel_rfl) (Tryz.call90 _ _) (itemSame_any d.ec d.er ev d.el d.ets d2.ec d2.er ev2 d2.el d2.ets w223 (he.below hB229) (he2.below hB229)) (by rintro e x ⟨rfl, hb259⟩; exact ⟨_, rfl, ⟨rfl, hb259⟩⟩)) ?_; clear h256
      rintro _ w258 a257 ⟨rfl, hb259⟩ h257
      have hz260 := hb259.size
      refine pk0 (v := .bool (sameE d.ec d.er d.el d.ets d2.ec d2.er d2.el d2.ets)) h257 rfl fun a261 h261 => ?_; clear h257
      refine pk0 (v := .bool (sameE d.ec d.er d.el d.ets d2.ec d2.er d2.el d2.ets)) h261 rfl fun a262 h262 => ?_; clear h261
      have hB264 := hb_call hB229 hb259
      cases hc263 : (sameE d.ec d.er d.el d.ets d2.ec d2.er d2.el d2.ets)
      ·
       rw [hc263] at h262
       refine psk h262 rfl fun a265 h265 => ?_; clear h262
       refine psk h265 rfl fun a266 h266 => ?_; clear h265
       refine psk h266 rfl fun a267 h267 => ?_; clear h266
       refine psk h267 rfl fun a268 h268 => ?_; clear h267
       refine psk h268 rfl fun a269 h269 => ?_; clear h268
       refine pk0 (v := .bool false) h269 rfl fun a270 h270 => ?_; clear h269
       refine pk0 (v := .bool false) h270 rfl fun a271 h271 => ?_; clear h270
       refine psk h271 rfl fun a272 h272 => ?_; clear h271
       refine psk h272 rfl fun a273 h273 => ?_; clear h272
       refine psk h273 rfl fun a274 h274 => ?_; clear h273
       refine psk h274 rfl fun a275 h275 => ?_; clear h274
       refine psk h275 rfl fun a276 h276 => ?_; clear h275
       refine pk0 (v := .bool false) h276 rfl fun a277 h277 => ?_; clear h276
       refine pk0 (v := .bool false) h277 rfl fun a278 h278 => ?_; clear h277
       refine pl_nil ?_
       refine co_then ?_
       refine wp_ret ?_
       refine co_ret1 h278 rfl rfl ?_
       exact ⟨ret_bool (by rw [sameN_y (by omega)]; exact s_c (by assumption) (by assumption) (by assumption)), hB264⟩
      ·
       rw [hc263] at h262
       refine pk0 (v := pt N3 11) h262 rfl fun a279 h279 => ?_; clear h262
       have hk280 := hk252.below hb259
       refine pk (v := .agg #[.int .i64 d.pid, .int .u64 d.pat, .int .i64 d.plf]) h279 rfl (rn_loadN rfl rfl Tryz.underlying54 rfl (by kernel_rfl) (blk_part hk280 11 (by rfl))) fun a281 h281 => ?_; clear h279
       refine pk0 (v := pt N11 11) h281 rfl fun a282 h282 => ?_; clear h281
       have hk283 := hk255.below hb259
       refine pk (v := .agg #[.int .i64 d2.pid, .int .u64 d2.pat, .int .i64 d2.plf]) h282 rfl (rn_loadN rfl rfl Tryz.underlying54 rfl (by kernel_rfl) (blk_part hk283 11 (by rfl))) fun a284 h284 => ?_; clear h282
       refine pk (v := .bool (d.pid == d2.pid && d.pat == d2.pat && d.plf == d2.plf)) h284 rfl (rn_eqS rfl rfl rfl Tryz.eqGuardType54 (eq_pin _ _ _ _ _ _ _)) fun a285 h285 => ?_; clear h284
       refine pk0 (v := .bool (d.pid == d2.pid && d.pat == d2.pat && d.plf == d2.plf)) h285 rfl fun a286 h286 => ?_; clear h285
       refine pk0 (v := .bool (d.pid == d2.pid && d.pat == d2.pat && d.plf == d2.plf)) h286 rfl fun a287 h287 => ?_; clear h286
       cases hc288 : (d.pid == d2.pid && d.pat == d2.pat && d.plf == d2.plf)
       ·
        rw [hc288] at h287
        refine psk h287 rfl fun a289 h289 => ?_; clear h287
        refine psk h289 rfl fun a290 h290 => ?_; clear h289
        refine psk h290 rfl fun a291 h291 => ?_; clear h290
        refine psk h291 rfl fun a292 h292 => ?_; clear h291
        refine psk h292 rfl fun a293 h293 => ?_; clear h292
        refine pk0 (v := .bool false) h293 rfl fun a294 h294 => ?_; clear h293
        refine pk0 (v := .bool false) h294 rfl fun a295 h295 => ?_; clear h294
        refine pl_nil ?_
        refine co_then ?_
        refine wp_ret ?_
        refine co_ret1 h295 rfl rfl ?_
        exact ⟨ret_bool (by rw [sameN_y (by omega)]; exact s_d (by assumption) (by assumption) (by assumption) (by assumption)), hB264⟩
       ·
        rw [hc288] at h287
        refine pk0 (v := pt N3 14) h287 rfl fun a296 h296 => ?_; clear h287
        refine pk (v := .agg #[.int .i64 d.sc, .int .i64 d.sr, .int .i64 d.se, .int .i64 d.sp]) h296 rfl (rn_loadN rfl rfl Tryz.underlying56 rfl (by kernel_rfl) (blk_part hk280 14 (by rfl))) fun a297 h297 => ?_; clear h296
        refine pk0 (v := pt N11 14) h297 rfl fun a298 h298 => ?_; clear h297
        refine pk (v := .agg #[.int .i64 d2.sc, .int .i64 d2.sr, .int .i64 d2.se, .int .i64 d2.sp]) h298 rfl (rn_loadN rfl rfl Tryz.underlying56 rfl (by kernel_rfl) (blk_part hk283 14 (by rfl))) fun a299 h299 => ?_; clear h298
        refine pk (v := .bool (d.sc == d2.sc && d.sr == d2.sr && d.se == d2.se && d.sp == d2.sp)) h299 rfl (rn_eqS rfl rfl rfl Tryz.eqGuardType56 (eq_said _ _ _ _ _ _ _ _ _)) fun a300 h300 => ?_; clear h299
        refine pk0 (v := .bool (d.sc == d2.sc && d.sr == d2.sr && d.se == d2.se && d.sp == d2.sp)) h300 rfl fun a301 h301 => ?_; clear h300
        refine pk0 (v := .bool (d.sc == d2.sc && d.sr == d2.sr && d.se == d2.se && d.sp == d2.sp)) h301 rfl fun a302 h302 => ?_; clear h301
        refine pl_nil ?_
        refine co_then ?_
        refine wp_ret ?_
        refine co_ret1 h302 rfl rfl ?_
        exact ⟨ret_bool (by rw [sameN_y (by omega)]; exact s_e (by assumption) (by assumption) (by assumption) (by assumption)), hB264⟩
set_option maxRecDepth 100000 in
theorem rnClean_any (d : NoteD) (mv : Value) (lv : Value) (ev : Value) (w : World) (hm : SliceOf memE 2 w mv d.ms) (hg : SliceOf (intE .i64) 1 w lv d.lg) (he : SliceOf opE 3 w ev d.el) (hR : NoteR d) :
    Calls Tryz.prog 26 #[.agg #[.int .i64 d.k, .int .i64 d.n, .int .u64 d.t, .int .i64 d.ep, mv, .int .u64 d.fl, lv, .int .i64 d.ec, .int .i64 d.er, ev, .int .u64 d.ets, .int .i64 d.pid, .int .u64 d.pat, .int .i64 d.plf, .int .i64 d.sc, .int .i64 d.sr, .int .i64 d.se, .int .i64 d.sp]] w fun e w' => ∃ (cm : Value) (cl : Value) (ce : Value), e = .returned (.agg #[.int .i64 ((cleanN d).k), .int .i64 ((cleanN d).n), .int .u64 ((cleanN d).t), .int .i64 ((cleanN d).ep), cm, .int .u64 ((cleanN d).fl), cl, .int .i64 ((cleanN d).ec), .int .i64 ((cleanN d).er), ce, .int .u64 ((cleanN d).ets), .int .i64 ((cleanN d).pid), .int .u64 ((cleanN d).pat), .int .i64 ((cleanN d).plf), .int .i64 ((cleanN d).sc), .int .i64 ((cleanN d).sr), .int .i64 ((cleanN d).se), .int .i64 ((cleanN d).sp)]) ∧ CleanV d mv lv ev cm cl ce ∧ Below w.heap.size w w' := by
 have hB0 := Below.refl w.heap.size w
 have hl_hm := sl_len hm
 have hl_hg := sl_len hg
 have hl_he := sl_len he
 refine co_enter (n := 52) Tryz.func26 rfl rfl rfl [(0, .agg #[.int .i64 d.k, .int .i64 d.n, .int .u64 d.t, .int .i64 d.ep, mv, .int .u64 d.fl, lv, .int .i64 d.ec, .int .i64 d.er, ev, .int .u64 d.ets, .int .i64 d.pid, .int .u64 d.pat, .int .i64 d.plf, .int .i64 d.sc, .int .i64 d.sr, .int .i64 d.se, .int .i64 d.sp])] rfl (fun a h0 => ?_)
 refine co_seq ?_
 refine co_reg ?_
 refine pw h0 rfl (op_new (v := fun N => pt N 0) (T := 58) (cs := #[.int .i64 d.k, .int .i64 d.n, .int .u64 d.t, .int .i64 d.ep, mv, .int .u64 d.fl, lv, .int .i64 d.ec, .int .i64 d.er, ev, .int .u64 d.ets, .int .i64 d.pid, .int .u64 d.pat, .int .i64 d.plf, .int .i64 d.sc, .int .i64 d.sr, .int .i64 d.se, .int .i64 d.sp]) (by kernel_rfl) (by kernel_rfl) (by kernel_rfl)) ?_; clear h0
 rintro _ w2 a1 ⟨N3, rfl, hN6, hz7, hk5, hg4⟩ h1
 have hz8 := hg4.size
 try dsimp only at h1
 refine pw h1 rfl (op_new (v := fun N => pt N 0) (T := 58) (cs := #[.int .i64 0, .int .i64 0, .int .u64 0, .int .i64 0, .slice none 0 0, .int .u64 0, .slice none 0 0, .int .i64 0, .int .i64 0, .slice none 0 0, .int .u64 0, .int .i64 0, .int .u64 0, .int .i64 0, .int .i64 0, .int .i64 0, .int .i64 0, .int .i64 0]) (by kernel_rfl) (by kernel_rfl) (by kernel_rfl)) ?_; clear h1
 rintro _ w10 a9 ⟨N11, rfl, hN14, hz15, hk13, hg12⟩ h9
 have hz16 := hg12.size
 try dsimp only at h9
 refine pl_nil ?_
 refine co_then ?_
 refine co_seq ?_
 refine co_reg ?_
 refine pk0 (v := pt N3 0) h9 rfl fun a17 h17 => ?_; clear h9
 have hk18 := hk5.kept hg12 (by simp)
 refine pk (v := .int .i64 d.k) h17 rfl (rn_load1 rfl rfl Tryz.isAgg3 (hk18.cell rfl)) fun a19 h19 => ?_; clear h17
 refine pk0 (v := .agg #[.int .i64 d.k, .int .i64 0, .int .u64 0, .int .i64 0, .slice none 0 0, .int .u64 0, .slice none 0 0, .int .i64 0, .int .i64 0, .slice none 0 0, .int .u64 0, .int .i64 0, .int .u64 0, .int .i64 0, .int .i64 0, .int .i64 0, .int .i64 0, .int .i64 0]) h19 rfl fun a20 h20 => ?_; clear h19
 refine pw h20 rfl (op_new (v := fun N => pt N 0) (T := 58) (cs := #[.int .i64 0, .int .i64 0, .int .u64 0, .int .i64 0, .slice none 0 0, .int .u64 0, .slice none 0 0, .int .i64 0, .int .i64 0, .slice none 0 0, .int .u64 0, .int .i64 0, .int .u64 0, .int .i64 0, .int .i64 0, .int .i64 0, .int .i64 0, .int .i64 0]) (by kernel_rfl) (by kernel_rfl) (by kernel_rfl)) ?_; clear h20
 rintro _ w22 a21 ⟨N23, rfl, hN26, hz27, hk25, hg24⟩ h21
 have hz28 := hg24.size
 try dsimp only at h21
 refine pwD h21 rfl (op_storeN rfl rfl rfl (all_cons rfl (all_cons rfl (all_cons rfl (all_cons rfl (all_cons rfl (all_cons rfl (all_cons rfl (all_cons rfl (all_cons rfl (all_cons rfl (all_cons rfl (all_cons rfl (all_cons rfl (all_cons rfl (all_cons rfl (all_cons rfl (all_cons rfl (all_cons rfl all_nil)))))))))))))))))) (by kernel_rfl) hk25 rfl) ?_; clear h21
 rintro _ w30 a29 ⟨hk31, hz32, hg33⟩ h29
 have hk31' : Blk w30 N23 58 #[.int .i64 d.k, .int .i64 0, .int .u64 0, .int .i64 0, .slice none 0 0, .int .u64 0, .slice none 0 0, .int .i64 0, .int .i64 0, .slice none 0 0, .int .u64 0, .int .i64 0, .int .u64 0, .int .i64 0, .int .i64 0, .int .i64 0, .int .i64 0, .int .i64 0] := hk31; clear hk31
 have hz34 := hg33.size
 refine pl_nil ?_
 refine co_then ?_
 refine co_seq ?_
 refine co_seq ?_
 refine co_reg ?_
 refine pk0 (v := pt N3 0) h29 rfl fun a35 h35 => ?_; clear h29
 have hk36 := hk18.kept hg24 (by simp)
 have hk37 := hk36.kept hg33 (by simp; omega)
 refine pk (v := .int .i64 d.k) h35 rfl (rn_load1 rfl rfl Tryz.isAgg3 (hk37.cell rfl)) fun a38 h38 => ?_; clear h35
 refine pl_nil ?_
 refine co_then ?_
 refine wp_block ?_
 refine co_seq ?_
 refine co_reg ?_
 refine pk0 (v := .bool (d.k == 1)) h38 rfl fun a39 h39 => ?_; clear h38
 refine pk0 (v := .bool (d.k == 1)) h39 rfl fun a40 h40 => ?_; clear h39
 refine pl_nil ?_
 refine co_then ?_
 have hB42 := hb_new hB0 hg4
 have hB43 := hb_new hB42 hg12
 have hB44 := hb_new hB43 hg24
 have hB45 := hb_at hB44 hg33 (by omega)
 have hk46 := hk13.kept hg24 (by simp)
 have hk47 := hk46.kept hg33 (by simp; omega)
 cases hc41 : (d.k == 1)
 ·
  rw [hc41] at h40
  have hp48 : ¬ (d.k = 1) := by first | simpa using hc41 | simpa [and_assoc] using hc41
  clear hc41
  refine co_false h40 rfl ?_
  refine co_seq ?_
  refine co_reg ?_
  refine pk0 (v := .bool (d.k == 2)) h40 rfl fun a49 h49 => ?_; clear h40
  refine pk0 (v := .bool (d.k == 2)) h49 rfl fun a50 h50 => ?_; clear h49
  refine pl_nil ?_
  refine co_then ?_
  cases hc51 : (d.k == 2)
  ·
   rw [hc51] at h50
   have hp52 : ¬ (d.k = 2) := by first | simpa using hc51 | simpa [and_assoc] using hc51
   clear hc51
   refine co_false h50 rfl ?_
   refine co_seq ?_
   refine co_seq ?_
   refine co_reg ?_
   refine pk0 (v := .bool (d.k == 3)) h50 rfl fun a53 h53 => ?_; clear h50
   refine pk0 (v := .bool (d.k == 3)) h53 rfl fun a54 h54 => ?_; clear h53
   refine pl_nil ?_
   refine co_then ?_
   cases hc55 : (d.k == 3)
   ·
    rw [hc55] at h54
    have hp56 : ¬ (d.k = 3) := by first | simpa using hc55 | simpa [and_assoc] using hc55
    clear hc55
    refine co_false h54 rfl ?_
    refine co_reg ?_
    refine pk0 (v := .bool (d.k == 4)) h54 rfl fun a57 h57 => ?_; clear h54
    refine pk0 (v := .bool (d.k == 4)) h57 rfl fun a58 h58 => ?_; clear h57
    refine pl_nil ?_
    refine co_then ?_
    cases hc59 : (d.k == 4)
    ·
     rw [hc59] at h58
     have hp60 : ¬ (d.k = 4) := by first | simpa using hc59 | simpa [and_assoc] using hc59
     clear hc59
     refine co_false h58 rfl ?_
     refine co_seq ?_
     refine co_seq ?_
     refine co_reg ?_
     refine pk0 (v := .bool (d.k == 5)) h58 rfl fun a61 h61 => ?_; clear h58
     refine pk0 (v := .bool (d.k == 5)) h61 rfl fun a62 h62 => ?_; clear h61
     refine pl_nil ?_
     refine co_then ?_
     cases hc63 : (d.k == 5)
     ·
      rw [hc63] at h62
      have hp64 : ¬ (d.k = 5) := by first | simpa using hc63 | simpa [and_assoc] using hc63
      clear hc63
      refine co_false h62 rfl ?_
      refine co_reg ?_
      refine pk0 (v := .bool (d.k == 7)) h62 rfl fun a65 h65 => ?_; clear h62
      refine pk0 (v := .bool (d.k == 7)) h65 rfl fun a66 h66 => ?_; clear h65
      refine pl_nil ?_
      refine co_then ?_
      cases hc67 : (d.k == 7)
      ·
       rw [hc67] at h66
       have hp68 : ¬ (d.k = 7) := by first | simpa using hc67 | simpa [and_assoc] using hc67
       clear hc67
       refine co_false h66 rfl ?_
       refine co_seq ?_
       refine co_reg ?_
       refine pk0 (v := .bool (d.k == 6)) h66 rfl fun a69 h69 => ?_; clear h66
       refine pk0 (v := .bool (d.k == 6)) h69 rfl fun a70 h70 => ?_; clear h69
       refine pl_nil ?_
       refine co_then ?_
       cases hc71 : (d.k == 6)
       ·
        rw [hc71] at h70
        have hp72 : ¬ (d.k = 6) := by first | simpa using hc71 | simpa [and_assoc] using hc71
        clear hc71
        refine co_false h70 rfl ?_
        refine co_seq ?_
        refine co_reg ?_
        refine pk0 (v := .bool (d.k == 8)) h70 rfl fun a73 h73 => ?_; clear h70
        refine pk0 (v := .bool (d.k == 8)) h73 rfl fun a74 h74 => ?_; clear h73
        refine pl_nil ?_
        refine co_then ?_
        cases hc75 : (d.k == 8)
        ·
         rw [hc75] at h74
         have hp76 : ¬ (d.k = 8) := by first | simpa using hc75 | simpa [and_assoc] using hc75
         clear hc75
         refine co_false h74 rfl ?_
         refine co_seq ?_
         refine co_reg ?_
         refine pk0 (v := .agg #[.int .i64 0, .int .i64 0, .int .u64 0, .int .i64 0, .slice none 0 0, .int .u64 0, .slice none 0 0, .int .i64 0, .int .i64 0, .slice none 0 0, .int .u64 0, .int .i64 0, .int .u64 0, .int .i64 0, .int .i64 0, .int .i64 0, .int .i64 0, .int .i64 0]) h74 rfl fun a77 h77 => ?_; clear h74
         refine pwD h77 rfl (op_storeN rfl rfl rfl (all_cons rfl (all_cons rfl (all_cons rfl (all_cons rfl (all_cons rfl (all_cons rfl (all_cons rfl (all_cons rfl (all_cons rfl (all_cons rfl (all_cons rfl (all_cons rfl (all_cons rfl (all_cons rfl (all_cons rfl (all_cons rfl (all_cons rfl (all_cons rfl all_nil)))))))))))))))))) (by kernel_rfl) hk47 rfl) ?_; clear h77
         rintro _ w79 a78 ⟨hk80, hz81, hg82⟩ h78
         have hk80' : Blk w79 N11 58 #[.int .i64 0, .int .i64 0, .int .u64 0, .int .i64 0, .slice none 0 0, .int .u64 0, .slice none 0 0, .int .i64 0, .int .i64 0, .slice none 0 0, .int .u64 0, .int .i64 0, .int .u64 0, .int .i64 0, .int .i64 0, .int .i64 0, .int .i64 0, .int .i64 0] := hk80; clear hk80
         have hz83 := hg82.size
         refine pl_nil ?_
         refine co_then ?_
         refine wp_ret ?_
         refine co_blockR ?_
         refine co_thenR ?_
         refine co_retC (Q := fun _ _ _ => True) h78 rfl rfl hk80' Tryz.underlying58 rfl (by kernel_rfl) ?_
         have hB84 := hb_at hB45 hg82 (by omega)
         have hcl := cl_0 (d := d) (by omega)
         refine ⟨.slice none 0 0, .slice none 0 0, .slice none 0 0, by rw [hcl]; rfl, ?_, hB84⟩
         unfold CleanV; rw [hcl]
         exact ⟨fun _ hx => by first | exact hx | exact sl_nil _, fun _ hx => by first | exact hx | exact sl_nil _, fun _ hx => by first | exact hx | exact sl_nil _⟩
        ·
         rw [hc75] at h74
         have hp85 : d.k = 8 := by first | simpa using hc75 | simpa [and_assoc] using hc75
         clear hc75
         refine co_true h74 rfl ?_
         refine co_reg ?_
         refine pk0 (v := pt N3 14) h74 rfl fun a86 h86 => ?_; clear h74
         refine pk (v := .agg #[.int .i64 d.sc, .int .i64 d.sr, .int .i64 d.se, .int .i64 d.sp]) h86 rfl (rn_loadN rfl rfl Tryz.underlying56 rfl (by kernel_rfl) (blk_part hk37 14 (by rfl))) fun a87 h87 => ?_; clear h86
         refine pk0 (v := pt N23 14) h87 rfl fun a88 h88 => ?_; clear h87
         refine pwD h88 rfl (op_storePart (k := 14) (cs' := #[.int .i64 d.k, .int .i64 0, .int .u64 0, .int .i64 0, .slice none 0 0, .int .u64 0, .slice none 0 0, .int .i64 0, .int .i64 0, .slice none 0 0, .int .u64 0, .int .i64 0, .int .u64 0, .int .i64 0, .int .i64 d.sc, .int .i64 d.sr, .int .i64 d.se, .int .i64 d.sp]) rfl rfl rfl (by kernel_rfl) (by kernel_rfl) hk31' rfl rfl) ?_; clear h88
         rintro _ w90 a89 ⟨hk91, hz92, hg93⟩ h89
         have hk91' : Blk w90 N23 58 #[.int .i64 d.k, .int .i64 0, .int .u64 0, .int .i64 0, .slice none 0 0, .int .u64 0, .slice none 0 0, .int .i64 0, .int .i64 0, .slice none 0 0, .int .u64 0, .int .i64 0, .int .u64 0, .int .i64 0, .int .i64 d.sc, .int .i64 d.sr, .int .i64 d.se, .int .i64 d.sp] := hk91; clear hk91
         have hz94 := hg93.size
         refine pl_nil ?_
         refine co_blockN ?_
         refine co_then ?_
         refine co_seq ?_
         refine co_reg ?_
         refine pk (v := .agg #[.int .i64 d.k, .int .i64 0, .int .u64 0, .int .i64 0, .slice none 0 0, .int .u64 0, .slice none 0 0, .int .i64 0, .int .i64 0, .slice none 0 0, .int .u64 0, .int .i64 0, .int .u64 0, .int .i64 0, .int .i64 d.sc, .int .i64 d.sr, .int .i64 d.se, .int .i64 d.sp]) h89 rfl (rn_loadN rfl rfl Tryz.underlying58 rfl (by kernel_rfl) hk91'.all) fun a95 h95 => ?_; clear h89
         have hk101 := hk47.kept hg93 (by simp; omega)
         refine pwD h95 rfl (op_storeN rfl rfl rfl (all_cons rfl (all_cons rfl (all_cons rfl (all_cons rfl (all_cons rfl (all_cons rfl (all_cons rfl (all_cons rfl (all_cons rfl (all_cons rfl (all_cons rfl (all_cons rfl (all_cons rfl (all_cons rfl (all_cons rfl (all_cons rfl (all_cons rfl (all_cons rfl all_nil)))))))))))))))))) (by kernel_rfl) hk101 rfl) ?_; clear h95
         rintro _ w97 a96 ⟨hk98, hz99, hg100⟩ h96
         have hk98' : Blk w97 N11 58 #[.int .i64 d.k, .int .i64 0, .int .u64 0, .int .i64 0, .slice none 0 0, .int .u64 0, .slice none 0 0, .int .i64 0, .int .i64 0, .slice none 0 0, .int .u64 0, .int .i64 0, .int .u64 0, .int .i64 0, .int .i64 d.sc, .int .i64 d.sr, .int .i64 d.se, .int .i64 d.sp] := hk98; clear hk98
         have hz102 := hg100.size
         refine pl_nil ?_
         refine co_then ?_
         refine wp_ret ?_
         refine co_retC (Q := fun _ _ _ => True) h96 rfl rfl hk98' Tryz.underlying58 rfl (by kernel_rfl) ?_
         have hB103 := hb_at hB45 hg93 (by omega)
         have hB104 := hb_at hB103 hg100 (by omega)
         have hcl := cl_8 (d := d) (by omega)
         refine ⟨.slice none 0 0, .slice none 0 0, .slice none 0 0, by rw [hcl]; rfl, ?_, hB104⟩
         unfold CleanV; rw [hcl]
         exact ⟨fun _ hx => by first | exact hx | exact sl_nil _, fun _ hx => by first | exact hx | exact sl_nil _, fun _ hx => by first | exact hx | exact sl_nil _⟩
       ·
        rw [hc71] at h70
        have hp105 : d.k = 6 := by first | simpa using hc71 | simpa [and_assoc] using hc71
        clear hc71
        refine co_true h70 rfl ?_
        refine co_reg ?_
        refine pk0 (v := pt N3 11) h70 rfl fun a106 h106 => ?_; clear h70
        refine pk (v := .agg #[.int .i64 d.pid, .int .u64 d.pat, .int .i64 d.plf]) h106 rfl (rn_loadN rfl rfl Tryz.underlying54 rfl (by kernel_rfl) (blk_part hk37 11 (by rfl))) fun a107 h107 => ?_; clear h106
        refine pk0 (v := pt N23 11) h107 rfl fun a108 h108 => ?_; clear h107
        refine pwD h108 rfl (op_storePart (k := 11) (cs' := #[.int .i64 d.k, .int .i64 0, .int .u64 0, .int .i64 0, .slice none 0 0, .int .u64 0, .slice none 0 0, .int .i64 0, .int .i64 0, .slice none 0 0, .int .u64 0, .int .i64 d.pid, .int .u64 d.pat, .int .i64 d.plf, .int .i64 0, .int .i64 0, .int .i64 0, .int .i64 0]) rfl rfl rfl (by kernel_rfl) (by kernel_rfl) hk31' rfl rfl) ?_; clear h108
        rintro _ w110 a109 ⟨hk111, hz112, hg113⟩ h109
        have hk111' : Blk w110 N23 58 #[.int .i64 d.k, .int .i64 0, .int .u64 0, .int .i64 0, .slice none 0 0, .int .u64 0, .slice none 0 0, .int .i64 0, .int .i64 0, .slice none 0 0, .int .u64 0, .int .i64 d.pid, .int .u64 d.pat, .int .i64 d.plf, .int .i64 0, .int .i64 0, .int .i64 0, .int .i64 0] := hk111; clear hk111
        have hz114 := hg113.size
        refine pl_nil ?_
        refine co_blockN ?_
        refine co_then ?_
        refine co_seq ?_
        refine co_reg ?_
        refine pk (v := .agg #[.int .i64 d.k, .int .i64 0, .int .u64 0, .int .i64 0, .slice none 0 0, .int .u64 0, .slice none 0 0, .int .i64 0, .int .i64 0, .slice none 0 0, .int .u64 0, .int .i64 d.pid, .int .u64 d.pat, .int .i64 d.plf, .int .i64 0, .int .i64 0, .int .i64 0, .int .i64 0]) h109 rfl (rn_loadN rfl rfl Tryz.underlying58 rfl (by kernel_rfl) hk111'.all) fun a115 h115 => ?_; clear h109
        have hk121 := hk47.kept hg113 (by simp; omega)
        refine pwD h115 rfl (op_storeN rfl rfl rfl (all_cons rfl (all_cons rfl (all_cons rfl (all_cons rfl (all_cons rfl (all_cons rfl (all_cons rfl (all_cons rfl (all_cons rfl (all_cons rfl (all_cons rfl (all_cons rfl (all_cons rfl (all_cons rfl (all_cons rfl (all_cons rfl (all_cons rfl (all_cons rfl all_nil)))))))))))))))))) (by kernel_rfl) hk121 rfl) ?_; clear h115
        rintro _ w117 a116 ⟨hk118, hz119, hg120⟩ h116
        have hk118' : Blk w117 N11 58 #[.int .i64 d.k, .int .i64 0, .int .u64 0, .int .i64 0, .slice none 0 0, .int .u64 0, .slice none 0 0, .int .i64 0, .int .i64 0, .slice none 0 0, .int .u64 0, .int .i64 d.pid, .int .u64 d.pat, .int .i64 d.plf, .int .i64 0, .int .i64 0, .int .i64 0, .int .i64 0] := hk118; clear hk118
        have hz122 := hg120.size
        refine pl_nil ?_
        refine co_then ?_
        refine wp_ret ?_
        refine co_retC (Q := fun _ _ _ => True) h116 rfl rfl hk118' Tryz.underlying58 rfl (by kernel_rfl) ?_
        have hB123 := hb_at hB45 hg113 (by omega)
        have hB124 := hb_at hB123 hg120 (by omega)
        have hcl := cl_6 (d := d) (by omega)
        refine ⟨.slice none 0 0, .slice none 0 0, .slice none 0 0, by rw [hcl]; rfl, ?_, hB124⟩
        unfold CleanV; rw [hcl]
        exact ⟨fun _ hx => by first | exact hx | exact sl_nil _, fun _ hx => by first | exact hx | exact sl_nil _, fun _ hx => by first | exact hx | exact sl_nil _⟩
      ·
       rw [hc67] at h66
       have hp125 : d.k = 7 := by first | simpa using hc67 | simpa [and_assoc] using hc67
       clear hc67
       refine co_true h66 rfl ?_
       refine co_reg ?_
       refine pk0 (v := pt N3 1) h66 rfl fun a126 h126 => ?_; clear h66
       refine pk (v := .int .i64 d.n) h126 rfl (rn_load1 rfl rfl Tryz.isAgg3 (hk37.cell rfl)) fun a127 h127 => ?_; clear h126
       refine pk0 (v := pt N23 1) h127 rfl fun a128 h128 => ?_; clear h127
       refine pwD h128 rfl (op_store1 rfl rfl rfl rfl Tryz.sizeOf3 hk31' rfl) ?_; clear h128
       rintro _ w130 a129 ⟨hk131, hz132, hg133⟩ h129
       have hk131' : Blk w130 N23 58 #[.int .i64 d.k, .int .i64 d.n, .int .u64 0, .int .i64 0, .slice none 0 0, .int .u64 0, .slice none 0 0, .int .i64 0, .int .i64 0, .slice none 0 0, .int .u64 0, .int .i64 0, .int .u64 0, .int .i64 0, .int .i64 0, .int .i64 0, .int .i64 0, .int .i64 0] := hk131; clear hk131
       have hz134 := hg133.size
       refine pl_nil ?_
       refine co_blockN ?_
       refine co_then ?_
       refine co_seq ?_
       refine co_reg ?_
       refine pk (v := .agg #[.int .i64 d.k, .int .i64 d.n, .int .u64 0, .int .i64 0, .slice none 0 0, .int .u64 0, .slice none 0 0, .int .i64 0, .int .i64 0, .slice none 0 0, .int .u64 0, .int .i64 0, .int .u64 0, .int .i64 0, .int .i64 0, .int .i64 0, .int .i64 0, .int .i64 0]) h129 rfl (rn_loadN rfl rfl Tryz.underlying58 rfl (by kernel_rfl) hk131'.all) fun a135 h135 => ?_; clear h129
       have hk141 := hk47.kept hg133 (by simp; omega)
       refine pwD h135 rfl (op_storeN rfl rfl rfl (all_cons rfl (all_cons rfl (all_cons rfl (all_cons rfl (all_cons rfl (all_cons rfl (all_cons rfl (all_cons rfl (all_cons rfl (all_cons rfl (all_cons rfl (all_cons rfl (all_cons rfl (all_cons rfl (all_cons rfl (all_cons rfl (all_cons rfl (all_cons rfl all_nil)))))))))))))))))) (by kernel_rfl) hk141 rfl) ?_; clear h135
       rintro _ w137 a136 ⟨hk138, hz139, hg140⟩ h136
       have hk138' : Blk w137 N11 58 #[.int .i64 d.k, .int .i64 d.n, .int .u64 0, .int .i64 0, .slice none 0 0, .int .u64 0, .slice none 0 0, .int .i64 0, .int .i64 0, .slice none 0 0, .int .u64 0, .int .i64 0, .int .u64 0, .int .i64 0, .int .i64 0, .int .i64 0, .int .i64 0, .int .i64 0] := hk138; clear hk138
       have hz142 := hg140.size
       refine pl_nil ?_
       refine co_then ?_
       refine wp_ret ?_
       refine co_retC (Q := fun _ _ _ => True) h136 rfl rfl hk138' Tryz.underlying58 rfl (by kernel_rfl) ?_
       have hB143 := hb_at hB45 hg133 (by omega)
       have hB144 := hb_at hB143 hg140 (by omega)
       have hcl := cl_5 (d := d) (by omega)
       refine ⟨.slice none 0 0, .slice none 0 0, .slice none 0 0, by rw [hcl]; rfl, ?_, hB144⟩
       unfold CleanV; rw [hcl]
       exact ⟨fun _ hx => by first | exact hx | exact sl_nil _, fun _ hx => by first | exact hx | exact sl_nil _, fun _ hx => by first | exact hx | exact sl_nil _⟩
     ·
      rw [hc63] at h62
      have hp145 : d.k = 5 := by first | simpa using hc63 | simpa [and_assoc] using hc63
      clear hc63
      refine co_true h62 rfl ?_
      refine wp_skip ?_
      refine co_then ?_
      refine co_true h62 rfl ?_
      refine co_reg ?_
      refine pk0 (v := pt N3 1) h62 rfl fun a146 h146 => ?_; clear h62
      refine pk (v := .int .i64 d.n) h146 rfl (rn_load1 rfl rfl Tryz.isAgg3 (hk37.cell rfl)) fun a147 h147 => ?_; clear h146
      refine pk0 (v := pt N23 1) h147 rfl fun a148 h148 => ?_; clear h147
      refine pwD h148 rfl (op_store1 rfl rfl rfl rfl Tryz.sizeOf3 hk31' rfl) ?_; clear h148
      rintro _ w150 a149 ⟨hk151, hz152, hg153⟩ h149
      have hk151' : Blk w150 N23 58 #[.int .i64 d.k, .int .i64 d.n, .int .u64 0, .int .i64 0, .slice none 0 0, .int .u64 0, .slice none 0 0, .int .i64 0, .int .i64 0, .slice none 0 0, .int .u64 0, .int .i64 0, .int .u64 0, .int .i64 0, .int .i64 0, .int .i64 0, .int .i64 0, .int .i64 0] := hk151; clear hk151
      have hz154 := hg153.size
      refine pl_nil ?_
      refine co_blockN ?_
      refine co_then ?_
      refine co_seq ?_
      refine co_reg ?_
      refine pk (v := .agg #[.int .i64 d.k, .int .i64 d.n, .int .u64 0, .int .i64 0, .slice none 0 0, .int .u64 0, .slice none 0 0, .int .i64 0, .int .i64 0, .slice none 0 0, .int .u64 0, .int .i64 0, .int .u64 0, .int .i64 0, .int .i64 0, .int .i64 0, .int .i64 0, .int .i64 0]) h149 rfl (rn_loadN rfl rfl Tryz.underlying58 rfl (by kernel_rfl) hk151'.all) fun a155 h155 => ?_; clear h149
      have hk161 := hk47.kept hg153 (by simp; omega)
      refine pwD h155 rfl (op_storeN rfl rfl rfl (all_cons rfl (all_cons rfl (all_cons rfl (all_cons rfl (all_cons rfl (all_cons rfl (all_cons rfl (all_cons rfl (all_cons rfl (all_cons rfl (all_cons rfl (all_cons rfl (all_cons rfl (all_cons rfl (all_cons rfl (all_cons rfl (all_cons rfl (all_cons rfl all_nil)))))))))))))))))) (by kernel_rfl) hk161 rfl) ?_; clear h155
      rintro _ w157 a156 ⟨hk158, hz159, hg160⟩ h156
      have hk158' : Blk w157 N11 58 #[.int .i64 d.k, .int .i64 d.n, .int .u64 0, .int .i64 0, .slice none 0 0, .int .u64 0, .slice none 0 0, .int .i64 0, .int .i64 0, .slice none 0 0, .int .u64 0, .int .i64 0, .int .u64 0, .int .i64 0, .int .i64 0, .int .i64 0, .int .i64 0, .int .i64 0] := hk158; clear hk158
      have hz162 := hg160.size
      refine pl_nil ?_
      refine co_then ?_
      refine wp_ret ?_
      refine co_retC (Q := fun _ _ _ => True) h156 rfl rfl hk158' Tryz.underlying58 rfl (by kernel_rfl) ?_
      have hB163 := hb_at hB45 hg153 (by omega)
      have hB164 := hb_at hB163 hg160 (by omega)
      have hcl := cl_5 (d := d) (by omega)
      refine ⟨.slice none 0 0, .slice none 0 0, .slice none 0 0, by rw [hcl]; rfl, ?_, hB164⟩
      unfold CleanV; rw [hcl]
      exact ⟨fun _ hx => by first | exact hx | exact sl_nil _, fun _ hx => by first | exact hx | exact sl_nil _, fun _ hx => by first | exact hx | exact sl_nil _⟩
    ·
     rw [hc59] at h58
     have hp165 : d.k = 4 := by first | simpa using hc59 | simpa [and_assoc] using hc59
     clear hc59
     refine co_true h58 rfl ?_
     refine co_seq ?_
     refine co_reg ?_
     refine pk0 (v := pt N3 1) h58 rfl fun a166 h166 => ?_; clear h58
     refine pk (v := .int .i64 d.n) h166 rfl (rn_load1 rfl rfl Tryz.isAgg3 (hk37.cell rfl)) fun a167 h167 => ?_; clear h166
     refine pk0 (v := pt N23 1) h167 rfl fun a168 h168 => ?_; clear h167
     refine pwD h168 rfl (op_store1 rfl rfl rfl rfl Tryz.sizeOf3 hk31' rfl) ?_; clear h168
     rintro _ w170 a169 ⟨hk171, hz172, hg173⟩ h169
     have hk171' : Blk w170 N23 58 #[.int .i64 d.k, .int .i64 d.n, .int .u64 0, .int .i64 0, .slice none 0 0, .int .u64 0, .slice none 0 0, .int .i64 0, .int .i64 0, .slice none 0 0, .int .u64 0, .int .i64 0, .int .u64 0, .int .i64 0, .int .i64 0, .int .i64 0, .int .i64 0, .int .i64 0] := hk171; clear hk171
     have hz174 := hg173.size
     refine pl_nil ?_
     refine co_then ?_
     refine co_reg ?_
     refine pk0 (v := pt N3 2) h169 rfl fun a175 h175 => ?_; clear h169
     have hk176 := hk37.kept hg173 (by simp; omega)
     refine pk (v := .int .u64 d.t) h175 rfl (rn_load1 rfl rfl Tryz.isAgg22 (hk176.cell rfl)) fun a177 h177 => ?_; clear h175
     refine pk0 (v := pt N23 2) h177 rfl fun a178 h178 => ?_; clear h177
     refine pwD h178 rfl (op_store1 rfl rfl rfl rfl Tryz.sizeOf22 hk171' rfl) ?_; clear h178
     rintro _ w180 a179 ⟨hk181, hz182, hg183⟩ h179
     have hk181' : Blk w180 N23 58 #[.int .i64 d.k, .int .i64 d.n, .int .u64 d.t, .int .i64 0, .slice none 0 0, .int .u64 0, .slice none 0 0, .int .i64 0, .int .i64 0, .slice none 0 0, .int .u64 0, .int .i64 0, .int .u64 0, .int .i64 0, .int .i64 0, .int .i64 0, .int .i64 0, .int .i64 0] := hk181; clear hk181
     have hz184 := hg183.size
     refine pl_nil ?_
     refine co_blockN ?_
     refine co_then ?_
     refine co_seq ?_
     refine co_reg ?_
     refine pk (v := .agg #[.int .i64 d.k, .int .i64 d.n, .int .u64 d.t, .int .i64 0, .slice none 0 0, .int .u64 0, .slice none 0 0, .int .i64 0, .int .i64 0, .slice none 0 0, .int .u64 0, .int .i64 0, .int .u64 0, .int .i64 0, .int .i64 0, .int .i64 0, .int .i64 0, .int .i64 0]) h179 rfl (rn_loadN rfl rfl Tryz.underlying58 rfl (by kernel_rfl) hk181'.all) fun a185 h185 => ?_; clear h179
     have hk191 := hk47.kept hg173 (by simp; omega)
     have hk192 := hk191.kept hg183 (by simp; omega)
     refine pwD h185 rfl (op_storeN rfl rfl rfl (all_cons rfl (all_cons rfl (all_cons rfl (all_cons rfl (all_cons rfl (all_cons rfl (all_cons rfl (all_cons rfl (all_cons rfl (all_cons rfl (all_cons rfl (all_cons rfl (all_cons rfl (all_cons rfl (all_cons rfl (all_cons rfl (all_cons rfl (all_cons rfl all_nil)))))))))))))))))) (by kernel_rfl) hk192 rfl) ?_; clear h185
     rintro _ w187 a186 ⟨hk188, hz189, hg190⟩ h186
     have hk188' : Blk w187 N11 58 #[.int .i64 d.k, .int .i64 d.n, .int .u64 d.t, .int .i64 0, .slice none 0 0, .int .u64 0, .slice none 0 0, .int .i64 0, .int .i64 0, .slice none 0 0, .int .u64 0, .int .i64 0, .int .u64 0, .int .i64 0, .int .i64 0, .int .i64 0, .int .i64 0, .int .i64 0] := hk188; clear hk188
     have hz193 := hg190.size
     refine pl_nil ?_
     refine co_then ?_
     refine wp_ret ?_
     refine co_retC (Q := fun _ _ _ => True) h186 rfl rfl hk188' Tryz.underlying58 rfl (by kernel_rfl) ?_
     have hB194 := hb_at hB45 hg173 (by omega)
     have hB195 := hb_at hB194 hg183 (by omega)
     have hB196 := hb_at hB195 hg190 (by omega)
     have hcl := cl_3 (d := d) (by omega)
     refine ⟨.slice none 0 0, .slice none 0 0, .slice none 0 0, by rw [hcl]; rfl, ?_, hB196⟩
     unfold CleanV; rw [hcl]
     exact ⟨fun _ hx => by first | exact hx | exact sl_nil _, fun _ hx => by first | exact hx | exact sl_nil _, fun _ hx => by first | exact hx | exact sl_nil _⟩
   ·
    rw [hc55] at h54
    have hp197 : d.k = 3 := by first | simpa using hc55 | simpa [and_assoc] using hc55
    clear hc55
    refine co_true h54 rfl ?_
    refine wp_skip ?_
    refine co_then ?_
    refine co_true h54 rfl ?_
    refine co_seq ?_
    refine co_reg ?_
    refine pk0 (v := pt N3 1) h54 rfl fun a198 h198 => ?_; clear h54
    refine pk (v := .int .i64 d.n) h198 rfl (rn_load1 rfl rfl Tryz.isAgg3 (hk37.cell rfl)) fun a199 h199 => ?_; clear h198
    refine pk0 (v := pt N23 1) h199 rfl fun a200 h200 => ?_; clear h199
    refine pwD h200 rfl (op_store1 rfl rfl rfl rfl Tryz.sizeOf3 hk31' rfl) ?_; clear h200
    rintro _ w202 a201 ⟨hk203, hz204, hg205⟩ h201
    have hk203' : Blk w202 N23 58 #[.int .i64 d.k, .int .i64 d.n, .int .u64 0, .int .i64 0, .slice none 0 0, .int .u64 0, .slice none 0 0, .int .i64 0, .int .i64 0, .slice none 0 0, .int .u64 0, .int .i64 0, .int .u64 0, .int .i64 0, .int .i64 0, .int .i64 0, .int .i64 0, .int .i64 0] := hk203; clear hk203
    have hz206 := hg205.size
    refine pl_nil ?_
    refine co_then ?_
    refine co_reg ?_
    refine pk0 (v := pt N3 2) h201 rfl fun a207 h207 => ?_; clear h201
    have hk208 := hk37.kept hg205 (by simp; omega)
    refine pk (v := .int .u64 d.t) h207 rfl (rn_load1 rfl rfl Tryz.isAgg22 (hk208.cell rfl)) fun a209 h209 => ?_; clear h207
    refine pk0 (v := pt N23 2) h209 rfl fun a210 h210 => ?_; clear h209
    refine pwD h210 rfl (op_store1 rfl rfl rfl rfl Tryz.sizeOf22 hk203' rfl) ?_; clear h210
    rintro _ w212 a211 ⟨hk213, hz214, hg215⟩ h211
    have hk213' : Blk w212 N23 58 #[.int .i64 d.k, .int .i64 d.n, .int .u64 d.t, .int .i64 0, .slice none 0 0, .int .u64 0, .slice none 0 0, .int .i64 0, .int .i64 0, .slice none 0 0, .int .u64 0, .int .i64 0, .int .u64 0, .int .i64 0, .int .i64 0, .int .i64 0, .int .i64 0, .int .i64 0] := hk213; clear hk213
    have hz216 := hg215.size
    refine pl_nil ?_
    refine co_blockN ?_
    refine co_then ?_
    refine co_seq ?_
    refine co_reg ?_
    refine pk (v := .agg #[.int .i64 d.k, .int .i64 d.n, .int .u64 d.t, .int .i64 0, .slice none 0 0, .int .u64 0, .slice none 0 0, .int .i64 0, .int .i64 0, .slice none 0 0, .int .u64 0, .int .i64 0, .int .u64 0, .int .i64 0, .int .i64 0, .int .i64 0, .int .i64 0, .int .i64 0]) h211 rfl (rn_loadN rfl rfl Tryz.underlying58 rfl (by kernel_rfl) hk213'.all) fun a217 h217 => ?_; clear h211
    have hk223 := hk47.kept hg205 (by simp; omega)
    have hk224 := hk223.kept hg215 (by simp; omega)
    refine pwD h217 rfl (op_storeN rfl rfl rfl (all_cons rfl (all_cons rfl (all_cons rfl (all_cons rfl (all_cons rfl (all_cons rfl (all_cons rfl (all_cons rfl (all_cons rfl (all_cons rfl (all_cons rfl (all_cons rfl (all_cons rfl (all_cons rfl (all_cons rfl (all_cons rfl (all_cons rfl (all_cons rfl all_nil)))))))))))))))))) (by kernel_rfl) hk224 rfl) ?_; clear h217
    rintro _ w219 a218 ⟨hk220, hz221, hg222⟩ h218
    have hk220' : Blk w219 N11 58 #[.int .i64 d.k, .int .i64 d.n, .int .u64 d.t, .int .i64 0, .slice none 0 0, .int .u64 0, .slice none 0 0, .int .i64 0, .int .i64 0, .slice none 0 0, .int .u64 0, .int .i64 0, .int .u64 0, .int .i64 0, .int .i64 0, .int .i64 0, .int .i64 0, .int .i64 0] := hk220; clear hk220
    have hz225 := hg222.size
    refine pl_nil ?_
    refine co_then ?_
    refine wp_ret ?_
    refine co_retC (Q := fun _ _ _ => True) h218 rfl rfl hk220' Tryz.underlying58 rfl (by kernel_rfl) ?_
    have hB226 := hb_at hB45 hg205 (by omega)
    have hB227 := hb_at hB226 hg215 (by omega)
    have hB228 := hb_at hB227 hg222 (by omega)
    have hcl := cl_3 (d := d) (by omega)
    refine ⟨.slice none 0 0, .slice none 0 0, .slice none 0 0, by rw [hcl]; rfl, ?_, hB228⟩
    unfold CleanV; rw [hcl]
    exact ⟨fun _ hx => by first | exact hx | exact sl_nil _, fun _ hx => by first | exact hx | exact sl_nil _, fun _ hx => by first | exact hx | exact sl_nil _⟩
  ·
   rw [hc51] at h50
   have hp229 : d.k = 2 := by first | simpa using hc51 | simpa [and_assoc] using hc51
   clear hc51
   refine co_true h50 rfl ?_
   refine co_seq ?_
   refine co_reg ?_
   refine pk0 (v := pt N3 1) h50 rfl fun a230 h230 => ?_; clear h50
   refine pk (v := .int .i64 d.n) h230 rfl (rn_load1 rfl rfl Tryz.isAgg3 (hk37.cell rfl)) fun a231 h231 => ?_; clear h230
   refine pk0 (v := pt N23 1) h231 rfl fun a232 h232 => ?_; clear h231
   refine pwD h232 rfl (op_store1 rfl rfl rfl rfl Tryz.sizeOf3 hk31' rfl) ?_; clear h232
   rintro _ w234 a233 ⟨hk235, hz236, hg237⟩ h233
   have hk235' : Blk w234 N23 58 #[.int .i64 d.k, .int .i64 d.n, .int .u64 0, .int .i64 0, .slice none 0 0, .int .u64 0, .slice none 0 0, .int .i64 0, .int .i64 0, .slice none 0 0, .int .u64 0, .int .i64 0, .int .u64 0, .int .i64 0, .int .i64 0, .int .i64 0, .int .i64 0, .int .i64 0] := hk235; clear hk235
   have hz238 := hg237.size
   refine pl_nil ?_
   refine co_then ?_
   refine co_reg ?_
   refine pk0 (v := pt N3 7) h233 rfl fun a239 h239 => ?_; clear h233
   have hk240 := hk37.kept hg237 (by simp; omega)
   refine pk (v := .agg #[.int .i64 d.ec, .int .i64 d.er, ev, .int .u64 d.ets]) h239 rfl (rn_loadN rfl rfl Tryz.underlying52 rfl (by kernel_rfl) (blk_part hk240 7 (by rfl))) fun a241 h241 => ?_; clear h239
   refine pk0 (v := pt N23 7) h241 rfl fun a242 h242 => ?_; clear h241
   have hB248 := hb_at hB45 hg237 (by omega)
   refine pwD h242 rfl (op_storePart (k := 7) (cs' := #[.int .i64 d.k, .int .i64 d.n, .int .u64 0, .int .i64 0, .slice none 0 0, .int .u64 0, .slice none 0 0, .int .i64 d.ec, .int .i64 d.er, ev, .int .u64 d.ets, .int .i64 0, .int .u64 0, .int .i64 0, .int .i64 0, .int .i64 0, .int .i64 0, .int .i64 0]) rfl rfl rfl (all_cons rfl (all_cons rfl (all_cons (sl_one (he.below hB248)) (all_cons rfl all_nil)))) (by kernel_rfl) hk235' rfl rfl) ?_; clear h242
   rintro _ w244 a243 ⟨hk245, hz246, hg247⟩ h243
   have hk245' : Blk w244 N23 58 #[.int .i64 d.k, .int .i64 d.n, .int .u64 0, .int .i64 0, .slice none 0 0, .int .u64 0, .slice none 0 0, .int .i64 d.ec, .int .i64 d.er, ev, .int .u64 d.ets, .int .i64 0, .int .u64 0, .int .i64 0, .int .i64 0, .int .i64 0, .int .i64 0, .int .i64 0] := hk245; clear hk245
   have hz249 := hg247.size
   refine pl_nil ?_
   refine co_blockN ?_
   refine co_then ?_
   refine co_seq ?_
   refine co_reg ?_
   refine pk (v := .agg #[.int .i64 d.k, .int .i64 d.n, .int .u64 0, .int .i64 0, .slice none 0 0, .int .u64 0, .slice none 0 0, .int .i64 d.ec, .int .i64 d.er, ev, .int .u64 d.ets, .int .i64 0, .int .u64 0, .int .i64 0, .int .i64 0, .int .i64 0, .int .i64 0, .int .i64 0]) h243 rfl (rn_loadN rfl rfl Tryz.underlying58 rfl (by kernel_rfl) hk245'.all) fun a250 h250 => ?_; clear h243
   have hB256 := hb_at hB248 hg247 (by omega)
   have hk257 := hk47.kept hg237 (by simp; omega)
   have hk258 := hk257.kept hg247 (by simp; omega)
   refine pwD h250 rfl (op_storeN rfl rfl rfl (all_cons rfl (all_cons rfl (all_cons rfl (all_cons rfl (all_cons rfl (all_cons rfl (all_cons rfl (all_cons rfl (all_cons rfl (all_cons (sl_one (he.below hB256)) (all_cons rfl (all_cons rfl (all_cons rfl (all_cons rfl (all_cons rfl (all_cons rfl (all_cons rfl (all_cons rfl all_nil)))))))))))))))))) (by kernel_rfl) hk258 rfl) ?_; clear h250
   rintro _ w252 a251 ⟨hk253, hz254, hg255⟩ h251
   have hk253' : Blk w252 N11 58 #[.int .i64 d.k, .int .i64 d.n, .int .u64 0, .int .i64 0, .slice none 0 0, .int .u64 0, .slice none 0 0, .int .i64 d.ec, .int .i64 d.er, ev, .int .u64 d.ets, .int .i64 0, .int .u64 0, .int .i64 0, .int .i64 0, .int .i64 0, .int .i64 0, .int .i64 0] := hk253; clear hk253
   have hz259 := hg255.size
   refine pl_nil ?_
   refine co_then ?_
   refine wp_ret ?_
   refine co_retC (Q := fun _ _ _ => True) h251 rfl rfl hk253' Tryz.underlying58 rfl (by kernel_rfl) ?_
   have hB260 := hb_at hB256 hg255 (by omega)
   have hcl := cl_2 (d := d) (by omega)
   refine ⟨.slice none 0 0, .slice none 0 0, ev, by rw [hcl]; rfl, ?_, hB260⟩
   unfold CleanV; rw [hcl]
   exact ⟨fun _ hx => by first | exact hx | exact sl_nil _, fun _ hx => by first | exact hx | exact sl_nil _, fun _ hx => by first | exact hx | exact sl_nil _⟩
 ·
  rw [hc41] at h40
  have hp261 : d.k = 1 := by first | simpa using hc41 | simpa [and_assoc] using hc41
  clear hc41
  refine co_true h40 rfl ?_
  refine co_seq ?_
  refine co_reg ?_
  refine pk0 (v := pt N3 3) h40 rfl fun a262 h262 => ?_; clear h40
  refine pk (v := .agg #[.int .i64 d.ep, mv, .int .u64 d.fl]) h262 rfl (rn_loadN rfl rfl Tryz.underlying26 rfl (by kernel_rfl) (blk_part hk37 3 (by rfl))) fun a263 h263 => ?_; clear h262
  refine pk0 (v := pt N23 3) h263 rfl fun a264 h264 => ?_; clear h263
  refine pwD h264 rfl (op_storePart (k := 3) (cs' := #[.int .i64 d.k, .int .i64 0, .int .u64 0, .int .i64 d.ep, mv, .int .u64 d.fl, .slice none 0 0, .int .i64 0, .int .i64 0, .slice none 0 0, .int .u64 0, .int .i64 0, .int .u64 0, .int .i64 0, .int .i64 0, .int .i64 0, .int .i64 0, .int .i64 0]) rfl rfl rfl (all_cons rfl (all_cons (sl_one (hm.below hB45)) (all_cons rfl all_nil))) (by kernel_rfl) hk31' rfl rfl) ?_; clear h264
  rintro _ w266 a265 ⟨hk267, hz268, hg269⟩ h265
  have hk267' : Blk w266 N23 58 #[.int .i64 d.k, .int .i64 0, .int .u64 0, .int .i64 d.ep, mv, .int .u64 d.fl, .slice none 0 0, .int .i64 0, .int .i64 0, .slice none 0 0, .int .u64 0, .int .i64 0, .int .u64 0, .int .i64 0, .int .i64 0, .int .i64 0, .int .i64 0, .int .i64 0] := hk267; clear hk267
  have hz270 := hg269.size
  refine pl_nil ?_
  refine co_then ?_
  refine co_reg ?_
  refine pk0 (v := pt N3 6) h265 rfl fun a271 h271 => ?_; clear h265
  have hk272 := hk37.kept hg269 (by simp; omega)
  refine pk (v := lv) h271 rfl (rn_load1 rfl rfl Tryz.isAgg50 (hk272.cell rfl)) fun a273 h273 => ?_; clear h271
  refine pk0 (v := pt N23 6) h273 rfl fun a274 h274 => ?_; clear h273
  have hB280 := hb_at hB45 hg269 (by omega)
  refine pwD h274 rfl (op_store1 rfl rfl rfl (sl_one (hg.below hB280)) Tryz.sizeOf50 hk267' rfl) ?_; clear h274
  rintro _ w276 a275 ⟨hk277, hz278, hg279⟩ h275
  have hk277' : Blk w276 N23 58 #[.int .i64 d.k, .int .i64 0, .int .u64 0, .int .i64 d.ep, mv, .int .u64 d.fl, lv, .int .i64 0, .int .i64 0, .slice none 0 0, .int .u64 0, .int .i64 0, .int .u64 0, .int .i64 0, .int .i64 0, .int .i64 0, .int .i64 0, .int .i64 0] := hk277; clear hk277
  have hz281 := hg279.size
  refine pl_nil ?_
  refine co_blockN ?_
  refine co_then ?_
  refine co_seq ?_
  refine co_reg ?_
  refine pk (v := .agg #[.int .i64 d.k, .int .i64 0, .int .u64 0, .int .i64 d.ep, mv, .int .u64 d.fl, lv, .int .i64 0, .int .i64 0, .slice none 0 0, .int .u64 0, .int .i64 0, .int .u64 0, .int .i64 0, .int .i64 0, .int .i64 0, .int .i64 0, .int .i64 0]) h275 rfl (rn_loadN rfl rfl Tryz.underlying58 rfl (by kernel_rfl) hk277'.all) fun a282 h282 => ?_; clear h275
  have hB288 := hb_at hB280 hg279 (by omega)
  have hk289 := hk47.kept hg269 (by simp; omega)
  have hk290 := hk289.kept hg279 (by simp; omega)
  refine pwD h282 rfl (op_storeN rfl rfl rfl (all_cons rfl (all_cons rfl (all_cons rfl (all_cons rfl (all_cons (sl_one (hm.below hB288)) (all_cons rfl (all_cons (sl_one (hg.below hB288)) (all_cons rfl (all_cons rfl (all_cons rfl (all_cons rfl (all_cons rfl (all_cons rfl (all_cons rfl (all_cons rfl (all_cons rfl (all_cons rfl (all_cons rfl all_nil)))))))))))))))))) (by kernel_rfl) hk290 rfl) ?_; clear h282
  rintro _ w284 a283 ⟨hk285, hz286, hg287⟩ h283
  have hk285' : Blk w284 N11 58 #[.int .i64 d.k, .int .i64 0, .int .u64 0, .int .i64 d.ep, mv, .int .u64 d.fl, lv, .int .i64 0, .int .i64 0, .slice none 0 0, .int .u64 0, .int .i64 0, .int .u64 0, .int .i64 0, .int .i64 0, .int .i64 0, .int .i64 0, .int .i64 0] := hk285; clear hk285
  have hz291 := hg287.size
  refine pl_nil ?_
  refine co_then ?_
  refine wp_ret ?_
  refine co_retC (Q := fun _ _ _ => True) h283 rfl rfl hk285' Tryz.underlying58 rfl (by kernel_rfl) ?_
  have hB292 := hb_at hB288 hg287 (by omega)
  have hcl := cl_1 (d := d) (by omega)
  refine ⟨mv, lv, .slice none 0 0, by rw [hcl]; rfl, ?_, hB292⟩
  unfold CleanV; rw [hcl]
  exact ⟨fun _ hx => by first | exact hx | exact sl_nil _, fun _ hx => by first | exact hx | exact sl_nil _, fun _ hx => by first | exact hx | exact sl_nil _⟩
end Go.Proofs.YteioaaegooebpaaGreat
