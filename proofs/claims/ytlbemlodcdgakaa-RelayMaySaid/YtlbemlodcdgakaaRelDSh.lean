/- Package relay: the timestamps' closure. Conditions: none. -/
import Derived.Test.YtlbemlodcdgakaaRelCSh
import Derived.Test.YtlbemlodcdgakaaGoSh
namespace Go.Proofs.Ytlbemlodcdgakaa
open Go.RowKit Go.PlainAid
set_option linter.unusedVariables false
set_option linter.unusedSimpArgs false


def tsL (l : List EntT) : List Int := l.map (·.ts)
theorem tsL_len (l : List EntT) : (tsL l).length = l.length := List.length_map ..
theorem tsL_at {l : List EntT} {i : Nat} {y : EntT} (h : l[i]? = some y) : tsL (l.take i) ++ [y.ts] = tsL (l.take (i + 1)) := by
  unfold tsL; rw [List.take_add_one, h, List.map_append]; rfl
theorem entsH_low {m n : Nat} {w : World} {L : List EntT} (h : EntsH (fun _ => False) m w L) (hn : n ≤ m) : EntsH (fun _ => False) n w L := fun z hz => by
  have k := h z hz
  exact ⟨k.row, fun q hq => (k.ins q hq).elim (fun f => f.elim) (fun f => .inr (Nat.le_trans hn f)), k.len, k.each, k.ts0, k.ts1, k.cl, k.rq⟩
theorem sl_butS {α : Type} {enc : α → List Value} {sz : Nat} {w x : World} {v : Value} {l : List α} {S : Nat → Prop} (h : SliceOf enc sz w v l) (hb : But S w x) (hv : l ≠ [] → ∀ k, v.ownBlock = some k → ¬ S k) : SliceOf enc sz x v l := by
  obtain ⟨ao, cap, rfl, h1, h2, h3, h4⟩ := h
  refine ⟨ao, cap, rfl, h1, h2, h3, fun j hj => ?_⟩
  obtain ⟨b, off, rfl, hr⟩ := h4 j hj
  exact ⟨b, off, rfl, fun i u hu => hb.cell (hv (fun e => by rw [e] at hj; exact absurd hj (by simp)) b rfl) (hr i u hu)⟩
theorem sl_ltS {α : Type} {enc : α → List Value} {sz : Nat} {w : World} {v : Value} {l : List α} (h : SliceOf enc sz w v l) (hne : ∀ y ∈ l, enc y ≠ []) (hl : l ≠ []) {k : Nat} (hk : v.ownBlock = some k) : k < w.heap.size :=
  Nat.lt_of_not_le fun hq => sl_off (S := fun q => w.heap.size ≤ q) h hne (fun q h => h) hl k hk hq
theorem entE_neB (y : EntT) : entE y ≠ [] := by simp [entE]
theorem opE_neB (y : OpT) : opE y ≠ [] := by simp [opE]
theorem EntOk.butS {w x : World} {e : EntT} {S : Nat → Prop} (h : EntOk w e) (hb : But S w x) (hv : e.opl ≠ [] → ∀ k, e.ops.ownBlock = some k → ¬ S k) : EntOk x e := ⟨sl_butS h.ops hb hv, h.each, h.ts0, h.ts1, h.cl, h.rq⟩
theorem tsL_tk {l : List EntT} {i : Nat} (h : i ≤ l.length) : (tsL (l.take i)).length = i := by rw [tsL_len, List.length_take]; omega

set_option maxRecDepth 100000 in
theorem stampsR_any (B : Nat) (N0 : Nat) (k : Int) (ep : Int) (n : Int) (m : Int) (p : Int) (v : Value) (l : List EntT) (w : World) (hB : Blk w B 74 #[.int .i64 k, .int .i64 (mxI ep 0), .int .i64 0, .int .i64 0, .bool false, .int .u64 0, .int .u64 0, .int .i64 (mxI n 0), .int .i64 (mxI m 0), .int .i64 (mxI p 0), .int .i64 0, .string (⟨#[]⟩), .string (⟨#[]⟩), .int .i64 0, .slice none 0 0, .int .u64 0, .int .i64 0, .int .i64 0, .slice none 0 0, .slice none 0 0, .slice none 0 0, .slice none 0 0]) (hN0 : Blk w N0 69 #[v]) (hlt : N0 < B) (hs : SliceOf entE 4 w v l) (hok : ∀ z ∈ l, EntOk w z) (hvB : l ≠ [] → ∀ k, v.ownBlock = some k → ¬ k = B) (hoB : ∀ z ∈ l, z.opl ≠ [] → ∀ k, z.ops.ownBlock = some k → ¬ k = B) :
    Calls Try.prog 122 #[pt B 0, pt N0 0] w fun e w' => ∃ (u : Value), e = .returned (.tuple #[]) ∧ w'.ownsRow w.heap.size 29 1 u (tsL (l.take (mnI ((stN l : Nat) : Int) 8).toNat)).length ((tsL (l.take (mnI ((stN l : Nat) : Int) 8).toNat)).flatMap (intE .u64)) ∧ Blk w' B 74 #[.int .i64 k, .int .i64 (mxI ep 0), .int .i64 0, .int .i64 0, .bool false, .int .u64 0, .int .u64 0, .int .i64 (mxI n 0), .int .i64 (mxI m 0), .int .i64 (mxI p 0), .int .i64 0, .string (⟨#[]⟩), .string (⟨#[]⟩), .int .i64 0, .slice none 0 0, .int .u64 0, .int .i64 0, .int .i64 0, .slice none 0 0, .slice none 0 0, u, .slice none 0 0] ∧ But (fun q => q = B) w w' := by
 have hsl := stN_le l
 have hB0 := But.refl (fun q => q = B) w
 have hl_hB := hB.lt
 have hl_hN0 := hN0.lt
 have hl_hs := sl_len hs
 refine co_enter (n := 27) Try.func122 rfl rfl rfl [(0, pt B 0), (1, pt N0 0)] rfl (fun a h0 => ?_)
 refine co_seq ?_
 refine dr_gen (fun x => But (fun q => q = B) w x ∧ Blk x N0 69 #[v]) (by kernel_rfl) (fun w1 hg2 => ?_) (fun w1 hg2 => ?_)
 ·
  have hz3 := hg2.size
  have hB4 := fb_new hB0 hg2
  have hk5 := hN0.kept hg2 (by simp)
  exact ⟨hB4, hk5⟩
 have hz6 := hg2.size
 have hB7 := fb_new hB0 hg2
 have hk8 := hN0.kept hg2 (by simp)
 refine dk 0 (v := v) h0 rfl rfl ⟨hB7, hk8⟩ (fun x hx => (rn_load1 rfl rfl Try.isAgg69 (hx.2.cell rfl))) fun a9 h9 => ?_; clear h0
 refine dk 1 (v := v) h9 rfl rfl ⟨hB7, hk8⟩ (fun x hx => (rn_load1 rfl rfl Try.isAgg69 (hx.2.cell rfl))) fun a10 h10 => ?_; clear h9
 refine dk0 6 (v := .int .i64 0) h10 rfl rfl ⟨hB7, hk8⟩ fun a11 h11 => ?_; clear h10
 refine d1 2 h11 rfl rfl (op_call (args := #[v]) (R := fun res xw => res = .int .i64 ((stN l : Nat) : Int) ∧ Below w1.heap.size w1 xw) rfl rfl rfl (by kernel_rfl) (by kernel_rfl) (Try.call70 _ _) (itemStamped_any v l w1 (sl_butS hs hB7 hvB) (fun z hz => EntOk.butS (hok z hz) hB7 (hoB z hz))) (by rintro e x ⟨rfl, hb14⟩; exact ⟨_, rfl, ⟨rfl, hb14⟩⟩)) ?_ ?_; clear h11
 ·
  rintro _ w13 ⟨rfl, hb14⟩
  have hz15 := hb14.size
  have hB16 := fb_call hB7 hb14
  have hk17 := hk8.below hb14
  exact ⟨hB16, hk17⟩
 rintro _ w13 a12 ⟨rfl, hb14⟩ h12
 have hz15 := hb14.size
 have hB16 := fb_call hB7 hb14
 have hk17 := hk8.below hb14
 have hmm18 := mnI_p ((stN l : Nat) : Int) 8
 refine dk0 3 (v := .int .i64 (mnI ((stN l : Nat) : Int) 8)) h12 rfl rfl ⟨hB16, hk17⟩ fun a19 h19 => ?_; clear h12
 refine dk 4 (v := subV v 0 ((mnI ((stN l : Nat) : Int) 8).toNat) 4) h19 rfl rfl ⟨hB16, hk17⟩ (fun x hx => (rn_sliceTo rfl rfl rfl Try.underlying69 Try.sizeOf38 (sl_butS hs hx.1 hvB) (by omega) (by omega))) fun a20 h20 => ?_; clear h19
 refine dk 5 (v := .int .i64 (((l.take ((mnI ((stN l : Nat) : Int) 8).toNat)).length : Nat) : Int)) h20 rfl rfl ⟨hB16, hk17⟩ (fun x hx => (rn_len rfl rfl Try.underlying69 (sl_take (sl_butS hs hx.1 hvB) _ (by omega)))) fun a21 h21 => ?_; clear h20
 refine dr_done (by kernel_rfl) ?_
 refine co_then ?_
 refine wp_block ?_
 have h22 : Slots 27 [(0, pt B 0), (1, pt N0 0), (9, subV v 0 ((mnI ((stN l : Nat) : Int) 8).toNat) 4), (10, .int .i64 (((l.take ((mnI ((stN l : Nat) : Int) 8).toNat)).length : Nat) : Int)), (11, .int .i64 0)] _ := h21.sub ⟨rfl, rfl, rfl, rfl, rfl, trivial⟩; clear h21
 refine co_loop (fun mm a x => ∃ (i : Nat) (u : Value), Slots 27 [(0, pt B 0), (1, pt N0 0), (9, subV v 0 ((mnI ((stN l : Nat) : Int) 8).toNat) 4), (10, .int .i64 (((l.take ((mnI ((stN l : Nat) : Int) 8).toNat)).length : Nat) : Int)), (11, .int .i64 ((i : Nat) : Int))] a ∧ mm = (l.take ((mnI ((stN l : Nat) : Int) 8).toNat)).length - i ∧ (i ≤ (l.take ((mnI ((stN l : Nat) : Int) 8).toNat)).length) ∧ Blk x B 74 #[.int .i64 k, .int .i64 (mxI ep 0), .int .i64 0, .int .i64 0, .bool false, .int .u64 0, .int .u64 0, .int .i64 (mxI n 0), .int .i64 (mxI m 0), .int .i64 (mxI p 0), .int .i64 0, .string (⟨#[]⟩), .string (⟨#[]⟩), .int .i64 0, .slice none 0 0, .int .u64 0, .int .i64 0, .int .i64 0, .slice none 0 0, .slice none 0 0, u, .slice none 0 0] ∧ x.ownsRow w.heap.size 29 1 u (tsL ((l.take ((mnI ((stN l : Nat) : Int) 8).toNat)).take i)).length ((tsL ((l.take ((mnI ((stN l : Nat) : Int) 8).toNat)).take i)).flatMap (intE .u64)) ∧ But (fun q => q = B) w x) ((l.take ((mnI ((stN l : Nat) : Int) 8).toNat)).length - 0) ?_ ?_
 have hk23 := hB.kept hg2 (by simp)
 have hk24 := hk23.below hb14
 · exact ⟨0, (.slice none 0 0), h22.sub ⟨rfl, rfl, rfl, rfl, (slot_eq rfl (congrArg (Value.int .i64) (by first | rfl | omega))), trivial⟩, rfl, by omega, hk24, (row_nilL _ _ _ _ _), hB16⟩
 · rintro k25 a26 w27 ⟨i, u, h26, rfl, hi28, hf29, hf30, hB31⟩
   have hz32 := hB31.size
   have hl33 := hf29.lt
   have htl := tsL_tk (l := l.take ((mnI ((stN l : Nat) : Int) 8).toNat)) (i := i) (by assumption)
   have hll : (l.take ((mnI ((stN l : Nat) : Int) 8).toNat)).length = (mnI ((stN l : Nat) : Int) 8).toNat := by rw [List.length_take]; have := stN_le l; omega
   have hl8 : (l.take ((mnI ((stN l : Nat) : Int) 8).toNat)).length ≤ 8 := by have := mnI_p ((stN l : Nat) : Int) 8; omega
   refine co_seq ?_
   refine co_reg ?_
   refine pk0 (v := .bool (decide (((i : Nat) : Int) < (((l.take ((mnI ((stN l : Nat) : Int) 8).toNat)).length : Nat) : Int)))) h26 rfl fun a34 h34 => ?_; clear h26
   refine pl_nil ?_
   refine co_then ?_
   refine co_seq ?_
   cases hc35 : (decide (((i : Nat) : Int) < (((l.take ((mnI ((stN l : Nat) : Int) 8).toNat)).length : Nat) : Int)))
   ·
    rw [hc35] at h34
    have hp36 : ¬ (((i : Nat) : Int) < (((l.take ((mnI ((stN l : Nat) : Int) 8).toNat)).length : Nat) : Int)) := of_decide_eq_false hc35
    clear hc35
    refine co_false h34 rfl ?_
    refine wp_exit ?_
    refine co_thenX ?_
    refine co_thenX ?_
    refine co_blockX ?_
    refine co_ret0n h34 rfl ?_
    exact ⟨_, rfl, (row_eq (row_lows hf30 (by omega)) (by rw [List.take_of_length_le (by omega)])), hf29, hB31⟩
   ·
    rw [hc35] at h34
    have hp37 : ((i : Nat) : Int) < (((l.take ((mnI ((stN l : Nat) : Int) 8).toNat)).length : Nat) : Int) := of_decide_eq_true hc35
    clear hc35
    refine co_true h34 rfl ?_
    refine wp_skip ?_
    refine co_then ?_
    refine co_seq ?_
    refine wp_block ?_
    refine co_seq ?_
    refine co_reg ?_
    obtain ⟨y38, hy38⟩ : ∃ z, (l.take ((mnI ((stN l : Nat) : Int) 8).toNat))[i]? = some z := ⟨_, List.getElem?_eq_getElem (by first | omega | (simp; done) | (simp; omega))⟩
    have oky38 := (fun z hz => hok z (List.mem_of_mem_take hz)) _ (List.mem_of_getElem? hy38)
    have k39 : 0 ≤ y38.ts := oky38.ts0
    have k40 : y38.ts < 18446744073709551616 := oky38.ts1
    refine pk (v := pt (blkOf (subV v 0 ((mnI ((stN l : Nat) : Int) 8).toNat) 4)) (offOf (subV v 0 ((mnI ((stN l : Nat) : Int) 8).toNat) 4) + i * 4)) h34 rfl (rn_index rfl rfl rfl Try.underlying69 Try.sizeOf38 (sl_take (sl_butS hs hB31 hvB) _ (by omega)) (by omega) (by first | omega | (simp; done) | (simp; omega))) fun a41 h41 => ?_; clear h34
    refine pk (v := .agg #[.int .i64 y38.client, .int .i64 y38.req, y38.ops, .int .u64 y38.ts]) h41 rfl (rn_loadN rfl rfl Try.underlying38 rfl (by kernel_rfl) (sl_at (sl_take (sl_butS hs hB31 hvB) _ (by omega)) hy38)) fun a42 h42 => ?_; clear h41
    refine pw h42 rfl (op_new (v := fun N => pt N 0) (T := 38) (cs := #[.int .i64 0, .int .i64 0, .slice none 0 0, .int .u64 0]) (by kernel_rfl) (by kernel_rfl) (by kernel_rfl)) ?_; clear h42
    rintro _ w44 a43 ⟨N45, rfl, hN48, hz49, hk47, hg46⟩ h43
    have ha50 := row_fresh hf30 hN48
    have hz51 := hg46.size
    try dsimp only at h43
    refine pwD h43 rfl (op_storeN rfl rfl rfl (all_cons rfl (all_cons rfl (all_cons (sl_one oky38.ops) (all_cons rfl all_nil)))) (by kernel_rfl) hk47 rfl) ?_; clear h43
    rintro _ w53 a52 ⟨hk54, hz55, hg56⟩ h52
    have hk54' : Blk w53 N45 38 #[.int .i64 y38.client, .int .i64 y38.req, y38.ops, .int .u64 y38.ts] := hk54; clear hk54
    have hz57 := hg56.size
    refine pl_nil ?_
    refine co_then ?_
    refine dr_gen (fun x => But (fun q => q = B) w x ∧ Blk x N45 38 #[.int .i64 y38.client, .int .i64 y38.req, y38.ops, .int .u64 y38.ts]) (by kernel_rfl) (fun w58 hg59 => ?_) (fun w58 hg59 => ?_)
    ·
     have hz60 := hg59.size
     have hB61 := fb_new hB31 hg46
     have hB62 := fb_at hB61 hg56 (fun hlt => by first | (exfalso; omega) | (simp; done) | simp_all)
     have hB63 := fb_new hB62 hg59
     have hk64 := hk54'.kept hg59 (by simp)
     exact ⟨hB63, hk64⟩
    have hz65 := hg59.size
    have hB66 := fb_new hB31 hg46
    have hB67 := fb_at hB66 hg56 (fun hlt => by first | (exfalso; omega) | (simp; done) | simp_all)
    have hB68 := fb_new hB67 hg59
    have hk69 := hk54'.kept hg59 (by simp)
    refine dk0 0 (v := pt B 0) h52 rfl rfl ⟨hB68, hk69⟩ fun a70 h70 => ?_; clear h52
    refine dk0 1 (v := pt B 0) h70 rfl rfl ⟨hB68, hk69⟩ fun a71 h71 => ?_; clear h70
    refine dk0 2 (v := pt B 0) h71 rfl rfl ⟨hB68, hk69⟩ fun a72 h72 => ?_; clear h71
    refine dk0 3 (v := pt B 20) h72 rfl rfl ⟨hB68, hk69⟩ fun a73 h73 => ?_; clear h72
    refine dk0 5 (v := pt N45 3) h73 rfl rfl ⟨hB68, hk69⟩ fun a74 h74 => ?_; clear h73
    refine dk 6 (v := .int .u64 y38.ts) h74 rfl rfl ⟨hB68, hk69⟩ (fun x hx => (rn_load1 rfl rfl Try.isAgg29 (hx.2.cell rfl))) fun a75 h75 => ?_; clear h74
    refine dr_many [4, 7] (by kernel_rfl) (by simp) ⟨?_, ?_, trivial⟩
    ·
     have hk76 := hf29.kept hg46 (by simp)
     have hk77 := hk76.kept hg56 (by simp; omega)
     have hk78 := hk77.kept hg59 (by simp)
     refine dr_opVal (i := 4) (v := u) h75 rfl rfl rfl rfl (by kernel_rfl) rfl (rn_load1 rfl rfl Try.isAgg71 (hk78.cell rfl)) ⟨hB68, hk69⟩ (fun a79 h79 => ?_); clear h75
     refine d1 7 h79 rfl rfl (op_new (v := fun N => .slice (some ⟨N, 0, none⟩) 1 1) (T := 29) (cs := #[.int .u64 y38.ts]) (by kernel_rfl) (by kernel_rfl) (by kernel_rfl)) ?_ ?_; clear h79
     ·
      rintro _ w81 ⟨N82, rfl, hN85, hz86, hk84, hg83⟩
      have hr88 := row_kept_new hf30 hg46
      have hr89 := row_kept_at hr88 hg56 (ha50)
      have hr90 := row_kept_new hr89 hg59
      have ha87 := row_fresh hr90 hN85
      have hz91 := hg83.size
      have hB92 := fb_new hB68 hg83
      have hk93 := hk69.kept hg83 (by simp)
      exact ⟨hB92, hk93⟩
     rintro _ w81 a80 ⟨N82, rfl, hN85, hz86, hk84, hg83⟩ h80
     have hr88 := row_kept_new hf30 hg46
     have hr89 := row_kept_at hr88 hg56 (ha50)
     have hr90 := row_kept_new hr89 hg59
     have ha87 := row_fresh hr90 hN85
     have hz91 := hg83.size
     try dsimp only at h80
     have hB92 := fb_new hB68 hg83
     have hk93 := hk69.kept hg83 (by simp)
     have hr100 := row_kept_new hr90 hg83
     refine d1 8 h80 rfl rfl (op_append rfl w.heap.size 29 (z := .int .u64 0) (size := 1) (bytes := 8) Try.underlying71 (by kernel_rfl) rfl rfl rfl hr100 rfl hk84 rfl (by kernel_rfl) (by first | omega | (simp only [List.length_nil, List.length_append, List.length_cons, List.length_take, List.length_drop]; omega)) (by first | omega | (simp only [List.length_nil, List.length_append, List.length_cons, List.length_take, List.length_drop]; omega)) (by omega)) ?_ ?_; clear h80
     ·
      rintro v96 w95 ⟨hr97, hg98⟩
      have hr97' : w95.ownsRow w.heap.size 29 1 v96 ((tsL ((l.take ((mnI ((stN l : Nat) : Int) 8).toNat)).take i) ++ [y38.ts]).length) ((tsL ((l.take ((mnI ((stN l : Nat) : Int) 8).toNat)).take i) ++ [y38.ts]).flatMap (intE .u64)) := row_push (y := y38.ts) hr97 rfl rfl; clear hr97
      have hz101 := hg98.size
      have hB102 := fb_row hB92 hr100 (by omega) hg98
      have hk103 := hk93.kept hg98 (ha50)
      exact ⟨hB102, hk103⟩
     rintro v96 w95 a94 ⟨hr97, hg98⟩ h94
     have hr97' : w95.ownsRow w.heap.size 29 1 v96 ((tsL ((l.take ((mnI ((stN l : Nat) : Int) 8).toNat)).take i) ++ [y38.ts]).length) ((tsL ((l.take ((mnI ((stN l : Nat) : Int) 8).toNat)).take i) ++ [y38.ts]).flatMap (intE .u64)) := row_push (y := y38.ts) hr97 rfl rfl; clear hr97
     have hz101 := hg98.size
     have hB102 := fb_row hB92 hr100 (by omega) hg98
     have hk103 := hk93.kept hg98 (ha50)
     refine dk0 9 (v := pt B 0) h94 rfl rfl ⟨hB102, hk103⟩ fun a104 h104 => ?_; clear h94
     refine dk0 10 (v := pt B 20) h104 rfl rfl ⟨hB102, hk103⟩ fun a105 h105 => ?_; clear h104
     have hk111 := hk78.kept hg83 (by simp)
     have hk112 := hk111.kept hg98 (own_neT hr100 hk111 (by decide))
     refine d1D 11 h105 rfl rfl (op_store1 rfl rfl rfl (row_one hr97') Try.sizeOf71 hk112 rfl) ?_ ?_; clear h105
     ·
      rintro _ w107 ⟨hk108, hz109, hg110⟩
      have hk108' : Blk w107 B 74 #[.int .i64 k, .int .i64 (mxI ep 0), .int .i64 0, .int .i64 0, .bool false, .int .u64 0, .int .u64 0, .int .i64 (mxI n 0), .int .i64 (mxI m 0), .int .i64 (mxI p 0), .int .i64 0, .string (⟨#[]⟩), .string (⟨#[]⟩), .int .i64 0, .slice none 0 0, .int .u64 0, .int .i64 0, .int .i64 0, .slice none 0 0, .slice none 0 0, v96, .slice none 0 0] := hk108; clear hk108
      have hz113 := hg110.size
      have hB114 := fb_at hB102 hg110 (fun hlt => by first | (exfalso; omega) | (simp; done) | simp_all)
      have hk115 := hk103.kept hg110 (by simp; omega)
      exact ⟨hB114, hk115⟩
     rintro _ w107 a106 ⟨hk108, hz109, hg110⟩ h106
     have hk108' : Blk w107 B 74 #[.int .i64 k, .int .i64 (mxI ep 0), .int .i64 0, .int .i64 0, .bool false, .int .u64 0, .int .u64 0, .int .i64 (mxI n 0), .int .i64 (mxI m 0), .int .i64 (mxI p 0), .int .i64 0, .string (⟨#[]⟩), .string (⟨#[]⟩), .int .i64 0, .slice none 0 0, .int .u64 0, .int .i64 0, .int .i64 0, .slice none 0 0, .slice none 0 0, v96, .slice none 0 0] := hk108; clear hk108
     have hz113 := hg110.size
     refine dr_done (by kernel_rfl) ?_
     refine co_blockN ?_
     refine co_then ?_
     refine co_reg ?_
     refine pk (v := .int .i64 ((i + 1 : Nat) : Int)) h106 rfl (rn_arith' rfl rfl rfl rfl rfl rfl (IntWalk.i64_in _ (by omega)) (by omega)) fun a114 h114 => ?_; clear h106
     refine pk0 (v := .int .i64 ((i + 1 : Nat) : Int)) h114 rfl fun a115 h115 => ?_; clear h114
     refine pl_nil ?_
     refine co_then ?_
     refine ⟨((l.take ((mnI ((stN l : Nat) : Int) 8).toNat)).length - (i + 1)), by omega, ?_⟩
     have hr116 := row_kept_at hr97' hg110 (own_neT hr97' hk112 (by decide))
     have hB117 := fb_at hB102 hg110 (fun hlt => by first | (exfalso; omega) | (simp; done) | simp_all)
     exact ⟨i + 1, v96, h115.sub ⟨rfl, rfl, rfl, rfl, rfl, trivial⟩, rfl, by omega, hk108', (row_eq hr116 (by first | rfl | exact tsL_at (by assumption))), hB117⟩
    ·
     refine dr_op (i := 7) h75 rfl rfl rfl rfl (op_new (v := fun N => .slice (some ⟨N, 0, none⟩) 1 1) (T := 29) (cs := #[.int .u64 y38.ts]) (by kernel_rfl) (by kernel_rfl) (by kernel_rfl)) ?_ ?_; clear h75
     ·
      rintro _ w119 ⟨N120, rfl, hN123, hz124, hk122, hg121⟩
      have hr126 := row_kept_new hf30 hg46
      have hr127 := row_kept_at hr126 hg56 (ha50)
      have hr128 := row_kept_new hr127 hg59
      have ha125 := row_fresh hr128 hN123
      have hz129 := hg121.size
      have hB130 := fb_new hB68 hg121
      have hk131 := hk69.kept hg121 (by simp)
      exact ⟨hB130, hk131⟩
     rintro _ w119 a118 ⟨N120, rfl, hN123, hz124, hk122, hg121⟩ h118
     have hr126 := row_kept_new hf30 hg46
     have hr127 := row_kept_at hr126 hg56 (ha50)
     have hr128 := row_kept_new hr127 hg59
     have ha125 := row_fresh hr128 hN123
     have hz129 := hg121.size
     try dsimp only at h118
     have hB130 := fb_new hB68 hg121
     have hk131 := hk69.kept hg121 (by simp)
     refine dr_many [4] (by kernel_rfl) (by simp) ⟨?_, trivial⟩
     ·
      have hk132 := hf29.kept hg46 (by simp)
      have hk133 := hk132.kept hg56 (by simp; omega)
      have hk134 := hk133.kept hg59 (by simp)
      have hk135 := hk134.kept hg121 (by simp)
      refine dr_opVal (i := 4) (v := u) h118 rfl rfl rfl rfl (by kernel_rfl) rfl (rn_load1 rfl rfl Try.isAgg71 (hk135.cell rfl)) ⟨hB130, hk131⟩ (fun a136 h136 => ?_); clear h118
      have hr143 := row_kept_new hr128 hg121
      refine d1 8 h136 rfl rfl (op_append rfl w.heap.size 29 (z := .int .u64 0) (size := 1) (bytes := 8) Try.underlying71 (by kernel_rfl) rfl rfl rfl hr143 rfl hk122 rfl (by kernel_rfl) (by first | omega | (simp only [List.length_nil, List.length_append, List.length_cons, List.length_take, List.length_drop]; omega)) (by first | omega | (simp only [List.length_nil, List.length_append, List.length_cons, List.length_take, List.length_drop]; omega)) (by omega)) ?_ ?_; clear h136
      ·
       rintro v139 w138 ⟨hr140, hg141⟩
       have hr140' : w138.ownsRow w.heap.size 29 1 v139 ((tsL ((l.take ((mnI ((stN l : Nat) : Int) 8).toNat)).take i) ++ [y38.ts]).length) ((tsL ((l.take ((mnI ((stN l : Nat) : Int) 8).toNat)).take i) ++ [y38.ts]).flatMap (intE .u64)) := row_push (y := y38.ts) hr140 rfl rfl; clear hr140
       have hz144 := hg141.size
       have hB145 := fb_row hB130 hr143 (by omega) hg141
       have hk146 := hk131.kept hg141 (ha50)
       exact ⟨hB145, hk146⟩
      rintro v139 w138 a137 ⟨hr140, hg141⟩ h137
      have hr140' : w138.ownsRow w.heap.size 29 1 v139 ((tsL ((l.take ((mnI ((stN l : Nat) : Int) 8).toNat)).take i) ++ [y38.ts]).length) ((tsL ((l.take ((mnI ((stN l : Nat) : Int) 8).toNat)).take i) ++ [y38.ts]).flatMap (intE .u64)) := row_push (y := y38.ts) hr140 rfl rfl; clear hr140
      have hz144 := hg141.size
      have hB145 := fb_row hB130 hr143 (by omega) hg141
      have hk146 := hk131.kept hg141 (ha50)
      refine dk0 9 (v := pt B 0) h137 rfl rfl ⟨hB145, hk146⟩ fun a147 h147 => ?_; clear h137
      refine dk0 10 (v := pt B 20) h147 rfl rfl ⟨hB145, hk146⟩ fun a148 h148 => ?_; clear h147
      have hk154 := hk135.kept hg141 (own_neT hr143 hk135 (by decide))
      refine d1D 11 h148 rfl rfl (op_store1 rfl rfl rfl (row_one hr140') Try.sizeOf71 hk154 rfl) ?_ ?_; clear h148
      ·
       rintro _ w150 ⟨hk151, hz152, hg153⟩
       have hk151' : Blk w150 B 74 #[.int .i64 k, .int .i64 (mxI ep 0), .int .i64 0, .int .i64 0, .bool false, .int .u64 0, .int .u64 0, .int .i64 (mxI n 0), .int .i64 (mxI m 0), .int .i64 (mxI p 0), .int .i64 0, .string (⟨#[]⟩), .string (⟨#[]⟩), .int .i64 0, .slice none 0 0, .int .u64 0, .int .i64 0, .int .i64 0, .slice none 0 0, .slice none 0 0, v139, .slice none 0 0] := hk151; clear hk151
       have hz155 := hg153.size
       have hB156 := fb_at hB145 hg153 (fun hlt => by first | (exfalso; omega) | (simp; done) | simp_all)
       have hk157 := hk146.kept hg153 (by simp; omega)
       exact ⟨hB156, hk157⟩
      rintro _ w150 a149 ⟨hk151, hz152, hg153⟩ h149
      have hk151' : Blk w150 B 74 #[.int .i64 k, .int .i64 (mxI ep 0), .int .i64 0, .int .i64 0, .bool false, .int .u64 0, .int .u64 0, .int .i64 (mxI n 0), .int .i64 (mxI m 0), .int .i64 (mxI p 0), .int .i64 0, .string (⟨#[]⟩), .string (⟨#[]⟩), .int .i64 0, .slice none 0 0, .int .u64 0, .int .i64 0, .int .i64 0, .slice none 0 0, .slice none 0 0, v139, .slice none 0 0] := hk151; clear hk151
      have hz155 := hg153.size
      refine dr_done (by kernel_rfl) ?_
      refine co_blockN ?_
      refine co_then ?_
      refine co_reg ?_
      refine pk (v := .int .i64 ((i + 1 : Nat) : Int)) h149 rfl (rn_arith' rfl rfl rfl rfl rfl rfl (IntWalk.i64_in _ (by omega)) (by omega)) fun a156 h156 => ?_; clear h149
      refine pk0 (v := .int .i64 ((i + 1 : Nat) : Int)) h156 rfl fun a157 h157 => ?_; clear h156
      refine pl_nil ?_
      refine co_then ?_
      refine ⟨((l.take ((mnI ((stN l : Nat) : Int) 8).toNat)).length - (i + 1)), by omega, ?_⟩
      have hr158 := row_kept_at hr140' hg153 (own_neT hr140' hk154 (by decide))
      have hB159 := fb_at hB145 hg153 (fun hlt => by first | (exfalso; omega) | (simp; done) | simp_all)
      exact ⟨i + 1, v139, h157.sub ⟨rfl, rfl, rfl, rfl, rfl, trivial⟩, rfl, by omega, hk151', (row_eq hr158 (by first | rfl | exact tsL_at (by assumption))), hB159⟩
end Go.Proofs.Ytlbemlodcdgakaa
