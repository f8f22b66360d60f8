/- catenalaw27: PlanHead. Conditions: none. -/
import Derived.Test.YtcnahhobppnbbaaPlanI
namespace Go.Proofs.Ytcnahhobppnbbaa
open Go.RowKit Go.PlainAid
set_option linter.unusedVariables false

set_option maxRecDepth 100000 in
theorem place27_any (ep : Int) (mv : Value) (ms : List MemT) (fl : Int) (m : MemT) (w : World) (hs : SliceOf memE 2 w mv ms) :
    Calls Try.prog 72 #[.agg #[.int .i64 ep, mv, .int .u64 fl], .agg #[.int .i64 m.1, .int .i64 m.2]] w fun e w' => ∃ (j : Int), e = .returned (.int .i64 j) ∧ decide (j ≥ 0) = plB ms m ∧ Below w.heap.size w w' := by
 have hB0 := Below.refl w.heap.size w
 have hl_hs := sl_len hs
 refine co_enter (n := 21) Try.func72 rfl rfl rfl [(0, .agg #[.int .i64 ep, mv, .int .u64 fl]), (1, .agg #[.int .i64 m.1, .int .i64 m.2])] rfl (fun a h0 => ?_)
 refine co_seq ?_
 refine co_reg ?_
 refine pw h0 rfl (op_new (v := fun N => pt N 0) (T := 91) (cs := #[.int .i64 ep, mv, .int .u64 fl]) (by kernel_rfl) (by kernel_rfl) (by kernel_rfl)) ?_; clear h0
 rintro _ w2 a1 ⟨N3, rfl, hN6, hz7, hk5, hg4⟩ h1
 have hz8 := hg4.size
 try dsimp only at h1
 refine pw h1 rfl (op_new (v := fun N => pt N 0) (T := 114) (cs := #[.int .i64 m.1, .int .i64 m.2]) (by kernel_rfl) (by kernel_rfl) (by kernel_rfl)) ?_; clear h1
 rintro _ w10 a9 ⟨N11, rfl, hN14, hz15, hk13, hg12⟩ h9
 have hz16 := hg12.size
 try dsimp only at h9
 refine pk0 (v := .int .i64 0) h9 rfl fun a17 h17 => ?_; clear h9
 refine pl_nil ?_
 refine co_then ?_
 refine co_seq ?_
 refine co_seq ?_
 refine co_reg ?_
 refine pk0 (v := .int .i64 0) h17 rfl fun a18 h18 => ?_; clear h17
 refine pl_nil ?_
 refine co_then ?_
 refine wp_block ?_
 have h19 : Slots 21 [(2, pt N3 0), (3, pt N11 0), (5, .int .i64 0)] _ := h18.sub ⟨rfl, rfl, rfl, trivial⟩; clear h18
 refine co_loop (fun mm a x => ∃ (i : Nat), Slots 21 [(2, pt N3 0), (3, pt N11 0), (5, .int .i64 ((i : Nat) : Int))] a ∧ mm = ms.length - i ∧ (i ≤ ms.length) ∧ (∀ j, j < i → ∀ z, ms[j]? = some z → (z == m) = false) ∧ Below w.heap.size w x ∧ Blk x N3 91 #[.int .i64 ep, mv, .int .u64 fl] ∧ Blk x N11 114 #[.int .i64 m.1, .int .i64 m.2]) (ms.length - 0) ?_ ?_
 have hB20 := hb_new hB0 hg4
 have hB21 := hb_new hB20 hg12
 have hk22 := hk5.kept hg12 (by simp)
 · exact ⟨0, h19.sub ⟨rfl, rfl, (slot_eq rfl (congrArg (Value.int .i64) (by first | rfl | omega))), trivial⟩, rfl, by omega, by first | (intro j hj; omega) | exact pl_next (by assumption) (by assumption) (by assumption), hB21, hk22, hk13⟩
 · rintro k23 a24 w25 ⟨i, h24, rfl, hi26, hi27, hB28, hk29, hk30⟩
   have hz31 := hB28.size
   have hl32 := hk29.lt
   have hl33 := hk30.lt
   refine co_seq ?_
   refine co_seq ?_
   refine co_reg ?_
   refine pk0 (v := .int .i64 ((i : Nat) : Int)) h24 rfl fun a34 h34 => ?_; clear h24
   refine pk0 (v := pt N3 1) h34 rfl fun a35 h35 => ?_; clear h34
   refine pk (v := mv) h35 rfl (rn_load1 rfl rfl Try.isAgg89 (hk29.cell rfl)) fun a36 h36 => ?_; clear h35
   refine pk (v := .int .i64 ((ms.length : Nat) : Int)) h36 rfl (rn_len rfl rfl Try.underlying89 (hs.below hB28)) fun a37 h37 => ?_; clear h36
   refine pk0 (v := .bool (decide (((i : Nat) : Int) < ((ms.length : Nat) : Int)))) h37 rfl fun a38 h38 => ?_; clear h37
   refine pl_nil ?_
   refine co_then ?_
   cases hc39 : (decide (((i : Nat) : Int) < ((ms.length : Nat) : Int)))
   ·
    rw [hc39] at h38
    have hp40 : ¬ (((i : Nat) : Int) < ((ms.length : Nat) : Int)) := of_decide_eq_false hc39
    clear hc39
    refine co_false h38 rfl ?_
    refine wp_exit ?_
    refine co_thenX ?_
    refine co_thenX ?_
    refine co_blockX ?_
    refine co_then ?_
    refine co_seq ?_
    refine co_reg ?_
    refine pk0 (v := .int .i64 (-1)) h38 rfl fun a41 h41 => ?_; clear h38
    refine pl_nil ?_
    refine co_then ?_
    refine wp_ret ?_
    refine co_ret1 h41 rfl rfl ?_
    exact ⟨_, rfl, by rw [decide_eq_false (by omega)]; exact pl_end (i := i) (by assumption) (by omega), hB28⟩
   ·
    rw [hc39] at h38
    have hp42 : ((i : Nat) : Int) < ((ms.length : Nat) : Int) := of_decide_eq_true hc39
    clear hc39
    refine co_true h38 rfl ?_
    refine wp_skip ?_
    refine co_then ?_
    refine co_seq ?_
    refine wp_block ?_
    refine co_seq ?_
    refine dr_eq (by kernel_rfl) (fun w43 hg44 => ?_)
    have hz45 := hg44.size
    refine dk0 0 (v := pt N3 1) h38 rfl rfl rfl fun a46 h46 => ?_; clear h38
    have hk47 := hk29.kept hg44 (by simp)
    refine dk 1 (v := mv) h46 rfl rfl rfl (fun x hx => by subst hx; exact (rn_load1 rfl rfl Try.isAgg89 (hk47.cell rfl))) fun a48 h48 => ?_; clear h46
    refine dk0 2 (v := .int .i64 ((i : Nat) : Int)) h48 rfl rfl rfl fun a49 h49 => ?_; clear h48
    have hB51 := hb_new hB28 hg44
    obtain ⟨y50, hy50⟩ : ∃ z, ms[i]? = some z := ⟨_, List.getElem?_eq_getElem (by first | omega | (simp; done) | (simp; omega))⟩
    refine dk 3 (v := pt (blkOf mv) (offOf mv + i * 2)) h49 rfl rfl rfl (fun x hx => by subst hx; exact (rn_index rfl rfl rfl Try.underlying89 Try.sizeOf114 (hs.below hB51) (by omega) (by first | omega | (simp; done) | (simp; omega)))) fun a52 h52 => ?_; clear h49
    refine dk 4 (v := .agg #[.int .i64 y50.1, .int .i64 y50.2]) h52 rfl rfl rfl (fun x hx => by subst hx; exact (rn_loadN rfl rfl Try.underlying114 rfl (by kernel_rfl) (sl_at (hs.below hB51) hy50))) fun a53 h53 => ?_; clear h52
    have hk54 := hk30.kept hg44 (by simp)
    refine dk 5 (v := .agg #[.int .i64 m.1, .int .i64 m.2]) h53 rfl rfl rfl (fun x hx => by subst hx; exact (rn_loadN rfl rfl Try.underlying114 rfl (by kernel_rfl) hk54.all)) fun a55 h55 => ?_; clear h53
    refine dk 6 (v := .bool (y50 == m)) h55 rfl rfl rfl (fun x hx => by subst hx; exact (rn_eqS rfl rfl rfl Try.eqGuardType114 (eq_mem y50 m _))) fun a56 h56 => ?_; clear h55
    refine dr_done (by kernel_rfl) ?_
    refine co_then ?_
    cases hc57 : (y50 == m)
    ·
     rw [hc57] at h56
     refine co_false h56 rfl ?_
     refine wp_skip ?_
     refine co_blockN ?_
     refine co_then ?_
     refine co_reg ?_
     refine pk0 (v := .int .i64 ((i : Nat) : Int)) h56 rfl fun a58 h58 => ?_; clear h56
     refine pk (v := .int .i64 ((i + 1 : Nat) : Int)) h58 rfl (rn_arith' rfl rfl rfl rfl rfl rfl (IntWalk.i64_in _ (by omega)) (by omega)) fun a59 h59 => ?_; clear h58
     refine pk0 (v := .int .i64 ((i + 1 : Nat) : Int)) h59 rfl fun a60 h60 => ?_; clear h59
     refine pl_nil ?_
     refine co_then ?_
     refine ⟨(ms.length - (i + 1)), by omega, ?_⟩
     exact ⟨i + 1, h60.sub ⟨rfl, rfl, rfl, trivial⟩, rfl, by omega, by first | (intro j hj; omega) | exact pl_next (by assumption) (by assumption) (by assumption), hB51, hk47, hk54⟩
    ·
     rw [hc57] at h56
     refine co_true h56 rfl ?_
     refine co_seq ?_
     refine co_reg ?_
     refine pk0 (v := .int .i64 ((i : Nat) : Int)) h56 rfl fun a61 h61 => ?_; clear h56
     refine pk0 (v := .int .i64 ((i : Nat) : Int)) h61 rfl fun a62 h62 => ?_; clear h61
     refine pl_nil ?_
     refine co_then ?_
     refine wp_ret ?_
     refine co_blockR ?_
     refine co_thenR ?_
     refine co_thenR ?_
     refine co_blockR ?_
     refine co_thenR ?_
     refine co_ret1 h62 rfl rfl ?_
     exact ⟨_, rfl, by rw [decide_eq_true (by omega)]; exact pl_at (by assumption) (by assumption), hB51⟩
set_option maxRecDepth 100000 in
theorem at0_any (ep : Int) (mv : Value) (ms : List MemT) (fl : Int) (w : World) (hs : SliceOf memE 2 w mv ms) :
    Calls Try.prog 107 #[.agg #[.int .i64 ep, mv, .int .u64 fl], .int .i64 0] w fun e w' => e = .returned (.int .i64 (headI ms)) ∧ Below w.heap.size w w' := by
 have hB0 := Below.refl w.heap.size w
 have hl_hs := sl_len hs
 refine co_enter (n := 20) Try.func107 rfl rfl rfl [(0, .agg #[.int .i64 ep, mv, .int .u64 fl]), (1, .int .i64 0)] rfl (fun a h0 => ?_)
 refine co_seq ?_
 refine co_reg ?_
 refine pw h0 rfl (op_new (v := fun N => pt N 0) (T := 91) (cs := #[.int .i64 ep, mv, .int .u64 fl]) (by kernel_rfl) (by kernel_rfl) (by kernel_rfl)) ?_; clear h0
 rintro _ w2 a1 ⟨N3, rfl, hN6, hz7, hk5, hg4⟩ h1
 have hz8 := hg4.size
 try dsimp only at h1
 refine pk0 (v := .int .i64 0) h1 rfl fun a9 h9 => ?_; clear h1
 refine pl_nil ?_
 refine co_then ?_
 refine co_seq ?_
 refine co_seq ?_
 refine co_reg ?_
 refine pk0 (v := .int .i64 0) h9 rfl fun a10 h10 => ?_; clear h9
 refine pk0 (v := .bool (decide (0 < 0))) h10 rfl fun a11 h11 => ?_; clear h10
 refine pk0 (v := .bool (decide (0 < 0))) h11 rfl fun a12 h12 => ?_; clear h11
 have hc13 : (decide (0 < 0)) = false := decide_eq_false (by omega)
 rw [hc13] at h12; clear hc13
 refine pk0 (v := .int .i64 0) h12 rfl fun a14 h14 => ?_; clear h12
 refine pk0 (v := pt N3 1) h14 rfl fun a15 h15 => ?_; clear h14
 refine pk (v := mv) h15 rfl (rn_load1 rfl rfl Try.isAgg89 (hk5.cell rfl)) fun a16 h16 => ?_; clear h15
 have hB17 := hb_new hB0 hg4
 refine pk (v := .int .i64 ((ms.length : Nat) : Int)) h16 rfl (rn_len rfl rfl Try.underlying89 (hs.below hB17)) fun a18 h18 => ?_; clear h16
 refine pk0 (v := .bool (decide (0 ≥ ((ms.length : Nat) : Int)))) h18 rfl fun a19 h19 => ?_; clear h18
 refine pk0 (v := .bool (decide (0 ≥ ((ms.length : Nat) : Int)))) h19 rfl fun a20 h20 => ?_; clear h19
 refine pl_nil ?_
 refine co_then ?_
 cases hc21 : (decide (0 ≥ ((ms.length : Nat) : Int)))
 ·
  rw [hc21] at h20
  have hp22 : ¬ (0 ≥ ((ms.length : Nat) : Int)) := of_decide_eq_false hc21
  clear hc21
  refine co_false h20 rfl ?_
  refine wp_skip ?_
  refine co_then ?_
  refine co_seq ?_
  refine co_reg ?_
  refine pk0 (v := pt N3 1) h20 rfl fun a23 h23 => ?_; clear h20
  refine pk (v := mv) h23 rfl (rn_load1 rfl rfl Try.isAgg89 (hk5.cell rfl)) fun a24 h24 => ?_; clear h23
  refine pk0 (v := .int .i64 0) h24 rfl fun a25 h25 => ?_; clear h24
  obtain ⟨y26, hy26⟩ : ∃ z, ms[0]? = some z := ⟨_, List.getElem?_eq_getElem (by first | omega | (simp; done) | (simp; omega))⟩
  refine pk (v := pt (blkOf mv) (offOf mv + 0 * 2)) h25 rfl (rn_index rfl rfl rfl Try.underlying89 Try.sizeOf114 (hs.below hB17) (by omega) (by first | omega | (simp; done) | (simp; omega))) fun a27 h27 => ?_; clear h25
  refine pk0 (v := pt (blkOf mv) (offOf mv + 0 * 2)) h27 rfl fun a28 h28 => ?_; clear h27
  refine pk (v := .int .i64 y26.1) h28 rfl (rn_load1 rfl rfl Try.isAgg3 ((sl_at (hs.below hB17) hy26) 0 _ rfl)) fun a29 h29 => ?_; clear h28
  refine pk0 (v := .int .i64 y26.1) h29 rfl fun a30 h30 => ?_; clear h29
  refine pl_nil ?_
  refine co_then ?_
  refine wp_ret ?_
  refine co_ret1 h30 rfl rfl ?_
  exact ⟨ret_int (by first | exact headI_y (by assumption) | exact headI_0 (by omega)), hB17⟩
 ·
  rw [hc21] at h20
  have hp31 : 0 ≥ ((ms.length : Nat) : Int) := of_decide_eq_true hc21
  clear hc21
  refine co_true h20 rfl ?_
  refine co_seq ?_
  refine co_reg ?_
  refine pk0 (v := .int .i64 (-1)) h20 rfl fun a32 h32 => ?_; clear h20
  refine pl_nil ?_
  refine co_then ?_
  refine wp_ret ?_
  refine co_thenR ?_
  refine co_ret1 h32 rfl rfl ?_
  exact ⟨ret_int (by first | exact headI_y (by assumption) | exact headI_0 (by omega)), hB17⟩
set_option maxRecDepth 100000 in
theorem head27_any (ep : Int) (mv : Value) (ms : List MemT) (fl : Int) (w : World) (hs : SliceOf memE 2 w mv ms) :
    Calls Try.prog 71 #[.agg #[.int .i64 ep, mv, .int .u64 fl]] w fun e w' => e = .returned (.int .i64 (headI ms)) ∧ Below w.heap.size w w' := by
 have hB0 := Below.refl w.heap.size w
 have hl_hs := sl_len hs
 refine co_enter (n := 5) Try.func71 rfl rfl rfl [(0, .agg #[.int .i64 ep, mv, .int .u64 fl])] rfl (fun a h0 => ?_)
 refine co_seq ?_
 refine co_reg ?_
 refine pw h0 rfl (op_new (v := fun N => pt N 0) (T := 91) (cs := #[.int .i64 ep, mv, .int .u64 fl]) (by kernel_rfl) (by kernel_rfl) (by kernel_rfl)) ?_; clear h0
 rintro _ w2 a1 ⟨N3, rfl, hN6, hz7, hk5, hg4⟩ h1
 have hz8 := hg4.size
 try dsimp only at h1
 refine pk0 (v := .int .i64 0) h1 rfl fun a9 h9 => ?_; clear h1
 refine pl_nil ?_
 refine co_then ?_
 refine co_seq ?_
 refine co_reg ?_
 refine pk (v := .agg #[.int .i64 ep, mv, .int .u64 fl]) h9 rfl (rn_loadN rfl rfl Try.underlying91 rfl (by kernel_rfl) hk5.all) fun a10 h10 => ?_; clear h9
 have hB13 := hb_new hB0 hg4
 refine pw h10 rfl (op_call (args := #[.agg #[.int .i64 ep, mv, .int .u64 fl], .int .i64 0]) (R := fun res xw => res = .int .i64 (headI ms) ∧ Below w2.heap.size w2 xw) rfl rfl rfl (by kernel_rfl) (by kernel_rfl) (Try.call107 _ _) (at0_any ep mv ms fl w2 (hs.below hB13)) (by rintro e x ⟨rfl, hb14⟩; exact ⟨_, rfl, ⟨rfl, hb14⟩⟩)) ?_; clear h10
 rintro _ w12 a11 ⟨rfl, hb14⟩ h11
 have hz15 := hb14.size
 refine pk0 (v := .int .i64 (headI ms)) h11 rfl fun a16 h16 => ?_; clear h11
 refine pl_nil ?_
 refine co_then ?_
 refine wp_ret ?_
 refine co_ret1 h16 rfl rfl ?_
 have hB17 := hb_call hB13 hb14
 exact ⟨rfl, hB17⟩
set_option maxRecDepth 100000 in
theorem planHead_law (ep : Int) (mv : Value) (ms : List MemT) (fl : Int) (lv : Value) (lg : List Int) (gv : Value) (gn : List Int) (jv : Value) (js : List MemT) (last : Int) (w : World) (hs : SliceOf memE 2 w mv ms) (hmk : ∀ z ∈ ms, memOk z) (hlg : SliceOf (intE .i64) 1 w lv lg) (hgn : SliceOf (intE .i64) 1 w gv gn) (hjs : SliceOf memE 2 w jv js) (hjk : ∀ z ∈ js, memOk z) (he : -9223372036854775808 ≤ ep ∧ ep ≤ 9223372036854775807) (hf : 0 ≤ fl ∧ fl < 18446744073709551616) (hla : 0 ≤ last ∧ last < 18446744073709551616) :
    Calls Try.prog 13 #[.agg #[.int .i64 ep, mv, .int .u64 fl], lv, gv, jv, .int .u64 last] w fun e w' => e = .returned (.bool true) ∧ Below w.heap.size w w' := by
 have hB0 := Below.refl w.heap.size w
 have hl_hs := sl_len hs
 have hl_hlg := sl_len hlg
 have hl_hgn := sl_len hgn
 have hl_hjs := sl_len hjs
 refine co_enter (n := 165) Try.func13 rfl rfl rfl [(0, .agg #[.int .i64 ep, mv, .int .u64 fl]), (1, lv), (2, gv), (3, jv), (4, .int .u64 last)] rfl (fun a h0 => ?_)
 refine co_seq ?_
 refine co_reg ?_
 refine pw h0 rfl (op_new (v := fun N => pt N 0) (T := 91) (cs := #[.int .i64 ep, mv, .int .u64 fl]) (by kernel_rfl) (by kernel_rfl) (by kernel_rfl)) ?_; clear h0
 rintro _ w2 a1 ⟨N3, rfl, hN6, hz7, hk5, hg4⟩ h1
 have hz8 := hg4.size
 try dsimp only at h1
 refine pk0 (v := .bool false) h1 rfl fun a9 h9 => ?_; clear h1
 refine pl_nil ?_
 refine co_then ?_
 refine co_seq ?_
 refine co_seq ?_
 refine co_reg ?_
 refine pk (v := .agg #[.int .i64 ep, mv, .int .u64 fl]) h9 rfl (rn_loadN rfl rfl Try.underlying91 rfl (by kernel_rfl) hk5.all) fun a10 h10 => ?_; clear h9
 refine pk0 (v := lv) h10 rfl fun a11 h11 => ?_; clear h10
 refine pk0 (v := gv) h11 rfl fun a12 h12 => ?_; clear h11
 refine pk0 (v := jv) h12 rfl fun a13 h13 => ?_; clear h12
 have hB16 := hb_new hB0 hg4
 refine pw h13 rfl (op_call (args := #[.agg #[.int .i64 ep, mv, .int .u64 fl], lv, gv, jv]) (R := fun res xw => res = .bool (longB ms.length lg.length gn.length js.length) ∧ Below w2.heap.size w2 xw) rfl rfl rfl (by kernel_rfl) (by kernel_rfl) (Try.call61 _ _) (long_any ep mv ms fl lv lg gv gn jv js w2 (hs.below hB16) (hlg.below hB16) (hgn.below hB16) (hjs.below hB16)) (by rintro e x ⟨rfl, hb17⟩; exact ⟨_, rfl, ⟨rfl, hb17⟩⟩)) ?_; clear h13
 rintro _ w15 a14 ⟨rfl, hb17⟩ h14
 have hz18 := hb17.size
 refine pl_nil ?_
 refine co_then ?_
 have hB20 := hb_call hB16 hb17
 cases hc19 : (longB ms.length lg.length gn.length js.length)
 ·
  rw [hc19] at h14
  refine co_false h14 rfl ?_
  refine wp_skip ?_
  refine co_then ?_
  refine co_seq ?_
  refine co_reg ?_
  have hk21 := hk5.below hb17
  refine pk (v := .agg #[.int .i64 ep, mv, .int .u64 fl]) h14 rfl (rn_loadN rfl rfl Try.underlying91 rfl (by kernel_rfl) hk21.all) fun a22 h22 => ?_; clear h14
  refine pk0 (v := lv) h22 rfl fun a23 h23 => ?_; clear h22
  refine pk0 (v := gv) h23 rfl fun a24 h24 => ?_; clear h23
  refine pk0 (v := jv) h24 rfl fun a25 h25 => ?_; clear h24
  refine pk0 (v := .int .u64 last) h25 rfl fun a26 h26 => ?_; clear h25
  have hln := long_no (by assumption : longB ms.length lg.length gn.length js.length = false)
  refine pw h26 rfl (op_call (args := #[.agg #[.int .i64 ep, mv, .int .u64 fl], lv, gv, jv, .int .u64 last]) (R := fun res xw => ∃ u : Value, ∃ t : Value, res = .tuple #[.agg #[.int .i64 (nextEp ep ms lg gn js), u, .int .u64 (nextFl ep ms fl lg gn js last)], t, .int .i64 (nextE ep ms lg gn js)] ∧ xw.ownsRow w15.heap.size 114 2 u (nextM ep ms lg gn js).length ((nextM ep ms lg gn js).flatMap memE) ∧ xw.ownsRow w15.heap.size 3 1 t (nextT ep ms lg gn js).length ((nextT ep ms lg gn js).flatMap (intE .i64)) ∧ Below w15.heap.size w15 xw) rfl rfl rfl (by kernel_rfl) (by kernel_rfl) (Try.call63 _ _) (next_any ep mv ms fl lv lg gv gn jv js last w15 (hs.below hB20) hmk (hlg.below hB20) (hgn.below hB20) (hjs.below hB20) hjk (by first | omega | (simp; done) | (simp; omega)) (by first | omega | (simp; done) | (simp; omega)) (by first | omega | (simp; done) | (simp; omega)) (by omega)) (by rintro e x ⟨u, t, rfl, hq31, hq32, hb33⟩; exact ⟨_, rfl, ⟨u, t, rfl, hq31, hq32, hb33⟩⟩)) ?_; clear h26
  rintro _ w28 a27 ⟨u29, t30, rfl, hq31, hq32, hb33⟩ h27
  have hz34 := hb33.size
  have hl35 := sl_len (row_sl hq31 memE_len)
  have hl36 := sl_len (row_sl hq32 (intE_len .i64))
  have hepk := next_epb (ep := ep) (ms := ms) (lg := lg) (gn := gn) (js := js)
  refine pk0 (v := .tuple #[.agg #[.int .i64 (nextEp ep ms lg gn js), u29, .int .u64 (nextFl ep ms fl lg gn js last)], t30, .int .i64 (nextE ep ms lg gn js)]) h27 rfl fun a37 h37 => ?_; clear h27
  refine pk0 (v := .agg #[.int .i64 (nextEp ep ms lg gn js), u29, .int .u64 (nextFl ep ms fl lg gn js last)]) h37 rfl fun a38 h38 => ?_; clear h37
  refine pk0 (v := t30) h38 rfl fun a39 h39 => ?_; clear h38
  refine pk0 (v := .int .i64 (nextE ep ms lg gn js)) h39 rfl fun a40 h40 => ?_; clear h39
  refine pw h40 rfl (op_new (v := fun N => pt N 0) (T := 91) (cs := #[.int .i64 0, .slice none 0 0, .int .u64 0]) (by kernel_rfl) (by kernel_rfl) (by kernel_rfl)) ?_; clear h40
  rintro _ w42 a41 ⟨N43, rfl, hN46, hz47, hk45, hg44⟩ h41
  have ha48 := row_fresh hq31 hN46
  have ha49 := row_fresh hq32 hN46
  have hz50 := hg44.size
  try dsimp only at h41
  have hr56 := row_kept_new hq31 hg44
  refine pwD h41 rfl (op_storeN rfl rfl rfl (all_cons rfl (all_cons (row_one hr56) (all_cons rfl all_nil))) (by kernel_rfl) hk45 rfl) ?_; clear h41
  rintro _ w52 a51 ⟨hk53, hz54, hg55⟩ h51
  have hk53' : Blk w52 N43 91 #[.int .i64 (nextEp ep ms lg gn js), u29, .int .u64 (nextFl ep ms fl lg gn js last)] := hk53; clear hk53
  have hz57 := hg55.size
  refine pk0 (v := t30) h51 rfl fun a58 h58 => ?_; clear h51
  refine pk0 (v := .int .i64 (nextE ep ms lg gn js)) h58 rfl fun a59 h59 => ?_; clear h58
  refine pl_nil ?_
  refine co_then ?_
  refine co_seq ?_
  refine co_seq ?_
  refine co_reg ?_
  refine pk0 (v := .int .i64 (nextE ep ms lg gn js)) h59 rfl fun a60 h60 => ?_; clear h59
  refine pk0 (v := .bool (nextE ep ms lg gn js != 0)) h60 rfl fun a61 h61 => ?_; clear h60
  refine pl_nil ?_
  refine co_then ?_
  have hB63 := hb_call hB20 hb33
  have hB64 := hb_new hB63 hg44
  have hB65 := hb_at hB64 hg55 (by omega)
  have hk66 := hk21.below hb33
  have hk67 := hk66.kept hg44 (by simp)
  have hk68 := hk67.kept hg55 (by simp; omega)
  have hr69 := row_kept_new hq32 hg44
  have hr70 := row_kept_at hr69 hg55 (ha49)
  cases hc62 : (nextE ep ms lg gn js != 0)
  ·
   rw [hc62] at h61
   have hp71 : ¬ (nextE ep ms lg gn js ≠ 0) := by first | simpa using hc62 | simpa [and_assoc] using hc62
   clear hc62
   refine co_false h61 rfl ?_
   refine wp_skip ?_
   refine co_then ?_
   refine co_seq ?_
   refine co_seq ?_
   refine co_reg ?_
   refine pk (v := .agg #[.int .i64 (nextEp ep ms lg gn js), u29, .int .u64 (nextFl ep ms fl lg gn js last)]) h61 rfl (rn_loadN rfl rfl Try.underlying91 rfl (by kernel_rfl) hk53'.all) fun a72 h72 => ?_; clear h61
   have hr75 := row_kept_at hr56 hg55 (ha48)
   refine pw h72 rfl (op_call (args := #[.agg #[.int .i64 (nextEp ep ms lg gn js), u29, .int .u64 (nextFl ep ms fl lg gn js last)]]) (R := fun res xw => res = .int .i64 (chkC (nextEp ep ms lg gn js) (nextM ep ms lg gn js)) ∧ Below w52.heap.size w52 xw) rfl rfl rfl (by kernel_rfl) (by kernel_rfl) (Try.call69 _ _) (wrcheck_any (nextEp ep ms lg gn js) u29 (nextM ep ms lg gn js) (nextFl ep ms fl lg gn js last) w52 (row_sl hr75 memE_len) (nextM_ok hmk hjk) (by have := nextEp_bd (ep := ep) (ms := ms) (lg := lg) (gn := gn) (js := js); omega) (nextFl_bd hf hla)) (by rintro e x ⟨rfl, hb76⟩; exact ⟨_, rfl, ⟨rfl, hb76⟩⟩)) ?_; clear h72
   rintro _ w74 a73 ⟨rfl, hb76⟩ h73
   have hz77 := hb76.size
   refine pk0 (v := .bool (chkC (nextEp ep ms lg gn js) (nextM ep ms lg gn js) != 0)) h73 rfl fun a78 h78 => ?_; clear h73
   refine pk0 (v := .bool (chkC (nextEp ep ms lg gn js) (nextM ep ms lg gn js) != 0)) h78 rfl fun a79 h79 => ?_; clear h78
   have hc80 : (chkC (nextEp ep ms lg gn js) (nextM ep ms lg gn js) != 0) = false := by rw [head_chk (by omega)]; rfl
   rw [hc80] at h79; clear hc80
   refine pk0 (v := pt N43 0) h79 rfl fun a81 h81 => ?_; clear h79
   have hk82 := hk53'.below hb76
   refine pk (v := .int .i64 (nextEp ep ms lg gn js)) h81 rfl (rn_load1 rfl rfl Try.isAgg3 (hk82.cell rfl)) fun a83 h83 => ?_; clear h81
   refine pk0 (v := pt N3 0) h83 rfl fun a84 h84 => ?_; clear h83
   have hk85 := hk68.below hb76
   refine pk (v := .int .i64 ep) h84 rfl (rn_load1 rfl rfl Try.isAgg3 (hk85.cell rfl)) fun a86 h86 => ?_; clear h84
   refine pk (v := .int .i64 (ep + 1)) h86 rfl (rn_arith rfl rfl rfl rfl rfl rfl (IntWalk.i64_in _ (by omega))) fun a87 h87 => ?_; clear h86
   refine pk0 (v := .bool (nextEp ep ms lg gn js != ep + 1)) h87 rfl fun a88 h88 => ?_; clear h87
   refine pk0 (v := .bool (nextEp ep ms lg gn js != ep + 1)) h88 rfl fun a89 h89 => ?_; clear h88
   refine pk0 (v := .bool (nextEp ep ms lg gn js != ep + 1)) h89 rfl fun a90 h90 => ?_; clear h89
   have hc91 : (nextEp ep ms lg gn js != ep + 1) = false := by rw [next_ep (by omega)]; simp
   rw [hc91] at h90; clear hc91
   refine pk0 (v := pt N43 2) h90 rfl fun a92 h92 => ?_; clear h90
   refine pk (v := .int .u64 (nextFl ep ms fl lg gn js last)) h92 rfl (rn_load1 rfl rfl Try.isAgg61 (hk82.cell rfl)) fun a93 h93 => ?_; clear h92
   refine pk0 (v := pt N3 2) h93 rfl fun a94 h94 => ?_; clear h93
   refine pk (v := .int .u64 fl) h94 rfl (rn_load1 rfl rfl Try.isAgg61 (hk85.cell rfl)) fun a95 h95 => ?_; clear h94
   refine pk0 (v := .bool (decide (nextFl ep ms fl lg gn js last < fl))) h95 rfl fun a96 h96 => ?_; clear h95
   refine pk0 (v := .bool (decide (nextFl ep ms fl lg gn js last < fl))) h96 rfl fun a97 h97 => ?_; clear h96
   refine pk0 (v := .bool (decide (nextFl ep ms fl lg gn js last < fl))) h97 rfl fun a98 h98 => ?_; clear h97
   have hc99 : (decide (nextFl ep ms fl lg gn js last < fl)) = false := decide_eq_false (next_fl (by omega) hf hla)
   rw [hc99] at h98; clear hc99
   refine pk0 (v := t30) h98 rfl fun a100 h100 => ?_; clear h98
   have hr101 := row_kept_new hr70 (below_grown hb76)
   refine pk (v := .int .i64 (((nextT ep ms lg gn js).length : Nat) : Int)) h100 rfl (rn_lenOwn rfl rfl Try.underlying37 hr101) fun a102 h102 => ?_; clear h100
   refine pk0 (v := .bool ((((nextT ep ms lg gn js).length : Nat) : Int) == 0)) h102 rfl fun a103 h103 => ?_; clear h102
   refine pk0 (v := .bool ((((nextT ep ms lg gn js).length : Nat) : Int) == 0)) h103 rfl fun a104 h104 => ?_; clear h103
   refine pk0 (v := .bool ((((nextT ep ms lg gn js).length : Nat) : Int) == 0)) h104 rfl fun a105 h105 => ?_; clear h104
   have hc106 : ((((nextT ep ms lg gn js).length : Nat) : Int) == 0) = false := beq_false_of_ne (by have := nextT_len (ep := ep) (ms := ms) (lg := lg) (gn := gn) (js := js) (by omega); omega)
   rw [hc106] at h105; clear hc106
   refine pk0 (v := t30) h105 rfl fun a107 h107 => ?_; clear h105
   refine pk (v := .agg #[.int .i64 (nextEp ep ms lg gn js), u29, .int .u64 (nextFl ep ms fl lg gn js last)]) h107 rfl (rn_loadN rfl rfl Try.underlying91 rfl (by kernel_rfl) hk82.all) fun a108 h108 => ?_; clear h107
   have hr111 := row_kept_new hr75 (below_grown hb76)
   refine pw h108 rfl (op_call (args := #[.agg #[.int .i64 (nextEp ep ms lg gn js), u29, .int .u64 (nextFl ep ms fl lg gn js last)]]) (R := fun res xw => res = .int .i64 (headI (nextM ep ms lg gn js)) ∧ Below w74.heap.size w74 xw) rfl rfl rfl (by kernel_rfl) (by kernel_rfl) (Try.call71 _ _) (head27_any (nextEp ep ms lg gn js) u29 (nextM ep ms lg gn js) (nextFl ep ms fl lg gn js last) w74 (row_sl hr111 memE_len)) (by rintro e x ⟨rfl, hb112⟩; exact ⟨_, rfl, ⟨rfl, hb112⟩⟩)) ?_; clear h108
   rintro _ w110 a109 ⟨rfl, hb112⟩ h109
   have hz113 := hb112.size
   have hr116 := row_kept_new hr101 (below_grown hb112)
   refine pw h109 rfl (op_call (args := #[t30, .int .i64 (headI (nextM ep ms lg gn js))]) (R := fun res xw => res = .bool (inL (nextT ep ms lg gn js) (headI (nextM ep ms lg gn js))) ∧ Below w110.heap.size w110 xw) rfl rfl rfl (by kernel_rfl) (by kernel_rfl) (Try.call70 _ _) (in_any t30 (nextT ep ms lg gn js) (headI (nextM ep ms lg gn js)) w110 (row_sl hr116 (intE_len .i64))) (by rintro e x ⟨rfl, hb117⟩; exact ⟨_, rfl, ⟨rfl, hb117⟩⟩)) ?_; clear h109
   rintro _ w115 a114 ⟨rfl, hb117⟩ h114
   have hz118 := hb117.size
   have hc119 : (inL (nextT ep ms lg gn js) (headI (nextM ep ms lg gn js))) = true := head_in (by omega)
   rw [hc119] at h114; clear hc119
   refine pk0 (v := .bool false) h114 rfl fun a120 h120 => ?_; clear h114
   refine pk0 (v := .bool false) h120 rfl fun a121 h121 => ?_; clear h120
   refine pl_nil ?_
   refine co_then ?_
   refine co_false h121 rfl ?_
   refine wp_skip ?_
   refine co_then ?_
   refine co_seq ?_
   refine co_seq ?_
   refine co_reg ?_
   refine pk0 (v := .int .i64 0) h121 rfl fun a122 h122 => ?_; clear h121
   refine pl_nil ?_
   refine co_then ?_
   refine wp_block ?_
   have h123 : Slots 165 [(1, lv), (2, gv), (3, jv), (5, pt N3 0), (11, pt N43 0), (12, t30), (14, .int .i64 0)] _ := h122.sub ⟨rfl, rfl, rfl, rfl, rfl, rfl, rfl, trivial⟩; clear h122
   refine co_loop (fun mm a x => ∃ (i : Nat), Slots 165 [(1, lv), (2, gv), (3, jv), (5, pt N3 0), (11, pt N43 0), (12, t30), (14, .int .i64 ((i : Nat) : Int))] a ∧ mm = (nextM ep ms lg gn js).length - i ∧ (i ≤ (nextM ep ms lg gn js).length) ∧ x.ownsRow w15.heap.size 114 2 u29 (nextM ep ms lg gn js).length ((nextM ep ms lg gn js).flatMap memE) ∧ x.ownsRow w15.heap.size 3 1 t30 (nextT ep ms lg gn js).length ((nextT ep ms lg gn js).flatMap (intE .i64)) ∧ Below w.heap.size w x ∧ Blk x N3 91 #[.int .i64 ep, mv, .int .u64 fl] ∧ Blk x N43 91 #[.int .i64 (nextEp ep ms lg gn js), u29, .int .u64 (nextFl ep ms fl lg gn js last)]) ((nextM ep ms lg gn js).length - 0) ?_ ?_
   have hr124 := row_kept_new hr111 (below_grown hb112)
   have hr125 := row_kept_new hr124 (below_grown hb117)
   have hr126 := row_kept_new hr116 (below_grown hb117)
   have hB127 := hb_call hB65 hb76
   have hB128 := hb_call hB127 hb112
   have hB129 := hb_call hB128 hb117
   have hk130 := hk85.below hb112
   have hk131 := hk130.below hb117
   have hk132 := hk82.below hb112
   have hk133 := hk132.below hb117
   · exact ⟨0, h123.sub ⟨rfl, rfl, rfl, rfl, rfl, rfl, (slot_eq rfl (congrArg (Value.int .i64) (by first | rfl | omega))), trivial⟩, rfl, by omega, hr125, hr126, hB129, hk131, hk133⟩
   · rintro k134 a135 w136 ⟨i, h135, rfl, hi137, hf138, hf139, hB140, hk141, hk142⟩
     have hz143 := hB140.size
     have hl144 := hk141.lt
     have hl145 := hk142.lt
     refine co_seq ?_
     refine co_seq ?_
     refine co_reg ?_
     refine pk0 (v := .int .i64 ((i : Nat) : Int)) h135 rfl fun a146 h146 => ?_; clear h135
     refine pk0 (v := pt N43 1) h146 rfl fun a147 h147 => ?_; clear h146
     refine pk (v := u29) h147 rfl (rn_load1 rfl rfl Try.isAgg89 (hk142.cell rfl)) fun a148 h148 => ?_; clear h147
     refine pk (v := .int .i64 (((nextM ep ms lg gn js).length : Nat) : Int)) h148 rfl (rn_lenOwn rfl rfl Try.underlying89 hf138) fun a149 h149 => ?_; clear h148
     refine pk0 (v := .bool (decide (((i : Nat) : Int) < (((nextM ep ms lg gn js).length : Nat) : Int)))) h149 rfl fun a150 h150 => ?_; clear h149
     refine pl_nil ?_
     refine co_then ?_
     cases hc151 : (decide (((i : Nat) : Int) < (((nextM ep ms lg gn js).length : Nat) : Int)))
     ·
      rw [hc151] at h150
      have hp152 : ¬ (((i : Nat) : Int) < (((nextM ep ms lg gn js).length : Nat) : Int)) := of_decide_eq_false hc151
      clear hc151
      refine co_false h150 rfl ?_
      refine wp_exit ?_
      refine co_thenX ?_
      refine co_thenX ?_
      refine co_blockX ?_
      refine co_then ?_
      refine co_seq ?_
      refine co_seq ?_
      refine co_reg ?_
      refine pk0 (v := .int .i64 0) h150 rfl fun a153 h153 => ?_; clear h150
      refine pl_nil ?_
      refine co_then ?_
      refine wp_block ?_
      have h154 : Slots 165 [(12, t30), (19, .int .i64 0)] _ := h153.sub ⟨rfl, rfl, trivial⟩; clear h153
      refine co_loop (fun mm a x => ∃ (q : Nat), Slots 165 [(12, t30), (19, .int .i64 ((q : Nat) : Int))] a ∧ mm = (nextT ep ms lg gn js).length - q ∧ (q ≤ (nextT ep ms lg gn js).length) ∧ x.ownsRow w15.heap.size 3 1 t30 (nextT ep ms lg gn js).length ((nextT ep ms lg gn js).flatMap (intE .i64)) ∧ Below w.heap.size w x) ((nextT ep ms lg gn js).length - 0) ?_ ?_
      · exact ⟨0, h154.sub ⟨rfl, (slot_eq rfl (congrArg (Value.int .i64) (by first | rfl | omega))), trivial⟩, rfl, by omega, hf139, hB140⟩
      · rintro k155 a156 w157 ⟨q, h156, rfl, hi158, hf159, hB160⟩
        have hz161 := hB160.size
        refine co_seq ?_
        refine co_seq ?_
        refine co_reg ?_
        refine pk0 (v := .int .i64 ((q : Nat) : Int)) h156 rfl fun a162 h162 => ?_; clear h156
        refine pk0 (v := t30) h162 rfl fun a163 h163 => ?_; clear h162
        refine pk (v := .int .i64 (((nextT ep ms lg gn js).length : Nat) : Int)) h163 rfl (rn_lenOwn rfl rfl Try.underlying37 hf159) fun a164 h164 => ?_; clear h163
        refine pk0 (v := .bool (decide (((q : Nat) : Int) < (((nextT ep ms lg gn js).length : Nat) : Int)))) h164 rfl fun a165 h165 => ?_; clear h164
        refine pl_nil ?_
        refine co_then ?_
        cases hc166 : (decide (((q : Nat) : Int) < (((nextT ep ms lg gn js).length : Nat) : Int)))
        ·
         rw [hc166] at h165
         have hp167 : ¬ (((q : Nat) : Int) < (((nextT ep ms lg gn js).length : Nat) : Int)) := of_decide_eq_false hc166
         clear hc166
         refine co_false h165 rfl ?_
         refine wp_exit ?_
         refine co_thenX ?_
         refine co_thenX ?_
         refine co_blockX ?_
         refine co_then ?_
         refine co_seq ?_
         refine co_reg ?_
         refine pw h165 rfl (op_call (args := #[]) (R := fun res xw => res = .bool true ∧ Below w157.heap.size w157 xw) rfl rfl rfl (by kernel_rfl) (by kernel_rfl) (Try.call62 _ _) (awake27  w157 ) (by rintro e x ⟨rfl, hb170⟩; exact ⟨_, rfl, ⟨rfl, hb170⟩⟩)) ?_; clear h165
         rintro _ w169 a168 ⟨rfl, hb170⟩ h168
         have hz171 := hb170.size
         refine pk0 (v := .bool true) h168 rfl fun a172 h172 => ?_; clear h168
         refine pl_nil ?_
         refine co_then ?_
         refine wp_ret ?_
         refine co_ret1 h172 rfl rfl ?_
         have hB173 := hb_call hB160 hb170
         exact ⟨rfl, hB173⟩
        ·
         rw [hc166] at h165
         have hp174 : ((q : Nat) : Int) < (((nextT ep ms lg gn js).length : Nat) : Int) := of_decide_eq_true hc166
         clear hc166
         refine co_true h165 rfl ?_
         refine wp_skip ?_
         refine co_then ?_
         refine co_seq ?_
         refine wp_block ?_
         refine co_seq ?_
         refine dr_eq (by kernel_rfl) (fun w175 hg176 => ?_)
         have hz177 := hg176.size
         refine dk0 0 (v := .int .i64 ((q : Nat) : Int)) h165 rfl rfl rfl fun a178 h178 => ?_; clear h165
         refine dk0 1 (v := .bool (decide (((q : Nat) : Int) > 0))) h178 rfl rfl rfl fun a179 h179 => ?_; clear h178
         refine dk0 2 (v := .bool (decide (((q : Nat) : Int) > 0))) h179 rfl rfl rfl fun a180 h180 => ?_; clear h179
         have hB182 := hb_new hB160 hg176
         cases hc181 : (decide (((q : Nat) : Int) > 0))
         ·
          rw [hc181] at h180
          have hp183 : ¬ (((q : Nat) : Int) > 0) := of_decide_eq_false hc181
          clear hc181
          refine dsk 3 h180 rfl rfl rfl fun a184 h184 => ?_; clear h180
          refine dsk 4 h184 rfl rfl rfl fun a185 h185 => ?_; clear h184
          refine dsk 5 h185 rfl rfl rfl fun a186 h186 => ?_; clear h185
          refine dsk 6 h186 rfl rfl rfl fun a187 h187 => ?_; clear h186
          refine dsk 7 h187 rfl rfl rfl fun a188 h188 => ?_; clear h187
          refine dsk 8 h188 rfl rfl rfl fun a189 h189 => ?_; clear h188
          refine dsk 9 h189 rfl rfl rfl fun a190 h190 => ?_; clear h189
          refine dsk 10 h190 rfl rfl rfl fun a191 h191 => ?_; clear h190
          refine dsk 11 h191 rfl rfl rfl fun a192 h192 => ?_; clear h191
          refine dsk 12 h192 rfl rfl rfl fun a193 h193 => ?_; clear h192
          refine dk0 13 (v := .bool false) h193 rfl rfl rfl fun a194 h194 => ?_; clear h193
          refine dr_done (by kernel_rfl) ?_
          refine co_then ?_
          refine co_false h194 rfl ?_
          refine wp_skip ?_
          refine co_blockN ?_
          refine co_then ?_
          refine co_reg ?_
          refine pk0 (v := .int .i64 ((q : Nat) : Int)) h194 rfl fun a195 h195 => ?_; clear h194
          refine pk (v := .int .i64 ((q + 1 : Nat) : Int)) h195 rfl (rn_arith' rfl rfl rfl rfl rfl rfl (IntWalk.i64_in _ (by omega)) (by omega)) fun a196 h196 => ?_; clear h195
          refine pk0 (v := .int .i64 ((q + 1 : Nat) : Int)) h196 rfl fun a197 h197 => ?_; clear h196
          refine pl_nil ?_
          refine co_then ?_
          refine ⟨((nextT ep ms lg gn js).length - (q + 1)), by omega, ?_⟩
          have hr198 := row_kept_new hf159 hg176
          exact ⟨q + 1, h197.sub ⟨rfl, rfl, trivial⟩, rfl, by omega, hr198, hB182⟩
         ·
          rw [hc181] at h180
          have hp199 : ((q : Nat) : Int) > 0 := of_decide_eq_true hc181
          clear hc181
          refine dk0 3 (v := t30) h180 rfl rfl rfl fun a200 h200 => ?_; clear h180
          refine dk0 4 (v := .int .i64 ((q : Nat) : Int)) h200 rfl rfl rfl fun a201 h201 => ?_; clear h200
          refine dk 5 (v := .int .i64 (((q : Nat) : Int) - 1)) h201 rfl rfl rfl (fun x hx => by subst hx; exact (rn_arith rfl rfl rfl rfl rfl rfl (IntWalk.i64_in _ (by omega)))) fun a202 h202 => ?_; clear h201
          have hr204 := row_kept_new hf159 hg176
          obtain ⟨y203, hy203⟩ : ∃ z, (nextT ep ms lg gn js)[(((q : Nat) : Int) - 1).toNat]? = some z := ⟨_, List.getElem?_eq_getElem (by first | omega | (simp; done) | (simp; omega))⟩
          refine dk 6 (v := pt (blkOf t30) (offOf t30 + ((((q : Nat) : Int) - 1).toNat) * 1)) h202 rfl rfl rfl (fun x hx => by subst hx; exact (rn_index rfl rfl rfl Try.underlying37 Try.sizeOf3 (row_sl hr204 (intE_len .i64)) (by omega) (by first | omega | (simp; done) | (simp; omega)))) fun a205 h205 => ?_; clear h202
          refine dk 7 (v := .int .i64 y203) h205 rfl rfl rfl (fun x hx => by subst hx; exact (rn_load1 rfl rfl Try.isAgg3 ((sl_at (row_sl hr204 (intE_len .i64)) hy203) 0 _ rfl))) fun a206 h206 => ?_; clear h205
          refine dk0 8 (v := t30) h206 rfl rfl rfl fun a207 h207 => ?_; clear h206
          refine dk0 9 (v := .int .i64 ((q : Nat) : Int)) h207 rfl rfl rfl fun a208 h208 => ?_; clear h207
          obtain ⟨y209, hy209⟩ : ∃ z, (nextT ep ms lg gn js)[q]? = some z := ⟨_, List.getElem?_eq_getElem (by first | omega | (simp; done) | (simp; omega))⟩
          refine dk 10 (v := pt (blkOf t30) (offOf t30 + q * 1)) h208 rfl rfl rfl (fun x hx => by subst hx; exact (rn_index rfl rfl rfl Try.underlying37 Try.sizeOf3 (row_sl hr204 (intE_len .i64)) (by omega) (by first | omega | (simp; done) | (simp; omega)))) fun a210 h210 => ?_; clear h208
          refine dk 11 (v := .int .i64 y209) h210 rfl rfl rfl (fun x hx => by subst hx; exact (rn_load1 rfl rfl Try.isAgg3 ((sl_at (row_sl hr204 (intE_len .i64)) hy209) 0 _ rfl))) fun a211 h211 => ?_; clear h210
          refine dk0 12 (v := .bool (decide (y203 ≥ y209))) h211 rfl rfl rfl fun a212 h212 => ?_; clear h211
          refine dk0 13 (v := .bool (decide (y203 ≥ y209))) h212 rfl rfl rfl fun a213 h213 => ?_; clear h212
          refine dr_done (by kernel_rfl) ?_
          refine co_then ?_
          cases hc214 : (decide (y203 ≥ y209))
          ·
           rw [hc214] at h213
           have hp215 : ¬ (y203 ≥ y209) := of_decide_eq_false hc214
           clear hc214
           refine co_false h213 rfl ?_
           refine wp_skip ?_
           refine co_blockN ?_
           refine co_then ?_
           refine co_reg ?_
           refine pk0 (v := .int .i64 ((q : Nat) : Int)) h213 rfl fun a216 h216 => ?_; clear h213
           refine pk (v := .int .i64 ((q + 1 : Nat) : Int)) h216 rfl (rn_arith' rfl rfl rfl rfl rfl rfl (IntWalk.i64_in _ (by omega)) (by omega)) fun a217 h217 => ?_; clear h216
           refine pk0 (v := .int .i64 ((q + 1 : Nat) : Int)) h217 rfl fun a218 h218 => ?_; clear h217
           refine pl_nil ?_
           refine co_then ?_
           refine ⟨((nextT ep ms lg gn js).length - (q + 1)), by omega, ?_⟩
           exact ⟨q + 1, h218.sub ⟨rfl, rfl, trivial⟩, rfl, by omega, hr204, hB182⟩
          ·
           rw [hc214] at h213
           have hp219 : y203 ≥ y209 := of_decide_eq_true hc214
           clear hc214
           refine co_true h213 rfl ?_
           refine co_seq ?_
           refine co_reg ?_
           refine pk0 (v := .bool false) h213 rfl fun a220 h220 => ?_; clear h213
           refine pl_nil ?_
           refine co_then ?_
           refine wp_ret ?_
           refine co_blockR ?_
           refine co_thenR ?_
           refine co_thenR ?_
           refine co_blockR ?_
           refine co_thenR ?_
           refine co_ret1 h220 rfl rfl ?_
           exact absurd (rise_at (by omega : nextE ep ms lg gn js = 0) hy203 hy209 (by omega)) (by omega)
     ·
      rw [hc151] at h150
      have hp221 : ((i : Nat) : Int) < (((nextM ep ms lg gn js).length : Nat) : Int) := of_decide_eq_true hc151
      clear hc151
      refine co_true h150 rfl ?_
      refine wp_skip ?_
      refine co_then ?_
      refine co_seq ?_
      refine wp_block ?_
      refine co_seq ?_
      refine co_reg ?_
      refine pk0 (v := pt N43 1) h150 rfl fun a222 h222 => ?_; clear h150
      refine pk (v := u29) h222 rfl (rn_load1 rfl rfl Try.isAgg89 (hk142.cell rfl)) fun a223 h223 => ?_; clear h222
      refine pk0 (v := .int .i64 ((i : Nat) : Int)) h223 rfl fun a224 h224 => ?_; clear h223
      obtain ⟨y225, hy225⟩ : ∃ z, (nextM ep ms lg gn js)[i]? = some z := ⟨_, List.getElem?_eq_getElem (by first | omega | (simp; done) | (simp; omega))⟩
      have hM := head_mem (by omega : nextE ep ms lg gn js = 0) hy225
      refine pk (v := pt (blkOf u29) (offOf u29 + i * 2)) h224 rfl (rn_index rfl rfl rfl Try.underlying89 Try.sizeOf114 (row_sl hf138 memE_len) (by omega) (by first | omega | (simp; done) | (simp; omega))) fun a226 h226 => ?_; clear h224
      refine pk (v := .agg #[.int .i64 y225.1, .int .i64 y225.2]) h226 rfl (rn_loadN rfl rfl Try.underlying114 rfl (by kernel_rfl) (sl_at (row_sl hf138 memE_len) hy225)) fun a227 h227 => ?_; clear h226
      refine pw h227 rfl (op_new (v := fun N => pt N 0) (T := 114) (cs := #[.int .i64 0, .int .i64 0]) (by kernel_rfl) (by kernel_rfl) (by kernel_rfl)) ?_; clear h227
      rintro _ w229 a228 ⟨N230, rfl, hN233, hz234, hk232, hg231⟩ h228
      have ha235 := row_fresh hf138 hN233
      have ha236 := row_fresh hf139 hN233
      have hz237 := hg231.size
      try dsimp only at h228
      refine pwD h228 rfl (op_storeN rfl rfl rfl (by kernel_rfl) (by kernel_rfl) hk232 rfl) ?_; clear h228
      rintro _ w239 a238 ⟨hk240, hz241, hg242⟩ h238
      have hk240' : Blk w239 N230 114 #[.int .i64 y225.1, .int .i64 y225.2] := hk240; clear hk240
      have hz243 := hg242.size
      refine pl_nil ?_
      refine co_then ?_
      refine co_seq ?_
      refine co_reg ?_
      have hk244 := hk141.kept hg231 (by simp)
      have hk245 := hk244.kept hg242 (by simp; omega)
      refine pk (v := .agg #[.int .i64 ep, mv, .int .u64 fl]) h238 rfl (rn_loadN rfl rfl Try.underlying91 rfl (by kernel_rfl) hk245.all) fun a246 h246 => ?_; clear h238
      refine pk (v := .agg #[.int .i64 y225.1, .int .i64 y225.2]) h246 rfl (rn_loadN rfl rfl Try.underlying114 rfl (by kernel_rfl) hk240'.all) fun a247 h247 => ?_; clear h246
      have hB250 := hb_new hB140 hg231
      have hB251 := hb_at hB250 hg242 (by omega)
      refine pw h247 rfl (op_call (args := #[.agg #[.int .i64 ep, mv, .int .u64 fl], .agg #[.int .i64 y225.1, .int .i64 y225.2]]) (R := fun res xw => ∃ j : Int, res = .int .i64 j ∧ decide (j ≥ 0) = plB ms y225 ∧ Below w239.heap.size w239 xw) rfl rfl rfl (by kernel_rfl) (by kernel_rfl) (Try.call72 _ _) (place27_any ep mv ms fl y225 w239 (hs.below hB251)) (by rintro e x ⟨j, rfl, hq253, hb254⟩; exact ⟨_, rfl, ⟨j, rfl, hq253, hb254⟩⟩)) ?_; clear h247
      rintro _ w249 a248 ⟨j252, rfl, hq253, hb254⟩ h248
      have hz255 := hb254.size
      refine pk0 (v := .bool (decide (j252 ≥ 0))) h248 rfl fun a256 h256 => ?_; clear h248
      refine pk0 (v := .bool (decide (j252 ≥ 0))) h256 rfl fun a257 h257 => ?_; clear h256
      refine pl_nil ?_
      refine co_then ?_
      refine co_seq ?_
      refine co_seq ?_
      refine co_reg ?_
      refine pk0 (v := t30) h257 rfl fun a258 h258 => ?_; clear h257
      refine pk0 (v := pt N230 0) h258 rfl fun a259 h259 => ?_; clear h258
      have hk260 := hk240'.below hb254
      refine pk (v := .int .i64 y225.1) h259 rfl (rn_load1 rfl rfl Try.isAgg3 (hk260.cell rfl)) fun a261 h261 => ?_; clear h259
      have hr264 := row_kept_new hf139 hg231
      have hr265 := row_kept_at hr264 hg242 (ha236)
      have hr266 := row_kept_new hr265 (below_grown hb254)
      refine pw h261 rfl (op_call (args := #[t30, .int .i64 y225.1]) (R := fun res xw => res = .bool (inL (nextT ep ms lg gn js) y225.1) ∧ Below w249.heap.size w249 xw) rfl rfl rfl (by kernel_rfl) (by kernel_rfl) (Try.call70 _ _) (in_any t30 (nextT ep ms lg gn js) y225.1 w249 (row_sl hr266 (intE_len .i64))) (by rintro e x ⟨rfl, hb267⟩; exact ⟨_, rfl, ⟨rfl, hb267⟩⟩)) ?_; clear h261
      rintro _ w263 a262 ⟨rfl, hb267⟩ h262
      have hz268 := hb267.size
      refine pk0 (v := .bool (inL (nextT ep ms lg gn js) y225.1)) h262 rfl fun a269 h269 => ?_; clear h262
      have hB271 := hb_call hB251 hb254
      have hB272 := hb_call hB271 hb267
      have hk273 := hk245.below hb254
      have hk274 := hk273.below hb267
      have hk275 := hk142.kept hg231 (by simp)
      have hk276 := hk275.kept hg242 (by simp; omega)
      have hk277 := hk276.below hb254
      have hk278 := hk277.below hb267
      have hr279 := row_kept_new hf138 hg231
      have hr280 := row_kept_at hr279 hg242 (ha235)
      have hr281 := row_kept_new hr280 (below_grown hb254)
      have hr282 := row_kept_new hr281 (below_grown hb267)
      cases hc270 : (inL (nextT ep ms lg gn js) y225.1)
      ·
       rw [hc270] at h269
       refine psk h269 rfl fun a283 h283 => ?_; clear h269
       refine psk h283 rfl fun a284 h284 => ?_; clear h283
       refine psk h284 rfl fun a285 h285 => ?_; clear h284
       refine psk h285 rfl fun a286 h286 => ?_; clear h285
       refine psk h286 rfl fun a287 h287 => ?_; clear h286
       refine psk h287 rfl fun a288 h288 => ?_; clear h287
       refine psk h288 rfl fun a289 h289 => ?_; clear h288
       refine psk h289 rfl fun a290 h290 => ?_; clear h289
       refine psk h290 rfl fun a291 h291 => ?_; clear h290
       refine psk h291 rfl fun a292 h292 => ?_; clear h291
       refine psk h292 rfl fun a293 h293 => ?_; clear h292
       refine psk h293 rfl fun a294 h294 => ?_; clear h293
       refine psk h294 rfl fun a295 h295 => ?_; clear h294
       refine psk h295 rfl fun a296 h296 => ?_; clear h295
       refine psk h296 rfl fun a297 h297 => ?_; clear h296
       refine pk0 (v := .bool false) h297 rfl fun a298 h298 => ?_; clear h297
       refine pl_nil ?_
       refine co_then ?_
       refine co_false h298 rfl ?_
       refine wp_skip ?_
       refine co_then ?_
       refine co_seq ?_
       refine co_reg ?_
       refine pk0 (v := .bool false) h298 rfl fun a299 h299 => ?_; clear h298
       refine pl_nil ?_
       refine co_then ?_
       refine co_seq ?_
       refine co_seq ?_
       refine co_reg ?_
       refine pk0 (v := .int .i64 0) h299 rfl fun a300 h300 => ?_; clear h299
       refine pl_nil ?_
       refine co_then ?_
       refine wp_block ?_
       have h301 : Slots 165 [(1, lv), (2, gv), (3, jv), (5, pt N3 0), (11, pt N43 0), (12, t30), (14, .int .i64 ((i : Nat) : Int)), (15, pt N230 0), (16, .bool (decide (j252 ≥ 0))), (17, .bool false), (18, .int .i64 0)] _ := h300.sub ⟨rfl, rfl, rfl, rfl, rfl, rfl, rfl, rfl, rfl, rfl, rfl, trivial⟩; clear h300
       refine co_loop (fun mm a x => ∃ (k : Nat), Slots 165 [(1, lv), (2, gv), (3, jv), (5, pt N3 0), (11, pt N43 0), (12, t30), (14, .int .i64 ((i : Nat) : Int)), (15, pt N230 0), (16, .bool (decide (j252 ≥ 0))), (17, .bool ((js.take k).any (fun o => o == y225))), (18, .int .i64 ((k : Nat) : Int))] a ∧ mm = js.length - k ∧ (k ≤ js.length) ∧ x.ownsRow w15.heap.size 114 2 u29 (nextM ep ms lg gn js).length ((nextM ep ms lg gn js).flatMap memE) ∧ x.ownsRow w15.heap.size 3 1 t30 (nextT ep ms lg gn js).length ((nextT ep ms lg gn js).flatMap (intE .i64)) ∧ Below w.heap.size w x ∧ Blk x N3 91 #[.int .i64 ep, mv, .int .u64 fl] ∧ Blk x N43 91 #[.int .i64 (nextEp ep ms lg gn js), u29, .int .u64 (nextFl ep ms fl lg gn js last)] ∧ Blk x N230 114 #[.int .i64 y225.1, .int .i64 y225.2]) (js.length - 0) ?_ ?_
       have hr302 := row_kept_new hr266 (below_grown hb267)
       have hk303 := hk260.below hb267
       · exact ⟨0, h301.sub ⟨rfl, rfl, rfl, rfl, rfl, rfl, rfl, rfl, rfl, (slot_eq rfl (congrArg Value.bool (by first | rfl | exact any_t (by assumption) | exact any_f (f := fun o => o == y225) (by assumption) (by assumption)))), (slot_eq rfl (congrArg (Value.int .i64) (by first | rfl | omega))), trivial⟩, rfl, by omega, hr282, hr302, hB272, hk274, hk278, hk303⟩
       · rintro k304 a305 w306 ⟨k, h305, rfl, hi307, hf308, hf309, hB310, hk311, hk312, hk313⟩
         have hz314 := hB310.size
         have hl315 := hk311.lt
         have hl316 := hk312.lt
         have hl317 := hk313.lt
         refine co_seq ?_
         refine co_seq ?_
         refine co_reg ?_
         refine pk0 (v := .int .i64 ((k : Nat) : Int)) h305 rfl fun a318 h318 => ?_; clear h305
         refine pk0 (v := jv) h318 rfl fun a319 h319 => ?_; clear h318
         refine pk (v := .int .i64 ((js.length : Nat) : Int)) h319 rfl (rn_len rfl rfl Try.underlying89 (hjs.below hB310)) fun a320 h320 => ?_; clear h319
         refine pk0 (v := .bool (decide (((k : Nat) : Int) < ((js.length : Nat) : Int)))) h320 rfl fun a321 h321 => ?_; clear h320
         refine pl_nil ?_
         refine co_then ?_
         cases hc322 : (decide (((k : Nat) : Int) < ((js.length : Nat) : Int)))
         ·
          rw [hc322] at h321
          have hp323 : ¬ (((k : Nat) : Int) < ((js.length : Nat) : Int)) := of_decide_eq_false hc322
          clear hc322
          refine co_false h321 rfl ?_
          refine wp_exit ?_
          refine co_thenX ?_
          refine co_thenX ?_
          refine co_blockX ?_
          refine co_then ?_
          refine co_seq ?_
          refine co_reg ?_
          refine pk0 (v := .bool ((js.take k).any (fun o => o == y225))) h321 rfl fun a324 h324 => ?_; clear h321
          cases hc325 : ((js.take k).any (fun o => o == y225))
          ·
           rw [hc325] at h324
           refine pk0 (v := .bool true) h324 rfl fun a326 h326 => ?_; clear h324
           refine pk0 (v := .bool true) h326 rfl fun a327 h327 => ?_; clear h326
           refine pk0 (v := .bool (decide (j252 ≥ 0))) h327 rfl fun a328 h328 => ?_; clear h327
           cases hc329 : (decide (j252 ≥ 0))
           ·
            rw [hc329] at h328
            have hp330 : ¬ (j252 ≥ 0) := of_decide_eq_false hc329
            clear hc329
            refine pk0 (v := .bool true) h328 rfl fun a331 h331 => ?_; clear h328
            refine pk0 (v := .bool true) h331 rfl fun a332 h332 => ?_; clear h331
            refine psk h332 rfl fun a333 h333 => ?_; clear h332
            refine psk h333 rfl fun a334 h334 => ?_; clear h333
            refine psk h334 rfl fun a335 h335 => ?_; clear h334
            refine psk h335 rfl fun a336 h336 => ?_; clear h335
            refine pk0 (v := .bool true) h336 rfl fun a337 h337 => ?_; clear h336
            refine pk0 (v := .bool true) h337 rfl fun a338 h338 => ?_; clear h337
            refine pl_nil ?_
            refine co_then ?_
            refine co_true h338 rfl ?_
            refine co_seq ?_
            refine co_reg ?_
            refine pk0 (v := .bool false) h338 rfl fun a339 h339 => ?_; clear h338
            refine pl_nil ?_
            refine co_then ?_
            refine wp_ret ?_
            refine co_blockR ?_
            refine co_thenR ?_
            refine co_thenR ?_
            refine co_blockR ?_
            refine co_thenR ?_
            refine co_ret1 h339 rfl rfl ?_
            have hja : js.any (fun o => o == y225) = false := by
              have hjb := (by assumption : (js.take k).any (fun o => o == y225) = false)
              rwa [List.take_of_length_le (by omega)] at hjb
            exact (by first | exact no4 hM hja (by assumption) (by omega) | exact no5 hM hja (by assumption) : False).elim
           ·
            rw [hc329] at h328
            have hp340 : j252 ≥ 0 := of_decide_eq_true hc329
            clear hc329
            refine pk0 (v := .bool false) h328 rfl fun a341 h341 => ?_; clear h328
            refine pk0 (v := .bool false) h341 rfl fun a342 h342 => ?_; clear h341
            refine pk0 (v := gv) h342 rfl fun a343 h343 => ?_; clear h342
            refine pk0 (v := pt N230 0) h343 rfl fun a344 h344 => ?_; clear h343
            refine pk (v := .int .i64 y225.1) h344 rfl (rn_load1 rfl rfl Try.isAgg3 (hk313.cell rfl)) fun a345 h345 => ?_; clear h344
            refine pw h345 rfl (op_call (args := #[gv, .int .i64 y225.1]) (R := fun res xw => res = .bool (inL gn y225.1) ∧ Below w306.heap.size w306 xw) rfl rfl rfl (by kernel_rfl) (by kernel_rfl) (Try.call70 _ _) (in_any gv gn y225.1 w306 (hgn.below hB310)) (by rintro e x ⟨rfl, hb348⟩; exact ⟨_, rfl, ⟨rfl, hb348⟩⟩)) ?_; clear h345
            rintro _ w347 a346 ⟨rfl, hb348⟩ h346
            have hz349 := hb348.size
            refine pk0 (v := .bool (inL gn y225.1)) h346 rfl fun a350 h350 => ?_; clear h346
            refine pk0 (v := .bool (inL gn y225.1)) h350 rfl fun a351 h351 => ?_; clear h350
            refine pl_nil ?_
            refine co_then ?_
            have hB353 := hb_call hB310 hb348
            cases hc352 : (inL gn y225.1)
            ·
             rw [hc352] at h351
             refine co_false h351 rfl ?_
             refine wp_skip ?_
             refine co_blockN ?_
             refine co_then ?_
             refine co_reg ?_
             refine pk0 (v := .int .i64 ((i : Nat) : Int)) h351 rfl fun a354 h354 => ?_; clear h351
             refine pk (v := .int .i64 ((i + 1 : Nat) : Int)) h354 rfl (rn_arith' rfl rfl rfl rfl rfl rfl (IntWalk.i64_in _ (by omega)) (by omega)) fun a355 h355 => ?_; clear h354
             refine pk0 (v := .int .i64 ((i + 1 : Nat) : Int)) h355 rfl fun a356 h356 => ?_; clear h355
             refine pl_nil ?_
             refine co_then ?_
             refine ⟨((nextM ep ms lg gn js).length - (i + 1)), by omega, ?_⟩
             have hr357 := row_kept_new hf308 (below_grown hb348)
             have hr358 := row_kept_new hf309 (below_grown hb348)
             have hk359 := hk311.below hb348
             have hk360 := hk312.below hb348
             exact ⟨i + 1, h356.sub ⟨rfl, rfl, rfl, rfl, rfl, rfl, rfl, trivial⟩, rfl, by omega, hr357, hr358, hB353, hk359, hk360⟩
            ·
             rw [hc352] at h351
             refine co_true h351 rfl ?_
             refine co_seq ?_
             refine co_reg ?_
             refine pk0 (v := .bool false) h351 rfl fun a361 h361 => ?_; clear h351
             refine pl_nil ?_
             refine co_then ?_
             refine wp_ret ?_
             refine co_blockR ?_
             refine co_thenR ?_
             refine co_thenR ?_
             refine co_blockR ?_
             refine co_thenR ?_
             refine co_ret1 h361 rfl rfl ?_
             have hja : js.any (fun o => o == y225) = false := by
               have hjb := (by assumption : (js.take k).any (fun o => o == y225) = false)
               rwa [List.take_of_length_le (by omega)] at hjb
             exact (by first | exact no4 hM hja (by assumption) (by omega) | exact no5 hM hja (by assumption) : False).elim
          ·
           rw [hc325] at h324
           refine pk0 (v := .bool false) h324 rfl fun a362 h362 => ?_; clear h324
           refine pk0 (v := .bool false) h362 rfl fun a363 h363 => ?_; clear h362
           refine psk h363 rfl fun a364 h364 => ?_; clear h363
           refine psk h364 rfl fun a365 h365 => ?_; clear h364
           refine psk h365 rfl fun a366 h366 => ?_; clear h365
           refine psk h366 rfl fun a367 h367 => ?_; clear h366
           refine psk h367 rfl fun a368 h368 => ?_; clear h367
           refine psk h368 rfl fun a369 h369 => ?_; clear h368
           refine psk h369 rfl fun a370 h370 => ?_; clear h369
           refine psk h370 rfl fun a371 h371 => ?_; clear h370
           refine pk0 (v := .bool false) h371 rfl fun a372 h372 => ?_; clear h371
           refine pl_nil ?_
           refine co_then ?_
           refine co_false h372 rfl ?_
           refine wp_skip ?_
           refine co_blockN ?_
           refine co_then ?_
           refine co_reg ?_
           refine pk0 (v := .int .i64 ((i : Nat) : Int)) h372 rfl fun a373 h373 => ?_; clear h372
           refine pk (v := .int .i64 ((i + 1 : Nat) : Int)) h373 rfl (rn_arith' rfl rfl rfl rfl rfl rfl (IntWalk.i64_in _ (by omega)) (by omega)) fun a374 h374 => ?_; clear h373
           refine pk0 (v := .int .i64 ((i + 1 : Nat) : Int)) h374 rfl fun a375 h375 => ?_; clear h374
           refine pl_nil ?_
           refine co_then ?_
           refine ⟨((nextM ep ms lg gn js).length - (i + 1)), by omega, ?_⟩
           exact ⟨i + 1, h375.sub ⟨rfl, rfl, rfl, rfl, rfl, rfl, rfl, trivial⟩, rfl, by omega, hf308, hf309, hB310, hk311, hk312⟩
         ·
          rw [hc322] at h321
          have hp376 : ((k : Nat) : Int) < ((js.length : Nat) : Int) := of_decide_eq_true hc322
          clear hc322
          refine co_true h321 rfl ?_
          refine wp_skip ?_
          refine co_then ?_
          refine co_seq ?_
          refine wp_block ?_
          refine dr_eq (by kernel_rfl) (fun w377 hg378 => ?_)
          have hz379 := hg378.size
          refine dk0 0 (v := .bool ((js.take k).any (fun o => o == y225))) h321 rfl rfl rfl fun a380 h380 => ?_; clear h321
          refine dk0 1 (v := .bool ((js.take k).any (fun o => o == y225))) h380 rfl rfl rfl fun a381 h381 => ?_; clear h380
          have hB383 := hb_new hB310 hg378
          cases hc382 : ((js.take k).any (fun o => o == y225))
          ·
           rw [hc382] at h381
           refine dk0 2 (v := jv) h381 rfl rfl rfl fun a384 h384 => ?_; clear h381
           refine dk0 3 (v := .int .i64 ((k : Nat) : Int)) h384 rfl rfl rfl fun a385 h385 => ?_; clear h384
           obtain ⟨y386, hy386⟩ : ∃ z, js[k]? = some z := ⟨_, List.getElem?_eq_getElem (by first | omega | (simp; done) | (simp; omega))⟩
           have oky386 := hjk _ (List.mem_of_getElem? hy386)
           refine dk 4 (v := pt (blkOf jv) (offOf jv + k * 2)) h385 rfl rfl rfl (fun x hx => by subst hx; exact (rn_index rfl rfl rfl Try.underlying89 Try.sizeOf114 (hjs.below hB383) (by omega) (by first | omega | (simp; done) | (simp; omega)))) fun a387 h387 => ?_; clear h385
           refine dk 5 (v := .agg #[.int .i64 y386.1, .int .i64 y386.2]) h387 rfl rfl rfl (fun x hx => by subst hx; exact (rn_loadN rfl rfl Try.underlying114 rfl (by kernel_rfl) (sl_at (hjs.below hB383) hy386))) fun a388 h388 => ?_; clear h387
           have hk389 := hk313.kept hg378 (by simp)
           refine dk 6 (v := .agg #[.int .i64 y225.1, .int .i64 y225.2]) h388 rfl rfl rfl (fun x hx => by subst hx; exact (rn_loadN rfl rfl Try.underlying114 rfl (by kernel_rfl) hk389.all)) fun a390 h390 => ?_; clear h388
           refine dk 7 (v := .bool (y386 == y225)) h390 rfl rfl rfl (fun x hx => by subst hx; exact (rn_eqS rfl rfl rfl Try.eqGuardType114 (eq_mem y386 y225 _))) fun a391 h391 => ?_; clear h390
           refine dk0 8 (v := .bool (y386 == y225)) h391 rfl rfl rfl fun a392 h392 => ?_; clear h391
           refine dk0 9 (v := .bool (y386 == y225)) h392 rfl rfl rfl fun a393 h393 => ?_; clear h392
           refine dr_done (by kernel_rfl) ?_
           refine co_blockN ?_
           refine co_then ?_
           refine co_reg ?_
           refine pk0 (v := .int .i64 ((k : Nat) : Int)) h393 rfl fun a394 h394 => ?_; clear h393
           refine pk (v := .int .i64 ((k + 1 : Nat) : Int)) h394 rfl (rn_arith' rfl rfl rfl rfl rfl rfl (IntWalk.i64_in _ (by omega)) (by omega)) fun a395 h395 => ?_; clear h394
           refine pk0 (v := .int .i64 ((k + 1 : Nat) : Int)) h395 rfl fun a396 h396 => ?_; clear h395
           refine pl_nil ?_
           refine co_then ?_
           refine ⟨(js.length - (k + 1)), by omega, ?_⟩
           have hr397 := row_kept_new hf308 hg378
           have hr398 := row_kept_new hf309 hg378
           have hk399 := hk311.kept hg378 (by simp)
           have hk400 := hk312.kept hg378 (by simp)
           exact ⟨k + 1, h396.sub ⟨rfl, rfl, rfl, rfl, rfl, rfl, rfl, rfl, rfl, (slot_eq rfl (congrArg Value.bool (by first | rfl | exact any_t (by assumption) | exact any_f (f := fun o => o == y225) (by assumption) (by assumption)))), rfl, trivial⟩, rfl, by omega, hr397, hr398, hB383, hk399, hk400, hk389⟩
          ·
           rw [hc382] at h381
           refine dsk 2 h381 rfl rfl rfl fun a401 h401 => ?_; clear h381
           refine dsk 3 h401 rfl rfl rfl fun a402 h402 => ?_; clear h401
           refine dsk 4 h402 rfl rfl rfl fun a403 h403 => ?_; clear h402
           refine dsk 5 h403 rfl rfl rfl fun a404 h404 => ?_; clear h403
           refine dsk 6 h404 rfl rfl rfl fun a405 h405 => ?_; clear h404
           refine dsk 7 h405 rfl rfl rfl fun a406 h406 => ?_; clear h405
           refine dk0 8 (v := .bool true) h406 rfl rfl rfl fun a407 h407 => ?_; clear h406
           refine dk0 9 (v := .bool true) h407 rfl rfl rfl fun a408 h408 => ?_; clear h407
           refine dr_done (by kernel_rfl) ?_
           refine co_blockN ?_
           refine co_then ?_
           refine co_reg ?_
           refine pk0 (v := .int .i64 ((k : Nat) : Int)) h408 rfl fun a409 h409 => ?_; clear h408
           refine pk (v := .int .i64 ((k + 1 : Nat) : Int)) h409 rfl (rn_arith' rfl rfl rfl rfl rfl rfl (IntWalk.i64_in _ (by omega)) (by omega)) fun a410 h410 => ?_; clear h409
           refine pk0 (v := .int .i64 ((k + 1 : Nat) : Int)) h410 rfl fun a411 h411 => ?_; clear h410
           refine pl_nil ?_
           refine co_then ?_
           refine ⟨(js.length - (k + 1)), by omega, ?_⟩
           have hr412 := row_kept_new hf308 hg378
           have hr413 := row_kept_new hf309 hg378
           have hk414 := hk311.kept hg378 (by simp)
           have hk415 := hk312.kept hg378 (by simp)
           have hk416 := hk313.kept hg378 (by simp)
           exact ⟨k + 1, h411.sub ⟨rfl, rfl, rfl, rfl, rfl, rfl, rfl, rfl, rfl, (slot_eq rfl (congrArg Value.bool (by first | rfl | exact any_t (by assumption) | exact any_f (f := fun o => o == y225) (by assumption) (by assumption)))), rfl, trivial⟩, rfl, by omega, hr412, hr413, hB383, hk414, hk415, hk416⟩
      ·
       rw [hc270] at h269
       refine pk0 (v := .bool (decide (j252 ≥ 0))) h269 rfl fun a417 h417 => ?_; clear h269
       cases hc418 : (decide (j252 ≥ 0))
       ·
        rw [hc418] at h417
        have hp419 : ¬ (j252 ≥ 0) := of_decide_eq_false hc418
        clear hc418
        refine pk0 (v := .bool true) h417 rfl fun a420 h420 => ?_; clear h417
        refine pk0 (v := .bool true) h420 rfl fun a421 h421 => ?_; clear h420
        refine psk h421 rfl fun a422 h422 => ?_; clear h421
        refine psk h422 rfl fun a423 h423 => ?_; clear h422
        refine psk h423 rfl fun a424 h424 => ?_; clear h423
        refine psk h424 rfl fun a425 h425 => ?_; clear h424
        refine psk h425 rfl fun a426 h426 => ?_; clear h425
        refine pk0 (v := .bool true) h426 rfl fun a427 h427 => ?_; clear h426
        refine pk0 (v := .bool true) h427 rfl fun a428 h428 => ?_; clear h427
        refine psk h428 rfl fun a429 h429 => ?_; clear h428
        refine psk h429 rfl fun a430 h430 => ?_; clear h429
        refine psk h430 rfl fun a431 h431 => ?_; clear h430
        refine psk h431 rfl fun a432 h432 => ?_; clear h431
        refine pk0 (v := .bool true) h432 rfl fun a433 h433 => ?_; clear h432
        refine pk0 (v := .bool true) h433 rfl fun a434 h434 => ?_; clear h433
        refine pl_nil ?_
        refine co_then ?_
        refine co_true h434 rfl ?_
        refine co_seq ?_
        refine co_reg ?_
        refine pk0 (v := .bool false) h434 rfl fun a435 h435 => ?_; clear h434
        refine pl_nil ?_
        refine co_then ?_
        refine wp_ret ?_
        refine co_thenR ?_
        refine co_blockR ?_
        refine co_thenR ?_
        refine co_thenR ?_
        refine co_blockR ?_
        refine co_thenR ?_
        refine co_ret1 h435 rfl rfl ?_
        exact (by first | exact no1 hM (by assumption) (by assumption) (by omega) | exact no2 hM (by assumption) (by assumption) | exact no3 hM (by assumption) (by assumption) : False).elim
       ·
        rw [hc418] at h417
        have hp436 : j252 ≥ 0 := of_decide_eq_true hc418
        clear hc418
        refine pk0 (v := .bool false) h417 rfl fun a437 h437 => ?_; clear h417
        refine pk0 (v := .bool false) h437 rfl fun a438 h438 => ?_; clear h437
        refine pk0 (v := lv) h438 rfl fun a439 h439 => ?_; clear h438
        refine pk0 (v := pt N230 0) h439 rfl fun a440 h440 => ?_; clear h439
        have hk441 := hk260.below hb267
        refine pk (v := .int .i64 y225.1) h440 rfl (rn_load1 rfl rfl Try.isAgg3 (hk441.cell rfl)) fun a442 h442 => ?_; clear h440
        refine pw h442 rfl (op_call (args := #[lv, .int .i64 y225.1]) (R := fun res xw => res = .bool (inL lg y225.1) ∧ Below w263.heap.size w263 xw) rfl rfl rfl (by kernel_rfl) (by kernel_rfl) (Try.call70 _ _) (in_any lv lg y225.1 w263 (hlg.below hB272)) (by rintro e x ⟨rfl, hb445⟩; exact ⟨_, rfl, ⟨rfl, hb445⟩⟩)) ?_; clear h442
        rintro _ w444 a443 ⟨rfl, hb445⟩ h443
        have hz446 := hb445.size
        have hB448 := hb_call hB272 hb445
        have hr449 := row_kept_new hr266 (below_grown hb267)
        have hr450 := row_kept_new hr449 (below_grown hb445)
        cases hc447 : (inL lg y225.1)
        ·
         rw [hc447] at h443
         refine pk0 (v := .bool true) h443 rfl fun a451 h451 => ?_; clear h443
         refine pk0 (v := .bool true) h451 rfl fun a452 h452 => ?_; clear h451
         refine pk0 (v := .bool true) h452 rfl fun a453 h453 => ?_; clear h452
         refine psk h453 rfl fun a454 h454 => ?_; clear h453
         refine psk h454 rfl fun a455 h455 => ?_; clear h454
         refine psk h455 rfl fun a456 h456 => ?_; clear h455
         refine psk h456 rfl fun a457 h457 => ?_; clear h456
         refine pk0 (v := .bool true) h457 rfl fun a458 h458 => ?_; clear h457
         refine pk0 (v := .bool true) h458 rfl fun a459 h459 => ?_; clear h458
         refine pl_nil ?_
         refine co_then ?_
         refine co_true h459 rfl ?_
         refine co_seq ?_
         refine co_reg ?_
         refine pk0 (v := .bool false) h459 rfl fun a460 h460 => ?_; clear h459
         refine pl_nil ?_
         refine co_then ?_
         refine wp_ret ?_
         refine co_thenR ?_
         refine co_blockR ?_
         refine co_thenR ?_
         refine co_thenR ?_
         refine co_blockR ?_
         refine co_thenR ?_
         refine co_ret1 h460 rfl rfl ?_
         exact (by first | exact no1 hM (by assumption) (by assumption) (by omega) | exact no2 hM (by assumption) (by assumption) | exact no3 hM (by assumption) (by assumption) : False).elim
        ·
         rw [hc447] at h443
         refine pk0 (v := .bool false) h443 rfl fun a461 h461 => ?_; clear h443
         refine pk0 (v := .bool false) h461 rfl fun a462 h462 => ?_; clear h461
         refine pk0 (v := .bool false) h462 rfl fun a463 h463 => ?_; clear h462
         refine pk0 (v := gv) h463 rfl fun a464 h464 => ?_; clear h463
         refine pk0 (v := pt N230 0) h464 rfl fun a465 h465 => ?_; clear h464
         have hk466 := hk441.below hb445
         refine pk (v := .int .i64 y225.1) h465 rfl (rn_load1 rfl rfl Try.isAgg3 (hk466.cell rfl)) fun a467 h467 => ?_; clear h465
         refine pw h467 rfl (op_call (args := #[gv, .int .i64 y225.1]) (R := fun res xw => res = .bool (inL gn y225.1) ∧ Below w444.heap.size w444 xw) rfl rfl rfl (by kernel_rfl) (by kernel_rfl) (Try.call70 _ _) (in_any gv gn y225.1 w444 (hgn.below hB448)) (by rintro e x ⟨rfl, hb470⟩; exact ⟨_, rfl, ⟨rfl, hb470⟩⟩)) ?_; clear h467
         rintro _ w469 a468 ⟨rfl, hb470⟩ h468
         have hz471 := hb470.size
         refine pk0 (v := .bool (inL gn y225.1)) h468 rfl fun a472 h472 => ?_; clear h468
         refine pk0 (v := .bool (inL gn y225.1)) h472 rfl fun a473 h473 => ?_; clear h472
         refine pl_nil ?_
         refine co_then ?_
         have hB475 := hb_call hB448 hb470
         have hk476 := hk274.below hb445
         have hk477 := hk476.below hb470
         have hk478 := hk278.below hb445
         have hk479 := hk478.below hb470
         have hr480 := row_kept_new hr282 (below_grown hb445)
         have hr481 := row_kept_new hr480 (below_grown hb470)
         cases hc474 : (inL gn y225.1)
         ·
          rw [hc474] at h473
          refine co_false h473 rfl ?_
          refine wp_skip ?_
          refine co_then ?_
          refine co_seq ?_
          refine co_reg ?_
          refine pk0 (v := .bool false) h473 rfl fun a482 h482 => ?_; clear h473
          refine pl_nil ?_
          refine co_then ?_
          refine co_seq ?_
          refine co_seq ?_
          refine co_reg ?_
          refine pk0 (v := .int .i64 0) h482 rfl fun a483 h483 => ?_; clear h482
          refine pl_nil ?_
          refine co_then ?_
          refine wp_block ?_
          have h484 : Slots 165 [(1, lv), (2, gv), (3, jv), (5, pt N3 0), (11, pt N43 0), (12, t30), (14, .int .i64 ((i : Nat) : Int)), (15, pt N230 0), (16, .bool true), (17, .bool false), (18, .int .i64 0)] _ := h483.sub ⟨rfl, rfl, rfl, rfl, rfl, rfl, rfl, rfl, rfl, rfl, rfl, trivial⟩; clear h483
          refine co_loop (fun mm a x => ∃ (k : Nat), Slots 165 [(1, lv), (2, gv), (3, jv), (5, pt N3 0), (11, pt N43 0), (12, t30), (14, .int .i64 ((i : Nat) : Int)), (15, pt N230 0), (16, .bool true), (17, .bool ((js.take k).any (fun o => o == y225))), (18, .int .i64 ((k : Nat) : Int))] a ∧ mm = js.length - k ∧ (k ≤ js.length) ∧ x.ownsRow w15.heap.size 114 2 u29 (nextM ep ms lg gn js).length ((nextM ep ms lg gn js).flatMap memE) ∧ x.ownsRow w15.heap.size 3 1 t30 (nextT ep ms lg gn js).length ((nextT ep ms lg gn js).flatMap (intE .i64)) ∧ Below w.heap.size w x ∧ Blk x N3 91 #[.int .i64 ep, mv, .int .u64 fl] ∧ Blk x N43 91 #[.int .i64 (nextEp ep ms lg gn js), u29, .int .u64 (nextFl ep ms fl lg gn js last)] ∧ Blk x N230 114 #[.int .i64 y225.1, .int .i64 y225.2]) (js.length - 0) ?_ ?_
          have hr485 := row_kept_new hr450 (below_grown hb470)
          have hk486 := hk466.below hb470
          · exact ⟨0, h484.sub ⟨rfl, rfl, rfl, rfl, rfl, rfl, rfl, rfl, rfl, (slot_eq rfl (congrArg Value.bool (by first | rfl | exact any_t (by assumption) | exact any_f (f := fun o => o == y225) (by assumption) (by assumption)))), (slot_eq rfl (congrArg (Value.int .i64) (by first | rfl | omega))), trivial⟩, rfl, by omega, hr481, hr485, hB475, hk477, hk479, hk486⟩
          · rintro k487 a488 w489 ⟨k, h488, rfl, hi490, hf491, hf492, hB493, hk494, hk495, hk496⟩
            have hz497 := hB493.size
            have hl498 := hk494.lt
            have hl499 := hk495.lt
            have hl500 := hk496.lt
            refine co_seq ?_
            refine co_seq ?_
            refine co_reg ?_
            refine pk0 (v := .int .i64 ((k : Nat) : Int)) h488 rfl fun a501 h501 => ?_; clear h488
            refine pk0 (v := jv) h501 rfl fun a502 h502 => ?_; clear h501
            refine pk (v := .int .i64 ((js.length : Nat) : Int)) h502 rfl (rn_len rfl rfl Try.underlying89 (hjs.below hB493)) fun a503 h503 => ?_; clear h502
            refine pk0 (v := .bool (decide (((k : Nat) : Int) < ((js.length : Nat) : Int)))) h503 rfl fun a504 h504 => ?_; clear h503
            refine pl_nil ?_
            refine co_then ?_
            cases hc505 : (decide (((k : Nat) : Int) < ((js.length : Nat) : Int)))
            ·
             rw [hc505] at h504
             have hp506 : ¬ (((k : Nat) : Int) < ((js.length : Nat) : Int)) := of_decide_eq_false hc505
             clear hc505
             refine co_false h504 rfl ?_
             refine wp_exit ?_
             refine co_thenX ?_
             refine co_thenX ?_
             refine co_blockX ?_
             refine co_then ?_
             refine co_seq ?_
             refine co_reg ?_
             refine pk0 (v := .bool ((js.take k).any (fun o => o == y225))) h504 rfl fun a507 h507 => ?_; clear h504
             cases hc508 : ((js.take k).any (fun o => o == y225))
             ·
              rw [hc508] at h507
              refine pk0 (v := .bool true) h507 rfl fun a509 h509 => ?_; clear h507
              refine pk0 (v := .bool true) h509 rfl fun a510 h510 => ?_; clear h509
              refine pk0 (v := .bool true) h510 rfl fun a511 h511 => ?_; clear h510
              refine pk0 (v := .bool false) h511 rfl fun a512 h512 => ?_; clear h511
              refine pk0 (v := .bool false) h512 rfl fun a513 h513 => ?_; clear h512
              refine pk0 (v := gv) h513 rfl fun a514 h514 => ?_; clear h513
              refine pk0 (v := pt N230 0) h514 rfl fun a515 h515 => ?_; clear h514
              refine pk (v := .int .i64 y225.1) h515 rfl (rn_load1 rfl rfl Try.isAgg3 (hk496.cell rfl)) fun a516 h516 => ?_; clear h515
              refine pw h516 rfl (op_call (args := #[gv, .int .i64 y225.1]) (R := fun res xw => res = .bool (inL gn y225.1) ∧ Below w489.heap.size w489 xw) rfl rfl rfl (by kernel_rfl) (by kernel_rfl) (Try.call70 _ _) (in_any gv gn y225.1 w489 (hgn.below hB493)) (by rintro e x ⟨rfl, hb519⟩; exact ⟨_, rfl, ⟨rfl, hb519⟩⟩)) ?_; clear h516
              rintro _ w518 a517 ⟨rfl, hb519⟩ h517
              have hz520 := hb519.size
              refine pk0 (v := .bool (inL gn y225.1)) h517 rfl fun a521 h521 => ?_; clear h517
              refine pk0 (v := .bool (inL gn y225.1)) h521 rfl fun a522 h522 => ?_; clear h521
              refine pl_nil ?_
              refine co_then ?_
              have hB524 := hb_call hB493 hb519
              cases hc523 : (inL gn y225.1)
              ·
               rw [hc523] at h522
               refine co_false h522 rfl ?_
               refine wp_skip ?_
               refine co_blockN ?_
               refine co_then ?_
               refine co_reg ?_
               refine pk0 (v := .int .i64 ((i : Nat) : Int)) h522 rfl fun a525 h525 => ?_; clear h522
               refine pk (v := .int .i64 ((i + 1 : Nat) : Int)) h525 rfl (rn_arith' rfl rfl rfl rfl rfl rfl (IntWalk.i64_in _ (by omega)) (by omega)) fun a526 h526 => ?_; clear h525
               refine pk0 (v := .int .i64 ((i + 1 : Nat) : Int)) h526 rfl fun a527 h527 => ?_; clear h526
               refine pl_nil ?_
               refine co_then ?_
               refine ⟨((nextM ep ms lg gn js).length - (i + 1)), by omega, ?_⟩
               have hr528 := row_kept_new hf491 (below_grown hb519)
               have hr529 := row_kept_new hf492 (below_grown hb519)
               have hk530 := hk494.below hb519
               have hk531 := hk495.below hb519
               exact ⟨i + 1, h527.sub ⟨rfl, rfl, rfl, rfl, rfl, rfl, rfl, trivial⟩, rfl, by omega, hr528, hr529, hB524, hk530, hk531⟩
              ·
               rw [hc523] at h522
               refine co_true h522 rfl ?_
               refine co_seq ?_
               refine co_reg ?_
               refine pk0 (v := .bool false) h522 rfl fun a532 h532 => ?_; clear h522
               refine pl_nil ?_
               refine co_then ?_
               refine wp_ret ?_
               refine co_blockR ?_
               refine co_thenR ?_
               refine co_thenR ?_
               refine co_blockR ?_
               refine co_thenR ?_
               refine co_ret1 h532 rfl rfl ?_
               have hja : js.any (fun o => o == y225) = false := by
                 have hjb := (by assumption : (js.take k).any (fun o => o == y225) = false)
                 rwa [List.take_of_length_le (by omega)] at hjb
               exact (by first | exact no4 hM hja (by assumption) (by omega) | exact no5 hM hja (by assumption) : False).elim
             ·
              rw [hc508] at h507
              refine pk0 (v := .bool false) h507 rfl fun a533 h533 => ?_; clear h507
              refine pk0 (v := .bool false) h533 rfl fun a534 h534 => ?_; clear h533
              refine psk h534 rfl fun a535 h535 => ?_; clear h534
              refine psk h535 rfl fun a536 h536 => ?_; clear h535
              refine psk h536 rfl fun a537 h537 => ?_; clear h536
              refine psk h537 rfl fun a538 h538 => ?_; clear h537
              refine psk h538 rfl fun a539 h539 => ?_; clear h538
              refine psk h539 rfl fun a540 h540 => ?_; clear h539
              refine psk h540 rfl fun a541 h541 => ?_; clear h540
              refine psk h541 rfl fun a542 h542 => ?_; clear h541
              refine pk0 (v := .bool false) h542 rfl fun a543 h543 => ?_; clear h542
              refine pl_nil ?_
              refine co_then ?_
              refine co_false h543 rfl ?_
              refine wp_skip ?_
              refine co_blockN ?_
              refine co_then ?_
              refine co_reg ?_
              refine pk0 (v := .int .i64 ((i : Nat) : Int)) h543 rfl fun a544 h544 => ?_; clear h543
              refine pk (v := .int .i64 ((i + 1 : Nat) : Int)) h544 rfl (rn_arith' rfl rfl rfl rfl rfl rfl (IntWalk.i64_in _ (by omega)) (by omega)) fun a545 h545 => ?_; clear h544
              refine pk0 (v := .int .i64 ((i + 1 : Nat) : Int)) h545 rfl fun a546 h546 => ?_; clear h545
              refine pl_nil ?_
              refine co_then ?_
              refine ⟨((nextM ep ms lg gn js).length - (i + 1)), by omega, ?_⟩
              exact ⟨i + 1, h546.sub ⟨rfl, rfl, rfl, rfl, rfl, rfl, rfl, trivial⟩, rfl, by omega, hf491, hf492, hB493, hk494, hk495⟩
            ·
             rw [hc505] at h504
             have hp547 : ((k : Nat) : Int) < ((js.length : Nat) : Int) := of_decide_eq_true hc505
             clear hc505
             refine co_true h504 rfl ?_
             refine wp_skip ?_
             refine co_then ?_
             refine co_seq ?_
             refine wp_block ?_
             refine dr_eq (by kernel_rfl) (fun w548 hg549 => ?_)
             have hz550 := hg549.size
             refine dk0 0 (v := .bool ((js.take k).any (fun o => o == y225))) h504 rfl rfl rfl fun a551 h551 => ?_; clear h504
             refine dk0 1 (v := .bool ((js.take k).any (fun o => o == y225))) h551 rfl rfl rfl fun a552 h552 => ?_; clear h551
             have hB554 := hb_new hB493 hg549
             cases hc553 : ((js.take k).any (fun o => o == y225))
             ·
              rw [hc553] at h552
              refine dk0 2 (v := jv) h552 rfl rfl rfl fun a555 h555 => ?_; clear h552
              refine dk0 3 (v := .int .i64 ((k : Nat) : Int)) h555 rfl rfl rfl fun a556 h556 => ?_; clear h555
              obtain ⟨y557, hy557⟩ : ∃ z, js[k]? = some z := ⟨_, List.getElem?_eq_getElem (by first | omega | (simp; done) | (simp; omega))⟩
              have oky557 := hjk _ (List.mem_of_getElem? hy557)
              refine dk 4 (v := pt (blkOf jv) (offOf jv + k * 2)) h556 rfl rfl rfl (fun x hx => by subst hx; exact (rn_index rfl rfl rfl Try.underlying89 Try.sizeOf114 (hjs.below hB554) (by omega) (by first | omega | (simp; done) | (simp; omega)))) fun a558 h558 => ?_; clear h556
              refine dk 5 (v := .agg #[.int .i64 y557.1, .int .i64 y557.2]) h558 rfl rfl rfl (fun x hx => by subst hx; exact (rn_loadN rfl rfl Try.underlying114 rfl (by kernel_rfl) (sl_at (hjs.below hB554) hy557))) fun a559 h559 => ?_; clear h558
              have hk560 := hk496.kept hg549 (by simp)
              refine dk 6 (v := .agg #[.int .i64 y225.1, .int .i64 y225.2]) h559 rfl rfl rfl (fun x hx => by subst hx; exact (rn_loadN rfl rfl Try.underlying114 rfl (by kernel_rfl) hk560.all)) fun a561 h561 => ?_; clear h559
              refine dk 7 (v := .bool (y557 == y225)) h561 rfl rfl rfl (fun x hx => by subst hx; exact (rn_eqS rfl rfl rfl Try.eqGuardType114 (eq_mem y557 y225 _))) fun a562 h562 => ?_; clear h561
              refine dk0 8 (v := .bool (y557 == y225)) h562 rfl rfl rfl fun a563 h563 => ?_; clear h562
              refine dk0 9 (v := .bool (y557 == y225)) h563 rfl rfl rfl fun a564 h564 => ?_; clear h563
              refine dr_done (by kernel_rfl) ?_
              refine co_blockN ?_
              refine co_then ?_
              refine co_reg ?_
              refine pk0 (v := .int .i64 ((k : Nat) : Int)) h564 rfl fun a565 h565 => ?_; clear h564
              refine pk (v := .int .i64 ((k + 1 : Nat) : Int)) h565 rfl (rn_arith' rfl rfl rfl rfl rfl rfl (IntWalk.i64_in _ (by omega)) (by omega)) fun a566 h566 => ?_; clear h565
              refine pk0 (v := .int .i64 ((k + 1 : Nat) : Int)) h566 rfl fun a567 h567 => ?_; clear h566
              refine pl_nil ?_
              refine co_then ?_
              refine ⟨(js.length - (k + 1)), by omega, ?_⟩
              have hr568 := row_kept_new hf491 hg549
              have hr569 := row_kept_new hf492 hg549
              have hk570 := hk494.kept hg549 (by simp)
              have hk571 := hk495.kept hg549 (by simp)
              exact ⟨k + 1, h567.sub ⟨rfl, rfl, rfl, rfl, rfl, rfl, rfl, rfl, rfl, (slot_eq rfl (congrArg Value.bool (by first | rfl | exact any_t (by assumption) | exact any_f (f := fun o => o == y225) (by assumption) (by assumption)))), rfl, trivial⟩, rfl, by omega, hr568, hr569, hB554, hk570, hk571, hk560⟩
             ·
              rw [hc553] at h552
              refine dsk 2 h552 rfl rfl rfl fun a572 h572 => ?_; clear h552
              refine dsk 3 h572 rfl rfl rfl fun a573 h573 => ?_; clear h572
              refine dsk 4 h573 rfl rfl rfl fun a574 h574 => ?_; clear h573
              refine dsk 5 h574 rfl rfl rfl fun a575 h575 => ?_; clear h574
              refine dsk 6 h575 rfl rfl rfl fun a576 h576 => ?_; clear h575
              refine dsk 7 h576 rfl rfl rfl fun a577 h577 => ?_; clear h576
              refine dk0 8 (v := .bool true) h577 rfl rfl rfl fun a578 h578 => ?_; clear h577
              refine dk0 9 (v := .bool true) h578 rfl rfl rfl fun a579 h579 => ?_; clear h578
              refine dr_done (by kernel_rfl) ?_
              refine co_blockN ?_
              refine co_then ?_
              refine co_reg ?_
              refine pk0 (v := .int .i64 ((k : Nat) : Int)) h579 rfl fun a580 h580 => ?_; clear h579
              refine pk (v := .int .i64 ((k + 1 : Nat) : Int)) h580 rfl (rn_arith' rfl rfl rfl rfl rfl rfl (IntWalk.i64_in _ (by omega)) (by omega)) fun a581 h581 => ?_; clear h580
              refine pk0 (v := .int .i64 ((k + 1 : Nat) : Int)) h581 rfl fun a582 h582 => ?_; clear h581
              refine pl_nil ?_
              refine co_then ?_
              refine ⟨(js.length - (k + 1)), by omega, ?_⟩
              have hr583 := row_kept_new hf491 hg549
              have hr584 := row_kept_new hf492 hg549
              have hk585 := hk494.kept hg549 (by simp)
              have hk586 := hk495.kept hg549 (by simp)
              have hk587 := hk496.kept hg549 (by simp)
              exact ⟨k + 1, h582.sub ⟨rfl, rfl, rfl, rfl, rfl, rfl, rfl, rfl, rfl, (slot_eq rfl (congrArg Value.bool (by first | rfl | exact any_t (by assumption) | exact any_f (f := fun o => o == y225) (by assumption) (by assumption)))), rfl, trivial⟩, rfl, by omega, hr583, hr584, hB554, hk585, hk586, hk587⟩
         ·
          rw [hc474] at h473
          refine co_true h473 rfl ?_
          refine co_seq ?_
          refine co_reg ?_
          refine pk0 (v := .bool false) h473 rfl fun a588 h588 => ?_; clear h473
          refine pl_nil ?_
          refine co_then ?_
          refine wp_ret ?_
          refine co_thenR ?_
          refine co_blockR ?_
          refine co_thenR ?_
          refine co_thenR ?_
          refine co_blockR ?_
          refine co_thenR ?_
          refine co_ret1 h588 rfl rfl ?_
          exact (by first | exact no1 hM (by assumption) (by assumption) (by omega) | exact no2 hM (by assumption) (by assumption) | exact no3 hM (by assumption) (by assumption) : False).elim
  ·
   rw [hc62] at h61
   have hp589 : nextE ep ms lg gn js ≠ 0 := by first | simpa using hc62 | simpa [and_assoc] using hc62
   clear hc62
   refine co_true h61 rfl ?_
   refine co_seq ?_
   refine co_reg ?_
   refine pk0 (v := t30) h61 rfl fun a590 h590 => ?_; clear h61
   refine pk (v := .int .i64 (((nextT ep ms lg gn js).length : Nat) : Int)) h590 rfl (rn_lenOwn rfl rfl Try.underlying37 hr70) fun a591 h591 => ?_; clear h590
   refine pk0 (v := .bool ((((nextT ep ms lg gn js).length : Nat) : Int) == 0)) h591 rfl fun a592 h592 => ?_; clear h591
   refine pk0 (v := .bool ((((nextT ep ms lg gn js).length : Nat) : Int) == 0)) h592 rfl fun a593 h593 => ?_; clear h592
   have hc594 : ((((nextT ep ms lg gn js).length : Nat) : Int) == 0) = true := by rw [(next_no (by omega)).1]; rfl
   rw [hc594] at h593; clear hc594
   refine pk0 (v := pt N43 1) h593 rfl fun a595 h595 => ?_; clear h593
   refine pk (v := u29) h595 rfl (rn_load1 rfl rfl Try.isAgg89 (hk53'.cell rfl)) fun a596 h596 => ?_; clear h595
   have hr597 := row_kept_at hr56 hg55 (ha48)
   refine pk (v := .int .i64 (((nextM ep ms lg gn js).length : Nat) : Int)) h596 rfl (rn_lenOwn rfl rfl Try.underlying89 hr597) fun a598 h598 => ?_; clear h596
   refine pk0 (v := .bool ((((nextM ep ms lg gn js).length : Nat) : Int) == 0)) h598 rfl fun a599 h599 => ?_; clear h598
   refine pk0 (v := .bool ((((nextM ep ms lg gn js).length : Nat) : Int) == 0)) h599 rfl fun a600 h600 => ?_; clear h599
   refine pk0 (v := .bool ((((nextM ep ms lg gn js).length : Nat) : Int) == 0)) h600 rfl fun a601 h601 => ?_; clear h600
   have hc602 : ((((nextM ep ms lg gn js).length : Nat) : Int) == 0) = true := by rw [(next_no (by omega)).2]; rfl
   rw [hc602] at h601; clear hc602
   refine pw h601 rfl (op_call (args := #[]) (R := fun res xw => res = .bool true ∧ Below w52.heap.size w52 xw) rfl rfl rfl (by kernel_rfl) (by kernel_rfl) (Try.call62 _ _) (awake27  w52 ) (by rintro e x ⟨rfl, hb605⟩; exact ⟨_, rfl, ⟨rfl, hb605⟩⟩)) ?_; clear h601
   rintro _ w604 a603 ⟨rfl, hb605⟩ h603
   have hz606 := hb605.size
   refine pk0 (v := .bool true) h603 rfl fun a607 h607 => ?_; clear h603
   refine pk0 (v := .bool true) h607 rfl fun a608 h608 => ?_; clear h607
   refine pl_nil ?_
   refine co_then ?_
   refine wp_ret ?_
   refine co_thenR ?_
   refine co_ret1 h608 rfl rfl ?_
   have hB609 := hb_call hB65 hb605
   exact ⟨rfl, hB609⟩
 ·
  rw [hc19] at h14
  refine co_true h14 rfl ?_
  refine co_seq ?_
  refine co_reg ?_
  refine pw h14 rfl (op_call (args := #[]) (R := fun res xw => res = .bool true ∧ Below w15.heap.size w15 xw) rfl rfl rfl (by kernel_rfl) (by kernel_rfl) (Try.call62 _ _) (awake27  w15 ) (by rintro e x ⟨rfl, hb612⟩; exact ⟨_, rfl, ⟨rfl, hb612⟩⟩)) ?_; clear h14
  rintro _ w611 a610 ⟨rfl, hb612⟩ h610
  have hz613 := hb612.size
  refine pk0 (v := .bool true) h610 rfl fun a614 h614 => ?_; clear h610
  refine pl_nil ?_
  refine co_then ?_
  refine wp_ret ?_
  refine co_thenR ?_
  refine co_ret1 h614 rfl rfl ?_
  have hB615 := hb_call hB20 hb612
  exact ⟨rfl, hB615⟩
theorem planHead_c (c : ConfT) (lv : Value) (lg : List Int) (gv : Value) (gn : List Int) (jv : Value) (js : List MemT) (last : Int) (w : World) (hc : ConfOk w c) (hlg : SliceOf (intE .i64) 1 w lv lg) (x1 : ∀ p ∈ lg, True) (hgn : SliceOf (intE .i64) 1 w gv gn) (x2 : ∀ p ∈ gn, True) (hjs : SliceOf memE 2 w jv js) (hjk : ∀ p ∈ js, memOk p) (hl : (Lit.int .u64 last).wf = true) :
    Calls Try.prog 13 #[confV c, lv, gv, jv, .int .u64 last] w fun e w' => e = .returned (.bool true) ∧ Below w.heap.size w w' :=
  planHead_law c.ep c.mv c.ms c.fl lv lg gv gn jv js last w hc.ms hc.each hlg hgn hjs hjk ⟨hc.e0, hc.e1⟩ ⟨hc.f0, hc.f1⟩ (wf_u64 hl)
end Go.Proofs.Ytcnahhobppnbbaa
