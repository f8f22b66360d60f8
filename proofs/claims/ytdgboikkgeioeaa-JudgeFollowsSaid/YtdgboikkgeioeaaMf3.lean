/- Put together: JdgEMe, JdgFMe, ConfJzMe, JdgGMe. Conditions: as each says. -/
import Derived.Test.YtdgboikkgeioeaaMf2
import Derived.Test.YtdgboikkgeioeaaMf1
/- Package judge and the document's own: Follows. Conditions: none. -/
namespace Go.Proofs.Ytdgboikkgeioeaa
open Go.RowKit Go.PlainAid
set_option linter.unusedVariables false
set_option linter.unusedSimpArgs false


/-- May the one configuration come behind the other one? -/
def hd2 (l : List MemT) : MemT := match l with | [] => (0, 0) | m :: _ => m
def flwJ (ep : Int) (ms : List MemT) (fl : Int) (ep2 : Int) (ms2 : List MemT) (fl2 : Int) (lg : List Int) : Int :=
  if chkC ep ms ≠ 0 then chkC ep ms else if chkC ep2 ms2 ≠ 0 then chkC ep2 ms2 else if ep2 ≠ ep + 1 ∨ fl2 < fl then 18 else if plB ms (hd2 ms2) = false ∨ inL lg (hd2 ms2).1 = false then 7 else 0
section
variable {ep fl ep2 fl2 : Int} {ms ms2 : List MemT} {lg : List Int} {y : MemT}
theorem hd2_y (h : ms2[0]? = some y) : hd2 ms2 = y := by
  cases ms2 with
  | nil => simp at h
  | cons m r => simp at h; exact h
theorem fl_1 (h : chkC ep ms ≠ 0) : chkC ep ms = flwJ ep ms fl ep2 ms2 fl2 lg := by unfold flwJ; rw [if_pos h]
theorem fl_2 (h : ¬ chkC ep ms ≠ 0) (h2 : chkC ep2 ms2 ≠ 0) : chkC ep2 ms2 = flwJ ep ms fl ep2 ms2 fl2 lg := by unfold flwJ; rw [if_neg h, if_pos h2]
theorem fl_3 (h : ¬ chkC ep ms ≠ 0) (h2 : ¬ chkC ep2 ms2 ≠ 0) (h3 : ep2 ≠ ep + 1 ∨ fl2 < fl) : 18 = flwJ ep ms fl ep2 ms2 fl2 lg := by unfold flwJ; rw [if_neg h, if_neg h2, if_pos h3]
theorem fl_4 (h : ¬ chkC ep ms ≠ 0) (h2 : ¬ chkC ep2 ms2 ≠ 0) (h3 : ¬ (ep2 ≠ ep + 1 ∨ fl2 < fl)) (hy : ms2[0]? = some y) (h4 : plB ms y = false ∨ inL lg y.1 = false) : 7 = flwJ ep ms fl ep2 ms2 fl2 lg := by unfold flwJ; rw [if_neg h, if_neg h2, if_neg h3, hd2_y hy, if_pos h4]
theorem fl_5 (h : ¬ chkC ep ms ≠ 0) (h2 : ¬ chkC ep2 ms2 ≠ 0) (h3 : ¬ (ep2 ≠ ep + 1 ∨ fl2 < fl)) (hy : ms2[0]? = some y) (h4 : plB ms y = true) (h5 : inL lg y.1 = true) : 0 = flwJ ep ms fl ep2 ms2 fl2 lg := by unfold flwJ; rw [if_neg h, if_neg h2, if_neg h3, hd2_y hy, if_neg (by rw [h4, h5]; simp)]
theorem chk_ne (h : ¬ chkC ep ms ≠ 0) : 0 < ms.length := by
  unfold chkC at h
  rcases Nat.eq_zero_or_pos ms.length with e | e
  · exfalso
    by_cases q : ep < 1 ∨ 1073741824 < ep
    · rw [if_pos q] at h; omega
    · rw [if_neg q, if_pos e] at h; omega
  · exact e
theorem chk_im : chkC ep ms = 0 → (0 < ms.length ∧ 1 ≤ ep ∧ ep ≤ 1073741824) := fun h => by
  refine ⟨chk_ne (ep := ep) (by omega), ?_⟩
  unfold chkC at h
  by_cases q : ep < 1 ∨ 1073741824 < ep
  · rw [if_pos q] at h; omega
  · omega
theorem plN {j : Int} {m : MemT} (h : decide (j ≥ 0) = plB ms m) (hj : j < 0) : plB ms m = false := by rw [← h]; exact decide_eq_false (by omega)
theorem plY {j : Int} {m : MemT} (h : decide (j ≥ 0) = plB ms m) (hj : ¬ j < 0) : plB ms m = true := by rw [← h]; exact decide_eq_true (by omega)
end
theorem hdI {l : List MemT} {y : MemT} (h : l[0]? = some y) : headI l = y.1 := (headI_y h).symm

set_option maxRecDepth 100000 in
theorem jPlace1 (o : MemT) (m : MemT) (N : Nat) (w : World) (hN : Blk w N 80 #[.int .i64 m.1, .int .i64 m.2]) :
    Calls Try.prog 55 #[.agg #[.int .i64 o.1, .int .i64 o.2], pt N 0] w fun e w' => e = .returned (.bool (o == m)) ∧ Below w.heap.size w w' := by
 have hB0 := Below.refl w.heap.size w
 have hl_hN := hN.lt
 refine co_enter (n := 7) Try.func55 rfl rfl rfl [(0, .agg #[.int .i64 o.1, .int .i64 o.2]), (1, pt N 0)] rfl (fun a h0 => ?_)
 refine co_seq ?_
 refine co_reg ?_
 refine pw h0 rfl (op_new (v := fun N => pt N 0) (T := 80) (cs := #[.int .i64 o.1, .int .i64 o.2]) (by kernel_rfl) (by kernel_rfl) (by kernel_rfl)) ?_; clear h0
 rintro _ w2 a1 ⟨N3, rfl, hN6, hz7, hk5, hg4⟩ h1
 have hz8 := hg4.size
 try dsimp only at h1
 refine pk0 (v := .bool false) h1 rfl fun a9 h9 => ?_; clear h1
 refine pl_nil ?_
 refine co_then ?_
 refine co_seq ?_
 refine co_reg ?_
 refine pk (v := .agg #[.int .i64 o.1, .int .i64 o.2]) h9 rfl (rn_loadN rfl rfl Try.underlying80 rfl (by kernel_rfl) hk5.all) fun a10 h10 => ?_; clear h9
 have hk11 := hN.kept hg4 (by simp)
 refine pk (v := .agg #[.int .i64 m.1, .int .i64 m.2]) h10 rfl (rn_loadN rfl rfl Try.underlying80 rfl (by kernel_rfl) hk11.all) fun a12 h12 => ?_; clear h10
 refine pk (v := .bool (o == m)) h12 rfl (rn_eqS rfl rfl rfl Try.eqGuardType80 (eq_mem o m _)) fun a13 h13 => ?_; clear h12
 refine pk0 (v := .bool (o == m)) h13 rfl fun a14 h14 => ?_; clear h13
 refine pl_nil ?_
 refine co_then ?_
 refine wp_ret ?_
 refine co_ret1 h14 rfl rfl ?_
 have hB15 := hb_new hB0 hg4
 exact ⟨rfl, hB15⟩
set_option maxRecDepth 100000 in
theorem jFirstPl (mv : Value) (ms : List MemT) (m : MemT) (N : Nat) (w : World) (hs : SliceOf memE 2 w mv ms) (hN : Blk w N 80 #[.int .i64 m.1, .int .i64 m.2]) :
    Calls Try.prog 54 #[mv, .func (.func 55) #[] #[pt N 0]] w fun e w' => ∃ (j : Int), e = .returned (.int .i64 j) ∧ decide (j ≥ 0) = plB ms m ∧ Below w.heap.size w w' := by
 have hB0 := Below.refl w.heap.size w
 have hl_hs := sl_len hs
 have hl_hN := hN.lt
 refine co_enter (n := 19) Try.func54 rfl rfl rfl [(0, mv), (1, .func (.func 55) #[] #[pt N 0])] rfl (fun a h0 => ?_)
 refine co_seq ?_
 refine co_reg ?_
 refine pk0 (v := .int .i64 0) h0 rfl fun a1 h1 => ?_; clear h0
 refine pl_nil ?_
 refine co_then ?_
 refine co_seq ?_
 refine co_seq ?_
 refine co_reg ?_
 refine pk0 (v := mv) h1 rfl fun a2 h2 => ?_; clear h1
 refine pk (v := .int .i64 ((ms.length : Nat) : Int)) h2 rfl (rn_len rfl rfl Try.underlying40 hs) fun a3 h3 => ?_; clear h2
 refine pk0 (v := .int .i64 0) h3 rfl fun a4 h4 => ?_; clear h3
 refine pl_nil ?_
 refine co_then ?_
 refine wp_block ?_
 have h5 : Slots 19 [(0, mv), (1, .func (.func 55) #[] #[pt N 0]), (7, mv), (8, .int .i64 ((ms.length : Nat) : Int)), (9, .int .i64 0)] _ := h4.sub ⟨rfl, rfl, rfl, rfl, rfl, trivial⟩; clear h4
 refine co_loop (fun mm a x => ∃ (i : Nat), Slots 19 [(0, mv), (1, .func (.func 55) #[] #[pt N 0]), (7, mv), (8, .int .i64 ((ms.length : Nat) : Int)), (9, .int .i64 ((i : Nat) : Int))] a ∧ mm = ms.length - i ∧ (i ≤ ms.length) ∧ (∀ j, j < i → ∀ z, ms[j]? = some z → (z == m) = false) ∧ Below w.heap.size w x ∧ Blk x N 80 #[.int .i64 m.1, .int .i64 m.2]) (ms.length - 0) ?_ ?_
 · exact ⟨0, h5.sub ⟨rfl, rfl, rfl, rfl, (slot_eq rfl (congrArg (Value.int .i64) (by first | rfl | omega))), trivial⟩, rfl, by omega, by first | (intro j hj; omega) | exact pl_next (by assumption) (by assumption) (by assumption), hB0, hN⟩
 · rintro k6 a7 w8 ⟨i, h7, rfl, hi9, hi10, hB11, hk12⟩
   have hz13 := hB11.size
   have hl14 := hk12.lt
   refine co_seq ?_
   refine co_reg ?_
   refine pk0 (v := .bool (decide (((i : Nat) : Int) < ((ms.length : Nat) : Int)))) h7 rfl fun a15 h15 => ?_; clear h7
   refine pl_nil ?_
   refine co_then ?_
   refine co_seq ?_
   cases hc16 : (decide (((i : Nat) : Int) < ((ms.length : Nat) : Int)))
   ·
    rw [hc16] at h15
    have hp17 : ¬ (((i : Nat) : Int) < ((ms.length : Nat) : Int)) := of_decide_eq_false hc16
    clear hc16
    refine co_false h15 rfl ?_
    refine wp_exit ?_
    refine co_thenX ?_
    refine co_thenX ?_
    refine co_blockX ?_
    refine co_then ?_
    refine co_seq ?_
    refine co_reg ?_
    refine pk0 (v := .int .i64 (-1)) h15 rfl fun a18 h18 => ?_; clear h15
    refine pl_nil ?_
    refine co_then ?_
    refine wp_ret ?_
    refine co_ret1 h18 rfl rfl ?_
    exact ⟨_, rfl, by rw [decide_eq_false (by omega)]; exact pl_end (i := i) (by assumption) (by omega), hB11⟩
   ·
    rw [hc16] at h15
    have hp19 : ((i : Nat) : Int) < ((ms.length : Nat) : Int) := of_decide_eq_true hc16
    clear hc16
    refine co_true h15 rfl ?_
    refine wp_skip ?_
    refine co_then ?_
    refine co_seq ?_
    refine wp_block ?_
    refine co_seq ?_
    refine co_reg ?_
    refine pk0 (v := .int .i64 ((i : Nat) : Int)) h15 rfl fun a20 h20 => ?_; clear h15
    obtain ⟨y21, hy21⟩ : ∃ z, ms[i]? = some z := ⟨_, List.getElem?_eq_getElem (by first | omega | (simp; done) | (simp; omega))⟩
    refine pk (v := pt (blkOf mv) (offOf mv + i * 2)) h20 rfl (rn_index rfl rfl rfl Try.underlying40 Try.sizeOf80 (hs.below hB11) (by omega) (by first | omega | (simp; done) | (simp; omega))) fun a22 h22 => ?_; clear h20
    refine pk (v := .agg #[.int .i64 y21.1, .int .i64 y21.2]) h22 rfl (rn_loadN rfl rfl Try.underlying80 rfl (by kernel_rfl) (sl_at (hs.below hB11) hy21)) fun a23 h23 => ?_; clear h22
    refine pw h23 rfl (op_new (v := fun N => pt N 0) (T := 80) (cs := #[.int .i64 0, .int .i64 0]) (by kernel_rfl) (by kernel_rfl) (by kernel_rfl)) ?_; clear h23
    rintro _ w25 a24 ⟨N26, rfl, hN29, hz30, hk28, hg27⟩ h24
    have hz31 := hg27.size
    try dsimp only at h24
    refine pk0 (v := .int .i64 ((i : Nat) : Int)) h24 rfl fun a32 h32 => ?_; clear h24
    refine pwD h32 rfl (op_storeN rfl rfl rfl (by kernel_rfl) (by kernel_rfl) hk28 rfl) ?_; clear h32
    rintro _ w34 a33 ⟨hk35, hz36, hg37⟩ h33
    have hk35' : Blk w34 N26 80 #[.int .i64 y21.1, .int .i64 y21.2] := hk35; clear hk35
    have hz38 := hg37.size
    refine pl_nil ?_
    refine co_then ?_
    refine co_seq ?_
    refine co_reg ?_
    refine pk0 (v := .func (.func 55) #[] #[pt N 0]) h33 rfl fun a39 h39 => ?_; clear h33
    refine pk (v := .agg #[.int .i64 y21.1, .int .i64 y21.2]) h39 rfl (rn_loadN rfl rfl Try.underlying80 rfl (by kernel_rfl) hk35'.all) fun a40 h40 => ?_; clear h39
    have hk43 := hk12.kept hg27 (by simp)
    have hk44 := hk43.kept hg37 (by simp; omega)
    refine pw h40 rfl (op_callV (args := #[.agg #[.int .i64 y21.1, .int .i64 y21.2], pt N 0]) (R := fun res xw => res = .bool (y21 == m) ∧ Below w34.heap.size w34 xw) rfl rfl rfl (by kernel_rfl) (by kernel_rfl) (Try.call55 _ _) (jPlace1 y21 _ N w34 hk44) (by rintro e x ⟨rfl, hb45⟩; exact ⟨_, rfl, ⟨rfl, hb45⟩⟩)) ?_; clear h40
    rintro _ w42 a41 ⟨rfl, hb45⟩ h41
    have hz46 := hb45.size
    refine pl_nil ?_
    refine co_then ?_
    have hB48 := hb_new hB11 hg27
    have hB49 := hb_at hB48 hg37 (by omega)
    have hB50 := hb_call hB49 hb45
    cases hc47 : (y21 == m)
    ·
     rw [hc47] at h41
     refine co_false h41 rfl ?_
     refine wp_skip ?_
     refine co_blockN ?_
     refine co_then ?_
     refine co_reg ?_
     refine pk (v := .int .i64 ((i + 1 : Nat) : Int)) h41 rfl (rn_arith' rfl rfl rfl rfl rfl rfl (IntWalk.i64_in _ (by omega)) (by omega)) fun a51 h51 => ?_; clear h41
     refine pk0 (v := .int .i64 ((i + 1 : Nat) : Int)) h51 rfl fun a52 h52 => ?_; clear h51
     refine pl_nil ?_
     refine co_then ?_
     refine ⟨(ms.length - (i + 1)), by omega, ?_⟩
     have hk53 := hk44.below hb45
     exact ⟨i + 1, h52.sub ⟨rfl, rfl, rfl, rfl, rfl, trivial⟩, rfl, by omega, by first | (intro j hj; omega) | exact pl_next (by assumption) (by assumption) (by assumption), hB50, hk53⟩
    ·
     rw [hc47] at h41
     refine co_true h41 rfl ?_
     refine co_seq ?_
     refine co_reg ?_
     refine pk0 (v := .int .i64 ((i : Nat) : Int)) h41 rfl fun a54 h54 => ?_; clear h41
     refine pk0 (v := .int .i64 ((i : Nat) : Int)) h54 rfl fun a55 h55 => ?_; clear h54
     refine pl_nil ?_
     refine co_then ?_
     refine wp_ret ?_
     refine co_blockR ?_
     refine co_thenR ?_
     refine co_thenR ?_
     refine co_blockR ?_
     refine co_thenR ?_
     refine co_ret1 h55 rfl rfl ?_
     exact ⟨_, rfl, by rw [decide_eq_true (by omega)]; exact pl_at (by assumption) (by assumption), hB50⟩
set_option maxRecDepth 100000 in
theorem jPlace_any (ep : Int) (mv : Value) (ms : List MemT) (fl : Int) (m : MemT) (w : World) (hs : SliceOf memE 2 w mv ms) :
    Calls Try.prog 31 #[.agg #[.int .i64 ep, mv, .int .u64 fl], .agg #[.int .i64 m.1, .int .i64 m.2]] w fun e w' => ∃ (j : Int), e = .returned (.int .i64 j) ∧ decide (j ≥ 0) = plB ms m ∧ Below w.heap.size w w' := by
 have hB0 := Below.refl w.heap.size w
 have hl_hs := sl_len hs
 refine co_enter (n := 9) Try.func31 rfl rfl rfl [(0, .agg #[.int .i64 ep, mv, .int .u64 fl]), (1, .agg #[.int .i64 m.1, .int .i64 m.2])] rfl (fun a h0 => ?_)
 refine co_seq ?_
 refine co_reg ?_
 refine pw h0 rfl (op_new (v := fun N => pt N 0) (T := 42) (cs := #[.int .i64 ep, mv, .int .u64 fl]) (by kernel_rfl) (by kernel_rfl) (by kernel_rfl)) ?_; clear h0
 rintro _ w2 a1 ⟨N3, rfl, hN6, hz7, hk5, hg4⟩ h1
 have hz8 := hg4.size
 try dsimp only at h1
 refine pw h1 rfl (op_new (v := fun N => pt N 0) (T := 80) (cs := #[.int .i64 m.1, .int .i64 m.2]) (by kernel_rfl) (by kernel_rfl) (by kernel_rfl)) ?_; clear h1
 rintro _ w10 a9 ⟨N11, rfl, hN14, hz15, hk13, hg12⟩ h9
 have hz16 := hg12.size
 try dsimp only at h9
 refine pk0 (v := .int .i64 0) h9 rfl fun a17 h17 => ?_; clear h9
 refine pl_nil ?_
 refine co_then ?_
 refine co_seq ?_
 refine co_reg ?_
 refine pk0 (v := pt N3 1) h17 rfl fun a18 h18 => ?_; clear h17
 have hk19 := hk5.kept hg12 (by simp)
 refine pk (v := mv) h18 rfl (rn_load1 rfl rfl Try.isAgg40 (hk19.cell rfl)) fun a20 h20 => ?_; clear h18
 refine pk0 (v := .func (.func 55) #[] #[pt N11 0]) h20 rfl fun a21 h21 => ?_; clear h20
 have hB24 := hb_new hB0 hg4
 have hB25 := hb_new hB24 hg12
 refine pw h21 rfl (op_call (args := #[mv, .func (.func 55) #[] #[pt N11 0]]) (R := fun res xw => ∃ j : Int, res = .int .i64 j ∧ decide (j ≥ 0) = plB ms m ∧ Below w10.heap.size w10 xw) rfl rfl rfl (by kernel_rfl) (by kernel_rfl) (Try.call54 _ _) (jFirstPl mv ms _ N11 w10 (hs.below hB25) hk13) (by rintro e x ⟨j, rfl, hq27, hb28⟩; exact ⟨_, rfl, ⟨j, rfl, hq27, hb28⟩⟩)) ?_; clear h21
 rintro _ w23 a22 ⟨j26, rfl, hq27, hb28⟩ h22
 have hz29 := hb28.size
 refine pk0 (v := .int .i64 j26) h22 rfl fun a30 h30 => ?_; clear h22
 refine pl_nil ?_
 refine co_then ?_
 refine wp_ret ?_
 refine co_ret1 h30 rfl rfl ?_
 have hB31 := hb_call hB25 hb28
 exact ⟨_, rfl, by assumption, hB31⟩
set_option maxRecDepth 100000 in
theorem jPlaceR_any (ep : Int) (mv : Value) (ms : List MemT) (fl : Int) (m : MemT) (w : World) (hs : SliceOf memE 2 w mv ms) :
    Calls Try.prog 35 #[.agg #[.int .i64 ep, mv, .int .u64 fl], .agg #[.int .i64 m.1, .int .i64 m.2]] w fun e w' => ∃ (j : Int), e = .returned (.int .i64 j) ∧ decide (j ≥ 0) = plB ms m ∧ Below w.heap.size w w' := by
 have hB0 := Below.refl w.heap.size w
 have hl_hs := sl_len hs
 refine co_enter (n := 21) Try.func35 rfl rfl rfl [(0, .agg #[.int .i64 ep, mv, .int .u64 fl]), (1, .agg #[.int .i64 m.1, .int .i64 m.2])] rfl (fun a h0 => ?_)
 refine co_seq ?_
 refine co_reg ?_
 refine pw h0 rfl (op_new (v := fun N => pt N 0) (T := 42) (cs := #[.int .i64 ep, mv, .int .u64 fl]) (by kernel_rfl) (by kernel_rfl) (by kernel_rfl)) ?_; clear h0
 rintro _ w2 a1 ⟨N3, rfl, hN6, hz7, hk5, hg4⟩ h1
 have hz8 := hg4.size
 try dsimp only at h1
 refine pw h1 rfl (op_new (v := fun N => pt N 0) (T := 80) (cs := #[.int .i64 m.1, .int .i64 m.2]) (by kernel_rfl) (by kernel_rfl) (by kernel_rfl)) ?_; clear h1
 rintro _ w10 a9 ⟨N11, rfl, hN14, hz15, hk13, hg12⟩ h9
 have hz16 := hg12.size
 try dsimp only at h9
 refine pk0 (v := .int .i64 0) h9 rfl fun a17 h17 => ?_; clear h9
 refine pl_nil ?_
 refine co_then ?_
 refine co_seq ?_
 refine co_seq ?_
 refine co_reg ?_
 refine pk0 (v := .int .i64 0) h17 rfl fun a18 h18 => ?_; clear h17
 refine pl_nil ?_
 refine co_then ?_
 refine wp_block ?_
 have h19 : Slots 21 [(2, pt N3 0), (3, pt N11 0), (5, .int .i64 0)] _ := h18.sub ⟨rfl, rfl, rfl, trivial⟩; clear h18
 refine co_loop (fun mm a x => ∃ (i : Nat), Slots 21 [(2, pt N3 0), (3, pt N11 0), (5, .int .i64 ((i : Nat) : Int))] a ∧ mm = ms.length - i ∧ (i ≤ ms.length) ∧ (∀ j, j < i → ∀ z, ms[j]? = some z → (z == m) = false) ∧ Below w.heap.size w x ∧ Blk x N3 42 #[.int .i64 ep, mv, .int .u64 fl] ∧ Blk x N11 80 #[.int .i64 m.1, .int .i64 m.2]) (ms.length - 0) ?_ ?_
 have hB20 := hb_new hB0 hg4
 have hB21 := hb_new hB20 hg12
 have hk22 := hk5.kept hg12 (by simp)
 · exact ⟨0, h19.sub ⟨rfl, rfl, (slot_eq rfl (congrArg (Value.int .i64) (by first | rfl | omega))), trivial⟩, rfl, by omega, by first | (intro j hj; omega) | exact pl_next (by assumption) (by assumption) (by assumption), hB21, hk22, hk13⟩
 · rintro k23 a24 w25 ⟨i, h24, rfl, hi26, hi27, hB28, hk29, hk30⟩
   have hz31 := hB28.size
   have hl32 := hk29.lt
   have hl33 := hk30.lt
   refine co_seq ?_
   refine co_seq ?_
   refine co_reg ?_
   refine pk0 (v := .int .i64 ((i : Nat) : Int)) h24 rfl fun a34 h34 => ?_; clear h24
   refine pk0 (v := pt N3 1) h34 rfl fun a35 h35 => ?_; clear h34
   refine pk (v := mv) h35 rfl (rn_load1 rfl rfl Try.isAgg40 (hk29.cell rfl)) fun a36 h36 => ?_; clear h35
   refine pk (v := .int .i64 ((ms.length : Nat) : Int)) h36 rfl (rn_len rfl rfl Try.underlying40 (hs.below hB28)) fun a37 h37 => ?_; clear h36
   refine pk0 (v := .bool (decide (((i : Nat) : Int) < ((ms.length : Nat) : Int)))) h37 rfl fun a38 h38 => ?_; clear h37
   refine pl_nil ?_
   refine co_then ?_
   cases hc39 : (decide (((i : Nat) : Int) < ((ms.length : Nat) : Int)))
   ·
    rw [hc39] at h38
    have hp40 : ¬ (((i : Nat) : Int) < ((ms.length : Nat) : Int)) := of_decide_eq_false hc39
    clear hc39
    refine co_false h38 rfl ?_
    refine wp_exit ?_
    refine co_thenX ?_
    refine co_thenX ?_
    refine co_blockX ?_
    refine co_then ?_
    refine co_seq ?_
    refine co_reg ?_
    refine pk0 (v := .int .i64 (-1)) h38 rfl fun a41 h41 => ?_; clear h38
    refine pl_nil ?_
    refine co_then ?_
    refine wp_ret ?_
    refine co_ret1 h41 rfl rfl ?_
    exact ⟨_, rfl, by rw [decide_eq_false (by omega)]; exact pl_end (i := i) (by assumption) (by omega), hB28⟩
   ·
    rw [hc39] at h38
    have hp42 : ((i : Nat) : Int) < ((ms.length : Nat) : Int) := of_decide_eq_true hc39
    clear hc39
    refine co_true h38 rfl ?_
    refine wp_skip ?_
    refine co_then ?_
    refine co_seq ?_
    refine wp_block ?_
    refine co_seq ?_
    refine dr_eq (by kernel_rfl) (fun w43 hg44 => ?_)
    have hz45 := hg44.size
    refine dk0 0 (v := pt N3 1) h38 rfl rfl rfl fun a46 h46 => ?_; clear h38
    have hk47 := hk29.kept hg44 (by simp)
    refine dk 1 (v := mv) h46 rfl rfl rfl (fun x hx => by subst hx; exact (rn_load1 rfl rfl Try.isAgg40 (hk47.cell rfl))) fun a48 h48 => ?_; clear h46
    refine dk0 2 (v := .int .i64 ((i : Nat) : Int)) h48 rfl rfl rfl fun a49 h49 => ?_; clear h48
    have hB51 := hb_new hB28 hg44
    obtain ⟨y50, hy50⟩ : ∃ z, ms[i]? = some z := ⟨_, List.getElem?_eq_getElem (by first | omega | (simp; done) | (simp; omega))⟩
    refine dk 3 (v := pt (blkOf mv) (offOf mv + i * 2)) h49 rfl rfl rfl (fun x hx => by subst hx; exact (rn_index rfl rfl rfl Try.underlying40 Try.sizeOf80 (hs.below hB51) (by omega) (by first | omega | (simp; done) | (simp; omega)))) fun a52 h52 => ?_; clear h49
    refine dk 4 (v := .agg #[.int .i64 y50.1, .int .i64 y50.2]) h52 rfl rfl rfl (fun x hx => by subst hx; exact (rn_loadN rfl rfl Try.underlying80 rfl (by kernel_rfl) (sl_at (hs.below hB51) hy50))) fun a53 h53 => ?_; clear h52
    have hk54 := hk30.kept hg44 (by simp)
    refine dk 5 (v := .agg #[.int .i64 m.1, .int .i64 m.2]) h53 rfl rfl rfl (fun x hx => by subst hx; exact (rn_loadN rfl rfl Try.underlying80 rfl (by kernel_rfl) hk54.all)) fun a55 h55 => ?_; clear h53
    refine dk 6 (v := .bool (y50 == m)) h55 rfl rfl rfl (fun x hx => by subst hx; exact (rn_eqS rfl rfl rfl Try.eqGuardType80 (eq_mem y50 m _))) fun a56 h56 => ?_; clear h55
    refine dr_done (by kernel_rfl) ?_
    refine co_then ?_
    cases hc57 : (y50 == m)
    ·
     rw [hc57] at h56
     refine co_false h56 rfl ?_
     refine wp_skip ?_
     refine co_blockN ?_
     refine co_then ?_
     refine co_reg ?_
     refine pk0 (v := .int .i64 ((i : Nat) : Int)) h56 rfl fun a58 h58 => ?_; clear h56
     refine pk (v := .int .i64 ((i + 1 : Nat) : Int)) h58 rfl (rn_arith' rfl rfl rfl rfl rfl rfl (IntWalk.i64_in _ (by omega)) (by omega)) fun a59 h59 => ?_; clear h58
     refine pk0 (v := .int .i64 ((i + 1 : Nat) : Int)) h59 rfl fun a60 h60 => ?_; clear h59
     refine pl_nil ?_
     refine co_then ?_
     refine ⟨(ms.length - (i + 1)), by omega, ?_⟩
     exact ⟨i + 1, h60.sub ⟨rfl, rfl, rfl, trivial⟩, rfl, by omega, by first | (intro j hj; omega) | exact pl_next (by assumption) (by assumption) (by assumption), hB51, hk47, hk54⟩
    ·
     rw [hc57] at h56
     refine co_true h56 rfl ?_
     refine co_seq ?_
     refine co_reg ?_
     refine pk0 (v := .int .i64 ((i : Nat) : Int)) h56 rfl fun a61 h61 => ?_; clear h56
     refine pk0 (v := .int .i64 ((i : Nat) : Int)) h61 rfl fun a62 h62 => ?_; clear h61
     refine pl_nil ?_
     refine co_then ?_
     refine wp_ret ?_
     refine co_blockR ?_
     refine co_thenR ?_
     refine co_thenR ?_
     refine co_blockR ?_
     refine co_thenR ?_
     refine co_ret1 h62 rfl rfl ?_
     exact ⟨_, rfl, by rw [decide_eq_true (by omega)]; exact pl_at (by assumption) (by assumption), hB51⟩
set_option maxRecDepth 100000 in
theorem indexI_any (v : Value) (l : List Int) (n : Int) (w : World) (hs : SliceOf (intE .i64) 1 w v l) :
    Calls Try.prog 56 #[v, .int .i64 n] w fun e w' => ∃ (j : Int), e = .returned (.int .i64 j) ∧ decide (j ≥ 0) = inL l n ∧ Below w.heap.size w w' := by
 have hB0 := Below.refl w.heap.size w
 have hl_hs := sl_len hs
 refine co_enter (n := 19) Try.func56 rfl rfl rfl [(0, v), (1, .int .i64 n)] rfl (fun a h0 => ?_)
 refine co_seq ?_
 refine co_reg ?_
 refine pk0 (v := .int .i64 0) h0 rfl fun a1 h1 => ?_; clear h0
 refine pl_nil ?_
 refine co_then ?_
 refine co_seq ?_
 refine co_seq ?_
 refine co_reg ?_
 refine pk0 (v := v) h1 rfl fun a2 h2 => ?_; clear h1
 refine pk (v := .int .i64 ((l.length : Nat) : Int)) h2 rfl (rn_len rfl rfl Try.underlying43 hs) fun a3 h3 => ?_; clear h2
 refine pk0 (v := .int .i64 0) h3 rfl fun a4 h4 => ?_; clear h3
 refine pl_nil ?_
 refine co_then ?_
 refine wp_block ?_
 have h5 : Slots 19 [(0, v), (1, .int .i64 n), (6, v), (7, .int .i64 ((l.length : Nat) : Int)), (8, .int .i64 0)] _ := h4.sub ⟨rfl, rfl, rfl, rfl, rfl, trivial⟩; clear h4
 refine co_loop (fun mm a x => ∃ (i : Nat), Slots 19 [(0, v), (1, .int .i64 n), (6, v), (7, .int .i64 ((l.length : Nat) : Int)), (8, .int .i64 ((i : Nat) : Int))] a ∧ mm = l.length - i ∧ (i ≤ l.length) ∧ (∀ j, j < i → ∀ z, l[j]? = some z → z ≠ n) ∧ Below w.heap.size w x) (l.length - 0) ?_ ?_
 · exact ⟨0, h5.sub ⟨rfl, rfl, rfl, rfl, (slot_eq rfl (congrArg (Value.int .i64) (by first | rfl | omega))), trivial⟩, rfl, by omega, by first | (intro j hj; omega) | exact in_next (by assumption) (by assumption) (by omega), hB0⟩
 · rintro k6 a7 w8 ⟨i, h7, rfl, hi9, hi10, hB11⟩
   have hz12 := hB11.size
   refine co_seq ?_
   refine co_reg ?_
   refine pk0 (v := .bool (decide (((i : Nat) : Int) < ((l.length : Nat) : Int)))) h7 rfl fun a13 h13 => ?_; clear h7
   refine pl_nil ?_
   refine co_then ?_
   refine co_seq ?_
   cases hc14 : (decide (((i : Nat) : Int) < ((l.length : Nat) : Int)))
   ·
    rw [hc14] at h13
    have hp15 : ¬ (((i : Nat) : Int) < ((l.length : Nat) : Int)) := of_decide_eq_false hc14
    clear hc14
    refine co_false h13 rfl ?_
    refine wp_exit ?_
    refine co_thenX ?_
    refine co_thenX ?_
    refine co_blockX ?_
    refine co_then ?_
    refine co_seq ?_
    refine co_reg ?_
    refine pk0 (v := .int .i64 (-1)) h13 rfl fun a16 h16 => ?_; clear h13
    refine pl_nil ?_
    refine co_then ?_
    refine wp_ret ?_
    refine co_ret1 h16 rfl rfl ?_
    exact ⟨_, rfl, by rw [decide_eq_false (by omega)]; exact inL_end (i := i) (by assumption) (by omega), hB11⟩
   ·
    rw [hc14] at h13
    have hp17 : ((i : Nat) : Int) < ((l.length : Nat) : Int) := of_decide_eq_true hc14
    clear hc14
    refine co_true h13 rfl ?_
    refine wp_skip ?_
    refine co_then ?_
    refine co_seq ?_
    refine wp_block ?_
    refine co_seq ?_
    refine co_reg ?_
    refine pk0 (v := .int .i64 ((i : Nat) : Int)) h13 rfl fun a18 h18 => ?_; clear h13
    refine pk0 (v := .int .i64 ((i : Nat) : Int)) h18 rfl fun a19 h19 => ?_; clear h18
    refine pl_nil ?_
    refine co_then ?_
    refine co_seq ?_
    refine co_reg ?_
    refine pk0 (v := .int .i64 n) h19 rfl fun a20 h20 => ?_; clear h19
    refine pk0 (v := v) h20 rfl fun a21 h21 => ?_; clear h20
    refine pk0 (v := .int .i64 ((i : Nat) : Int)) h21 rfl fun a22 h22 => ?_; clear h21
    obtain ⟨y23, hy23⟩ : ∃ z, l[i]? = some z := ⟨_, List.getElem?_eq_getElem (by first | omega | (simp; done) | (simp; omega))⟩
    refine pk (v := pt (blkOf v) (offOf v + i * 1)) h22 rfl (rn_index rfl rfl rfl Try.underlying43 Try.sizeOf3 (hs.below hB11) (by omega) (by first | omega | (simp; done) | (simp; omega))) fun a24 h24 => ?_; clear h22
    refine pk (v := .int .i64 y23) h24 rfl (rn_load1 rfl rfl Try.isAgg3 ((sl_at (hs.below hB11) hy23) 0 _ rfl)) fun a25 h25 => ?_; clear h24
    refine pk0 (v := .bool (n == y23)) h25 rfl fun a26 h26 => ?_; clear h25
    refine pl_nil ?_
    refine co_then ?_
    cases hc27 : (n == y23)
    ·
     rw [hc27] at h26
     have hp28 : ¬ (n = y23) := by first | simpa using hc27 | simpa [and_assoc] using hc27
     clear hc27
     refine co_false h26 rfl ?_
     refine wp_skip ?_
     refine co_blockN ?_
     refine co_then ?_
     refine co_reg ?_
     refine pk (v := .int .i64 ((i + 1 : Nat) : Int)) h26 rfl (rn_arith' rfl rfl rfl rfl rfl rfl (IntWalk.i64_in _ (by omega)) (by omega)) fun a29 h29 => ?_; clear h26
     refine pk0 (v := .int .i64 ((i + 1 : Nat) : Int)) h29 rfl fun a30 h30 => ?_; clear h29
     refine pl_nil ?_
     refine co_then ?_
     refine ⟨(l.length - (i + 1)), by omega, ?_⟩
     exact ⟨i + 1, h30.sub ⟨rfl, rfl, rfl, rfl, rfl, trivial⟩, rfl, by omega, by first | (intro j hj; omega) | exact in_next (by assumption) (by assumption) (by omega), hB11⟩
    ·
     rw [hc27] at h26
     have hp31 : n = y23 := by first | simpa using hc27 | simpa [and_assoc] using hc27
     clear hc27
     refine co_true h26 rfl ?_
     refine co_seq ?_
     refine co_reg ?_
     refine pk0 (v := .int .i64 ((i : Nat) : Int)) h26 rfl fun a32 h32 => ?_; clear h26
     refine pk0 (v := .int .i64 ((i : Nat) : Int)) h32 rfl fun a33 h33 => ?_; clear h32
     refine pl_nil ?_
     refine co_then ?_
     refine wp_ret ?_
     refine co_blockR ?_
     refine co_thenR ?_
     refine co_thenR ?_
     refine co_blockR ?_
     refine co_thenR ?_
     refine co_ret1 h33 rfl rfl ?_
     exact ⟨_, rfl, by rw [decide_eq_true (by omega)]; exact inL_at (by assumption) (by assumption) (by omega), hB11⟩
set_option maxRecDepth 100000 in
theorem containsI_any (v : Value) (l : List Int) (n : Int) (w : World) (hs : SliceOf (intE .i64) 1 w v l) :
    Calls Try.prog 32 #[v, .int .i64 n] w fun e w' => e = .returned (.bool (inL l n)) ∧ Below w.heap.size w w' := by
 have hB0 := Below.refl w.heap.size w
 have hl_hs := sl_len hs
 refine co_enter (n := 9) Try.func32 rfl rfl rfl [(0, v), (1, .int .i64 n)] rfl (fun a h0 => ?_)
 refine co_seq ?_
 refine co_reg ?_
 refine pk0 (v := .bool false) h0 rfl fun a1 h1 => ?_; clear h0
 refine pl_nil ?_
 refine co_then ?_
 refine co_seq ?_
 refine co_reg ?_
 refine pk0 (v := v) h1 rfl fun a2 h2 => ?_; clear h1
 refine pk0 (v := .int .i64 n) h2 rfl fun a3 h3 => ?_; clear h2
 refine pw h3 rfl (op_call (args := #[v, .int .i64 n]) (R := fun res xw => ∃ j : Int, res = .int .i64 j ∧ decide (j ≥ 0) = inL l n ∧ Below w.heap.size w xw) rfl rfl rfl (by kernel_rfl) (by kernel_rfl) (Try.call56 _ _) (indexI_any v l n w hs) (by rintro e x ⟨j, rfl, hq7, hb8⟩; exact ⟨_, rfl, ⟨j, rfl, hq7, hb8⟩⟩)) ?_; clear h3
 rintro _ w5 a4 ⟨j6, rfl, hq7, hb8⟩ h4
 have hz9 := hb8.size
 refine pk0 (v := .bool (decide (j6 ≥ 0))) h4 rfl fun a10 h10 => ?_; clear h4
 refine pk0 (v := .bool (decide (j6 ≥ 0))) h10 rfl fun a11 h11 => ?_; clear h10
 refine pl_nil ?_
 refine co_then ?_
 refine wp_ret ?_
 refine co_ret1 h11 rfl rfl ?_
 have hB12 := hb_call hB0 hb8
 exact ⟨ret_bool (by assumption), hB12⟩
set_option maxRecDepth 100000 in
theorem idAt0_any (ep : Int) (fl : Int) (mv : Value) (ms : List MemT) (w : World) (hs : SliceOf memE 2 w mv ms) :
    Calls Try.prog 57 #[.agg #[.int .i64 ep, mv, .int .u64 fl], .int .i64 0] w fun e w' => e = .returned (.int .i64 (headI ms)) ∧ Below w.heap.size w w' := by
 have hB0 := Below.refl w.heap.size w
 have hl_hs := sl_len hs
 refine co_enter (n := 20) Try.func57 rfl rfl rfl [(0, .agg #[.int .i64 ep, mv, .int .u64 fl]), (1, .int .i64 0)] rfl (fun a h0 => ?_)
 refine co_seq ?_
 refine co_reg ?_
 refine pw h0 rfl (op_new (v := fun N => pt N 0) (T := 42) (cs := #[.int .i64 ep, mv, .int .u64 fl]) (by kernel_rfl) (by kernel_rfl) (by kernel_rfl)) ?_; clear h0
 rintro _ w2 a1 ⟨N3, rfl, hN6, hz7, hk5, hg4⟩ h1
 have hz8 := hg4.size
 try dsimp only at h1
 refine pk0 (v := .int .i64 0) h1 rfl fun a9 h9 => ?_; clear h1
 refine pl_nil ?_
 refine co_then ?_
 refine co_seq ?_
 refine co_seq ?_
 refine co_reg ?_
 refine pk0 (v := .int .i64 0) h9 rfl fun a10 h10 => ?_; clear h9
 refine pk0 (v := .bool (decide (0 < 0))) h10 rfl fun a11 h11 => ?_; clear h10
 refine pk0 (v := .bool (decide (0 < 0))) h11 rfl fun a12 h12 => ?_; clear h11
 have hc13 : (decide (0 < 0)) = false := decide_eq_false (by omega)
 rw [hc13] at h12; clear hc13
 refine pk0 (v := .int .i64 0) h12 rfl fun a14 h14 => ?_; clear h12
 refine pk0 (v := pt N3 1) h14 rfl fun a15 h15 => ?_; clear h14
 refine pk (v := mv) h15 rfl (rn_load1 rfl rfl Try.isAgg40 (hk5.cell rfl)) fun a16 h16 => ?_; clear h15
 have hB17 := hb_new hB0 hg4
 refine pk (v := .int .i64 ((ms.length : Nat) : Int)) h16 rfl (rn_len rfl rfl Try.underlying40 (hs.below hB17)) fun a18 h18 => ?_; clear h16
 refine pk0 (v := .bool (decide (0 ≥ ((ms.length : Nat) : Int)))) h18 rfl fun a19 h19 => ?_; clear h18
 refine pk0 (v := .bool (decide (0 ≥ ((ms.length : Nat) : Int)))) h19 rfl fun a20 h20 => ?_; clear h19
 refine pl_nil ?_
 refine co_then ?_
 cases hc21 : (decide (0 ≥ ((ms.length : Nat) : Int)))
 ·
  rw [hc21] at h20
  have hp22 : ¬ (0 ≥ ((ms.length : Nat) : Int)) := of_decide_eq_false hc21
  clear hc21
  refine co_false h20 rfl ?_
  refine wp_skip ?_
  refine co_then ?_
  refine co_seq ?_
  refine co_reg ?_
  refine pk0 (v := pt N3 1) h20 rfl fun a23 h23 => ?_; clear h20
  refine pk (v := mv) h23 rfl (rn_load1 rfl rfl Try.isAgg40 (hk5.cell rfl)) fun a24 h24 => ?_; clear h23
  refine pk0 (v := .int .i64 0) h24 rfl fun a25 h25 => ?_; clear h24
  obtain ⟨y26, hy26⟩ : ∃ z, ms[0]? = some z := ⟨_, List.getElem?_eq_getElem (by first | omega | (simp; done) | (simp; omega))⟩
  refine pk (v := pt (blkOf mv) (offOf mv + 0 * 2)) h25 rfl (rn_index rfl rfl rfl Try.underlying40 Try.sizeOf80 (hs.below hB17) (by omega) (by first | omega | (simp; done) | (simp; omega))) fun a27 h27 => ?_; clear h25
  refine pk0 (v := pt (blkOf mv) (offOf mv + 0 * 2)) h27 rfl fun a28 h28 => ?_; clear h27
  refine pk (v := .int .i64 y26.1) h28 rfl (rn_load1 rfl rfl Try.isAgg3 ((sl_at (hs.below hB17) hy26) 0 _ rfl)) fun a29 h29 => ?_; clear h28
  refine pk0 (v := .int .i64 y26.1) h29 rfl fun a30 h30 => ?_; clear h29
  refine pl_nil ?_
  refine co_then ?_
  refine wp_ret ?_
  refine co_ret1 h30 rfl rfl ?_
  exact ⟨ret_int (by first | exact headI_y (by assumption) | exact headI_0 (by omega)), hB17⟩
 ·
  rw [hc21] at h20
  have hp31 : 0 ≥ ((ms.length : Nat) : Int) := of_decide_eq_true hc21
  clear hc21
  refine co_true h20 rfl ?_
  refine co_seq ?_
  refine co_reg ?_
  refine pk0 (v := .int .i64 (-1)) h20 rfl fun a32 h32 => ?_; clear h20
  refine pl_nil ?_
  refine co_then ?_
  refine wp_ret ?_
  refine co_thenR ?_
  refine co_ret1 h32 rfl rfl ?_
  exact ⟨ret_int (by first | exact headI_y (by assumption) | exact headI_0 (by omega)), hB17⟩
set_option maxRecDepth 100000 in
theorem headP_any (ep : Int) (fl : Int) (mv : Value) (ms : List MemT) (w : World) (hs : SliceOf memE 2 w mv ms) :
    Calls Try.prog 33 #[.agg #[.int .i64 ep, mv, .int .u64 fl]] w fun e w' => e = .returned (.int .i64 (headI ms)) ∧ Below w.heap.size w w' := by
 have hB0 := Below.refl w.heap.size w
 have hl_hs := sl_len hs
 refine co_enter (n := 5) Try.func33 rfl rfl rfl [(0, .agg #[.int .i64 ep, mv, .int .u64 fl])] rfl (fun a h0 => ?_)
 refine co_seq ?_
 refine co_reg ?_
 refine pw h0 rfl (op_new (v := fun N => pt N 0) (T := 42) (cs := #[.int .i64 ep, mv, .int .u64 fl]) (by kernel_rfl) (by kernel_rfl) (by kernel_rfl)) ?_; clear h0
 rintro _ w2 a1 ⟨N3, rfl, hN6, hz7, hk5, hg4⟩ h1
 have hz8 := hg4.size
 try dsimp only at h1
 refine pk0 (v := .int .i64 0) h1 rfl fun a9 h9 => ?_; clear h1
 refine pl_nil ?_
 refine co_then ?_
 refine co_seq ?_
 refine co_reg ?_
 refine pk (v := .agg #[.int .i64 ep, mv, .int .u64 fl]) h9 rfl (rn_loadN rfl rfl Try.underlying42 rfl (by kernel_rfl) hk5.all) fun a10 h10 => ?_; clear h9
 have hB13 := hb_new hB0 hg4
 refine pw h10 rfl (op_call (args := #[.agg #[.int .i64 ep, mv, .int .u64 fl], .int .i64 0]) (R := fun res xw => res = .int .i64 (headI ms) ∧ Below w2.heap.size w2 xw) rfl rfl rfl (by kernel_rfl) (by kernel_rfl) (Try.call57 _ _) (idAt0_any ep fl mv ms w2 (hs.below hB13)) (by rintro e x ⟨rfl, hb14⟩; exact ⟨_, rfl, ⟨rfl, hb14⟩⟩)) ?_; clear h10
 rintro _ w12 a11 ⟨rfl, hb14⟩ h11
 have hz15 := hb14.size
 refine pk0 (v := .int .i64 (headI ms)) h11 rfl fun a16 h16 => ?_; clear h11
 refine pl_nil ?_
 refine co_then ?_
 refine wp_ret ?_
 refine co_ret1 h16 rfl rfl ?_
 have hB17 := hb_call hB13 hb14
 exact ⟨rfl, hB17⟩
set_option maxRecDepth 100000 in
set_option maxHeartbeats 1600000 in
theorem jFollows_any (ep : Int) (mv : Value) (ms : List MemT) (fl : Int) (ep2 : Int) (mv2 : Value) (ms2 : List MemT) (fl2 : Int) (lv : Value) (lg : List Int) (w : World) (hs : SliceOf memE 2 w mv ms) (hmk : ∀ m ∈ ms, memOk m) (he : -9223372036854775808 ≤ ep ∧ ep ≤ 9223372036854775807) (hf : 0 ≤ fl ∧ fl < 18446744073709551616) (hs2 : SliceOf memE 2 w mv2 ms2) (hmk2 : ∀ m ∈ ms2, memOk m) (he2 : -9223372036854775808 ≤ ep2 ∧ ep2 ≤ 9223372036854775807) (hf2 : 0 ≤ fl2 ∧ fl2 < 18446744073709551616) (hlg : SliceOf (intE .i64) 1 w lv lg) :
    Calls Try.prog 13 #[.agg #[.int .i64 ep, mv, .int .u64 fl], .agg #[.int .i64 ep2, mv2, .int .u64 fl2], lv] w fun e w' => e = .returned (.int .i64 (flwJ ep ms fl ep2 ms2 fl2 lg)) ∧ Below w.heap.size w w' := by
 have hB0 := Below.refl w.heap.size w
 have hl_hs := sl_len hs
 have hl_hs2 := sl_len hs2
 have hl_hlg := sl_len hlg
 refine co_enter (n := 46) Try.func13 rfl rfl rfl [(0, .agg #[.int .i64 ep, mv, .int .u64 fl]), (1, .agg #[.int .i64 ep2, mv2, .int .u64 fl2]), (2, lv)] rfl (fun a h0 => ?_)
 refine co_seq ?_
 refine co_reg ?_
 refine pw h0 rfl (op_new (v := fun N => pt N 0) (T := 42) (cs := #[.int .i64 ep, mv, .int .u64 fl]) (by kernel_rfl) (by kernel_rfl) (by kernel_rfl)) ?_; clear h0
 rintro _ w2 a1 ⟨N3, rfl, hN6, hz7, hk5, hg4⟩ h1
 have hz8 := hg4.size
 try dsimp only at h1
 refine pw h1 rfl (op_new (v := fun N => pt N 0) (T := 42) (cs := #[.int .i64 ep2, mv2, .int .u64 fl2]) (by kernel_rfl) (by kernel_rfl) (by kernel_rfl)) ?_; clear h1
 rintro _ w10 a9 ⟨N11, rfl, hN14, hz15, hk13, hg12⟩ h9
 have hz16 := hg12.size
 try dsimp only at h9
 refine pk0 (v := .int .i64 0) h9 rfl fun a17 h17 => ?_; clear h9
 refine pl_nil ?_
 refine co_then ?_
 refine co_seq ?_
 refine co_seq ?_
 refine co_reg ?_
 have hk18 := hk5.kept hg12 (by simp)
 refine pk (v := .agg #[.int .i64 ep, mv, .int .u64 fl]) h17 rfl (rn_loadN rfl rfl Try.underlying42 rfl (by kernel_rfl) hk18.all) fun a19 h19 => ?_; clear h17
 have hn22 := chk_im (ep := ep) (ms := ms)
 have hB23 := hb_new hB0 hg4
 have hB24 := hb_new hB23 hg12
 refine pw h19 rfl (op_call (args := #[.agg #[.int .i64 ep, mv, .int .u64 fl]]) (R := fun res xw => res = .int .i64 (chkC ep ms) ∧ Below w10.heap.size w10 xw) rfl rfl rfl (by kernel_rfl) (by kernel_rfl) (Try.call30 _ _) (wcheck_any ep mv ms fl w10 (hs.below hB24) hmk he hf) (by rintro e x ⟨rfl, hb25⟩; exact ⟨_, rfl, ⟨rfl, hb25⟩⟩)) ?_; clear h19
 rintro _ w21 a20 ⟨rfl, hb25⟩ h20
 have hz26 := hb25.size
 refine pk0 (v := .int .i64 (chkC ep ms)) h20 rfl fun a27 h27 => ?_; clear h20
 refine pl_nil ?_
 refine co_then ?_
 refine co_seq ?_
 refine co_reg ?_
 refine pk0 (v := .int .i64 (chkC ep ms)) h27 rfl fun a28 h28 => ?_; clear h27
 refine pk0 (v := .bool (chkC ep ms != 0)) h28 rfl fun a29 h29 => ?_; clear h28
 refine pl_nil ?_
 refine co_then ?_
 have hB31 := hb_call hB24 hb25
 cases hc30 : (chkC ep ms != 0)
 ·
  rw [hc30] at h29
  have hp32 : ¬ (chkC ep ms ≠ 0) := by first | simpa using hc30 | simpa [and_assoc] using hc30
  clear hc30
  refine co_false h29 rfl ?_
  refine wp_skip ?_
  refine co_then ?_
  refine co_seq ?_
  refine co_seq ?_
  refine co_reg ?_
  have hk33 := hk13.below hb25
  refine pk (v := .agg #[.int .i64 ep2, mv2, .int .u64 fl2]) h29 rfl (rn_loadN rfl rfl Try.underlying42 rfl (by kernel_rfl) hk33.all) fun a34 h34 => ?_; clear h29
  have hn37 := chk_im (ep := ep2) (ms := ms2)
  refine pw h34 rfl (op_call (args := #[.agg #[.int .i64 ep2, mv2, .int .u64 fl2]]) (R := fun res xw => res = .int .i64 (chkC ep2 ms2) ∧ Below w21.heap.size w21 xw) rfl rfl rfl (by kernel_rfl) (by kernel_rfl) (Try.call30 _ _) (wcheck_any ep2 mv2 ms2 fl2 w21 (hs2.below hB31) hmk2 he2 hf2) (by rintro e x ⟨rfl, hb38⟩; exact ⟨_, rfl, ⟨rfl, hb38⟩⟩)) ?_; clear h34
  rintro _ w36 a35 ⟨rfl, hb38⟩ h35
  have hz39 := hb38.size
  refine pk0 (v := .int .i64 (chkC ep2 ms2)) h35 rfl fun a40 h40 => ?_; clear h35
  refine pl_nil ?_
  refine co_then ?_
  refine co_seq ?_
  refine co_reg ?_
  refine pk0 (v := .int .i64 (chkC ep2 ms2)) h40 rfl fun a41 h41 => ?_; clear h40
  refine pk0 (v := .bool (chkC ep2 ms2 != 0)) h41 rfl fun a42 h42 => ?_; clear h41
  refine pl_nil ?_
  refine co_then ?_
  have hB44 := hb_call hB31 hb38
  have hk45 := hk18.below hb25
  have hk46 := hk45.below hb38
  cases hc43 : (chkC ep2 ms2 != 0)
  ·
   rw [hc43] at h42
   have hp47 : ¬ (chkC ep2 ms2 ≠ 0) := by first | simpa using hc43 | simpa [and_assoc] using hc43
   clear hc43
   refine co_false h42 rfl ?_
   refine wp_skip ?_
   refine co_then ?_
   refine co_seq ?_
   refine co_seq ?_
   refine co_reg ?_
   refine pk0 (v := pt N11 0) h42 rfl fun a48 h48 => ?_; clear h42
   have hk49 := hk33.below hb38
   refine pk (v := .int .i64 ep2) h48 rfl (rn_load1 rfl rfl Try.isAgg3 (hk49.cell rfl)) fun a50 h50 => ?_; clear h48
   refine pk0 (v := pt N3 0) h50 rfl fun a51 h51 => ?_; clear h50
   refine pk (v := .int .i64 ep) h51 rfl (rn_load1 rfl rfl Try.isAgg3 (hk46.cell rfl)) fun a52 h52 => ?_; clear h51
   refine pk (v := .int .i64 (ep + 1)) h52 rfl (rn_arith rfl rfl rfl rfl rfl rfl (IntWalk.i64_in _ (by omega))) fun a53 h53 => ?_; clear h52
   refine pk0 (v := .bool (ep2 != ep + 1)) h53 rfl fun a54 h54 => ?_; clear h53
   refine pk0 (v := .bool (ep2 != ep + 1)) h54 rfl fun a55 h55 => ?_; clear h54
   cases hc56 : (ep2 != ep + 1)
   ·
    rw [hc56] at h55
    have hp57 : ¬ (ep2 ≠ ep + 1) := by first | simpa using hc56 | simpa [and_assoc] using hc56
    clear hc56
    refine pk0 (v := pt N11 2) h55 rfl fun a58 h58 => ?_; clear h55
    refine pk (v := .int .u64 fl2) h58 rfl (rn_load1 rfl rfl Try.isAgg23 (hk49.cell rfl)) fun a59 h59 => ?_; clear h58
    refine pk0 (v := pt N3 2) h59 rfl fun a60 h60 => ?_; clear h59
    refine pk (v := .int .u64 fl) h60 rfl (rn_load1 rfl rfl Try.isAgg23 (hk46.cell rfl)) fun a61 h61 => ?_; clear h60
    refine pk0 (v := .bool (decide (fl2 < fl))) h61 rfl fun a62 h62 => ?_; clear h61
    refine pk0 (v := .bool (decide (fl2 < fl))) h62 rfl fun a63 h63 => ?_; clear h62
    refine pl_nil ?_
    refine co_then ?_
    cases hc64 : (decide (fl2 < fl))
    ·
     rw [hc64] at h63
     have hp65 : ¬ (fl2 < fl) := of_decide_eq_false hc64
     clear hc64
     refine co_false h63 rfl ?_
     refine wp_skip ?_
     refine co_then ?_
     refine co_seq ?_
     refine co_seq ?_
     refine dr_gen (fun x => Below w.heap.size w x ∧ Blk x N3 42 #[.int .i64 ep, mv, .int .u64 fl] ∧ Blk x N11 42 #[.int .i64 ep2, mv2, .int .u64 fl2]) (by kernel_rfl) (fun w66 hg67 => ?_) (fun w66 hg67 => ?_)
     ·
      have hz68 := hg67.size
      have hB69 := hb_new hB44 hg67
      have hk70 := hk46.kept hg67 (by simp)
      have hk71 := hk49.kept hg67 (by simp)
      exact ⟨hB69, hk70, hk71⟩
     have hz72 := hg67.size
     have hB73 := hb_new hB44 hg67
     have hk74 := hk46.kept hg67 (by simp)
     have hk75 := hk49.kept hg67 (by simp)
     refine dk 0 (v := .agg #[.int .i64 ep, mv, .int .u64 fl]) h63 rfl rfl ⟨hB73, hk74, hk75⟩ (fun x hx => (rn_loadN rfl rfl Try.underlying42 rfl (by kernel_rfl) hx.2.1.all)) fun a76 h76 => ?_; clear h63
     refine dk0 1 (v := pt N11 1) h76 rfl rfl ⟨hB73, hk74, hk75⟩ fun a77 h77 => ?_; clear h76
     refine dk 2 (v := mv2) h77 rfl rfl ⟨hB73, hk74, hk75⟩ (fun x hx => (rn_load1 rfl rfl Try.isAgg40 (hx.2.2.cell rfl))) fun a78 h78 => ?_; clear h77
     obtain ⟨y79, hy79⟩ : ∃ z, ms2[0]? = some z := ⟨_, List.getElem?_eq_getElem (by first | omega | (simp; done) | (simp; omega))⟩
     refine dk 3 (v := pt (blkOf mv2) (offOf mv2 + 0 * 2)) h78 rfl rfl ⟨hB73, hk74, hk75⟩ (fun x hx => (rn_index rfl rfl rfl Try.underlying40 Try.sizeOf80 (hs2.below hx.1) (by omega) (by first | omega | (simp; done) | (simp; omega)))) fun a80 h80 => ?_; clear h78
     refine dk 4 (v := .agg #[.int .i64 y79.1, .int .i64 y79.2]) h80 rfl rfl ⟨hB73, hk74, hk75⟩ (fun x hx => (rn_loadN rfl rfl Try.underlying80 rfl (by kernel_rfl) (sl_at (hs2.below hx.1) hy79))) fun a81 h81 => ?_; clear h80
     refine d1 5 h81 rfl rfl (op_call (args := #[.agg #[.int .i64 ep, mv, .int .u64 fl], .agg #[.int .i64 y79.1, .int .i64 y79.2]]) (R := fun res xw => ∃ j : Int, res = .int .i64 j ∧ decide (j ≥ 0) = plB ms y79 ∧ Below w66.heap.size w66 xw) rfl rfl rfl (by kernel_rfl) (by kernel_rfl) (Try.call31 _ _) (jPlace_any ep mv ms fl y79 w66 (hs.below hB73)) (by rintro e x ⟨j, rfl, hq85, hb86⟩; exact ⟨_, rfl, ⟨j, rfl, hq85, hb86⟩⟩)) ?_ ?_; clear h81
     ·
      rintro _ w83 ⟨j84, rfl, hq85, hb86⟩
      have hz87 := hb86.size
      have hB88 := hb_call hB73 hb86
      have hk89 := hk74.below hb86
      have hk90 := hk75.below hb86
      exact ⟨hB88, hk89, hk90⟩
     rintro _ w83 a82 ⟨j84, rfl, hq85, hb86⟩ h82
     have hz87 := hb86.size
     have hB88 := hb_call hB73 hb86
     have hk89 := hk74.below hb86
     have hk90 := hk75.below hb86
     refine dk0 6 (v := .bool (decide (j84 < 0))) h82 rfl rfl ⟨hB88, hk89, hk90⟩ fun a91 h91 => ?_; clear h82
     refine dk0 7 (v := .bool (decide (j84 < 0))) h91 rfl rfl ⟨hB88, hk89, hk90⟩ fun a92 h92 => ?_; clear h91
     cases hc93 : (decide (j84 < 0))
     ·
      rw [hc93] at h92
      have hp94 : ¬ (j84 < 0) := of_decide_eq_false hc93
      clear hc93
      refine dk0 8 (v := lv) h92 rfl rfl ⟨hB88, hk89, hk90⟩ fun a95 h95 => ?_; clear h92
      refine dk 9 (v := .agg #[.int .i64 ep2, mv2, .int .u64 fl2]) h95 rfl rfl ⟨hB88, hk89, hk90⟩ (fun x hx => (rn_loadN rfl rfl Try.underlying42 rfl (by kernel_rfl) hx.2.2.all)) fun a96 h96 => ?_; clear h95
      refine d1 10 h96 rfl rfl (op_call (args := #[.agg #[.int .i64 ep2, mv2, .int .u64 fl2]]) (R := fun res xw => res = .int .i64 (headI ms2) ∧ Below w83.heap.size w83 xw) rfl rfl rfl (by kernel_rfl) (by kernel_rfl) (Try.call33 _ _) (headP_any ep2 fl2 mv2 ms2 w83 (hs2.below hB88)) (by rintro e x ⟨rfl, hb99⟩; exact ⟨_, rfl, ⟨rfl, hb99⟩⟩)) ?_ ?_; clear h96
      ·
       rintro _ w98 ⟨rfl, hb99⟩
       have hz100 := hb99.size
       have hB101 := hb_call hB88 hb99
       have hk102 := hk89.below hb99
       have hk103 := hk90.below hb99
       exact ⟨hB101, hk102, hk103⟩
      rintro _ w98 a97 ⟨rfl, hb99⟩ h97
      have hz100 := hb99.size
      have hB101 := hb_call hB88 hb99
      have hk102 := hk89.below hb99
      have hk103 := hk90.below hb99
      refine d1 11 h97 rfl rfl (op_call (args := #[lv, .int .i64 (headI ms2)]) (R := fun res xw => res = .bool (inL lg (headI ms2)) ∧ Below w98.heap.size w98 xw) rfl rfl rfl (by kernel_rfl) (by kernel_rfl) (Try.call32 _ _) (containsI_any lv lg (headI ms2) w98 (hlg.below hB101)) (by rintro e x ⟨rfl, hb106⟩; exact ⟨_, rfl, ⟨rfl, hb106⟩⟩)) ?_ ?_; clear h97
      ·
       rintro _ w105 ⟨rfl, hb106⟩
       have hz107 := hb106.size
       have hB108 := hb_call hB101 hb106
       have hk109 := hk102.below hb106
       have hk110 := hk103.below hb106
       exact ⟨hB108, hk109, hk110⟩
      rintro _ w105 a104 ⟨rfl, hb106⟩ h104
      have hz107 := hb106.size
      have hB108 := hb_call hB101 hb106
      have hk109 := hk102.below hb106
      have hk110 := hk103.below hb106
      cases hc111 : (inL lg (headI ms2))
      ·
       rw [hc111] at h104
       refine dk0 12 (v := .bool true) h104 rfl rfl ⟨hB108, hk109, hk110⟩ fun a112 h112 => ?_; clear h104
       refine dk0 13 (v := .bool true) h112 rfl rfl ⟨hB108, hk109, hk110⟩ fun a113 h113 => ?_; clear h112
       refine dr_done (by kernel_rfl) ?_
       refine co_then ?_
       refine co_true h113 rfl ?_
       refine co_seq ?_
       refine co_reg ?_
       refine pk0 (v := .int .i64 7) h113 rfl fun a114 h114 => ?_; clear h113
       refine pl_nil ?_
       refine co_then ?_
       refine wp_ret ?_
       refine co_thenR ?_
       refine co_ret1 h114 rfl rfl ?_
       exact ⟨ret_int (fl_4 (by omega) (by omega) (by omega) hy79 (by first | exact .inl (plN hq85 (by omega)) | exact .inr (by first | assumption | (have hq := (by assumption : inL lg (headI ms2) = false); rwa [hdI hy79] at hq)))), hB108⟩
      ·
       rw [hc111] at h104
       refine dk0 12 (v := .bool false) h104 rfl rfl ⟨hB108, hk109, hk110⟩ fun a115 h115 => ?_; clear h104
       refine dk0 13 (v := .bool false) h115 rfl rfl ⟨hB108, hk109, hk110⟩ fun a116 h116 => ?_; clear h115
       refine dr_done (by kernel_rfl) ?_
       refine co_then ?_
       refine co_false h116 rfl ?_
       refine wp_skip ?_
       refine co_then ?_
       refine co_seq ?_
       refine co_reg ?_
       refine pk0 (v := .int .i64 0) h116 rfl fun a117 h117 => ?_; clear h116
       refine pl_nil ?_
       refine co_then ?_
       refine wp_ret ?_
       refine co_ret1 h117 rfl rfl ?_
       exact ⟨ret_int (fl_5 (by omega) (by omega) (by omega) hy79 (plY hq85 (by omega)) (by first | assumption | (have hq := (by assumption : inL lg (headI ms2) = true); rwa [hdI hy79] at hq))), hB108⟩
     ·
      rw [hc93] at h92
      have hp118 : j84 < 0 := of_decide_eq_true hc93
      clear hc93
      refine dsk 8 h92 rfl rfl ⟨hB88, hk89, hk90⟩ fun a119 h119 => ?_; clear h92
      refine dsk 9 h119 rfl rfl ⟨hB88, hk89, hk90⟩ fun a120 h120 => ?_; clear h119
      refine dsk 10 h120 rfl rfl ⟨hB88, hk89, hk90⟩ fun a121 h121 => ?_; clear h120
      refine dsk 11 h121 rfl rfl ⟨hB88, hk89, hk90⟩ fun a122 h122 => ?_; clear h121
      refine dsk 12 h122 rfl rfl ⟨hB88, hk89, hk90⟩ fun a123 h123 => ?_; clear h122
      refine dk0 13 (v := .bool true) h123 rfl rfl ⟨hB88, hk89, hk90⟩ fun a124 h124 => ?_; clear h123
      refine dr_done (by kernel_rfl) ?_
      refine co_then ?_
      refine co_true h124 rfl ?_
      refine co_seq ?_
      refine co_reg ?_
      refine pk0 (v := .int .i64 7) h124 rfl fun a125 h125 => ?_; clear h124
      refine pl_nil ?_
      refine co_then ?_
      refine wp_ret ?_
      refine co_thenR ?_
      refine co_ret1 h125 rfl rfl ?_
      exact ⟨ret_int (fl_4 (by omega) (by omega) (by omega) hy79 (by first | exact .inl (plN hq85 (by omega)) | exact .inr (by first | assumption | (have hq := (by assumption : inL lg (headI ms2) = false); rwa [hdI hy79] at hq)))), hB88⟩
    ·
     rw [hc64] at h63
     have hp126 : fl2 < fl := of_decide_eq_true hc64
     clear hc64
     refine co_true h63 rfl ?_
     refine co_seq ?_
     refine co_reg ?_
     refine pk0 (v := .int .i64 18) h63 rfl fun a127 h127 => ?_; clear h63
     refine pl_nil ?_
     refine co_then ?_
     refine wp_ret ?_
     refine co_thenR ?_
     refine co_ret1 h127 rfl rfl ?_
     exact ⟨ret_int (fl_3 (by omega) (by omega) (by omega)), hB44⟩
   ·
    rw [hc56] at h55
    have hp128 : ep2 ≠ ep + 1 := by first | simpa using hc56 | simpa [and_assoc] using hc56
    clear hc56
    refine psk h55 rfl fun a129 h129 => ?_; clear h55
    refine psk h129 rfl fun a130 h130 => ?_; clear h129
    refine psk h130 rfl fun a131 h131 => ?_; clear h130
    refine psk h131 rfl fun a132 h132 => ?_; clear h131
    refine psk h132 rfl fun a133 h133 => ?_; clear h132
    refine pk0 (v := .bool true) h133 rfl fun a134 h134 => ?_; clear h133
    refine pl_nil ?_
    refine co_then ?_
    refine co_true h134 rfl ?_
    refine co_seq ?_
    refine co_reg ?_
    refine pk0 (v := .int .i64 18) h134 rfl fun a135 h135 => ?_; clear h134
    refine pl_nil ?_
    refine co_then ?_
    refine wp_ret ?_
    refine co_thenR ?_
    refine co_ret1 h135 rfl rfl ?_
    exact ⟨ret_int (fl_3 (by omega) (by omega) (by omega)), hB44⟩
  ·
   rw [hc43] at h42
   have hp136 : chkC ep2 ms2 ≠ 0 := by first | simpa using hc43 | simpa [and_assoc] using hc43
   clear hc43
   refine co_true h42 rfl ?_
   refine co_seq ?_
   refine co_reg ?_
   refine pk0 (v := .int .i64 (chkC ep2 ms2)) h42 rfl fun a137 h137 => ?_; clear h42
   refine pk0 (v := .int .i64 (chkC ep2 ms2)) h137 rfl fun a138 h138 => ?_; clear h137
   refine pl_nil ?_
   refine co_then ?_
   refine wp_ret ?_
   refine co_thenR ?_
   refine co_ret1 h138 rfl rfl ?_
   exact ⟨ret_int (fl_2 (by omega) (by omega)), hB44⟩
 ·
  rw [hc30] at h29
  have hp139 : chkC ep ms ≠ 0 := by first | simpa using hc30 | simpa [and_assoc] using hc30
  clear hc30
  refine co_true h29 rfl ?_
  refine co_seq ?_
  refine co_reg ?_
  refine pk0 (v := .int .i64 (chkC ep ms)) h29 rfl fun a140 h140 => ?_; clear h29
  refine pk0 (v := .int .i64 (chkC ep ms)) h140 rfl fun a141 h141 => ?_; clear h140
  refine pl_nil ?_
  refine co_then ?_
  refine wp_ret ?_
  refine co_thenR ?_
  refine co_ret1 h141 rfl rfl ?_
  exact ⟨ret_int (fl_1 (by omega)), hB31⟩
set_option maxRecDepth 100000 in
set_option maxHeartbeats 1600000 in
theorem jFollowsR_any (ep : Int) (mv : Value) (ms : List MemT) (fl : Int) (ep2 : Int) (mv2 : Value) (ms2 : List MemT) (fl2 : Int) (lv : Value) (lg : List Int) (w : World) (hs : SliceOf memE 2 w mv ms) (hmk : ∀ m ∈ ms, memOk m) (he : -9223372036854775808 ≤ ep ∧ ep ≤ 9223372036854775807) (hf : 0 ≤ fl ∧ fl < 18446744073709551616) (hs2 : SliceOf memE 2 w mv2 ms2) (hmk2 : ∀ m ∈ ms2, memOk m) (he2 : -9223372036854775808 ≤ ep2 ∧ ep2 ≤ 9223372036854775807) (hf2 : 0 ≤ fl2 ∧ fl2 < 18446744073709551616) (hlg : SliceOf (intE .i64) 1 w lv lg) :
    Calls Try.prog 14 #[.agg #[.int .i64 ep, mv, .int .u64 fl], .agg #[.int .i64 ep2, mv2, .int .u64 fl2], lv] w fun e w' => e = .returned (.int .i64 (flwJ ep ms fl ep2 ms2 fl2 lg)) ∧ Below w.heap.size w w' := by
 have hB0 := Below.refl w.heap.size w
 have hl_hs := sl_len hs
 have hl_hs2 := sl_len hs2
 have hl_hlg := sl_len hlg
 refine co_enter (n := 49) Try.func14 rfl rfl rfl [(0, .agg #[.int .i64 ep, mv, .int .u64 fl]), (1, .agg #[.int .i64 ep2, mv2, .int .u64 fl2]), (2, lv)] rfl (fun a h0 => ?_)
 refine co_seq ?_
 refine co_reg ?_
 refine pw h0 rfl (op_new (v := fun N => pt N 0) (T := 42) (cs := #[.int .i64 ep, mv, .int .u64 fl]) (by kernel_rfl) (by kernel_rfl) (by kernel_rfl)) ?_; clear h0
 rintro _ w2 a1 ⟨N3, rfl, hN6, hz7, hk5, hg4⟩ h1
 have hz8 := hg4.size
 try dsimp only at h1
 refine pw h1 rfl (op_new (v := fun N => pt N 0) (T := 42) (cs := #[.int .i64 ep2, mv2, .int .u64 fl2]) (by kernel_rfl) (by kernel_rfl) (by kernel_rfl)) ?_; clear h1
 rintro _ w10 a9 ⟨N11, rfl, hN14, hz15, hk13, hg12⟩ h9
 have hz16 := hg12.size
 try dsimp only at h9
 refine pk0 (v := .int .i64 0) h9 rfl fun a17 h17 => ?_; clear h9
 refine pl_nil ?_
 refine co_then ?_
 refine co_seq ?_
 refine co_seq ?_
 refine co_reg ?_
 have hk18 := hk5.kept hg12 (by simp)
 refine pk (v := .agg #[.int .i64 ep, mv, .int .u64 fl]) h17 rfl (rn_loadN rfl rfl Try.underlying42 rfl (by kernel_rfl) hk18.all) fun a19 h19 => ?_; clear h17
 have hn22 := chk_im (ep := ep) (ms := ms)
 have hB23 := hb_new hB0 hg4
 have hB24 := hb_new hB23 hg12
 refine pw h19 rfl (op_call (args := #[.agg #[.int .i64 ep, mv, .int .u64 fl]]) (R := fun res xw => res = .int .i64 (chkC ep ms) ∧ Below w10.heap.size w10 xw) rfl rfl rfl (by kernel_rfl) (by kernel_rfl) (Try.call34 _ _) (wrcheck_any ep mv ms fl w10 (hs.below hB24) hmk he hf) (by rintro e x ⟨rfl, hb25⟩; exact ⟨_, rfl, ⟨rfl, hb25⟩⟩)) ?_; clear h19
 rintro _ w21 a20 ⟨rfl, hb25⟩ h20
 have hz26 := hb25.size
 refine pk0 (v := .int .i64 (chkC ep ms)) h20 rfl fun a27 h27 => ?_; clear h20
 refine pl_nil ?_
 refine co_then ?_
 refine co_seq ?_
 refine co_reg ?_
 refine pk0 (v := .int .i64 (chkC ep ms)) h27 rfl fun a28 h28 => ?_; clear h27
 refine pk0 (v := .bool (chkC ep ms != 0)) h28 rfl fun a29 h29 => ?_; clear h28
 refine pl_nil ?_
 refine co_then ?_
 have hB31 := hb_call hB24 hb25
 cases hc30 : (chkC ep ms != 0)
 ·
  rw [hc30] at h29
  have hp32 : ¬ (chkC ep ms ≠ 0) := by first | simpa using hc30 | simpa [and_assoc] using hc30
  clear hc30
  refine co_false h29 rfl ?_
  refine wp_skip ?_
  refine co_then ?_
  refine co_seq ?_
  refine co_seq ?_
  refine co_reg ?_
  have hk33 := hk13.below hb25
  refine pk (v := .agg #[.int .i64 ep2, mv2, .int .u64 fl2]) h29 rfl (rn_loadN rfl rfl Try.underlying42 rfl (by kernel_rfl) hk33.all) fun a34 h34 => ?_; clear h29
  have hn37 := chk_im (ep := ep2) (ms := ms2)
  refine pw h34 rfl (op_call (args := #[.agg #[.int .i64 ep2, mv2, .int .u64 fl2]]) (R := fun res xw => res = .int .i64 (chkC ep2 ms2) ∧ Below w21.heap.size w21 xw) rfl rfl rfl (by kernel_rfl) (by kernel_rfl) (Try.call34 _ _) (wrcheck_any ep2 mv2 ms2 fl2 w21 (hs2.below hB31) hmk2 he2 hf2) (by rintro e x ⟨rfl, hb38⟩; exact ⟨_, rfl, ⟨rfl, hb38⟩⟩)) ?_; clear h34
  rintro _ w36 a35 ⟨rfl, hb38⟩ h35
  have hz39 := hb38.size
  refine pk0 (v := .int .i64 (chkC ep2 ms2)) h35 rfl fun a40 h40 => ?_; clear h35
  refine pl_nil ?_
  refine co_then ?_
  refine co_seq ?_
  refine co_reg ?_
  refine pk0 (v := .int .i64 (chkC ep2 ms2)) h40 rfl fun a41 h41 => ?_; clear h40
  refine pk0 (v := .bool (chkC ep2 ms2 != 0)) h41 rfl fun a42 h42 => ?_; clear h41
  refine pl_nil ?_
  refine co_then ?_
  have hB44 := hb_call hB31 hb38
  have hk45 := hk18.below hb25
  have hk46 := hk45.below hb38
  cases hc43 : (chkC ep2 ms2 != 0)
  ·
   rw [hc43] at h42
   have hp47 : ¬ (chkC ep2 ms2 ≠ 0) := by first | simpa using hc43 | simpa [and_assoc] using hc43
   clear hc43
   refine co_false h42 rfl ?_
   refine wp_skip ?_
   refine co_then ?_
   refine co_seq ?_
   refine co_seq ?_
   refine co_reg ?_
   refine pk0 (v := pt N11 0) h42 rfl fun a48 h48 => ?_; clear h42
   have hk49 := hk33.below hb38
   refine pk (v := .int .i64 ep2) h48 rfl (rn_load1 rfl rfl Try.isAgg3 (hk49.cell rfl)) fun a50 h50 => ?_; clear h48
   refine pk0 (v := pt N3 0) h50 rfl fun a51 h51 => ?_; clear h50
   refine pk (v := .int .i64 ep) h51 rfl (rn_load1 rfl rfl Try.isAgg3 (hk46.cell rfl)) fun a52 h52 => ?_; clear h51
   refine pk (v := .int .i64 (ep + 1)) h52 rfl (rn_arith rfl rfl rfl rfl rfl rfl (IntWalk.i64_in _ (by omega))) fun a53 h53 => ?_; clear h52
   refine pk0 (v := .bool (ep2 != ep + 1)) h53 rfl fun a54 h54 => ?_; clear h53
   refine pk0 (v := .bool (ep2 != ep + 1)) h54 rfl fun a55 h55 => ?_; clear h54
   cases hc56 : (ep2 != ep + 1)
   ·
    rw [hc56] at h55
    have hp57 : ¬ (ep2 ≠ ep + 1) := by first | simpa using hc56 | simpa [and_assoc] using hc56
    clear hc56
    refine pk0 (v := pt N11 2) h55 rfl fun a58 h58 => ?_; clear h55
    refine pk (v := .int .u64 fl2) h58 rfl (rn_load1 rfl rfl Try.isAgg23 (hk49.cell rfl)) fun a59 h59 => ?_; clear h58
    refine pk0 (v := pt N3 2) h59 rfl fun a60 h60 => ?_; clear h59
    refine pk (v := .int .u64 fl) h60 rfl (rn_load1 rfl rfl Try.isAgg23 (hk46.cell rfl)) fun a61 h61 => ?_; clear h60
    refine pk0 (v := .bool (decide (fl2 < fl))) h61 rfl fun a62 h62 => ?_; clear h61
    refine pk0 (v := .bool (decide (fl2 < fl))) h62 rfl fun a63 h63 => ?_; clear h62
    refine pl_nil ?_
    refine co_then ?_
    cases hc64 : (decide (fl2 < fl))
    ·
     rw [hc64] at h63
     have hp65 : ¬ (fl2 < fl) := of_decide_eq_false hc64
     clear hc64
     refine co_false h63 rfl ?_
     refine wp_skip ?_
     refine co_then ?_
     refine co_seq ?_
     refine co_seq ?_
     refine dr_gen (fun x => Below w.heap.size w x ∧ Blk x N3 42 #[.int .i64 ep, mv, .int .u64 fl] ∧ Blk x N11 42 #[.int .i64 ep2, mv2, .int .u64 fl2]) (by kernel_rfl) (fun w66 hg67 => ?_) (fun w66 hg67 => ?_)
     ·
      have hz68 := hg67.size
      have hB69 := hb_new hB44 hg67
      have hk70 := hk46.kept hg67 (by simp)
      have hk71 := hk49.kept hg67 (by simp)
      exact ⟨hB69, hk70, hk71⟩
     have hz72 := hg67.size
     have hB73 := hb_new hB44 hg67
     have hk74 := hk46.kept hg67 (by simp)
     have hk75 := hk49.kept hg67 (by simp)
     refine dk 0 (v := .agg #[.int .i64 ep, mv, .int .u64 fl]) h63 rfl rfl ⟨hB73, hk74, hk75⟩ (fun x hx => (rn_loadN rfl rfl Try.underlying42 rfl (by kernel_rfl) hx.2.1.all)) fun a76 h76 => ?_; clear h63
     refine dk0 1 (v := pt N11 1) h76 rfl rfl ⟨hB73, hk74, hk75⟩ fun a77 h77 => ?_; clear h76
     refine dk 2 (v := mv2) h77 rfl rfl ⟨hB73, hk74, hk75⟩ (fun x hx => (rn_load1 rfl rfl Try.isAgg40 (hx.2.2.cell rfl))) fun a78 h78 => ?_; clear h77
     obtain ⟨y79, hy79⟩ : ∃ z, ms2[0]? = some z := ⟨_, List.getElem?_eq_getElem (by first | omega | (simp; done) | (simp; omega))⟩
     refine dk 3 (v := pt (blkOf mv2) (offOf mv2 + 0 * 2)) h78 rfl rfl ⟨hB73, hk74, hk75⟩ (fun x hx => (rn_index rfl rfl rfl Try.underlying40 Try.sizeOf80 (hs2.below hx.1) (by omega) (by first | omega | (simp; done) | (simp; omega)))) fun a80 h80 => ?_; clear h78
     refine dk 4 (v := .agg #[.int .i64 y79.1, .int .i64 y79.2]) h80 rfl rfl ⟨hB73, hk74, hk75⟩ (fun x hx => (rn_loadN rfl rfl Try.underlying80 rfl (by kernel_rfl) (sl_at (hs2.below hx.1) hy79))) fun a81 h81 => ?_; clear h80
     refine d1 5 h81 rfl rfl (op_call (args := #[.agg #[.int .i64 ep, mv, .int .u64 fl], .agg #[.int .i64 y79.1, .int .i64 y79.2]]) (R := fun res xw => ∃ j : Int, res = .int .i64 j ∧ decide (j ≥ 0) = plB ms y79 ∧ Below w66.heap.size w66 xw) rfl rfl rfl (by kernel_rfl) (by kernel_rfl) (Try.call35 _ _) (jPlaceR_any ep mv ms fl y79 w66 (hs.below hB73)) (by rintro e x ⟨j, rfl, hq85, hb86⟩; exact ⟨_, rfl, ⟨j, rfl, hq85, hb86⟩⟩)) ?_ ?_; clear h81
     ·
      rintro _ w83 ⟨j84, rfl, hq85, hb86⟩
      have hz87 := hb86.size
      have hB88 := hb_call hB73 hb86
      have hk89 := hk74.below hb86
      have hk90 := hk75.below hb86
      exact ⟨hB88, hk89, hk90⟩
     rintro _ w83 a82 ⟨j84, rfl, hq85, hb86⟩ h82
     have hz87 := hb86.size
     have hB88 := hb_call hB73 hb86
     have hk89 := hk74.below hb86
     have hk90 := hk75.below hb86
     refine dk0 6 (v := .bool (decide (j84 < 0))) h82 rfl rfl ⟨hB88, hk89, hk90⟩ fun a91 h91 => ?_; clear h82
     refine dk0 7 (v := .bool (decide (j84 < 0))) h91 rfl rfl ⟨hB88, hk89, hk90⟩ fun a92 h92 => ?_; clear h91
     cases hc93 : (decide (j84 < 0))
     ·
      rw [hc93] at h92
      have hp94 : ¬ (j84 < 0) := of_decide_eq_false hc93
      clear hc93
      refine dk0 8 (v := lv) h92 rfl rfl ⟨hB88, hk89, hk90⟩ fun a95 h95 => ?_; clear h92
      refine dk0 9 (v := pt N11 1) h95 rfl rfl ⟨hB88, hk89, hk90⟩ fun a96 h96 => ?_; clear h95
      refine dk 10 (v := mv2) h96 rfl rfl ⟨hB88, hk89, hk90⟩ (fun x hx => (rn_load1 rfl rfl Try.isAgg40 (hx.2.2.cell rfl))) fun a97 h97 => ?_; clear h96
      refine dk 11 (v := pt (blkOf mv2) (offOf mv2 + 0 * 2)) h97 rfl rfl ⟨hB88, hk89, hk90⟩ (fun x hx => (rn_index rfl rfl rfl Try.underlying40 Try.sizeOf80 (hs2.below hx.1) (by omega) (by first | omega | (simp; done) | (simp; omega)))) fun a98 h98 => ?_; clear h97
      refine dk0 12 (v := pt (blkOf mv2) (offOf mv2 + 0 * 2)) h98 rfl rfl ⟨hB88, hk89, hk90⟩ fun a99 h99 => ?_; clear h98
      refine dk 13 (v := .int .i64 y79.1) h99 rfl rfl ⟨hB88, hk89, hk90⟩ (fun x hx => (rn_load1 rfl rfl Try.isAgg3 ((sl_at (hs2.below hx.1) hy79) 0 _ rfl))) fun a100 h100 => ?_; clear h99
      refine d1 14 h100 rfl rfl (op_call (args := #[lv, .int .i64 y79.1]) (R := fun res xw => res = .bool (inL lg y79.1) ∧ Below w83.heap.size w83 xw) rfl rfl rfl (by kernel_rfl) (by kernel_rfl) (Try.call36 _ _) (in_any lv lg y79.1 w83 (hlg.below hB88)) (by rintro e x ⟨rfl, hb103⟩; exact ⟨_, rfl, ⟨rfl, hb103⟩⟩)) ?_ ?_; clear h100
      ·
       rintro _ w102 ⟨rfl, hb103⟩
       have hz104 := hb103.size
       have hB105 := hb_call hB88 hb103
       have hk106 := hk89.below hb103
       have hk107 := hk90.below hb103
       exact ⟨hB105, hk106, hk107⟩
      rintro _ w102 a101 ⟨rfl, hb103⟩ h101
      have hz104 := hb103.size
      have hB105 := hb_call hB88 hb103
      have hk106 := hk89.below hb103
      have hk107 := hk90.below hb103
      cases hc108 : (inL lg y79.1)
      ·
       rw [hc108] at h101
       refine dk0 15 (v := .bool true) h101 rfl rfl ⟨hB105, hk106, hk107⟩ fun a109 h109 => ?_; clear h101
       refine dk0 16 (v := .bool true) h109 rfl rfl ⟨hB105, hk106, hk107⟩ fun a110 h110 => ?_; clear h109
       refine dr_done (by kernel_rfl) ?_
       refine co_then ?_
       refine co_true h110 rfl ?_
       refine co_seq ?_
       refine co_reg ?_
       refine pk0 (v := .int .i64 7) h110 rfl fun a111 h111 => ?_; clear h110
       refine pl_nil ?_
       refine co_then ?_
       refine wp_ret ?_
       refine co_thenR ?_
       refine co_ret1 h111 rfl rfl ?_
       exact ⟨ret_int (fl_4 (by omega) (by omega) (by omega) hy79 (by first | exact .inl (plN hq85 (by omega)) | exact .inr (by first | assumption | (have hq := (by assumption : inL lg (headI ms2) = false); rwa [hdI hy79] at hq)))), hB105⟩
      ·
       rw [hc108] at h101
       refine dk0 15 (v := .bool false) h101 rfl rfl ⟨hB105, hk106, hk107⟩ fun a112 h112 => ?_; clear h101
       refine dk0 16 (v := .bool false) h112 rfl rfl ⟨hB105, hk106, hk107⟩ fun a113 h113 => ?_; clear h112
       refine dr_done (by kernel_rfl) ?_
       refine co_then ?_
       refine co_false h113 rfl ?_
       refine wp_skip ?_
       refine co_then ?_
       refine co_seq ?_
       refine co_reg ?_
       refine pk0 (v := .int .i64 0) h113 rfl fun a114 h114 => ?_; clear h113
       refine pl_nil ?_
       refine co_then ?_
       refine wp_ret ?_
       refine co_ret1 h114 rfl rfl ?_
       exact ⟨ret_int (fl_5 (by omega) (by omega) (by omega) hy79 (plY hq85 (by omega)) (by first | assumption | (have hq := (by assumption : inL lg (headI ms2) = true); rwa [hdI hy79] at hq))), hB105⟩
     ·
      rw [hc93] at h92
      have hp115 : j84 < 0 := of_decide_eq_true hc93
      clear hc93
      refine dsk 8 h92 rfl rfl ⟨hB88, hk89, hk90⟩ fun a116 h116 => ?_; clear h92
      refine dsk 9 h116 rfl rfl ⟨hB88, hk89, hk90⟩ fun a117 h117 => ?_; clear h116
      refine dsk 10 h117 rfl rfl ⟨hB88, hk89, hk90⟩ fun a118 h118 => ?_; clear h117
      refine dsk 11 h118 rfl rfl ⟨hB88, hk89, hk90⟩ fun a119 h119 => ?_; clear h118
      refine dsk 12 h119 rfl rfl ⟨hB88, hk89, hk90⟩ fun a120 h120 => ?_; clear h119
      refine dsk 13 h120 rfl rfl ⟨hB88, hk89, hk90⟩ fun a121 h121 => ?_; clear h120
      refine dsk 14 h121 rfl rfl ⟨hB88, hk89, hk90⟩ fun a122 h122 => ?_; clear h121
      refine dsk 15 h122 rfl rfl ⟨hB88, hk89, hk90⟩ fun a123 h123 => ?_; clear h122
      refine dk0 16 (v := .bool true) h123 rfl rfl ⟨hB88, hk89, hk90⟩ fun a124 h124 => ?_; clear h123
      refine dr_done (by kernel_rfl) ?_
      refine co_then ?_
      refine co_true h124 rfl ?_
      refine co_seq ?_
      refine co_reg ?_
      refine pk0 (v := .int .i64 7) h124 rfl fun a125 h125 => ?_; clear h124
      refine pl_nil ?_
      refine co_then ?_
      refine wp_ret ?_
      refine co_thenR ?_
      refine co_ret1 h125 rfl rfl ?_
      exact ⟨ret_int (fl_4 (by omega) (by omega) (by omega) hy79 (by first | exact .inl (plN hq85 (by omega)) | exact .inr (by first | assumption | (have hq := (by assumption : inL lg (headI ms2) = false); rwa [hdI hy79] at hq)))), hB88⟩
    ·
     rw [hc64] at h63
     have hp126 : fl2 < fl := of_decide_eq_true hc64
     clear hc64
     refine co_true h63 rfl ?_
     refine co_seq ?_
     refine co_reg ?_
     refine pk0 (v := .int .i64 18) h63 rfl fun a127 h127 => ?_; clear h63
     refine pl_nil ?_
     refine co_then ?_
     refine wp_ret ?_
     refine co_thenR ?_
     refine co_ret1 h127 rfl rfl ?_
     exact ⟨ret_int (fl_3 (by omega) (by omega) (by omega)), hB44⟩
   ·
    rw [hc56] at h55
    have hp128 : ep2 ≠ ep + 1 := by first | simpa using hc56 | simpa [and_assoc] using hc56
    clear hc56
    refine psk h55 rfl fun a129 h129 => ?_; clear h55
    refine psk h129 rfl fun a130 h130 => ?_; clear h129
    refine psk h130 rfl fun a131 h131 => ?_; clear h130
    refine psk h131 rfl fun a132 h132 => ?_; clear h131
    refine psk h132 rfl fun a133 h133 => ?_; clear h132
    refine pk0 (v := .bool true) h133 rfl fun a134 h134 => ?_; clear h133
    refine pl_nil ?_
    refine co_then ?_
    refine co_true h134 rfl ?_
    refine co_seq ?_
    refine co_reg ?_
    refine pk0 (v := .int .i64 18) h134 rfl fun a135 h135 => ?_; clear h134
    refine pl_nil ?_
    refine co_then ?_
    refine wp_ret ?_
    refine co_thenR ?_
    refine co_ret1 h135 rfl rfl ?_
    exact ⟨ret_int (fl_3 (by omega) (by omega) (by omega)), hB44⟩
  ·
   rw [hc43] at h42
   have hp136 : chkC ep2 ms2 ≠ 0 := by first | simpa using hc43 | simpa [and_assoc] using hc43
   clear hc43
   refine co_true h42 rfl ?_
   refine co_seq ?_
   refine co_reg ?_
   refine pk0 (v := .int .i64 (chkC ep2 ms2)) h42 rfl fun a137 h137 => ?_; clear h42
   refine pk0 (v := .int .i64 (chkC ep2 ms2)) h137 rfl fun a138 h138 => ?_; clear h137
   refine pl_nil ?_
   refine co_then ?_
   refine wp_ret ?_
   refine co_thenR ?_
   refine co_ret1 h138 rfl rfl ?_
   exact ⟨ret_int (fl_2 (by omega) (by omega)), hB44⟩
 ·
  rw [hc30] at h29
  have hp139 : chkC ep ms ≠ 0 := by first | simpa using hc30 | simpa [and_assoc] using hc30
  clear hc30
  refine co_true h29 rfl ?_
  refine co_seq ?_
  refine co_reg ?_
  refine pk0 (v := .int .i64 (chkC ep ms)) h29 rfl fun a140 h140 => ?_; clear h29
  refine pk0 (v := .int .i64 (chkC ep ms)) h140 rfl fun a141 h141 => ?_; clear h140
  refine pl_nil ?_
  refine co_then ?_
  refine wp_ret ?_
  refine co_thenR ?_
  refine co_ret1 h141 rfl rfl ?_
  exact ⟨ret_int (fl_1 (by omega)), hB31⟩
end Go.Proofs.Ytdgboikkgeioeaa

/- catenalaw38: JudgeFollows. Conditions: none. -/
namespace Go.Proofs.Ytdgboikkgeioeaa
open Go.RowKit Go.PlainAid
set_option linter.unusedVariables false
set_option linter.unusedSimpArgs false


/-- What is made next may come behind. -/
theorem next_flw {ep fl last : Int} {ms js : List MemT} {lg gn : List Int} (h : nextE ep ms lg gn js = 0) (hf : 0 ≤ fl ∧ fl < 18446744073709551616) (hl : 0 ≤ last ∧ last < 18446744073709551616) : flwJ ep ms fl (nextEp ep ms lg gn js) (nextM ep ms lg gn js) (nextFl ep ms fl lg gn js last) lg = 0 := by
  have h1 := (nextE_of0 h).1
  have h2 := head_chk h
  have hp := chk_ne (ep := nextEp ep ms lg gn js) (ms := nextM ep ms lg gn js) (by omega)
  obtain ⟨y, hy⟩ : ∃ y, (nextM ep ms lg gn js)[0]? = some y := ⟨_, List.getElem?_eq_getElem hp⟩
  have hi := head_in h
  rw [hdI hy] at hi
  have hm := (head_mem h hy).1 hi
  exact (fl_5 (by omega) (by omega) (by have := next_ep h; have := next_fl h hf hl; omega) hy hm.1 hm.2.1).symm

set_option maxRecDepth 100000 in
set_option maxHeartbeats 3200000 in
theorem judgeFollows_any (ep : Int) (mv : Value) (ms : List MemT) (fl : Int) (ep2 : Int) (mv2 : Value) (ms2 : List MemT) (fl2 : Int) (lv : Value) (lg : List Int) (gv : Value) (gn : List Int) (jv : Value) (js : List MemT) (last : Int) (w : World) (hs : SliceOf memE 2 w mv ms) (hmk : ∀ z ∈ ms, memOk z) (he : -9223372036854775808 ≤ ep ∧ ep ≤ 9223372036854775807) (hf : 0 ≤ fl ∧ fl < 18446744073709551616) (hs2 : SliceOf memE 2 w mv2 ms2) (hmk2 : ∀ z ∈ ms2, memOk z) (he2 : -9223372036854775808 ≤ ep2 ∧ ep2 ≤ 9223372036854775807) (hf2 : 0 ≤ fl2 ∧ fl2 < 18446744073709551616) (hlg : SliceOf (intE .i64) 1 w lv lg) (hgn : SliceOf (intE .i64) 1 w gv gn) (hjs : SliceOf memE 2 w jv js) (hjk : ∀ z ∈ js, memOk z) (hla : 0 ≤ last ∧ last < 18446744073709551616) :
    Calls Try.prog 4 #[.agg #[.int .i64 ep, mv, .int .u64 fl], .agg #[.int .i64 ep2, mv2, .int .u64 fl2], lv, gv, jv, .int .u64 last] w fun e w' => e = .returned (.bool true) ∧ Below w.heap.size w w' := by
 have hB0 := Below.refl w.heap.size w
 have hl_hs := sl_len hs
 have hl_hs2 := sl_len hs2
 have hl_hlg := sl_len hlg
 have hl_hgn := sl_len hgn
 have hl_hjs := sl_len hjs
 refine co_enter (n := 73) Try.func4 rfl rfl rfl [(0, .agg #[.int .i64 ep, mv, .int .u64 fl]), (1, .agg #[.int .i64 ep2, mv2, .int .u64 fl2]), (2, lv), (3, gv), (4, jv), (5, .int .u64 last)] rfl (fun a h0 => ?_)
 refine co_seq ?_
 refine co_reg ?_
 refine pw h0 rfl (op_new (v := fun N => pt N 0) (T := 42) (cs := #[.int .i64 ep, mv, .int .u64 fl]) (by kernel_rfl) (by kernel_rfl) (by kernel_rfl)) ?_; clear h0
 rintro _ w2 a1 ⟨N3, rfl, hN6, hz7, hk5, hg4⟩ h1
 have hz8 := hg4.size
 try dsimp only at h1
 refine pw h1 rfl (op_new (v := fun N => pt N 0) (T := 42) (cs := #[.int .i64 ep2, mv2, .int .u64 fl2]) (by kernel_rfl) (by kernel_rfl) (by kernel_rfl)) ?_; clear h1
 rintro _ w10 a9 ⟨N11, rfl, hN14, hz15, hk13, hg12⟩ h9
 have hz16 := hg12.size
 try dsimp only at h9
 refine pk0 (v := .bool false) h9 rfl fun a17 h17 => ?_; clear h9
 refine pl_nil ?_
 refine co_then ?_
 refine co_seq ?_
 refine co_seq ?_
 refine co_reg ?_
 refine pk0 (v := pt N3 1) h17 rfl fun a18 h18 => ?_; clear h17
 have hk19 := hk5.kept hg12 (by simp)
 refine pk (v := mv) h18 rfl (rn_load1 rfl rfl Try.isAgg40 (hk19.cell rfl)) fun a20 h20 => ?_; clear h18
 have hB21 := hb_new hB0 hg4
 have hB22 := hb_new hB21 hg12
 refine pk (v := .int .i64 ((ms.length : Nat) : Int)) h20 rfl (rn_len rfl rfl Try.underlying40 (hs.below hB22)) fun a23 h23 => ?_; clear h20
 refine pk0 (v := .bool (decide (((ms.length : Nat) : Int) > 20))) h23 rfl fun a24 h24 => ?_; clear h23
 refine pk0 (v := .bool (decide (((ms.length : Nat) : Int) > 20))) h24 rfl fun a25 h25 => ?_; clear h24
 cases hc26 : (decide (((ms.length : Nat) : Int) > 20))
 ·
  rw [hc26] at h25
  have hp27 : ¬ (((ms.length : Nat) : Int) > 20) := of_decide_eq_false hc26
  clear hc26
  refine pk0 (v := pt N11 1) h25 rfl fun a28 h28 => ?_; clear h25
  refine pk (v := mv2) h28 rfl (rn_load1 rfl rfl Try.isAgg40 (hk13.cell rfl)) fun a29 h29 => ?_; clear h28
  refine pk (v := .int .i64 ((ms2.length : Nat) : Int)) h29 rfl (rn_len rfl rfl Try.underlying40 (hs2.below hB22)) fun a30 h30 => ?_; clear h29
  refine pk0 (v := .bool (decide (((ms2.length : Nat) : Int) > 20))) h30 rfl fun a31 h31 => ?_; clear h30
  refine pk0 (v := .bool (decide (((ms2.length : Nat) : Int) > 20))) h31 rfl fun a32 h32 => ?_; clear h31
  refine pk0 (v := .bool (decide (((ms2.length : Nat) : Int) > 20))) h32 rfl fun a33 h33 => ?_; clear h32
  cases hc34 : (decide (((ms2.length : Nat) : Int) > 20))
  ·
   rw [hc34] at h33
   have hp35 : ¬ (((ms2.length : Nat) : Int) > 20) := of_decide_eq_false hc34
   clear hc34
   refine pk0 (v := lv) h33 rfl fun a36 h36 => ?_; clear h33
   refine pk (v := .int .i64 ((lg.length : Nat) : Int)) h36 rfl (rn_len rfl rfl Try.underlying43 (hlg.below hB22)) fun a37 h37 => ?_; clear h36
   refine pk0 (v := .bool (decide (((lg.length : Nat) : Int) > 20))) h37 rfl fun a38 h38 => ?_; clear h37
   refine pk0 (v := .bool (decide (((lg.length : Nat) : Int) > 20))) h38 rfl fun a39 h39 => ?_; clear h38
   refine pk0 (v := .bool (decide (((lg.length : Nat) : Int) > 20))) h39 rfl fun a40 h40 => ?_; clear h39
   cases hc41 : (decide (((lg.length : Nat) : Int) > 20))
   ·
    rw [hc41] at h40
    have hp42 : ¬ (((lg.length : Nat) : Int) > 20) := of_decide_eq_false hc41
    clear hc41
    refine pk0 (v := gv) h40 rfl fun a43 h43 => ?_; clear h40
    refine pk (v := .int .i64 ((gn.length : Nat) : Int)) h43 rfl (rn_len rfl rfl Try.underlying43 (hgn.below hB22)) fun a44 h44 => ?_; clear h43
    refine pk0 (v := .bool (decide (((gn.length : Nat) : Int) > 20))) h44 rfl fun a45 h45 => ?_; clear h44
    refine pk0 (v := .bool (decide (((gn.length : Nat) : Int) > 20))) h45 rfl fun a46 h46 => ?_; clear h45
    refine pk0 (v := .bool (decide (((gn.length : Nat) : Int) > 20))) h46 rfl fun a47 h47 => ?_; clear h46
    cases hc48 : (decide (((gn.length : Nat) : Int) > 20))
    ·
     rw [hc48] at h47
     have hp49 : ¬ (((gn.length : Nat) : Int) > 20) := of_decide_eq_false hc48
     clear hc48
     refine pk0 (v := jv) h47 rfl fun a50 h50 => ?_; clear h47
     refine pk (v := .int .i64 ((js.length : Nat) : Int)) h50 rfl (rn_len rfl rfl Try.underlying40 (hjs.below hB22)) fun a51 h51 => ?_; clear h50
     refine pk0 (v := .bool (decide (((js.length : Nat) : Int) > 20))) h51 rfl fun a52 h52 => ?_; clear h51
     refine pk0 (v := .bool (decide (((js.length : Nat) : Int) > 20))) h52 rfl fun a53 h53 => ?_; clear h52
     refine pl_nil ?_
     refine co_then ?_
     cases hc54 : (decide (((js.length : Nat) : Int) > 20))
     ·
      rw [hc54] at h53
      have hp55 : ¬ (((js.length : Nat) : Int) > 20) := of_decide_eq_false hc54
      clear hc54
      refine co_false h53 rfl ?_
      refine wp_skip ?_
      refine co_then ?_
      refine co_seq ?_
      refine co_seq ?_
      refine dr_gen (fun x => Below w.heap.size w x ∧ Blk x N3 42 #[.int .i64 ep, mv, .int .u64 fl] ∧ Blk x N11 42 #[.int .i64 ep2, mv2, .int .u64 fl2]) (by kernel_rfl) (fun w56 hg57 => ?_) (fun w56 hg57 => ?_)
      ·
       have hz58 := hg57.size
       have hB59 := hb_new hB22 hg57
       have hk60 := hk19.kept hg57 (by simp)
       have hk61 := hk13.kept hg57 (by simp)
       exact ⟨hB59, hk60, hk61⟩
      have hz62 := hg57.size
      have hB63 := hb_new hB22 hg57
      have hk64 := hk19.kept hg57 (by simp)
      have hk65 := hk13.kept hg57 (by simp)
      refine dk 0 (v := .agg #[.int .i64 ep, mv, .int .u64 fl]) h53 rfl rfl ⟨hB63, hk64, hk65⟩ (fun x hx => (rn_loadN rfl rfl Try.underlying42 rfl (by kernel_rfl) hx.2.1.all)) fun a66 h66 => ?_; clear h53
      refine dk 1 (v := .agg #[.int .i64 ep2, mv2, .int .u64 fl2]) h66 rfl rfl ⟨hB63, hk64, hk65⟩ (fun x hx => (rn_loadN rfl rfl Try.underlying42 rfl (by kernel_rfl) hx.2.2.all)) fun a67 h67 => ?_; clear h66
      refine dk0 2 (v := lv) h67 rfl rfl ⟨hB63, hk64, hk65⟩ fun a68 h68 => ?_; clear h67
      refine dk 4 (v := .agg #[.int .i64 ep, mv, .int .u64 fl]) h68 rfl rfl ⟨hB63, hk64, hk65⟩ (fun x hx => (rn_loadN rfl rfl Try.underlying42 rfl (by kernel_rfl) hx.2.1.all)) fun a69 h69 => ?_; clear h68
      refine dk 5 (v := .agg #[.int .i64 ep2, mv2, .int .u64 fl2]) h69 rfl rfl ⟨hB63, hk64, hk65⟩ (fun x hx => (rn_loadN rfl rfl Try.underlying42 rfl (by kernel_rfl) hx.2.2.all)) fun a70 h70 => ?_; clear h69
      refine dk0 6 (v := lv) h70 rfl rfl ⟨hB63, hk64, hk65⟩ fun a71 h71 => ?_; clear h70
      refine d1 3 h71 rfl rfl (op_call (args := #[.agg #[.int .i64 ep, mv, .int .u64 fl], .agg #[.int .i64 ep2, mv2, .int .u64 fl2], lv]) (R := fun res xw => res = .int .i64 (flwJ ep ms fl ep2 ms2 fl2 lg) ∧ Below w56.heap.size w56 xw) rfl rfl rfl (by kernel_rfl) (by kernel_rfl) (Try.call13 _ _) (jFollows_any ep mv ms fl ep2 mv2 ms2 fl2 lv lg w56 (hs.below hB63) hmk he hf (hs2.below hB63) hmk2 he2 hf2 (hlg.below hB63)) (by rintro e x ⟨rfl, hb74⟩; exact ⟨_, rfl, ⟨rfl, hb74⟩⟩)) ?_ ?_; clear h71
      ·
       rintro _ w73 ⟨rfl, hb74⟩
       have hz75 := hb74.size
       have hB76 := hb_call hB63 hb74
       have hk77 := hk64.below hb74
       have hk78 := hk65.below hb74
       exact ⟨hB76, hk77, hk78⟩
      rintro _ w73 a72 ⟨rfl, hb74⟩ h72
      have hz75 := hb74.size
      have hB76 := hb_call hB63 hb74
      have hk77 := hk64.below hb74
      have hk78 := hk65.below hb74
      refine d1 7 h72 rfl rfl (op_call (args := #[.agg #[.int .i64 ep, mv, .int .u64 fl], .agg #[.int .i64 ep2, mv2, .int .u64 fl2], lv]) (R := fun res xw => res = .int .i64 (flwJ ep ms fl ep2 ms2 fl2 lg) ∧ Below w73.heap.size w73 xw) rfl rfl rfl (by kernel_rfl) (by kernel_rfl) (Try.call14 _ _) (jFollowsR_any ep mv ms fl ep2 mv2 ms2 fl2 lv lg w73 (hs.below hB76) hmk he hf (hs2.below hB76) hmk2 he2 hf2 (hlg.below hB76)) (by rintro e x ⟨rfl, hb81⟩; exact ⟨_, rfl, ⟨rfl, hb81⟩⟩)) ?_ ?_; clear h72
      ·
       rintro _ w80 ⟨rfl, hb81⟩
       have hz82 := hb81.size
       have hB83 := hb_call hB76 hb81
       have hk84 := hk77.below hb81
       have hk85 := hk78.below hb81
       exact ⟨hB83, hk84, hk85⟩
      rintro _ w80 a79 ⟨rfl, hb81⟩ h79
      have hz82 := hb81.size
      have hB83 := hb_call hB76 hb81
      have hk84 := hk77.below hb81
      have hk85 := hk78.below hb81
      refine dk0 8 (v := .bool (flwJ ep ms fl ep2 ms2 fl2 lg != flwJ ep ms fl ep2 ms2 fl2 lg)) h79 rfl rfl ⟨hB83, hk84, hk85⟩ fun a86 h86 => ?_; clear h79
      refine dr_done (by kernel_rfl) ?_
      refine co_then ?_
      have hc87 : (flwJ ep ms fl ep2 ms2 fl2 lg != flwJ ep ms fl ep2 ms2 fl2 lg) = false := by first | (simp; done) | (simp; omega) | exact beq_false_of_ne (by omega) | exact beq_iff_eq.2 (by omega)
      rw [hc87] at h86; clear hc87
      refine co_false h86 rfl ?_
      refine wp_skip ?_
      refine co_then ?_
      refine co_seq ?_
      refine co_reg ?_
      refine pk (v := .agg #[.int .i64 ep, mv, .int .u64 fl]) h86 rfl (rn_loadN rfl rfl Try.underlying42 rfl (by kernel_rfl) hk84.all) fun a88 h88 => ?_; clear h86
      refine pk0 (v := lv) h88 rfl fun a89 h89 => ?_; clear h88
      refine pk0 (v := gv) h89 rfl fun a90 h90 => ?_; clear h89
      refine pk0 (v := jv) h90 rfl fun a91 h91 => ?_; clear h90
      refine pk0 (v := .int .u64 last) h91 rfl fun a92 h92 => ?_; clear h91
      refine pw h92 rfl (op_call (args := #[.agg #[.int .i64 ep, mv, .int .u64 fl], lv, gv, jv, .int .u64 last]) (R := fun res xw => ∃ u : Value, ∃ t : Value, res = .tuple #[.agg #[.int .i64 (nextEp ep ms lg gn js), u, .int .u64 (nextFl ep ms fl lg gn js last)], t, .int .i64 (nextE ep ms lg gn js)] ∧ xw.ownsRow w80.heap.size 80 2 u (nextM ep ms lg gn js).length ((nextM ep ms lg gn js).flatMap memE) ∧ xw.ownsRow w80.heap.size 3 1 t (nextT ep ms lg gn js).length ((nextT ep ms lg gn js).flatMap (intE .i64)) ∧ Below w80.heap.size w80 xw) rfl rfl rfl (by kernel_rfl) (by kernel_rfl) (Try.call15 _ _) (next_any ep mv ms fl lv lg gv gn jv js last w80 (hs.below hB83) hmk (hlg.below hB83) (hgn.below hB83) (hjs.below hB83) hjk (by first | omega | (simp; done) | (simp; omega)) (by first | omega | (simp; done) | (simp; omega)) (by first | omega | (simp; done) | (simp; omega)) (by omega)) (by rintro e x ⟨u, t, rfl, hq97, hq98, hb99⟩; exact ⟨_, rfl, ⟨u, t, rfl, hq97, hq98, hb99⟩⟩)) ?_; clear h92
      rintro _ w94 a93 ⟨u95, t96, rfl, hq97, hq98, hb99⟩ h93
      have hz100 := hb99.size
      have hl101 := sl_len (row_sl hq97 memE_len)
      have hl102 := sl_len (row_sl hq98 (intE_len .i64))
      refine pk0 (v := .tuple #[.agg #[.int .i64 (nextEp ep ms lg gn js), u95, .int .u64 (nextFl ep ms fl lg gn js last)], t96, .int .i64 (nextE ep ms lg gn js)]) h93 rfl fun a103 h103 => ?_; clear h93
      refine pk0 (v := .agg #[.int .i64 (nextEp ep ms lg gn js), u95, .int .u64 (nextFl ep ms fl lg gn js last)]) h103 rfl fun a104 h104 => ?_; clear h103
      refine pk0 (v := t96) h104 rfl fun a105 h105 => ?_; clear h104
      refine pk0 (v := .int .i64 (nextE ep ms lg gn js)) h105 rfl fun a106 h106 => ?_; clear h105
      refine pw h106 rfl (op_new (v := fun N => pt N 0) (T := 42) (cs := #[.int .i64 0, .slice none 0 0, .int .u64 0]) (by kernel_rfl) (by kernel_rfl) (by kernel_rfl)) ?_; clear h106
      rintro _ w108 a107 ⟨N109, rfl, hN112, hz113, hk111, hg110⟩ h107
      have ha114 := row_fresh hq97 hN112
      have ha115 := row_fresh hq98 hN112
      have hz116 := hg110.size
      try dsimp only at h107
      have hr122 := row_kept_new hq97 hg110
      refine pwD h107 rfl (op_storeN rfl rfl rfl (all_cons rfl (all_cons (row_one hr122) (all_cons rfl all_nil))) (by kernel_rfl) hk111 rfl) ?_; clear h107
      rintro _ w118 a117 ⟨hk119, hz120, hg121⟩ h117
      have hk119' : Blk w118 N109 42 #[.int .i64 (nextEp ep ms lg gn js), u95, .int .u64 (nextFl ep ms fl lg gn js last)] := hk119; clear hk119
      have hz123 := hg121.size
      refine pk0 (v := t96) h117 rfl fun a124 h124 => ?_; clear h117
      refine pk0 (v := .int .i64 (nextE ep ms lg gn js)) h124 rfl fun a125 h125 => ?_; clear h124
      refine pl_nil ?_
      refine co_then ?_
      refine co_seq ?_
      refine co_reg ?_
      refine pk0 (v := .int .i64 (nextE ep ms lg gn js)) h125 rfl fun a126 h126 => ?_; clear h125
      refine pk0 (v := .bool (nextE ep ms lg gn js != 0)) h126 rfl fun a127 h127 => ?_; clear h126
      refine pk0 (v := .bool (nextE ep ms lg gn js != 0)) h127 rfl fun a128 h128 => ?_; clear h127
      have hB130 := hb_call hB83 hb99
      have hB131 := hb_new hB130 hg110
      have hB132 := hb_at hB131 hg121 (by omega)
      have hk133 := hk84.below hb99
      have hk134 := hk133.kept hg110 (by simp)
      have hk135 := hk134.kept hg121 (by simp; omega)
      have hk136 := hk85.below hb99
      have hk137 := hk136.kept hg110 (by simp)
      have hk138 := hk137.kept hg121 (by simp; omega)
      have hr139 := row_kept_new hq98 hg110
      have hr140 := row_kept_at hr139 hg121 (ha115)
      cases hc129 : (nextE ep ms lg gn js != 0)
      ·
       rw [hc129] at h128
       have hp141 : ¬ (nextE ep ms lg gn js ≠ 0) := by first | simpa using hc129 | simpa [and_assoc] using hc129
       clear hc129
       refine pk (v := .agg #[.int .i64 ep, mv, .int .u64 fl]) h128 rfl (rn_loadN rfl rfl Try.underlying42 rfl (by kernel_rfl) hk135.all) fun a142 h142 => ?_; clear h128
       refine pk (v := .agg #[.int .i64 (nextEp ep ms lg gn js), u95, .int .u64 (nextFl ep ms fl lg gn js last)]) h142 rfl (rn_loadN rfl rfl Try.underlying42 rfl (by kernel_rfl) hk119'.all) fun a143 h143 => ?_; clear h142
       refine pk0 (v := lv) h143 rfl fun a144 h144 => ?_; clear h143
       have hbd := nextEp_bd (ep := ep) (ms := ms) (lg := lg) (gn := gn) (js := js)
       have hr147 := row_kept_at hr122 hg121 (ha114)
       refine pw h144 rfl (op_call (args := #[.agg #[.int .i64 ep, mv, .int .u64 fl], .agg #[.int .i64 (nextEp ep ms lg gn js), u95, .int .u64 (nextFl ep ms fl lg gn js last)], lv]) (R := fun res xw => res = .int .i64 (flwJ ep ms fl (nextEp ep ms lg gn js) (nextM ep ms lg gn js) (nextFl ep ms fl lg gn js last) lg) ∧ Below w118.heap.size w118 xw) rfl rfl rfl (by kernel_rfl) (by kernel_rfl) (Try.call13 _ _) (jFollows_any ep mv ms fl (nextEp ep ms lg gn js) u95 (nextM ep ms lg gn js) (nextFl ep ms fl lg gn js last) lv lg w118 (hs.below hB132) hmk he hf (row_sl hr147 memE_len) (nextM_ok hmk hjk) (by have := hbd; omega) (nextFl_bd hf hla) (hlg.below hB132)) (by rintro e x ⟨rfl, hb148⟩; exact ⟨_, rfl, ⟨rfl, hb148⟩⟩)) ?_; clear h144
       rintro _ w146 a145 ⟨rfl, hb148⟩ h145
       have hz149 := hb148.size
       have hfw : flwJ ep ms fl (nextEp ep ms lg gn js) (nextM ep ms lg gn js) (nextFl ep ms fl lg gn js last) lg = 0 := next_flw (by omega) hf hla
       refine pk0 (v := .bool (flwJ ep ms fl (nextEp ep ms lg gn js) (nextM ep ms lg gn js) (nextFl ep ms fl lg gn js last) lg == 0)) h145 rfl fun a150 h150 => ?_; clear h145
       refine pk0 (v := .bool (flwJ ep ms fl (nextEp ep ms lg gn js) (nextM ep ms lg gn js) (nextFl ep ms fl lg gn js last) lg == 0)) h150 rfl fun a151 h151 => ?_; clear h150
       refine pk0 (v := .bool (flwJ ep ms fl (nextEp ep ms lg gn js) (nextM ep ms lg gn js) (nextFl ep ms fl lg gn js last) lg == 0)) h151 rfl fun a152 h152 => ?_; clear h151
       have hc153 : (flwJ ep ms fl (nextEp ep ms lg gn js) (nextM ep ms lg gn js) (nextFl ep ms fl lg gn js last) lg == 0) = true := by first | (simp; done) | (simp; omega) | exact beq_false_of_ne (by omega) | exact beq_iff_eq.2 (by omega)
       rw [hc153] at h152; clear hc153
       have hB156 := hb_call hB132 hb148
       refine pw h152 rfl (op_call (args := #[]) (R := fun res xw => res = .bool true ∧ Below w146.heap.size w146 xw) rfl rfl rfl (by kernel_rfl) (by kernel_rfl) (Try.call9 _ _) (awake38 w146) (by rintro e x ⟨rfl, h⟩; exact ⟨_, rfl, rfl, h⟩)) ?_; clear h152
       rintro _ w155 a154 ⟨rfl, hb157⟩ h154
       have hz158 := hb157.size
       refine pk0 (v := .bool true) h154 rfl fun a159 h159 => ?_; clear h154
       refine pk0 (v := .bool true) h159 rfl fun a160 h160 => ?_; clear h159
       refine pl_nil ?_
       refine co_then ?_
       refine wp_ret ?_
       refine co_ret1 h160 rfl rfl ?_
       have hB161 := hb_call hB156 hb157
       exact ⟨rfl, hB161⟩
      ·
       rw [hc129] at h128
       have hp162 : nextE ep ms lg gn js ≠ 0 := by first | simpa using hc129 | simpa [and_assoc] using hc129
       clear hc129
       refine psk h128 rfl fun a163 h163 => ?_; clear h128
       refine psk h163 rfl fun a164 h164 => ?_; clear h163
       refine psk h164 rfl fun a165 h165 => ?_; clear h164
       refine psk h165 rfl fun a166 h166 => ?_; clear h165
       refine psk h166 rfl fun a167 h167 => ?_; clear h166
       refine pk0 (v := .bool true) h167 rfl fun a168 h168 => ?_; clear h167
       refine pk0 (v := .bool true) h168 rfl fun a169 h169 => ?_; clear h168
       refine pw h169 rfl (op_call (args := #[]) (R := fun res xw => res = .bool true ∧ Below w118.heap.size w118 xw) rfl rfl rfl (by kernel_rfl) (by kernel_rfl) (Try.call9 _ _) (awake38 w118) (by rintro e x ⟨rfl, h⟩; exact ⟨_, rfl, rfl, h⟩)) ?_; clear h169
       rintro _ w171 a170 ⟨rfl, hb172⟩ h170
       have hz173 := hb172.size
       refine pk0 (v := .bool true) h170 rfl fun a174 h174 => ?_; clear h170
       refine pk0 (v := .bool true) h174 rfl fun a175 h175 => ?_; clear h174
       refine pl_nil ?_
       refine co_then ?_
       refine wp_ret ?_
       refine co_ret1 h175 rfl rfl ?_
       have hB176 := hb_call hB132 hb172
       exact ⟨rfl, hB176⟩
     ·
      rw [hc54] at h53
      have hp177 : ((js.length : Nat) : Int) > 20 := of_decide_eq_true hc54
      clear hc54
      refine co_true h53 rfl ?_
      refine co_seq ?_
      refine co_reg ?_
      refine pw h53 rfl (op_call (args := #[]) (R := fun res xw => res = .bool true ∧ Below w10.heap.size w10 xw) rfl rfl rfl (by kernel_rfl) (by kernel_rfl) (Try.call9 _ _) (awake38 w10) (by rintro e x ⟨rfl, h⟩; exact ⟨_, rfl, rfl, h⟩)) ?_; clear h53
      rintro _ w179 a178 ⟨rfl, hb180⟩ h178
      have hz181 := hb180.size
      refine pk0 (v := .bool true) h178 rfl fun a182 h182 => ?_; clear h178
      refine pl_nil ?_
      refine co_then ?_
      refine wp_ret ?_
      refine co_thenR ?_
      refine co_ret1 h182 rfl rfl ?_
      have hB183 := hb_call hB22 hb180
      exact ⟨rfl, hB183⟩
    ·
     rw [hc48] at h47
     have hp184 : ((gn.length : Nat) : Int) > 20 := of_decide_eq_true hc48
     clear hc48
     refine psk h47 rfl fun a185 h185 => ?_; clear h47
     refine psk h185 rfl fun a186 h186 => ?_; clear h185
     refine psk h186 rfl fun a187 h187 => ?_; clear h186
     refine pk0 (v := .bool true) h187 rfl fun a188 h188 => ?_; clear h187
     refine pl_nil ?_
     refine co_then ?_
     refine co_true h188 rfl ?_
     refine co_seq ?_
     refine co_reg ?_
     refine pw h188 rfl (op_call (args := #[]) (R := fun res xw => res = .bool true ∧ Below w10.heap.size w10 xw) rfl rfl rfl (by kernel_rfl) (by kernel_rfl) (Try.call9 _ _) (awake38 w10) (by rintro e x ⟨rfl, h⟩; exact ⟨_, rfl, rfl, h⟩)) ?_; clear h188
     rintro _ w190 a189 ⟨rfl, hb191⟩ h189
     have hz192 := hb191.size
     refine pk0 (v := .bool true) h189 rfl fun a193 h193 => ?_; clear h189
     refine pl_nil ?_
     refine co_then ?_
     refine wp_ret ?_
     refine co_thenR ?_
     refine co_ret1 h193 rfl rfl ?_
     have hB194 := hb_call hB22 hb191
     exact ⟨rfl, hB194⟩
   ·
    rw [hc41] at h40
    have hp195 : ((lg.length : Nat) : Int) > 20 := of_decide_eq_true hc41
    clear hc41
    refine psk h40 rfl fun a196 h196 => ?_; clear h40
    refine psk h196 rfl fun a197 h197 => ?_; clear h196
    refine psk h197 rfl fun a198 h198 => ?_; clear h197
    refine pk0 (v := .bool true) h198 rfl fun a199 h199 => ?_; clear h198
    refine pk0 (v := .bool true) h199 rfl fun a200 h200 => ?_; clear h199
    refine psk h200 rfl fun a201 h201 => ?_; clear h200
    refine psk h201 rfl fun a202 h202 => ?_; clear h201
    refine psk h202 rfl fun a203 h203 => ?_; clear h202
    refine pk0 (v := .bool true) h203 rfl fun a204 h204 => ?_; clear h203
    refine pl_nil ?_
    refine co_then ?_
    refine co_true h204 rfl ?_
    refine co_seq ?_
    refine co_reg ?_
    refine pw h204 rfl (op_call (args := #[]) (R := fun res xw => res = .bool true ∧ Below w10.heap.size w10 xw) rfl rfl rfl (by kernel_rfl) (by kernel_rfl) (Try.call9 _ _) (awake38 w10) (by rintro e x ⟨rfl, h⟩; exact ⟨_, rfl, rfl, h⟩)) ?_; clear h204
    rintro _ w206 a205 ⟨rfl, hb207⟩ h205
    have hz208 := hb207.size
    refine pk0 (v := .bool true) h205 rfl fun a209 h209 => ?_; clear h205
    refine pl_nil ?_
    refine co_then ?_
    refine wp_ret ?_
    refine co_thenR ?_
    refine co_ret1 h209 rfl rfl ?_
    have hB210 := hb_call hB22 hb207
    exact ⟨rfl, hB210⟩
  ·
   rw [hc34] at h33
   have hp211 : ((ms2.length : Nat) : Int) > 20 := of_decide_eq_true hc34
   clear hc34
   refine psk h33 rfl fun a212 h212 => ?_; clear h33
   refine psk h212 rfl fun a213 h213 => ?_; clear h212
   refine psk h213 rfl fun a214 h214 => ?_; clear h213
   refine pk0 (v := .bool true) h214 rfl fun a215 h215 => ?_; clear h214
   refine pk0 (v := .bool true) h215 rfl fun a216 h216 => ?_; clear h215
   refine psk h216 rfl fun a217 h217 => ?_; clear h216
   refine psk h217 rfl fun a218 h218 => ?_; clear h217
   refine psk h218 rfl fun a219 h219 => ?_; clear h218
   refine pk0 (v := .bool true) h219 rfl fun a220 h220 => ?_; clear h219
   refine pk0 (v := .bool true) h220 rfl fun a221 h221 => ?_; clear h220
   refine psk h221 rfl fun a222 h222 => ?_; clear h221
   refine psk h222 rfl fun a223 h223 => ?_; clear h222
   refine psk h223 rfl fun a224 h224 => ?_; clear h223
   refine pk0 (v := .bool true) h224 rfl fun a225 h225 => ?_; clear h224
   refine pl_nil ?_
   refine co_then ?_
   refine co_true h225 rfl ?_
   refine co_seq ?_
   refine co_reg ?_
   refine pw h225 rfl (op_call (args := #[]) (R := fun res xw => res = .bool true ∧ Below w10.heap.size w10 xw) rfl rfl rfl (by kernel_rfl) (by kernel_rfl) (Try.call9 _ _) (awake38 w10) (by rintro e x ⟨rfl, h⟩; exact ⟨_, rfl, rfl, h⟩)) ?_; clear h225
   rintro _ w227 a226 ⟨rfl, hb228⟩ h226
   have hz229 := hb228.size
   refine pk0 (v := .bool true) h226 rfl fun a230 h230 => ?_; clear h226
   refine pl_nil ?_
   refine co_then ?_
   refine wp_ret ?_
   refine co_thenR ?_
   refine co_ret1 h230 rfl rfl ?_
   have hB231 := hb_call hB22 hb228
   exact ⟨rfl, hB231⟩
 ·
  rw [hc26] at h25
  have hp232 : ((ms.length : Nat) : Int) > 20 := of_decide_eq_true hc26
  clear hc26
  refine psk h25 rfl fun a233 h233 => ?_; clear h25
  refine psk h233 rfl fun a234 h234 => ?_; clear h233
  refine psk h234 rfl fun a235 h235 => ?_; clear h234
  refine psk h235 rfl fun a236 h236 => ?_; clear h235
  refine pk0 (v := .bool true) h236 rfl fun a237 h237 => ?_; clear h236
  refine pk0 (v := .bool true) h237 rfl fun a238 h238 => ?_; clear h237
  refine psk h238 rfl fun a239 h239 => ?_; clear h238
  refine psk h239 rfl fun a240 h240 => ?_; clear h239
  refine psk h240 rfl fun a241 h241 => ?_; clear h240
  refine pk0 (v := .bool true) h241 rfl fun a242 h242 => ?_; clear h241
  refine pk0 (v := .bool true) h242 rfl fun a243 h243 => ?_; clear h242
  refine psk h243 rfl fun a244 h244 => ?_; clear h243
  refine psk h244 rfl fun a245 h245 => ?_; clear h244
  refine psk h245 rfl fun a246 h246 => ?_; clear h245
  refine pk0 (v := .bool true) h246 rfl fun a247 h247 => ?_; clear h246
  refine pk0 (v := .bool true) h247 rfl fun a248 h248 => ?_; clear h247
  refine psk h248 rfl fun a249 h249 => ?_; clear h248
  refine psk h249 rfl fun a250 h250 => ?_; clear h249
  refine psk h250 rfl fun a251 h251 => ?_; clear h250
  refine pk0 (v := .bool true) h251 rfl fun a252 h252 => ?_; clear h251
  refine pl_nil ?_
  refine co_then ?_
  refine co_true h252 rfl ?_
  refine co_seq ?_
  refine co_reg ?_
  refine pw h252 rfl (op_call (args := #[]) (R := fun res xw => res = .bool true ∧ Below w10.heap.size w10 xw) rfl rfl rfl (by kernel_rfl) (by kernel_rfl) (Try.call9 _ _) (awake38 w10) (by rintro e x ⟨rfl, h⟩; exact ⟨_, rfl, rfl, h⟩)) ?_; clear h252
  rintro _ w254 a253 ⟨rfl, hb255⟩ h253
  have hz256 := hb255.size
  refine pk0 (v := .bool true) h253 rfl fun a257 h257 => ?_; clear h253
  refine pl_nil ?_
  refine co_then ?_
  refine wp_ret ?_
  refine co_thenR ?_
  refine co_ret1 h257 rfl rfl ?_
  have hB258 := hb_call hB22 hb255
  exact ⟨rfl, hB258⟩
end Go.Proofs.Ytdgboikkgeioeaa

/- Configurations and members that came in by value, opened. Conditions: none. -/
namespace Go.Proofs.Ytdgboikkgeioeaa
open Go.RowKit Go.ChangeShapes Go.WideShapes Go.Deep
section
variable {H : Type} {enc : TypeId × Value → H} {w : World} {base : Nat} {spare : Nat → Bool} {held : Bool}
set_option maxRecDepth 10000 in
theorem elem_mem (n : Nat) (cs : List Value) (x : DataW H × List MemPlace) (h : DataW.trod enc Try.prog w base spare held n 80 cs = some x) : ∃ p, cs = memE p ∧ memOk p := by
  obtain ⟨hl, m, hf⟩ := trod_fields Try.underlying80 (by kernel_rfl) (by kernel_rfl) h
  have hl2 : cs.length = 2 := hl
  clear hl
  match cs, hl2 with
  | [c0, c1], _ =>
    obtain ⟨_, y0, e0, h0⟩ := hf 0 _ rfl
    obtain ⟨_, y1, e1, h1⟩ := hf 1 _ rfl
    cases e0; cases e1
    obtain ⟨a, e0, _, w0⟩ := DataW.trod_int Try.underlying3 h0
    obtain ⟨b, e1, _, w1⟩ := DataW.trod_int Try.underlying3 h1
    simp only [List.cons.injEq, and_true] at e0 e1
    subst e0 e1
    exact ⟨(a, b), rfl, wf_i64 w0, wf_i64 w1⟩
theorem open_mems {fuel : Nat} {cs : List Value} {x : DataW H × List MemPlace} (h : DataW.trod enc Try.prog w base spare held fuel 40 cs = some x) :
    ∃ (l : List MemT) (v : Value), cs = [v] ∧ SliceOf memE 2 w v l ∧ ∀ p ∈ l, memOk p :=
  open_rows memE 2 memOk Try.underlying40 (by kernel_rfl) (by omega) elem_mem h
set_option maxRecDepth 10000 in
theorem elem_conf (n : Nat) (cs : List Value) (x : DataW H × List MemPlace) (h : DataW.trod enc Try.prog w base spare held n 42 cs = some x) : ∃ c : ConfT, cs = confE c ∧ ConfOk w c := by
  obtain ⟨hl, m, hf⟩ := trod_fields Try.underlying42 (by kernel_rfl) (by kernel_rfl) h
  have hl3 : cs.length = 3 := hl
  clear hl
  match cs, hl3 with
  | [c0, c1, c2], _ =>
    obtain ⟨_, y0, e0, h0⟩ := hf 0 _ rfl
    obtain ⟨_, y1, e1, h1⟩ := hf 1 _ rfl
    obtain ⟨_, y2, e2, h2⟩ := hf 2 _ rfl
    cases e0; cases e1; cases e2
    obtain ⟨a, e0, _, w0⟩ := DataW.trod_int Try.underlying3 h0
    obtain ⟨l, v, e1, hs, hall⟩ := open_mems h1
    obtain ⟨b, e2, _, w2⟩ := DataW.trod_int Try.underlying23 h2
    simp only [List.cons.injEq, and_true] at e0 e1 e2
    subst e0 e1 e2
    have k0 := wf_i64 w0; have k2 := wf_u64 w2
    exact ⟨⟨a, c1, l, b⟩, rfl, ⟨hs, hall, k0.1, k0.2, k2.1, k2.2⟩⟩
end
set_option maxRecDepth 10000 in
theorem open_conf {H : Type} {enc : TypeId × Value → H} {w W0 : World} {base b0 : Nat} {spare : Nat → Bool} {held : Bool} {r : Reach} {v : Value} {n : Nat} {x : DataW H × List MemPlace}
    (hv : Value.okWide Try.prog w r b0 42 v) (h : DataW.trod enc Try.prog W0 base spare held n 42 v.cells.toList = some x) :
    ∃ c : ConfT, v = confV c ∧ ConfOk W0 c := by
  obtain ⟨cs, rfl, hsz⟩ := okWide_struct Try.underlying42 hv
  obtain ⟨c, hc, hok⟩ := elem_conf _ _ _ h
  refine ⟨c, ?_, hok⟩
  have : cs.toList = confE c := hc
  rw [show cs = (confE c).toArray by rw [← this]]; rfl
end Go.Proofs.Ytdgboikkgeioeaa

/- catenalaw38: JudgeFollows, as the closing text wants it. Conditions: none. -/
namespace Go.Proofs.Ytdgboikkgeioeaa
open Go.RowKit Go.PlainAid
set_option linter.unusedVariables false
set_option linter.unusedSimpArgs false


theorem open_intl {H : Type} {enc : TypeId × Value → H} {w : World} {base : Nat} {spare : Nat → Bool} {held : Bool} {fuel : Nat} {cs : List Value} {x : DataW H × List MemPlace} (h : DataW.trod enc Try.prog w base spare held fuel 43 cs = some x) :
    ∃ (l : List Int) (v : Value), cs = [v] ∧ SliceOf (intE .i64) 1 w v l ∧ ∀ p ∈ l, True :=
  open_rows (intE .i64) 1 _ Try.underlying43 (by kernel_rfl) (by omega) (fun n cs x h => by
    obtain ⟨a, e, _, w0⟩ := DataW.trod_int Try.underlying3 h
    exact ⟨a, e, trivial⟩) h

theorem judgeFollows_c (c c2 : ConfT) (lv : Value) (lg : List Int) (gv : Value) (gn : List Int) (jv : Value) (js : List MemT) (last : Int) (w : World) (hc : ConfOk w c) (hc2 : ConfOk w c2) (hlg : SliceOf (intE .i64) 1 w lv lg) (x1 : ∀ p ∈ lg, True) (hgn : SliceOf (intE .i64) 1 w gv gn) (x2 : ∀ p ∈ gn, True) (hjs : SliceOf memE 2 w jv js) (hjk : ∀ p ∈ js, memOk p) (hl : (Lit.int .u64 last).wf = true) :
    Calls Try.prog 4 #[confV c, confV c2, lv, gv, jv, .int .u64 last] w fun e w' => e = .returned (.bool true) ∧ Below w.heap.size w w' :=
  judgeFollows_any c.ep c.mv c.ms c.fl c2.ep c2.mv c2.ms c2.fl lv lg gv gn jv js last w hc.ms hc.each ⟨hc.e0, hc.e1⟩ ⟨hc.f0, hc.f1⟩ hc2.ms hc2.each ⟨hc2.e0, hc2.e1⟩ ⟨hc2.f0, hc2.f1⟩ hlg hgn hjs hjk (wf_u64 hl)

end Go.Proofs.Ytdgboikkgeioeaa
