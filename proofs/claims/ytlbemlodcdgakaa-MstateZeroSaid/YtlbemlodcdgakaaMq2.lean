/- Put together: LeaCMz, LeaDMz, LeaEMz, FootMz, GoMz, MstAMz, MstBMz, MstCMz, MstDMz, ConfJzMz, NoJMz, MstEMz. Conditions: as each says. -/
import Derived.Test.YtlbemlodcdgakaaMq1
import Derived.LoopN
/- Package lease: first, place. Conditions: none. -/
namespace Go.Proofs.Ytlbemlodcdgakaa
open Go.RowKit Go.PlainAid
set_option linter.unusedVariables false


/-- What first tells: a pin with the Id, ahead of which there is none; or that there is none. -/
def FirstP (l : List PinT) (id : Int) (p : PinT) (b : Bool) : Prop :=
  (b = true ∧ ∃ i : Nat, l[i]? = some p ∧ p.1 = id ∧ (∀ j, j < i → ∀ z, l[j]? = some z → z.1 ≠ id)) ∨ (b = false ∧ p = (0, 0, 0) ∧ findP l id = -1)

set_option maxRecDepth 100000 in
theorem firstPin_any (v : Value) (l : List PinT) (id : Int) (N : Nat) (w : World) (hs : SliceOf pinE 3 w v l) (hr : w.rangeAt N 0 [.int .i64 id]) :
    Calls Try.prog 150 #[v, .func (.func 151) #[] #[.pointer (some ⟨N, 0, none⟩)]] w fun e w' => ∃ (p : PinT) (b : Bool), e = .returned (.tuple #[.agg #[.int .i64 p.1, .int .u64 p.2.1, .int .i64 p.2.2], .bool b]) ∧ FirstP l id p b ∧ Below w.heap.size w w' := by
  have hB0 := Below.refl w.heap.size w
  have hl_hs := sl_len hs
  refine co_enter (n := 21) Try.func150 rfl rfl rfl [(0, v), (1, .func (.func 151) #[] #[.pointer (some ⟨N, 0, none⟩)])] rfl (fun a h0 => ?_)
  refine co_seq ?_
  refine co_reg ?_
  refine pl_want h0 rfl rfl rfl (op_new (v := fun N => .pointer (some ⟨N, 0, none⟩)) (T := 40) (cs := #[.int .i64 0, .int .u64 0, .int .i64 0]) (by kernel_rfl) (by kernel_rfl) (by kernel_rfl)) ?_; clear h0
  rintro _ w2 a1 ⟨N3, rfl, hN6, hz7, hk5, hg4⟩ h1
  have hB8 := hb_new hB0 hg4
  have hz9 := hB8.size
  have hz10 := hg4.size
  try dsimp only at h1
  refine pl_val (v := .bool false) h1 rfl rfl rfl (by kernel_rfl) (by kernel_rfl) (by kernel_rfl) (fun a11 h11 => ?_); clear h1
  refine pl_nil ?_
  refine co_then ?_
  refine co_seq ?_
  refine co_seq ?_
  refine co_reg ?_
  refine pl_val (v := v) h11 rfl rfl rfl (by kernel_rfl) (by kernel_rfl) (by kernel_rfl) (fun a12 h12 => ?_); clear h11
  refine pl_val (v := .int .i64 ((l.length : Nat) : Int)) h12 rfl rfl rfl (by kernel_rfl) (by kernel_rfl) (rn_len rfl rfl Try.underlying47 (hs.below hB8)) (fun a13 h13 => ?_); clear h12
  refine pl_val (v := .int .i64 0) h13 rfl rfl rfl (by kernel_rfl) (by kernel_rfl) (by kernel_rfl) (fun a14 h14 => ?_); clear h13
  refine pl_nil ?_
  refine co_then ?_
  refine wp_block ?_
  have h15 : Slots 21 [(0, v), (1, .func (.func 151) #[] #[.pointer (some ⟨N, 0, none⟩)]), (4, .pointer (some ⟨N3, 0, none⟩)), (5, .bool false), (9, v), (10, .int .i64 ((l.length : Nat) : Int)), (11, .int .i64 0)] _ := h14.sub ⟨rfl, rfl, rfl, rfl, rfl, rfl, rfl, trivial⟩; clear h14
  refine co_loop (fun mm a x => ∃ (i : Nat), Slots 21 [(0, v), (1, .func (.func 151) #[] #[.pointer (some ⟨N, 0, none⟩)]), (4, .pointer (some ⟨N3, 0, none⟩)), (5, .bool false), (9, v), (10, .int .i64 ((l.length : Nat) : Int)), (11, .int .i64 ((i : Nat) : Int))] a ∧ mm = l.length - i ∧ (i ≤ l.length) ∧ (∀ j, j < i → ∀ z, l[j]? = some z → z.1 ≠ id) ∧ Below w.heap.size w x ∧ Blk x N3 40 #[.int .i64 0, .int .u64 0, .int .i64 0]) (l.length - 0) ?_ ?_
  · exact ⟨0, h15.sub ⟨rfl, rfl, rfl, rfl, rfl, rfl, (slot_eq rfl (congrArg (Value.int .i64) (by first | rfl | omega))), trivial⟩, rfl, by omega, by first | (intro j hj; omega) | exact none_step (by assumption) (by assumption) (by omega), hB8, hk5⟩
  · rintro k16 a17 w18 ⟨i, h17, rfl, hi19, hi20, hB21, hk22⟩
    have hz23 := hB21.size
    have hl24 := hk22.lt
    refine co_seq ?_
    refine co_reg ?_
    refine pl_val (v := .bool (decide (((i : Nat) : Int) < ((l.length : Nat) : Int)))) h17 rfl rfl rfl (by kernel_rfl) (by kernel_rfl) (by kernel_rfl) (fun a25 h25 => ?_); clear h17
    refine pl_nil ?_
    refine co_then ?_
    refine co_seq ?_
    cases hc26 : (decide (((i : Nat) : Int) < ((l.length : Nat) : Int)))
    ·
      rw [hc26] at h25
      have hp27 : ¬ (((i : Nat) : Int) < ((l.length : Nat) : Int)) := of_decide_eq_false hc26
      clear hc26
      refine co_false h25 rfl ?_
      refine wp_exit ?_
      refine co_thenX ?_
      refine co_thenX ?_
      refine co_blockX ?_
      refine co_then ?_
      refine co_seq ?_
      refine co_reg ?_
      refine pl_want h25 rfl rfl rfl (op_new (v := fun N => .pointer (some ⟨N, 0, none⟩)) (T := 40) (cs := #[.int .i64 0, .int .u64 0, .int .i64 0]) (by kernel_rfl) (by kernel_rfl) (by kernel_rfl)) ?_; clear h25
      rintro _ w29 a28 ⟨N30, rfl, hN33, hz34, hk32, hg31⟩ h28
      have hB35 := hb_new hB21 hg31
      have hz36 := hB35.size
      have hz37 := hg31.size
      have hk38 := hk22.kept hg31 (by simp)
      try dsimp only at h28
      refine pl_nil ?_
      refine co_then ?_
      refine co_seq ?_
      refine co_reg ?_
      refine pl_val (v := .agg #[.int .i64 0, .int .u64 0, .int .i64 0]) h28 rfl rfl rfl (by kernel_rfl) (by kernel_rfl) (rn_loadN rfl rfl Try.underlying40 rfl (by kernel_rfl) hk32.all) (fun a39 h39 => ?_); clear h28
      refine pl_doW h39 rfl rfl (op_storeN rfl rfl rfl (by kernel_rfl) (by kernel_rfl) hk38 rfl) ?_; clear h39
      rintro _ w41 a40 ⟨hk42, hz43, hg44⟩ h40
      have hk42' : Blk w41 N3 40 #[.int .i64 0, .int .u64 0, .int .i64 0] := hk42; clear hk42
      have hB45 := hb_at hB35 hg44 (by omega)
      have hz46 := hB45.size
      have hz47 := hg44.size
      have hk48 := hk32.kept hg44 (by simp; omega)
      refine pl_val (v := .bool false) h40 rfl rfl rfl (by kernel_rfl) (by kernel_rfl) (by kernel_rfl) (fun a49 h49 => ?_); clear h40
      refine pl_nil ?_
      refine co_then ?_
      refine wp_ret ?_
      refine co_retC1 (Q := fun _ _ _ => True) h49 rfl rfl rfl hk42' Try.underlying40 rfl (by kernel_rfl) ?_
      exact ⟨(0, 0, 0), false, rfl, .inr ⟨rfl, rfl, findP_none (i := i) (by assumption) (by omega)⟩, hB45⟩
    ·
      rw [hc26] at h25
      have hp50 : ((i : Nat) : Int) < ((l.length : Nat) : Int) := of_decide_eq_true hc26
      clear hc26
      refine co_true h25 rfl ?_
      refine wp_skip ?_
      refine co_then ?_
      refine co_seq ?_
      refine wp_block ?_
      refine co_seq ?_
      refine co_reg ?_
      obtain ⟨y51, hy51⟩ : ∃ z, l[i]? = some z := ⟨_, List.getElem?_eq_getElem (by first | omega | (simp; done) | (simp; omega))⟩
      refine pl_val (v := .pointer (some ⟨(blkOf v), offOf v + i * 3, none⟩)) h25 rfl rfl rfl (by kernel_rfl) (by kernel_rfl) (rn_index rfl rfl rfl Try.underlying47 Try.sizeOf40 (hs.below hB21) (by omega) (by first | omega | (simp; done) | (simp; omega))) (fun a52 h52 => ?_); clear h25
      refine pl_val (v := .agg #[.int .i64 y51.1, .int .u64 y51.2.1, .int .i64 y51.2.2]) h52 rfl rfl rfl (by kernel_rfl) (by kernel_rfl) (rn_loadN rfl rfl Try.underlying40 rfl (by kernel_rfl) (sl_at (hs.below hB21) hy51)) (fun a53 h53 => ?_); clear h52
      refine pl_want h53 rfl rfl rfl (op_new (v := fun N => .pointer (some ⟨N, 0, none⟩)) (T := 40) (cs := #[.int .i64 0, .int .u64 0, .int .i64 0]) (by kernel_rfl) (by kernel_rfl) (by kernel_rfl)) ?_; clear h53
      rintro _ w55 a54 ⟨N56, rfl, hN59, hz60, hk58, hg57⟩ h54
      have hB61 := hb_new hB21 hg57
      have hz62 := hB61.size
      have hz63 := hg57.size
      have hk64 := hk22.kept hg57 (by simp)
      try dsimp only at h54
      refine pl_doW h54 rfl rfl (op_storeN rfl rfl rfl (by kernel_rfl) (by kernel_rfl) hk58 rfl) ?_; clear h54
      rintro _ w66 a65 ⟨hk67, hz68, hg69⟩ h65
      have hk67' : Blk w66 N56 40 #[.int .i64 y51.1, .int .u64 y51.2.1, .int .i64 y51.2.2] := hk67; clear hk67
      have hB70 := hb_at hB61 hg69 (by omega)
      have hz71 := hB70.size
      have hz72 := hg69.size
      have hk73 := hk64.kept hg69 (by simp; omega)
      refine pl_nil ?_
      refine co_then ?_
      refine co_seq ?_
      refine co_reg ?_
      refine pl_val (v := .func (.func 151) #[] #[.pointer (some ⟨N, 0, none⟩)]) h65 rfl rfl rfl (by kernel_rfl) (by kernel_rfl) (by kernel_rfl) (fun a74 h74 => ?_); clear h65
      refine pl_val (v := .agg #[.int .i64 y51.1, .int .u64 y51.2.1, .int .i64 y51.2.2]) h74 rfl rfl rfl (by kernel_rfl) (by kernel_rfl) (rn_loadN rfl rfl Try.underlying40 rfl (by kernel_rfl) hk67'.all) (fun a75 h75 => ?_); clear h74
      refine pl_want h75 rfl rfl rfl (op_callV (args := #[.agg #[.int .i64 y51.1, .int .u64 y51.2.1, .int .i64 y51.2.2], .pointer (some ⟨N, 0, none⟩)]) (R := fun res xw => res = .bool (y51.1 == id) ∧ Below w66.heap.size w66 xw) rfl rfl rfl (by kernel_rfl) (by kernel_rfl) (Try.call151 _ _) (placeC_any y51 id N w66 (range_below hr hB70)) (by rintro e x ⟨rfl, hb78⟩; exact ⟨_, rfl, ⟨rfl, hb78⟩⟩)) ?_; clear h75
      rintro _ w77 a76 ⟨rfl, hb78⟩ h76
      have hB79 := hb_call hB70 hb78
      have hz80 := hB79.size
      have hz81 := hb78.size
      have hk82 := hk73.below hb78
      have hk83 := hk67'.below hb78
      refine pl_nil ?_
      refine co_then ?_
      cases hc84 : (y51.1 == id)
      ·
        rw [hc84] at h76
        have hp85 : ¬ (y51.1 = id) := by first | simpa using hc84 | simpa [and_assoc] using hc84
        clear hc84
        refine co_false h76 rfl ?_
        refine wp_skip ?_
        refine co_blockN ?_
        refine co_then ?_
        refine co_reg ?_
        refine pl_val (v := .int .i64 ((i + 1 : Nat) : Int)) h76 rfl rfl rfl (by kernel_rfl) (by kernel_rfl) (rn_arith' rfl rfl rfl rfl rfl rfl (IntWalk.i64_in _ (by omega)) (by omega)) (fun a86 h86 => ?_); clear h76
        refine pl_val (v := .int .i64 ((i + 1 : Nat) : Int)) h86 rfl rfl rfl (by kernel_rfl) (by kernel_rfl) (by kernel_rfl) (fun a87 h87 => ?_); clear h86
        refine pl_nil ?_
        refine co_then ?_
        refine ⟨(l.length - (i + 1)), by omega, ?_⟩
        exact ⟨i + 1, h87.sub ⟨rfl, rfl, rfl, rfl, rfl, rfl, rfl, trivial⟩, rfl, by omega, by first | (intro j hj; omega) | exact none_step (by assumption) (by assumption) (by omega), hB79, hk82⟩
      ·
        rw [hc84] at h76
        have hp88 : y51.1 = id := by first | simpa using hc84 | simpa [and_assoc] using hc84
        clear hc84
        refine co_true h76 rfl ?_
        refine co_seq ?_
        refine co_reg ?_
        refine pl_val (v := .agg #[.int .i64 y51.1, .int .u64 y51.2.1, .int .i64 y51.2.2]) h76 rfl rfl rfl (by kernel_rfl) (by kernel_rfl) (rn_loadN rfl rfl Try.underlying40 rfl (by kernel_rfl) hk83.all) (fun a89 h89 => ?_); clear h76
        refine pl_doW h89 rfl rfl (op_storeN rfl rfl rfl (by kernel_rfl) (by kernel_rfl) hk82 rfl) ?_; clear h89
        rintro _ w91 a90 ⟨hk92, hz93, hg94⟩ h90
        have hk92' : Blk w91 N3 40 #[.int .i64 y51.1, .int .u64 y51.2.1, .int .i64 y51.2.2] := hk92; clear hk92
        have hB95 := hb_at hB79 hg94 (by omega)
        have hz96 := hB95.size
        have hz97 := hg94.size
        have hk98 := hk83.kept hg94 (by simp; omega)
        refine pl_val (v := .bool true) h90 rfl rfl rfl (by kernel_rfl) (by kernel_rfl) (by kernel_rfl) (fun a99 h99 => ?_); clear h90
        refine pl_nil ?_
        refine co_then ?_
        refine wp_ret ?_
        refine co_blockR ?_
        refine co_thenR ?_
        refine co_thenR ?_
        refine co_blockR ?_
        refine co_thenR ?_
        refine co_retC1 (Q := fun _ _ _ => True) h99 rfl rfl rfl hk92' Try.underlying40 rfl (by kernel_rfl) ?_
        exact ⟨y51, true, rfl, .inl ⟨rfl, i, by assumption, by assumption, by assumption⟩, hB95⟩
set_option maxRecDepth 100000 in
theorem place_any (v : Value) (l : List PinT) (id : Int) (w : World) (hs : SliceOf pinE 3 w v l) :
    Calls Try.prog 108 #[v, .int .i64 id] w fun e w' => e = .returned (.int .i64 (findP l id)) ∧ Below w.heap.size w w' := by
  have hB0 := Below.refl w.heap.size w
  have hl_hs := sl_len hs
  refine co_enter (n := 18) Try.func108 rfl rfl rfl [(0, v), (1, .int .i64 id)] rfl (fun a h0 => ?_)
  refine co_seq ?_
  refine co_reg ?_
  refine pl_want h0 rfl rfl rfl (op_new (v := fun N => .pointer (some ⟨N, 0, none⟩)) (T := 3) (cs := #[.int .i64 id]) (by kernel_rfl) (by kernel_rfl) (by kernel_rfl)) ?_; clear h0
  rintro _ w2 a1 ⟨N3, rfl, hN6, hz7, hk5, hg4⟩ h1
  have hB8 := hb_new hB0 hg4
  have hz9 := hB8.size
  have hz10 := hg4.size
  try dsimp only at h1
  refine pl_val (v := .int .i64 0) h1 rfl rfl rfl (by kernel_rfl) (by kernel_rfl) (by kernel_rfl) (fun a11 h11 => ?_); clear h1
  refine pl_nil ?_
  refine co_then ?_
  refine co_seq ?_
  refine co_reg ?_
  refine pl_val (v := v) h11 rfl rfl rfl (by kernel_rfl) (by kernel_rfl) (by kernel_rfl) (fun a12 h12 => ?_); clear h11
  refine pl_val (v := .func (.func 151) #[] #[.pointer (some ⟨N3, 0, none⟩)]) h12 rfl rfl rfl (by kernel_rfl) (by kernel_rfl) (by kernel_rfl) (fun a13 h13 => ?_); clear h12
  refine pl_want h13 rfl rfl rfl (op_call (args := #[v, .func (.func 151) #[] #[.pointer (some ⟨N3, 0, none⟩)]]) (R := fun res xw => ∃ p : PinT, ∃ b : Bool, res = .tuple #[.agg #[.int .i64 p.1, .int .u64 p.2.1, .int .i64 p.2.2], .bool b] ∧ FirstP l id p b ∧ Below w2.heap.size w2 xw) rfl rfl rfl (by kernel_rfl) (by kernel_rfl) (Try.call150 _ _) (firstPin_any v l id N3 w2 (hs.below hB8) (blk_part hk5 0 rfl)) (by rintro e x ⟨p, b, rfl, hq18, hb19⟩; exact ⟨_, rfl, ⟨p, b, rfl, hq18, hb19⟩⟩)) ?_; clear h13
  rintro _ w15 a14 ⟨p16, b17, rfl, hq18, hb19⟩ h14
  have hB20 := hb_call hB8 hb19
  have hz21 := hB20.size
  have hz22 := hb19.size
  have hk23 := hk5.below hb19
  refine pl_val (v := .tuple #[.agg #[.int .i64 p16.1, .int .u64 p16.2.1, .int .i64 p16.2.2], .bool b17]) h14 rfl rfl rfl (by kernel_rfl) (by kernel_rfl) (by kernel_rfl) (fun a24 h24 => ?_); clear h14
  refine pl_val (v := .agg #[.int .i64 p16.1, .int .u64 p16.2.1, .int .i64 p16.2.2]) h24 rfl rfl rfl (by kernel_rfl) (by kernel_rfl) (by kernel_rfl) (fun a25 h25 => ?_); clear h24
  refine pl_val (v := .bool b17) h25 rfl rfl rfl (by kernel_rfl) (by kernel_rfl) (by kernel_rfl) (fun a26 h26 => ?_); clear h25
  refine pl_want h26 rfl rfl rfl (op_new (v := fun N => .pointer (some ⟨N, 0, none⟩)) (T := 40) (cs := #[.int .i64 0, .int .u64 0, .int .i64 0]) (by kernel_rfl) (by kernel_rfl) (by kernel_rfl)) ?_; clear h26
  rintro _ w28 a27 ⟨N29, rfl, hN32, hz33, hk31, hg30⟩ h27
  have hB34 := hb_new hB20 hg30
  have hz35 := hB34.size
  have hz36 := hg30.size
  have hk37 := hk23.kept hg30 (by simp)
  try dsimp only at h27
  refine pl_doW h27 rfl rfl (op_storeN rfl rfl rfl (by kernel_rfl) (by kernel_rfl) hk31 rfl) ?_; clear h27
  rintro _ w39 a38 ⟨hk40, hz41, hg42⟩ h38
  have hk40' : Blk w39 N29 40 #[.int .i64 p16.1, .int .u64 p16.2.1, .int .i64 p16.2.2] := hk40; clear hk40
  have hB43 := hb_at hB34 hg42 (by omega)
  have hz44 := hB43.size
  have hz45 := hg42.size
  have hk46 := hk37.kept hg42 (by simp; omega)
  refine pl_val (v := .bool b17) h38 rfl rfl rfl (by kernel_rfl) (by kernel_rfl) (by kernel_rfl) (fun a47 h47 => ?_); clear h38
  refine pl_nil ?_
  refine co_then ?_
  refine co_seq ?_
  refine co_seq ?_
  refine co_reg ?_
  refine pl_val (v := .bool b17) h47 rfl rfl rfl (by kernel_rfl) (by kernel_rfl) (by kernel_rfl) (fun a48 h48 => ?_); clear h47
  cases hc49 : (b17)
  ·
    rw [hc49] at h48
    refine pl_val (v := .bool true) h48 rfl rfl rfl (by kernel_rfl) (by kernel_rfl) (by kernel_rfl) (fun a50 h50 => ?_); clear h48
    refine pl_nil ?_
    refine co_then ?_
    refine co_true h50 rfl ?_
    refine co_seq ?_
    refine co_reg ?_
    refine pl_val (v := .int .i64 (-1)) h50 rfl rfl rfl (by kernel_rfl) (by kernel_rfl) (by kernel_rfl) (fun a51 h51 => ?_); clear h50
    refine pl_nil ?_
    refine co_then ?_
    refine wp_ret ?_
    refine co_thenR ?_
    refine co_ret1 h51 rfl rfl ?_
    rcases hq18 with ⟨hb0, _⟩ | ⟨_, _, hf0⟩
    · rw [hb0] at hc49; cases hc49
    · exact ⟨ret_int hf0.symm, hB43⟩
  ·
    rw [hc49] at h48
    refine pl_val (v := .bool false) h48 rfl rfl rfl (by kernel_rfl) (by kernel_rfl) (by kernel_rfl) (fun a52 h52 => ?_); clear h48
    refine pl_nil ?_
    refine co_then ?_
    refine co_false h52 rfl ?_
    refine wp_skip ?_
    refine co_then ?_
    refine co_seq ?_
    refine co_reg ?_
    refine pl_val (v := v) h52 rfl rfl rfl (by kernel_rfl) (by kernel_rfl) (by kernel_rfl) (fun a53 h53 => ?_); clear h52
    refine pl_val (v := .agg #[.int .i64 p16.1, .int .u64 p16.2.1, .int .i64 p16.2.2]) h53 rfl rfl rfl (by kernel_rfl) (by kernel_rfl) (rn_loadN rfl rfl Try.underlying40 rfl (by kernel_rfl) hk40'.all) (fun a54 h54 => ?_); clear h53
    rcases hq18 with ⟨_, i0, hi0, hp0, hn0⟩ | ⟨hb0, _⟩
    rotate_left
    · rw [hb0] at hc49; cases hc49
    refine pl_want h54 rfl rfl rfl (op_call (args := #[v, .agg #[.int .i64 p16.1, .int .u64 p16.2.1, .int .i64 p16.2.2]]) (R := fun res xw => res = .int .i64 ((i0 : Nat) : Int) ∧ Below w39.heap.size w39 xw) rfl rfl rfl (by kernel_rfl) (by kernel_rfl) (Try.call152 _ _) (indexPin_any v l p16 i0 w39 (hs.below hB43) hi0 (by rw [hp0]; exact hn0)) (by rintro e x ⟨rfl, hb57⟩; exact ⟨_, rfl, ⟨rfl, hb57⟩⟩)) ?_; clear h54
    rintro _ w56 a55 ⟨rfl, hb57⟩ h55
    have hB58 := hb_call hB43 hb57
    have hz59 := hB58.size
    have hz60 := hb57.size
    have hk61 := hk46.below hb57
    have hk62 := hk40'.below hb57
    refine pl_val (v := .int .i64 ((i0 : Nat) : Int)) h55 rfl rfl rfl (by kernel_rfl) (by kernel_rfl) (by kernel_rfl) (fun a63 h63 => ?_); clear h55
    refine pl_nil ?_
    refine co_then ?_
    refine wp_ret ?_
    refine co_ret1 h63 rfl rfl ?_
    exact ⟨ret_int (by rw [findP_at hn0 hi0 hp0]), hB58⟩
end Go.Proofs.Ytlbemlodcdgakaa

/- Package lease: Grant, Renew. Conditions: at most 1000 pins. -/
namespace Go.Proofs.Ytlbemlodcdgakaa
open Go.RowKit Go.PlainAid
set_option linter.unusedVariables false


theorem grant_full {l : List PinT} {id ts : Int} (h : (l.length : Int) ≥ 3) : grantP l id ts = ([], 17) := by unfold grantP; rw [if_pos h]
theorem grant_arg {l : List PinT} {id ts : Int} (h : ¬ (l.length : Int) ≥ 3) (h1 : id < 1 ∨ id > 1073741824) : grantP l id ts = ([], 1) := by unfold grantP; rw [if_neg h, if_pos h1]
theorem grant_ord {l : List PinT} {id ts : Int} {j : Nat} {y : PinT} (h : ¬ (l.length : Int) ≥ 3) (h1 : ¬ (id < 1 ∨ id > 1073741824)) (hy : l[j]? = some y) (hj : j = l.length - 1) (h2 : id ≤ y.1) : grantP l id ts = ([], 18) := by
  subst hj
  have := (List.getElem?_eq_some_iff.1 hy).1
  unfold grantP; rw [if_neg h, if_neg h1, if_pos ⟨by omega, by rw [getD_of hy]; exact h2⟩]
theorem grant_ok {l : List PinT} {id ts : Int} {j : Nat} {y : PinT} (h : ¬ (l.length : Int) ≥ 3) (h1 : ¬ (id < 1 ∨ id > 1073741824)) (hy : l[j]? = some y) (hj : j = l.length - 1) (h2 : ¬ id ≤ y.1) : grantP l id ts = (l ++ [(id, ts, 8)], 0) := by
  subst hj
  unfold grantP; rw [if_neg h, if_neg h1, if_neg (fun q => h2 (by rw [← getD_of hy]; exact q.2))]
theorem grant_ok0 {l : List PinT} {id ts : Int} (h : ¬ (l.length : Int) ≥ 3) (h1 : ¬ (id < 1 ∨ id > 1073741824)) (h0 : l.length = 0) : grantP l id ts = (l ++ [(id, ts, 8)], 0) := by
  unfold grantP; rw [if_neg h, if_neg h1, if_neg (by omega)]
theorem renew_no {l : List PinT} {id : Int} (h : findP l id < 0) : renewP l id = ([], 7) := by unfold renewP; rw [if_pos h]
theorem renew_ok {l : List PinT} {id : Int} {j : Nat} {y : PinT} (h : ¬ findP l id < 0) (hj : j = (findP l id).toNat) (hy : l[j]? = some y) : renewP l id = (l.set j (y.1, y.2.1, 8), 0) := by
  subst hj; unfold renewP; rw [if_neg h, getD_of hy]
theorem free_no {l : List PinT} {id : Int} (h : findP l id < 0) : freeP l id = ([], 7) := by unfold freeP; rw [if_pos h]
theorem free_ok {l : List PinT} {id : Int} {j : Nat} (h : ¬ findP l id < 0) (hj : j = (findP l id).toNat) : freeP l id = (l.take j ++ l.drop (j + 1), 0) := by subst hj; unfold freeP; rw [if_neg h]
set_option maxRecDepth 100000 in
theorem leaseGrant_any (v : Value) (l : List PinT) (id : Int) (ts : Int) (l2 : List PinT) (r : Int) (w : World) (hs : SliceOf pinE 3 w v l) (hlen : l.length ≤ 1000) (hg : grantP l id ts = (l2, r)) :
    Calls Try.prog 107 #[v, .int .i64 id, .int .u64 ts] w fun e w' => ∃ (u : Value), e = .returned (.tuple #[u, .int .i64 r]) ∧ w'.ownsRow w.heap.size 40 3 u l2.length (l2.flatMap pinE) ∧ Below w.heap.size w w' := by
  have hB0 := Below.refl w.heap.size w
  have hl_hs := sl_len hs
  refine co_enter (n := 38) Try.func107 rfl rfl rfl [(0, v), (1, .int .i64 id), (2, .int .u64 ts)] rfl (fun a h0 => ?_)
  refine co_seq ?_
  refine co_reg ?_
  refine pl_val (v := .slice none 0 0) h0 rfl rfl rfl (by kernel_rfl) (by kernel_rfl) (by kernel_rfl) (fun a1 h1 => ?_); clear h0
  refine pl_val (v := .int .i64 0) h1 rfl rfl rfl (by kernel_rfl) (by kernel_rfl) (by kernel_rfl) (fun a2 h2 => ?_); clear h1
  refine pl_nil ?_
  refine co_then ?_
  refine co_seq ?_
  refine co_seq ?_
  refine co_reg ?_
  refine pl_val (v := v) h2 rfl rfl rfl (by kernel_rfl) (by kernel_rfl) (by kernel_rfl) (fun a3 h3 => ?_); clear h2
  refine pl_val (v := .int .i64 ((l.length : Nat) : Int)) h3 rfl rfl rfl (by kernel_rfl) (by kernel_rfl) (rn_len rfl rfl Try.underlying47 hs) (fun a4 h4 => ?_); clear h3
  refine pl_val (v := .bool (decide (((l.length : Nat) : Int) ≥ 3))) h4 rfl rfl rfl (by kernel_rfl) (by kernel_rfl) (by kernel_rfl) (fun a5 h5 => ?_); clear h4
  refine pl_nil ?_
  refine co_then ?_
  cases hc6 : (decide (((l.length : Nat) : Int) ≥ 3))
  ·
    rw [hc6] at h5
    have hp7 : ¬ (((l.length : Nat) : Int) ≥ 3) := of_decide_eq_false hc6
    clear hc6
    refine co_false h5 rfl ?_
    refine wp_skip ?_
    refine co_then ?_
    refine co_seq ?_
    refine co_seq ?_
    refine co_reg ?_
    refine pl_val (v := .int .i64 id) h5 rfl rfl rfl (by kernel_rfl) (by kernel_rfl) (by kernel_rfl) (fun a8 h8 => ?_); clear h5
    refine pl_val (v := .bool (decide (id < 1))) h8 rfl rfl rfl (by kernel_rfl) (by kernel_rfl) (by kernel_rfl) (fun a9 h9 => ?_); clear h8
    refine pl_val (v := .bool (decide (id < 1))) h9 rfl rfl rfl (by kernel_rfl) (by kernel_rfl) (by kernel_rfl) (fun a10 h10 => ?_); clear h9
    cases hc11 : (decide (id < 1))
    ·
      rw [hc11] at h10
      have hp12 : ¬ (id < 1) := of_decide_eq_false hc11
      clear hc11
      refine pl_val (v := .int .i64 id) h10 rfl rfl rfl (by kernel_rfl) (by kernel_rfl) (by kernel_rfl) (fun a13 h13 => ?_); clear h10
      refine pl_val (v := .bool (decide (id > 1073741824))) h13 rfl rfl rfl (by kernel_rfl) (by kernel_rfl) (by kernel_rfl) (fun a14 h14 => ?_); clear h13
      refine pl_val (v := .bool (decide (id > 1073741824))) h14 rfl rfl rfl (by kernel_rfl) (by kernel_rfl) (by kernel_rfl) (fun a15 h15 => ?_); clear h14
      refine pl_nil ?_
      refine co_then ?_
      cases hc16 : (decide (id > 1073741824))
      ·
        rw [hc16] at h15
        have hp17 : ¬ (id > 1073741824) := of_decide_eq_false hc16
        clear hc16
        refine co_false h15 rfl ?_
        refine wp_skip ?_
        refine co_then ?_
        refine co_seq ?_
        refine co_seq ?_
        refine co_reg ?_
        refine pl_val (v := v) h15 rfl rfl rfl (by kernel_rfl) (by kernel_rfl) (by kernel_rfl) (fun a18 h18 => ?_); clear h15
        refine pl_val (v := .int .i64 ((l.length : Nat) : Int)) h18 rfl rfl rfl (by kernel_rfl) (by kernel_rfl) (rn_len rfl rfl Try.underlying47 hs) (fun a19 h19 => ?_); clear h18
        refine pl_val (v := .bool (decide (((l.length : Nat) : Int) > 0))) h19 rfl rfl rfl (by kernel_rfl) (by kernel_rfl) (by kernel_rfl) (fun a20 h20 => ?_); clear h19
        refine pl_val (v := .bool (decide (((l.length : Nat) : Int) > 0))) h20 rfl rfl rfl (by kernel_rfl) (by kernel_rfl) (by kernel_rfl) (fun a21 h21 => ?_); clear h20
        cases hc22 : (decide (((l.length : Nat) : Int) > 0))
        ·
          rw [hc22] at h21
          have hp23 : ¬ (((l.length : Nat) : Int) > 0) := of_decide_eq_false hc22
          clear hc22
          refine pl_skip h21 rfl rfl rfl (fun a24 h24 => ?_); clear h21
          refine pl_skip h24 rfl rfl rfl (fun a25 h25 => ?_); clear h24
          refine pl_skip h25 rfl rfl rfl (fun a26 h26 => ?_); clear h25
          refine pl_skip h26 rfl rfl rfl (fun a27 h27 => ?_); clear h26
          refine pl_skip h27 rfl rfl rfl (fun a28 h28 => ?_); clear h27
          refine pl_skip h28 rfl rfl rfl (fun a29 h29 => ?_); clear h28
          refine pl_skip h29 rfl rfl rfl (fun a30 h30 => ?_); clear h29
          refine pl_skip h30 rfl rfl rfl (fun a31 h31 => ?_); clear h30
          refine pl_skip h31 rfl rfl rfl (fun a32 h32 => ?_); clear h31
          refine pl_val (v := .bool false) h32 rfl rfl rfl (by kernel_rfl) (by kernel_rfl) (by kernel_rfl) (fun a33 h33 => ?_); clear h32
          refine pl_nil ?_
          refine co_then ?_
          refine co_false h33 rfl ?_
          refine wp_skip ?_
          refine co_then ?_
          refine co_seq ?_
          refine co_reg ?_
          refine pl_val (v := v) h33 rfl rfl rfl (by kernel_rfl) (by kernel_rfl) (by kernel_rfl) (fun a34 h34 => ?_); clear h33
          refine pl_want h34 rfl rfl rfl (op_call (args := #[v]) (R := fun res xw => ∃ u : Value, res = u ∧ xw.ownsRow w.heap.size 40 3 u l.length (l.flatMap pinE) ∧ Below w.heap.size w xw) rfl rfl rfl (by kernel_rfl) (by kernel_rfl) (Try.call64 _ _) (clonePin_any v l w hs (by first | omega | (simp; done) | (simp; omega))) (by rintro e x ⟨u, rfl, hq38, hb39⟩; exact ⟨_, rfl, ⟨u, rfl, hq38, hb39⟩⟩)) ?_; clear h34
          rintro u37 w36 a35 ⟨_, rfl, hq38, hb39⟩ h35
          have hB40 := hb_call hB0 hb39
          have hz41 := hB40.size
          have hz42 := hb39.size
          have hl43 := sl_len (row_sl hq38 pinE_len)
          refine pl_val (v := .int .i64 id) h35 rfl rfl rfl (by kernel_rfl) (by kernel_rfl) (by kernel_rfl) (fun a44 h44 => ?_); clear h35
          refine pl_val (v := .int .u64 ts) h44 rfl rfl rfl (by kernel_rfl) (by kernel_rfl) (by kernel_rfl) (fun a45 h45 => ?_); clear h44
          refine pl_val (v := .agg #[.int .i64 id, .int .u64 ts, .int .i64 8]) h45 rfl rfl rfl (by kernel_rfl) (by kernel_rfl) (by kernel_rfl) (fun a46 h46 => ?_); clear h45
          refine pl_want h46 rfl rfl rfl (op_new (v := fun N => .slice (some ⟨N, 0, none⟩) 1 1) (T := 40) (cs := #[.int .i64 id, .int .u64 ts, .int .i64 8]) (by kernel_rfl) (by kernel_rfl) (by kernel_rfl)) ?_; clear h46
          rintro _ w48 a47 ⟨N49, rfl, hN52, hz53, hk51, hg50⟩ h47
          have ha54 := row_fresh hq38 hN52
          have hB55 := hb_new hB40 hg50
          have hz56 := hB55.size
          have hz57 := hg50.size
          have hr58 := row_kept_new hq38 hg50
          try dsimp only at h47
          refine pl_want h47 rfl rfl rfl (op_append rfl w.heap.size 40 (z := .agg #[.int .i64 0, .int .u64 0, .int .i64 0]) (size := 3) (bytes := 24) Try.underlying47 (by kernel_rfl) rfl rfl rfl hr58 rfl hk51 rfl (by kernel_rfl) (by first | omega | (simp only [List.length_nil, List.length_append, List.length_cons, List.length_take, List.length_drop]; omega)) (by first | omega | (simp only [List.length_nil, List.length_append, List.length_cons, List.length_take, List.length_drop]; omega)) (by omega)) ?_; clear h47
          rintro v61 w60 a59 ⟨hr62, hg63⟩ h59
          have hr62' : w60.ownsRow w.heap.size 40 3 v61 ((l ++ [(id, ts, 8)]).length) ((l ++ [(id, ts, 8)]).flatMap pinE) := row_push (y := (id, ts, 8)) hr62 rfl rfl; clear hr62
          have hB64 := hb_row hB55 hr58 (by omega) hg63
          have hz65 := hB64.size
          have hz66 := hg63.size
          have hk67 := hk51.kept hg63 (ha54)
          refine pl_val (v := v61) h59 rfl rfl rfl (by kernel_rfl) (by kernel_rfl) (by kernel_rfl) (fun a68 h68 => ?_); clear h59
          refine pl_val (v := .int .i64 0) h68 rfl rfl rfl (by kernel_rfl) (by kernel_rfl) (by kernel_rfl) (fun a69 h69 => ?_); clear h68
          refine pl_nil ?_
          refine co_then ?_
          refine wp_ret ?_
          refine co_ret2 h69 rfl rfl rfl ?_
          cases hg.symm.trans (grant_ok0 (by omega) (by omega) (by omega))
          exact ⟨_, rfl, (row_lows hr62' (by omega)), hB64⟩
        ·
          rw [hc22] at h21
          have hp70 : ((l.length : Nat) : Int) > 0 := of_decide_eq_true hc22
          clear hc22
          refine pl_val (v := v) h21 rfl rfl rfl (by kernel_rfl) (by kernel_rfl) (by kernel_rfl) (fun a71 h71 => ?_); clear h21
          refine pl_val (v := v) h71 rfl rfl rfl (by kernel_rfl) (by kernel_rfl) (by kernel_rfl) (fun a72 h72 => ?_); clear h71
          refine pl_val (v := .int .i64 ((l.length : Nat) : Int)) h72 rfl rfl rfl (by kernel_rfl) (by kernel_rfl) (rn_len rfl rfl Try.underlying47 hs) (fun a73 h73 => ?_); clear h72
          refine pl_val (v := .int .i64 (((l.length : Nat) : Int) - 1)) h73 rfl rfl rfl (by kernel_rfl) (by kernel_rfl) (rn_arith rfl rfl rfl rfl rfl rfl (IntWalk.i64_in _ (by omega))) (fun a74 h74 => ?_); clear h73
          obtain ⟨y75, hy75⟩ : ∃ z, l[(((l.length : Nat) : Int) - 1).toNat]? = some z := ⟨_, List.getElem?_eq_getElem (by first | omega | (simp; done) | (simp; omega))⟩
          refine pl_val (v := .pointer (some ⟨(blkOf v), offOf v + ((((l.length : Nat) : Int) - 1).toNat) * 3, none⟩)) h74 rfl rfl rfl (by kernel_rfl) (by kernel_rfl) (rn_index rfl rfl rfl Try.underlying47 Try.sizeOf40 hs (by omega) (by first | omega | (simp; done) | (simp; omega))) (fun a76 h76 => ?_); clear h74
          refine pl_val (v := .pointer (some ⟨(blkOf v), offOf v + ((((l.length : Nat) : Int) - 1).toNat) * 3, none⟩)) h76 rfl rfl rfl (by kernel_rfl) (by kernel_rfl) (by kernel_rfl) (fun a77 h77 => ?_); clear h76
          refine pl_val (v := .int .i64 y75.1) h77 rfl rfl rfl (by kernel_rfl) (by kernel_rfl) (rn_load1 rfl rfl Try.isAgg3 ((sl_at hs hy75) 0 _ rfl)) (fun a78 h78 => ?_); clear h77
          refine pl_val (v := .int .i64 id) h78 rfl rfl rfl (by kernel_rfl) (by kernel_rfl) (by kernel_rfl) (fun a79 h79 => ?_); clear h78
          refine pl_val (v := .bool (decide (y75.1 ≥ id))) h79 rfl rfl rfl (by kernel_rfl) (by kernel_rfl) (by kernel_rfl) (fun a80 h80 => ?_); clear h79
          refine pl_val (v := .bool (decide (y75.1 ≥ id))) h80 rfl rfl rfl (by kernel_rfl) (by kernel_rfl) (by kernel_rfl) (fun a81 h81 => ?_); clear h80
          refine pl_nil ?_
          refine co_then ?_
          cases hc82 : (decide (y75.1 ≥ id))
          ·
            rw [hc82] at h81
            have hp83 : ¬ (y75.1 ≥ id) := of_decide_eq_false hc82
            clear hc82
            refine co_false h81 rfl ?_
            refine wp_skip ?_
            refine co_then ?_
            refine co_seq ?_
            refine co_reg ?_
            refine pl_val (v := v) h81 rfl rfl rfl (by kernel_rfl) (by kernel_rfl) (by kernel_rfl) (fun a84 h84 => ?_); clear h81
            refine pl_want h84 rfl rfl rfl (op_call (args := #[v]) (R := fun res xw => ∃ u : Value, res = u ∧ xw.ownsRow w.heap.size 40 3 u l.length (l.flatMap pinE) ∧ Below w.heap.size w xw) rfl rfl rfl (by kernel_rfl) (by kernel_rfl) (Try.call64 _ _) (clonePin_any v l w hs (by first | omega | (simp; done) | (simp; omega))) (by rintro e x ⟨u, rfl, hq88, hb89⟩; exact ⟨_, rfl, ⟨u, rfl, hq88, hb89⟩⟩)) ?_; clear h84
            rintro u87 w86 a85 ⟨_, rfl, hq88, hb89⟩ h85
            have hB90 := hb_call hB0 hb89
            have hz91 := hB90.size
            have hz92 := hb89.size
            have hl93 := sl_len (row_sl hq88 pinE_len)
            refine pl_val (v := .int .i64 id) h85 rfl rfl rfl (by kernel_rfl) (by kernel_rfl) (by kernel_rfl) (fun a94 h94 => ?_); clear h85
            refine pl_val (v := .int .u64 ts) h94 rfl rfl rfl (by kernel_rfl) (by kernel_rfl) (by kernel_rfl) (fun a95 h95 => ?_); clear h94
            refine pl_val (v := .agg #[.int .i64 id, .int .u64 ts, .int .i64 8]) h95 rfl rfl rfl (by kernel_rfl) (by kernel_rfl) (by kernel_rfl) (fun a96 h96 => ?_); clear h95
            refine pl_want h96 rfl rfl rfl (op_new (v := fun N => .slice (some ⟨N, 0, none⟩) 1 1) (T := 40) (cs := #[.int .i64 id, .int .u64 ts, .int .i64 8]) (by kernel_rfl) (by kernel_rfl) (by kernel_rfl)) ?_; clear h96
            rintro _ w98 a97 ⟨N99, rfl, hN102, hz103, hk101, hg100⟩ h97
            have ha104 := row_fresh hq88 hN102
            have hB105 := hb_new hB90 hg100
            have hz106 := hB105.size
            have hz107 := hg100.size
            have hr108 := row_kept_new hq88 hg100
            try dsimp only at h97
            refine pl_want h97 rfl rfl rfl (op_append rfl w.heap.size 40 (z := .agg #[.int .i64 0, .int .u64 0, .int .i64 0]) (size := 3) (bytes := 24) Try.underlying47 (by kernel_rfl) rfl rfl rfl hr108 rfl hk101 rfl (by kernel_rfl) (by first | omega | (simp only [List.length_nil, List.length_append, List.length_cons, List.length_take, List.length_drop]; omega)) (by first | omega | (simp only [List.length_nil, List.length_append, List.length_cons, List.length_take, List.length_drop]; omega)) (by omega)) ?_; clear h97
            rintro v111 w110 a109 ⟨hr112, hg113⟩ h109
            have hr112' : w110.ownsRow w.heap.size 40 3 v111 ((l ++ [(id, ts, 8)]).length) ((l ++ [(id, ts, 8)]).flatMap pinE) := row_push (y := (id, ts, 8)) hr112 rfl rfl; clear hr112
            have hB114 := hb_row hB105 hr108 (by omega) hg113
            have hz115 := hB114.size
            have hz116 := hg113.size
            have hk117 := hk101.kept hg113 (ha104)
            refine pl_val (v := v111) h109 rfl rfl rfl (by kernel_rfl) (by kernel_rfl) (by kernel_rfl) (fun a118 h118 => ?_); clear h109
            refine pl_val (v := .int .i64 0) h118 rfl rfl rfl (by kernel_rfl) (by kernel_rfl) (by kernel_rfl) (fun a119 h119 => ?_); clear h118
            refine pl_nil ?_
            refine co_then ?_
            refine wp_ret ?_
            refine co_ret2 h119 rfl rfl rfl ?_
            cases hg.symm.trans (grant_ok (by omega) (by omega) hy75 (by omega) (by omega))
            exact ⟨_, rfl, (row_lows hr112' (by omega)), hB114⟩
          ·
            rw [hc82] at h81
            have hp120 : y75.1 ≥ id := of_decide_eq_true hc82
            clear hc82
            refine co_true h81 rfl ?_
            refine co_seq ?_
            refine co_reg ?_
            refine pl_val (v := .slice none 0 0) h81 rfl rfl rfl (by kernel_rfl) (by kernel_rfl) (by kernel_rfl) (fun a121 h121 => ?_); clear h81
            refine pl_val (v := .int .i64 18) h121 rfl rfl rfl (by kernel_rfl) (by kernel_rfl) (by kernel_rfl) (fun a122 h122 => ?_); clear h121
            refine pl_nil ?_
            refine co_then ?_
            refine wp_ret ?_
            refine co_thenR ?_
            refine co_ret2 h122 rfl rfl rfl ?_
            cases hg.symm.trans (grant_ord (by omega) (by omega) hy75 (by omega) (by omega))
            exact ⟨_, rfl, (row_nilL _ _ _ _ _), hB0⟩
      ·
        rw [hc16] at h15
        have hp123 : id > 1073741824 := of_decide_eq_true hc16
        clear hc16
        refine co_true h15 rfl ?_
        refine co_seq ?_
        refine co_reg ?_
        refine pl_val (v := .slice none 0 0) h15 rfl rfl rfl (by kernel_rfl) (by kernel_rfl) (by kernel_rfl) (fun a124 h124 => ?_); clear h15
        refine pl_val (v := .int .i64 1) h124 rfl rfl rfl (by kernel_rfl) (by kernel_rfl) (by kernel_rfl) (fun a125 h125 => ?_); clear h124
        refine pl_nil ?_
        refine co_then ?_
        refine wp_ret ?_
        refine co_thenR ?_
        refine co_ret2 h125 rfl rfl rfl ?_
        cases hg.symm.trans (grant_arg (by omega) (by omega))
        exact ⟨_, rfl, (row_nilL _ _ _ _ _), hB0⟩
    ·
      rw [hc11] at h10
      have hp126 : id < 1 := of_decide_eq_true hc11
      clear hc11
      refine pl_skip h10 rfl rfl rfl (fun a127 h127 => ?_); clear h10
      refine pl_skip h127 rfl rfl rfl (fun a128 h128 => ?_); clear h127
      refine pl_val (v := .bool true) h128 rfl rfl rfl (by kernel_rfl) (by kernel_rfl) (by kernel_rfl) (fun a129 h129 => ?_); clear h128
      refine pl_nil ?_
      refine co_then ?_
      refine co_true h129 rfl ?_
      refine co_seq ?_
      refine co_reg ?_
      refine pl_val (v := .slice none 0 0) h129 rfl rfl rfl (by kernel_rfl) (by kernel_rfl) (by kernel_rfl) (fun a130 h130 => ?_); clear h129
      refine pl_val (v := .int .i64 1) h130 rfl rfl rfl (by kernel_rfl) (by kernel_rfl) (by kernel_rfl) (fun a131 h131 => ?_); clear h130
      refine pl_nil ?_
      refine co_then ?_
      refine wp_ret ?_
      refine co_thenR ?_
      refine co_ret2 h131 rfl rfl rfl ?_
      cases hg.symm.trans (grant_arg (by omega) (by omega))
      exact ⟨_, rfl, (row_nilL _ _ _ _ _), hB0⟩
  ·
    rw [hc6] at h5
    have hp132 : ((l.length : Nat) : Int) ≥ 3 := of_decide_eq_true hc6
    clear hc6
    refine co_true h5 rfl ?_
    refine co_seq ?_
    refine co_reg ?_
    refine pl_val (v := .slice none 0 0) h5 rfl rfl rfl (by kernel_rfl) (by kernel_rfl) (by kernel_rfl) (fun a133 h133 => ?_); clear h5
    refine pl_val (v := .int .i64 17) h133 rfl rfl rfl (by kernel_rfl) (by kernel_rfl) (by kernel_rfl) (fun a134 h134 => ?_); clear h133
    refine pl_nil ?_
    refine co_then ?_
    refine wp_ret ?_
    refine co_thenR ?_
    refine co_ret2 h134 rfl rfl rfl ?_
    cases hg.symm.trans (grant_full (by omega))
    exact ⟨_, rfl, (row_nilL _ _ _ _ _), hB0⟩
set_option maxRecDepth 100000 in
theorem leaseRenew_any (v : Value) (l : List PinT) (id : Int) (l2 : List PinT) (r : Int) (w : World) (hs : SliceOf pinE 3 w v l) (hlen : l.length ≤ 1000) (hg : renewP l id = (l2, r)) :
    Calls Try.prog 106 #[v, .int .i64 id] w fun e w' => ∃ (u : Value), e = .returned (.tuple #[u, .int .i64 r]) ∧ w'.ownsRow w.heap.size 40 3 u l2.length (l2.flatMap pinE) ∧ Below w.heap.size w w' := by
  have hfl := findP_lt l id
  have hB0 := Below.refl w.heap.size w
  have hl_hs := sl_len hs
  refine co_enter (n := 20) Try.func106 rfl rfl rfl [(0, v), (1, .int .i64 id)] rfl (fun a h0 => ?_)
  refine co_seq ?_
  refine co_reg ?_
  refine pl_val (v := .slice none 0 0) h0 rfl rfl rfl (by kernel_rfl) (by kernel_rfl) (by kernel_rfl) (fun a1 h1 => ?_); clear h0
  refine pl_val (v := .int .i64 0) h1 rfl rfl rfl (by kernel_rfl) (by kernel_rfl) (by kernel_rfl) (fun a2 h2 => ?_); clear h1
  refine pl_nil ?_
  refine co_then ?_
  refine co_seq ?_
  refine co_reg ?_
  refine pl_val (v := v) h2 rfl rfl rfl (by kernel_rfl) (by kernel_rfl) (by kernel_rfl) (fun a3 h3 => ?_); clear h2
  refine pl_val (v := .int .i64 id) h3 rfl rfl rfl (by kernel_rfl) (by kernel_rfl) (by kernel_rfl) (fun a4 h4 => ?_); clear h3
  refine pl_want h4 rfl rfl rfl (op_call (args := #[v, .int .i64 id]) (R := fun res xw => res = .int .i64 (findP l id) ∧ Below w.heap.size w xw) rfl rfl rfl (by kernel_rfl) (by kernel_rfl) (Try.call108 _ _) (place_any v l id w hs) (by rintro e x ⟨rfl, hb7⟩; exact ⟨_, rfl, ⟨rfl, hb7⟩⟩)) ?_; clear h4
  rintro _ w6 a5 ⟨rfl, hb7⟩ h5
  have hB8 := hb_call hB0 hb7
  have hz9 := hB8.size
  have hz10 := hb7.size
  refine pl_val (v := .int .i64 (findP l id)) h5 rfl rfl rfl (by kernel_rfl) (by kernel_rfl) (by kernel_rfl) (fun a11 h11 => ?_); clear h5
  refine pl_nil ?_
  refine co_then ?_
  refine co_seq ?_
  refine co_seq ?_
  refine co_reg ?_
  refine pl_val (v := .int .i64 (findP l id)) h11 rfl rfl rfl (by kernel_rfl) (by kernel_rfl) (by kernel_rfl) (fun a12 h12 => ?_); clear h11
  refine pl_val (v := .bool (decide (findP l id < 0))) h12 rfl rfl rfl (by kernel_rfl) (by kernel_rfl) (by kernel_rfl) (fun a13 h13 => ?_); clear h12
  refine pl_nil ?_
  refine co_then ?_
  cases hc14 : (decide (findP l id < 0))
  ·
    rw [hc14] at h13
    have hp15 : ¬ (findP l id < 0) := of_decide_eq_false hc14
    clear hc14
    refine co_false h13 rfl ?_
    refine wp_skip ?_
    refine co_then ?_
    refine co_seq ?_
    refine co_reg ?_
    refine pl_val (v := v) h13 rfl rfl rfl (by kernel_rfl) (by kernel_rfl) (by kernel_rfl) (fun a16 h16 => ?_); clear h13
    refine pl_want h16 rfl rfl rfl (op_call (args := #[v]) (R := fun res xw => ∃ u : Value, res = u ∧ xw.ownsRow w6.heap.size 40 3 u l.length (l.flatMap pinE) ∧ Below w6.heap.size w6 xw) rfl rfl rfl (by kernel_rfl) (by kernel_rfl) (Try.call64 _ _) (clonePin_any v l w6 (hs.below hB8) (by first | omega | (simp; done) | (simp; omega))) (by rintro e x ⟨u, rfl, hq20, hb21⟩; exact ⟨_, rfl, ⟨u, rfl, hq20, hb21⟩⟩)) ?_; clear h16
    rintro u19 w18 a17 ⟨_, rfl, hq20, hb21⟩ h17
    have hB22 := hb_call hB8 hb21
    have hz23 := hB22.size
    have hz24 := hb21.size
    have hl25 := sl_len (row_sl hq20 pinE_len)
    refine pl_val (v := u19) h17 rfl rfl rfl (by kernel_rfl) (by kernel_rfl) (by kernel_rfl) (fun a26 h26 => ?_); clear h17
    refine pl_nil ?_
    refine co_then ?_
    refine co_seq ?_
    refine co_reg ?_
    refine pl_val (v := u19) h26 rfl rfl rfl (by kernel_rfl) (by kernel_rfl) (by kernel_rfl) (fun a27 h27 => ?_); clear h26
    refine pl_val (v := .int .i64 (findP l id)) h27 rfl rfl rfl (by kernel_rfl) (by kernel_rfl) (by kernel_rfl) (fun a28 h28 => ?_); clear h27
    obtain ⟨y29, hy29⟩ : ∃ z, l[(findP l id).toNat]? = some z := ⟨_, List.getElem?_eq_getElem (by first | omega | (simp; done) | (simp; omega))⟩
    refine pl_val (v := .pointer (some ⟨(blkOf u19), offOf u19 + ((findP l id).toNat) * 3, none⟩)) h28 rfl rfl rfl (by kernel_rfl) (by kernel_rfl) (rn_index rfl rfl rfl Try.underlying47 Try.sizeOf40 (row_sl hq20 pinE_len) (by omega) (by first | omega | (simp; done) | (simp; omega))) (fun a30 h30 => ?_); clear h28
    refine pl_val (v := .pointer (some ⟨(blkOf u19), offOf u19 + ((findP l id).toNat) * 3 + 2, none⟩)) h30 rfl rfl rfl (by kernel_rfl) (by kernel_rfl) (by kernel_rfl) (fun a31 h31 => ?_); clear h30
    refine pl_doW h31 rfl rfl (op_storeRow (c := ((findP l id).toNat) * 3 + 2) rfl rfl rfl rfl Try.sizeOf3 hq20 (flat_lt pinE_len (by omega) (by omega)) (by first | rfl | omega)) ?_; clear h31
    rintro _ w33 a32 ⟨hr34, hz35, hg36⟩ h32
    have hr34' := row_set (y' := (y29.1, y29.2.1, 8)) hr34 pinE_len hy29 (by omega) rfl; clear hr34
    have hB37 := hb_row hB22 hq20 (by omega) hg36
    have hz38 := hB37.size
    have hz39 := hg36.size
    refine pl_nil ?_
    refine co_then ?_
    refine co_seq ?_
    refine co_reg ?_
    refine pl_val (v := u19) h32 rfl rfl rfl (by kernel_rfl) (by kernel_rfl) (by kernel_rfl) (fun a40 h40 => ?_); clear h32
    refine pl_val (v := u19) h40 rfl rfl rfl (by kernel_rfl) (by kernel_rfl) (by kernel_rfl) (fun a41 h41 => ?_); clear h40
    refine pl_val (v := .int .i64 0) h41 rfl rfl rfl (by kernel_rfl) (by kernel_rfl) (by kernel_rfl) (fun a42 h42 => ?_); clear h41
    refine pl_nil ?_
    refine co_then ?_
    refine wp_ret ?_
    refine co_ret2 h42 rfl rfl rfl ?_
    cases hg.symm.trans (renew_ok (by omega) rfl hy29)
    exact ⟨_, rfl, (row_lows hr34' (by omega)), hB37⟩
  ·
    rw [hc14] at h13
    have hp43 : findP l id < 0 := of_decide_eq_true hc14
    clear hc14
    refine co_true h13 rfl ?_
    refine co_seq ?_
    refine co_reg ?_
    refine pl_val (v := .slice none 0 0) h13 rfl rfl rfl (by kernel_rfl) (by kernel_rfl) (by kernel_rfl) (fun a44 h44 => ?_); clear h13
    refine pl_val (v := .int .i64 7) h44 rfl rfl rfl (by kernel_rfl) (by kernel_rfl) (by kernel_rfl) (fun a45 h45 => ?_); clear h44
    refine pl_nil ?_
    refine co_then ?_
    refine wp_ret ?_
    refine co_thenR ?_
    refine co_ret2 h45 rfl rfl rfl ?_
    cases hg.symm.trans (renew_no (by omega))
    exact ⟨_, rfl, (row_nilL _ _ _ _ _), hB8⟩
end Go.Proofs.Ytlbemlodcdgakaa

/- Package lease: Free, the document's Same. Conditions: at most 1000 pins. -/
namespace Go.Proofs.Ytlbemlodcdgakaa
open Go.RowKit Go.PlainAid
set_option linter.unusedVariables false


theorem del_any (v : Value) (l : List PinT) (i base : Nat) (w : World) (hown : w.ownsRow base 40 3 v l.length (l.flatMap pinE)) (hi : i < l.length) :
    Calls Try.prog 109 #[v, .int .i64 i, .int .i64 ((i : Int) + 1)] w fun e w' => ∃ u, e = .returned u ∧ w'.ownsRow base 40 3 u (l.take i ++ l.drop (i + 1)).length ((l.take i ++ l.drop (i + 1)).flatMap pinE) ∧ w.grownBy w' v.ownBlock := by
  rcases hown.2 with ⟨_, h0⟩ | ⟨g, cap, cur, rfl, _⟩
  · omega
  · refine (del_pin g l.length (l.length - 1) cap i base l w hown rfl hi (by omega)).mono ?_
    rintro e w' ⟨rfl, h1, h2⟩
    refine ⟨_, rfl, ?_, by simpa [Value.ownBlock] using h2⟩
    have e1 : (l.take i ++ l.drop (i + 1)).length = l.length - 1 := by simp; omega
    rw [e1]; exact h1

set_option maxRecDepth 100000 in
theorem leaseFree_any (v : Value) (l : List PinT) (id : Int) (l2 : List PinT) (r : Int) (w : World) (hs : SliceOf pinE 3 w v l) (hlen : l.length ≤ 1000) (hg : freeP l id = (l2, r)) :
    Calls Try.prog 51 #[v, .int .i64 id] w fun e w' => ∃ (u : Value), e = .returned (.tuple #[u, .int .i64 r]) ∧ w'.ownsRow w.heap.size 40 3 u l2.length (l2.flatMap pinE) ∧ Below w.heap.size w w' := by
  have hfl := findP_lt l id
  have hB0 := Below.refl w.heap.size w
  have hl_hs := sl_len hs
  refine co_enter (n := 18) Try.func51 rfl rfl rfl [(0, v), (1, .int .i64 id)] rfl (fun a h0 => ?_)
  refine co_seq ?_
  refine co_reg ?_
  refine pl_val (v := .slice none 0 0) h0 rfl rfl rfl (by kernel_rfl) (by kernel_rfl) (by kernel_rfl) (fun a1 h1 => ?_); clear h0
  refine pl_val (v := .int .i64 0) h1 rfl rfl rfl (by kernel_rfl) (by kernel_rfl) (by kernel_rfl) (fun a2 h2 => ?_); clear h1
  refine pl_nil ?_
  refine co_then ?_
  refine co_seq ?_
  refine co_reg ?_
  refine pl_val (v := v) h2 rfl rfl rfl (by kernel_rfl) (by kernel_rfl) (by kernel_rfl) (fun a3 h3 => ?_); clear h2
  refine pl_val (v := .int .i64 id) h3 rfl rfl rfl (by kernel_rfl) (by kernel_rfl) (by kernel_rfl) (fun a4 h4 => ?_); clear h3
  refine pl_want h4 rfl rfl rfl (op_call (args := #[v, .int .i64 id]) (R := fun res xw => res = .int .i64 (findP l id) ∧ Below w.heap.size w xw) rfl rfl rfl (by kernel_rfl) (by kernel_rfl) (Try.call108 _ _) (place_any v l id w hs) (by rintro e x ⟨rfl, hb7⟩; exact ⟨_, rfl, ⟨rfl, hb7⟩⟩)) ?_; clear h4
  rintro _ w6 a5 ⟨rfl, hb7⟩ h5
  have hB8 := hb_call hB0 hb7
  have hz9 := hB8.size
  have hz10 := hb7.size
  refine pl_val (v := .int .i64 (findP l id)) h5 rfl rfl rfl (by kernel_rfl) (by kernel_rfl) (by kernel_rfl) (fun a11 h11 => ?_); clear h5
  refine pl_nil ?_
  refine co_then ?_
  refine co_seq ?_
  refine co_seq ?_
  refine co_reg ?_
  refine pl_val (v := .int .i64 (findP l id)) h11 rfl rfl rfl (by kernel_rfl) (by kernel_rfl) (by kernel_rfl) (fun a12 h12 => ?_); clear h11
  refine pl_val (v := .bool (decide (findP l id < 0))) h12 rfl rfl rfl (by kernel_rfl) (by kernel_rfl) (by kernel_rfl) (fun a13 h13 => ?_); clear h12
  refine pl_nil ?_
  refine co_then ?_
  cases hc14 : (decide (findP l id < 0))
  ·
    rw [hc14] at h13
    have hp15 : ¬ (findP l id < 0) := of_decide_eq_false hc14
    clear hc14
    refine co_false h13 rfl ?_
    refine wp_skip ?_
    refine co_then ?_
    refine co_seq ?_
    refine co_reg ?_
    refine pl_val (v := v) h13 rfl rfl rfl (by kernel_rfl) (by kernel_rfl) (by kernel_rfl) (fun a16 h16 => ?_); clear h13
    refine pl_want h16 rfl rfl rfl (op_call (args := #[v]) (R := fun res xw => ∃ u : Value, res = u ∧ xw.ownsRow w6.heap.size 40 3 u l.length (l.flatMap pinE) ∧ Below w6.heap.size w6 xw) rfl rfl rfl (by kernel_rfl) (by kernel_rfl) (Try.call64 _ _) (clonePin_any v l w6 (hs.below hB8) (by first | omega | (simp; done) | (simp; omega))) (by rintro e x ⟨u, rfl, hq20, hb21⟩; exact ⟨_, rfl, ⟨u, rfl, hq20, hb21⟩⟩)) ?_; clear h16
    rintro u19 w18 a17 ⟨_, rfl, hq20, hb21⟩ h17
    have hB22 := hb_call hB8 hb21
    have hz23 := hB22.size
    have hz24 := hb21.size
    have hl25 := sl_len (row_sl hq20 pinE_len)
    refine pl_val (v := .int .i64 (findP l id)) h17 rfl rfl rfl (by kernel_rfl) (by kernel_rfl) (by kernel_rfl) (fun a26 h26 => ?_); clear h17
    refine pl_val (v := .int .i64 (findP l id)) h26 rfl rfl rfl (by kernel_rfl) (by kernel_rfl) (by kernel_rfl) (fun a27 h27 => ?_); clear h26
    refine pl_val (v := .int .i64 ((findP l id) + 1)) h27 rfl rfl rfl (by kernel_rfl) (by kernel_rfl) (rn_arith rfl rfl rfl rfl rfl rfl (IntWalk.i64_in _ (by omega))) (fun a28 h28 => ?_); clear h27
    have hj0 : findP l id = (((findP l id).toNat : Nat) : Int) := by omega
    refine pl_want h28 rfl rfl rfl (op_call (args := #[u19, .int .i64 (findP l id), .int .i64 ((findP l id) + 1)]) (R := fun res xw => xw.ownsRow w6.heap.size 40 3 res (l.take (findP l id).toNat ++ l.drop ((findP l id).toNat + 1)).length ((l.take (findP l id).toNat ++ l.drop ((findP l id).toNat + 1)).flatMap pinE) ∧ w18.grownBy xw u19.ownBlock) rfl rfl rfl (by kernel_rfl) (by kernel_rfl) (Try.call109 _ _) (by have := del_any u19 l ((findP l id).toNat) (w6.heap.size) w18 hq20 (by omega); rw [← hj0] at this; exact this) (by rintro e x ⟨u, rfl, h1, h2⟩; exact ⟨_, rfl, h1, h2⟩)) ?_; clear h28
    rintro u33 w30 a29 ⟨hr31, hg32⟩ h29
    have hB34 := hb_row hB22 hq20 (by omega) hg32
    have hz35 := hB34.size
    have hz36 := hg32.size
    refine pl_val (v := u33) h29 rfl rfl rfl (by kernel_rfl) (by kernel_rfl) (by kernel_rfl) (fun a37 h37 => ?_); clear h29
    refine pl_val (v := .int .i64 0) h37 rfl rfl rfl (by kernel_rfl) (by kernel_rfl) (by kernel_rfl) (fun a38 h38 => ?_); clear h37
    refine pl_nil ?_
    refine co_then ?_
    refine wp_ret ?_
    refine co_ret2 h38 rfl rfl rfl ?_
    cases hg.symm.trans (free_ok (by omega) rfl)
    exact ⟨_, rfl, (row_lows hr31 (by omega)), hB34⟩
  ·
    rw [hc14] at h13
    have hp39 : findP l id < 0 := of_decide_eq_true hc14
    clear hc14
    refine co_true h13 rfl ?_
    refine co_seq ?_
    refine co_reg ?_
    refine pl_val (v := .slice none 0 0) h13 rfl rfl rfl (by kernel_rfl) (by kernel_rfl) (by kernel_rfl) (fun a40 h40 => ?_); clear h13
    refine pl_val (v := .int .i64 7) h40 rfl rfl rfl (by kernel_rfl) (by kernel_rfl) (by kernel_rfl) (fun a41 h41 => ?_); clear h40
    refine pl_nil ?_
    refine co_then ?_
    refine wp_ret ?_
    refine co_thenR ?_
    refine co_ret2 h41 rfl rfl rfl ?_
    cases hg.symm.trans (free_no (by omega))
    exact ⟨_, rfl, (row_nilL _ _ _ _ _), hB8⟩
end Go.Proofs.Ytlbemlodcdgakaa

/- Walks that may turn some blocks that were there (S). Conditions: none. -/
namespace Go.Proofs.Ytlbemlodcdgakaa
open Go.RowKit
set_option linter.unusedVariables false

section
variable {P : Program} {n : Nat} {m : List (Nat × Value)} {w x w0 : World} {o : Oper} {N : Nat} {T : TypeId} {cs : Array Value} {S : Nat → Prop}
theorem fb_new (h : But S w0 w) (hg : w.grownBy x none) : But S w0 x := h.trans (But.of_below (grown_below hg))
theorem fb_call (h : But S w0 w) (hb : Below w.heap.size w x) : But S w0 x := h.trans (But.of_below hb)
theorem fb_at (h : But S w0 w) (hg : w.grownBy x (some N)) (hN : N < w0.heap.size → S N) : But S w0 x :=
  h.trans' (S' := fun k => some N = some k) (grown_butU hg) (fun i hi e => by cases e; exact hN hi)
theorem fb_foot {S' : Nat → Prop} (h : But S w0 w) (hb : But S' w x) (hs : ∀ i, i < w0.heap.size → S' i → S i) : But S w0 x := h.trans' hb hs
theorem hb_foot {S' : Nat → Prop} (h : Below w0.heap.size w0 w) (hb : But S' w x) (hs : ∀ i, i < w.heap.size → S' i → w0.heap.size ≤ i) : Below w0.heap.size w0 x := below_but h hb h.size hs
theorem Blk.but (h : Blk w N T cs) (hb : But S w x) (hn : ¬ S N) : Blk x N T cs := by
  have hl := h.lt
  unfold Blk at h ⊢
  rw [hb.block N hl hn]; exact h
end
end Go.Proofs.Ytlbemlodcdgakaa

/- Objects with a footprint: what holds of them depends on the blocks in S alone; a call turns S, and what it makes joins it. Conditions: none. -/
namespace Go.Proofs.Ytlbemlodcdgakaa
open Go.RowKit Go.PlainAid
set_option linter.unusedVariables false

/-- S' holds what S held, and what was made since; nothing but S was turned. -/
structure Grew (S S' : Nat → Prop) (w x : World) : Prop where
  sub : ∀ q, S' q → S q ∨ w.heap.size ≤ q
  but : But S w x
section
variable {S S' D : Nat → Prop} {n N : Nat} {w x : World} {v u : Value} {T e : TypeId} {cs : Array Value} {B sz k : Nat} {xs : List Value}
theorem Grew.lo {n0 : Nat} (h : Grew S S' w x) (hlo : ∀ q, S q → n0 ≤ q) (hn : n0 ≤ w.heap.size) : ∀ q, S' q → n0 ≤ q := fun q hq => by
  rcases h.sub q hq with k | k
  · exact hlo q k
  · omega
theorem Grew.off (h : Grew S S' w x) (hN : ¬ S N) (hl : N < w.heap.size) : ¬ S' N := fun hq => by
  rcases h.sub N hq with k | k
  · exact hN k
  · omega
end
end Go.Proofs.Ytlbemlodcdgakaa

/- Package mstate: one that nobody made. Conditions: none. -/
namespace Go.Proofs.Ytlbemlodcdgakaa
open Go.RowKit Go.PlainAid
set_option linter.unusedVariables false
set_option linter.unusedSimpArgs false


def mxI (a b : Int) : Int := if a < b then b else a
theorem mxI_p (a b : Int) : mxI a b ≥ a ∧ mxI a b ≥ b ∧ (mxI a b = a ∨ mxI a b = b) := by unfold mxI; split <;> omega
theorem sl_butS {α : Type} {enc : α → List Value} {sz : Nat} {w x : World} {v : Value} {l : List α} {S : Nat → Prop} (h : SliceOf enc sz w v l) (hb : But S w x) (hv : l ≠ [] → ∀ k, v.ownBlock = some k → ¬ S k) : SliceOf enc sz x v l := by
  obtain ⟨ao, cap, rfl, h1, h2, h3, h4⟩ := h
  refine ⟨ao, cap, rfl, h1, h2, h3, fun j hj => ?_⟩
  obtain ⟨b, off, rfl, hr⟩ := h4 j hj
  exact ⟨b, off, rfl, fun i u hu => hb.cell (hv (fun e => by rw [e] at hj; exact absurd hj (by simp)) b rfl) (hr i u hu)⟩
theorem co_unroll {P : Program} {c : Code} {Q : Exit → Act → World → Prop} {n : Nat} {a : Act} {w : World} (h : c.wp P (Exit.then (Code.rounds P c Q n) Q) a w) : Code.rounds P c Q (n + 1) a w := h

set_option maxRecDepth 100000 in
theorem mszeroN  (w : World)  :
    Calls Try.prog 46 #[.pointer none] w fun e w' => e = .returned (.bool true) ∧ Below w.heap.size w w' := by
 have hB0 := Below.refl w.heap.size w
 refine co_enter (n := 12) Try.func46 rfl rfl rfl [(0, .pointer none)] rfl (fun a h0 => ?_)
 refine co_seq ?_
 refine co_reg ?_
 refine pk0 (v := .bool false) h0 rfl fun a1 h1 => ?_; clear h0
 refine pl_nil ?_
 refine co_then ?_
 refine co_seq ?_
 refine co_reg ?_
 refine pk0 (v := .pointer none) h1 rfl fun a2 h2 => ?_; clear h1
 refine pk0 (v := .bool true) h2 rfl fun a3 h3 => ?_; clear h2
 refine pk0 (v := .bool true) h3 rfl fun a4 h4 => ?_; clear h3
 refine psk h4 rfl fun a5 h5 => ?_; clear h4
 refine psk h5 rfl fun a6 h6 => ?_; clear h5
 refine psk h6 rfl fun a7 h7 => ?_; clear h6
 refine psk h7 rfl fun a8 h8 => ?_; clear h7
 refine psk h8 rfl fun a9 h9 => ?_; clear h8
 refine pk0 (v := .bool true) h9 rfl fun a10 h10 => ?_; clear h9
 refine pk0 (v := .bool true) h10 rfl fun a11 h11 => ?_; clear h10
 refine pl_nil ?_
 refine co_then ?_
 refine wp_ret ?_
 refine co_ret1 h11 rfl rfl ?_
 exact ⟨rfl, hB0⟩
set_option maxRecDepth 100000 in
theorem mszeroF (b : Nat) (w : World) (hb : Blk w b 65 #[.bool false, .int .i64 0, .slice none 0 0, .int .u64 0, .slice none 0 0, .int .u64 0, .slice none 0 0, .int .i64 0, .bool false, .int .i64 0, .int .i64 0, .int .i64 0, .int .i64 0, .bool false, .int .i64 0, .int .i64 0, .int .i64 0, .int .i64 0, .bool false, .int .i64 0, .int .i64 0, .int .i64 0, .int .i64 0]) :
    Calls Try.prog 46 #[pt b 0] w fun e w' => e = .returned (.bool true) ∧ Below w.heap.size w w' := by
 have hB0 := Below.refl w.heap.size w
 have hl_hb := hb.lt
 refine co_enter (n := 12) Try.func46 rfl rfl rfl [(0, pt b 0)] rfl (fun a h0 => ?_)
 refine co_seq ?_
 refine co_reg ?_
 refine pk0 (v := .bool false) h0 rfl fun a1 h1 => ?_; clear h0
 refine pl_nil ?_
 refine co_then ?_
 refine co_seq ?_
 refine co_reg ?_
 refine pk0 (v := pt b 0) h1 rfl fun a2 h2 => ?_; clear h1
 refine pk0 (v := .bool false) h2 rfl fun a3 h3 => ?_; clear h2
 refine pk0 (v := .bool false) h3 rfl fun a4 h4 => ?_; clear h3
 refine pk0 (v := pt b 0) h4 rfl fun a5 h5 => ?_; clear h4
 refine pk0 (v := pt b 0) h5 rfl fun a6 h6 => ?_; clear h5
 refine pk0 (v := pt b 0) h6 rfl fun a7 h7 => ?_; clear h6
 refine pk (v := .bool false) h7 rfl (rn_load1 rfl rfl Try.isAgg4 (hb.cell rfl)) fun a8 h8 => ?_; clear h7
 refine pk0 (v := .bool true) h8 rfl fun a9 h9 => ?_; clear h8
 refine pk0 (v := .bool true) h9 rfl fun a10 h10 => ?_; clear h9
 refine pk0 (v := .bool true) h10 rfl fun a11 h11 => ?_; clear h10
 refine pl_nil ?_
 refine co_then ?_
 refine wp_ret ?_
 refine co_ret1 h11 rfl rfl ?_
 exact ⟨rfl, hB0⟩
set_option maxRecDepth 100000 in
theorem msApplyN (d : NoteD) (mv : Value) (lv : Value) (ev : Value) (w : World) (hm : SliceOf memE 2 w mv d.ms) (hg : SliceOf (intE .i64) 1 w lv d.lg) (he : SliceOf opE 3 w ev d.el) :
    Calls Try.prog 12 #[.pointer none, .agg #[.int .i64 d.k, .int .i64 d.n, .int .u64 d.t, .int .i64 d.ep, mv, .int .u64 d.fl, lv, .int .i64 d.ec, .int .i64 d.er, ev, .int .u64 d.ets, .int .i64 d.pid, .int .u64 d.pat, .int .i64 d.plf, .int .i64 d.sc, .int .i64 d.sr, .int .i64 d.se, .int .i64 d.sp]] w fun e w' => e = .returned (.int .i64 8) ∧ Below w.heap.size w w' := by
 have hB0 := Below.refl w.heap.size w
 have hl_hm := sl_len hm
 have hl_hg := sl_len hg
 have hl_he := sl_len he
 refine co_enter (n := 113) Try.func12 rfl rfl rfl [(0, .pointer none), (1, .agg #[.int .i64 d.k, .int .i64 d.n, .int .u64 d.t, .int .i64 d.ep, mv, .int .u64 d.fl, lv, .int .i64 d.ec, .int .i64 d.er, ev, .int .u64 d.ets, .int .i64 d.pid, .int .u64 d.pat, .int .i64 d.plf, .int .i64 d.sc, .int .i64 d.sr, .int .i64 d.se, .int .i64 d.sp])] rfl (fun a h0 => ?_)
 refine co_seq ?_
 refine co_reg ?_
 refine pw h0 rfl (op_new (v := fun N => pt N 0) (T := 44) (cs := #[.int .i64 d.k, .int .i64 d.n, .int .u64 d.t, .int .i64 d.ep, mv, .int .u64 d.fl, lv, .int .i64 d.ec, .int .i64 d.er, ev, .int .u64 d.ets, .int .i64 d.pid, .int .u64 d.pat, .int .i64 d.plf, .int .i64 d.sc, .int .i64 d.sr, .int .i64 d.se, .int .i64 d.sp]) (by kernel_rfl) (by kernel_rfl) (by kernel_rfl)) ?_; clear h0
 rintro _ w2 a1 ⟨N3, rfl, hN6, hz7, hk5, hg4⟩ h1
 have hz8 := hg4.size
 try dsimp only at h1
 refine pk0 (v := .int .i64 0) h1 rfl fun a9 h9 => ?_; clear h1
 refine pl_nil ?_
 refine co_then ?_
 refine co_seq ?_
 refine co_seq ?_
 refine co_reg ?_
 refine pk0 (v := .pointer none) h9 rfl fun a10 h10 => ?_; clear h9
 refine pw h10 rfl (op_call (args := #[.pointer none]) (R := fun res xw => res = .bool true ∧ Below w2.heap.size w2 xw) rfl rfl rfl (by kernel_rfl) (by kernel_rfl) (Try.call46 _ _) (mszeroN  w2 ) (by rintro e x ⟨rfl, hb13⟩; exact ⟨_, rfl, ⟨rfl, hb13⟩⟩)) ?_; clear h10
 rintro _ w12 a11 ⟨rfl, hb13⟩ h11
 have hz14 := hb13.size
 refine pl_nil ?_
 refine co_then ?_
 refine co_true h11 rfl ?_
 refine co_seq ?_
 refine co_reg ?_
 refine pk0 (v := .int .i64 8) h11 rfl fun a15 h15 => ?_; clear h11
 refine pl_nil ?_
 refine co_then ?_
 refine wp_ret ?_
 refine co_thenR ?_
 refine co_ret1 h15 rfl rfl ?_
 have hB16 := hb_new hB0 hg4
 have hB17 := hb_call hB16 hb13
 exact ⟨rfl, hB17⟩
set_option maxRecDepth 100000 in
theorem msApplyF (b : Nat) (d : NoteD) (mv : Value) (lv : Value) (ev : Value) (w : World) (hb : Blk w b 65 #[.bool false, .int .i64 0, .slice none 0 0, .int .u64 0, .slice none 0 0, .int .u64 0, .slice none 0 0, .int .i64 0, .bool false, .int .i64 0, .int .i64 0, .int .i64 0, .int .i64 0, .bool false, .int .i64 0, .int .i64 0, .int .i64 0, .int .i64 0, .bool false, .int .i64 0, .int .i64 0, .int .i64 0, .int .i64 0]) (hm : SliceOf memE 2 w mv d.ms) (hg : SliceOf (intE .i64) 1 w lv d.lg) (he : SliceOf opE 3 w ev d.el) :
    Calls Try.prog 12 #[pt b 0, .agg #[.int .i64 d.k, .int .i64 d.n, .int .u64 d.t, .int .i64 d.ep, mv, .int .u64 d.fl, lv, .int .i64 d.ec, .int .i64 d.er, ev, .int .u64 d.ets, .int .i64 d.pid, .int .u64 d.pat, .int .i64 d.plf, .int .i64 d.sc, .int .i64 d.sr, .int .i64 d.se, .int .i64 d.sp]] w fun e w' => e = .returned (.int .i64 8) ∧ Below w.heap.size w w' := by
 have hB0 := Below.refl w.heap.size w
 have hl_hb := hb.lt
 have hl_hm := sl_len hm
 have hl_hg := sl_len hg
 have hl_he := sl_len he
 refine co_enter (n := 113) Try.func12 rfl rfl rfl [(0, pt b 0), (1, .agg #[.int .i64 d.k, .int .i64 d.n, .int .u64 d.t, .int .i64 d.ep, mv, .int .u64 d.fl, lv, .int .i64 d.ec, .int .i64 d.er, ev, .int .u64 d.ets, .int .i64 d.pid, .int .u64 d.pat, .int .i64 d.plf, .int .i64 d.sc, .int .i64 d.sr, .int .i64 d.se, .int .i64 d.sp])] rfl (fun a h0 => ?_)
 refine co_seq ?_
 refine co_reg ?_
 refine pw h0 rfl (op_new (v := fun N => pt N 0) (T := 44) (cs := #[.int .i64 d.k, .int .i64 d.n, .int .u64 d.t, .int .i64 d.ep, mv, .int .u64 d.fl, lv, .int .i64 d.ec, .int .i64 d.er, ev, .int .u64 d.ets, .int .i64 d.pid, .int .u64 d.pat, .int .i64 d.plf, .int .i64 d.sc, .int .i64 d.sr, .int .i64 d.se, .int .i64 d.sp]) (by kernel_rfl) (by kernel_rfl) (by kernel_rfl)) ?_; clear h0
 rintro _ w2 a1 ⟨N3, rfl, hN6, hz7, hk5, hg4⟩ h1
 have hz8 := hg4.size
 try dsimp only at h1
 refine pk0 (v := .int .i64 0) h1 rfl fun a9 h9 => ?_; clear h1
 refine pl_nil ?_
 refine co_then ?_
 refine co_seq ?_
 refine co_seq ?_
 refine co_reg ?_
 refine pk0 (v := pt b 0) h9 rfl fun a10 h10 => ?_; clear h9
 have hk13 := hb.kept hg4 (by simp)
 refine pw h10 rfl (op_call (args := #[pt b 0]) (R := fun res xw => res = .bool true ∧ Below w2.heap.size w2 xw) rfl rfl rfl (by kernel_rfl) (by kernel_rfl) (Try.call46 _ _) (mszeroF b w2 hk13) (by rintro e x ⟨rfl, hb14⟩; exact ⟨_, rfl, ⟨rfl, hb14⟩⟩)) ?_; clear h10
 rintro _ w12 a11 ⟨rfl, hb14⟩ h11
 have hz15 := hb14.size
 refine pl_nil ?_
 refine co_then ?_
 refine co_true h11 rfl ?_
 refine co_seq ?_
 refine co_reg ?_
 refine pk0 (v := .int .i64 8) h11 rfl fun a16 h16 => ?_; clear h11
 refine pl_nil ?_
 refine co_then ?_
 refine wp_ret ?_
 refine co_thenR ?_
 refine co_ret1 h16 rfl rfl ?_
 have hB17 := hb_new hB0 hg4
 have hB18 := hb_call hB17 hb14
 exact ⟨rfl, hB18⟩
set_option maxRecDepth 100000 in
theorem msNotesN  (w : World)  :
    Calls Try.prog 13 #[.pointer none] w fun e w' => e = .returned (.slice none 0 0) ∧ Below w.heap.size w w' := by
 have hB0 := Below.refl w.heap.size w
 refine co_enter (n := 79) Try.func13 rfl rfl rfl [(0, .pointer none)] rfl (fun a h0 => ?_)
 refine co_seq ?_
 refine co_reg ?_
 refine pw h0 rfl (op_new (v := fun N => pt N 0) (T := 25) (cs := #[.pointer none]) (by kernel_rfl) (by kernel_rfl) (by kernel_rfl)) ?_; clear h0
 rintro _ w2 a1 ⟨N3, rfl, hN6, hz7, hk5, hg4⟩ h1
 have hz8 := hg4.size
 try dsimp only at h1
 refine pk0 (v := .slice none 0 0) h1 rfl fun a9 h9 => ?_; clear h1
 refine pl_nil ?_
 refine co_then ?_
 refine co_seq ?_
 refine co_seq ?_
 refine co_reg ?_
 refine pk (v := .pointer none) h9 rfl (rn_load1 rfl rfl Try.isAgg25 (hk5.cell rfl)) fun a10 h10 => ?_; clear h9
 refine pw h10 rfl (op_call (args := #[.pointer none]) (R := fun res xw => res = .bool true ∧ Below w2.heap.size w2 xw) rfl rfl rfl (by kernel_rfl) (by kernel_rfl) (Try.call46 _ _) (mszeroN  w2 ) (by rintro e x ⟨rfl, hb13⟩; exact ⟨_, rfl, ⟨rfl, hb13⟩⟩)) ?_; clear h10
 rintro _ w12 a11 ⟨rfl, hb13⟩ h11
 have hz14 := hb13.size
 refine pl_nil ?_
 refine co_then ?_
 refine co_true h11 rfl ?_
 refine co_seq ?_
 refine co_reg ?_
 refine pk0 (v := .slice none 0 0) h11 rfl fun a15 h15 => ?_; clear h11
 refine pl_nil ?_
 refine co_then ?_
 refine wp_ret ?_
 refine co_thenR ?_
 refine co_ret1 h15 rfl rfl ?_
 have hB16 := hb_new hB0 hg4
 have hB17 := hb_call hB16 hb13
 exact ⟨rfl, hB17⟩
set_option maxRecDepth 100000 in
theorem msNotesF (b : Nat) (w : World) (hb : Blk w b 65 #[.bool false, .int .i64 0, .slice none 0 0, .int .u64 0, .slice none 0 0, .int .u64 0, .slice none 0 0, .int .i64 0, .bool false, .int .i64 0, .int .i64 0, .int .i64 0, .int .i64 0, .bool false, .int .i64 0, .int .i64 0, .int .i64 0, .int .i64 0, .bool false, .int .i64 0, .int .i64 0, .int .i64 0, .int .i64 0]) :
    Calls Try.prog 13 #[pt b 0] w fun e w' => e = .returned (.slice none 0 0) ∧ Below w.heap.size w w' := by
 have hB0 := Below.refl w.heap.size w
 have hl_hb := hb.lt
 refine co_enter (n := 79) Try.func13 rfl rfl rfl [(0, pt b 0)] rfl (fun a h0 => ?_)
 refine co_seq ?_
 refine co_reg ?_
 refine pw h0 rfl (op_new (v := fun N => pt N 0) (T := 25) (cs := #[pt b 0]) (by kernel_rfl) (by kernel_rfl) (by kernel_rfl)) ?_; clear h0
 rintro _ w2 a1 ⟨N3, rfl, hN6, hz7, hk5, hg4⟩ h1
 have hz8 := hg4.size
 try dsimp only at h1
 refine pk0 (v := .slice none 0 0) h1 rfl fun a9 h9 => ?_; clear h1
 refine pl_nil ?_
 refine co_then ?_
 refine co_seq ?_
 refine co_seq ?_
 refine co_reg ?_
 refine pk (v := pt b 0) h9 rfl (rn_load1 rfl rfl Try.isAgg25 (hk5.cell rfl)) fun a10 h10 => ?_; clear h9
 have hk13 := hb.kept hg4 (by simp)
 refine pw h10 rfl (op_call (args := #[pt b 0]) (R := fun res xw => res = .bool true ∧ Below w2.heap.size w2 xw) rfl rfl rfl (by kernel_rfl) (by kernel_rfl) (Try.call46 _ _) (mszeroF b w2 hk13) (by rintro e x ⟨rfl, hb14⟩; exact ⟨_, rfl, ⟨rfl, hb14⟩⟩)) ?_; clear h10
 rintro _ w12 a11 ⟨rfl, hb14⟩ h11
 have hz15 := hb14.size
 refine pl_nil ?_
 refine co_then ?_
 refine co_true h11 rfl ?_
 refine co_seq ?_
 refine co_reg ?_
 refine pk0 (v := .slice none 0 0) h11 rfl fun a16 h16 => ?_; clear h11
 refine pl_nil ?_
 refine co_then ?_
 refine wp_ret ?_
 refine co_thenR ?_
 refine co_ret1 h16 rfl rfl ?_
 have hB17 := hb_new hB0 hg4
 have hB18 := hb_call hB17 hb14
 exact ⟨rfl, hB18⟩
set_option maxRecDepth 100000 in
theorem msLegitN  (w : World)  :
    Calls Try.prog 20 #[.pointer none] w fun e w' => e = .returned (.slice none 0 0) ∧ Below w.heap.size w w' := by
 have hB0 := Below.refl w.heap.size w
 refine co_enter (n := 10) Try.func20 rfl rfl rfl [(0, .pointer none)] rfl (fun a h0 => ?_)
 refine co_seq ?_
 refine co_reg ?_
 refine pk0 (v := .slice none 0 0) h0 rfl fun a1 h1 => ?_; clear h0
 refine pl_nil ?_
 refine co_then ?_
 refine co_seq ?_
 refine co_seq ?_
 refine co_reg ?_
 refine pk0 (v := .pointer none) h1 rfl fun a2 h2 => ?_; clear h1
 refine pw h2 rfl (op_call (args := #[.pointer none]) (R := fun res xw => res = .bool true ∧ Below w.heap.size w xw) rfl rfl rfl (by kernel_rfl) (by kernel_rfl) (Try.call46 _ _) (mszeroN  w ) (by rintro e x ⟨rfl, hb5⟩; exact ⟨_, rfl, ⟨rfl, hb5⟩⟩)) ?_; clear h2
 rintro _ w4 a3 ⟨rfl, hb5⟩ h3
 have hz6 := hb5.size
 refine pl_nil ?_
 refine co_then ?_
 refine co_true h3 rfl ?_
 refine co_seq ?_
 refine co_reg ?_
 refine pk0 (v := .slice none 0 0) h3 rfl fun a7 h7 => ?_; clear h3
 refine pl_nil ?_
 refine co_then ?_
 refine wp_ret ?_
 refine co_thenR ?_
 refine co_ret1 h7 rfl rfl ?_
 have hB8 := hb_call hB0 hb5
 exact ⟨rfl, hB8⟩
set_option maxRecDepth 100000 in
theorem msLegitF (b : Nat) (w : World) (hb : Blk w b 65 #[.bool false, .int .i64 0, .slice none 0 0, .int .u64 0, .slice none 0 0, .int .u64 0, .slice none 0 0, .int .i64 0, .bool false, .int .i64 0, .int .i64 0, .int .i64 0, .int .i64 0, .bool false, .int .i64 0, .int .i64 0, .int .i64 0, .int .i64 0, .bool false, .int .i64 0, .int .i64 0, .int .i64 0, .int .i64 0]) :
    Calls Try.prog 20 #[pt b 0] w fun e w' => e = .returned (.slice none 0 0) ∧ Below w.heap.size w w' := by
 have hB0 := Below.refl w.heap.size w
 have hl_hb := hb.lt
 refine co_enter (n := 10) Try.func20 rfl rfl rfl [(0, pt b 0)] rfl (fun a h0 => ?_)
 refine co_seq ?_
 refine co_reg ?_
 refine pk0 (v := .slice none 0 0) h0 rfl fun a1 h1 => ?_; clear h0
 refine pl_nil ?_
 refine co_then ?_
 refine co_seq ?_
 refine co_seq ?_
 refine co_reg ?_
 refine pk0 (v := pt b 0) h1 rfl fun a2 h2 => ?_; clear h1
 refine pw h2 rfl (op_call (args := #[pt b 0]) (R := fun res xw => res = .bool true ∧ Below w.heap.size w xw) rfl rfl rfl (by kernel_rfl) (by kernel_rfl) (Try.call46 _ _) (mszeroF b w hb) (by rintro e x ⟨rfl, hb5⟩; exact ⟨_, rfl, ⟨rfl, hb5⟩⟩)) ?_; clear h2
 rintro _ w4 a3 ⟨rfl, hb5⟩ h3
 have hz6 := hb5.size
 refine pl_nil ?_
 refine co_then ?_
 refine co_true h3 rfl ?_
 refine co_seq ?_
 refine co_reg ?_
 refine pk0 (v := .slice none 0 0) h3 rfl fun a7 h7 => ?_; clear h3
 refine pl_nil ?_
 refine co_then ?_
 refine wp_ret ?_
 refine co_thenR ?_
 refine co_ret1 h7 rfl rfl ?_
 have hB8 := hb_call hB0 hb5
 exact ⟨rfl, hB8⟩
set_option maxRecDepth 100000 in
theorem msPinsN  (w : World)  :
    Calls Try.prog 18 #[.pointer none] w fun e w' => e = .returned (.slice none 0 0) ∧ Below w.heap.size w w' := by
 have hB0 := Below.refl w.heap.size w
 refine co_enter (n := 10) Try.func18 rfl rfl rfl [(0, .pointer none)] rfl (fun a h0 => ?_)
 refine co_seq ?_
 refine co_reg ?_
 refine pk0 (v := .slice none 0 0) h0 rfl fun a1 h1 => ?_; clear h0
 refine pl_nil ?_
 refine co_then ?_
 refine co_seq ?_
 refine co_seq ?_
 refine co_reg ?_
 refine pk0 (v := .pointer none) h1 rfl fun a2 h2 => ?_; clear h1
 refine pw h2 rfl (op_call (args := #[.pointer none]) (R := fun res xw => res = .bool true ∧ Below w.heap.size w xw) rfl rfl rfl (by kernel_rfl) (by kernel_rfl) (Try.call46 _ _) (mszeroN  w ) (by rintro e x ⟨rfl, hb5⟩; exact ⟨_, rfl, ⟨rfl, hb5⟩⟩)) ?_; clear h2
 rintro _ w4 a3 ⟨rfl, hb5⟩ h3
 have hz6 := hb5.size
 refine pl_nil ?_
 refine co_then ?_
 refine co_true h3 rfl ?_
 refine co_seq ?_
 refine co_reg ?_
 refine pk0 (v := .slice none 0 0) h3 rfl fun a7 h7 => ?_; clear h3
 refine pl_nil ?_
 refine co_then ?_
 refine wp_ret ?_
 refine co_thenR ?_
 refine co_ret1 h7 rfl rfl ?_
 have hB8 := hb_call hB0 hb5
 exact ⟨rfl, hB8⟩
set_option maxRecDepth 100000 in
theorem msPinsF (b : Nat) (w : World) (hb : Blk w b 65 #[.bool false, .int .i64 0, .slice none 0 0, .int .u64 0, .slice none 0 0, .int .u64 0, .slice none 0 0, .int .i64 0, .bool false, .int .i64 0, .int .i64 0, .int .i64 0, .int .i64 0, .bool false, .int .i64 0, .int .i64 0, .int .i64 0, .int .i64 0, .bool false, .int .i64 0, .int .i64 0, .int .i64 0, .int .i64 0]) :
    Calls Try.prog 18 #[pt b 0] w fun e w' => e = .returned (.slice none 0 0) ∧ Below w.heap.size w w' := by
 have hB0 := Below.refl w.heap.size w
 have hl_hb := hb.lt
 refine co_enter (n := 10) Try.func18 rfl rfl rfl [(0, pt b 0)] rfl (fun a h0 => ?_)
 refine co_seq ?_
 refine co_reg ?_
 refine pk0 (v := .slice none 0 0) h0 rfl fun a1 h1 => ?_; clear h0
 refine pl_nil ?_
 refine co_then ?_
 refine co_seq ?_
 refine co_seq ?_
 refine co_reg ?_
 refine pk0 (v := pt b 0) h1 rfl fun a2 h2 => ?_; clear h1
 refine pw h2 rfl (op_call (args := #[pt b 0]) (R := fun res xw => res = .bool true ∧ Below w.heap.size w xw) rfl rfl rfl (by kernel_rfl) (by kernel_rfl) (Try.call46 _ _) (mszeroF b w hb) (by rintro e x ⟨rfl, hb5⟩; exact ⟨_, rfl, ⟨rfl, hb5⟩⟩)) ?_; clear h2
 rintro _ w4 a3 ⟨rfl, hb5⟩ h3
 have hz6 := hb5.size
 refine pl_nil ?_
 refine co_then ?_
 refine co_true h3 rfl ?_
 refine co_seq ?_
 refine co_reg ?_
 refine pk0 (v := .slice none 0 0) h3 rfl fun a7 h7 => ?_; clear h3
 refine pl_nil ?_
 refine co_then ?_
 refine wp_ret ?_
 refine co_thenR ?_
 refine co_ret1 h7 rfl rfl ?_
 have hB8 := hb_call hB0 hb5
 exact ⟨rfl, hB8⟩
set_option maxRecDepth 100000 in
theorem msTopN  (w : World)  :
    Calls Try.prog 22 #[.pointer none] w fun e w' => e = .returned (.int .i64 0) ∧ Below w.heap.size w w' := by
 have hB0 := Below.refl w.heap.size w
 refine co_enter (n := 9) Try.func22 rfl rfl rfl [(0, .pointer none)] rfl (fun a h0 => ?_)
 refine co_seq ?_
 refine co_reg ?_
 refine pk0 (v := .int .i64 0) h0 rfl fun a1 h1 => ?_; clear h0
 refine pl_nil ?_
 refine co_then ?_
 refine co_seq ?_
 refine co_seq ?_
 refine co_reg ?_
 refine pk0 (v := .pointer none) h1 rfl fun a2 h2 => ?_; clear h1
 refine pw h2 rfl (op_call (args := #[.pointer none]) (R := fun res xw => res = .bool true ∧ Below w.heap.size w xw) rfl rfl rfl (by kernel_rfl) (by kernel_rfl) (Try.call46 _ _) (mszeroN  w ) (by rintro e x ⟨rfl, hb5⟩; exact ⟨_, rfl, ⟨rfl, hb5⟩⟩)) ?_; clear h2
 rintro _ w4 a3 ⟨rfl, hb5⟩ h3
 have hz6 := hb5.size
 refine pl_nil ?_
 refine co_then ?_
 refine co_true h3 rfl ?_
 refine co_seq ?_
 refine co_reg ?_
 refine pk0 (v := .int .i64 0) h3 rfl fun a7 h7 => ?_; clear h3
 refine pl_nil ?_
 refine co_then ?_
 refine wp_ret ?_
 refine co_thenR ?_
 refine co_ret1 h7 rfl rfl ?_
 have hB8 := hb_call hB0 hb5
 exact ⟨rfl, hB8⟩
set_option maxRecDepth 100000 in
theorem msTopF (b : Nat) (w : World) (hb : Blk w b 65 #[.bool false, .int .i64 0, .slice none 0 0, .int .u64 0, .slice none 0 0, .int .u64 0, .slice none 0 0, .int .i64 0, .bool false, .int .i64 0, .int .i64 0, .int .i64 0, .int .i64 0, .bool false, .int .i64 0, .int .i64 0, .int .i64 0, .int .i64 0, .bool false, .int .i64 0, .int .i64 0, .int .i64 0, .int .i64 0]) :
    Calls Try.prog 22 #[pt b 0] w fun e w' => e = .returned (.int .i64 0) ∧ Below w.heap.size w w' := by
 have hB0 := Below.refl w.heap.size w
 have hl_hb := hb.lt
 refine co_enter (n := 9) Try.func22 rfl rfl rfl [(0, pt b 0)] rfl (fun a h0 => ?_)
 refine co_seq ?_
 refine co_reg ?_
 refine pk0 (v := .int .i64 0) h0 rfl fun a1 h1 => ?_; clear h0
 refine pl_nil ?_
 refine co_then ?_
 refine co_seq ?_
 refine co_seq ?_
 refine co_reg ?_
 refine pk0 (v := pt b 0) h1 rfl fun a2 h2 => ?_; clear h1
 refine pw h2 rfl (op_call (args := #[pt b 0]) (R := fun res xw => res = .bool true ∧ Below w.heap.size w xw) rfl rfl rfl (by kernel_rfl) (by kernel_rfl) (Try.call46 _ _) (mszeroF b w hb) (by rintro e x ⟨rfl, hb5⟩; exact ⟨_, rfl, ⟨rfl, hb5⟩⟩)) ?_; clear h2
 rintro _ w4 a3 ⟨rfl, hb5⟩ h3
 have hz6 := hb5.size
 refine pl_nil ?_
 refine co_then ?_
 refine co_true h3 rfl ?_
 refine co_seq ?_
 refine co_reg ?_
 refine pk0 (v := .int .i64 0) h3 rfl fun a7 h7 => ?_; clear h3
 refine pl_nil ?_
 refine co_then ?_
 refine wp_ret ?_
 refine co_thenR ?_
 refine co_ret1 h7 rfl rfl ?_
 have hB8 := hb_call hB0 hb5
 exact ⟨rfl, hB8⟩
set_option maxRecDepth 100000 in
theorem msConfN  (w : World)  :
    Calls Try.prog 17 #[.pointer none] w fun e w' => e = .returned (.agg #[.int .i64 0, .slice none 0 0, .int .u64 0]) ∧ Below w.heap.size w w' := by
 have hB0 := Below.refl w.heap.size w
 refine co_enter (n := 11) Try.func17 rfl rfl rfl [(0, .pointer none)] rfl (fun a h0 => ?_)
 refine co_seq ?_
 refine co_reg ?_
 refine pw h0 rfl (op_new (v := fun N => pt N 0) (T := 32) (cs := #[.int .i64 0, .slice none 0 0, .int .u64 0]) (by kernel_rfl) (by kernel_rfl) (by kernel_rfl)) ?_; clear h0
 rintro _ w2 a1 ⟨N3, rfl, hN6, hz7, hk5, hg4⟩ h1
 have hz8 := hg4.size
 try dsimp only at h1
 refine pl_nil ?_
 refine co_then ?_
 refine co_seq ?_
 refine co_seq ?_
 refine co_reg ?_
 refine pk0 (v := .pointer none) h1 rfl fun a9 h9 => ?_; clear h1
 refine pw h9 rfl (op_call (args := #[.pointer none]) (R := fun res xw => res = .bool true ∧ Below w2.heap.size w2 xw) rfl rfl rfl (by kernel_rfl) (by kernel_rfl) (Try.call46 _ _) (mszeroN  w2 ) (by rintro e x ⟨rfl, hb12⟩; exact ⟨_, rfl, ⟨rfl, hb12⟩⟩)) ?_; clear h9
 rintro _ w11 a10 ⟨rfl, hb12⟩ h10
 have hz13 := hb12.size
 refine pl_nil ?_
 refine co_then ?_
 refine co_true h10 rfl ?_
 refine co_seq ?_
 refine co_reg ?_
 refine pk0 (v := .agg #[.int .i64 0, .slice none 0 0, .int .u64 0]) h10 rfl fun a14 h14 => ?_; clear h10
 have hk20 := hk5.below hb12
 refine pwD h14 rfl (op_storeN rfl rfl rfl (all_cons rfl (all_cons rfl (all_cons rfl all_nil))) (by kernel_rfl) hk20 rfl) ?_; clear h14
 rintro _ w16 a15 ⟨hk17, hz18, hg19⟩ h15
 have hk17' : Blk w16 N3 32 #[.int .i64 0, .slice none 0 0, .int .u64 0] := hk17; clear hk17
 have hz21 := hg19.size
 refine pl_nil ?_
 refine co_then ?_
 refine wp_ret ?_
 refine co_thenR ?_
 refine co_retC (Q := fun _ _ _ => True) h15 rfl rfl hk17' Try.underlying32 rfl (by kernel_rfl) ?_
 have hB22 := hb_new hB0 hg4
 have hB23 := hb_call hB22 hb12
 have hB24 := hb_at hB23 hg19 (by omega)
 exact ⟨rfl, hB24⟩
set_option maxRecDepth 100000 in
theorem msConfF (b : Nat) (w : World) (hb : Blk w b 65 #[.bool false, .int .i64 0, .slice none 0 0, .int .u64 0, .slice none 0 0, .int .u64 0, .slice none 0 0, .int .i64 0, .bool false, .int .i64 0, .int .i64 0, .int .i64 0, .int .i64 0, .bool false, .int .i64 0, .int .i64 0, .int .i64 0, .int .i64 0, .bool false, .int .i64 0, .int .i64 0, .int .i64 0, .int .i64 0]) :
    Calls Try.prog 17 #[pt b 0] w fun e w' => e = .returned (.agg #[.int .i64 0, .slice none 0 0, .int .u64 0]) ∧ Below w.heap.size w w' := by
 have hB0 := Below.refl w.heap.size w
 have hl_hb := hb.lt
 refine co_enter (n := 11) Try.func17 rfl rfl rfl [(0, pt b 0)] rfl (fun a h0 => ?_)
 refine co_seq ?_
 refine co_reg ?_
 refine pw h0 rfl (op_new (v := fun N => pt N 0) (T := 32) (cs := #[.int .i64 0, .slice none 0 0, .int .u64 0]) (by kernel_rfl) (by kernel_rfl) (by kernel_rfl)) ?_; clear h0
 rintro _ w2 a1 ⟨N3, rfl, hN6, hz7, hk5, hg4⟩ h1
 have hz8 := hg4.size
 try dsimp only at h1
 refine pl_nil ?_
 refine co_then ?_
 refine co_seq ?_
 refine co_seq ?_
 refine co_reg ?_
 refine pk0 (v := pt b 0) h1 rfl fun a9 h9 => ?_; clear h1
 have hk12 := hb.kept hg4 (by simp)
 refine pw h9 rfl (op_call (args := #[pt b 0]) (R := fun res xw => res = .bool true ∧ Below w2.heap.size w2 xw) rfl rfl rfl (by kernel_rfl) (by kernel_rfl) (Try.call46 _ _) (mszeroF b w2 hk12) (by rintro e x ⟨rfl, hb13⟩; exact ⟨_, rfl, ⟨rfl, hb13⟩⟩)) ?_; clear h9
 rintro _ w11 a10 ⟨rfl, hb13⟩ h10
 have hz14 := hb13.size
 refine pl_nil ?_
 refine co_then ?_
 refine co_true h10 rfl ?_
 refine co_seq ?_
 refine co_reg ?_
 refine pk0 (v := .agg #[.int .i64 0, .slice none 0 0, .int .u64 0]) h10 rfl fun a15 h15 => ?_; clear h10
 have hk21 := hk5.below hb13
 refine pwD h15 rfl (op_storeN rfl rfl rfl (all_cons rfl (all_cons rfl (all_cons rfl all_nil))) (by kernel_rfl) hk21 rfl) ?_; clear h15
 rintro _ w17 a16 ⟨hk18, hz19, hg20⟩ h16
 have hk18' : Blk w17 N3 32 #[.int .i64 0, .slice none 0 0, .int .u64 0] := hk18; clear hk18
 have hz22 := hg20.size
 refine pl_nil ?_
 refine co_then ?_
 refine wp_ret ?_
 refine co_thenR ?_
 refine co_retC (Q := fun _ _ _ => True) h16 rfl rfl hk18' Try.underlying32 rfl (by kernel_rfl) ?_
 have hB23 := hb_new hB0 hg4
 have hB24 := hb_call hB23 hb13
 have hB25 := hb_at hB24 hg20 (by omega)
 exact ⟨rfl, hB25⟩
set_option maxRecDepth 100000 in
theorem msHorizonN  (w : World)  :
    Calls Try.prog 16 #[.pointer none] w fun e w' => e = .returned (.int .u64 0) ∧ Below w.heap.size w w' := by
 have hB0 := Below.refl w.heap.size w
 refine co_enter (n := 9) Try.func16 rfl rfl rfl [(0, .pointer none)] rfl (fun a h0 => ?_)
 refine co_seq ?_
 refine co_reg ?_
 refine pk0 (v := .int .u64 0) h0 rfl fun a1 h1 => ?_; clear h0
 refine pl_nil ?_
 refine co_then ?_
 refine co_seq ?_
 refine co_seq ?_
 refine co_reg ?_
 refine pk0 (v := .pointer none) h1 rfl fun a2 h2 => ?_; clear h1
 refine pw h2 rfl (op_call (args := #[.pointer none]) (R := fun res xw => res = .bool true ∧ Below w.heap.size w xw) rfl rfl rfl (by kernel_rfl) (by kernel_rfl) (Try.call46 _ _) (mszeroN  w ) (by rintro e x ⟨rfl, hb5⟩; exact ⟨_, rfl, ⟨rfl, hb5⟩⟩)) ?_; clear h2
 rintro _ w4 a3 ⟨rfl, hb5⟩ h3
 have hz6 := hb5.size
 refine pl_nil ?_
 refine co_then ?_
 refine co_true h3 rfl ?_
 refine co_seq ?_
 refine co_reg ?_
 refine pk0 (v := .int .u64 0) h3 rfl fun a7 h7 => ?_; clear h3
 refine pl_nil ?_
 refine co_then ?_
 refine wp_ret ?_
 refine co_thenR ?_
 refine co_ret1 h7 rfl rfl ?_
 have hB8 := hb_call hB0 hb5
 exact ⟨rfl, hB8⟩
set_option maxRecDepth 100000 in
theorem msHorizonF (b : Nat) (w : World) (hb : Blk w b 65 #[.bool false, .int .i64 0, .slice none 0 0, .int .u64 0, .slice none 0 0, .int .u64 0, .slice none 0 0, .int .i64 0, .bool false, .int .i64 0, .int .i64 0, .int .i64 0, .int .i64 0, .bool false, .int .i64 0, .int .i64 0, .int .i64 0, .int .i64 0, .bool false, .int .i64 0, .int .i64 0, .int .i64 0, .int .i64 0]) :
    Calls Try.prog 16 #[pt b 0] w fun e w' => e = .returned (.int .u64 0) ∧ Below w.heap.size w w' := by
 have hB0 := Below.refl w.heap.size w
 have hl_hb := hb.lt
 refine co_enter (n := 9) Try.func16 rfl rfl rfl [(0, pt b 0)] rfl (fun a h0 => ?_)
 refine co_seq ?_
 refine co_reg ?_
 refine pk0 (v := .int .u64 0) h0 rfl fun a1 h1 => ?_; clear h0
 refine pl_nil ?_
 refine co_then ?_
 refine co_seq ?_
 refine co_seq ?_
 refine co_reg ?_
 refine pk0 (v := pt b 0) h1 rfl fun a2 h2 => ?_; clear h1
 refine pw h2 rfl (op_call (args := #[pt b 0]) (R := fun res xw => res = .bool true ∧ Below w.heap.size w xw) rfl rfl rfl (by kernel_rfl) (by kernel_rfl) (Try.call46 _ _) (mszeroF b w hb) (by rintro e x ⟨rfl, hb5⟩; exact ⟨_, rfl, ⟨rfl, hb5⟩⟩)) ?_; clear h2
 rintro _ w4 a3 ⟨rfl, hb5⟩ h3
 have hz6 := hb5.size
 refine pl_nil ?_
 refine co_then ?_
 refine co_true h3 rfl ?_
 refine co_seq ?_
 refine co_reg ?_
 refine pk0 (v := .int .u64 0) h3 rfl fun a7 h7 => ?_; clear h3
 refine pl_nil ?_
 refine co_then ?_
 refine wp_ret ?_
 refine co_thenR ?_
 refine co_ret1 h7 rfl rfl ?_
 have hB8 := hb_call hB0 hb5
 exact ⟨rfl, hB8⟩
set_option maxRecDepth 100000 in
theorem msSaidN (c : Int) (w : World)  :
    Calls Try.prog 23 #[.pointer none, .int .i64 c] w fun e w' => e = .returned (.agg #[.int .i64 0, .int .i64 0, .int .i64 0, .int .i64 0]) ∧ Below w.heap.size w w' := by
 have hB0 := Below.refl w.heap.size w
 refine co_enter (n := 23) Try.func23 rfl rfl rfl [(0, .pointer none), (1, .int .i64 c)] rfl (fun a h0 => ?_)
 refine co_seq ?_
 refine co_reg ?_
 refine pw h0 rfl (op_new (v := fun N => pt N 0) (T := 42) (cs := #[.int .i64 0, .int .i64 0, .int .i64 0, .int .i64 0]) (by kernel_rfl) (by kernel_rfl) (by kernel_rfl)) ?_; clear h0
 rintro _ w2 a1 ⟨N3, rfl, hN6, hz7, hk5, hg4⟩ h1
 have hz8 := hg4.size
 try dsimp only at h1
 refine pl_nil ?_
 refine co_then ?_
 refine co_seq ?_
 refine co_seq ?_
 refine co_reg ?_
 refine pk0 (v := .pointer none) h1 rfl fun a9 h9 => ?_; clear h1
 refine pw h9 rfl (op_call (args := #[.pointer none]) (R := fun res xw => res = .bool true ∧ Below w2.heap.size w2 xw) rfl rfl rfl (by kernel_rfl) (by kernel_rfl) (Try.call46 _ _) (mszeroN  w2 ) (by rintro e x ⟨rfl, hb12⟩; exact ⟨_, rfl, ⟨rfl, hb12⟩⟩)) ?_; clear h9
 rintro _ w11 a10 ⟨rfl, hb12⟩ h10
 have hz13 := hb12.size
 refine pk0 (v := .bool true) h10 rfl fun a14 h14 => ?_; clear h10
 refine psk h14 rfl fun a15 h15 => ?_; clear h14
 refine psk h15 rfl fun a16 h16 => ?_; clear h15
 refine pk0 (v := .bool true) h16 rfl fun a17 h17 => ?_; clear h16
 refine pk0 (v := .bool true) h17 rfl fun a18 h18 => ?_; clear h17
 refine psk h18 rfl fun a19 h19 => ?_; clear h18
 refine psk h19 rfl fun a20 h20 => ?_; clear h19
 refine pk0 (v := .bool true) h20 rfl fun a21 h21 => ?_; clear h20
 refine pl_nil ?_
 refine co_then ?_
 refine co_true h21 rfl ?_
 refine co_seq ?_
 refine co_reg ?_
 refine pk0 (v := .agg #[.int .i64 0, .int .i64 0, .int .i64 0, .int .i64 0]) h21 rfl fun a22 h22 => ?_; clear h21
 have hk28 := hk5.below hb12
 refine pwD h22 rfl (op_storeN rfl rfl rfl (by kernel_rfl) (by kernel_rfl) hk28 rfl) ?_; clear h22
 rintro _ w24 a23 ⟨hk25, hz26, hg27⟩ h23
 have hk25' : Blk w24 N3 42 #[.int .i64 0, .int .i64 0, .int .i64 0, .int .i64 0] := hk25; clear hk25
 have hz29 := hg27.size
 refine pl_nil ?_
 refine co_then ?_
 refine wp_ret ?_
 refine co_thenR ?_
 refine co_retC (Q := fun _ _ _ => True) h23 rfl rfl hk25' Try.underlying42 rfl (by kernel_rfl) ?_
 have hB30 := hb_new hB0 hg4
 have hB31 := hb_call hB30 hb12
 have hB32 := hb_at hB31 hg27 (by omega)
 exact ⟨rfl, hB32⟩
set_option maxRecDepth 100000 in
theorem msSaidF (b : Nat) (c : Int) (w : World) (hb : Blk w b 65 #[.bool false, .int .i64 0, .slice none 0 0, .int .u64 0, .slice none 0 0, .int .u64 0, .slice none 0 0, .int .i64 0, .bool false, .int .i64 0, .int .i64 0, .int .i64 0, .int .i64 0, .bool false, .int .i64 0, .int .i64 0, .int .i64 0, .int .i64 0, .bool false, .int .i64 0, .int .i64 0, .int .i64 0, .int .i64 0]) :
    Calls Try.prog 23 #[pt b 0, .int .i64 c] w fun e w' => e = .returned (.agg #[.int .i64 0, .int .i64 0, .int .i64 0, .int .i64 0]) ∧ Below w.heap.size w w' := by
 have hB0 := Below.refl w.heap.size w
 have hl_hb := hb.lt
 refine co_enter (n := 23) Try.func23 rfl rfl rfl [(0, pt b 0), (1, .int .i64 c)] rfl (fun a h0 => ?_)
 refine co_seq ?_
 refine co_reg ?_
 refine pw h0 rfl (op_new (v := fun N => pt N 0) (T := 42) (cs := #[.int .i64 0, .int .i64 0, .int .i64 0, .int .i64 0]) (by kernel_rfl) (by kernel_rfl) (by kernel_rfl)) ?_; clear h0
 rintro _ w2 a1 ⟨N3, rfl, hN6, hz7, hk5, hg4⟩ h1
 have hz8 := hg4.size
 try dsimp only at h1
 refine pl_nil ?_
 refine co_then ?_
 refine co_seq ?_
 refine co_seq ?_
 refine co_reg ?_
 refine pk0 (v := pt b 0) h1 rfl fun a9 h9 => ?_; clear h1
 have hk12 := hb.kept hg4 (by simp)
 refine pw h9 rfl (op_call (args := #[pt b 0]) (R := fun res xw => res = .bool true ∧ Below w2.heap.size w2 xw) rfl rfl rfl (by kernel_rfl) (by kernel_rfl) (Try.call46 _ _) (mszeroF b w2 hk12) (by rintro e x ⟨rfl, hb13⟩; exact ⟨_, rfl, ⟨rfl, hb13⟩⟩)) ?_; clear h9
 rintro _ w11 a10 ⟨rfl, hb13⟩ h10
 have hz14 := hb13.size
 refine pk0 (v := .bool true) h10 rfl fun a15 h15 => ?_; clear h10
 refine psk h15 rfl fun a16 h16 => ?_; clear h15
 refine psk h16 rfl fun a17 h17 => ?_; clear h16
 refine pk0 (v := .bool true) h17 rfl fun a18 h18 => ?_; clear h17
 refine pk0 (v := .bool true) h18 rfl fun a19 h19 => ?_; clear h18
 refine psk h19 rfl fun a20 h20 => ?_; clear h19
 refine psk h20 rfl fun a21 h21 => ?_; clear h20
 refine pk0 (v := .bool true) h21 rfl fun a22 h22 => ?_; clear h21
 refine pl_nil ?_
 refine co_then ?_
 refine co_true h22 rfl ?_
 refine co_seq ?_
 refine co_reg ?_
 refine pk0 (v := .agg #[.int .i64 0, .int .i64 0, .int .i64 0, .int .i64 0]) h22 rfl fun a23 h23 => ?_; clear h22
 have hk29 := hk5.below hb13
 refine pwD h23 rfl (op_storeN rfl rfl rfl (by kernel_rfl) (by kernel_rfl) hk29 rfl) ?_; clear h23
 rintro _ w25 a24 ⟨hk26, hz27, hg28⟩ h24
 have hk26' : Blk w25 N3 42 #[.int .i64 0, .int .i64 0, .int .i64 0, .int .i64 0] := hk26; clear hk26
 have hz30 := hg28.size
 refine pl_nil ?_
 refine co_then ?_
 refine wp_ret ?_
 refine co_thenR ?_
 refine co_retC (Q := fun _ _ _ => True) h24 rfl rfl hk26' Try.underlying42 rfl (by kernel_rfl) ?_
 have hB31 := hb_new hB0 hg4
 have hB32 := hb_call hB31 hb13
 have hB33 := hb_at hB32 hg28 (by omega)
 exact ⟨rfl, hB33⟩
end Go.Proofs.Ytlbemlodcdgakaa

/- Package mstate: New, pin. Conditions: at most three pins. -/
namespace Go.Proofs.Ytlbemlodcdgakaa
open Go.RowKit Go.PlainAid
set_option linter.unusedVariables false
set_option linter.unusedSimpArgs false


abbrev SdT := Bool × Int × Int × Int × Int
theorem renewP_le (l : List PinT) (id : Int) : (renewP l id).1.length ≤ 3 ∨ ¬ l.length ≤ 3 := by
  by_cases h : l.length ≤ 3
  · left; unfold renewP; split
    · simp
    · simp; exact h
  · exact .inr h
theorem grantP_le (l : List PinT) (id ts : Int) : (grantP l id ts).1.length ≤ 3 ∨ ¬ l.length ≤ 3 := by
  left; unfold grantP
  split
  · simp
  · split
    · simp
    · split
      · simp
      · rw [List.length_append]; simp; omega
theorem freeP_le (l : List PinT) (id : Int) : (freeP l id).1.length ≤ 3 ∨ ¬ l.length ≤ 3 := by
  by_cases h : l.length ≤ 3
  · left; unfold freeP; split
    · simp
    · rw [List.length_append, List.length_take, List.length_drop]; have := findP_lt l id; omega
  · exact .inr h
/-- What a pin comes to: the answer, the pins, the greatest Id. -/
def pnF (pn : List PinT) (hz tp id at_ : Int) : Int × List PinT × Int :=
  if (renewP pn id).2 = 0 then (0, (renewP pn id).1, tp) else if (pn.length : Int) ≥ 3 then (17, pn, tp) else if id ≤ tp then (18, pn, tp) else if at_ < hz then (13, pn, tp)
  else if (grantP pn id at_).2 ≠ 0 then ((grantP pn id at_).2, pn, tp) else (0, (grantP pn id at_).1, id)
/-- What a note comes to, that is of no configuration, member or client. -/
def apF (pn : List PinT) (hz tp : Int) (d : NoteD) : Int × Int × List PinT × Int :=
  if chkN d ≠ 0 then (chkN d, hz, pn, tp) else if d.k = 4 then (if d.t < hz then (18, hz, pn, tp) else (0, d.t, pn, tp))
  else if d.k = 6 then ((pnF pn hz tp d.pid d.pat).1, hz, (pnF pn hz tp d.pid d.pat).2.1, (pnF pn hz tp d.pid d.pat).2.2)
  else if d.k = 7 then (0, hz, if (freeP pn d.n).2 = 0 then (freeP pn d.n).1 else pn, mxI tp d.n) else (11, hz, pn, tp)

set_option maxRecDepth 100000 in
theorem mszeroT (b : Nat) (ep : Int) (cv : Value) (fl : Int) (lgv : Value) (hz : Int) (pv : Value) (tp : Int) (x0 : SdT) (x1 : SdT) (x2 : SdT) (w : World) (hb : Blk w b 65 #[.bool true, .int .i64 ep, cv, .int .u64 fl, lgv, .int .u64 hz, pv, .int .i64 tp, .bool x0.1, .int .i64 x0.2.1, .int .i64 x0.2.2.1, .int .i64 x0.2.2.2.1, .int .i64 x0.2.2.2.2, .bool x1.1, .int .i64 x1.2.1, .int .i64 x1.2.2.1, .int .i64 x1.2.2.2.1, .int .i64 x1.2.2.2.2, .bool x2.1, .int .i64 x2.2.1, .int .i64 x2.2.2.1, .int .i64 x2.2.2.2.1, .int .i64 x2.2.2.2.2]) :
    Calls Try.prog 46 #[pt b 0] w fun e w' => e = .returned (.bool false) ∧ Below w.heap.size w w' := by
 have hB0 := Below.refl w.heap.size w
 have hl_hb := hb.lt
 refine co_enter (n := 12) Try.func46 rfl rfl rfl [(0, pt b 0)] rfl (fun a h0 => ?_)
 refine co_seq ?_
 refine co_reg ?_
 refine pk0 (v := .bool false) h0 rfl fun a1 h1 => ?_; clear h0
 refine pl_nil ?_
 refine co_then ?_
 refine co_seq ?_
 refine co_reg ?_
 refine pk0 (v := pt b 0) h1 rfl fun a2 h2 => ?_; clear h1
 refine pk0 (v := .bool false) h2 rfl fun a3 h3 => ?_; clear h2
 refine pk0 (v := .bool false) h3 rfl fun a4 h4 => ?_; clear h3
 refine pk0 (v := pt b 0) h4 rfl fun a5 h5 => ?_; clear h4
 refine pk0 (v := pt b 0) h5 rfl fun a6 h6 => ?_; clear h5
 refine pk0 (v := pt b 0) h6 rfl fun a7 h7 => ?_; clear h6
 refine pk (v := .bool true) h7 rfl (rn_load1 rfl rfl Try.isAgg4 (hb.cell rfl)) fun a8 h8 => ?_; clear h7
 refine pk0 (v := .bool false) h8 rfl fun a9 h9 => ?_; clear h8
 refine pk0 (v := .bool false) h9 rfl fun a10 h10 => ?_; clear h9
 refine pk0 (v := .bool false) h10 rfl fun a11 h11 => ?_; clear h10
 refine pl_nil ?_
 refine co_then ?_
 refine wp_ret ?_
 refine co_ret1 h11 rfl rfl ?_
 exact ⟨rfl, hB0⟩
set_option maxRecDepth 100000 in
theorem msNew_any  (w : World)  :
    Calls Try.prog 11 #[] w fun e w' => ∃ (N : Nat), e = .returned (pt N 0) ∧ Blk w' N 65 #[.bool true, .int .i64 0, .slice none 0 0, .int .u64 0, .slice none 0 0, .int .u64 0, .slice none 0 0, .int .i64 0, .bool false, .int .i64 0, .int .i64 0, .int .i64 0, .int .i64 0, .bool false, .int .i64 0, .int .i64 0, .int .i64 0, .int .i64 0, .bool false, .int .i64 0, .int .i64 0, .int .i64 0, .int .i64 0] ∧ w.heap.size ≤ N ∧ Below w.heap.size w w' := by
 have hB0 := Below.refl w.heap.size w
 refine co_enter (n := 3) Try.func11 rfl rfl rfl [] rfl (fun a h0 => ?_)
 refine co_seq ?_
 refine co_reg ?_
 refine pk0 (v := .pointer none) h0 rfl fun a1 h1 => ?_; clear h0
 refine pl_nil ?_
 refine co_then ?_
 refine co_seq ?_
 refine co_reg ?_
 refine pk0 (v := .agg #[.bool true, .int .i64 0, .slice none 0 0, .int .u64 0, .slice none 0 0, .int .u64 0, .slice none 0 0, .int .i64 0, .bool false, .int .i64 0, .int .i64 0, .int .i64 0, .int .i64 0, .bool false, .int .i64 0, .int .i64 0, .int .i64 0, .int .i64 0, .bool false, .int .i64 0, .int .i64 0, .int .i64 0, .int .i64 0]) h1 rfl fun a2 h2 => ?_; clear h1
 refine pw h2 rfl (op_new (v := fun N => pt N 0) (T := 65) (cs := #[.bool true, .int .i64 0, .slice none 0 0, .int .u64 0, .slice none 0 0, .int .u64 0, .slice none 0 0, .int .i64 0, .bool false, .int .i64 0, .int .i64 0, .int .i64 0, .int .i64 0, .bool false, .int .i64 0, .int .i64 0, .int .i64 0, .int .i64 0, .bool false, .int .i64 0, .int .i64 0, .int .i64 0, .int .i64 0]) (by kernel_rfl) (by kernel_rfl) (by kernel_rfl)) ?_; clear h2
 rintro _ w4 a3 ⟨N5, rfl, hN8, hz9, hk7, hg6⟩ h3
 have hz10 := hg6.size
 try dsimp only at h3
 refine pk0 (v := pt N5 0) h3 rfl fun a11 h11 => ?_; clear h3
 refine pl_nil ?_
 refine co_then ?_
 refine wp_ret ?_
 refine co_ret1 h11 rfl rfl ?_
 have hB12 := hb_new hB0 hg6
 exact ⟨_, rfl, hk7, by omega, hB12⟩
set_option maxRecDepth 100000 in
theorem msPin_any (b : Nat) (ep : Int) (cv : Value) (fl : Int) (lgv : Value) (hz : Int) (pv : Value) (pn : List PinT) (tp : Int) (x0 : SdT) (x1 : SdT) (x2 : SdT) (id : Int) (at_ : Int) (lf : Int) (w : World) (hb : Blk w b 65 #[.bool true, .int .i64 ep, cv, .int .u64 fl, lgv, .int .u64 hz, pv, .int .i64 tp, .bool x0.1, .int .i64 x0.2.1, .int .i64 x0.2.2.1, .int .i64 x0.2.2.2.1, .int .i64 x0.2.2.2.2, .bool x1.1, .int .i64 x1.2.1, .int .i64 x1.2.2.1, .int .i64 x1.2.2.2.1, .int .i64 x1.2.2.2.2, .bool x2.1, .int .i64 x2.2.1, .int .i64 x2.2.2.1, .int .i64 x2.2.2.2.1, .int .i64 x2.2.2.2.2]) (hpn : w.ownsRow 0 40 3 pv pn.length (pn.flatMap pinE)) (hp3 : pn.length ≤ 3) :
    Calls Try.prog 50 #[pt b 0, .agg #[.int .i64 id, .int .u64 at_, .int .i64 lf]] w fun e w' => ∃ (pv2 : Value), e = .returned (.int .i64 ((pnF pn hz tp id at_).1)) ∧ Blk w' b 65 #[.bool true, .int .i64 ep, cv, .int .u64 fl, lgv, .int .u64 hz, pv2, .int .i64 ((pnF pn hz tp id at_).2.2), .bool x0.1, .int .i64 x0.2.1, .int .i64 x0.2.2.1, .int .i64 x0.2.2.2.1, .int .i64 x0.2.2.2.2, .bool x1.1, .int .i64 x1.2.1, .int .i64 x1.2.2.1, .int .i64 x1.2.2.2.1, .int .i64 x1.2.2.2.2, .bool x2.1, .int .i64 x2.2.1, .int .i64 x2.2.2.1, .int .i64 x2.2.2.2.1, .int .i64 x2.2.2.2.2] ∧ w'.ownsRow 0 40 3 pv2 ((pnF pn hz tp id at_).2.1).length (((pnF pn hz tp id at_).2.1).flatMap pinE) ∧ ((pnF pn hz tp id at_).2.1).length ≤ 3 ∧ But (fun q => q = b) w w' := by
 have hB0 := But.refl (fun q => q = b) w
 have hl_hb := hb.lt
 refine co_enter (n := 69) Try.func50 rfl rfl rfl [(0, pt b 0), (1, .agg #[.int .i64 id, .int .u64 at_, .int .i64 lf])] rfl (fun a h0 => ?_)
 refine co_seq ?_
 refine co_reg ?_
 refine pw h0 rfl (op_new (v := fun N => pt N 0) (T := 40) (cs := #[.int .i64 id, .int .u64 at_, .int .i64 lf]) (by kernel_rfl) (by kernel_rfl) (by kernel_rfl)) ?_; clear h0
 rintro _ w2 a1 ⟨N3, rfl, hN6, hz7, hk5, hg4⟩ h1
 have ha8 := row_fresh hpn hN6
 have hz9 := hg4.size
 try dsimp only at h1
 refine pk0 (v := .int .i64 0) h1 rfl fun a10 h10 => ?_; clear h1
 refine pl_nil ?_
 refine co_then ?_
 refine co_seq ?_
 refine co_seq ?_
 refine dr_gen (fun x => But (fun q => q = b) w x ∧ Blk x b 65 #[.bool true, .int .i64 ep, cv, .int .u64 fl, lgv, .int .u64 hz, pv, .int .i64 tp, .bool x0.1, .int .i64 x0.2.1, .int .i64 x0.2.2.1, .int .i64 x0.2.2.2.1, .int .i64 x0.2.2.2.2, .bool x1.1, .int .i64 x1.2.1, .int .i64 x1.2.2.1, .int .i64 x1.2.2.2.1, .int .i64 x1.2.2.2.2, .bool x2.1, .int .i64 x2.2.1, .int .i64 x2.2.2.1, .int .i64 x2.2.2.2.1, .int .i64 x2.2.2.2.2] ∧ Blk x N3 40 #[.int .i64 id, .int .u64 at_, .int .i64 lf]) (by kernel_rfl) (fun w11 hg12 => ?_) (fun w11 hg12 => ?_)
 ·
  have hz13 := hg12.size
  have hB14 := fb_new hB0 hg4
  have hB15 := fb_new hB14 hg12
  have hk16 := hb.kept hg4 (by simp)
  have hk17 := hk16.kept hg12 (by simp)
  have hk18 := hk5.kept hg12 (by simp)
  exact ⟨hB15, hk17, hk18⟩
 have hz19 := hg12.size
 have hB20 := fb_new hB0 hg4
 have hB21 := fb_new hB20 hg12
 have hk22 := hb.kept hg4 (by simp)
 have hk23 := hk22.kept hg12 (by simp)
 have hk24 := hk5.kept hg12 (by simp)
 refine dk0 0 (v := pt b 0) h10 rfl rfl ⟨hB21, hk23, hk24⟩ fun a25 h25 => ?_; clear h10
 refine dk0 1 (v := pt b 0) h25 rfl rfl ⟨hB21, hk23, hk24⟩ fun a26 h26 => ?_; clear h25
 refine dk0 2 (v := pt b 6) h26 rfl rfl ⟨hB21, hk23, hk24⟩ fun a27 h27 => ?_; clear h26
 refine dk 3 (v := pv) h27 rfl rfl ⟨hB21, hk23, hk24⟩ (fun x hx => (rn_load1 rfl rfl Try.isAgg47 (hx.2.1.cell rfl))) fun a28 h28 => ?_; clear h27
 refine dk0 4 (v := pt N3 0) h28 rfl rfl ⟨hB21, hk23, hk24⟩ fun a29 h29 => ?_; clear h28
 refine dk 5 (v := .int .i64 id) h29 rfl rfl ⟨hB21, hk23, hk24⟩ (fun x hx => (rn_load1 rfl rfl Try.isAgg3 (hx.2.2.cell rfl))) fun a30 h30 => ?_; clear h29
 have hr33 := row_kept_new hpn hg4
 have hr34 := row_kept_new hr33 hg12
 refine d1 6 h30 rfl rfl (op_call (args := #[pv, .int .i64 id]) (R := fun res xw => ∃ u : Value, res = .tuple #[u, .int .i64 ((renewP pn id).2)] ∧ xw.ownsRow w11.heap.size 40 3 u ((renewP pn id).1).length (((renewP pn id).1).flatMap pinE) ∧ Below w11.heap.size w11 xw) rfl rfl rfl (by kernel_rfl) (by kernel_rfl) (Try.call106 _ _) (leaseRenew_any pv pn id (renewP pn id).1 (renewP pn id).2 w11 (row_sl hr34 pinE_len) (by omega) rfl) (by rintro e x ⟨u, rfl, h⟩; exact ⟨_, rfl, u, rfl, h⟩)) ?_ ?_; clear h30
 ·
  rintro _ w32 ⟨u35, rfl, hr36, hb37⟩
  have hz41 := hb37.size
  have hle42 := renewP_le pn id
  have hB43 := fb_call hB21 hb37
  have hk44 := hk23.below hb37
  have hk45 := hk24.below hb37
  exact ⟨hB43, hk44, hk45⟩
 rintro _ w32 a31 ⟨u35, rfl, hr36, hb37⟩ h31
 have hz41 := hb37.size
 have hle42 := renewP_le pn id
 have hB43 := fb_call hB21 hb37
 have hk44 := hk23.below hb37
 have hk45 := hk24.below hb37
 refine dk0 7 (v := .tuple #[u35, .int .i64 ((renewP pn id).2)]) h31 rfl rfl ⟨hB43, hk44, hk45⟩ fun a46 h46 => ?_; clear h31
 refine dk0 8 (v := u35) h46 rfl rfl ⟨hB43, hk44, hk45⟩ fun a47 h47 => ?_; clear h46
 refine dk0 9 (v := .int .i64 ((renewP pn id).2)) h47 rfl rfl ⟨hB43, hk44, hk45⟩ fun a48 h48 => ?_; clear h47
 refine dk0 10 (v := u35) h48 rfl rfl ⟨hB43, hk44, hk45⟩ fun a49 h49 => ?_; clear h48
 refine dk0 11 (v := .int .i64 ((renewP pn id).2)) h49 rfl rfl ⟨hB43, hk44, hk45⟩ fun a50 h50 => ?_; clear h49
 refine dr_done (by kernel_rfl) ?_
 refine co_then ?_
 refine co_seq ?_
 refine co_reg ?_
 refine pk0 (v := .int .i64 ((renewP pn id).2)) h50 rfl fun a51 h51 => ?_; clear h50
 refine pk0 (v := .bool ((renewP pn id).2 == 0)) h51 rfl fun a52 h52 => ?_; clear h51
 refine pl_nil ?_
 refine co_then ?_
 cases hc53 : ((renewP pn id).2 == 0)
 ·
  rw [hc53] at h52
  have hp54 : ¬ ((renewP pn id).2 = 0) := by first | simpa using hc53 | simpa [and_assoc] using hc53
  clear hc53
  refine co_false h52 rfl ?_
  refine wp_skip ?_
  refine co_then ?_
  refine co_seq ?_
  refine co_seq ?_
  refine co_reg ?_
  refine pk0 (v := pt b 0) h52 rfl fun a55 h55 => ?_; clear h52
  refine pk0 (v := pt b 0) h55 rfl fun a56 h56 => ?_; clear h55
  refine pk0 (v := pt b 6) h56 rfl fun a57 h57 => ?_; clear h56
  refine pk (v := pv) h57 rfl (rn_load1 rfl rfl Try.isAgg47 (hk44.cell rfl)) fun a58 h58 => ?_; clear h57
  have hr59 := row_kept_new hr34 (below_grown hb37)
  refine pk (v := .int .i64 ((pn.length : Nat) : Int)) h58 rfl (rn_lenOwn rfl rfl Try.underlying47 hr59) fun a60 h60 => ?_; clear h58
  refine pk0 (v := .bool (decide (((pn.length : Nat) : Int) ≥ 3))) h60 rfl fun a61 h61 => ?_; clear h60
  refine pl_nil ?_
  refine co_then ?_
  cases hc62 : (decide (((pn.length : Nat) : Int) ≥ 3))
  ·
   rw [hc62] at h61
   have hp63 : ¬ (((pn.length : Nat) : Int) ≥ 3) := of_decide_eq_false hc62
   clear hc62
   refine co_false h61 rfl ?_
   refine wp_skip ?_
   refine co_then ?_
   refine co_seq ?_
   refine co_seq ?_
   refine dr_eq (by kernel_rfl) (fun w64 hg65 => ?_)
   have hz66 := hg65.size
   refine dk0 0 (v := pt N3 0) h61 rfl rfl rfl fun a67 h67 => ?_; clear h61
   have hk68 := hk45.kept hg65 (by simp)
   refine dk 1 (v := .int .i64 id) h67 rfl rfl rfl (fun x hx => by subst hx; exact (rn_load1 rfl rfl Try.isAgg3 (hk68.cell rfl))) fun a69 h69 => ?_; clear h67
   refine dk0 2 (v := pt b 0) h69 rfl rfl rfl fun a70 h70 => ?_; clear h69
   refine dk0 3 (v := pt b 0) h70 rfl rfl rfl fun a71 h71 => ?_; clear h70
   refine dk0 4 (v := pt b 7) h71 rfl rfl rfl fun a72 h72 => ?_; clear h71
   have hk73 := hk44.kept hg65 (by simp)
   refine dk 5 (v := .int .i64 tp) h72 rfl rfl rfl (fun x hx => by subst hx; exact (rn_load1 rfl rfl Try.isAgg3 (hk73.cell rfl))) fun a74 h74 => ?_; clear h72
   refine dk0 6 (v := .bool (decide (id ≤ tp))) h74 rfl rfl rfl fun a75 h75 => ?_; clear h74
   refine dr_done (by kernel_rfl) ?_
   refine co_then ?_
   have hB77 := fb_new hB43 hg65
   cases hc76 : (decide (id ≤ tp))
   ·
    rw [hc76] at h75
    have hp78 : ¬ (id ≤ tp) := of_decide_eq_false hc76
    clear hc76
    refine co_false h75 rfl ?_
    refine wp_skip ?_
    refine co_then ?_
    refine co_seq ?_
    refine co_seq ?_
    refine dr_eq (by kernel_rfl) (fun w79 hg80 => ?_)
    have hz81 := hg80.size
    refine dk0 0 (v := pt N3 1) h75 rfl rfl rfl fun a82 h82 => ?_; clear h75
    have hk83 := hk68.kept hg80 (by simp)
    refine dk 1 (v := .int .u64 at_) h82 rfl rfl rfl (fun x hx => by subst hx; exact (rn_load1 rfl rfl Try.isAgg29 (hk83.cell rfl))) fun a84 h84 => ?_; clear h82
    refine dk0 2 (v := pt b 0) h84 rfl rfl rfl fun a85 h85 => ?_; clear h84
    refine dk0 3 (v := pt b 0) h85 rfl rfl rfl fun a86 h86 => ?_; clear h85
    refine dk0 4 (v := pt b 5) h86 rfl rfl rfl fun a87 h87 => ?_; clear h86
    have hk88 := hk73.kept hg80 (by simp)
    refine dk 5 (v := .int .u64 hz) h87 rfl rfl rfl (fun x hx => by subst hx; exact (rn_load1 rfl rfl Try.isAgg29 (hk88.cell rfl))) fun a89 h89 => ?_; clear h87
    refine dk0 6 (v := .bool (decide (at_ < hz))) h89 rfl rfl rfl fun a90 h90 => ?_; clear h89
    refine dr_done (by kernel_rfl) ?_
    refine co_then ?_
    have hB92 := fb_new hB77 hg80
    have hr93 := row_kept_new hr59 hg65
    have hr94 := row_kept_new hr93 hg80
    have hr95 := row_kept_new hr36 hg65
    have hr96 := row_kept_new hr95 hg80
    cases hc91 : (decide (at_ < hz))
    ·
     rw [hc91] at h90
     have hp97 : ¬ (at_ < hz) := of_decide_eq_false hc91
     clear hc91
     refine co_false h90 rfl ?_
     refine wp_skip ?_
     refine co_then ?_
     refine co_seq ?_
     refine dr_gen (fun x => But (fun q => q = b) w x ∧ Blk x b 65 #[.bool true, .int .i64 ep, cv, .int .u64 fl, lgv, .int .u64 hz, pv, .int .i64 tp, .bool x0.1, .int .i64 x0.2.1, .int .i64 x0.2.2.1, .int .i64 x0.2.2.2.1, .int .i64 x0.2.2.2.2, .bool x1.1, .int .i64 x1.2.1, .int .i64 x1.2.2.1, .int .i64 x1.2.2.2.1, .int .i64 x1.2.2.2.2, .bool x2.1, .int .i64 x2.2.1, .int .i64 x2.2.2.1, .int .i64 x2.2.2.2.1, .int .i64 x2.2.2.2.2] ∧ Blk x N3 40 #[.int .i64 id, .int .u64 at_, .int .i64 lf]) (by kernel_rfl) (fun w98 hg99 => ?_) (fun w98 hg99 => ?_)
     ·
      have hz100 := hg99.size
      have hB101 := fb_new hB92 hg99
      have hk102 := hk88.kept hg99 (by simp)
      have hk103 := hk83.kept hg99 (by simp)
      exact ⟨hB101, hk102, hk103⟩
     have hz104 := hg99.size
     have hB105 := fb_new hB92 hg99
     have hk106 := hk88.kept hg99 (by simp)
     have hk107 := hk83.kept hg99 (by simp)
     refine dk0 0 (v := pt b 0) h90 rfl rfl ⟨hB105, hk106, hk107⟩ fun a108 h108 => ?_; clear h90
     refine dk0 1 (v := pt b 0) h108 rfl rfl ⟨hB105, hk106, hk107⟩ fun a109 h109 => ?_; clear h108
     refine dk0 2 (v := pt b 6) h109 rfl rfl ⟨hB105, hk106, hk107⟩ fun a110 h110 => ?_; clear h109
     refine dk 3 (v := pv) h110 rfl rfl ⟨hB105, hk106, hk107⟩ (fun x hx => (rn_load1 rfl rfl Try.isAgg47 (hx.2.1.cell rfl))) fun a111 h111 => ?_; clear h110
     refine dk0 4 (v := pt N3 0) h111 rfl rfl ⟨hB105, hk106, hk107⟩ fun a112 h112 => ?_; clear h111
     refine dk 5 (v := .int .i64 id) h112 rfl rfl ⟨hB105, hk106, hk107⟩ (fun x hx => (rn_load1 rfl rfl Try.isAgg3 (hx.2.2.cell rfl))) fun a113 h113 => ?_; clear h112
     refine dk0 6 (v := pt N3 1) h113 rfl rfl ⟨hB105, hk106, hk107⟩ fun a114 h114 => ?_; clear h113
     refine dk 7 (v := .int .u64 at_) h114 rfl rfl ⟨hB105, hk106, hk107⟩ (fun x hx => (rn_load1 rfl rfl Try.isAgg29 (hx.2.2.cell rfl))) fun a115 h115 => ?_; clear h114
     have hr124 := row_kept_new hr94 hg99
     refine d1 8 h115 rfl rfl (op_call (args := #[pv, .int .i64 id, .int .u64 at_]) (R := fun res xw => ∃ u : Value, res = .tuple #[u, .int .i64 ((grantP pn id at_).2)] ∧ xw.ownsRow w98.heap.size 40 3 u ((grantP pn id at_).1).length (((grantP pn id at_).1).flatMap pinE) ∧ Below w98.heap.size w98 xw) rfl rfl rfl (by kernel_rfl) (by kernel_rfl) (Try.call107 _ _) (leaseGrant_any pv pn id at_ (grantP pn id at_).1 (grantP pn id at_).2 w98 (row_sl hr124 pinE_len) (by omega) rfl) (by rintro e x ⟨u, rfl, h⟩; exact ⟨_, rfl, u, rfl, h⟩)) ?_ ?_; clear h115
     ·
      rintro _ w117 ⟨u118, rfl, hr119, hb120⟩
      have hz125 := hb120.size
      have hle126 := grantP_le pn id at_
      have hB127 := fb_call hB105 hb120
      have hk128 := hk106.below hb120
      have hk129 := hk107.below hb120
      exact ⟨hB127, hk128, hk129⟩
     rintro _ w117 a116 ⟨u118, rfl, hr119, hb120⟩ h116
     have hz125 := hb120.size
     have hle126 := grantP_le pn id at_
     have hB127 := fb_call hB105 hb120
     have hk128 := hk106.below hb120
     have hk129 := hk107.below hb120
     refine dk0 9 (v := .tuple #[u118, .int .i64 ((grantP pn id at_).2)]) h116 rfl rfl ⟨hB127, hk128, hk129⟩ fun a130 h130 => ?_; clear h116
     refine dk0 10 (v := u118) h130 rfl rfl ⟨hB127, hk128, hk129⟩ fun a131 h131 => ?_; clear h130
     refine dk0 11 (v := .int .i64 ((grantP pn id at_).2)) h131 rfl rfl ⟨hB127, hk128, hk129⟩ fun a132 h132 => ?_; clear h131
     refine dk0 12 (v := u118) h132 rfl rfl ⟨hB127, hk128, hk129⟩ fun a133 h133 => ?_; clear h132
     refine dk0 13 (v := .int .i64 ((grantP pn id at_).2)) h133 rfl rfl ⟨hB127, hk128, hk129⟩ fun a134 h134 => ?_; clear h133
     refine dr_done (by kernel_rfl) ?_
     refine co_then ?_
     refine co_seq ?_
     refine co_seq ?_
     refine co_reg ?_
     refine pk0 (v := .int .i64 ((grantP pn id at_).2)) h134 rfl fun a135 h135 => ?_; clear h134
     refine pk0 (v := .bool ((grantP pn id at_).2 != 0)) h135 rfl fun a136 h136 => ?_; clear h135
     refine pl_nil ?_
     refine co_then ?_
     have hr138 := row_kept_new hr96 hg99
     have hr139 := row_kept_new hr138 (below_grown hb120)
     cases hc137 : ((grantP pn id at_).2 != 0)
     ·
      rw [hc137] at h136
      have hp140 : ¬ ((grantP pn id at_).2 ≠ 0) := by first | simpa using hc137 | simpa [and_assoc] using hc137
      clear hc137
      refine co_false h136 rfl ?_
      refine wp_skip ?_
      refine co_then ?_
      refine co_seq ?_
      refine dr_gen (fun x => But (fun q => q = b) w x ∧ Blk x N3 40 #[.int .i64 id, .int .u64 at_, .int .i64 lf]) (by kernel_rfl) (fun w141 hg142 => ?_) (fun w141 hg142 => ?_)
      ·
       have hz143 := hg142.size
       have hB144 := fb_new hB127 hg142
       have hk145 := hk129.kept hg142 (by simp)
       exact ⟨hB144, hk145⟩
      have hz146 := hg142.size
      have hB147 := fb_new hB127 hg142
      have hk148 := hk129.kept hg142 (by simp)
      refine dk0 0 (v := pt b 0) h136 rfl rfl ⟨hB147, hk148⟩ fun a149 h149 => ?_; clear h136
      refine dk0 1 (v := pt b 0) h149 rfl rfl ⟨hB147, hk148⟩ fun a150 h150 => ?_; clear h149
      refine dk0 2 (v := u118) h150 rfl rfl ⟨hB147, hk148⟩ fun a151 h151 => ?_; clear h150
      refine dk0 3 (v := pt N3 0) h151 rfl rfl ⟨hB147, hk148⟩ fun a152 h152 => ?_; clear h151
      refine dk 4 (v := .int .i64 id) h152 rfl rfl ⟨hB147, hk148⟩ (fun x hx => (rn_load1 rfl rfl Try.isAgg3 (hx.2.cell rfl))) fun a153 h153 => ?_; clear h152
      refine dk0 5 (v := pt b 0) h153 rfl rfl ⟨hB147, hk148⟩ fun a154 h154 => ?_; clear h153
      refine dk0 6 (v := pt b 6) h154 rfl rfl ⟨hB147, hk148⟩ fun a155 h155 => ?_; clear h154
      have hr161 := row_kept_new hr119 hg142
      have hk162 := hk128.kept hg142 (by simp)
      refine d1D 7 h155 rfl rfl (op_store1 rfl rfl rfl (row_one hr161) Try.sizeOf47 hk162 rfl) ?_ ?_; clear h155
      ·
       rintro _ w157 ⟨hk158, hz159, hg160⟩
       have hk158' : Blk w157 b 65 #[.bool true, .int .i64 ep, cv, .int .u64 fl, lgv, .int .u64 hz, u118, .int .i64 tp, .bool x0.1, .int .i64 x0.2.1, .int .i64 x0.2.2.1, .int .i64 x0.2.2.2.1, .int .i64 x0.2.2.2.2, .bool x1.1, .int .i64 x1.2.1, .int .i64 x1.2.2.1, .int .i64 x1.2.2.2.1, .int .i64 x1.2.2.2.2, .bool x2.1, .int .i64 x2.2.1, .int .i64 x2.2.2.1, .int .i64 x2.2.2.2.1, .int .i64 x2.2.2.2.2] := hk158; clear hk158
       have hz163 := hg160.size
       have hB164 := fb_at hB147 hg160 (fun hlt => by first | (exfalso; omega) | (simp; done) | simp_all)
       have hk165 := hk148.kept hg160 (by simp; omega)
       exact ⟨hB164, hk165⟩
      rintro _ w157 a156 ⟨hk158, hz159, hg160⟩ h156
      have hk158' : Blk w157 b 65 #[.bool true, .int .i64 ep, cv, .int .u64 fl, lgv, .int .u64 hz, u118, .int .i64 tp, .bool x0.1, .int .i64 x0.2.1, .int .i64 x0.2.2.1, .int .i64 x0.2.2.2.1, .int .i64 x0.2.2.2.2, .bool x1.1, .int .i64 x1.2.1, .int .i64 x1.2.2.1, .int .i64 x1.2.2.2.1, .int .i64 x1.2.2.2.2, .bool x2.1, .int .i64 x2.2.1, .int .i64 x2.2.2.1, .int .i64 x2.2.2.2.1, .int .i64 x2.2.2.2.2] := hk158; clear hk158
      have hz163 := hg160.size
      have hB164 := fb_at hB147 hg160 (fun hlt => by first | (exfalso; omega) | (simp; done) | simp_all)
      have hk165 := hk148.kept hg160 (by simp; omega)
      refine dk0 8 (v := pt b 0) h156 rfl rfl ⟨hB164, hk165⟩ fun a166 h166 => ?_; clear h156
      refine dk0 9 (v := pt b 7) h166 rfl rfl ⟨hB164, hk165⟩ fun a167 h167 => ?_; clear h166
      refine d1D 10 h167 rfl rfl (op_store1 rfl rfl rfl rfl Try.sizeOf3 hk158' rfl) ?_ ?_; clear h167
      ·
       rintro _ w169 ⟨hk170, hz171, hg172⟩
       have hk170' : Blk w169 b 65 #[.bool true, .int .i64 ep, cv, .int .u64 fl, lgv, .int .u64 hz, u118, .int .i64 id, .bool x0.1, .int .i64 x0.2.1, .int .i64 x0.2.2.1, .int .i64 x0.2.2.2.1, .int .i64 x0.2.2.2.2, .bool x1.1, .int .i64 x1.2.1, .int .i64 x1.2.2.1, .int .i64 x1.2.2.2.1, .int .i64 x1.2.2.2.2, .bool x2.1, .int .i64 x2.2.1, .int .i64 x2.2.2.1, .int .i64 x2.2.2.2.1, .int .i64 x2.2.2.2.2] := hk170; clear hk170
       have hz173 := hg172.size
       have hB174 := fb_at hB164 hg172 (fun hlt => by first | (exfalso; omega) | (simp; done) | simp_all)
       have hk175 := hk165.kept hg172 (by simp; omega)
       exact ⟨hB174, hk175⟩
      rintro _ w169 a168 ⟨hk170, hz171, hg172⟩ h168
      have hk170' : Blk w169 b 65 #[.bool true, .int .i64 ep, cv, .int .u64 fl, lgv, .int .u64 hz, u118, .int .i64 id, .bool x0.1, .int .i64 x0.2.1, .int .i64 x0.2.2.1, .int .i64 x0.2.2.2.1, .int .i64 x0.2.2.2.2, .bool x1.1, .int .i64 x1.2.1, .int .i64 x1.2.2.1, .int .i64 x1.2.2.2.1, .int .i64 x1.2.2.2.2, .bool x2.1, .int .i64 x2.2.1, .int .i64 x2.2.2.1, .int .i64 x2.2.2.2.1, .int .i64 x2.2.2.2.2] := hk170; clear hk170
      have hz173 := hg172.size
      refine dr_done (by kernel_rfl) ?_
      refine co_then ?_
      refine co_seq ?_
      refine co_reg ?_
      refine pk0 (v := .int .i64 0) h168 rfl fun a174 h174 => ?_; clear h168
      refine pl_nil ?_
      refine co_then ?_
      refine wp_ret ?_
      refine co_ret1 h174 rfl rfl ?_
      have hr175 := row_kept_at hr161 hg160 (own_neT hr161 hk162 (by decide))
      have hr176 := row_kept_at hr175 hg172 (own_neT hr175 hk158' (by decide))
      have hB177 := fb_at hB164 hg172 (fun hlt => by first | (exfalso; omega) | (simp; done) | simp_all)
      have hA : pnF pn hz tp id at_ = (0, (grantP pn id at_).1, id) := by unfold pnF; (repeat (first | rw [if_pos (by omega)] | rw [if_neg (by omega)]))
      exact ⟨u118, by rw [hA], by rw [hA]; exact hk170', by rw [hA]; exact row_lows hr176 (Nat.zero_le _), by rw [hA]; show ((grantP pn id at_).1).length ≤ 3; omega, hB177⟩
     ·
      rw [hc137] at h136
      have hp178 : (grantP pn id at_).2 ≠ 0 := by first | simpa using hc137 | simpa [and_assoc] using hc137
      clear hc137
      refine co_true h136 rfl ?_
      refine co_seq ?_
      refine co_reg ?_
      refine pk0 (v := .int .i64 ((grantP pn id at_).2)) h136 rfl fun a179 h179 => ?_; clear h136
      refine pk0 (v := .int .i64 ((grantP pn id at_).2)) h179 rfl fun a180 h180 => ?_; clear h179
      refine pl_nil ?_
      refine co_then ?_
      refine wp_ret ?_
      refine co_thenR ?_
      refine co_ret1 h180 rfl rfl ?_
      have hr181 := row_kept_new hr124 (below_grown hb120)
      have hA : pnF pn hz tp id at_ = ((grantP pn id at_).2, pn, tp) := by unfold pnF; (repeat (first | rw [if_pos (by omega)] | rw [if_neg (by omega)]))
      exact ⟨pv, by rw [hA], by rw [hA]; exact hk128, by rw [hA]; exact row_lows hr181 (Nat.zero_le _), by rw [hA]; show pn.length ≤ 3; omega, hB127⟩
    ·
     rw [hc91] at h90
     have hp182 : at_ < hz := of_decide_eq_true hc91
     clear hc91
     refine co_true h90 rfl ?_
     refine co_seq ?_
     refine co_reg ?_
     refine pk0 (v := .int .i64 13) h90 rfl fun a183 h183 => ?_; clear h90
     refine pl_nil ?_
     refine co_then ?_
     refine wp_ret ?_
     refine co_thenR ?_
     refine co_ret1 h183 rfl rfl ?_
     have hA : pnF pn hz tp id at_ = (13, pn, tp) := by unfold pnF; (repeat (first | rw [if_pos (by omega)] | rw [if_neg (by omega)]))
     exact ⟨pv, by rw [hA], by rw [hA]; exact hk88, by rw [hA]; exact row_lows hr94 (Nat.zero_le _), by rw [hA]; show pn.length ≤ 3; omega, hB92⟩
   ·
    rw [hc76] at h75
    have hp184 : id ≤ tp := of_decide_eq_true hc76
    clear hc76
    refine co_true h75 rfl ?_
    refine co_seq ?_
    refine co_reg ?_
    refine pk0 (v := .int .i64 18) h75 rfl fun a185 h185 => ?_; clear h75
    refine pl_nil ?_
    refine co_then ?_
    refine wp_ret ?_
    refine co_thenR ?_
    refine co_ret1 h185 rfl rfl ?_
    have hr186 := row_kept_new hr59 hg65
    have hA : pnF pn hz tp id at_ = (18, pn, tp) := by unfold pnF; (repeat (first | rw [if_pos (by omega)] | rw [if_neg (by omega)]))
    exact ⟨pv, by rw [hA], by rw [hA]; exact hk73, by rw [hA]; exact row_lows hr186 (Nat.zero_le _), by rw [hA]; show pn.length ≤ 3; omega, hB77⟩
  ·
   rw [hc62] at h61
   have hp187 : ((pn.length : Nat) : Int) ≥ 3 := of_decide_eq_true hc62
   clear hc62
   refine co_true h61 rfl ?_
   refine co_seq ?_
   refine co_reg ?_
   refine pk0 (v := .int .i64 17) h61 rfl fun a188 h188 => ?_; clear h61
   refine pl_nil ?_
   refine co_then ?_
   refine wp_ret ?_
   refine co_thenR ?_
   refine co_ret1 h188 rfl rfl ?_
   have hA : pnF pn hz tp id at_ = (17, pn, tp) := by unfold pnF; (repeat (first | rw [if_pos (by omega)] | rw [if_neg (by omega)]))
   exact ⟨pv, by rw [hA], by rw [hA]; exact hk44, by rw [hA]; exact row_lows hr59 (Nat.zero_le _), by rw [hA]; show pn.length ≤ 3; omega, hB43⟩
 ·
  rw [hc53] at h52
  have hp189 : (renewP pn id).2 = 0 := by first | simpa using hc53 | simpa [and_assoc] using hc53
  clear hc53
  refine co_true h52 rfl ?_
  refine co_seq ?_
  refine co_reg ?_
  refine pk0 (v := pt b 0) h52 rfl fun a190 h190 => ?_; clear h52
  refine pk0 (v := u35) h190 rfl fun a191 h191 => ?_; clear h190
  refine pk0 (v := pt b 0) h191 rfl fun a192 h192 => ?_; clear h191
  refine pk0 (v := pt b 6) h192 rfl fun a193 h193 => ?_; clear h192
  refine pwD h193 rfl (op_store1 rfl rfl rfl (row_one hr36) Try.sizeOf47 hk44 rfl) ?_; clear h193
  rintro _ w195 a194 ⟨hk196, hz197, hg198⟩ h194
  have hk196' : Blk w195 b 65 #[.bool true, .int .i64 ep, cv, .int .u64 fl, lgv, .int .u64 hz, u35, .int .i64 tp, .bool x0.1, .int .i64 x0.2.1, .int .i64 x0.2.2.1, .int .i64 x0.2.2.2.1, .int .i64 x0.2.2.2.2, .bool x1.1, .int .i64 x1.2.1, .int .i64 x1.2.2.1, .int .i64 x1.2.2.2.1, .int .i64 x1.2.2.2.2, .bool x2.1, .int .i64 x2.2.1, .int .i64 x2.2.2.1, .int .i64 x2.2.2.2.1, .int .i64 x2.2.2.2.2] := hk196; clear hk196
  have hz199 := hg198.size
  refine pl_nil ?_
  refine co_then ?_
  refine co_seq ?_
  refine co_reg ?_
  refine pk0 (v := .int .i64 0) h194 rfl fun a200 h200 => ?_; clear h194
  refine pl_nil ?_
  refine co_then ?_
  refine wp_ret ?_
  refine co_thenR ?_
  refine co_ret1 h200 rfl rfl ?_
  have hr201 := row_kept_at hr36 hg198 (own_neT hr36 hk44 (by decide))
  have hB202 := fb_at hB43 hg198 (fun hlt => by first | (exfalso; omega) | (simp; done) | simp_all)
  have hA : pnF pn hz tp id at_ = (0, (renewP pn id).1, tp) := by unfold pnF; (repeat (first | rw [if_pos (by omega)] | rw [if_neg (by omega)]))
  exact ⟨u35, by rw [hA], by rw [hA]; exact hk196', by rw [hA]; exact row_lows hr201 (Nat.zero_le _), by rw [hA]; show ((renewP pn id).1).length ≤ 3; omega, hB202⟩
end Go.Proofs.Ytlbemlodcdgakaa

/- Package mstate: Apply of pins and horizons, Pins, Top, Horizon. Conditions: at most three pins. -/
namespace Go.Proofs.Ytlbemlodcdgakaa
open Go.RowKit Go.PlainAid
set_option linter.unusedVariables false
set_option linter.unusedSimpArgs false

set_option maxRecDepth 100000 in
theorem msApplyP_any (b : Nat) (ep : Int) (cv : Value) (fl : Int) (lgv : Value) (hz : Int) (pv : Value) (pn : List PinT) (tp : Int) (x0 : SdT) (x1 : SdT) (x2 : SdT) (d : NoteD) (mv : Value) (lv : Value) (ev : Value) (w : World) (hb : Blk w b 65 #[.bool true, .int .i64 ep, cv, .int .u64 fl, lgv, .int .u64 hz, pv, .int .i64 tp, .bool x0.1, .int .i64 x0.2.1, .int .i64 x0.2.2.1, .int .i64 x0.2.2.2.1, .int .i64 x0.2.2.2.2, .bool x1.1, .int .i64 x1.2.1, .int .i64 x1.2.2.1, .int .i64 x1.2.2.2.1, .int .i64 x1.2.2.2.2, .bool x2.1, .int .i64 x2.2.1, .int .i64 x2.2.2.1, .int .i64 x2.2.2.2.1, .int .i64 x2.2.2.2.2]) (hpn : w.ownsRow 0 40 3 pv pn.length (pn.flatMap pinE)) (hp3 : pn.length ≤ 3) (hm : SliceOf memE 2 w mv d.ms) (hg : SliceOf (intE .i64) 1 w lv d.lg) (he : SliceOf opE 3 w ev d.el) (hR : NoteR d) (hbm : d.ms ≠ [] → ∀ k, mv.ownBlock = some k → ¬ k = b) (hbg : d.lg ≠ [] → ∀ k, lv.ownBlock = some k → ¬ k = b) (hbe : d.el ≠ [] → ∀ k, ev.ownBlock = some k → ¬ k = b) (hkx : ¬ d.k = 1 ∧ ¬ d.k = 5 ∧ ¬ d.k = 8) :
    Calls Try.prog 12 #[pt b 0, .agg #[.int .i64 d.k, .int .i64 d.n, .int .u64 d.t, .int .i64 d.ep, mv, .int .u64 d.fl, lv, .int .i64 d.ec, .int .i64 d.er, ev, .int .u64 d.ets, .int .i64 d.pid, .int .u64 d.pat, .int .i64 d.plf, .int .i64 d.sc, .int .i64 d.sr, .int .i64 d.se, .int .i64 d.sp]] w fun e w' => ∃ (pv2 : Value), e = .returned (.int .i64 ((apF pn hz tp d).1)) ∧ Blk w' b 65 #[.bool true, .int .i64 ep, cv, .int .u64 fl, lgv, .int .u64 ((apF pn hz tp d).2.1), pv2, .int .i64 ((apF pn hz tp d).2.2.2), .bool x0.1, .int .i64 x0.2.1, .int .i64 x0.2.2.1, .int .i64 x0.2.2.2.1, .int .i64 x0.2.2.2.2, .bool x1.1, .int .i64 x1.2.1, .int .i64 x1.2.2.1, .int .i64 x1.2.2.2.1, .int .i64 x1.2.2.2.2, .bool x2.1, .int .i64 x2.2.1, .int .i64 x2.2.2.1, .int .i64 x2.2.2.2.1, .int .i64 x2.2.2.2.2] ∧ w'.ownsRow 0 40 3 pv2 ((apF pn hz tp d).2.2.1).length (((apF pn hz tp d).2.2.1).flatMap pinE) ∧ ((apF pn hz tp d).2.2.1).length ≤ 3 ∧ But (fun q => q = b) w w' := by
 have hrng := hR.rng
 have hB0 := But.refl (fun q => q = b) w
 have hl_hb := hb.lt
 have hl_hm := sl_len hm
 have hl_hg := sl_len hg
 have hl_he := sl_len he
 refine co_enter (n := 113) Try.func12 rfl rfl rfl [(0, pt b 0), (1, .agg #[.int .i64 d.k, .int .i64 d.n, .int .u64 d.t, .int .i64 d.ep, mv, .int .u64 d.fl, lv, .int .i64 d.ec, .int .i64 d.er, ev, .int .u64 d.ets, .int .i64 d.pid, .int .u64 d.pat, .int .i64 d.plf, .int .i64 d.sc, .int .i64 d.sr, .int .i64 d.se, .int .i64 d.sp])] rfl (fun a h0 => ?_)
 refine co_seq ?_
 refine co_reg ?_
 refine pw h0 rfl (op_new (v := fun N => pt N 0) (T := 44) (cs := #[.int .i64 d.k, .int .i64 d.n, .int .u64 d.t, .int .i64 d.ep, mv, .int .u64 d.fl, lv, .int .i64 d.ec, .int .i64 d.er, ev, .int .u64 d.ets, .int .i64 d.pid, .int .u64 d.pat, .int .i64 d.plf, .int .i64 d.sc, .int .i64 d.sr, .int .i64 d.se, .int .i64 d.sp]) (by kernel_rfl) (by kernel_rfl) (by kernel_rfl)) ?_; clear h0
 rintro _ w2 a1 ⟨N3, rfl, hN6, hz7, hk5, hg4⟩ h1
 have ha8 := row_fresh hpn hN6
 have hz9 := hg4.size
 try dsimp only at h1
 refine pk0 (v := .int .i64 0) h1 rfl fun a10 h10 => ?_; clear h1
 refine pl_nil ?_
 refine co_then ?_
 refine co_seq ?_
 refine co_seq ?_
 refine co_reg ?_
 refine pk0 (v := pt b 0) h10 rfl fun a11 h11 => ?_; clear h10
 have hk14 := hb.kept hg4 (by simp)
 refine pw h11 rfl (op_call (args := #[pt b 0]) (R := fun res xw => res = .bool false ∧ Below w2.heap.size w2 xw) rfl rfl rfl (by kernel_rfl) (by kernel_rfl) (Try.call46 _ _) (mszeroT b ep cv fl lgv hz pv tp x0 x1 x2 w2 hk14) (by rintro e x ⟨rfl, hb15⟩; exact ⟨_, rfl, ⟨rfl, hb15⟩⟩)) ?_; clear h11
 rintro _ w13 a12 ⟨rfl, hb15⟩ h12
 have hz16 := hb15.size
 refine pl_nil ?_
 refine co_then ?_
 refine co_false h12 rfl ?_
 refine wp_skip ?_
 refine co_then ?_
 refine co_seq ?_
 refine co_seq ?_
 refine co_reg ?_
 have hk17 := hk5.below hb15
 refine pk (v := .agg #[.int .i64 d.k, .int .i64 d.n, .int .u64 d.t, .int .i64 d.ep, mv, .int .u64 d.fl, lv, .int .i64 d.ec, .int .i64 d.er, ev, .int .u64 d.ets, .int .i64 d.pid, .int .u64 d.pat, .int .i64 d.plf, .int .i64 d.sc, .int .i64 d.sr, .int .i64 d.se, .int .i64 d.sp]) h12 rfl (rn_loadN rfl rfl Try.underlying44 rfl (by kernel_rfl) hk17.all) fun a18 h18 => ?_; clear h12
 have hB21 := fb_new hB0 hg4
 have hB22 := fb_call hB21 hb15
 refine pw h18 rfl (op_call (args := #[.agg #[.int .i64 d.k, .int .i64 d.n, .int .u64 d.t, .int .i64 d.ep, mv, .int .u64 d.fl, lv, .int .i64 d.ec, .int .i64 d.er, ev, .int .u64 d.ets, .int .i64 d.pid, .int .u64 d.pat, .int .i64 d.plf, .int .i64 d.sc, .int .i64 d.sr, .int .i64 d.se, .int .i64 d.sp]]) (R := fun res xw => res = .int .i64 (chkN d) ∧ Below w13.heap.size w13 xw) rfl rfl rfl (by kernel_rfl) (by kernel_rfl) (Try.call47 _ _) (nCheck_any d mv lv ev w13 (sl_butS hm hB22 hbm) (sl_butS hg hB22 hbg) (sl_butS he hB22 hbe) hR) (by rintro e x ⟨rfl, hb23⟩; exact ⟨_, rfl, ⟨rfl, hb23⟩⟩)) ?_; clear h18
 rintro _ w20 a19 ⟨rfl, hb23⟩ h19
 have hz24 := hb23.size
 refine pk0 (v := .int .i64 (chkN d)) h19 rfl fun a25 h25 => ?_; clear h19
 refine pl_nil ?_
 refine co_then ?_
 refine co_seq ?_
 refine co_reg ?_
 refine pk0 (v := .int .i64 (chkN d)) h25 rfl fun a26 h26 => ?_; clear h25
 refine pk0 (v := .bool (chkN d != 0)) h26 rfl fun a27 h27 => ?_; clear h26
 refine pl_nil ?_
 refine co_then ?_
 have hB29 := fb_call hB22 hb23
 have hk30 := hk14.below hb15
 have hk31 := hk30.below hb23
 have hr32 := row_kept_new hpn hg4
 have hr33 := row_kept_new hr32 (below_grown hb15)
 have hr34 := row_kept_new hr33 (below_grown hb23)
 cases hc28 : (chkN d != 0)
 ·
  rw [hc28] at h27
  have hp35 : ¬ (chkN d ≠ 0) := by first | simpa using hc28 | simpa [and_assoc] using hc28
  clear hc28
  refine co_false h27 rfl ?_
  refine wp_skip ?_
  refine co_then ?_
  refine co_seq ?_
  refine co_reg ?_
  refine pk0 (v := pt N3 1) h27 rfl fun a36 h36 => ?_; clear h27
  have hk37 := hk17.below hb23
  refine pk (v := .int .i64 d.n) h36 rfl (rn_load1 rfl rfl Try.isAgg3 (hk37.cell rfl)) fun a38 h38 => ?_; clear h36
  refine pw h38 rfl (op_new (v := fun N => .slice (some ⟨N, 0, none⟩) 1 1) (T := 3) (cs := #[.int .i64 d.n]) (by kernel_rfl) (by kernel_rfl) (by kernel_rfl)) ?_; clear h38
  rintro _ w40 a39 ⟨N41, rfl, hN44, hz45, hk43, hg42⟩ h39
  have ha46 := row_fresh hr34 hN44
  have hz47 := hg42.size
  try dsimp only at h39
  refine pk0 (v := .slice (some ⟨N41, 0, none⟩) 1 1) h39 rfl fun a48 h48 => ?_; clear h39
  refine pl_nil ?_
  refine co_then ?_
  refine co_seq ?_
  refine co_seq ?_
  refine co_reg ?_
  refine pk0 (v := pt N3 0) h48 rfl fun a49 h49 => ?_; clear h48
  have hk50 := hk37.kept hg42 (by simp)
  refine pk (v := .int .i64 d.k) h49 rfl (rn_load1 rfl rfl Try.isAgg3 (hk50.cell rfl)) fun a51 h51 => ?_; clear h49
  refine pl_nil ?_
  refine co_then ?_
  refine wp_block ?_
  refine co_seq ?_
  refine wp_block ?_
  refine co_seq ?_
  refine wp_block ?_
  refine co_seq ?_
  refine wp_block ?_
  refine co_seq ?_
  refine wp_block ?_
  refine co_seq ?_
  refine wp_block ?_
  refine co_seq ?_
  refine wp_block ?_
  refine co_seq ?_
  refine wp_block ?_
  refine co_seq ?_
  refine co_seq ?_
  refine co_seq ?_
  refine co_reg ?_
  refine pk0 (v := .bool (d.k == 1)) h51 rfl fun a52 h52 => ?_; clear h51
  refine pk0 (v := .bool (d.k == 1)) h52 rfl fun a53 h53 => ?_; clear h52
  refine pl_nil ?_
  refine co_then ?_
  have hc54 : (d.k == 1) = false := by first | (simp; done) | (simp; omega) | exact beq_false_of_ne (by omega) | exact beq_iff_eq.2 (by omega)
  rw [hc54] at h53; clear hc54
  refine co_false h53 rfl ?_
  refine wp_skip ?_
  refine co_then ?_
  refine co_seq ?_
  refine co_seq ?_
  refine co_reg ?_
  refine pk0 (v := .bool (d.k == 5)) h53 rfl fun a55 h55 => ?_; clear h53
  refine pk0 (v := .bool (d.k == 5)) h55 rfl fun a56 h56 => ?_; clear h55
  refine pl_nil ?_
  refine co_then ?_
  have hc57 : (d.k == 5) = false := by first | (simp; done) | (simp; omega) | exact beq_false_of_ne (by omega) | exact beq_iff_eq.2 (by omega)
  rw [hc57] at h56; clear hc57
  refine co_false h56 rfl ?_
  refine wp_skip ?_
  refine co_then ?_
  refine co_seq ?_
  refine co_seq ?_
  refine co_reg ?_
  refine pk0 (v := .bool (d.k == 4)) h56 rfl fun a58 h58 => ?_; clear h56
  refine pk0 (v := .bool (d.k == 4)) h58 rfl fun a59 h59 => ?_; clear h58
  refine pl_nil ?_
  refine co_then ?_
  have hB61 := fb_new hB29 hg42
  cases hc60 : (d.k == 4)
  ·
   rw [hc60] at h59
   have hp62 : ¬ (d.k = 4) := by first | simpa using hc60 | simpa [and_assoc] using hc60
   clear hc60
   refine co_false h59 rfl ?_
   refine wp_skip ?_
   refine co_then ?_
   refine co_seq ?_
   refine co_seq ?_
   refine co_reg ?_
   refine pk0 (v := .bool (d.k == 6)) h59 rfl fun a63 h63 => ?_; clear h59
   refine pk0 (v := .bool (d.k == 6)) h63 rfl fun a64 h64 => ?_; clear h63
   refine pl_nil ?_
   refine co_then ?_
   cases hc65 : (d.k == 6)
   ·
    rw [hc65] at h64
    have hp66 : ¬ (d.k = 6) := by first | simpa using hc65 | simpa [and_assoc] using hc65
    clear hc65
    refine co_false h64 rfl ?_
    refine wp_skip ?_
    refine co_then ?_
    refine co_seq ?_
    refine co_seq ?_
    refine co_reg ?_
    refine pk0 (v := .bool (d.k == 7)) h64 rfl fun a67 h67 => ?_; clear h64
    refine pk0 (v := .bool (d.k == 7)) h67 rfl fun a68 h68 => ?_; clear h67
    refine pl_nil ?_
    refine co_then ?_
    cases hc69 : (d.k == 7)
    ·
     rw [hc69] at h68
     have hp70 : ¬ (d.k = 7) := by first | simpa using hc69 | simpa [and_assoc] using hc69
     clear hc69
     refine co_false h68 rfl ?_
     refine wp_skip ?_
     refine co_then ?_
     refine co_seq ?_
     refine co_reg ?_
     refine pk0 (v := .bool (d.k == 8)) h68 rfl fun a71 h71 => ?_; clear h68
     refine pk0 (v := .bool (d.k == 8)) h71 rfl fun a72 h72 => ?_; clear h71
     refine pl_nil ?_
     refine co_then ?_
     have hc73 : (d.k == 8) = false := by first | (simp; done) | (simp; omega) | exact beq_false_of_ne (by omega) | exact beq_iff_eq.2 (by omega)
     rw [hc73] at h72; clear hc73
     refine co_false h72 rfl ?_
     refine wp_skip ?_
     refine co_then ?_
     refine wp_exit ?_
     refine co_blockY (by decide) ?_
     refine co_thenX ?_
     refine co_blockY (by decide) ?_
     refine co_thenX ?_
     refine co_blockY (by decide) ?_
     refine co_thenX ?_
     refine co_blockY (by decide) ?_
     refine co_thenX ?_
     refine co_blockY (by decide) ?_
     refine co_thenX ?_
     refine co_blockY (by decide) ?_
     refine co_thenX ?_
     refine co_blockX ?_
     refine co_then ?_
     refine co_seq ?_
     refine co_seq ?_
     refine co_reg ?_
     refine pk0 (v := .int .i64 11) h72 rfl fun a74 h74 => ?_; clear h72
     refine pl_nil ?_
     refine co_then ?_
     refine wp_ret ?_
     refine co_thenR ?_
     refine co_blockR ?_
     refine co_thenR ?_
     refine co_ret1 h74 rfl rfl ?_
     have hk75 := hk31.kept hg42 (by simp)
     have hr76 := row_kept_new hr34 hg42
     have hA : apF pn hz tp d = (11, hz, pn, tp) := by unfold apF; (repeat (first | rw [if_pos (by omega)] | rw [if_neg (by omega)]))
     exact ⟨pv, by rw [hA], by rw [hA]; exact hk75, by rw [hA]; exact row_lows hr76 (Nat.zero_le _), by rw [hA]; show pn.length ≤ 3; omega, hB61⟩
    ·
     rw [hc69] at h68
     have hp77 : d.k = 7 := by first | simpa using hc69 | simpa [and_assoc] using hc69
     clear hc69
     refine co_true h68 rfl ?_
     refine wp_exit ?_
     refine co_thenX ?_
     refine co_thenX ?_
     refine co_blockY (by decide) ?_
     refine co_thenX ?_
     refine co_blockY (by decide) ?_
     refine co_thenX ?_
     refine co_blockY (by decide) ?_
     refine co_thenX ?_
     refine co_blockY (by decide) ?_
     refine co_thenX ?_
     refine co_blockX ?_
     refine co_then ?_
     refine co_seq ?_
     refine co_seq ?_
     refine co_seq ?_
     refine dr_gen (fun x => But (fun q => q = b) w x ∧ Blk x b 65 #[.bool true, .int .i64 ep, cv, .int .u64 fl, lgv, .int .u64 hz, pv, .int .i64 tp, .bool x0.1, .int .i64 x0.2.1, .int .i64 x0.2.2.1, .int .i64 x0.2.2.2.1, .int .i64 x0.2.2.2.2, .bool x1.1, .int .i64 x1.2.1, .int .i64 x1.2.2.1, .int .i64 x1.2.2.2.1, .int .i64 x1.2.2.2.2, .bool x2.1, .int .i64 x2.2.1, .int .i64 x2.2.2.1, .int .i64 x2.2.2.2.1, .int .i64 x2.2.2.2.2] ∧ Blk x N3 44 #[.int .i64 d.k, .int .i64 d.n, .int .u64 d.t, .int .i64 d.ep, mv, .int .u64 d.fl, lv, .int .i64 d.ec, .int .i64 d.er, ev, .int .u64 d.ets, .int .i64 d.pid, .int .u64 d.pat, .int .i64 d.plf, .int .i64 d.sc, .int .i64 d.sr, .int .i64 d.se, .int .i64 d.sp]) (by kernel_rfl) (fun w78 hg79 => ?_) (fun w78 hg79 => ?_)
     ·
      have hz80 := hg79.size
      have hB81 := fb_new hB61 hg79
      have hk82 := hk31.kept hg42 (by simp)
      have hk83 := hk82.kept hg79 (by simp)
      have hk84 := hk50.kept hg79 (by simp)
      exact ⟨hB81, hk83, hk84⟩
     have hz85 := hg79.size
     have hB86 := fb_new hB61 hg79
     have hk87 := hk31.kept hg42 (by simp)
     have hk88 := hk87.kept hg79 (by simp)
     have hk89 := hk50.kept hg79 (by simp)
     refine dk0 0 (v := pt b 0) h68 rfl rfl ⟨hB86, hk88, hk89⟩ fun a90 h90 => ?_; clear h68
     refine dk0 1 (v := pt b 0) h90 rfl rfl ⟨hB86, hk88, hk89⟩ fun a91 h91 => ?_; clear h90
     refine dk0 2 (v := pt b 6) h91 rfl rfl ⟨hB86, hk88, hk89⟩ fun a92 h92 => ?_; clear h91
     refine dk 3 (v := pv) h92 rfl rfl ⟨hB86, hk88, hk89⟩ (fun x hx => (rn_load1 rfl rfl Try.isAgg47 (hx.2.1.cell rfl))) fun a93 h93 => ?_; clear h92
     refine dk0 4 (v := pt N3 1) h93 rfl rfl ⟨hB86, hk88, hk89⟩ fun a94 h94 => ?_; clear h93
     refine dk 5 (v := .int .i64 d.n) h94 rfl rfl ⟨hB86, hk88, hk89⟩ (fun x hx => (rn_load1 rfl rfl Try.isAgg3 (hx.2.2.cell rfl))) fun a95 h95 => ?_; clear h94
     have hr98 := row_kept_new hr34 hg42
     have hr99 := row_kept_new hr98 hg79
     refine d1 6 h95 rfl rfl (op_call (args := #[pv, .int .i64 d.n]) (R := fun res xw => ∃ u : Value, res = .tuple #[u, .int .i64 ((freeP pn d.n).2)] ∧ xw.ownsRow w78.heap.size 40 3 u ((freeP pn d.n).1).length (((freeP pn d.n).1).flatMap pinE) ∧ Below w78.heap.size w78 xw) rfl rfl rfl (by kernel_rfl) (by kernel_rfl) (Try.call51 _ _) (leaseFree_any pv pn d.n (freeP pn d.n).1 (freeP pn d.n).2 w78 (row_sl hr99 pinE_len) (by omega) rfl) (by rintro e x ⟨u, rfl, h⟩; exact ⟨_, rfl, u, rfl, h⟩)) ?_ ?_; clear h95
     ·
      rintro _ w97 ⟨u100, rfl, hr101, hb102⟩
      have hz106 := hb102.size
      have hle107 := freeP_le pn d.n
      have hB108 := fb_call hB86 hb102
      have hk109 := hk88.below hb102
      have hk110 := hk89.below hb102
      exact ⟨hB108, hk109, hk110⟩
     rintro _ w97 a96 ⟨u100, rfl, hr101, hb102⟩ h96
     have hz106 := hb102.size
     have hle107 := freeP_le pn d.n
     have hB108 := fb_call hB86 hb102
     have hk109 := hk88.below hb102
     have hk110 := hk89.below hb102
     refine dk0 7 (v := .tuple #[u100, .int .i64 ((freeP pn d.n).2)]) h96 rfl rfl ⟨hB108, hk109, hk110⟩ fun a111 h111 => ?_; clear h96
     refine dk0 8 (v := u100) h111 rfl rfl ⟨hB108, hk109, hk110⟩ fun a112 h112 => ?_; clear h111
     refine dk0 9 (v := .int .i64 ((freeP pn d.n).2)) h112 rfl rfl ⟨hB108, hk109, hk110⟩ fun a113 h113 => ?_; clear h112
     refine dk0 10 (v := u100) h113 rfl rfl ⟨hB108, hk109, hk110⟩ fun a114 h114 => ?_; clear h113
     refine dk0 11 (v := .int .i64 ((freeP pn d.n).2)) h114 rfl rfl ⟨hB108, hk109, hk110⟩ fun a115 h115 => ?_; clear h114
     refine dr_done (by kernel_rfl) ?_
     refine co_then ?_
     refine co_seq ?_
     refine co_reg ?_
     refine pk0 (v := .int .i64 ((freeP pn d.n).2)) h115 rfl fun a116 h116 => ?_; clear h115
     refine pk0 (v := .bool ((freeP pn d.n).2 == 0)) h116 rfl fun a117 h117 => ?_; clear h116
     refine pl_nil ?_
     refine co_then ?_
     have hk119 := hk43.kept hg79 (by simp)
     have hk120 := hk119.below hb102
     cases hc118 : ((freeP pn d.n).2 == 0)
     ·
      rw [hc118] at h117
      have hp121 : ¬ ((freeP pn d.n).2 = 0) := by first | simpa using hc118 | simpa [and_assoc] using hc118
      clear hc118
      refine co_false h117 rfl ?_
      refine wp_skip ?_
      refine co_then ?_
      refine dr_gen (fun x => But (fun q => q = b) w x ∧ Blk x N3 44 #[.int .i64 d.k, .int .i64 d.n, .int .u64 d.t, .int .i64 d.ep, mv, .int .u64 d.fl, lv, .int .i64 d.ec, .int .i64 d.er, ev, .int .u64 d.ets, .int .i64 d.pid, .int .u64 d.pat, .int .i64 d.plf, .int .i64 d.sc, .int .i64 d.sr, .int .i64 d.se, .int .i64 d.sp]) (by kernel_rfl) (fun w122 hg123 => ?_) (fun w122 hg123 => ?_)
      ·
       have hz124 := hg123.size
       have hB125 := fb_new hB108 hg123
       have hk126 := hk110.kept hg123 (by simp)
       exact ⟨hB125, hk126⟩
      have hz127 := hg123.size
      have hB128 := fb_new hB108 hg123
      have hk129 := hk110.kept hg123 (by simp)
      refine dk0 0 (v := pt b 0) h117 rfl rfl ⟨hB128, hk129⟩ fun a130 h130 => ?_; clear h117
      refine dk0 1 (v := pt b 0) h130 rfl rfl ⟨hB128, hk129⟩ fun a131 h131 => ?_; clear h130
      refine dk0 2 (v := pt b 0) h131 rfl rfl ⟨hB128, hk129⟩ fun a132 h132 => ?_; clear h131
      refine dk0 3 (v := pt b 7) h132 rfl rfl ⟨hB128, hk129⟩ fun a133 h133 => ?_; clear h132
      refine dk0 5 (v := pt N3 1) h133 rfl rfl ⟨hB128, hk129⟩ fun a134 h134 => ?_; clear h133
      refine dk 6 (v := .int .i64 d.n) h134 rfl rfl ⟨hB128, hk129⟩ (fun x hx => (rn_load1 rfl rfl Try.isAgg3 (hx.2.cell rfl))) fun a135 h135 => ?_; clear h134
      refine dr_many [4] (by kernel_rfl) (by simp) ⟨?_, trivial⟩
      ·
       have hk136 := hk109.kept hg123 (by simp)
       refine dr_opVal (i := 4) (v := .int .i64 tp) h135 rfl rfl rfl rfl (by kernel_rfl) rfl (rn_load1 rfl rfl Try.isAgg3 (hk136.cell rfl)) ⟨hB128, hk129⟩ (fun a137 h137 => ?_); clear h135
       have hmm138 := mxI_p tp d.n
       refine dk0 7 (v := .int .i64 (mxI tp d.n)) h137 rfl rfl ⟨hB128, hk129⟩ fun a139 h139 => ?_; clear h137
       refine dk0 8 (v := pt b 0) h139 rfl rfl ⟨hB128, hk129⟩ fun a140 h140 => ?_; clear h139
       refine dk0 9 (v := pt b 7) h140 rfl rfl ⟨hB128, hk129⟩ fun a141 h141 => ?_; clear h140
       refine d1D 10 h141 rfl rfl (op_store1 rfl rfl rfl rfl Try.sizeOf3 hk136 rfl) ?_ ?_; clear h141
       ·
        rintro _ w143 ⟨hk144, hz145, hg146⟩
        have hk144' : Blk w143 b 65 #[.bool true, .int .i64 ep, cv, .int .u64 fl, lgv, .int .u64 hz, pv, .int .i64 (mxI tp d.n), .bool x0.1, .int .i64 x0.2.1, .int .i64 x0.2.2.1, .int .i64 x0.2.2.2.1, .int .i64 x0.2.2.2.2, .bool x1.1, .int .i64 x1.2.1, .int .i64 x1.2.2.1, .int .i64 x1.2.2.2.1, .int .i64 x1.2.2.2.2, .bool x2.1, .int .i64 x2.2.1, .int .i64 x2.2.2.1, .int .i64 x2.2.2.2.1, .int .i64 x2.2.2.2.2] := hk144; clear hk144
        have hz147 := hg146.size
        have hB148 := fb_at hB128 hg146 (fun hlt => by first | (exfalso; omega) | (simp; done) | simp_all)
        have hk149 := hk129.kept hg146 (by simp; omega)
        exact ⟨hB148, hk149⟩
       rintro _ w143 a142 ⟨hk144, hz145, hg146⟩ h142
       have hk144' : Blk w143 b 65 #[.bool true, .int .i64 ep, cv, .int .u64 fl, lgv, .int .u64 hz, pv, .int .i64 (mxI tp d.n), .bool x0.1, .int .i64 x0.2.1, .int .i64 x0.2.2.1, .int .i64 x0.2.2.2.1, .int .i64 x0.2.2.2.2, .bool x1.1, .int .i64 x1.2.1, .int .i64 x1.2.2.1, .int .i64 x1.2.2.2.1, .int .i64 x1.2.2.2.2, .bool x2.1, .int .i64 x2.2.1, .int .i64 x2.2.2.1, .int .i64 x2.2.2.2.1, .int .i64 x2.2.2.2.2] := hk144; clear hk144
       have hz147 := hg146.size
       refine dr_done (by kernel_rfl) ?_
       refine co_then ?_
       refine wp_exit ?_
       refine co_blockY (by decide) ?_
       refine co_thenX ?_
       refine co_blockY (by decide) ?_
       refine co_thenX ?_
       refine co_blockX ?_
       refine co_then ?_
       refine co_seq ?_
       refine co_reg ?_
       refine pk0 (v := .int .i64 0) h142 rfl fun a148 h148 => ?_; clear h142
       refine pl_nil ?_
       refine co_then ?_
       refine wp_ret ?_
       refine co_ret1 h148 rfl rfl ?_
       have hr149 := row_kept_new hr99 (below_grown hb102)
       have hr150 := row_kept_new hr149 hg123
       have hr151 := row_kept_at hr150 hg146 (own_neT hr150 hk136 (by decide))
       have hB152 := fb_at hB128 hg146 (fun hlt => by first | (exfalso; omega) | (simp; done) | simp_all)
       have hA : apF pn hz tp d = (0, hz, pn, mxI tp d.n) := by unfold apF; (repeat (first | rw [if_pos (by omega)] | rw [if_neg (by omega)]))
       exact ⟨pv, by rw [hA], by rw [hA]; exact hk144', by rw [hA]; exact row_lows hr151 (Nat.zero_le _), by rw [hA]; show pn.length ≤ 3; omega, hB152⟩
     ·
      rw [hc118] at h117
      have hp153 : (freeP pn d.n).2 = 0 := by first | simpa using hc118 | simpa [and_assoc] using hc118
      clear hc118
      refine co_true h117 rfl ?_
      refine co_reg ?_
      refine pk0 (v := pt b 0) h117 rfl fun a154 h154 => ?_; clear h117
      refine pk0 (v := u100) h154 rfl fun a155 h155 => ?_; clear h154
      refine pk0 (v := pt b 0) h155 rfl fun a156 h156 => ?_; clear h155
      refine pk0 (v := pt b 6) h156 rfl fun a157 h157 => ?_; clear h156
      refine pwD h157 rfl (op_store1 rfl rfl rfl (row_one hr101) Try.sizeOf47 hk109 rfl) ?_; clear h157
      rintro _ w159 a158 ⟨hk160, hz161, hg162⟩ h158
      have hk160' : Blk w159 b 65 #[.bool true, .int .i64 ep, cv, .int .u64 fl, lgv, .int .u64 hz, u100, .int .i64 tp, .bool x0.1, .int .i64 x0.2.1, .int .i64 x0.2.2.1, .int .i64 x0.2.2.2.1, .int .i64 x0.2.2.2.2, .bool x1.1, .int .i64 x1.2.1, .int .i64 x1.2.2.1, .int .i64 x1.2.2.2.1, .int .i64 x1.2.2.2.2, .bool x2.1, .int .i64 x2.2.1, .int .i64 x2.2.2.1, .int .i64 x2.2.2.2.1, .int .i64 x2.2.2.2.2] := hk160; clear hk160
      have hz163 := hg162.size
      refine pl_nil ?_
      refine co_then ?_
      refine dr_gen (fun x => But (fun q => q = b) w x ∧ Blk x N3 44 #[.int .i64 d.k, .int .i64 d.n, .int .u64 d.t, .int .i64 d.ep, mv, .int .u64 d.fl, lv, .int .i64 d.ec, .int .i64 d.er, ev, .int .u64 d.ets, .int .i64 d.pid, .int .u64 d.pat, .int .i64 d.plf, .int .i64 d.sc, .int .i64 d.sr, .int .i64 d.se, .int .i64 d.sp]) (by kernel_rfl) (fun w164 hg165 => ?_) (fun w164 hg165 => ?_)
      ·
       have hz166 := hg165.size
       have hB167 := fb_at hB108 hg162 (fun hlt => by first | (exfalso; omega) | (simp; done) | simp_all)
       have hB168 := fb_new hB167 hg165
       have hk169 := hk110.kept hg162 (by simp; omega)
       have hk170 := hk169.kept hg165 (by simp)
       exact ⟨hB168, hk170⟩
      have hz171 := hg165.size
      have hB172 := fb_at hB108 hg162 (fun hlt => by first | (exfalso; omega) | (simp; done) | simp_all)
      have hB173 := fb_new hB172 hg165
      have hk174 := hk110.kept hg162 (by simp; omega)
      have hk175 := hk174.kept hg165 (by simp)
      refine dk0 0 (v := pt b 0) h158 rfl rfl ⟨hB173, hk175⟩ fun a176 h176 => ?_; clear h158
      refine dk0 1 (v := pt b 0) h176 rfl rfl ⟨hB173, hk175⟩ fun a177 h177 => ?_; clear h176
      refine dk0 2 (v := pt b 0) h177 rfl rfl ⟨hB173, hk175⟩ fun a178 h178 => ?_; clear h177
      refine dk0 3 (v := pt b 7) h178 rfl rfl ⟨hB173, hk175⟩ fun a179 h179 => ?_; clear h178
      refine dk0 5 (v := pt N3 1) h179 rfl rfl ⟨hB173, hk175⟩ fun a180 h180 => ?_; clear h179
      refine dk 6 (v := .int .i64 d.n) h180 rfl rfl ⟨hB173, hk175⟩ (fun x hx => (rn_load1 rfl rfl Try.isAgg3 (hx.2.cell rfl))) fun a181 h181 => ?_; clear h180
      refine dr_many [4] (by kernel_rfl) (by simp) ⟨?_, trivial⟩
      ·
       have hk182 := hk160'.kept hg165 (by simp)
       refine dr_opVal (i := 4) (v := .int .i64 tp) h181 rfl rfl rfl rfl (by kernel_rfl) rfl (rn_load1 rfl rfl Try.isAgg3 (hk182.cell rfl)) ⟨hB173, hk175⟩ (fun a183 h183 => ?_); clear h181
       have hmm184 := mxI_p tp d.n
       refine dk0 7 (v := .int .i64 (mxI tp d.n)) h183 rfl rfl ⟨hB173, hk175⟩ fun a185 h185 => ?_; clear h183
       refine dk0 8 (v := pt b 0) h185 rfl rfl ⟨hB173, hk175⟩ fun a186 h186 => ?_; clear h185
       refine dk0 9 (v := pt b 7) h186 rfl rfl ⟨hB173, hk175⟩ fun a187 h187 => ?_; clear h186
       refine d1D 10 h187 rfl rfl (op_store1 rfl rfl rfl rfl Try.sizeOf3 hk182 rfl) ?_ ?_; clear h187
       ·
        rintro _ w189 ⟨hk190, hz191, hg192⟩
        have hk190' : Blk w189 b 65 #[.bool true, .int .i64 ep, cv, .int .u64 fl, lgv, .int .u64 hz, u100, .int .i64 (mxI tp d.n), .bool x0.1, .int .i64 x0.2.1, .int .i64 x0.2.2.1, .int .i64 x0.2.2.2.1, .int .i64 x0.2.2.2.2, .bool x1.1, .int .i64 x1.2.1, .int .i64 x1.2.2.1, .int .i64 x1.2.2.2.1, .int .i64 x1.2.2.2.2, .bool x2.1, .int .i64 x2.2.1, .int .i64 x2.2.2.1, .int .i64 x2.2.2.2.1, .int .i64 x2.2.2.2.2] := hk190; clear hk190
        have hz193 := hg192.size
        have hB194 := fb_at hB173 hg192 (fun hlt => by first | (exfalso; omega) | (simp; done) | simp_all)
        have hk195 := hk175.kept hg192 (by simp; omega)
        exact ⟨hB194, hk195⟩
       rintro _ w189 a188 ⟨hk190, hz191, hg192⟩ h188
       have hk190' : Blk w189 b 65 #[.bool true, .int .i64 ep, cv, .int .u64 fl, lgv, .int .u64 hz, u100, .int .i64 (mxI tp d.n), .bool x0.1, .int .i64 x0.2.1, .int .i64 x0.2.2.1, .int .i64 x0.2.2.2.1, .int .i64 x0.2.2.2.2, .bool x1.1, .int .i64 x1.2.1, .int .i64 x1.2.2.1, .int .i64 x1.2.2.2.1, .int .i64 x1.2.2.2.2, .bool x2.1, .int .i64 x2.2.1, .int .i64 x2.2.2.1, .int .i64 x2.2.2.2.1, .int .i64 x2.2.2.2.2] := hk190; clear hk190
       have hz193 := hg192.size
       refine dr_done (by kernel_rfl) ?_
       refine co_then ?_
       refine wp_exit ?_
       refine co_blockY (by decide) ?_
       refine co_thenX ?_
       refine co_blockY (by decide) ?_
       refine co_thenX ?_
       refine co_blockX ?_
       refine co_then ?_
       refine co_seq ?_
       refine co_reg ?_
       refine pk0 (v := .int .i64 0) h188 rfl fun a194 h194 => ?_; clear h188
       refine pl_nil ?_
       refine co_then ?_
       refine wp_ret ?_
       refine co_ret1 h194 rfl rfl ?_
       have hr195 := row_kept_at hr101 hg162 (own_neT hr101 hk109 (by decide))
       have hr196 := row_kept_new hr195 hg165
       have hr197 := row_kept_at hr196 hg192 (own_neT hr196 hk182 (by decide))
       have hB198 := fb_at hB173 hg192 (fun hlt => by first | (exfalso; omega) | (simp; done) | simp_all)
       have hA : apF pn hz tp d = (0, hz, (freeP pn d.n).1, mxI tp d.n) := by unfold apF; (repeat (first | rw [if_pos (by omega)] | rw [if_neg (by omega)]))
       exact ⟨u100, by rw [hA], by rw [hA]; exact hk190', by rw [hA]; exact row_lows hr197 (Nat.zero_le _), by rw [hA]; show ((freeP pn d.n).1).length ≤ 3; omega, hB198⟩
   ·
    rw [hc65] at h64
    have hp199 : d.k = 6 := by first | simpa using hc65 | simpa [and_assoc] using hc65
    clear hc65
    refine co_true h64 rfl ?_
    refine wp_exit ?_
    refine co_thenX ?_
    refine co_thenX ?_
    refine co_blockY (by decide) ?_
    refine co_thenX ?_
    refine co_blockY (by decide) ?_
    refine co_thenX ?_
    refine co_blockY (by decide) ?_
    refine co_thenX ?_
    refine co_blockX ?_
    refine co_then ?_
    refine co_seq ?_
    refine co_seq ?_
    refine co_reg ?_
    refine pk0 (v := pt b 0) h64 rfl fun a200 h200 => ?_; clear h64
    refine pk0 (v := pt N3 11) h200 rfl fun a201 h201 => ?_; clear h200
    refine pk (v := .agg #[.int .i64 d.pid, .int .u64 d.pat, .int .i64 d.plf]) h201 rfl (rn_loadN rfl rfl Try.underlying40 rfl (by kernel_rfl) (blk_part hk50 11 (by rfl))) fun a202 h202 => ?_; clear h201
    have hr206 := row_kept_new hr34 hg42
    have hk207 := hk31.kept hg42 (by simp)
    refine pw h202 rfl (op_call (args := #[pt b 0, .agg #[.int .i64 d.pid, .int .u64 d.pat, .int .i64 d.plf]]) (R := fun res xw => ∃ pv2 : Value, res = .int .i64 ((pnF pn hz tp d.pid d.pat).1) ∧ Blk xw b 65 #[.bool true, .int .i64 ep, cv, .int .u64 fl, lgv, .int .u64 hz, pv2, .int .i64 ((pnF pn hz tp d.pid d.pat).2.2), .bool x0.1, .int .i64 x0.2.1, .int .i64 x0.2.2.1, .int .i64 x0.2.2.2.1, .int .i64 x0.2.2.2.2, .bool x1.1, .int .i64 x1.2.1, .int .i64 x1.2.2.1, .int .i64 x1.2.2.2.1, .int .i64 x1.2.2.2.2, .bool x2.1, .int .i64 x2.2.1, .int .i64 x2.2.2.1, .int .i64 x2.2.2.2.1, .int .i64 x2.2.2.2.2] ∧ xw.ownsRow 0 40 3 pv2 ((pnF pn hz tp d.pid d.pat).2.1).length (((pnF pn hz tp d.pid d.pat).2.1).flatMap pinE) ∧ ((pnF pn hz tp d.pid d.pat).2.1).length ≤ 3 ∧ But (fun q => q = b) w40 xw) rfl rfl rfl (by kernel_rfl) (by kernel_rfl) (Try.call50 _ _) (msPin_any b ep cv fl lgv hz pv pn tp x0 x1 x2 d.pid d.pat d.plf w40 hk207 (row_lows hr206 (Nat.zero_le _)) (by omega)) (by rintro e x ⟨pv2, rfl, hq209, hq210, hq211, hb212⟩; exact ⟨_, rfl, ⟨pv2, rfl, hq209, hq210, hq211, hb212⟩⟩)) ?_; clear h202
    rintro _ w204 a203 ⟨pv2208, rfl, hq209, hq210, hq211, hb212⟩ h203
    have hz213 := hb212.size
    have hl214 := hq209.lt
    refine pk0 (v := .int .i64 ((pnF pn hz tp d.pid d.pat).1)) h203 rfl fun a215 h215 => ?_; clear h203
    refine pl_nil ?_
    refine co_then ?_
    refine wp_ret ?_
    refine co_thenR ?_
    refine co_blockR ?_
    refine co_thenR ?_
    refine co_blockR ?_
    refine co_thenR ?_
    refine co_blockR ?_
    refine co_thenR ?_
    refine co_blockR ?_
    refine co_thenR ?_
    refine co_ret1 h215 rfl rfl ?_
    have hB216 := fb_foot hB61 hb212 (fun i hlt hS => by (try simp at hS); first | omega | (simp; omega) | simp_all)
    have hA : apF pn hz tp d = ((pnF pn hz tp d.pid d.pat).1, hz, (pnF pn hz tp d.pid d.pat).2.1, (pnF pn hz tp d.pid d.pat).2.2) := by unfold apF; (repeat (first | rw [if_pos (by omega)] | rw [if_neg (by omega)]))
    exact ⟨pv2208, by rw [hA], by rw [hA]; exact hq209, by rw [hA]; exact row_lows hq210 (Nat.zero_le _), by rw [hA]; show ((pnF pn hz tp d.pid d.pat).2.1).length ≤ 3; omega, hB216⟩
  ·
   rw [hc60] at h59
   have hp217 : d.k = 4 := by first | simpa using hc60 | simpa [and_assoc] using hc60
   clear hc60
   refine co_true h59 rfl ?_
   refine wp_exit ?_
   refine co_thenX ?_
   refine co_thenX ?_
   refine co_blockY (by decide) ?_
   refine co_thenX ?_
   refine co_blockY (by decide) ?_
   refine co_thenX ?_
   refine co_blockX ?_
   refine co_then ?_
   refine co_seq ?_
   refine co_seq ?_
   refine co_seq ?_
   refine dr_eq (by kernel_rfl) (fun w218 hg219 => ?_)
   have hz220 := hg219.size
   refine dk0 0 (v := pt N3 2) h59 rfl rfl rfl fun a221 h221 => ?_; clear h59
   have hk222 := hk50.kept hg219 (by simp)
   refine dk 1 (v := .int .u64 d.t) h221 rfl rfl rfl (fun x hx => by subst hx; exact (rn_load1 rfl rfl Try.isAgg29 (hk222.cell rfl))) fun a223 h223 => ?_; clear h221
   refine dk0 2 (v := pt b 0) h223 rfl rfl rfl fun a224 h224 => ?_; clear h223
   refine dk0 3 (v := pt b 0) h224 rfl rfl rfl fun a225 h225 => ?_; clear h224
   refine dk0 4 (v := pt b 5) h225 rfl rfl rfl fun a226 h226 => ?_; clear h225
   have hk227 := hk31.kept hg42 (by simp)
   have hk228 := hk227.kept hg219 (by simp)
   refine dk 5 (v := .int .u64 hz) h226 rfl rfl rfl (fun x hx => by subst hx; exact (rn_load1 rfl rfl Try.isAgg29 (hk228.cell rfl))) fun a229 h229 => ?_; clear h226
   refine dk0 6 (v := .bool (decide (d.t < hz))) h229 rfl rfl rfl fun a230 h230 => ?_; clear h229
   refine dr_done (by kernel_rfl) ?_
   refine co_then ?_
   have hB232 := fb_new hB61 hg219
   have hr233 := row_kept_new hr34 hg42
   have hr234 := row_kept_new hr233 hg219
   cases hc231 : (decide (d.t < hz))
   ·
    rw [hc231] at h230
    have hp235 : ¬ (d.t < hz) := of_decide_eq_false hc231
    clear hc231
    refine co_false h230 rfl ?_
    refine wp_skip ?_
    refine co_then ?_
    refine co_reg ?_
    refine pk0 (v := pt b 0) h230 rfl fun a236 h236 => ?_; clear h230
    refine pk0 (v := pt N3 2) h236 rfl fun a237 h237 => ?_; clear h236
    refine pk (v := .int .u64 d.t) h237 rfl (rn_load1 rfl rfl Try.isAgg29 (hk222.cell rfl)) fun a238 h238 => ?_; clear h237
    refine pk0 (v := pt b 0) h238 rfl fun a239 h239 => ?_; clear h238
    refine pk0 (v := pt b 5) h239 rfl fun a240 h240 => ?_; clear h239
    refine pwD h240 rfl (op_store1 rfl rfl rfl rfl Try.sizeOf29 hk228 rfl) ?_; clear h240
    rintro _ w242 a241 ⟨hk243, hz244, hg245⟩ h241
    have hk243' : Blk w242 b 65 #[.bool true, .int .i64 ep, cv, .int .u64 fl, lgv, .int .u64 d.t, pv, .int .i64 tp, .bool x0.1, .int .i64 x0.2.1, .int .i64 x0.2.2.1, .int .i64 x0.2.2.2.1, .int .i64 x0.2.2.2.2, .bool x1.1, .int .i64 x1.2.1, .int .i64 x1.2.2.1, .int .i64 x1.2.2.2.1, .int .i64 x1.2.2.2.2, .bool x2.1, .int .i64 x2.2.1, .int .i64 x2.2.2.1, .int .i64 x2.2.2.2.1, .int .i64 x2.2.2.2.2] := hk243; clear hk243
    have hz246 := hg245.size
    refine pl_nil ?_
    refine co_then ?_
    refine wp_exit ?_
    refine co_blockY (by decide) ?_
    refine co_thenX ?_
    refine co_blockY (by decide) ?_
    refine co_thenX ?_
    refine co_blockY (by decide) ?_
    refine co_thenX ?_
    refine co_blockY (by decide) ?_
    refine co_thenX ?_
    refine co_blockX ?_
    refine co_then ?_
    refine co_seq ?_
    refine co_reg ?_
    refine pk0 (v := .int .i64 0) h241 rfl fun a247 h247 => ?_; clear h241
    refine pl_nil ?_
    refine co_then ?_
    refine wp_ret ?_
    refine co_ret1 h247 rfl rfl ?_
    have hr248 := row_kept_at hr234 hg245 (own_neT hr234 hk228 (by decide))
    have hB249 := fb_at hB232 hg245 (fun hlt => by first | (exfalso; omega) | (simp; done) | simp_all)
    have hA : apF pn hz tp d = (0, d.t, pn, tp) := by unfold apF; (repeat (first | rw [if_pos (by omega)] | rw [if_neg (by omega)]))
    exact ⟨pv, by rw [hA], by rw [hA]; exact hk243', by rw [hA]; exact row_lows hr248 (Nat.zero_le _), by rw [hA]; show pn.length ≤ 3; omega, hB249⟩
   ·
    rw [hc231] at h230
    have hp250 : d.t < hz := of_decide_eq_true hc231
    clear hc231
    refine co_true h230 rfl ?_
    refine co_seq ?_
    refine co_reg ?_
    refine pk0 (v := .int .i64 18) h230 rfl fun a251 h251 => ?_; clear h230
    refine pl_nil ?_
    refine co_then ?_
    refine wp_ret ?_
    refine co_thenR ?_
    refine co_thenR ?_
    refine co_blockR ?_
    refine co_thenR ?_
    refine co_blockR ?_
    refine co_thenR ?_
    refine co_blockR ?_
    refine co_thenR ?_
    refine co_blockR ?_
    refine co_thenR ?_
    refine co_blockR ?_
    refine co_thenR ?_
    refine co_ret1 h251 rfl rfl ?_
    have hA : apF pn hz tp d = (18, hz, pn, tp) := by unfold apF; (repeat (first | rw [if_pos (by omega)] | rw [if_neg (by omega)]))
    exact ⟨pv, by rw [hA], by rw [hA]; exact hk228, by rw [hA]; exact row_lows hr234 (Nat.zero_le _), by rw [hA]; show pn.length ≤ 3; omega, hB232⟩
 ·
  rw [hc28] at h27
  have hp252 : chkN d ≠ 0 := by first | simpa using hc28 | simpa [and_assoc] using hc28
  clear hc28
  refine co_true h27 rfl ?_
  refine co_seq ?_
  refine co_reg ?_
  refine pk0 (v := .int .i64 (chkN d)) h27 rfl fun a253 h253 => ?_; clear h27
  refine pk0 (v := .int .i64 (chkN d)) h253 rfl fun a254 h254 => ?_; clear h253
  refine pl_nil ?_
  refine co_then ?_
  refine wp_ret ?_
  refine co_thenR ?_
  refine co_ret1 h254 rfl rfl ?_
  have hA : apF pn hz tp d = (chkN d, hz, pn, tp) := by unfold apF; (repeat (first | rw [if_pos (by omega)] | rw [if_neg (by omega)]))
  exact ⟨pv, by rw [hA], by rw [hA]; exact hk31, by rw [hA]; exact row_lows hr34 (Nat.zero_le _), by rw [hA]; show pn.length ≤ 3; omega, hB29⟩
set_option maxRecDepth 100000 in
theorem msPins_any (b : Nat) (ep : Int) (cv : Value) (fl : Int) (lgv : Value) (hz : Int) (pv : Value) (pn : List PinT) (tp : Int) (x0 : SdT) (x1 : SdT) (x2 : SdT) (w : World) (hb : Blk w b 65 #[.bool true, .int .i64 ep, cv, .int .u64 fl, lgv, .int .u64 hz, pv, .int .i64 tp, .bool x0.1, .int .i64 x0.2.1, .int .i64 x0.2.2.1, .int .i64 x0.2.2.2.1, .int .i64 x0.2.2.2.2, .bool x1.1, .int .i64 x1.2.1, .int .i64 x1.2.2.1, .int .i64 x1.2.2.2.1, .int .i64 x1.2.2.2.2, .bool x2.1, .int .i64 x2.2.1, .int .i64 x2.2.2.1, .int .i64 x2.2.2.2.1, .int .i64 x2.2.2.2.2]) (hpn : w.ownsRow 0 40 3 pv pn.length (pn.flatMap pinE)) (hp3 : pn.length ≤ 3) :
    Calls Try.prog 18 #[pt b 0] w fun e w' => ∃ (u : Value), e = .returned (u) ∧ w'.ownsRow w.heap.size 40 3 u pn.length (pn.flatMap pinE) ∧ Below w.heap.size w w' := by
 have hB0 := Below.refl w.heap.size w
 have hl_hb := hb.lt
 refine co_enter (n := 10) Try.func18 rfl rfl rfl [(0, pt b 0)] rfl (fun a h0 => ?_)
 refine co_seq ?_
 refine co_reg ?_
 refine pk0 (v := .slice none 0 0) h0 rfl fun a1 h1 => ?_; clear h0
 refine pl_nil ?_
 refine co_then ?_
 refine co_seq ?_
 refine co_seq ?_
 refine co_reg ?_
 refine pk0 (v := pt b 0) h1 rfl fun a2 h2 => ?_; clear h1
 refine pw h2 rfl (op_call (args := #[pt b 0]) (R := fun res xw => res = .bool false ∧ Below w.heap.size w xw) rfl rfl rfl (by kernel_rfl) (by kernel_rfl) (Try.call46 _ _) (mszeroT b ep cv fl lgv hz pv tp x0 x1 x2 w hb) (by rintro e x ⟨rfl, hb5⟩; exact ⟨_, rfl, ⟨rfl, hb5⟩⟩)) ?_; clear h2
 rintro _ w4 a3 ⟨rfl, hb5⟩ h3
 have hz6 := hb5.size
 refine pl_nil ?_
 refine co_then ?_
 refine co_false h3 rfl ?_
 refine wp_skip ?_
 refine co_then ?_
 refine co_seq ?_
 refine co_reg ?_
 refine pk0 (v := pt b 0) h3 rfl fun a7 h7 => ?_; clear h3
 refine pk0 (v := pt b 0) h7 rfl fun a8 h8 => ?_; clear h7
 refine pk0 (v := pt b 6) h8 rfl fun a9 h9 => ?_; clear h8
 have hk10 := hb.below hb5
 refine pk (v := pv) h9 rfl (rn_load1 rfl rfl Try.isAgg47 (hk10.cell rfl)) fun a11 h11 => ?_; clear h9
 have hr14 := row_kept_new hpn (below_grown hb5)
 refine pw h11 rfl (op_call (args := #[pv]) (R := fun res xw => ∃ u : Value, res = u ∧ xw.ownsRow w4.heap.size 40 3 u pn.length (pn.flatMap pinE) ∧ Below w4.heap.size w4 xw) rfl rfl rfl (by kernel_rfl) (by kernel_rfl) (Try.call64 _ _) (clonePin_any pv pn w4 (row_sl hr14 pinE_len) (by first | omega | (simp; done) | (simp; omega))) (by rintro e x ⟨u, rfl, hq16, hb17⟩; exact ⟨_, rfl, ⟨u, rfl, hq16, hb17⟩⟩)) ?_; clear h11
 rintro u15 w13 a12 ⟨_, rfl, hq16, hb17⟩ h12
 have hz18 := hb17.size
 have hl19 := sl_len (row_sl hq16 pinE_len)
 refine pk0 (v := u15) h12 rfl fun a20 h20 => ?_; clear h12
 refine pl_nil ?_
 refine co_then ?_
 refine wp_ret ?_
 refine co_ret1 h20 rfl rfl ?_
 have hB21 := hb_call hB0 hb5
 have hB22 := hb_call hB21 hb17
 exact ⟨_, rfl, (row_lows hq16 (by omega)), hB22⟩
set_option maxRecDepth 100000 in
theorem msTop_any (b : Nat) (ep : Int) (cv : Value) (fl : Int) (lgv : Value) (hz : Int) (pv : Value) (tp : Int) (x0 : SdT) (x1 : SdT) (x2 : SdT) (w : World) (hb : Blk w b 65 #[.bool true, .int .i64 ep, cv, .int .u64 fl, lgv, .int .u64 hz, pv, .int .i64 tp, .bool x0.1, .int .i64 x0.2.1, .int .i64 x0.2.2.1, .int .i64 x0.2.2.2.1, .int .i64 x0.2.2.2.2, .bool x1.1, .int .i64 x1.2.1, .int .i64 x1.2.2.1, .int .i64 x1.2.2.2.1, .int .i64 x1.2.2.2.2, .bool x2.1, .int .i64 x2.2.1, .int .i64 x2.2.2.1, .int .i64 x2.2.2.2.1, .int .i64 x2.2.2.2.2]) :
    Calls Try.prog 22 #[pt b 0] w fun e w' => e = .returned (.int .i64 tp) ∧ Below w.heap.size w w' := by
 have hB0 := Below.refl w.heap.size w
 have hl_hb := hb.lt
 refine co_enter (n := 9) Try.func22 rfl rfl rfl [(0, pt b 0)] rfl (fun a h0 => ?_)
 refine co_seq ?_
 refine co_reg ?_
 refine pk0 (v := .int .i64 0) h0 rfl fun a1 h1 => ?_; clear h0
 refine pl_nil ?_
 refine co_then ?_
 refine co_seq ?_
 refine co_seq ?_
 refine co_reg ?_
 refine pk0 (v := pt b 0) h1 rfl fun a2 h2 => ?_; clear h1
 refine pw h2 rfl (op_call (args := #[pt b 0]) (R := fun res xw => res = .bool false ∧ Below w.heap.size w xw) rfl rfl rfl (by kernel_rfl) (by kernel_rfl) (Try.call46 _ _) (mszeroT b ep cv fl lgv hz pv tp x0 x1 x2 w hb) (by rintro e x ⟨rfl, hb5⟩; exact ⟨_, rfl, ⟨rfl, hb5⟩⟩)) ?_; clear h2
 rintro _ w4 a3 ⟨rfl, hb5⟩ h3
 have hz6 := hb5.size
 refine pl_nil ?_
 refine co_then ?_
 refine co_false h3 rfl ?_
 refine wp_skip ?_
 refine co_then ?_
 refine co_seq ?_
 refine co_reg ?_
 refine pk0 (v := pt b 0) h3 rfl fun a7 h7 => ?_; clear h3
 refine pk0 (v := pt b 0) h7 rfl fun a8 h8 => ?_; clear h7
 refine pk0 (v := pt b 7) h8 rfl fun a9 h9 => ?_; clear h8
 have hk10 := hb.below hb5
 refine pk (v := .int .i64 tp) h9 rfl (rn_load1 rfl rfl Try.isAgg3 (hk10.cell rfl)) fun a11 h11 => ?_; clear h9
 refine pk0 (v := .int .i64 tp) h11 rfl fun a12 h12 => ?_; clear h11
 refine pl_nil ?_
 refine co_then ?_
 refine wp_ret ?_
 refine co_ret1 h12 rfl rfl ?_
 have hB13 := hb_call hB0 hb5
 exact ⟨rfl, hB13⟩
end Go.Proofs.Ytlbemlodcdgakaa

/- catenalaw28: awake, Parts of one note. Conditions: none. -/
namespace Go.Proofs.Ytlbemlodcdgakaa
open Go.RowKit Go.PlainAid
set_option linter.unusedVariables false
set_option linter.unusedSimpArgs false

theorem eq_said (a b c d e f g h : Int) (w : World) : (binOp .eql 42 (.agg #[.int .i64 a, .int .i64 b, .int .i64 c, .int .i64 d]) (.agg #[.int .i64 e, .int .i64 f, .int .i64 g, .int .i64 h])).run Try.prog w = .ok (.bool (a == e && b == f && c == g && d == h)) w := by
  have u := Try.underlying3
  have u' := Try.underlying27
  have hS : Try.prog.underlying 42 = some (.struct (Try.prog.fieldsOf 42)) := by kernel_rfl
  have hp : Try.prog.stoodInHeld 42 = false := by kernel_rfl
  have hf : (Try.prog.fieldsOf 42).toList.map (fun f => (f.offset, f.type)) = [(0, 3), (1, 3), (2, 27), (3, 3)] := by kernel_rfl
  rw [run_eql_struct, show (10000 : Nat) = 9999 + 1 from rfl, run_equalIn_agg w 9999 42 _ _ hS hp]
  simp only [Program.fieldsOf, Try.underlying42]
  go_simp
  by_cases h1 : a = e <;> by_cases h2 : b = f <;> by_cases h3 : c = g <;> by_cases h4 : d = h <;> simp [h1, h2, h3, h4]

def dP : NoteD := ⟨6, 0, 0, 0, [], 0, [], 0, 0, [], 0, 1, 5, 0, 0, 0, 0, 0⟩
def dU : NoteD := ⟨7, 1, 0, 0, [], 0, [], 0, 0, [], 0, 0, 0, 0, 0, 0, 0, 0⟩
def dE : NoteD := ⟨2, 0, 0, 0, [], 0, [], 0, 1, [], 0, 0, 0, 0, 0, 0, 0, 0⟩
theorem dX_R (d : NoteD) (h : d = dP ∨ d = dU ∨ d = dE) : NoteR d := by
  rcases h with rfl | rfl | rfl <;> exact ⟨(fun m hm => by cases hm), by decide⟩
theorem aw1 : apF [] 0 0 dP = (0, 0, [(1, 5, 8)], 1) := by decide +kernel
theorem aw2 : apF [(1, 5, 8)] 0 1 dU = (0, 0, [], 1) := by decide +kernel
theorem aw3 : apF [] 0 1 dE = (11, 0, [], 1) := by decide +kernel

set_option maxRecDepth 100000 in
set_option maxHeartbeats 1600000 in
theorem awake28  (w : World)  :
    Calls Try.prog 10 #[] w fun e w' => e = .returned (.bool true) ∧ Below w.heap.size w w' := by
 obtain ⟨P0, hP0⟩ : ∃ l : List PinT, l = [] := ⟨_, rfl⟩
 have hP0l : P0.length = 0 := by rw [hP0]; rfl
 have hB0 := Below.refl w.heap.size w
 refine co_enter (n := 37) Try.func10 rfl rfl rfl [] rfl (fun a h0 => ?_)
 refine co_seq ?_
 refine co_reg ?_
 refine pk0 (v := .bool false) h0 rfl fun a1 h1 => ?_; clear h0
 refine pl_nil ?_
 refine co_then ?_
 refine co_seq ?_
 refine co_reg ?_
 refine pw h1 rfl (op_call (args := #[]) (R := fun res xw => ∃ N : Nat, res = pt N 0 ∧ Blk xw N 65 #[.bool true, .int .i64 0, .slice none 0 0, .int .u64 0, .slice none 0 0, .int .u64 0, .slice none 0 0, .int .i64 0, .bool false, .int .i64 0, .int .i64 0, .int .i64 0, .int .i64 0, .bool false, .int .i64 0, .int .i64 0, .int .i64 0, .int .i64 0, .bool false, .int .i64 0, .int .i64 0, .int .i64 0, .int .i64 0] ∧ w.heap.size ≤ N ∧ Below w.heap.size w xw) rfl rfl rfl (by kernel_rfl) (by kernel_rfl) (Try.call11 _ _) (msNew_any  w ) (by rintro e x ⟨N, rfl, hq5, hq6, hb7⟩; exact ⟨_, rfl, ⟨N, rfl, hq5, hq6, hb7⟩⟩)) ?_; clear h1
 rintro _ w3 a2 ⟨N4, rfl, hq5, hq6, hb7⟩ h2
 have hz8 := hb7.size
 have hl9 := hq5.lt
 refine pk0 (v := pt N4 0) h2 rfl fun a10 h10 => ?_; clear h2
 refine pl_nil ?_
 refine co_then ?_
 refine co_seq ?_
 refine co_reg ?_
 refine pk0 (v := pt N4 0) h10 rfl fun a11 h11 => ?_; clear h10
 refine pk0 (v := .agg #[.int .i64 1, .int .u64 5, .int .i64 0]) h11 rfl fun a12 h12 => ?_; clear h11
 refine pk0 (v := .agg #[.int .i64 6, .int .i64 0, .int .u64 0, .int .i64 0, .slice none 0 0, .int .u64 0, .slice none 0 0, .int .i64 0, .int .i64 0, .slice none 0 0, .int .u64 0, .int .i64 1, .int .u64 5, .int .i64 0, .int .i64 0, .int .i64 0, .int .i64 0, .int .i64 0]) h12 rfl fun a13 h13 => ?_; clear h12
 have hB16 := hb_call hB0 hb7
 refine pw h13 rfl (op_call (args := #[pt N4 0, .agg #[.int .i64 6, .int .i64 0, .int .u64 0, .int .i64 0, .slice none 0 0, .int .u64 0, .slice none 0 0, .int .i64 0, .int .i64 0, .slice none 0 0, .int .u64 0, .int .i64 1, .int .u64 5, .int .i64 0, .int .i64 0, .int .i64 0, .int .i64 0, .int .i64 0]]) (R := fun res xw => ∃ pv2 : Value, res = .int .i64 ((apF ([] : List PinT) 0 0 dP).1) ∧ Blk xw N4 65 #[.bool true, .int .i64 0, (.slice none 0 0), .int .u64 0, (.slice none 0 0), .int .u64 ((apF ([] : List PinT) 0 0 dP).2.1), pv2, .int .i64 ((apF ([] : List PinT) 0 0 dP).2.2.2), .bool (false, 0, 0, 0, 0).1, .int .i64 (false, 0, 0, 0, 0).2.1, .int .i64 (false, 0, 0, 0, 0).2.2.1, .int .i64 (false, 0, 0, 0, 0).2.2.2.1, .int .i64 (false, 0, 0, 0, 0).2.2.2.2, .bool (false, 0, 0, 0, 0).1, .int .i64 (false, 0, 0, 0, 0).2.1, .int .i64 (false, 0, 0, 0, 0).2.2.1, .int .i64 (false, 0, 0, 0, 0).2.2.2.1, .int .i64 (false, 0, 0, 0, 0).2.2.2.2, .bool (false, 0, 0, 0, 0).1, .int .i64 (false, 0, 0, 0, 0).2.1, .int .i64 (false, 0, 0, 0, 0).2.2.1, .int .i64 (false, 0, 0, 0, 0).2.2.2.1, .int .i64 (false, 0, 0, 0, 0).2.2.2.2] ∧ xw.ownsRow 0 40 3 pv2 ((apF ([] : List PinT) 0 0 dP).2.2.1).length (((apF ([] : List PinT) 0 0 dP).2.2.1).flatMap pinE) ∧ ((apF ([] : List PinT) 0 0 dP).2.2.1).length ≤ 3 ∧ But (fun q => q = N4) w3 xw) rfl rfl rfl (by kernel_rfl) (by kernel_rfl) (Try.call12 _ _) (msApplyP_any N4 0 (.slice none 0 0) 0 (.slice none 0 0) 0 (.slice none 0 0) ([] : List PinT) 0 (false, 0, 0, 0, 0) (false, 0, 0, 0, 0) (false, 0, 0, 0, 0) dP (.slice none 0 0) (.slice none 0 0) (.slice none 0 0) w3 hq5 (World.ownsRow_nil _ _ _ _) (by decide) (sl_nil _) (sl_nil _) (sl_nil _) (dX_R _ (.inl rfl)) (fun h => absurd rfl h) (fun h => absurd rfl h) (fun h => absurd rfl h) (by decide)) (by rintro e x ⟨pv2, rfl, hq18, hq19, hq20, hb21⟩; exact ⟨_, rfl, ⟨pv2, rfl, hq18, hq19, hq20, hb21⟩⟩)) ?_; clear h13
 rintro _ w15 a14 ⟨pv217, rfl, hq18, hq19, hq20, hb21⟩ h14
 have hz22 := hb21.size
 rw [aw1] at hq18 hq19
 have hl23 := hq18.lt
 have ha24 : (apF ([] : List PinT) 0 0 dP).1 = 0 := by rw [aw1]
 refine pk0 (v := .int .i64 0) h14 rfl fun a25 h25 => ?_; clear h14
 refine pl_nil ?_
 refine co_then ?_
 refine co_seq ?_
 refine co_reg ?_
 refine pk0 (v := pt N4 0) h25 rfl fun a26 h26 => ?_; clear h25
 refine pk0 (v := .agg #[.int .i64 7, .int .i64 1, .int .u64 0, .int .i64 0, .slice none 0 0, .int .u64 0, .slice none 0 0, .int .i64 0, .int .i64 0, .slice none 0 0, .int .u64 0, .int .i64 0, .int .u64 0, .int .i64 0, .int .i64 0, .int .i64 0, .int .i64 0, .int .i64 0]) h26 rfl fun a27 h27 => ?_; clear h26
 have hB30 := hb_foot hB16 hb21 (fun i hlt hS => by (try simp at hS); first | omega | (simp; omega) | simp_all)
 refine pw h27 rfl (op_call (args := #[pt N4 0, .agg #[.int .i64 7, .int .i64 1, .int .u64 0, .int .i64 0, .slice none 0 0, .int .u64 0, .slice none 0 0, .int .i64 0, .int .i64 0, .slice none 0 0, .int .u64 0, .int .i64 0, .int .u64 0, .int .i64 0, .int .i64 0, .int .i64 0, .int .i64 0, .int .i64 0]]) (R := fun res xw => ∃ pv2 : Value, res = .int .i64 ((apF ([(1, 5, 8)] : List PinT) 0 1 dU).1) ∧ Blk xw N4 65 #[.bool true, .int .i64 0, (.slice none 0 0), .int .u64 0, (.slice none 0 0), .int .u64 ((apF ([(1, 5, 8)] : List PinT) 0 1 dU).2.1), pv2, .int .i64 ((apF ([(1, 5, 8)] : List PinT) 0 1 dU).2.2.2), .bool (false, 0, 0, 0, 0).1, .int .i64 (false, 0, 0, 0, 0).2.1, .int .i64 (false, 0, 0, 0, 0).2.2.1, .int .i64 (false, 0, 0, 0, 0).2.2.2.1, .int .i64 (false, 0, 0, 0, 0).2.2.2.2, .bool (false, 0, 0, 0, 0).1, .int .i64 (false, 0, 0, 0, 0).2.1, .int .i64 (false, 0, 0, 0, 0).2.2.1, .int .i64 (false, 0, 0, 0, 0).2.2.2.1, .int .i64 (false, 0, 0, 0, 0).2.2.2.2, .bool (false, 0, 0, 0, 0).1, .int .i64 (false, 0, 0, 0, 0).2.1, .int .i64 (false, 0, 0, 0, 0).2.2.1, .int .i64 (false, 0, 0, 0, 0).2.2.2.1, .int .i64 (false, 0, 0, 0, 0).2.2.2.2] ∧ xw.ownsRow 0 40 3 pv2 ((apF ([(1, 5, 8)] : List PinT) 0 1 dU).2.2.1).length (((apF ([(1, 5, 8)] : List PinT) 0 1 dU).2.2.1).flatMap pinE) ∧ ((apF ([(1, 5, 8)] : List PinT) 0 1 dU).2.2.1).length ≤ 3 ∧ But (fun q => q = N4) w15 xw) rfl rfl rfl (by kernel_rfl) (by kernel_rfl) (Try.call12 _ _) (msApplyP_any N4 0 (.slice none 0 0) 0 (.slice none 0 0) 0 pv217 ([(1, 5, 8)] : List PinT) 1 (false, 0, 0, 0, 0) (false, 0, 0, 0, 0) (false, 0, 0, 0, 0) dU (.slice none 0 0) (.slice none 0 0) (.slice none 0 0) w15 hq18 hq19 (by decide) (sl_nil _) (sl_nil _) (sl_nil _) (dX_R _ (.inr (.inl rfl))) (fun h => absurd rfl h) (fun h => absurd rfl h) (fun h => absurd rfl h) (by decide)) (by rintro e x ⟨pv2, rfl, hq32, hq33, hq34, hb35⟩; exact ⟨_, rfl, ⟨pv2, rfl, hq32, hq33, hq34, hb35⟩⟩)) ?_; clear h27
 rintro _ w29 a28 ⟨pv231, rfl, hq32, hq33, hq34, hb35⟩ h28
 have hz36 := hb35.size
 rw [aw2] at hq32 hq33
 have hl37 := hq32.lt
 have hr38 : w29.ownsRow 0 40 3 pv231 P0.length (P0.flatMap pinE) := by rw [hP0]; exact hq33
 have ha39 : (apF ([(1, 5, 8)] : List PinT) 0 1 dU).1 = 0 := by rw [aw2]
 refine pk0 (v := .int .i64 0) h28 rfl fun a40 h40 => ?_; clear h28
 refine pl_nil ?_
 refine co_then ?_
 refine co_seq ?_
 refine co_reg ?_
 refine pk0 (v := .int .i64 0) h40 rfl fun a41 h41 => ?_; clear h40
 refine pk0 (v := .bool ((0 : Int) == 0)) h41 rfl fun a42 h42 => ?_; clear h41
 refine pk0 (v := .bool ((0 : Int) == 0)) h42 rfl fun a43 h43 => ?_; clear h42
 have hc44 : ((0 : Int) == 0) = true := by first | (simp; done) | (simp; omega) | exact beq_false_of_ne (by omega) | exact beq_iff_eq.2 (by omega)
 rw [hc44] at h43; clear hc44
 refine pk0 (v := .int .i64 0) h43 rfl fun a45 h45 => ?_; clear h43
 refine pk0 (v := .bool ((0 : Int) == 0)) h45 rfl fun a46 h46 => ?_; clear h45
 refine pk0 (v := .bool ((0 : Int) == 0)) h46 rfl fun a47 h47 => ?_; clear h46
 refine pk0 (v := .bool ((0 : Int) == 0)) h47 rfl fun a48 h48 => ?_; clear h47
 have hc49 : ((0 : Int) == 0) = true := by first | (simp; done) | (simp; omega) | exact beq_false_of_ne (by omega) | exact beq_iff_eq.2 (by omega)
 rw [hc49] at h48; clear hc49
 refine pk0 (v := pt N4 0) h48 rfl fun a50 h50 => ?_; clear h48
 have hB53 := hb_foot hB30 hb35 (fun i hlt hS => by (try simp at hS); first | omega | (simp; omega) | simp_all)
 refine pw h50 rfl (op_call (args := #[pt N4 0]) (R := fun res xw => ∃ u : Value, res = u ∧ xw.ownsRow w29.heap.size 40 3 u P0.length (P0.flatMap pinE) ∧ Below w29.heap.size w29 xw) rfl rfl rfl (by kernel_rfl) (by kernel_rfl) (Try.call18 _ _) (msPins_any N4 0 (.slice none 0 0) 0 (.slice none 0 0) 0 pv231 P0 1 (false, 0, 0, 0, 0) (false, 0, 0, 0, 0) (false, 0, 0, 0, 0) w29 hq32 (row_lows hr38 (Nat.zero_le _)) (by rw [hP0]; decide)) (by rintro e x ⟨u, rfl, hq55, hb56⟩; exact ⟨_, rfl, ⟨u, rfl, hq55, hb56⟩⟩)) ?_; clear h50
 rintro u54 w52 a51 ⟨_, rfl, hq55, hb56⟩ h51
 have hz57 := hb56.size
 have hl58 := sl_len (row_sl hq55 pinE_len)
 refine pk (v := .int .i64 ((P0.length : Nat) : Int)) h51 rfl (rn_lenOwn rfl rfl Try.underlying47 hq55) fun a59 h59 => ?_; clear h51
 refine pk0 (v := .bool (((P0.length : Nat) : Int) == 0)) h59 rfl fun a60 h60 => ?_; clear h59
 refine pk0 (v := .bool (((P0.length : Nat) : Int) == 0)) h60 rfl fun a61 h61 => ?_; clear h60
 refine pk0 (v := .bool (((P0.length : Nat) : Int) == 0)) h61 rfl fun a62 h62 => ?_; clear h61
 have hc63 : (((P0.length : Nat) : Int) == 0) = true := by first | (simp; done) | (simp; omega) | exact beq_false_of_ne (by omega) | exact beq_iff_eq.2 (by omega)
 rw [hc63] at h62; clear hc63
 refine pk0 (v := pt N4 0) h62 rfl fun a64 h64 => ?_; clear h62
 have hk67 := hq32.below hb56
 refine pw h64 rfl (op_call (args := #[pt N4 0]) (R := fun res xw => res = .int .i64 1 ∧ Below w52.heap.size w52 xw) rfl rfl rfl (by kernel_rfl) (by kernel_rfl) (Try.call22 _ _) (msTop_any N4 0 (.slice none 0 0) 0 (.slice none 0 0) 0 pv231 1 (false, 0, 0, 0, 0) (false, 0, 0, 0, 0) (false, 0, 0, 0, 0) w52 hk67) (by rintro e x ⟨rfl, hb68⟩; exact ⟨_, rfl, ⟨rfl, hb68⟩⟩)) ?_; clear h64
 rintro _ w66 a65 ⟨rfl, hb68⟩ h65
 have hz69 := hb68.size
 refine pk0 (v := .bool ((1 : Int) == 1)) h65 rfl fun a70 h70 => ?_; clear h65
 refine pk0 (v := .bool ((1 : Int) == 1)) h70 rfl fun a71 h71 => ?_; clear h70
 refine pk0 (v := .bool ((1 : Int) == 1)) h71 rfl fun a72 h72 => ?_; clear h71
 have hc73 : ((1 : Int) == 1) = true := by first | (simp; done) | (simp; omega) | exact beq_false_of_ne (by omega) | exact beq_iff_eq.2 (by omega)
 rw [hc73] at h72; clear hc73
 refine pk0 (v := pt N4 0) h72 rfl fun a74 h74 => ?_; clear h72
 refine pk0 (v := .agg #[.int .i64 0, .int .i64 1, .slice none 0 0]) h74 rfl fun a75 h75 => ?_; clear h74
 refine pk0 (v := .agg #[.int .i64 0, .int .i64 1, .slice none 0 0, .int .u64 0]) h75 rfl fun a76 h76 => ?_; clear h75
 refine pk0 (v := .agg #[.int .i64 2, .int .i64 0, .int .u64 0, .int .i64 0, .slice none 0 0, .int .u64 0, .slice none 0 0, .int .i64 0, .int .i64 1, .slice none 0 0, .int .u64 0, .int .i64 0, .int .u64 0, .int .i64 0, .int .i64 0, .int .i64 0, .int .i64 0, .int .i64 0]) h76 rfl fun a77 h77 => ?_; clear h76
 have hB80 := hb_call hB53 hb56
 have hB81 := hb_call hB80 hb68
 have hr82 := row_kept_new hr38 (below_grown hb56)
 have hr83 := row_kept_new hr82 (below_grown hb68)
 have hk84 := hk67.below hb68
 refine pw h77 rfl (op_call (args := #[pt N4 0, .agg #[.int .i64 2, .int .i64 0, .int .u64 0, .int .i64 0, .slice none 0 0, .int .u64 0, .slice none 0 0, .int .i64 0, .int .i64 1, .slice none 0 0, .int .u64 0, .int .i64 0, .int .u64 0, .int .i64 0, .int .i64 0, .int .i64 0, .int .i64 0, .int .i64 0]]) (R := fun res xw => ∃ pv2 : Value, res = .int .i64 ((apF ([] : List PinT) 0 1 dE).1) ∧ Blk xw N4 65 #[.bool true, .int .i64 0, (.slice none 0 0), .int .u64 0, (.slice none 0 0), .int .u64 ((apF ([] : List PinT) 0 1 dE).2.1), pv2, .int .i64 ((apF ([] : List PinT) 0 1 dE).2.2.2), .bool (false, 0, 0, 0, 0).1, .int .i64 (false, 0, 0, 0, 0).2.1, .int .i64 (false, 0, 0, 0, 0).2.2.1, .int .i64 (false, 0, 0, 0, 0).2.2.2.1, .int .i64 (false, 0, 0, 0, 0).2.2.2.2, .bool (false, 0, 0, 0, 0).1, .int .i64 (false, 0, 0, 0, 0).2.1, .int .i64 (false, 0, 0, 0, 0).2.2.1, .int .i64 (false, 0, 0, 0, 0).2.2.2.1, .int .i64 (false, 0, 0, 0, 0).2.2.2.2, .bool (false, 0, 0, 0, 0).1, .int .i64 (false, 0, 0, 0, 0).2.1, .int .i64 (false, 0, 0, 0, 0).2.2.1, .int .i64 (false, 0, 0, 0, 0).2.2.2.1, .int .i64 (false, 0, 0, 0, 0).2.2.2.2] ∧ xw.ownsRow 0 40 3 pv2 ((apF ([] : List PinT) 0 1 dE).2.2.1).length (((apF ([] : List PinT) 0 1 dE).2.2.1).flatMap pinE) ∧ ((apF ([] : List PinT) 0 1 dE).2.2.1).length ≤ 3 ∧ But (fun q => q = N4) w66 xw) rfl rfl rfl (by kernel_rfl) (by kernel_rfl) (Try.call12 _ _) (msApplyP_any N4 0 (.slice none 0 0) 0 (.slice none 0 0) 0 pv231 ([] : List PinT) 1 (false, 0, 0, 0, 0) (false, 0, 0, 0, 0) (false, 0, 0, 0, 0) dE (.slice none 0 0) (.slice none 0 0) (.slice none 0 0) w66 hk84 (by rw [hP0] at hr83; exact hr83) (by decide) (sl_nil _) (sl_nil _) (sl_nil _) (dX_R _ (.inr (.inr rfl))) (fun h => absurd rfl h) (fun h => absurd rfl h) (fun h => absurd rfl h) (by decide)) (by rintro e x ⟨pv2, rfl, hq86, hq87, hq88, hb89⟩; exact ⟨_, rfl, ⟨pv2, rfl, hq86, hq87, hq88, hb89⟩⟩)) ?_; clear h77
 rintro _ w79 a78 ⟨pv285, rfl, hq86, hq87, hq88, hb89⟩ h78
 have hz90 := hb89.size
 rw [aw3] at hq86 hq87
 have hl91 := hq86.lt
 have hr92 : w79.ownsRow 0 40 3 pv285 P0.length (P0.flatMap pinE) := by rw [hP0]; exact hq87
 have ha93 : (apF ([] : List PinT) 0 1 dE).1 = 11 := by rw [aw3]
 refine pk0 (v := .bool ((11 : Int) == 11)) h78 rfl fun a94 h94 => ?_; clear h78
 refine pk0 (v := .bool ((11 : Int) == 11)) h94 rfl fun a95 h95 => ?_; clear h94
 refine pk0 (v := .bool ((11 : Int) == 11)) h95 rfl fun a96 h96 => ?_; clear h95
 refine pl_nil ?_
 refine co_then ?_
 refine wp_ret ?_
 refine co_ret1 h96 rfl rfl ?_
 have hB97 := hb_foot hB81 hb89 (fun i hlt hS => by (try simp at hS); first | omega | (simp; omega) | simp_all)
 exact ⟨rfl, hB97⟩
set_option maxRecDepth 100000 in
theorem parts1_any (R : Nat) (d : NoteD) (mv : Value) (lv : Value) (ev : Value) (w : World) (hk : Blk w R 44 #[.int .i64 d.k, .int .i64 d.n, .int .u64 d.t, .int .i64 d.ep, mv, .int .u64 d.fl, lv, .int .i64 d.ec, .int .i64 d.er, ev, .int .u64 d.ets, .int .i64 d.pid, .int .u64 d.pat, .int .i64 d.plf, .int .i64 d.sc, .int .i64 d.sr, .int .i64 d.se, .int .i64 d.sp]) (hm : SliceOf memE 2 w mv d.ms) (hg : SliceOf (intE .i64) 1 w lv d.lg) (he : SliceOf opE 3 w ev d.el) :
    Calls Try.prog 9 #[.slice (some ⟨R, 0, none⟩) 1 1] w fun e w' => ∃ (r : Int), e = .returned (.int .i64 r) ∧ Below w.heap.size w w' := by
 have hB0 := Below.refl w.heap.size w
 have hl_hk := hk.lt
 have hl_hm := sl_len hm
 have hl_hg := sl_len hg
 have hl_he := sl_len he
 refine co_enter (n := 39) Try.func9 rfl rfl rfl [(0, .slice (some ⟨R, 0, none⟩) 1 1)] rfl (fun a h0 => ?_)
 refine co_seq ?_
 refine co_reg ?_
 refine pk0 (v := .int .i64 0) h0 rfl fun a1 h1 => ?_; clear h0
 refine pl_nil ?_
 refine co_then ?_
 refine co_seq ?_
 refine co_reg ?_
 refine pk0 (v := .int .i64 0) h1 rfl fun a2 h2 => ?_; clear h1
 refine pl_nil ?_
 refine co_then ?_
 refine co_seq ?_
 refine co_seq ?_
 refine co_reg ?_
 refine pk0 (v := .int .i64 0) h2 rfl fun a3 h3 => ?_; clear h2
 refine pl_nil ?_
 refine co_then ?_
 refine wp_block ?_
 refine wp_loop_rounds 2 ?_
 refine co_unroll (n := 1) ?_
 refine co_seq ?_
 refine co_seq ?_
 refine co_reg ?_
 refine pk0 (v := .int .i64 0) h3 rfl fun a4 h4 => ?_; clear h3
 refine pk0 (v := .slice (some ⟨R, 0, none⟩) 1 1) h4 rfl fun a5 h5 => ?_; clear h4
 refine pk0 (v := .int .i64 1) h5 rfl fun a6 h6 => ?_; clear h5
 refine pk0 (v := .bool (decide (0 < 1))) h6 rfl fun a7 h7 => ?_; clear h6
 refine pk0 (v := .bool (decide (0 < 1))) h7 rfl fun a8 h8 => ?_; clear h7
 have hc9 : (decide (0 < 1)) = true := decide_eq_true (by omega)
 rw [hc9] at h8; clear hc9
 refine pk0 (v := .int .i64 0) h8 rfl fun a10 h10 => ?_; clear h8
 refine pk0 (v := .bool (decide (0 < 60))) h10 rfl fun a11 h11 => ?_; clear h10
 refine pk0 (v := .bool (decide (0 < 60))) h11 rfl fun a12 h12 => ?_; clear h11
 refine pl_nil ?_
 refine co_then ?_
 have hc13 : (decide (0 < 60)) = true := decide_eq_true (by omega)
 rw [hc13] at h12; clear hc13
 refine co_true h12 rfl ?_
 refine wp_skip ?_
 refine co_then ?_
 refine co_seq ?_
 refine wp_block ?_
 refine dr_eq (by kernel_rfl) (fun w14 hg15 => ?_)
 have hz16 := hg15.size
 refine dk0 0 (v := .int .i64 0) h12 rfl rfl rfl fun a17 h17 => ?_; clear h12
 refine dk0 1 (v := .slice (some ⟨R, 0, none⟩) 1 1) h17 rfl rfl rfl fun a18 h18 => ?_; clear h17
 refine dk0 2 (v := .int .i64 0) h18 rfl rfl rfl fun a19 h19 => ?_; clear h18
 refine dk0 3 (v := pt R 0) h19 rfl rfl rfl fun a20 h20 => ?_; clear h19
 refine dk0 4 (v := pt R 3) h20 rfl rfl rfl fun a21 h21 => ?_; clear h20
 refine dk0 5 (v := pt R 4) h21 rfl rfl rfl fun a22 h22 => ?_; clear h21
 have hk23 := hk.kept hg15 (by simp)
 refine dk 6 (v := mv) h22 rfl rfl rfl (fun x hx => by subst hx; exact (rn_load1 rfl rfl Try.isAgg30 (hk23.cell rfl))) fun a24 h24 => ?_; clear h22
 have hB25 := hb_new hB0 hg15
 refine dk 7 (v := .int .i64 ((d.ms.length : Nat) : Int)) h24 rfl rfl rfl (fun x hx => by subst hx; exact (rn_len rfl rfl Try.underlying30 (hm.below hB25))) fun a26 h26 => ?_; clear h24
 refine dk0 8 (v := .slice (some ⟨R, 0, none⟩) 1 1) h26 rfl rfl rfl fun a27 h27 => ?_; clear h26
 refine dk0 9 (v := .int .i64 0) h27 rfl rfl rfl fun a28 h28 => ?_; clear h27
 refine dk0 10 (v := pt R 0) h28 rfl rfl rfl fun a29 h29 => ?_; clear h28
 refine dk0 11 (v := pt R 6) h29 rfl rfl rfl fun a30 h30 => ?_; clear h29
 refine dk 12 (v := lv) h30 rfl rfl rfl (fun x hx => by subst hx; exact (rn_load1 rfl rfl Try.isAgg33 (hk23.cell rfl))) fun a31 h31 => ?_; clear h30
 refine dk 13 (v := .int .i64 ((d.lg.length : Nat) : Int)) h31 rfl rfl rfl (fun x hx => by subst hx; exact (rn_len rfl rfl Try.underlying33 (hg.below hB25))) fun a32 h32 => ?_; clear h31
 refine dk0 14 (v := .slice (some ⟨R, 0, none⟩) 1 1) h32 rfl rfl rfl fun a33 h33 => ?_; clear h32
 refine dk0 15 (v := .int .i64 0) h33 rfl rfl rfl fun a34 h34 => ?_; clear h33
 refine dk0 16 (v := pt R 0) h34 rfl rfl rfl fun a35 h35 => ?_; clear h34
 refine dk0 17 (v := pt R 7) h35 rfl rfl rfl fun a36 h36 => ?_; clear h35
 refine dk0 18 (v := pt R 7) h36 rfl rfl rfl fun a37 h37 => ?_; clear h36
 refine dk0 19 (v := pt R 9) h37 rfl rfl rfl fun a38 h38 => ?_; clear h37
 refine dk 20 (v := ev) h38 rfl rfl rfl (fun x hx => by subst hx; exact (rn_load1 rfl rfl Try.isAgg34 (hk23.cell rfl))) fun a39 h39 => ?_; clear h38
 refine dk 21 (v := .int .i64 ((d.el.length : Nat) : Int)) h39 rfl rfl rfl (fun x hx => by subst hx; exact (rn_len rfl rfl Try.underlying34 (he.below hB25))) fun a40 h40 => ?_; clear h39
 have hmm41 := mxI_p 0 ((d.ms.length : Nat) : Int)
 have hmm42 := mxI_p (mxI 0 ((d.ms.length : Nat) : Int)) ((d.lg.length : Nat) : Int)
 have hmm43 := mxI_p (mxI (mxI 0 ((d.ms.length : Nat) : Int)) ((d.lg.length : Nat) : Int)) ((d.el.length : Nat) : Int)
 refine dk0 22 (v := .int .i64 (mxI (mxI (mxI 0 ((d.ms.length : Nat) : Int)) ((d.lg.length : Nat) : Int)) ((d.el.length : Nat) : Int))) h40 rfl rfl rfl fun a44 h44 => ?_; clear h40
 refine dk0 23 (v := .int .i64 (mxI (mxI (mxI 0 ((d.ms.length : Nat) : Int)) ((d.lg.length : Nat) : Int)) ((d.el.length : Nat) : Int))) h44 rfl rfl rfl fun a45 h45 => ?_; clear h44
 refine dr_done (by kernel_rfl) ?_
 refine co_blockN ?_
 refine co_then ?_
 refine co_reg ?_
 refine pk0 (v := .int .i64 0) h45 rfl fun a46 h46 => ?_; clear h45
 refine pk0 (v := .int .i64 1) h46 rfl fun a47 h47 => ?_; clear h46
 refine pk0 (v := .int .i64 1) h47 rfl fun a48 h48 => ?_; clear h47
 refine pl_nil ?_
 refine co_then ?_
 refine co_unroll (n := 0) ?_
 refine co_seq ?_
 refine co_seq ?_
 refine co_reg ?_
 refine pk0 (v := .int .i64 1) h48 rfl fun a49 h49 => ?_; clear h48
 refine pk0 (v := .slice (some ⟨R, 0, none⟩) 1 1) h49 rfl fun a50 h50 => ?_; clear h49
 refine pk0 (v := .int .i64 1) h50 rfl fun a51 h51 => ?_; clear h50
 refine pk0 (v := .bool (decide (1 < 1))) h51 rfl fun a52 h52 => ?_; clear h51
 refine pk0 (v := .bool (decide (1 < 1))) h52 rfl fun a53 h53 => ?_; clear h52
 have hc54 : (decide (1 < 1)) = false := decide_eq_false (by omega)
 rw [hc54] at h53; clear hc54
 refine psk h53 rfl fun a55 h55 => ?_; clear h53
 refine psk h55 rfl fun a56 h56 => ?_; clear h55
 refine pk0 (v := .bool false) h56 rfl fun a57 h57 => ?_; clear h56
 refine pl_nil ?_
 refine co_then ?_
 refine co_false h57 rfl ?_
 refine wp_exit ?_
 refine co_thenX ?_
 refine co_thenX ?_
 refine co_blockX ?_
 refine co_then ?_
 refine co_seq ?_
 refine co_reg ?_
 refine pk0 (v := .int .i64 (mxI (mxI (mxI 0 ((d.ms.length : Nat) : Int)) ((d.lg.length : Nat) : Int)) ((d.el.length : Nat) : Int))) h57 rfl fun a58 h58 => ?_; clear h57
 refine pk0 (v := .int .i64 (mxI (mxI (mxI 0 ((d.ms.length : Nat) : Int)) ((d.lg.length : Nat) : Int)) ((d.el.length : Nat) : Int))) h58 rfl fun a59 h59 => ?_; clear h58
 refine pl_nil ?_
 refine co_then ?_
 refine wp_ret ?_
 refine co_ret1 h59 rfl rfl ?_
 exact ⟨_, rfl, hB25⟩
end Go.Proofs.Ytlbemlodcdgakaa

/- Configurations and members that came in by value, opened. Conditions: none. -/
namespace Go.Proofs.Ytlbemlodcdgakaa
open Go.RowKit Go.ChangeShapes Go.WideShapes Go.Deep
section
variable {H : Type} {enc : TypeId × Value → H} {w : World} {base : Nat} {spare : Nat → Bool} {held : Bool}
set_option maxRecDepth 10000 in
theorem elem_mem (n : Nat) (cs : List Value) (x : DataW H × List MemPlace) (h : DataW.trod enc Try.prog w base spare held n 158 cs = some x) : ∃ p, cs = memE p ∧ memOk p := by
  obtain ⟨hl, m, hf⟩ := trod_fields Try.underlying158 (by kernel_rfl) (by kernel_rfl) h
  have hl2 : cs.length = 2 := hl
  clear hl
  match cs, hl2 with
  | [c0, c1], _ =>
    obtain ⟨_, y0, e0, h0⟩ := hf 0 _ rfl
    obtain ⟨_, y1, e1, h1⟩ := hf 1 _ rfl
    cases e0; cases e1
    obtain ⟨a, e0, _, w0⟩ := DataW.trod_int Try.underlying3 h0
    obtain ⟨b, e1, _, w1⟩ := DataW.trod_int Try.underlying3 h1
    simp only [List.cons.injEq, and_true] at e0 e1
    subst e0 e1
    exact ⟨(a, b), rfl, wf_i64 w0, wf_i64 w1⟩
theorem open_mems {fuel : Nat} {cs : List Value} {x : DataW H × List MemPlace} (h : DataW.trod enc Try.prog w base spare held fuel 30 cs = some x) :
    ∃ (l : List MemT) (v : Value), cs = [v] ∧ SliceOf memE 2 w v l ∧ ∀ p ∈ l, memOk p :=
  open_rows memE 2 memOk Try.underlying30 (by kernel_rfl) (by omega) elem_mem h
set_option maxRecDepth 10000 in
theorem elem_conf (n : Nat) (cs : List Value) (x : DataW H × List MemPlace) (h : DataW.trod enc Try.prog w base spare held n 32 cs = some x) : ∃ c : ConfT, cs = confE c ∧ ConfOk w c := by
  obtain ⟨hl, m, hf⟩ := trod_fields Try.underlying32 (by kernel_rfl) (by kernel_rfl) h
  have hl3 : cs.length = 3 := hl
  clear hl
  match cs, hl3 with
  | [c0, c1, c2], _ =>
    obtain ⟨_, y0, e0, h0⟩ := hf 0 _ rfl
    obtain ⟨_, y1, e1, h1⟩ := hf 1 _ rfl
    obtain ⟨_, y2, e2, h2⟩ := hf 2 _ rfl
    cases e0; cases e1; cases e2
    obtain ⟨a, e0, _, w0⟩ := DataW.trod_int Try.underlying3 h0
    obtain ⟨l, v, e1, hs, hall⟩ := open_mems h1
    obtain ⟨b, e2, _, w2⟩ := DataW.trod_int Try.underlying29 h2
    simp only [List.cons.injEq, and_true] at e0 e1 e2
    subst e0 e1 e2
    have k0 := wf_i64 w0; have k2 := wf_u64 w2
    exact ⟨⟨a, c1, l, b⟩, rfl, ⟨hs, hall, k0.1, k0.2, k2.1, k2.2⟩⟩
end
end Go.Proofs.Ytlbemlodcdgakaa

/- Notes that came in by value, opened. Conditions: none. -/
namespace Go.Proofs.Ytlbemlodcdgakaa
open Go.RowKit Go.ChangeShapes Go.WideShapes Go.Deep
structure NoteX where
  d : NoteD
  mv : Value
  lv : Value
  ev : Value
def noteE (x : NoteX) : List Value := [.int .i64 x.d.k, .int .i64 x.d.n, .int .u64 x.d.t, .int .i64 x.d.ep, x.mv, .int .u64 x.d.fl, x.lv, .int .i64 x.d.ec, .int .i64 x.d.er, x.ev, .int .u64 x.d.ets, .int .i64 x.d.pid, .int .u64 x.d.pat, .int .i64 x.d.plf, .int .i64 x.d.sc, .int .i64 x.d.sr, .int .i64 x.d.se, .int .i64 x.d.sp]
def noteV (x : NoteX) : Value := .agg #[.int .i64 x.d.k, .int .i64 x.d.n, .int .u64 x.d.t, .int .i64 x.d.ep, x.mv, .int .u64 x.d.fl, x.lv, .int .i64 x.d.ec, .int .i64 x.d.er, x.ev, .int .u64 x.d.ets, .int .i64 x.d.pid, .int .u64 x.d.pat, .int .i64 x.d.plf, .int .i64 x.d.sc, .int .i64 x.d.sr, .int .i64 x.d.se, .int .i64 x.d.sp]
structure NoteOk (w : World) (x : NoteX) : Prop where
  hm : SliceOf memE 2 w x.mv x.d.ms
  hg : SliceOf (intE .i64) 1 w x.lv x.d.lg
  he : SliceOf opE 3 w x.ev x.d.el
  hR : NoteR x.d
section
variable {H : Type} {enc : TypeId × Value → H} {w : World} {base : Nat} {spare : Nat → Bool} {held : Bool}
theorem open_i64s {fuel : Nat} {cs : List Value} {x : DataW H × List MemPlace} (h : DataW.trod enc Try.prog w base spare held fuel 33 cs = some x) :
    ∃ (l : List Int) (v : Value), cs = [v] ∧ SliceOf (intE .i64) 1 w v l ∧ ∀ n ∈ l, (Lit.int .i64 n).wf = true :=
  open_rows (intE .i64) 1 _ Try.underlying33 (by kernel_rfl) (by omega) (fun n cs x h => by
    obtain ⟨a, e, _, hw⟩ := DataW.trod_int Try.underlying3 h
    exact ⟨a, e, hw⟩) h
set_option maxRecDepth 10000 in
theorem elem_note (n : Nat) (cs : List Value) (x : DataW H × List MemPlace) (h : DataW.trod enc Try.prog w base spare held n 44 cs = some x) : ∃ y : NoteX, cs = noteE y ∧ NoteOk w y := by
  obtain ⟨xs, m, _, _, hl, hxl, hf⟩ := DataW.trod_struct Try.underlying44 h
  have hl18 : cs.length = 18 := hl
  have hx8 : xs.length = 8 := hxl
  clear hl hxl
  match cs, hl18, xs, hx8 with
  | [c0, c1, c2, c3, c4, c5, c6, c7, c8, c9, c10, c11, c12, c13, c14, c15, c16, c17], _, [x0, x1, x2, x3, x4, x5, x6, x7], _ =>
    have h0 : DataW.trod enc Try.prog w base spare held m 3 [c0] = some x0 := hf 0 _ rfl
    have h1 : DataW.trod enc Try.prog w base spare held m 3 [c1] = some x1 := hf 1 _ rfl
    have h2 : DataW.trod enc Try.prog w base spare held m 29 [c2] = some x2 := hf 2 _ rfl
    have h3 : DataW.trod enc Try.prog w base spare held m 32 [c3, c4, c5] = some x3 := hf 3 _ rfl
    have h4 : DataW.trod enc Try.prog w base spare held m 33 [c6] = some x4 := hf 4 _ rfl
    have h5 : DataW.trod enc Try.prog w base spare held m 38 [c7, c8, c9, c10] = some x5 := hf 5 _ rfl
    have h6 : DataW.trod enc Try.prog w base spare held m 40 [c11, c12, c13] = some x6 := hf 6 _ rfl
    have h7 : DataW.trod enc Try.prog w base spare held m 42 [c14, c15, c16, c17] = some x7 := hf 7 _ rfl
    clear hf h
    obtain ⟨k, e0, _, _⟩ := DataW.trod_int Try.underlying3 h0
    obtain ⟨nn, e1, _, _⟩ := DataW.trod_int Try.underlying3 h1
    obtain ⟨t, e2, _, w2⟩ := DataW.trod_int Try.underlying29 h2
    obtain ⟨c, e3, hc⟩ := elem_conf _ _ _ h3
    obtain ⟨lg, lv, e4, hg, _⟩ := open_i64s h4
    obtain ⟨ys, m5, _, _, _, hyl, hf5⟩ := DataW.trod_struct Try.underlying38 h5
    have hy2 : ys.length = 2 := hyl
    clear hyl h5
    match ys, hy2 with
    | [y0, y1], _ =>
      have b0 : DataW.trod enc Try.prog w base spare held m5 36 [c7, c8, c9] = some y0 := hf5 0 _ rfl
      have b1 : DataW.trod enc Try.prog w base spare held m5 29 [c10] = some y1 := hf5 1 _ rfl
      clear hf5
      obtain ⟨ets, e10, _, w10⟩ := DataW.trod_int Try.underlying29 b1
      obtain ⟨_, m6, hf6⟩ := trod_fields Try.underlying36 (by kernel_rfl) (by kernel_rfl) b0
      obtain ⟨_, z0, f0, g0⟩ := hf6 0 _ rfl
      obtain ⟨_, z1, f1, g1⟩ := hf6 1 _ rfl
      obtain ⟨_, z2, f2, g2⟩ := hf6 2 _ rfl
      cases f0; cases f1; cases f2
      obtain ⟨ec, e7, _, _⟩ := DataW.trod_int Try.underlying3 g0
      obtain ⟨er, e8, _, _⟩ := DataW.trod_int Try.underlying3 g1
      obtain ⟨el, ev, e9, he, _⟩ := open_opsS g2
      obtain ⟨_, m7, hf7⟩ := trod_fields Try.underlying40 (by kernel_rfl) (by kernel_rfl) h6
      obtain ⟨_, z3, f3, g3⟩ := hf7 0 _ rfl
      obtain ⟨_, z4, f4, g4⟩ := hf7 1 _ rfl
      obtain ⟨_, z5, f5, g5⟩ := hf7 2 _ rfl
      cases f3; cases f4; cases f5
      obtain ⟨pid, e11, _, _⟩ := DataW.trod_int Try.underlying3 g3
      obtain ⟨pat, e12, _, w12⟩ := DataW.trod_int Try.underlying29 g4
      obtain ⟨plf, e13, _, _⟩ := DataW.trod_int Try.underlying3 g5
      obtain ⟨_, m8, hf8⟩ := trod_fields Try.underlying42 (by kernel_rfl) (by kernel_rfl) h7
      obtain ⟨_, z6, f6, g6⟩ := hf8 0 _ rfl
      obtain ⟨_, z7, f7, g7⟩ := hf8 1 _ rfl
      obtain ⟨_, z8, f8, g8⟩ := hf8 2 _ rfl
      obtain ⟨_, z9, f9, g9⟩ := hf8 3 _ rfl
      cases f6; cases f7; cases f8; cases f9
      obtain ⟨sc, e14, _, _⟩ := DataW.trod_int Try.underlying3 g6
      obtain ⟨sr, e15, _, _⟩ := DataW.trod_int Try.underlying3 g7
      obtain ⟨se, e16, _, _⟩ := DataW.trod_int Try.underlying27 g8
      obtain ⟨sp, e17, _, _⟩ := DataW.trod_int Try.underlying3 g9
      clear h0 h1 h2 h3 h4 h6 h7 hf6 hf7 hf8 g0 g1 g2 g3 g4 g5 g6 g7 g8 g9 b0 b1
      simp only [confE, List.cons.injEq, and_true] at e0 e1 e2 e3 e4 e7 e8 e9 e10 e11 e12 e13 e14 e15 e16 e17
      obtain ⟨rfl, rfl, rfl⟩ := e3
      subst e0 e1 e2 e4 e7 e8 e9 e10 e11 e12 e13 e14 e15 e16 e17
      exact ⟨⟨⟨k, nn, t, c.ep, c.ms, c.fl, lg, ec, er, el, ets, pid, pat, plf, sc, sr, se, sp⟩, c.mv, _, _⟩, rfl, ⟨hc.ms, hg, he, ⟨hc.each, ⟨hc.e0, hc.e1⟩, ⟨hc.f0, hc.f1⟩, wf_u64 w2, wf_u64 w10, wf_u64 w12⟩⟩⟩
end
set_option maxRecDepth 100000 in
theorem open_note {H : Type} {enc : TypeId × Value → H} {w W0 : World} {base b0 : Nat} {spare : Nat → Bool} {held : Bool} {r : Reach} {v : Value} {n : Nat} {x : DataW H × List MemPlace}
    (hv : Value.okWide Try.prog w r b0 44 v) (h : DataW.trod enc Try.prog W0 base spare held n 44 v.cells.toList = some x) :
    ∃ y : NoteX, v = noteV y ∧ NoteOk W0 y := by
  obtain ⟨cs, rfl, hsz⟩ := okWide_struct Try.underlying44 hv
  obtain ⟨y, hy, hok⟩ := elem_note _ _ _ h
  refine ⟨y, ?_, hok⟩
  obtain ⟨cl⟩ := cs
  have hy' : cl = noteE y := hy
  subst hy'; rfl
end Go.Proofs.Ytlbemlodcdgakaa

/- catenalaw28: MstateZero. Conditions: none. -/
namespace Go.Proofs.Ytlbemlodcdgakaa
open Go.RowKit Go.PlainAid
set_option linter.unusedVariables false
set_option linter.unusedSimpArgs false

set_option maxRecDepth 100000 in
set_option maxHeartbeats 3200000 in
theorem mstateZero_any (d : NoteD) (mv : Value) (lv : Value) (ev : Value) (w : World) (hm : SliceOf memE 2 w mv d.ms) (hg : SliceOf (intE .i64) 1 w lv d.lg) (he : SliceOf opE 3 w ev d.el) (hR : NoteR d) :
    Calls Try.prog 5 #[.agg #[.int .i64 d.k, .int .i64 d.n, .int .u64 d.t, .int .i64 d.ep, mv, .int .u64 d.fl, lv, .int .i64 d.ec, .int .i64 d.er, ev, .int .u64 d.ets, .int .i64 d.pid, .int .u64 d.pat, .int .i64 d.plf, .int .i64 d.sc, .int .i64 d.sr, .int .i64 d.se, .int .i64 d.sp]] w fun e w' => e = .returned (.bool true) ∧ Below w.heap.size w w' := by
 have hB0 := Below.refl w.heap.size w
 have hl_hm := sl_len hm
 have hl_hg := sl_len hg
 have hl_he := sl_len he
 refine co_enter (n := 79) Try.func5 rfl rfl rfl [(0, .agg #[.int .i64 d.k, .int .i64 d.n, .int .u64 d.t, .int .i64 d.ep, mv, .int .u64 d.fl, lv, .int .i64 d.ec, .int .i64 d.er, ev, .int .u64 d.ets, .int .i64 d.pid, .int .u64 d.pat, .int .i64 d.plf, .int .i64 d.sc, .int .i64 d.sr, .int .i64 d.se, .int .i64 d.sp])] rfl (fun a h0 => ?_)
 refine co_seq ?_
 refine co_reg ?_
 refine pw h0 rfl (op_new (v := fun N => pt N 0) (T := 44) (cs := #[.int .i64 d.k, .int .i64 d.n, .int .u64 d.t, .int .i64 d.ep, mv, .int .u64 d.fl, lv, .int .i64 d.ec, .int .i64 d.er, ev, .int .u64 d.ets, .int .i64 d.pid, .int .u64 d.pat, .int .i64 d.plf, .int .i64 d.sc, .int .i64 d.sr, .int .i64 d.se, .int .i64 d.sp]) (by kernel_rfl) (by kernel_rfl) (by kernel_rfl)) ?_; clear h0
 rintro _ w2 a1 ⟨N3, rfl, hN6, hz7, hk5, hg4⟩ h1
 have hz8 := hg4.size
 try dsimp only at h1
 refine pk0 (v := .bool false) h1 rfl fun a9 h9 => ?_; clear h1
 refine pl_nil ?_
 refine co_then ?_
 refine co_seq ?_
 refine co_seq ?_
 refine co_reg ?_
 refine pk (v := .agg #[.int .i64 d.k, .int .i64 d.n, .int .u64 d.t, .int .i64 d.ep, mv, .int .u64 d.fl, lv, .int .i64 d.ec, .int .i64 d.er, ev, .int .u64 d.ets, .int .i64 d.pid, .int .u64 d.pat, .int .i64 d.plf, .int .i64 d.sc, .int .i64 d.sr, .int .i64 d.se, .int .i64 d.sp]) h9 rfl (rn_loadN rfl rfl Try.underlying44 rfl (by kernel_rfl) hk5.all) fun a10 h10 => ?_; clear h9
 refine pw h10 rfl (op_new (v := fun N => .slice (some ⟨N, 0, none⟩) 1 1) (T := 44) (cs := #[.int .i64 d.k, .int .i64 d.n, .int .u64 d.t, .int .i64 d.ep, mv, .int .u64 d.fl, lv, .int .i64 d.ec, .int .i64 d.er, ev, .int .u64 d.ets, .int .i64 d.pid, .int .u64 d.pat, .int .i64 d.plf, .int .i64 d.sc, .int .i64 d.sr, .int .i64 d.se, .int .i64 d.sp]) (by kernel_rfl) (by kernel_rfl) (by kernel_rfl)) ?_; clear h10
 rintro _ w12 a11 ⟨N13, rfl, hN16, hz17, hk15, hg14⟩ h11
 have hz18 := hg14.size
 try dsimp only at h11
 have hB21 := hb_new hB0 hg4
 have hB22 := hb_new hB21 hg14
 refine pw h11 rfl (op_call (args := #[.slice (some ⟨N13, 0, none⟩) 1 1]) (R := fun res xw => ∃ r : Int, res = .int .i64 r ∧ Below w12.heap.size w12 xw) rfl rfl rfl (by kernel_rfl) (by kernel_rfl) (Try.call9 _ _) (parts1_any N13 d mv lv ev w12 hk15 (hm.below hB22) (hg.below hB22) (he.below hB22)) (by rintro e x ⟨r, rfl, hb24⟩; exact ⟨_, rfl, ⟨r, rfl, hb24⟩⟩)) ?_; clear h11
 rintro _ w20 a19 ⟨r23, rfl, hb24⟩ h19
 have hz25 := hb24.size
 refine pk0 (v := .bool (decide (r23 > 20))) h19 rfl fun a26 h26 => ?_; clear h19
 refine pl_nil ?_
 refine co_then ?_
 have hB28 := hb_call hB22 hb24
 have hk29 := hk5.kept hg14 (by simp)
 have hk30 := hk29.below hb24
 cases hc27 : (decide (r23 > 20))
 ·
  rw [hc27] at h26
  have hp31 : ¬ (r23 > 20) := of_decide_eq_false hc27
  clear hc27
  refine co_false h26 rfl ?_
  refine wp_skip ?_
  refine co_then ?_
  refine co_seq ?_
  refine co_reg ?_
  refine pk0 (v := .pointer none) h26 rfl fun a32 h32 => ?_; clear h26
  refine pl_nil ?_
  refine co_then ?_
  refine co_seq ?_
  refine co_reg ?_
  refine pw h32 rfl (op_new (v := fun N => pt N 0) (T := 65) (cs := #[.bool false, .int .i64 0, .slice none 0 0, .int .u64 0, .slice none 0 0, .int .u64 0, .slice none 0 0, .int .i64 0, .bool false, .int .i64 0, .int .i64 0, .int .i64 0, .int .i64 0, .bool false, .int .i64 0, .int .i64 0, .int .i64 0, .int .i64 0, .bool false, .int .i64 0, .int .i64 0, .int .i64 0, .int .i64 0]) (by kernel_rfl) (by kernel_rfl) (by kernel_rfl)) ?_; clear h32
  rintro _ w34 a33 ⟨N35, rfl, hN38, hz39, hk37, hg36⟩ h33
  have hz40 := hg36.size
  try dsimp only at h33
  refine pl_nil ?_
  refine co_then ?_
  refine co_seq ?_
  refine co_reg ?_
  simp only [List.append_eq, List.cons_append, List.nil_append]
  refine pk0 (v := .pointer none) h33 rfl fun a41 h41 => ?_; clear h33
  have hk42 := hk30.kept hg36 (by simp)
  refine pk (v := .agg #[.int .i64 d.k, .int .i64 d.n, .int .u64 d.t, .int .i64 d.ep, mv, .int .u64 d.fl, lv, .int .i64 d.ec, .int .i64 d.er, ev, .int .u64 d.ets, .int .i64 d.pid, .int .u64 d.pat, .int .i64 d.plf, .int .i64 d.sc, .int .i64 d.sr, .int .i64 d.se, .int .i64 d.sp]) h41 rfl (rn_loadN rfl rfl Try.underlying44 rfl (by kernel_rfl) hk42.all) fun a43 h43 => ?_; clear h41
  have hB46 := hb_new hB28 hg36
  refine pw h43 rfl (op_call (args := #[.pointer none, .agg #[.int .i64 d.k, .int .i64 d.n, .int .u64 d.t, .int .i64 d.ep, mv, .int .u64 d.fl, lv, .int .i64 d.ec, .int .i64 d.er, ev, .int .u64 d.ets, .int .i64 d.pid, .int .u64 d.pat, .int .i64 d.plf, .int .i64 d.sc, .int .i64 d.sr, .int .i64 d.se, .int .i64 d.sp]]) (R := fun res xw => res = .int .i64 8 ∧ Below w34.heap.size w34 xw) rfl rfl rfl (by kernel_rfl) (by kernel_rfl) (Try.call12 _ _) (msApplyN d mv lv ev w34 (hm.below hB46) (hg.below hB46) (he.below hB46)) (by rintro e x ⟨rfl, hb47⟩; exact ⟨_, rfl, ⟨rfl, hb47⟩⟩)) ?_; clear h43
  rintro _ w45 a44 ⟨rfl, hb47⟩ h44
  have hz48 := hb47.size
  refine pk0 (v := .bool ((8 : Int) == 8)) h44 rfl fun a49 h49 => ?_; clear h44
  refine pk0 (v := .bool ((8 : Int) == 8)) h49 rfl fun a50 h50 => ?_; clear h49
  have hc51 : ((8 : Int) == 8) = true := by first | (simp; done) | (simp; omega) | exact beq_false_of_ne (by omega) | exact beq_iff_eq.2 (by omega)
  rw [hc51] at h50; clear hc51
  have hk52 := hk42.below hb47
  refine pk (v := .agg #[.int .i64 d.k, .int .i64 d.n, .int .u64 d.t, .int .i64 d.ep, mv, .int .u64 d.fl, lv, .int .i64 d.ec, .int .i64 d.er, ev, .int .u64 d.ets, .int .i64 d.pid, .int .u64 d.pat, .int .i64 d.plf, .int .i64 d.sc, .int .i64 d.sr, .int .i64 d.se, .int .i64 d.sp]) h50 rfl (rn_loadN rfl rfl Try.underlying44 rfl (by kernel_rfl) hk52.all) fun a53 h53 => ?_; clear h50
  have hB56 := hb_call hB46 hb47
  have hk57 := hk37.below hb47
  refine pw h53 rfl (op_call (args := #[pt N35 0, .agg #[.int .i64 d.k, .int .i64 d.n, .int .u64 d.t, .int .i64 d.ep, mv, .int .u64 d.fl, lv, .int .i64 d.ec, .int .i64 d.er, ev, .int .u64 d.ets, .int .i64 d.pid, .int .u64 d.pat, .int .i64 d.plf, .int .i64 d.sc, .int .i64 d.sr, .int .i64 d.se, .int .i64 d.sp]]) (R := fun res xw => res = .int .i64 8 ∧ Below w45.heap.size w45 xw) rfl rfl rfl (by kernel_rfl) (by kernel_rfl) (Try.call12 _ _) (msApplyF N35 d mv lv ev w45 hk57 (hm.below hB56) (hg.below hB56) (he.below hB56)) (by rintro e x ⟨rfl, hb58⟩; exact ⟨_, rfl, ⟨rfl, hb58⟩⟩)) ?_; clear h53
  rintro _ w55 a54 ⟨rfl, hb58⟩ h54
  have hz59 := hb58.size
  refine pk0 (v := .bool ((8 : Int) == 8)) h54 rfl fun a60 h60 => ?_; clear h54
  refine pk0 (v := .bool ((8 : Int) == 8)) h60 rfl fun a61 h61 => ?_; clear h60
  refine pk0 (v := .bool ((8 : Int) == 8)) h61 rfl fun a62 h62 => ?_; clear h61
  have hc63 : ((8 : Int) == 8) = true := by first | (simp; done) | (simp; omega) | exact beq_false_of_ne (by omega) | exact beq_iff_eq.2 (by omega)
  rw [hc63] at h62; clear hc63
  refine pk0 (v := .pointer none) h62 rfl fun a64 h64 => ?_; clear h62
  refine pw h64 rfl (op_call (args := #[.pointer none]) (R := fun res xw => res = .slice none 0 0 ∧ Below w55.heap.size w55 xw) rfl rfl rfl (by kernel_rfl) (by kernel_rfl) (Try.call13 _ _) (msNotesN  w55 ) (by rintro e x ⟨rfl, hb67⟩; exact ⟨_, rfl, ⟨rfl, hb67⟩⟩)) ?_; clear h64
  rintro _ w66 a65 ⟨rfl, hb67⟩ h65
  have hz68 := hb67.size
  refine pk0 (v := .int .i64 0) h65 rfl fun a69 h69 => ?_; clear h65
  have hk72 := hk57.below hb58
  have hk73 := hk72.below hb67
  refine pw h69 rfl (op_call (args := #[pt N35 0]) (R := fun res xw => res = .slice none 0 0 ∧ Below w66.heap.size w66 xw) rfl rfl rfl (by kernel_rfl) (by kernel_rfl) (Try.call13 _ _) (msNotesF N35 w66 hk73) (by rintro e x ⟨rfl, hb74⟩; exact ⟨_, rfl, ⟨rfl, hb74⟩⟩)) ?_; clear h69
  rintro _ w71 a70 ⟨rfl, hb74⟩ h70
  have hz75 := hb74.size
  refine pk0 (v := .int .i64 0) h70 rfl fun a76 h76 => ?_; clear h70
  refine pk0 (v := .int .i64 0) h76 rfl fun a77 h77 => ?_; clear h76
  refine pk0 (v := .pointer none) h77 rfl fun a78 h78 => ?_; clear h77
  refine pw h78 rfl (op_call (args := #[.pointer none]) (R := fun res xw => res = .slice none 0 0 ∧ Below w71.heap.size w71 xw) rfl rfl rfl (by kernel_rfl) (by kernel_rfl) (Try.call20 _ _) (msLegitN  w71 ) (by rintro e x ⟨rfl, hb81⟩; exact ⟨_, rfl, ⟨rfl, hb81⟩⟩)) ?_; clear h78
  rintro _ w80 a79 ⟨rfl, hb81⟩ h79
  have hz82 := hb81.size
  refine pk0 (v := .int .i64 0) h79 rfl fun a83 h83 => ?_; clear h79
  refine pk0 (v := .int .i64 0) h83 rfl fun a84 h84 => ?_; clear h83
  have hk87 := hk73.below hb74
  have hk88 := hk87.below hb81
  refine pw h84 rfl (op_call (args := #[pt N35 0]) (R := fun res xw => res = .slice none 0 0 ∧ Below w80.heap.size w80 xw) rfl rfl rfl (by kernel_rfl) (by kernel_rfl) (Try.call20 _ _) (msLegitF N35 w80 hk88) (by rintro e x ⟨rfl, hb89⟩; exact ⟨_, rfl, ⟨rfl, hb89⟩⟩)) ?_; clear h84
  rintro _ w86 a85 ⟨rfl, hb89⟩ h85
  have hz90 := hb89.size
  refine pk0 (v := .int .i64 0) h85 rfl fun a91 h91 => ?_; clear h85
  refine pk0 (v := .int .i64 0) h91 rfl fun a92 h92 => ?_; clear h91
  refine pk0 (v := .pointer none) h92 rfl fun a93 h93 => ?_; clear h92
  refine pw h93 rfl (op_call (args := #[.pointer none]) (R := fun res xw => res = .slice none 0 0 ∧ Below w86.heap.size w86 xw) rfl rfl rfl (by kernel_rfl) (by kernel_rfl) (Try.call18 _ _) (msPinsN  w86 ) (by rintro e x ⟨rfl, hb96⟩; exact ⟨_, rfl, ⟨rfl, hb96⟩⟩)) ?_; clear h93
  rintro _ w95 a94 ⟨rfl, hb96⟩ h94
  have hz97 := hb96.size
  refine pk0 (v := .int .i64 0) h94 rfl fun a98 h98 => ?_; clear h94
  refine pk0 (v := .int .i64 0) h98 rfl fun a99 h99 => ?_; clear h98
  have hk102 := hk88.below hb89
  have hk103 := hk102.below hb96
  refine pw h99 rfl (op_call (args := #[pt N35 0]) (R := fun res xw => res = .slice none 0 0 ∧ Below w95.heap.size w95 xw) rfl rfl rfl (by kernel_rfl) (by kernel_rfl) (Try.call18 _ _) (msPinsF N35 w95 hk103) (by rintro e x ⟨rfl, hb104⟩; exact ⟨_, rfl, ⟨rfl, hb104⟩⟩)) ?_; clear h99
  rintro _ w101 a100 ⟨rfl, hb104⟩ h100
  have hz105 := hb104.size
  refine pk0 (v := .int .i64 0) h100 rfl fun a106 h106 => ?_; clear h100
  refine pk0 (v := .int .i64 0) h106 rfl fun a107 h107 => ?_; clear h106
  refine pk0 (v := .pointer none) h107 rfl fun a108 h108 => ?_; clear h107
  refine pw h108 rfl (op_call (args := #[.pointer none]) (R := fun res xw => res = .int .i64 0 ∧ Below w101.heap.size w101 xw) rfl rfl rfl (by kernel_rfl) (by kernel_rfl) (Try.call22 _ _) (msTopN  w101 ) (by rintro e x ⟨rfl, hb111⟩; exact ⟨_, rfl, ⟨rfl, hb111⟩⟩)) ?_; clear h108
  rintro _ w110 a109 ⟨rfl, hb111⟩ h109
  have hz112 := hb111.size
  refine pk0 (v := .int .i64 0) h109 rfl fun a113 h113 => ?_; clear h109
  have hk116 := hk103.below hb104
  have hk117 := hk116.below hb111
  refine pw h113 rfl (op_call (args := #[pt N35 0]) (R := fun res xw => res = .int .i64 0 ∧ Below w110.heap.size w110 xw) rfl rfl rfl (by kernel_rfl) (by kernel_rfl) (Try.call22 _ _) (msTopF N35 w110 hk117) (by rintro e x ⟨rfl, hb118⟩; exact ⟨_, rfl, ⟨rfl, hb118⟩⟩)) ?_; clear h113
  rintro _ w115 a114 ⟨rfl, hb118⟩ h114
  have hz119 := hb118.size
  refine pk0 (v := .int .i64 0) h114 rfl fun a120 h120 => ?_; clear h114
  refine pk0 (v := .pointer none) h120 rfl fun a121 h121 => ?_; clear h120
  refine pw h121 rfl (op_call (args := #[.pointer none]) (R := fun res xw => res = .agg #[.int .i64 0, .slice none 0 0, .int .u64 0] ∧ Below w115.heap.size w115 xw) rfl rfl rfl (by kernel_rfl) (by kernel_rfl) (Try.call17 _ _) (msConfN  w115 ) (by rintro e x ⟨rfl, hb124⟩; exact ⟨_, rfl, ⟨rfl, hb124⟩⟩)) ?_; clear h121
  rintro _ w123 a122 ⟨rfl, hb124⟩ h122
  have hz125 := hb124.size
  refine pk0 (v := .int .i64 0) h122 rfl fun a126 h126 => ?_; clear h122
  refine pk0 (v := .int .i64 0) h126 rfl fun a127 h127 => ?_; clear h126
  have hk130 := hk117.below hb118
  have hk131 := hk130.below hb124
  refine pw h127 rfl (op_call (args := #[pt N35 0]) (R := fun res xw => res = .agg #[.int .i64 0, .slice none 0 0, .int .u64 0] ∧ Below w123.heap.size w123 xw) rfl rfl rfl (by kernel_rfl) (by kernel_rfl) (Try.call17 _ _) (msConfF N35 w123 hk131) (by rintro e x ⟨rfl, hb132⟩; exact ⟨_, rfl, ⟨rfl, hb132⟩⟩)) ?_; clear h127
  rintro _ w129 a128 ⟨rfl, hb132⟩ h128
  have hz133 := hb132.size
  refine pk0 (v := .int .i64 0) h128 rfl fun a134 h134 => ?_; clear h128
  refine pk0 (v := .int .i64 0) h134 rfl fun a135 h135 => ?_; clear h134
  refine pk0 (v := .bool ((0 : Int) == 0)) h135 rfl fun a136 h136 => ?_; clear h135
  refine pk0 (v := .bool ((0 : Int) == 0)) h136 rfl fun a137 h137 => ?_; clear h136
  refine pk0 (v := .bool ((0 : Int) == 0)) h137 rfl fun a138 h138 => ?_; clear h137
  have hc139 : ((0 : Int) == 0) = true := by first | rfl | simp
  rw [hc139] at h138; clear hc139
  refine pk0 (v := .pointer none) h138 rfl fun a140 h140 => ?_; clear h138
  refine pw h140 rfl (op_call (args := #[.pointer none]) (R := fun res xw => res = .int .u64 0 ∧ Below w129.heap.size w129 xw) rfl rfl rfl (by kernel_rfl) (by kernel_rfl) (Try.call16 _ _) (msHorizonN  w129 ) (by rintro e x ⟨rfl, hb143⟩; exact ⟨_, rfl, ⟨rfl, hb143⟩⟩)) ?_; clear h140
  rintro _ w142 a141 ⟨rfl, hb143⟩ h141
  have hz144 := hb143.size
  have hk147 := hk131.below hb132
  have hk148 := hk147.below hb143
  refine pw h141 rfl (op_call (args := #[pt N35 0]) (R := fun res xw => res = .int .u64 0 ∧ Below w142.heap.size w142 xw) rfl rfl rfl (by kernel_rfl) (by kernel_rfl) (Try.call16 _ _) (msHorizonF N35 w142 hk148) (by rintro e x ⟨rfl, hb149⟩; exact ⟨_, rfl, ⟨rfl, hb149⟩⟩)) ?_; clear h141
  rintro _ w146 a145 ⟨rfl, hb149⟩ h145
  have hz150 := hb149.size
  refine pk0 (v := .int .u64 0) h145 rfl fun a151 h151 => ?_; clear h145
  refine pk0 (v := .bool ((0 : Int) == 0)) h151 rfl fun a152 h152 => ?_; clear h151
  refine pk0 (v := .bool ((0 : Int) == 0)) h152 rfl fun a153 h153 => ?_; clear h152
  refine pk0 (v := .bool ((0 : Int) == 0)) h153 rfl fun a154 h154 => ?_; clear h153
  have hc155 : ((0 : Int) == 0) = true := by first | rfl | simp
  rw [hc155] at h154; clear hc155
  refine pk0 (v := .pointer none) h154 rfl fun a156 h156 => ?_; clear h154
  refine pk0 (v := pt N3 1) h156 rfl fun a157 h157 => ?_; clear h156
  have hk158 := hk52.below hb58
  have hk159 := hk158.below hb67
  have hk160 := hk159.below hb74
  have hk161 := hk160.below hb81
  have hk162 := hk161.below hb89
  have hk163 := hk162.below hb96
  have hk164 := hk163.below hb104
  have hk165 := hk164.below hb111
  have hk166 := hk165.below hb118
  have hk167 := hk166.below hb124
  have hk168 := hk167.below hb132
  have hk169 := hk168.below hb143
  have hk170 := hk169.below hb149
  refine pk (v := .int .i64 d.n) h157 rfl (rn_load1 rfl rfl Try.isAgg3 (hk170.cell rfl)) fun a171 h171 => ?_; clear h157
  refine pw h171 rfl (op_call (args := #[.pointer none, .int .i64 d.n]) (R := fun res xw => res = .agg #[.int .i64 0, .int .i64 0, .int .i64 0, .int .i64 0] ∧ Below w146.heap.size w146 xw) rfl rfl rfl (by kernel_rfl) (by kernel_rfl) (Try.call23 _ _) (msSaidN d.n w146 ) (by rintro e x ⟨rfl, hb174⟩; exact ⟨_, rfl, ⟨rfl, hb174⟩⟩)) ?_; clear h171
  rintro _ w173 a172 ⟨rfl, hb174⟩ h172
  have hz175 := hb174.size
  refine pk0 (v := .agg #[.int .i64 0, .int .i64 0, .int .i64 0, .int .i64 0]) h172 rfl fun a176 h176 => ?_; clear h172
  refine pk (v := .bool ((0 : Int) == 0 && (0 : Int) == 0 && (0 : Int) == 0 && (0 : Int) == 0)) h176 rfl (rn_eqS rfl rfl rfl Try.eqGuardType42 (eq_said _ _ _ _ _ _ _ _ _)) fun a177 h177 => ?_; clear h176
  refine pk0 (v := .bool ((0 : Int) == 0 && (0 : Int) == 0 && (0 : Int) == 0 && (0 : Int) == 0)) h177 rfl fun a178 h178 => ?_; clear h177
  refine pk0 (v := .bool ((0 : Int) == 0 && (0 : Int) == 0 && (0 : Int) == 0 && (0 : Int) == 0)) h178 rfl fun a179 h179 => ?_; clear h178
  have hc180 : ((0 : Int) == 0 && (0 : Int) == 0 && (0 : Int) == 0 && (0 : Int) == 0) = true := by first | rfl | simp
  rw [hc180] at h179; clear hc180
  refine pk0 (v := pt N3 1) h179 rfl fun a181 h181 => ?_; clear h179
  have hk182 := hk170.below hb174
  refine pk (v := .int .i64 d.n) h181 rfl (rn_load1 rfl rfl Try.isAgg3 (hk182.cell rfl)) fun a183 h183 => ?_; clear h181
  have hk186 := hk148.below hb149
  have hk187 := hk186.below hb174
  refine pw h183 rfl (op_call (args := #[pt N35 0, .int .i64 d.n]) (R := fun res xw => res = .agg #[.int .i64 0, .int .i64 0, .int .i64 0, .int .i64 0] ∧ Below w173.heap.size w173 xw) rfl rfl rfl (by kernel_rfl) (by kernel_rfl) (Try.call23 _ _) (msSaidF N35 d.n w173 hk187) (by rintro e x ⟨rfl, hb188⟩; exact ⟨_, rfl, ⟨rfl, hb188⟩⟩)) ?_; clear h183
  rintro _ w185 a184 ⟨rfl, hb188⟩ h184
  have hz189 := hb188.size
  refine pk0 (v := .agg #[.int .i64 0, .int .i64 0, .int .i64 0, .int .i64 0]) h184 rfl fun a190 h190 => ?_; clear h184
  refine pk (v := .bool ((0 : Int) == 0 && (0 : Int) == 0 && (0 : Int) == 0 && (0 : Int) == 0)) h190 rfl (rn_eqS rfl rfl rfl Try.eqGuardType42 (eq_said _ _ _ _ _ _ _ _ _)) fun a191 h191 => ?_; clear h190
  refine pk0 (v := .bool ((0 : Int) == 0 && (0 : Int) == 0 && (0 : Int) == 0 && (0 : Int) == 0)) h191 rfl fun a192 h192 => ?_; clear h191
  refine pk0 (v := .bool ((0 : Int) == 0 && (0 : Int) == 0 && (0 : Int) == 0 && (0 : Int) == 0)) h192 rfl fun a193 h193 => ?_; clear h192
  have hc194 : ((0 : Int) == 0 && (0 : Int) == 0 && (0 : Int) == 0 && (0 : Int) == 0) = true := by first | rfl | simp
  rw [hc194] at h193; clear hc194
  have hB197 := hb_call hB56 hb58
  have hB198 := hb_call hB197 hb67
  have hB199 := hb_call hB198 hb74
  have hB200 := hb_call hB199 hb81
  have hB201 := hb_call hB200 hb89
  have hB202 := hb_call hB201 hb96
  have hB203 := hb_call hB202 hb104
  have hB204 := hb_call hB203 hb111
  have hB205 := hb_call hB204 hb118
  have hB206 := hb_call hB205 hb124
  have hB207 := hb_call hB206 hb132
  have hB208 := hb_call hB207 hb143
  have hB209 := hb_call hB208 hb149
  have hB210 := hb_call hB209 hb174
  have hB211 := hb_call hB210 hb188
  have hk212 := hk15.below hb24
  have hk213 := hk212.kept hg36 (by simp)
  have hk214 := hk213.below hb47
  have hk215 := hk214.below hb58
  have hk216 := hk215.below hb67
  have hk217 := hk216.below hb74
  have hk218 := hk217.below hb81
  have hk219 := hk218.below hb89
  have hk220 := hk219.below hb96
  have hk221 := hk220.below hb104
  have hk222 := hk221.below hb111
  have hk223 := hk222.below hb118
  have hk224 := hk223.below hb124
  have hk225 := hk224.below hb132
  have hk226 := hk225.below hb143
  have hk227 := hk226.below hb149
  have hk228 := hk227.below hb174
  have hk229 := hk228.below hb188
  refine pw h193 rfl (op_call (args := #[]) (R := fun res xw => res = .bool true ∧ Below w185.heap.size w185 xw) rfl rfl rfl (by kernel_rfl) (by kernel_rfl) (Try.call10 _ _) (awake28 w185) (by rintro e x ⟨rfl, h⟩; exact ⟨_, rfl, rfl, h⟩)) ?_; clear h193
  rintro _ w196 a195 ⟨rfl, hb230⟩ h195
  have hz231 := hb230.size
  refine pk0 (v := .bool true) h195 rfl fun a232 h232 => ?_; clear h195
  refine pk0 (v := .bool true) h232 rfl fun a233 h233 => ?_; clear h232
  refine pl_nil ?_
  refine co_then ?_
  refine wp_ret ?_
  refine co_ret1 h233 rfl rfl ?_
  have hB234 := hb_call hB211 hb230
  exact ⟨rfl, hB234⟩
 ·
  rw [hc27] at h26
  have hp235 : r23 > 20 := of_decide_eq_true hc27
  clear hc27
  refine co_true h26 rfl ?_
  refine co_seq ?_
  refine co_reg ?_
  refine pw h26 rfl (op_call (args := #[]) (R := fun res xw => res = .bool true ∧ Below w20.heap.size w20 xw) rfl rfl rfl (by kernel_rfl) (by kernel_rfl) (Try.call10 _ _) (awake28 w20) (by rintro e x ⟨rfl, h⟩; exact ⟨_, rfl, rfl, h⟩)) ?_; clear h26
  rintro _ w237 a236 ⟨rfl, hb238⟩ h236
  have hz239 := hb238.size
  refine pk0 (v := .bool true) h236 rfl fun a240 h240 => ?_; clear h236
  refine pl_nil ?_
  refine co_then ?_
  refine wp_ret ?_
  refine co_thenR ?_
  refine co_ret1 h240 rfl rfl ?_
  have hB241 := hb_call hB28 hb238
  exact ⟨rfl, hB241⟩

theorem mstateZero_law (y : NoteX) (w : World) (h : NoteOk w y) : Calls Try.prog 5 #[noteV y] w fun e w' => e = .returned (.bool true) ∧ Below w.heap.size w w' :=
  mstateZero_any y.d y.mv y.lv y.ev w h.hm h.hg h.he h.hR

end Go.Proofs.Ytlbemlodcdgakaa
