/- Package lease: first, place. Conditions: none. -/
import Derived.Test.YtfhiciaakgcbnaaLeaB
namespace Go.Proofs.Ytfhiciaakgcbnaa
open Go.RowKit Go.PlainAid
set_option linter.unusedVariables false


/-- What first tells: a pin with the Id, ahead of which there is none; or that there is none. -/
def FirstP (l : List PinT) (id : Int) (p : PinT) (b : Bool) : Prop :=
  (b = true ∧ ∃ i : Nat, l[i]? = some p ∧ p.1 = id ∧ (∀ j, j < i → ∀ z, l[j]? = some z → z.1 ≠ id)) ∨ (b = false ∧ p = (0, 0, 0) ∧ findP l id = -1)

set_option maxRecDepth 100000 in
theorem firstPin_any (v : Value) (l : List PinT) (id : Int) (N : Nat) (w : World) (hs : SliceOf pinE 3 w v l) (hr : w.rangeAt N 0 [.int .i64 id]) :
    Calls Try.prog 80 #[v, .func (.func 81) #[] #[.pointer (some ⟨N, 0, none⟩)]] w fun e w' => ∃ (p : PinT) (b : Bool), e = .returned (.tuple #[.agg #[.int .i64 p.1, .int .u64 p.2.1, .int .i64 p.2.2], .bool b]) ∧ FirstP l id p b ∧ Below w.heap.size w w' := by
  have hB0 := Below.refl w.heap.size w
  have hl_hs := sl_len hs
  refine co_enter (n := 21) Try.func80 rfl rfl rfl [(0, v), (1, .func (.func 81) #[] #[.pointer (some ⟨N, 0, none⟩)])] rfl (fun a h0 => ?_)
  refine co_seq ?_
  refine co_reg ?_
  refine pl_want h0 rfl rfl rfl (op_new (v := fun N => .pointer (some ⟨N, 0, none⟩)) (T := 46) (cs := #[.int .i64 0, .int .u64 0, .int .i64 0]) (by kernel_rfl) (by kernel_rfl) (by kernel_rfl)) ?_; clear h0
  rintro _ w2 a1 ⟨N3, rfl, hN6, hz7, hk5, hg4⟩ h1
  have hB8 := hb_new hB0 hg4
  have hz9 := hB8.size
  have hz10 := hg4.size
  try dsimp only at h1
  refine pl_val (v := .bool false) h1 rfl rfl rfl (by kernel_rfl) (by kernel_rfl) (by kernel_rfl) (fun a11 h11 => ?_); clear h1
  refine pl_nil ?_
  refine co_then ?_
  refine co_seq ?_
  refine co_seq ?_
  refine co_reg ?_
  refine pl_val (v := v) h11 rfl rfl rfl (by kernel_rfl) (by kernel_rfl) (by kernel_rfl) (fun a12 h12 => ?_); clear h11
  refine pl_val (v := .int .i64 ((l.length : Nat) : Int)) h12 rfl rfl rfl (by kernel_rfl) (by kernel_rfl) (rn_len rfl rfl Try.underlying77 (hs.below hB8)) (fun a13 h13 => ?_); clear h12
  refine pl_val (v := .int .i64 0) h13 rfl rfl rfl (by kernel_rfl) (by kernel_rfl) (by kernel_rfl) (fun a14 h14 => ?_); clear h13
  refine pl_nil ?_
  refine co_then ?_
  refine wp_block ?_
  have h15 : Slots 21 [(0, v), (1, .func (.func 81) #[] #[.pointer (some ⟨N, 0, none⟩)]), (4, .pointer (some ⟨N3, 0, none⟩)), (5, .bool false), (9, v), (10, .int .i64 ((l.length : Nat) : Int)), (11, .int .i64 0)] _ := h14.sub ⟨rfl, rfl, rfl, rfl, rfl, rfl, rfl, trivial⟩; clear h14
  refine co_loop (fun mm a x => ∃ (i : Nat), Slots 21 [(0, v), (1, .func (.func 81) #[] #[.pointer (some ⟨N, 0, none⟩)]), (4, .pointer (some ⟨N3, 0, none⟩)), (5, .bool false), (9, v), (10, .int .i64 ((l.length : Nat) : Int)), (11, .int .i64 ((i : Nat) : Int))] a ∧ mm = l.length - i ∧ (i ≤ l.length) ∧ (∀ j, j < i → ∀ z, l[j]? = some z → z.1 ≠ id) ∧ Below w.heap.size w x ∧ Blk x N3 46 #[.int .i64 0, .int .u64 0, .int .i64 0]) (l.length - 0) ?_ ?_
  · exact ⟨0, h15.sub ⟨rfl, rfl, rfl, rfl, rfl, rfl, (slot_eq rfl (congrArg (Value.int .i64) (by first | rfl | omega))), trivial⟩, rfl, by omega, by first | (intro j hj; omega) | exact none_step (by assumption) (by assumption) (by omega), hB8, hk5⟩
  · rintro k16 a17 w18 ⟨i, h17, rfl, hi19, hi20, hB21, hk22⟩
    have hz23 := hB21.size
    have hl24 := hk22.lt
    refine co_seq ?_
    refine co_reg ?_
    refine pl_val (v := .bool (decide (((i : Nat) : Int) < ((l.length : Nat) : Int)))) h17 rfl rfl rfl (by kernel_rfl) (by kernel_rfl) (by kernel_rfl) (fun a25 h25 => ?_); clear h17
    refine pl_nil ?_
    refine co_then ?_
    refine co_seq ?_
    cases hc26 : (decide (((i : Nat) : Int) < ((l.length : Nat) : Int)))
    ·
      rw [hc26] at h25
      have hp27 : ¬ (((i : Nat) : Int) < ((l.length : Nat) : Int)) := of_decide_eq_false hc26
      clear hc26
      refine co_false h25 rfl ?_
      refine wp_exit ?_
      refine co_thenX ?_
      refine co_thenX ?_
      refine co_blockX ?_
      refine co_then ?_
      refine co_seq ?_
      refine co_reg ?_
      refine pl_want h25 rfl rfl rfl (op_new (v := fun N => .pointer (some ⟨N, 0, none⟩)) (T := 46) (cs := #[.int .i64 0, .int .u64 0, .int .i64 0]) (by kernel_rfl) (by kernel_rfl) (by kernel_rfl)) ?_; clear h25
      rintro _ w29 a28 ⟨N30, rfl, hN33, hz34, hk32, hg31⟩ h28
      have hB35 := hb_new hB21 hg31
      have hz36 := hB35.size
      have hz37 := hg31.size
      have hk38 := hk22.kept hg31 (by simp)
      try dsimp only at h28
      refine pl_nil ?_
      refine co_then ?_
      refine co_seq ?_
      refine co_reg ?_
      refine pl_val (v := .agg #[.int .i64 0, .int .u64 0, .int .i64 0]) h28 rfl rfl rfl (by kernel_rfl) (by kernel_rfl) (rn_loadN rfl rfl Try.underlying46 rfl (by kernel_rfl) hk32.all) (fun a39 h39 => ?_); clear h28
      refine pl_doW h39 rfl rfl (op_storeN rfl rfl rfl (by kernel_rfl) (by kernel_rfl) hk38 rfl) ?_; clear h39
      rintro _ w41 a40 ⟨hk42, hz43, hg44⟩ h40
      have hk42' : Blk w41 N3 46 #[.int .i64 0, .int .u64 0, .int .i64 0] := hk42; clear hk42
      have hB45 := hb_at hB35 hg44 (by omega)
      have hz46 := hB45.size
      have hz47 := hg44.size
      have hk48 := hk32.kept hg44 (by simp; omega)
      refine pl_val (v := .bool false) h40 rfl rfl rfl (by kernel_rfl) (by kernel_rfl) (by kernel_rfl) (fun a49 h49 => ?_); clear h40
      refine pl_nil ?_
      refine co_then ?_
      refine wp_ret ?_
      refine co_retC1 (Q := fun _ _ _ => True) h49 rfl rfl rfl hk42' Try.underlying46 rfl (by kernel_rfl) ?_
      exact ⟨(0, 0, 0), false, rfl, .inr ⟨rfl, rfl, findP_none (i := i) (by assumption) (by omega)⟩, hB45⟩
    ·
      rw [hc26] at h25
      have hp50 : ((i : Nat) : Int) < ((l.length : Nat) : Int) := of_decide_eq_true hc26
      clear hc26
      refine co_true h25 rfl ?_
      refine wp_skip ?_
      refine co_then ?_
      refine co_seq ?_
      refine wp_block ?_
      refine co_seq ?_
      refine co_reg ?_
      obtain ⟨y51, hy51⟩ : ∃ z, l[i]? = some z := ⟨_, List.getElem?_eq_getElem (by first | omega | (simp; done) | (simp; omega))⟩
      refine pl_val (v := .pointer (some ⟨(blkOf v), offOf v + i * 3, none⟩)) h25 rfl rfl rfl (by kernel_rfl) (by kernel_rfl) (rn_index rfl rfl rfl Try.underlying77 Try.sizeOf46 (hs.below hB21) (by omega) (by first | omega | (simp; done) | (simp; omega))) (fun a52 h52 => ?_); clear h25
      refine pl_val (v := .agg #[.int .i64 y51.1, .int .u64 y51.2.1, .int .i64 y51.2.2]) h52 rfl rfl rfl (by kernel_rfl) (by kernel_rfl) (rn_loadN rfl rfl Try.underlying46 rfl (by kernel_rfl) (sl_at (hs.below hB21) hy51)) (fun a53 h53 => ?_); clear h52
      refine pl_want h53 rfl rfl rfl (op_new (v := fun N => .pointer (some ⟨N, 0, none⟩)) (T := 46) (cs := #[.int .i64 0, .int .u64 0, .int .i64 0]) (by kernel_rfl) (by kernel_rfl) (by kernel_rfl)) ?_; clear h53
      rintro _ w55 a54 ⟨N56, rfl, hN59, hz60, hk58, hg57⟩ h54
      have hB61 := hb_new hB21 hg57
      have hz62 := hB61.size
      have hz63 := hg57.size
      have hk64 := hk22.kept hg57 (by simp)
      try dsimp only at h54
      refine pl_doW h54 rfl rfl (op_storeN rfl rfl rfl (by kernel_rfl) (by kernel_rfl) hk58 rfl) ?_; clear h54
      rintro _ w66 a65 ⟨hk67, hz68, hg69⟩ h65
      have hk67' : Blk w66 N56 46 #[.int .i64 y51.1, .int .u64 y51.2.1, .int .i64 y51.2.2] := hk67; clear hk67
      have hB70 := hb_at hB61 hg69 (by omega)
      have hz71 := hB70.size
      have hz72 := hg69.size
      have hk73 := hk64.kept hg69 (by simp; omega)
      refine pl_nil ?_
      refine co_then ?_
      refine co_seq ?_
      refine co_reg ?_
      refine pl_val (v := .func (.func 81) #[] #[.pointer (some ⟨N, 0, none⟩)]) h65 rfl rfl rfl (by kernel_rfl) (by kernel_rfl) (by kernel_rfl) (fun a74 h74 => ?_); clear h65
      refine pl_val (v := .agg #[.int .i64 y51.1, .int .u64 y51.2.1, .int .i64 y51.2.2]) h74 rfl rfl rfl (by kernel_rfl) (by kernel_rfl) (rn_loadN rfl rfl Try.underlying46 rfl (by kernel_rfl) hk67'.all) (fun a75 h75 => ?_); clear h74
      refine pl_want h75 rfl rfl rfl (op_callV (args := #[.agg #[.int .i64 y51.1, .int .u64 y51.2.1, .int .i64 y51.2.2], .pointer (some ⟨N, 0, none⟩)]) (R := fun res xw => res = .bool (y51.1 == id) ∧ Below w66.heap.size w66 xw) rfl rfl rfl (by kernel_rfl) (by kernel_rfl) (Try.call81 _ _) (placeC_any y51 id N w66 (range_below hr hB70)) (by rintro e x ⟨rfl, hb78⟩; exact ⟨_, rfl, ⟨rfl, hb78⟩⟩)) ?_; clear h75
      rintro _ w77 a76 ⟨rfl, hb78⟩ h76
      have hB79 := hb_call hB70 hb78
      have hz80 := hB79.size
      have hz81 := hb78.size
      have hk82 := hk73.below hb78
      have hk83 := hk67'.below hb78
      refine pl_nil ?_
      refine co_then ?_
      cases hc84 : (y51.1 == id)
      ·
        rw [hc84] at h76
        have hp85 : ¬ (y51.1 = id) := by first | simpa using hc84 | simpa [and_assoc] using hc84
        clear hc84
        refine co_false h76 rfl ?_
        refine wp_skip ?_
        refine co_blockN ?_
        refine co_then ?_
        refine co_reg ?_
        refine pl_val (v := .int .i64 ((i + 1 : Nat) : Int)) h76 rfl rfl rfl (by kernel_rfl) (by kernel_rfl) (rn_arith' rfl rfl rfl rfl rfl rfl (IntWalk.i64_in _ (by omega)) (by omega)) (fun a86 h86 => ?_); clear h76
        refine pl_val (v := .int .i64 ((i + 1 : Nat) : Int)) h86 rfl rfl rfl (by kernel_rfl) (by kernel_rfl) (by kernel_rfl) (fun a87 h87 => ?_); clear h86
        refine pl_nil ?_
        refine co_then ?_
        refine ⟨(l.length - (i + 1)), by omega, ?_⟩
        exact ⟨i + 1, h87.sub ⟨rfl, rfl, rfl, rfl, rfl, rfl, rfl, trivial⟩, rfl, by omega, by first | (intro j hj; omega) | exact none_step (by assumption) (by assumption) (by omega), hB79, hk82⟩
      ·
        rw [hc84] at h76
        have hp88 : y51.1 = id := by first | simpa using hc84 | simpa [and_assoc] using hc84
        clear hc84
        refine co_true h76 rfl ?_
        refine co_seq ?_
        refine co_reg ?_
        refine pl_val (v := .agg #[.int .i64 y51.1, .int .u64 y51.2.1, .int .i64 y51.2.2]) h76 rfl rfl rfl (by kernel_rfl) (by kernel_rfl) (rn_loadN rfl rfl Try.underlying46 rfl (by kernel_rfl) hk83.all) (fun a89 h89 => ?_); clear h76
        refine pl_doW h89 rfl rfl (op_storeN rfl rfl rfl (by kernel_rfl) (by kernel_rfl) hk82 rfl) ?_; clear h89
        rintro _ w91 a90 ⟨hk92, hz93, hg94⟩ h90
        have hk92' : Blk w91 N3 46 #[.int .i64 y51.1, .int .u64 y51.2.1, .int .i64 y51.2.2] := hk92; clear hk92
        have hB95 := hb_at hB79 hg94 (by omega)
        have hz96 := hB95.size
        have hz97 := hg94.size
        have hk98 := hk83.kept hg94 (by simp; omega)
        refine pl_val (v := .bool true) h90 rfl rfl rfl (by kernel_rfl) (by kernel_rfl) (by kernel_rfl) (fun a99 h99 => ?_); clear h90
        refine pl_nil ?_
        refine co_then ?_
        refine wp_ret ?_
        refine co_blockR ?_
        refine co_thenR ?_
        refine co_thenR ?_
        refine co_blockR ?_
        refine co_thenR ?_
        refine co_retC1 (Q := fun _ _ _ => True) h99 rfl rfl rfl hk92' Try.underlying46 rfl (by kernel_rfl) ?_
        exact ⟨y51, true, rfl, .inl ⟨rfl, i, by assumption, by assumption, by assumption⟩, hB95⟩
set_option maxRecDepth 100000 in
theorem place_any (v : Value) (l : List PinT) (id : Int) (w : World) (hs : SliceOf pinE 3 w v l) :
    Calls Try.prog 67 #[v, .int .i64 id] w fun e w' => e = .returned (.int .i64 (findP l id)) ∧ Below w.heap.size w w' := by
  have hB0 := Below.refl w.heap.size w
  have hl_hs := sl_len hs
  refine co_enter (n := 18) Try.func67 rfl rfl rfl [(0, v), (1, .int .i64 id)] rfl (fun a h0 => ?_)
  refine co_seq ?_
  refine co_reg ?_
  refine pl_want h0 rfl rfl rfl (op_new (v := fun N => .pointer (some ⟨N, 0, none⟩)) (T := 3) (cs := #[.int .i64 id]) (by kernel_rfl) (by kernel_rfl) (by kernel_rfl)) ?_; clear h0
  rintro _ w2 a1 ⟨N3, rfl, hN6, hz7, hk5, hg4⟩ h1
  have hB8 := hb_new hB0 hg4
  have hz9 := hB8.size
  have hz10 := hg4.size
  try dsimp only at h1
  refine pl_val (v := .int .i64 0) h1 rfl rfl rfl (by kernel_rfl) (by kernel_rfl) (by kernel_rfl) (fun a11 h11 => ?_); clear h1
  refine pl_nil ?_
  refine co_then ?_
  refine co_seq ?_
  refine co_reg ?_
  refine pl_val (v := v) h11 rfl rfl rfl (by kernel_rfl) (by kernel_rfl) (by kernel_rfl) (fun a12 h12 => ?_); clear h11
  refine pl_val (v := .func (.func 81) #[] #[.pointer (some ⟨N3, 0, none⟩)]) h12 rfl rfl rfl (by kernel_rfl) (by kernel_rfl) (by kernel_rfl) (fun a13 h13 => ?_); clear h12
  refine pl_want h13 rfl rfl rfl (op_call (args := #[v, .func (.func 81) #[] #[.pointer (some ⟨N3, 0, none⟩)]]) (R := fun res xw => ∃ p : PinT, ∃ b : Bool, res = .tuple #[.agg #[.int .i64 p.1, .int .u64 p.2.1, .int .i64 p.2.2], .bool b] ∧ FirstP l id p b ∧ Below w2.heap.size w2 xw) rfl rfl rfl (by kernel_rfl) (by kernel_rfl) (Try.call80 _ _) (firstPin_any v l id N3 w2 (hs.below hB8) (blk_part hk5 0 rfl)) (by rintro e x ⟨p, b, rfl, hq18, hb19⟩; exact ⟨_, rfl, ⟨p, b, rfl, hq18, hb19⟩⟩)) ?_; clear h13
  rintro _ w15 a14 ⟨p16, b17, rfl, hq18, hb19⟩ h14
  have hB20 := hb_call hB8 hb19
  have hz21 := hB20.size
  have hz22 := hb19.size
  have hk23 := hk5.below hb19
  refine pl_val (v := .tuple #[.agg #[.int .i64 p16.1, .int .u64 p16.2.1, .int .i64 p16.2.2], .bool b17]) h14 rfl rfl rfl (by kernel_rfl) (by kernel_rfl) (by kernel_rfl) (fun a24 h24 => ?_); clear h14
  refine pl_val (v := .agg #[.int .i64 p16.1, .int .u64 p16.2.1, .int .i64 p16.2.2]) h24 rfl rfl rfl (by kernel_rfl) (by kernel_rfl) (by kernel_rfl) (fun a25 h25 => ?_); clear h24
  refine pl_val (v := .bool b17) h25 rfl rfl rfl (by kernel_rfl) (by kernel_rfl) (by kernel_rfl) (fun a26 h26 => ?_); clear h25
  refine pl_want h26 rfl rfl rfl (op_new (v := fun N => .pointer (some ⟨N, 0, none⟩)) (T := 46) (cs := #[.int .i64 0, .int .u64 0, .int .i64 0]) (by kernel_rfl) (by kernel_rfl) (by kernel_rfl)) ?_; clear h26
  rintro _ w28 a27 ⟨N29, rfl, hN32, hz33, hk31, hg30⟩ h27
  have hB34 := hb_new hB20 hg30
  have hz35 := hB34.size
  have hz36 := hg30.size
  have hk37 := hk23.kept hg30 (by simp)
  try dsimp only at h27
  refine pl_doW h27 rfl rfl (op_storeN rfl rfl rfl (by kernel_rfl) (by kernel_rfl) hk31 rfl) ?_; clear h27
  rintro _ w39 a38 ⟨hk40, hz41, hg42⟩ h38
  have hk40' : Blk w39 N29 46 #[.int .i64 p16.1, .int .u64 p16.2.1, .int .i64 p16.2.2] := hk40; clear hk40
  have hB43 := hb_at hB34 hg42 (by omega)
  have hz44 := hB43.size
  have hz45 := hg42.size
  have hk46 := hk37.kept hg42 (by simp; omega)
  refine pl_val (v := .bool b17) h38 rfl rfl rfl (by kernel_rfl) (by kernel_rfl) (by kernel_rfl) (fun a47 h47 => ?_); clear h38
  refine pl_nil ?_
  refine co_then ?_
  refine co_seq ?_
  refine co_seq ?_
  refine co_reg ?_
  refine pl_val (v := .bool b17) h47 rfl rfl rfl (by kernel_rfl) (by kernel_rfl) (by kernel_rfl) (fun a48 h48 => ?_); clear h47
  cases hc49 : (b17)
  ·
    rw [hc49] at h48
    refine pl_val (v := .bool true) h48 rfl rfl rfl (by kernel_rfl) (by kernel_rfl) (by kernel_rfl) (fun a50 h50 => ?_); clear h48
    refine pl_nil ?_
    refine co_then ?_
    refine co_true h50 rfl ?_
    refine co_seq ?_
    refine co_reg ?_
    refine pl_val (v := .int .i64 (-1)) h50 rfl rfl rfl (by kernel_rfl) (by kernel_rfl) (by kernel_rfl) (fun a51 h51 => ?_); clear h50
    refine pl_nil ?_
    refine co_then ?_
    refine wp_ret ?_
    refine co_thenR ?_
    refine co_ret1 h51 rfl rfl ?_
    rcases hq18 with ⟨hb0, _⟩ | ⟨_, _, hf0⟩
    · rw [hb0] at hc49; cases hc49
    · exact ⟨ret_int hf0.symm, hB43⟩
  ·
    rw [hc49] at h48
    refine pl_val (v := .bool false) h48 rfl rfl rfl (by kernel_rfl) (by kernel_rfl) (by kernel_rfl) (fun a52 h52 => ?_); clear h48
    refine pl_nil ?_
    refine co_then ?_
    refine co_false h52 rfl ?_
    refine wp_skip ?_
    refine co_then ?_
    refine co_seq ?_
    refine co_reg ?_
    refine pl_val (v := v) h52 rfl rfl rfl (by kernel_rfl) (by kernel_rfl) (by kernel_rfl) (fun a53 h53 => ?_); clear h52
    refine pl_val (v := .agg #[.int .i64 p16.1, .int .u64 p16.2.1, .int .i64 p16.2.2]) h53 rfl rfl rfl (by kernel_rfl) (by kernel_rfl) (rn_loadN rfl rfl Try.underlying46 rfl (by kernel_rfl) hk40'.all) (fun a54 h54 => ?_); clear h53
    rcases hq18 with ⟨_, i0, hi0, hp0, hn0⟩ | ⟨hb0, _⟩
    rotate_left
    · rw [hb0] at hc49; cases hc49
    refine pl_want h54 rfl rfl rfl (op_call (args := #[v, .agg #[.int .i64 p16.1, .int .u64 p16.2.1, .int .i64 p16.2.2]]) (R := fun res xw => res = .int .i64 ((i0 : Nat) : Int) ∧ Below w39.heap.size w39 xw) rfl rfl rfl (by kernel_rfl) (by kernel_rfl) (Try.call82 _ _) (indexPin_any v l p16 i0 w39 (hs.below hB43) hi0 (by rw [hp0]; exact hn0)) (by rintro e x ⟨rfl, hb57⟩; exact ⟨_, rfl, ⟨rfl, hb57⟩⟩)) ?_; clear h54
    rintro _ w56 a55 ⟨rfl, hb57⟩ h55
    have hB58 := hb_call hB43 hb57
    have hz59 := hB58.size
    have hz60 := hb57.size
    have hk61 := hk46.below hb57
    have hk62 := hk40'.below hb57
    refine pl_val (v := .int .i64 ((i0 : Nat) : Int)) h55 rfl rfl rfl (by kernel_rfl) (by kernel_rfl) (by kernel_rfl) (fun a63 h63 => ?_); clear h55
    refine pl_nil ?_
    refine co_then ?_
    refine wp_ret ?_
    refine co_ret1 h63 rfl rfl ?_
    exact ⟨ret_int (by rw [findP_at hn0 hi0 hp0]), hB58⟩
end Go.Proofs.Ytfhiciaakgcbnaa
