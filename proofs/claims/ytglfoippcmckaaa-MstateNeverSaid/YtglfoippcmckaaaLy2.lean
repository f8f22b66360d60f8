/- Put together: LeaCLx, LeaDLx, LeaELx, FootLx, GoLx, MstALx, MstBLx, MstCLx, MstFLx, ApMkLx, MstHLx, MstILx, SortILx, CptILx, MstJLx, MstKLx. Conditions: as each says. -/
import Derived.Test.YtglfoippcmckaaaLy1
import Derived.LoopN
import Derived.Deep.AppendSrc
import Derived.Laws.AppendOwn
import Derived.Shelf.Sort.Plain
import Derived.Test.YtglfoippcmckaaaLayI
import Derived.Shelf.Slices.CompactI
import Derived.Test.YtglfoippcmckaaaLayC
/- Package lease: first, place. Conditions: none. -/
namespace Go.Proofs.Ytglfoippcmckaaa
open Go.RowKit Go.PlainAid
set_option linter.unusedVariables false


/-- What first tells: a pin with the Id, ahead of which there is none; or that there is none. -/
def FirstP (l : List PinT) (id : Int) (p : PinT) (b : Bool) : Prop :=
  (b = true ∧ ∃ i : Nat, l[i]? = some p ∧ p.1 = id ∧ (∀ j, j < i → ∀ z, l[j]? = some z → z.1 ≠ id)) ∨ (b = false ∧ p = (0, 0, 0) ∧ findP l id = -1)

set_option maxRecDepth 100000 in
theorem firstPin_any (v : Value) (l : List PinT) (id : Int) (N : Nat) (w : World) (hs : SliceOf pinE 3 w v l) (hr : w.rangeAt N 0 [.int .i64 id]) :
    Calls Try.prog 77 #[v, .func (.func 78) #[] #[.pointer (some ⟨N, 0, none⟩)]] w fun e w' => ∃ (p : PinT) (b : Bool), e = .returned (.tuple #[.agg #[.int .i64 p.1, .int .u64 p.2.1, .int .i64 p.2.2], .bool b]) ∧ FirstP l id p b ∧ Below w.heap.size w w' := by
  have hB0 := Below.refl w.heap.size w
  have hl_hs := sl_len hs
  refine co_enter (n := 21) Try.func77 rfl rfl rfl [(0, v), (1, .func (.func 78) #[] #[.pointer (some ⟨N, 0, none⟩)])] rfl (fun a h0 => ?_)
  refine co_seq ?_
  refine co_reg ?_
  refine pl_want h0 rfl rfl rfl (op_new (v := fun N => .pointer (some ⟨N, 0, none⟩)) (T := 44) (cs := #[.int .i64 0, .int .u64 0, .int .i64 0]) (by kernel_rfl) (by kernel_rfl) (by kernel_rfl)) ?_; clear h0
  rintro _ w2 a1 ⟨N3, rfl, hN6, hz7, hk5, hg4⟩ h1
  have hB8 := hb_new hB0 hg4
  have hz9 := hB8.size
  have hz10 := hg4.size
  try dsimp only at h1
  refine pl_val (v := .bool false) h1 rfl rfl rfl (by kernel_rfl) (by kernel_rfl) (by kernel_rfl) (fun a11 h11 => ?_); clear h1
  refine pl_nil ?_
  refine co_then ?_
  refine co_seq ?_
  refine co_seq ?_
  refine co_reg ?_
  refine pl_val (v := v) h11 rfl rfl rfl (by kernel_rfl) (by kernel_rfl) (by kernel_rfl) (fun a12 h12 => ?_); clear h11
  refine pl_val (v := .int .i64 ((l.length : Nat) : Int)) h12 rfl rfl rfl (by kernel_rfl) (by kernel_rfl) (rn_len rfl rfl Try.underlying33 (hs.below hB8)) (fun a13 h13 => ?_); clear h12
  refine pl_val (v := .int .i64 0) h13 rfl rfl rfl (by kernel_rfl) (by kernel_rfl) (by kernel_rfl) (fun a14 h14 => ?_); clear h13
  refine pl_nil ?_
  refine co_then ?_
  refine wp_block ?_
  have h15 : Slots 21 [(0, v), (1, .func (.func 78) #[] #[.pointer (some ⟨N, 0, none⟩)]), (4, .pointer (some ⟨N3, 0, none⟩)), (5, .bool false), (9, v), (10, .int .i64 ((l.length : Nat) : Int)), (11, .int .i64 0)] _ := h14.sub ⟨rfl, rfl, rfl, rfl, rfl, rfl, rfl, trivial⟩; clear h14
  refine co_loop (fun mm a x => ∃ (i : Nat), Slots 21 [(0, v), (1, .func (.func 78) #[] #[.pointer (some ⟨N, 0, none⟩)]), (4, .pointer (some ⟨N3, 0, none⟩)), (5, .bool false), (9, v), (10, .int .i64 ((l.length : Nat) : Int)), (11, .int .i64 ((i : Nat) : Int))] a ∧ mm = l.length - i ∧ (i ≤ l.length) ∧ (∀ j, j < i → ∀ z, l[j]? = some z → z.1 ≠ id) ∧ Below w.heap.size w x ∧ Blk x N3 44 #[.int .i64 0, .int .u64 0, .int .i64 0]) (l.length - 0) ?_ ?_
  · exact ⟨0, h15.sub ⟨rfl, rfl, rfl, rfl, rfl, rfl, (slot_eq rfl (congrArg (Value.int .i64) (by first | rfl | omega))), trivial⟩, rfl, by omega, by first | (intro j hj; omega) | exact none_step (by assumption) (by assumption) (by omega), hB8, hk5⟩
  · rintro k16 a17 w18 ⟨i, h17, rfl, hi19, hi20, hB21, hk22⟩
    have hz23 := hB21.size
    have hl24 := hk22.lt
    refine co_seq ?_
    refine co_reg ?_
    refine pl_val (v := .bool (decide (((i : Nat) : Int) < ((l.length : Nat) : Int)))) h17 rfl rfl rfl (by kernel_rfl) (by kernel_rfl) (by kernel_rfl) (fun a25 h25 => ?_); clear h17
    refine pl_nil ?_
    refine co_then ?_
    refine co_seq ?_
    cases hc26 : (decide (((i : Nat) : Int) < ((l.length : Nat) : Int)))
    ·
      rw [hc26] at h25
      have hp27 : ¬ (((i : Nat) : Int) < ((l.length : Nat) : Int)) := of_decide_eq_false hc26
      clear hc26
      refine co_false h25 rfl ?_
      refine wp_exit ?_
      refine co_thenX ?_
      refine co_thenX ?_
      refine co_blockX ?_
      refine co_then ?_
      refine co_seq ?_
      refine co_reg ?_
      refine pl_want h25 rfl rfl rfl (op_new (v := fun N => .pointer (some ⟨N, 0, none⟩)) (T := 44) (cs := #[.int .i64 0, .int .u64 0, .int .i64 0]) (by kernel_rfl) (by kernel_rfl) (by kernel_rfl)) ?_; clear h25
      rintro _ w29 a28 ⟨N30, rfl, hN33, hz34, hk32, hg31⟩ h28
      have hB35 := hb_new hB21 hg31
      have hz36 := hB35.size
      have hz37 := hg31.size
      have hk38 := hk22.kept hg31 (by simp)
      try dsimp only at h28
      refine pl_nil ?_
      refine co_then ?_
      refine co_seq ?_
      refine co_reg ?_
      refine pl_val (v := .agg #[.int .i64 0, .int .u64 0, .int .i64 0]) h28 rfl rfl rfl (by kernel_rfl) (by kernel_rfl) (rn_loadN rfl rfl Try.underlying44 rfl (by kernel_rfl) hk32.all) (fun a39 h39 => ?_); clear h28
      refine pl_doW h39 rfl rfl (op_storeN rfl rfl rfl (by kernel_rfl) (by kernel_rfl) hk38 rfl) ?_; clear h39
      rintro _ w41 a40 ⟨hk42, hz43, hg44⟩ h40
      have hk42' : Blk w41 N3 44 #[.int .i64 0, .int .u64 0, .int .i64 0] := hk42; clear hk42
      have hB45 := hb_at hB35 hg44 (by omega)
      have hz46 := hB45.size
      have hz47 := hg44.size
      have hk48 := hk32.kept hg44 (by simp; omega)
      refine pl_val (v := .bool false) h40 rfl rfl rfl (by kernel_rfl) (by kernel_rfl) (by kernel_rfl) (fun a49 h49 => ?_); clear h40
      refine pl_nil ?_
      refine co_then ?_
      refine wp_ret ?_
      refine co_retC1 (Q := fun _ _ _ => True) h49 rfl rfl rfl hk42' Try.underlying44 rfl (by kernel_rfl) ?_
      exact ⟨(0, 0, 0), false, rfl, .inr ⟨rfl, rfl, findP_none (i := i) (by assumption) (by omega)⟩, hB45⟩
    ·
      rw [hc26] at h25
      have hp50 : ((i : Nat) : Int) < ((l.length : Nat) : Int) := of_decide_eq_true hc26
      clear hc26
      refine co_true h25 rfl ?_
      refine wp_skip ?_
      refine co_then ?_
      refine co_seq ?_
      refine wp_block ?_
      refine co_seq ?_
      refine co_reg ?_
      obtain ⟨y51, hy51⟩ : ∃ z, l[i]? = some z := ⟨_, List.getElem?_eq_getElem (by first | omega | (simp; done) | (simp; omega))⟩
      refine pl_val (v := .pointer (some ⟨(blkOf v), offOf v + i * 3, none⟩)) h25 rfl rfl rfl (by kernel_rfl) (by kernel_rfl) (rn_index rfl rfl rfl Try.underlying33 Try.sizeOf44 (hs.below hB21) (by omega) (by first | omega | (simp; done) | (simp; omega))) (fun a52 h52 => ?_); clear h25
      refine pl_val (v := .agg #[.int .i64 y51.1, .int .u64 y51.2.1, .int .i64 y51.2.2]) h52 rfl rfl rfl (by kernel_rfl) (by kernel_rfl) (rn_loadN rfl rfl Try.underlying44 rfl (by kernel_rfl) (sl_at (hs.below hB21) hy51)) (fun a53 h53 => ?_); clear h52
      refine pl_want h53 rfl rfl rfl (op_new (v := fun N => .pointer (some ⟨N, 0, none⟩)) (T := 44) (cs := #[.int .i64 0, .int .u64 0, .int .i64 0]) (by kernel_rfl) (by kernel_rfl) (by kernel_rfl)) ?_; clear h53
      rintro _ w55 a54 ⟨N56, rfl, hN59, hz60, hk58, hg57⟩ h54
      have hB61 := hb_new hB21 hg57
      have hz62 := hB61.size
      have hz63 := hg57.size
      have hk64 := hk22.kept hg57 (by simp)
      try dsimp only at h54
      refine pl_doW h54 rfl rfl (op_storeN rfl rfl rfl (by kernel_rfl) (by kernel_rfl) hk58 rfl) ?_; clear h54
      rintro _ w66 a65 ⟨hk67, hz68, hg69⟩ h65
      have hk67' : Blk w66 N56 44 #[.int .i64 y51.1, .int .u64 y51.2.1, .int .i64 y51.2.2] := hk67; clear hk67
      have hB70 := hb_at hB61 hg69 (by omega)
      have hz71 := hB70.size
      have hz72 := hg69.size
      have hk73 := hk64.kept hg69 (by simp; omega)
      refine pl_nil ?_
      refine co_then ?_
      refine co_seq ?_
      refine co_reg ?_
      refine pl_val (v := .func (.func 78) #[] #[.pointer (some ⟨N, 0, none⟩)]) h65 rfl rfl rfl (by kernel_rfl) (by kernel_rfl) (by kernel_rfl) (fun a74 h74 => ?_); clear h65
      refine pl_val (v := .agg #[.int .i64 y51.1, .int .u64 y51.2.1, .int .i64 y51.2.2]) h74 rfl rfl rfl (by kernel_rfl) (by kernel_rfl) (rn_loadN rfl rfl Try.underlying44 rfl (by kernel_rfl) hk67'.all) (fun a75 h75 => ?_); clear h74
      refine pl_want h75 rfl rfl rfl (op_callV (args := #[.agg #[.int .i64 y51.1, .int .u64 y51.2.1, .int .i64 y51.2.2], .pointer (some ⟨N, 0, none⟩)]) (R := fun res xw => res = .bool (y51.1 == id) ∧ Below w66.heap.size w66 xw) rfl rfl rfl (by kernel_rfl) (by kernel_rfl) (Try.call78 _ _) (placeC_any y51 id N w66 (range_below hr hB70)) (by rintro e x ⟨rfl, hb78⟩; exact ⟨_, rfl, ⟨rfl, hb78⟩⟩)) ?_; clear h75
      rintro _ w77 a76 ⟨rfl, hb78⟩ h76
      have hB79 := hb_call hB70 hb78
      have hz80 := hB79.size
      have hz81 := hb78.size
      have hk82 := hk73.below hb78
      have hk83 := hk67'.below hb78
      refine pl_nil ?_
      refine co_then ?_
      cases hc84 : (y51.1 == id)
      ·
        rw [hc84] at h76
        have hp85 : ¬ (y51.1 = id) := by first | simpa using hc84 | simpa [and_assoc] using hc84
        clear hc84
        refine co_false h76 rfl ?_
        refine wp_skip ?_
        refine co_blockN ?_
        refine co_then ?_
        refine co_reg ?_
        refine pl_val (v := .int .i64 ((i + 1 : Nat) : Int)) h76 rfl rfl rfl (by kernel_rfl) (by kernel_rfl) (rn_arith' rfl rfl rfl rfl rfl rfl (IntWalk.i64_in _ (by omega)) (by omega)) (fun a86 h86 => ?_); clear h76
        refine pl_val (v := .int .i64 ((i + 1 : Nat) : Int)) h86 rfl rfl rfl (by kernel_rfl) (by kernel_rfl) (by kernel_rfl) (fun a87 h87 => ?_); clear h86
        refine pl_nil ?_
        refine co_then ?_
        refine ⟨(l.length - (i + 1)), by omega, ?_⟩
        exact ⟨i + 1, h87.sub ⟨rfl, rfl, rfl, rfl, rfl, rfl, rfl, trivial⟩, rfl, by omega, by first | (intro j hj; omega) | exact none_step (by assumption) (by assumption) (by omega), hB79, hk82⟩
      ·
        rw [hc84] at h76
        have hp88 : y51.1 = id := by first | simpa using hc84 | simpa [and_assoc] using hc84
        clear hc84
        refine co_true h76 rfl ?_
        refine co_seq ?_
        refine co_reg ?_
        refine pl_val (v := .agg #[.int .i64 y51.1, .int .u64 y51.2.1, .int .i64 y51.2.2]) h76 rfl rfl rfl (by kernel_rfl) (by kernel_rfl) (rn_loadN rfl rfl Try.underlying44 rfl (by kernel_rfl) hk83.all) (fun a89 h89 => ?_); clear h76
        refine pl_doW h89 rfl rfl (op_storeN rfl rfl rfl (by kernel_rfl) (by kernel_rfl) hk82 rfl) ?_; clear h89
        rintro _ w91 a90 ⟨hk92, hz93, hg94⟩ h90
        have hk92' : Blk w91 N3 44 #[.int .i64 y51.1, .int .u64 y51.2.1, .int .i64 y51.2.2] := hk92; clear hk92
        have hB95 := hb_at hB79 hg94 (by omega)
        have hz96 := hB95.size
        have hz97 := hg94.size
        have hk98 := hk83.kept hg94 (by simp; omega)
        refine pl_val (v := .bool true) h90 rfl rfl rfl (by kernel_rfl) (by kernel_rfl) (by kernel_rfl) (fun a99 h99 => ?_); clear h90
        refine pl_nil ?_
        refine co_then ?_
        refine wp_ret ?_
        refine co_blockR ?_
        refine co_thenR ?_
        refine co_thenR ?_
        refine co_blockR ?_
        refine co_thenR ?_
        refine co_retC1 (Q := fun _ _ _ => True) h99 rfl rfl rfl hk92' Try.underlying44 rfl (by kernel_rfl) ?_
        exact ⟨y51, true, rfl, .inl ⟨rfl, i, by assumption, by assumption, by assumption⟩, hB95⟩
set_option maxRecDepth 100000 in
theorem place_any (v : Value) (l : List PinT) (id : Int) (w : World) (hs : SliceOf pinE 3 w v l) :
    Calls Try.prog 55 #[v, .int .i64 id] w fun e w' => e = .returned (.int .i64 (findP l id)) ∧ Below w.heap.size w w' := by
  have hB0 := Below.refl w.heap.size w
  have hl_hs := sl_len hs
  refine co_enter (n := 18) Try.func55 rfl rfl rfl [(0, v), (1, .int .i64 id)] rfl (fun a h0 => ?_)
  refine co_seq ?_
  refine co_reg ?_
  refine pl_want h0 rfl rfl rfl (op_new (v := fun N => .pointer (some ⟨N, 0, none⟩)) (T := 3) (cs := #[.int .i64 id]) (by kernel_rfl) (by kernel_rfl) (by kernel_rfl)) ?_; clear h0
  rintro _ w2 a1 ⟨N3, rfl, hN6, hz7, hk5, hg4⟩ h1
  have hB8 := hb_new hB0 hg4
  have hz9 := hB8.size
  have hz10 := hg4.size
  try dsimp only at h1
  refine pl_val (v := .int .i64 0) h1 rfl rfl rfl (by kernel_rfl) (by kernel_rfl) (by kernel_rfl) (fun a11 h11 => ?_); clear h1
  refine pl_nil ?_
  refine co_then ?_
  refine co_seq ?_
  refine co_reg ?_
  refine pl_val (v := v) h11 rfl rfl rfl (by kernel_rfl) (by kernel_rfl) (by kernel_rfl) (fun a12 h12 => ?_); clear h11
  refine pl_val (v := .func (.func 78) #[] #[.pointer (some ⟨N3, 0, none⟩)]) h12 rfl rfl rfl (by kernel_rfl) (by kernel_rfl) (by kernel_rfl) (fun a13 h13 => ?_); clear h12
  refine pl_want h13 rfl rfl rfl (op_call (args := #[v, .func (.func 78) #[] #[.pointer (some ⟨N3, 0, none⟩)]]) (R := fun res xw => ∃ p : PinT, ∃ b : Bool, res = .tuple #[.agg #[.int .i64 p.1, .int .u64 p.2.1, .int .i64 p.2.2], .bool b] ∧ FirstP l id p b ∧ Below w2.heap.size w2 xw) rfl rfl rfl (by kernel_rfl) (by kernel_rfl) (Try.call77 _ _) (firstPin_any v l id N3 w2 (hs.below hB8) (blk_part hk5 0 rfl)) (by rintro e x ⟨p, b, rfl, hq18, hb19⟩; exact ⟨_, rfl, ⟨p, b, rfl, hq18, hb19⟩⟩)) ?_; clear h13
  rintro _ w15 a14 ⟨p16, b17, rfl, hq18, hb19⟩ h14
  have hB20 := hb_call hB8 hb19
  have hz21 := hB20.size
  have hz22 := hb19.size
  have hk23 := hk5.below hb19
  refine pl_val (v := .tuple #[.agg #[.int .i64 p16.1, .int .u64 p16.2.1, .int .i64 p16.2.2], .bool b17]) h14 rfl rfl rfl (by kernel_rfl) (by kernel_rfl) (by kernel_rfl) (fun a24 h24 => ?_); clear h14
  refine pl_val (v := .agg #[.int .i64 p16.1, .int .u64 p16.2.1, .int .i64 p16.2.2]) h24 rfl rfl rfl (by kernel_rfl) (by kernel_rfl) (by kernel_rfl) (fun a25 h25 => ?_); clear h24
  refine pl_val (v := .bool b17) h25 rfl rfl rfl (by kernel_rfl) (by kernel_rfl) (by kernel_rfl) (fun a26 h26 => ?_); clear h25
  refine pl_want h26 rfl rfl rfl (op_new (v := fun N => .pointer (some ⟨N, 0, none⟩)) (T := 44) (cs := #[.int .i64 0, .int .u64 0, .int .i64 0]) (by kernel_rfl) (by kernel_rfl) (by kernel_rfl)) ?_; clear h26
  rintro _ w28 a27 ⟨N29, rfl, hN32, hz33, hk31, hg30⟩ h27
  have hB34 := hb_new hB20 hg30
  have hz35 := hB34.size
  have hz36 := hg30.size
  have hk37 := hk23.kept hg30 (by simp)
  try dsimp only at h27
  refine pl_doW h27 rfl rfl (op_storeN rfl rfl rfl (by kernel_rfl) (by kernel_rfl) hk31 rfl) ?_; clear h27
  rintro _ w39 a38 ⟨hk40, hz41, hg42⟩ h38
  have hk40' : Blk w39 N29 44 #[.int .i64 p16.1, .int .u64 p16.2.1, .int .i64 p16.2.2] := hk40; clear hk40
  have hB43 := hb_at hB34 hg42 (by omega)
  have hz44 := hB43.size
  have hz45 := hg42.size
  have hk46 := hk37.kept hg42 (by simp; omega)
  refine pl_val (v := .bool b17) h38 rfl rfl rfl (by kernel_rfl) (by kernel_rfl) (by kernel_rfl) (fun a47 h47 => ?_); clear h38
  refine pl_nil ?_
  refine co_then ?_
  refine co_seq ?_
  refine co_seq ?_
  refine co_reg ?_
  refine pl_val (v := .bool b17) h47 rfl rfl rfl (by kernel_rfl) (by kernel_rfl) (by kernel_rfl) (fun a48 h48 => ?_); clear h47
  cases hc49 : (b17)
  ·
    rw [hc49] at h48
    refine pl_val (v := .bool true) h48 rfl rfl rfl (by kernel_rfl) (by kernel_rfl) (by kernel_rfl) (fun a50 h50 => ?_); clear h48
    refine pl_nil ?_
    refine co_then ?_
    refine co_true h50 rfl ?_
    refine co_seq ?_
    refine co_reg ?_
    refine pl_val (v := .int .i64 (-1)) h50 rfl rfl rfl (by kernel_rfl) (by kernel_rfl) (by kernel_rfl) (fun a51 h51 => ?_); clear h50
    refine pl_nil ?_
    refine co_then ?_
    refine wp_ret ?_
    refine co_thenR ?_
    refine co_ret1 h51 rfl rfl ?_
    rcases hq18 with ⟨hb0, _⟩ | ⟨_, _, hf0⟩
    · rw [hb0] at hc49; cases hc49
    · exact ⟨ret_int hf0.symm, hB43⟩
  ·
    rw [hc49] at h48
    refine pl_val (v := .bool false) h48 rfl rfl rfl (by kernel_rfl) (by kernel_rfl) (by kernel_rfl) (fun a52 h52 => ?_); clear h48
    refine pl_nil ?_
    refine co_then ?_
    refine co_false h52 rfl ?_
    refine wp_skip ?_
    refine co_then ?_
    refine co_seq ?_
    refine co_reg ?_
    refine pl_val (v := v) h52 rfl rfl rfl (by kernel_rfl) (by kernel_rfl) (by kernel_rfl) (fun a53 h53 => ?_); clear h52
    refine pl_val (v := .agg #[.int .i64 p16.1, .int .u64 p16.2.1, .int .i64 p16.2.2]) h53 rfl rfl rfl (by kernel_rfl) (by kernel_rfl) (rn_loadN rfl rfl Try.underlying44 rfl (by kernel_rfl) hk40'.all) (fun a54 h54 => ?_); clear h53
    rcases hq18 with ⟨_, i0, hi0, hp0, hn0⟩ | ⟨hb0, _⟩
    rotate_left
    · rw [hb0] at hc49; cases hc49
    refine pl_want h54 rfl rfl rfl (op_call (args := #[v, .agg #[.int .i64 p16.1, .int .u64 p16.2.1, .int .i64 p16.2.2]]) (R := fun res xw => res = .int .i64 ((i0 : Nat) : Int) ∧ Below w39.heap.size w39 xw) rfl rfl rfl (by kernel_rfl) (by kernel_rfl) (Try.call79 _ _) (indexPin_any v l p16 i0 w39 (hs.below hB43) hi0 (by rw [hp0]; exact hn0)) (by rintro e x ⟨rfl, hb57⟩; exact ⟨_, rfl, ⟨rfl, hb57⟩⟩)) ?_; clear h54
    rintro _ w56 a55 ⟨rfl, hb57⟩ h55
    have hB58 := hb_call hB43 hb57
    have hz59 := hB58.size
    have hz60 := hb57.size
    have hk61 := hk46.below hb57
    have hk62 := hk40'.below hb57
    refine pl_val (v := .int .i64 ((i0 : Nat) : Int)) h55 rfl rfl rfl (by kernel_rfl) (by kernel_rfl) (by kernel_rfl) (fun a63 h63 => ?_); clear h55
    refine pl_nil ?_
    refine co_then ?_
    refine wp_ret ?_
    refine co_ret1 h63 rfl rfl ?_
    exact ⟨ret_int (by rw [findP_at hn0 hi0 hp0]), hB58⟩
end Go.Proofs.Ytglfoippcmckaaa

/- Package lease: Grant, Renew. Conditions: at most 1000 pins. -/
namespace Go.Proofs.Ytglfoippcmckaaa
open Go.RowKit Go.PlainAid
set_option linter.unusedVariables false


theorem grant_full {l : List PinT} {id ts : Int} (h : (l.length : Int) ≥ 3) : grantP l id ts = ([], 17) := by unfold grantP; rw [if_pos h]
theorem grant_arg {l : List PinT} {id ts : Int} (h : ¬ (l.length : Int) ≥ 3) (h1 : id < 1 ∨ id > 1073741824) : grantP l id ts = ([], 1) := by unfold grantP; rw [if_neg h, if_pos h1]
theorem grant_ord {l : List PinT} {id ts : Int} {j : Nat} {y : PinT} (h : ¬ (l.length : Int) ≥ 3) (h1 : ¬ (id < 1 ∨ id > 1073741824)) (hy : l[j]? = some y) (hj : j = l.length - 1) (h2 : id ≤ y.1) : grantP l id ts = ([], 18) := by
  subst hj
  have := (List.getElem?_eq_some_iff.1 hy).1
  unfold grantP; rw [if_neg h, if_neg h1, if_pos ⟨by omega, by rw [getD_of hy]; exact h2⟩]
theorem grant_ok {l : List PinT} {id ts : Int} {j : Nat} {y : PinT} (h : ¬ (l.length : Int) ≥ 3) (h1 : ¬ (id < 1 ∨ id > 1073741824)) (hy : l[j]? = some y) (hj : j = l.length - 1) (h2 : ¬ id ≤ y.1) : grantP l id ts = (l ++ [(id, ts, 8)], 0) := by
  subst hj
  unfold grantP; rw [if_neg h, if_neg h1, if_neg (fun q => h2 (by rw [← getD_of hy]; exact q.2))]
theorem grant_ok0 {l : List PinT} {id ts : Int} (h : ¬ (l.length : Int) ≥ 3) (h1 : ¬ (id < 1 ∨ id > 1073741824)) (h0 : l.length = 0) : grantP l id ts = (l ++ [(id, ts, 8)], 0) := by
  unfold grantP; rw [if_neg h, if_neg h1, if_neg (by omega)]
theorem renew_no {l : List PinT} {id : Int} (h : findP l id < 0) : renewP l id = ([], 7) := by unfold renewP; rw [if_pos h]
theorem renew_ok {l : List PinT} {id : Int} {j : Nat} {y : PinT} (h : ¬ findP l id < 0) (hj : j = (findP l id).toNat) (hy : l[j]? = some y) : renewP l id = (l.set j (y.1, y.2.1, 8), 0) := by
  subst hj; unfold renewP; rw [if_neg h, getD_of hy]
theorem free_no {l : List PinT} {id : Int} (h : findP l id < 0) : freeP l id = ([], 7) := by unfold freeP; rw [if_pos h]
theorem free_ok {l : List PinT} {id : Int} {j : Nat} (h : ¬ findP l id < 0) (hj : j = (findP l id).toNat) : freeP l id = (l.take j ++ l.drop (j + 1), 0) := by subst hj; unfold freeP; rw [if_neg h]
set_option maxRecDepth 100000 in
theorem leaseGrant_any (v : Value) (l : List PinT) (id : Int) (ts : Int) (l2 : List PinT) (r : Int) (w : World) (hs : SliceOf pinE 3 w v l) (hlen : l.length ≤ 1000) (hg : grantP l id ts = (l2, r)) :
    Calls Try.prog 54 #[v, .int .i64 id, .int .u64 ts] w fun e w' => ∃ (u : Value), e = .returned (.tuple #[u, .int .i64 r]) ∧ w'.ownsRow w.heap.size 44 3 u l2.length (l2.flatMap pinE) ∧ Below w.heap.size w w' := by
  have hB0 := Below.refl w.heap.size w
  have hl_hs := sl_len hs
  refine co_enter (n := 38) Try.func54 rfl rfl rfl [(0, v), (1, .int .i64 id), (2, .int .u64 ts)] rfl (fun a h0 => ?_)
  refine co_seq ?_
  refine co_reg ?_
  refine pl_val (v := .slice none 0 0) h0 rfl rfl rfl (by kernel_rfl) (by kernel_rfl) (by kernel_rfl) (fun a1 h1 => ?_); clear h0
  refine pl_val (v := .int .i64 0) h1 rfl rfl rfl (by kernel_rfl) (by kernel_rfl) (by kernel_rfl) (fun a2 h2 => ?_); clear h1
  refine pl_nil ?_
  refine co_then ?_
  refine co_seq ?_
  refine co_seq ?_
  refine co_reg ?_
  refine pl_val (v := v) h2 rfl rfl rfl (by kernel_rfl) (by kernel_rfl) (by kernel_rfl) (fun a3 h3 => ?_); clear h2
  refine pl_val (v := .int .i64 ((l.length : Nat) : Int)) h3 rfl rfl rfl (by kernel_rfl) (by kernel_rfl) (rn_len rfl rfl Try.underlying33 hs) (fun a4 h4 => ?_); clear h3
  refine pl_val (v := .bool (decide (((l.length : Nat) : Int) ≥ 3))) h4 rfl rfl rfl (by kernel_rfl) (by kernel_rfl) (by kernel_rfl) (fun a5 h5 => ?_); clear h4
  refine pl_nil ?_
  refine co_then ?_
  cases hc6 : (decide (((l.length : Nat) : Int) ≥ 3))
  ·
    rw [hc6] at h5
    have hp7 : ¬ (((l.length : Nat) : Int) ≥ 3) := of_decide_eq_false hc6
    clear hc6
    refine co_false h5 rfl ?_
    refine wp_skip ?_
    refine co_then ?_
    refine co_seq ?_
    refine co_seq ?_
    refine co_reg ?_
    refine pl_val (v := .int .i64 id) h5 rfl rfl rfl (by kernel_rfl) (by kernel_rfl) (by kernel_rfl) (fun a8 h8 => ?_); clear h5
    refine pl_val (v := .bool (decide (id < 1))) h8 rfl rfl rfl (by kernel_rfl) (by kernel_rfl) (by kernel_rfl) (fun a9 h9 => ?_); clear h8
    refine pl_val (v := .bool (decide (id < 1))) h9 rfl rfl rfl (by kernel_rfl) (by kernel_rfl) (by kernel_rfl) (fun a10 h10 => ?_); clear h9
    cases hc11 : (decide (id < 1))
    ·
      rw [hc11] at h10
      have hp12 : ¬ (id < 1) := of_decide_eq_false hc11
      clear hc11
      refine pl_val (v := .int .i64 id) h10 rfl rfl rfl (by kernel_rfl) (by kernel_rfl) (by kernel_rfl) (fun a13 h13 => ?_); clear h10
      refine pl_val (v := .bool (decide (id > 1073741824))) h13 rfl rfl rfl (by kernel_rfl) (by kernel_rfl) (by kernel_rfl) (fun a14 h14 => ?_); clear h13
      refine pl_val (v := .bool (decide (id > 1073741824))) h14 rfl rfl rfl (by kernel_rfl) (by kernel_rfl) (by kernel_rfl) (fun a15 h15 => ?_); clear h14
      refine pl_nil ?_
      refine co_then ?_
      cases hc16 : (decide (id > 1073741824))
      ·
        rw [hc16] at h15
        have hp17 : ¬ (id > 1073741824) := of_decide_eq_false hc16
        clear hc16
        refine co_false h15 rfl ?_
        refine wp_skip ?_
        refine co_then ?_
        refine co_seq ?_
        refine co_seq ?_
        refine co_reg ?_
        refine pl_val (v := v) h15 rfl rfl rfl (by kernel_rfl) (by kernel_rfl) (by kernel_rfl) (fun a18 h18 => ?_); clear h15
        refine pl_val (v := .int .i64 ((l.length : Nat) : Int)) h18 rfl rfl rfl (by kernel_rfl) (by kernel_rfl) (rn_len rfl rfl Try.underlying33 hs) (fun a19 h19 => ?_); clear h18
        refine pl_val (v := .bool (decide (((l.length : Nat) : Int) > 0))) h19 rfl rfl rfl (by kernel_rfl) (by kernel_rfl) (by kernel_rfl) (fun a20 h20 => ?_); clear h19
        refine pl_val (v := .bool (decide (((l.length : Nat) : Int) > 0))) h20 rfl rfl rfl (by kernel_rfl) (by kernel_rfl) (by kernel_rfl) (fun a21 h21 => ?_); clear h20
        cases hc22 : (decide (((l.length : Nat) : Int) > 0))
        ·
          rw [hc22] at h21
          have hp23 : ¬ (((l.length : Nat) : Int) > 0) := of_decide_eq_false hc22
          clear hc22
          refine pl_skip h21 rfl rfl rfl (fun a24 h24 => ?_); clear h21
          refine pl_skip h24 rfl rfl rfl (fun a25 h25 => ?_); clear h24
          refine pl_skip h25 rfl rfl rfl (fun a26 h26 => ?_); clear h25
          refine pl_skip h26 rfl rfl rfl (fun a27 h27 => ?_); clear h26
          refine pl_skip h27 rfl rfl rfl (fun a28 h28 => ?_); clear h27
          refine pl_skip h28 rfl rfl rfl (fun a29 h29 => ?_); clear h28
          refine pl_skip h29 rfl rfl rfl (fun a30 h30 => ?_); clear h29
          refine pl_skip h30 rfl rfl rfl (fun a31 h31 => ?_); clear h30
          refine pl_skip h31 rfl rfl rfl (fun a32 h32 => ?_); clear h31
          refine pl_val (v := .bool false) h32 rfl rfl rfl (by kernel_rfl) (by kernel_rfl) (by kernel_rfl) (fun a33 h33 => ?_); clear h32
          refine pl_nil ?_
          refine co_then ?_
          refine co_false h33 rfl ?_
          refine wp_skip ?_
          refine co_then ?_
          refine co_seq ?_
          refine co_reg ?_
          refine pl_val (v := v) h33 rfl rfl rfl (by kernel_rfl) (by kernel_rfl) (by kernel_rfl) (fun a34 h34 => ?_); clear h33
          refine pl_want h34 rfl rfl rfl (op_call (args := #[v]) (R := fun res xw => ∃ u : Value, res = u ∧ xw.ownsRow w.heap.size 44 3 u l.length (l.flatMap pinE) ∧ Below w.heap.size w xw) rfl rfl rfl (by kernel_rfl) (by kernel_rfl) (Try.call21 _ _) (clonePin_any v l w hs (by first | omega | (simp; done) | (simp; omega))) (by rintro e x ⟨u, rfl, hq38, hb39⟩; exact ⟨_, rfl, ⟨u, rfl, hq38, hb39⟩⟩)) ?_; clear h34
          rintro u37 w36 a35 ⟨_, rfl, hq38, hb39⟩ h35
          have hB40 := hb_call hB0 hb39
          have hz41 := hB40.size
          have hz42 := hb39.size
          have hl43 := sl_len (row_sl hq38 pinE_len)
          refine pl_val (v := .int .i64 id) h35 rfl rfl rfl (by kernel_rfl) (by kernel_rfl) (by kernel_rfl) (fun a44 h44 => ?_); clear h35
          refine pl_val (v := .int .u64 ts) h44 rfl rfl rfl (by kernel_rfl) (by kernel_rfl) (by kernel_rfl) (fun a45 h45 => ?_); clear h44
          refine pl_val (v := .agg #[.int .i64 id, .int .u64 ts, .int .i64 8]) h45 rfl rfl rfl (by kernel_rfl) (by kernel_rfl) (by kernel_rfl) (fun a46 h46 => ?_); clear h45
          refine pl_want h46 rfl rfl rfl (op_new (v := fun N => .slice (some ⟨N, 0, none⟩) 1 1) (T := 44) (cs := #[.int .i64 id, .int .u64 ts, .int .i64 8]) (by kernel_rfl) (by kernel_rfl) (by kernel_rfl)) ?_; clear h46
          rintro _ w48 a47 ⟨N49, rfl, hN52, hz53, hk51, hg50⟩ h47
          have ha54 := row_fresh hq38 hN52
          have hB55 := hb_new hB40 hg50
          have hz56 := hB55.size
          have hz57 := hg50.size
          have hr58 := row_kept_new hq38 hg50
          try dsimp only at h47
          refine pl_want h47 rfl rfl rfl (op_append rfl w.heap.size 44 (z := .agg #[.int .i64 0, .int .u64 0, .int .i64 0]) (size := 3) (bytes := 24) Try.underlying33 (by kernel_rfl) rfl rfl rfl hr58 rfl hk51 rfl (by kernel_rfl) (by first | omega | (simp only [List.length_nil, List.length_append, List.length_cons, List.length_take, List.length_drop]; omega)) (by first | omega | (simp only [List.length_nil, List.length_append, List.length_cons, List.length_take, List.length_drop]; omega)) (by omega)) ?_; clear h47
          rintro v61 w60 a59 ⟨hr62, hg63⟩ h59
          have hr62' : w60.ownsRow w.heap.size 44 3 v61 ((l ++ [(id, ts, 8)]).length) ((l ++ [(id, ts, 8)]).flatMap pinE) := row_push (y := (id, ts, 8)) hr62 rfl rfl; clear hr62
          have hB64 := hb_row hB55 hr58 (by omega) hg63
          have hz65 := hB64.size
          have hz66 := hg63.size
          have hk67 := hk51.kept hg63 (ha54)
          refine pl_val (v := v61) h59 rfl rfl rfl (by kernel_rfl) (by kernel_rfl) (by kernel_rfl) (fun a68 h68 => ?_); clear h59
          refine pl_val (v := .int .i64 0) h68 rfl rfl rfl (by kernel_rfl) (by kernel_rfl) (by kernel_rfl) (fun a69 h69 => ?_); clear h68
          refine pl_nil ?_
          refine co_then ?_
          refine wp_ret ?_
          refine co_ret2 h69 rfl rfl rfl ?_
          cases hg.symm.trans (grant_ok0 (by omega) (by omega) (by omega))
          exact ⟨_, rfl, (row_lows hr62' (by omega)), hB64⟩
        ·
          rw [hc22] at h21
          have hp70 : ((l.length : Nat) : Int) > 0 := of_decide_eq_true hc22
          clear hc22
          refine pl_val (v := v) h21 rfl rfl rfl (by kernel_rfl) (by kernel_rfl) (by kernel_rfl) (fun a71 h71 => ?_); clear h21
          refine pl_val (v := v) h71 rfl rfl rfl (by kernel_rfl) (by kernel_rfl) (by kernel_rfl) (fun a72 h72 => ?_); clear h71
          refine pl_val (v := .int .i64 ((l.length : Nat) : Int)) h72 rfl rfl rfl (by kernel_rfl) (by kernel_rfl) (rn_len rfl rfl Try.underlying33 hs) (fun a73 h73 => ?_); clear h72
          refine pl_val (v := .int .i64 (((l.length : Nat) : Int) - 1)) h73 rfl rfl rfl (by kernel_rfl) (by kernel_rfl) (rn_arith rfl rfl rfl rfl rfl rfl (IntWalk.i64_in _ (by omega))) (fun a74 h74 => ?_); clear h73
          obtain ⟨y75, hy75⟩ : ∃ z, l[(((l.length : Nat) : Int) - 1).toNat]? = some z := ⟨_, List.getElem?_eq_getElem (by first | omega | (simp; done) | (simp; omega))⟩
          refine pl_val (v := .pointer (some ⟨(blkOf v), offOf v + ((((l.length : Nat) : Int) - 1).toNat) * 3, none⟩)) h74 rfl rfl rfl (by kernel_rfl) (by kernel_rfl) (rn_index rfl rfl rfl Try.underlying33 Try.sizeOf44 hs (by omega) (by first | omega | (simp; done) | (simp; omega))) (fun a76 h76 => ?_); clear h74
          refine pl_val (v := .pointer (some ⟨(blkOf v), offOf v + ((((l.length : Nat) : Int) - 1).toNat) * 3, none⟩)) h76 rfl rfl rfl (by kernel_rfl) (by kernel_rfl) (by kernel_rfl) (fun a77 h77 => ?_); clear h76
          refine pl_val (v := .int .i64 y75.1) h77 rfl rfl rfl (by kernel_rfl) (by kernel_rfl) (rn_load1 rfl rfl Try.isAgg3 ((sl_at hs hy75) 0 _ rfl)) (fun a78 h78 => ?_); clear h77
          refine pl_val (v := .int .i64 id) h78 rfl rfl rfl (by kernel_rfl) (by kernel_rfl) (by kernel_rfl) (fun a79 h79 => ?_); clear h78
          refine pl_val (v := .bool (decide (y75.1 ≥ id))) h79 rfl rfl rfl (by kernel_rfl) (by kernel_rfl) (by kernel_rfl) (fun a80 h80 => ?_); clear h79
          refine pl_val (v := .bool (decide (y75.1 ≥ id))) h80 rfl rfl rfl (by kernel_rfl) (by kernel_rfl) (by kernel_rfl) (fun a81 h81 => ?_); clear h80
          refine pl_nil ?_
          refine co_then ?_
          cases hc82 : (decide (y75.1 ≥ id))
          ·
            rw [hc82] at h81
            have hp83 : ¬ (y75.1 ≥ id) := of_decide_eq_false hc82
            clear hc82
            refine co_false h81 rfl ?_
            refine wp_skip ?_
            refine co_then ?_
            refine co_seq ?_
            refine co_reg ?_
            refine pl_val (v := v) h81 rfl rfl rfl (by kernel_rfl) (by kernel_rfl) (by kernel_rfl) (fun a84 h84 => ?_); clear h81
            refine pl_want h84 rfl rfl rfl (op_call (args := #[v]) (R := fun res xw => ∃ u : Value, res = u ∧ xw.ownsRow w.heap.size 44 3 u l.length (l.flatMap pinE) ∧ Below w.heap.size w xw) rfl rfl rfl (by kernel_rfl) (by kernel_rfl) (Try.call21 _ _) (clonePin_any v l w hs (by first | omega | (simp; done) | (simp; omega))) (by rintro e x ⟨u, rfl, hq88, hb89⟩; exact ⟨_, rfl, ⟨u, rfl, hq88, hb89⟩⟩)) ?_; clear h84
            rintro u87 w86 a85 ⟨_, rfl, hq88, hb89⟩ h85
            have hB90 := hb_call hB0 hb89
            have hz91 := hB90.size
            have hz92 := hb89.size
            have hl93 := sl_len (row_sl hq88 pinE_len)
            refine pl_val (v := .int .i64 id) h85 rfl rfl rfl (by kernel_rfl) (by kernel_rfl) (by kernel_rfl) (fun a94 h94 => ?_); clear h85
            refine pl_val (v := .int .u64 ts) h94 rfl rfl rfl (by kernel_rfl) (by kernel_rfl) (by kernel_rfl) (fun a95 h95 => ?_); clear h94
            refine pl_val (v := .agg #[.int .i64 id, .int .u64 ts, .int .i64 8]) h95 rfl rfl rfl (by kernel_rfl) (by kernel_rfl) (by kernel_rfl) (fun a96 h96 => ?_); clear h95
            refine pl_want h96 rfl rfl rfl (op_new (v := fun N => .slice (some ⟨N, 0, none⟩) 1 1) (T := 44) (cs := #[.int .i64 id, .int .u64 ts, .int .i64 8]) (by kernel_rfl) (by kernel_rfl) (by kernel_rfl)) ?_; clear h96
            rintro _ w98 a97 ⟨N99, rfl, hN102, hz103, hk101, hg100⟩ h97
            have ha104 := row_fresh hq88 hN102
            have hB105 := hb_new hB90 hg100
            have hz106 := hB105.size
            have hz107 := hg100.size
            have hr108 := row_kept_new hq88 hg100
            try dsimp only at h97
            refine pl_want h97 rfl rfl rfl (op_append rfl w.heap.size 44 (z := .agg #[.int .i64 0, .int .u64 0, .int .i64 0]) (size := 3) (bytes := 24) Try.underlying33 (by kernel_rfl) rfl rfl rfl hr108 rfl hk101 rfl (by kernel_rfl) (by first | omega | (simp only [List.length_nil, List.length_append, List.length_cons, List.length_take, List.length_drop]; omega)) (by first | omega | (simp only [List.length_nil, List.length_append, List.length_cons, List.length_take, List.length_drop]; omega)) (by omega)) ?_; clear h97
            rintro v111 w110 a109 ⟨hr112, hg113⟩ h109
            have hr112' : w110.ownsRow w.heap.size 44 3 v111 ((l ++ [(id, ts, 8)]).length) ((l ++ [(id, ts, 8)]).flatMap pinE) := row_push (y := (id, ts, 8)) hr112 rfl rfl; clear hr112
            have hB114 := hb_row hB105 hr108 (by omega) hg113
            have hz115 := hB114.size
            have hz116 := hg113.size
            have hk117 := hk101.kept hg113 (ha104)
            refine pl_val (v := v111) h109 rfl rfl rfl (by kernel_rfl) (by kernel_rfl) (by kernel_rfl) (fun a118 h118 => ?_); clear h109
            refine pl_val (v := .int .i64 0) h118 rfl rfl rfl (by kernel_rfl) (by kernel_rfl) (by kernel_rfl) (fun a119 h119 => ?_); clear h118
            refine pl_nil ?_
            refine co_then ?_
            refine wp_ret ?_
            refine co_ret2 h119 rfl rfl rfl ?_
            cases hg.symm.trans (grant_ok (by omega) (by omega) hy75 (by omega) (by omega))
            exact ⟨_, rfl, (row_lows hr112' (by omega)), hB114⟩
          ·
            rw [hc82] at h81
            have hp120 : y75.1 ≥ id := of_decide_eq_true hc82
            clear hc82
            refine co_true h81 rfl ?_
            refine co_seq ?_
            refine co_reg ?_
            refine pl_val (v := .slice none 0 0) h81 rfl rfl rfl (by kernel_rfl) (by kernel_rfl) (by kernel_rfl) (fun a121 h121 => ?_); clear h81
            refine pl_val (v := .int .i64 18) h121 rfl rfl rfl (by kernel_rfl) (by kernel_rfl) (by kernel_rfl) (fun a122 h122 => ?_); clear h121
            refine pl_nil ?_
            refine co_then ?_
            refine wp_ret ?_
            refine co_thenR ?_
            refine co_ret2 h122 rfl rfl rfl ?_
            cases hg.symm.trans (grant_ord (by omega) (by omega) hy75 (by omega) (by omega))
            exact ⟨_, rfl, (row_nilL _ _ _ _ _), hB0⟩
      ·
        rw [hc16] at h15
        have hp123 : id > 1073741824 := of_decide_eq_true hc16
        clear hc16
        refine co_true h15 rfl ?_
        refine co_seq ?_
        refine co_reg ?_
        refine pl_val (v := .slice none 0 0) h15 rfl rfl rfl (by kernel_rfl) (by kernel_rfl) (by kernel_rfl) (fun a124 h124 => ?_); clear h15
        refine pl_val (v := .int .i64 1) h124 rfl rfl rfl (by kernel_rfl) (by kernel_rfl) (by kernel_rfl) (fun a125 h125 => ?_); clear h124
        refine pl_nil ?_
        refine co_then ?_
        refine wp_ret ?_
        refine co_thenR ?_
        refine co_ret2 h125 rfl rfl rfl ?_
        cases hg.symm.trans (grant_arg (by omega) (by omega))
        exact ⟨_, rfl, (row_nilL _ _ _ _ _), hB0⟩
    ·
      rw [hc11] at h10
      have hp126 : id < 1 := of_decide_eq_true hc11
      clear hc11
      refine pl_skip h10 rfl rfl rfl (fun a127 h127 => ?_); clear h10
      refine pl_skip h127 rfl rfl rfl (fun a128 h128 => ?_); clear h127
      refine pl_val (v := .bool true) h128 rfl rfl rfl (by kernel_rfl) (by kernel_rfl) (by kernel_rfl) (fun a129 h129 => ?_); clear h128
      refine pl_nil ?_
      refine co_then ?_
      refine co_true h129 rfl ?_
      refine co_seq ?_
      refine co_reg ?_
      refine pl_val (v := .slice none 0 0) h129 rfl rfl rfl (by kernel_rfl) (by kernel_rfl) (by kernel_rfl) (fun a130 h130 => ?_); clear h129
      refine pl_val (v := .int .i64 1) h130 rfl rfl rfl (by kernel_rfl) (by kernel_rfl) (by kernel_rfl) (fun a131 h131 => ?_); clear h130
      refine pl_nil ?_
      refine co_then ?_
      refine wp_ret ?_
      refine co_thenR ?_
      refine co_ret2 h131 rfl rfl rfl ?_
      cases hg.symm.trans (grant_arg (by omega) (by omega))
      exact ⟨_, rfl, (row_nilL _ _ _ _ _), hB0⟩
  ·
    rw [hc6] at h5
    have hp132 : ((l.length : Nat) : Int) ≥ 3 := of_decide_eq_true hc6
    clear hc6
    refine co_true h5 rfl ?_
    refine co_seq ?_
    refine co_reg ?_
    refine pl_val (v := .slice none 0 0) h5 rfl rfl rfl (by kernel_rfl) (by kernel_rfl) (by kernel_rfl) (fun a133 h133 => ?_); clear h5
    refine pl_val (v := .int .i64 17) h133 rfl rfl rfl (by kernel_rfl) (by kernel_rfl) (by kernel_rfl) (fun a134 h134 => ?_); clear h133
    refine pl_nil ?_
    refine co_then ?_
    refine wp_ret ?_
    refine co_thenR ?_
    refine co_ret2 h134 rfl rfl rfl ?_
    cases hg.symm.trans (grant_full (by omega))
    exact ⟨_, rfl, (row_nilL _ _ _ _ _), hB0⟩
set_option maxRecDepth 100000 in
theorem leaseRenew_any (v : Value) (l : List PinT) (id : Int) (l2 : List PinT) (r : Int) (w : World) (hs : SliceOf pinE 3 w v l) (hlen : l.length ≤ 1000) (hg : renewP l id = (l2, r)) :
    Calls Try.prog 53 #[v, .int .i64 id] w fun e w' => ∃ (u : Value), e = .returned (.tuple #[u, .int .i64 r]) ∧ w'.ownsRow w.heap.size 44 3 u l2.length (l2.flatMap pinE) ∧ Below w.heap.size w w' := by
  have hfl := findP_lt l id
  have hB0 := Below.refl w.heap.size w
  have hl_hs := sl_len hs
  refine co_enter (n := 20) Try.func53 rfl rfl rfl [(0, v), (1, .int .i64 id)] rfl (fun a h0 => ?_)
  refine co_seq ?_
  refine co_reg ?_
  refine pl_val (v := .slice none 0 0) h0 rfl rfl rfl (by kernel_rfl) (by kernel_rfl) (by kernel_rfl) (fun a1 h1 => ?_); clear h0
  refine pl_val (v := .int .i64 0) h1 rfl rfl rfl (by kernel_rfl) (by kernel_rfl) (by kernel_rfl) (fun a2 h2 => ?_); clear h1
  refine pl_nil ?_
  refine co_then ?_
  refine co_seq ?_
  refine co_reg ?_
  refine pl_val (v := v) h2 rfl rfl rfl (by kernel_rfl) (by kernel_rfl) (by kernel_rfl) (fun a3 h3 => ?_); clear h2
  refine pl_val (v := .int .i64 id) h3 rfl rfl rfl (by kernel_rfl) (by kernel_rfl) (by kernel_rfl) (fun a4 h4 => ?_); clear h3
  refine pl_want h4 rfl rfl rfl (op_call (args := #[v, .int .i64 id]) (R := fun res xw => res = .int .i64 (findP l id) ∧ Below w.heap.size w xw) rfl rfl rfl (by kernel_rfl) (by kernel_rfl) (Try.call55 _ _) (place_any v l id w hs) (by rintro e x ⟨rfl, hb7⟩; exact ⟨_, rfl, ⟨rfl, hb7⟩⟩)) ?_; clear h4
  rintro _ w6 a5 ⟨rfl, hb7⟩ h5
  have hB8 := hb_call hB0 hb7
  have hz9 := hB8.size
  have hz10 := hb7.size
  refine pl_val (v := .int .i64 (findP l id)) h5 rfl rfl rfl (by kernel_rfl) (by kernel_rfl) (by kernel_rfl) (fun a11 h11 => ?_); clear h5
  refine pl_nil ?_
  refine co_then ?_
  refine co_seq ?_
  refine co_seq ?_
  refine co_reg ?_
  refine pl_val (v := .int .i64 (findP l id)) h11 rfl rfl rfl (by kernel_rfl) (by kernel_rfl) (by kernel_rfl) (fun a12 h12 => ?_); clear h11
  refine pl_val (v := .bool (decide (findP l id < 0))) h12 rfl rfl rfl (by kernel_rfl) (by kernel_rfl) (by kernel_rfl) (fun a13 h13 => ?_); clear h12
  refine pl_nil ?_
  refine co_then ?_
  cases hc14 : (decide (findP l id < 0))
  ·
    rw [hc14] at h13
    have hp15 : ¬ (findP l id < 0) := of_decide_eq_false hc14
    clear hc14
    refine co_false h13 rfl ?_
    refine wp_skip ?_
    refine co_then ?_
    refine co_seq ?_
    refine co_reg ?_
    refine pl_val (v := v) h13 rfl rfl rfl (by kernel_rfl) (by kernel_rfl) (by kernel_rfl) (fun a16 h16 => ?_); clear h13
    refine pl_want h16 rfl rfl rfl (op_call (args := #[v]) (R := fun res xw => ∃ u : Value, res = u ∧ xw.ownsRow w6.heap.size 44 3 u l.length (l.flatMap pinE) ∧ Below w6.heap.size w6 xw) rfl rfl rfl (by kernel_rfl) (by kernel_rfl) (Try.call21 _ _) (clonePin_any v l w6 (hs.below hB8) (by first | omega | (simp; done) | (simp; omega))) (by rintro e x ⟨u, rfl, hq20, hb21⟩; exact ⟨_, rfl, ⟨u, rfl, hq20, hb21⟩⟩)) ?_; clear h16
    rintro u19 w18 a17 ⟨_, rfl, hq20, hb21⟩ h17
    have hB22 := hb_call hB8 hb21
    have hz23 := hB22.size
    have hz24 := hb21.size
    have hl25 := sl_len (row_sl hq20 pinE_len)
    refine pl_val (v := u19) h17 rfl rfl rfl (by kernel_rfl) (by kernel_rfl) (by kernel_rfl) (fun a26 h26 => ?_); clear h17
    refine pl_nil ?_
    refine co_then ?_
    refine co_seq ?_
    refine co_reg ?_
    refine pl_val (v := u19) h26 rfl rfl rfl (by kernel_rfl) (by kernel_rfl) (by kernel_rfl) (fun a27 h27 => ?_); clear h26
    refine pl_val (v := .int .i64 (findP l id)) h27 rfl rfl rfl (by kernel_rfl) (by kernel_rfl) (by kernel_rfl) (fun a28 h28 => ?_); clear h27
    obtain ⟨y29, hy29⟩ : ∃ z, l[(findP l id).toNat]? = some z := ⟨_, List.getElem?_eq_getElem (by first | omega | (simp; done) | (simp; omega))⟩
    refine pl_val (v := .pointer (some ⟨(blkOf u19), offOf u19 + ((findP l id).toNat) * 3, none⟩)) h28 rfl rfl rfl (by kernel_rfl) (by kernel_rfl) (rn_index rfl rfl rfl Try.underlying33 Try.sizeOf44 (row_sl hq20 pinE_len) (by omega) (by first | omega | (simp; done) | (simp; omega))) (fun a30 h30 => ?_); clear h28
    refine pl_val (v := .pointer (some ⟨(blkOf u19), offOf u19 + ((findP l id).toNat) * 3 + 2, none⟩)) h30 rfl rfl rfl (by kernel_rfl) (by kernel_rfl) (by kernel_rfl) (fun a31 h31 => ?_); clear h30
    refine pl_doW h31 rfl rfl (op_storeRow (c := ((findP l id).toNat) * 3 + 2) rfl rfl rfl rfl Try.sizeOf3 hq20 (flat_lt pinE_len (by omega) (by omega)) (by first | rfl | omega)) ?_; clear h31
    rintro _ w33 a32 ⟨hr34, hz35, hg36⟩ h32
    have hr34' := row_set (y' := (y29.1, y29.2.1, 8)) hr34 pinE_len hy29 (by omega) rfl; clear hr34
    have hB37 := hb_row hB22 hq20 (by omega) hg36
    have hz38 := hB37.size
    have hz39 := hg36.size
    refine pl_nil ?_
    refine co_then ?_
    refine co_seq ?_
    refine co_reg ?_
    refine pl_val (v := u19) h32 rfl rfl rfl (by kernel_rfl) (by kernel_rfl) (by kernel_rfl) (fun a40 h40 => ?_); clear h32
    refine pl_val (v := u19) h40 rfl rfl rfl (by kernel_rfl) (by kernel_rfl) (by kernel_rfl) (fun a41 h41 => ?_); clear h40
    refine pl_val (v := .int .i64 0) h41 rfl rfl rfl (by kernel_rfl) (by kernel_rfl) (by kernel_rfl) (fun a42 h42 => ?_); clear h41
    refine pl_nil ?_
    refine co_then ?_
    refine wp_ret ?_
    refine co_ret2 h42 rfl rfl rfl ?_
    cases hg.symm.trans (renew_ok (by omega) rfl hy29)
    exact ⟨_, rfl, (row_lows hr34' (by omega)), hB37⟩
  ·
    rw [hc14] at h13
    have hp43 : findP l id < 0 := of_decide_eq_true hc14
    clear hc14
    refine co_true h13 rfl ?_
    refine co_seq ?_
    refine co_reg ?_
    refine pl_val (v := .slice none 0 0) h13 rfl rfl rfl (by kernel_rfl) (by kernel_rfl) (by kernel_rfl) (fun a44 h44 => ?_); clear h13
    refine pl_val (v := .int .i64 7) h44 rfl rfl rfl (by kernel_rfl) (by kernel_rfl) (by kernel_rfl) (fun a45 h45 => ?_); clear h44
    refine pl_nil ?_
    refine co_then ?_
    refine wp_ret ?_
    refine co_thenR ?_
    refine co_ret2 h45 rfl rfl rfl ?_
    cases hg.symm.trans (renew_no (by omega))
    exact ⟨_, rfl, (row_nilL _ _ _ _ _), hB8⟩
end Go.Proofs.Ytglfoippcmckaaa

/- Package lease: Free, the document's Same. Conditions: at most 1000 pins. -/
namespace Go.Proofs.Ytglfoippcmckaaa
open Go.RowKit Go.PlainAid
set_option linter.unusedVariables false


theorem del_any (v : Value) (l : List PinT) (i base : Nat) (w : World) (hown : w.ownsRow base 44 3 v l.length (l.flatMap pinE)) (hi : i < l.length) :
    Calls Try.prog 56 #[v, .int .i64 i, .int .i64 ((i : Int) + 1)] w fun e w' => ∃ u, e = .returned u ∧ w'.ownsRow base 44 3 u (l.take i ++ l.drop (i + 1)).length ((l.take i ++ l.drop (i + 1)).flatMap pinE) ∧ w.grownBy w' v.ownBlock := by
  rcases hown.2 with ⟨_, h0⟩ | ⟨g, cap, cur, rfl, _⟩
  · omega
  · refine (del_pin g l.length (l.length - 1) cap i base l w hown rfl hi (by omega)).mono ?_
    rintro e w' ⟨rfl, h1, h2⟩
    refine ⟨_, rfl, ?_, by simpa [Value.ownBlock] using h2⟩
    have e1 : (l.take i ++ l.drop (i + 1)).length = l.length - 1 := by simp; omega
    rw [e1]; exact h1

set_option maxRecDepth 100000 in
theorem leaseFree_any (v : Value) (l : List PinT) (id : Int) (l2 : List PinT) (r : Int) (w : World) (hs : SliceOf pinE 3 w v l) (hlen : l.length ≤ 1000) (hg : freeP l id = (l2, r)) :
    Calls Try.prog 26 #[v, .int .i64 id] w fun e w' => ∃ (u : Value), e = .returned (.tuple #[u, .int .i64 r]) ∧ w'.ownsRow w.heap.size 44 3 u l2.length (l2.flatMap pinE) ∧ Below w.heap.size w w' := by
  have hfl := findP_lt l id
  have hB0 := Below.refl w.heap.size w
  have hl_hs := sl_len hs
  refine co_enter (n := 18) Try.func26 rfl rfl rfl [(0, v), (1, .int .i64 id)] rfl (fun a h0 => ?_)
  refine co_seq ?_
  refine co_reg ?_
  refine pl_val (v := .slice none 0 0) h0 rfl rfl rfl (by kernel_rfl) (by kernel_rfl) (by kernel_rfl) (fun a1 h1 => ?_); clear h0
  refine pl_val (v := .int .i64 0) h1 rfl rfl rfl (by kernel_rfl) (by kernel_rfl) (by kernel_rfl) (fun a2 h2 => ?_); clear h1
  refine pl_nil ?_
  refine co_then ?_
  refine co_seq ?_
  refine co_reg ?_
  refine pl_val (v := v) h2 rfl rfl rfl (by kernel_rfl) (by kernel_rfl) (by kernel_rfl) (fun a3 h3 => ?_); clear h2
  refine pl_val (v := .int .i64 id) h3 rfl rfl rfl (by kernel_rfl) (by kernel_rfl) (by kernel_rfl) (fun a4 h4 => ?_); clear h3
  refine pl_want h4 rfl rfl rfl (op_call (args := #[v, .int .i64 id]) (R := fun res xw => res = .int .i64 (findP l id) ∧ Below w.heap.size w xw) rfl rfl rfl (by kernel_rfl) (by kernel_rfl) (Try.call55 _ _) (place_any v l id w hs) (by rintro e x ⟨rfl, hb7⟩; exact ⟨_, rfl, ⟨rfl, hb7⟩⟩)) ?_; clear h4
  rintro _ w6 a5 ⟨rfl, hb7⟩ h5
  have hB8 := hb_call hB0 hb7
  have hz9 := hB8.size
  have hz10 := hb7.size
  refine pl_val (v := .int .i64 (findP l id)) h5 rfl rfl rfl (by kernel_rfl) (by kernel_rfl) (by kernel_rfl) (fun a11 h11 => ?_); clear h5
  refine pl_nil ?_
  refine co_then ?_
  refine co_seq ?_
  refine co_seq ?_
  refine co_reg ?_
  refine pl_val (v := .int .i64 (findP l id)) h11 rfl rfl rfl (by kernel_rfl) (by kernel_rfl) (by kernel_rfl) (fun a12 h12 => ?_); clear h11
  refine pl_val (v := .bool (decide (findP l id < 0))) h12 rfl rfl rfl (by kernel_rfl) (by kernel_rfl) (by kernel_rfl) (fun a13 h13 => ?_); clear h12
  refine pl_nil ?_
  refine co_then ?_
  cases hc14 : (decide (findP l id < 0))
  ·
    rw [hc14] at h13
    have hp15 : ¬ (findP l id < 0) := of_decide_eq_false hc14
    clear hc14
    refine co_false h13 rfl ?_
    refine wp_skip ?_
    refine co_then ?_
    refine co_seq ?_
    refine co_reg ?_
    refine pl_val (v := v) h13 rfl rfl rfl (by kernel_rfl) (by kernel_rfl) (by kernel_rfl) (fun a16 h16 => ?_); clear h13
    refine pl_want h16 rfl rfl rfl (op_call (args := #[v]) (R := fun res xw => ∃ u : Value, res = u ∧ xw.ownsRow w6.heap.size 44 3 u l.length (l.flatMap pinE) ∧ Below w6.heap.size w6 xw) rfl rfl rfl (by kernel_rfl) (by kernel_rfl) (Try.call21 _ _) (clonePin_any v l w6 (hs.below hB8) (by first | omega | (simp; done) | (simp; omega))) (by rintro e x ⟨u, rfl, hq20, hb21⟩; exact ⟨_, rfl, ⟨u, rfl, hq20, hb21⟩⟩)) ?_; clear h16
    rintro u19 w18 a17 ⟨_, rfl, hq20, hb21⟩ h17
    have hB22 := hb_call hB8 hb21
    have hz23 := hB22.size
    have hz24 := hb21.size
    have hl25 := sl_len (row_sl hq20 pinE_len)
    refine pl_val (v := .int .i64 (findP l id)) h17 rfl rfl rfl (by kernel_rfl) (by kernel_rfl) (by kernel_rfl) (fun a26 h26 => ?_); clear h17
    refine pl_val (v := .int .i64 (findP l id)) h26 rfl rfl rfl (by kernel_rfl) (by kernel_rfl) (by kernel_rfl) (fun a27 h27 => ?_); clear h26
    refine pl_val (v := .int .i64 ((findP l id) + 1)) h27 rfl rfl rfl (by kernel_rfl) (by kernel_rfl) (rn_arith rfl rfl rfl rfl rfl rfl (IntWalk.i64_in _ (by omega))) (fun a28 h28 => ?_); clear h27
    have hj0 : findP l id = (((findP l id).toNat : Nat) : Int) := by omega
    refine pl_want h28 rfl rfl rfl (op_call (args := #[u19, .int .i64 (findP l id), .int .i64 ((findP l id) + 1)]) (R := fun res xw => xw.ownsRow w6.heap.size 44 3 res (l.take (findP l id).toNat ++ l.drop ((findP l id).toNat + 1)).length ((l.take (findP l id).toNat ++ l.drop ((findP l id).toNat + 1)).flatMap pinE) ∧ w18.grownBy xw u19.ownBlock) rfl rfl rfl (by kernel_rfl) (by kernel_rfl) (Try.call56 _ _) (by have := del_any u19 l ((findP l id).toNat) (w6.heap.size) w18 hq20 (by omega); rw [← hj0] at this; exact this) (by rintro e x ⟨u, rfl, h1, h2⟩; exact ⟨_, rfl, h1, h2⟩)) ?_; clear h28
    rintro u33 w30 a29 ⟨hr31, hg32⟩ h29
    have hB34 := hb_row hB22 hq20 (by omega) hg32
    have hz35 := hB34.size
    have hz36 := hg32.size
    refine pl_val (v := u33) h29 rfl rfl rfl (by kernel_rfl) (by kernel_rfl) (by kernel_rfl) (fun a37 h37 => ?_); clear h29
    refine pl_val (v := .int .i64 0) h37 rfl rfl rfl (by kernel_rfl) (by kernel_rfl) (by kernel_rfl) (fun a38 h38 => ?_); clear h37
    refine pl_nil ?_
    refine co_then ?_
    refine wp_ret ?_
    refine co_ret2 h38 rfl rfl rfl ?_
    cases hg.symm.trans (free_ok (by omega) rfl)
    exact ⟨_, rfl, (row_lows hr31 (by omega)), hB34⟩
  ·
    rw [hc14] at h13
    have hp39 : findP l id < 0 := of_decide_eq_true hc14
    clear hc14
    refine co_true h13 rfl ?_
    refine co_seq ?_
    refine co_reg ?_
    refine pl_val (v := .slice none 0 0) h13 rfl rfl rfl (by kernel_rfl) (by kernel_rfl) (by kernel_rfl) (fun a40 h40 => ?_); clear h13
    refine pl_val (v := .int .i64 7) h40 rfl rfl rfl (by kernel_rfl) (by kernel_rfl) (by kernel_rfl) (fun a41 h41 => ?_); clear h40
    refine pl_nil ?_
    refine co_then ?_
    refine wp_ret ?_
    refine co_thenR ?_
    refine co_ret2 h41 rfl rfl rfl ?_
    cases hg.symm.trans (free_no (by omega))
    exact ⟨_, rfl, (row_nilL _ _ _ _ _), hB8⟩
end Go.Proofs.Ytglfoippcmckaaa

/- Walks that may turn some blocks that were there (S). Conditions: none. -/
namespace Go.Proofs.Ytglfoippcmckaaa
open Go.RowKit
set_option linter.unusedVariables false

section
variable {P : Program} {n : Nat} {m : List (Nat × Value)} {w x w0 : World} {o : Oper} {N : Nat} {T : TypeId} {cs : Array Value} {S : Nat → Prop}
theorem fb_new (h : But S w0 w) (hg : w.grownBy x none) : But S w0 x := h.trans (But.of_below (grown_below hg))
theorem fb_call (h : But S w0 w) (hb : Below w.heap.size w x) : But S w0 x := h.trans (But.of_below hb)
theorem fb_at (h : But S w0 w) (hg : w.grownBy x (some N)) (hN : N < w0.heap.size → S N) : But S w0 x :=
  h.trans' (S' := fun k => some N = some k) (grown_butU hg) (fun i hi e => by cases e; exact hN hi)
theorem fb_row {B sz k : Nat} {e : TypeId} {v : Value} {xs : List Value} (h : But S w0 w) (hr : w.ownsRow B e sz v k xs) (hB : w0.heap.size ≤ B) (hg : w.grownBy x v.ownBlock) : But S w0 x :=
  h.trans' (S' := fun k => v.ownBlock = some k) (grown_butU hg) (fun i hi e => by have := (hr.lt i e).1; omega)
theorem fb_foot {S' : Nat → Prop} (h : But S w0 w) (hb : But S' w x) (hs : ∀ i, i < w0.heap.size → S' i → S i) : But S w0 x := h.trans' hb hs
theorem hb_foot {S' : Nat → Prop} (h : Below w0.heap.size w0 w) (hb : But S' w x) (hs : ∀ i, i < w.heap.size → S' i → w0.heap.size ≤ i) : Below w0.heap.size w0 x := below_but h hb h.size hs
theorem Blk.but (h : Blk w N T cs) (hb : But S w x) (hn : ¬ S N) : Blk x N T cs := by
  have hl := h.lt
  unfold Blk at h ⊢
  rw [hb.block N hl hn]; exact h
theorem own_but {B sz k : Nat} {e : TypeId} {v : Value} {xs : List Value} (h : w.ownsRow B e sz v k xs) (hb : But S w x) (hn : ∀ i, v.ownBlock = some i → ¬ S i) : x.ownsRow B e sz v k xs := by
  obtain ⟨h1, h2⟩ := h
  refine ⟨h1, ?_⟩
  rcases h2 with h2 | ⟨g, cap, cur, hv, hg, hh, r⟩
  · exact Or.inl h2
  · exact Or.inr ⟨g, cap, cur, hv, hg, by rw [hb.block g (Array.getElem?_eq_some_iff.1 hh).1 (hn g (by rw [hv]; rfl))]; exact hh, r⟩
end
end Go.Proofs.Ytglfoippcmckaaa

/- Objects with a footprint: what holds of them depends on the blocks in S alone; a call turns S, and what it makes joins it. Conditions: none. -/
namespace Go.Proofs.Ytglfoippcmckaaa
open Go.RowKit Go.PlainAid
set_option linter.unusedVariables false

/-- S' holds what S held, and what was made since; nothing but S was turned. -/
structure Grew (S S' : Nat → Prop) (w x : World) : Prop where
  sub : ∀ q, S' q → S q ∨ w.heap.size ≤ q
  but : But S w x
section
variable {S S' D : Nat → Prop} {n N : Nat} {w x : World} {v u : Value} {T e : TypeId} {cs : Array Value} {B sz k : Nat} {xs : List Value}
theorem Grew.lo {n0 : Nat} (h : Grew S S' w x) (hlo : ∀ q, S q → n0 ≤ q) (hn : n0 ≤ w.heap.size) : ∀ q, S' q → n0 ≤ q := fun q hq => by
  rcases h.sub q hq with k | k
  · exact hlo q k
  · omega
theorem Grew.off (h : Grew S S' w x) (hN : ¬ S N) (hl : N < w.heap.size) : ¬ S' N := fun hq => by
  rcases h.sub N hq with k | k
  · exact hN k
  · omega
theorem row_sameL (h : w.ownsRow B e sz v k xs) (hk : ∀ i, v.ownBlock = some i → x.heap[i]? = w.heap[i]?) : x.ownsRow B e sz v k xs := by
  refine ⟨h.1, ?_⟩
  rcases h.2 with h1 | ⟨g, c, cur, rfl, hg, hh, h3⟩
  · exact .inl h1
  · exact .inr ⟨g, c, cur, rfl, hg, by rw [hk g rfl]; exact hh, h3⟩
end
end Go.Proofs.Ytglfoippcmckaaa

/- Package mstate: one that nobody made. Conditions: none. -/
namespace Go.Proofs.Ytglfoippcmckaaa
open Go.RowKit Go.PlainAid
set_option linter.unusedVariables false
set_option linter.unusedSimpArgs false


def mxI (a b : Int) : Int := if a < b then b else a
theorem mxI_p (a b : Int) : mxI a b ≥ a ∧ mxI a b ≥ b ∧ (mxI a b = a ∨ mxI a b = b) := by unfold mxI; split <;> omega
theorem sl_butS {α : Type} {enc : α → List Value} {sz : Nat} {w x : World} {v : Value} {l : List α} {S : Nat → Prop} (h : SliceOf enc sz w v l) (hb : But S w x) (hv : l ≠ [] → ∀ k, v.ownBlock = some k → ¬ S k) : SliceOf enc sz x v l := by
  obtain ⟨ao, cap, rfl, h1, h2, h3, h4⟩ := h
  refine ⟨ao, cap, rfl, h1, h2, h3, fun j hj => ?_⟩
  obtain ⟨b, off, rfl, hr⟩ := h4 j hj
  exact ⟨b, off, rfl, fun i u hu => hb.cell (hv (fun e => by rw [e] at hj; exact absurd hj (by simp)) b rfl) (hr i u hu)⟩
theorem co_unroll {P : Program} {c : Code} {Q : Exit → Act → World → Prop} {n : Nat} {a : Act} {w : World} (h : c.wp P (Exit.then (Code.rounds P c Q n) Q) a w) : Code.rounds P c Q (n + 1) a w := h

end Go.Proofs.Ytglfoippcmckaaa

/- Package mstate: New, pin. Conditions: at most three pins. -/
namespace Go.Proofs.Ytglfoippcmckaaa
open Go.RowKit Go.PlainAid
set_option linter.unusedVariables false
set_option linter.unusedSimpArgs false


abbrev SdT := Bool × Int × Int × Int × Int
theorem pinE_lenM (y : PinT) : (pinE y).length = 3 := rfl
theorem renewP_le (l : List PinT) (id : Int) : (renewP l id).1.length ≤ 3 ∨ ¬ l.length ≤ 3 := by
  by_cases h : l.length ≤ 3
  · left; unfold renewP; split
    · simp
    · simp; exact h
  · exact .inr h
theorem grantP_le (l : List PinT) (id ts : Int) : (grantP l id ts).1.length ≤ 3 ∨ ¬ l.length ≤ 3 := by
  left; unfold grantP
  split
  · simp
  · split
    · simp
    · split
      · simp
      · rw [List.length_append]; simp; omega
theorem freeP_le (l : List PinT) (id : Int) : (freeP l id).1.length ≤ 3 ∨ ¬ l.length ≤ 3 := by
  by_cases h : l.length ≤ 3
  · left; unfold freeP; split
    · simp
    · rw [List.length_append, List.length_take, List.length_drop]; have := findP_lt l id; omega
  · exact .inr h
/-- What a pin comes to: the answer, the pins, the greatest Id. -/
def pnF (pn : List PinT) (hz tp id at_ : Int) : Int × List PinT × Int :=
  if (renewP pn id).2 = 0 then (0, (renewP pn id).1, tp) else if (pn.length : Int) ≥ 3 then (17, pn, tp) else if id ≤ tp then (18, pn, tp) else if at_ < hz then (13, pn, tp)
  else if (grantP pn id at_).2 ≠ 0 then ((grantP pn id at_).2, pn, tp) else (0, (grantP pn id at_).1, id)
/-- What a note comes to, that is of no configuration, member or client. -/
def apF (pn : List PinT) (hz tp : Int) (d : NoteD) : Int × Int × List PinT × Int :=
  if chkN d ≠ 0 then (chkN d, hz, pn, tp) else if d.k = 4 then (if d.t < hz then (18, hz, pn, tp) else (0, d.t, pn, tp))
  else if d.k = 6 then ((pnF pn hz tp d.pid d.pat).1, hz, (pnF pn hz tp d.pid d.pat).2.1, (pnF pn hz tp d.pid d.pat).2.2)
  else if d.k = 7 then (0, hz, if (freeP pn d.n).2 = 0 then (freeP pn d.n).1 else pn, mxI tp d.n) else (11, hz, pn, tp)

set_option maxRecDepth 100000 in
theorem mszeroT (b : Nat) (ep : Int) (cv : Value) (fl : Int) (lgv : Value) (hz : Int) (pv : Value) (tp : Int) (x0 : SdT) (x1 : SdT) (x2 : SdT) (w : World) (hb : Blk w b 66 #[.bool true, .int .i64 ep, cv, .int .u64 fl, lgv, .int .u64 hz, pv, .int .i64 tp, .bool x0.1, .int .i64 x0.2.1, .int .i64 x0.2.2.1, .int .i64 x0.2.2.2.1, .int .i64 x0.2.2.2.2, .bool x1.1, .int .i64 x1.2.1, .int .i64 x1.2.2.1, .int .i64 x1.2.2.2.1, .int .i64 x1.2.2.2.2, .bool x2.1, .int .i64 x2.2.1, .int .i64 x2.2.2.1, .int .i64 x2.2.2.2.1, .int .i64 x2.2.2.2.2]) :
    Calls Try.prog 19 #[pt b 0] w fun e w' => e = .returned (.bool false) ∧ Below w.heap.size w w' := by
 have hB0 := Below.refl w.heap.size w
 have hl_hb := hb.lt
 refine co_enter (n := 12) Try.func19 rfl rfl rfl [(0, pt b 0)] rfl (fun a h0 => ?_)
 refine co_seq ?_
 refine co_reg ?_
 refine pk0 (v := .bool false) h0 rfl fun a1 h1 => ?_; clear h0
 refine pl_nil ?_
 refine co_then ?_
 refine co_seq ?_
 refine co_reg ?_
 refine pk0 (v := pt b 0) h1 rfl fun a2 h2 => ?_; clear h1
 refine pk0 (v := .bool false) h2 rfl fun a3 h3 => ?_; clear h2
 refine pk0 (v := .bool false) h3 rfl fun a4 h4 => ?_; clear h3
 refine pk0 (v := pt b 0) h4 rfl fun a5 h5 => ?_; clear h4
 refine pk0 (v := pt b 0) h5 rfl fun a6 h6 => ?_; clear h5
 refine pk0 (v := pt b 0) h6 rfl fun a7 h7 => ?_; clear h6
 refine pk (v := .bool true) h7 rfl (rn_load1 rfl rfl Try.isAgg4 (hb.cell rfl)) fun a8 h8 => ?_; clear h7
 refine pk0 (v := .bool false) h8 rfl fun a9 h9 => ?_; clear h8
 refine pk0 (v := .bool false) h9 rfl fun a10 h10 => ?_; clear h9
 refine pk0 (v := .bool false) h10 rfl fun a11 h11 => ?_; clear h10
 refine pl_nil ?_
 refine co_then ?_
 refine wp_ret ?_
 refine co_ret1 h11 rfl rfl ?_
 exact ⟨rfl, hB0⟩
set_option maxRecDepth 100000 in
theorem msNew_any  (w : World)  :
    Calls Try.prog 7 #[] w fun e w' => ∃ (N : Nat), e = .returned (pt N 0) ∧ Blk w' N 66 #[.bool true, .int .i64 0, .slice none 0 0, .int .u64 0, .slice none 0 0, .int .u64 0, .slice none 0 0, .int .i64 0, .bool false, .int .i64 0, .int .i64 0, .int .i64 0, .int .i64 0, .bool false, .int .i64 0, .int .i64 0, .int .i64 0, .int .i64 0, .bool false, .int .i64 0, .int .i64 0, .int .i64 0, .int .i64 0] ∧ w.heap.size ≤ N ∧ Below w.heap.size w w' := by
 have hB0 := Below.refl w.heap.size w
 refine co_enter (n := 3) Try.func7 rfl rfl rfl [] rfl (fun a h0 => ?_)
 refine co_seq ?_
 refine co_reg ?_
 refine pk0 (v := .pointer none) h0 rfl fun a1 h1 => ?_; clear h0
 refine pl_nil ?_
 refine co_then ?_
 refine co_seq ?_
 refine co_reg ?_
 refine pk0 (v := .agg #[.bool true, .int .i64 0, .slice none 0 0, .int .u64 0, .slice none 0 0, .int .u64 0, .slice none 0 0, .int .i64 0, .bool false, .int .i64 0, .int .i64 0, .int .i64 0, .int .i64 0, .bool false, .int .i64 0, .int .i64 0, .int .i64 0, .int .i64 0, .bool false, .int .i64 0, .int .i64 0, .int .i64 0, .int .i64 0]) h1 rfl fun a2 h2 => ?_; clear h1
 refine pw h2 rfl (op_new (v := fun N => pt N 0) (T := 66) (cs := #[.bool true, .int .i64 0, .slice none 0 0, .int .u64 0, .slice none 0 0, .int .u64 0, .slice none 0 0, .int .i64 0, .bool false, .int .i64 0, .int .i64 0, .int .i64 0, .int .i64 0, .bool false, .int .i64 0, .int .i64 0, .int .i64 0, .int .i64 0, .bool false, .int .i64 0, .int .i64 0, .int .i64 0, .int .i64 0]) (by kernel_rfl) (by kernel_rfl) (by kernel_rfl)) ?_; clear h2
 rintro _ w4 a3 ⟨N5, rfl, hN8, hz9, hk7, hg6⟩ h3
 have hz10 := hg6.size
 try dsimp only at h3
 refine pk0 (v := pt N5 0) h3 rfl fun a11 h11 => ?_; clear h3
 refine pl_nil ?_
 refine co_then ?_
 refine wp_ret ?_
 refine co_ret1 h11 rfl rfl ?_
 have hB12 := hb_new hB0 hg6
 exact ⟨_, rfl, hk7, by omega, hB12⟩
set_option maxRecDepth 100000 in
theorem msPin_any (b : Nat) (ep : Int) (cv : Value) (fl : Int) (lgv : Value) (hz : Int) (pv : Value) (pn : List PinT) (tp : Int) (x0 : SdT) (x1 : SdT) (x2 : SdT) (id : Int) (at_ : Int) (lf : Int) (w : World) (hb : Blk w b 66 #[.bool true, .int .i64 ep, cv, .int .u64 fl, lgv, .int .u64 hz, pv, .int .i64 tp, .bool x0.1, .int .i64 x0.2.1, .int .i64 x0.2.2.1, .int .i64 x0.2.2.2.1, .int .i64 x0.2.2.2.2, .bool x1.1, .int .i64 x1.2.1, .int .i64 x1.2.2.1, .int .i64 x1.2.2.2.1, .int .i64 x1.2.2.2.2, .bool x2.1, .int .i64 x2.2.1, .int .i64 x2.2.2.1, .int .i64 x2.2.2.2.1, .int .i64 x2.2.2.2.2]) (hpn : w.ownsRow 0 44 3 pv pn.length (pn.flatMap pinE)) (hp3 : pn.length ≤ 3) :
    Calls Try.prog 25 #[pt b 0, .agg #[.int .i64 id, .int .u64 at_, .int .i64 lf]] w fun e w' => ∃ (pv2 : Value), e = .returned (.int .i64 ((pnF pn hz tp id at_).1)) ∧ Blk w' b 66 #[.bool true, .int .i64 ep, cv, .int .u64 fl, lgv, .int .u64 hz, pv2, .int .i64 ((pnF pn hz tp id at_).2.2), .bool x0.1, .int .i64 x0.2.1, .int .i64 x0.2.2.1, .int .i64 x0.2.2.2.1, .int .i64 x0.2.2.2.2, .bool x1.1, .int .i64 x1.2.1, .int .i64 x1.2.2.1, .int .i64 x1.2.2.2.1, .int .i64 x1.2.2.2.2, .bool x2.1, .int .i64 x2.2.1, .int .i64 x2.2.2.1, .int .i64 x2.2.2.2.1, .int .i64 x2.2.2.2.2] ∧ w'.ownsRow 0 44 3 pv2 ((pnF pn hz tp id at_).2.1).length (((pnF pn hz tp id at_).2.1).flatMap pinE) ∧ ((pnF pn hz tp id at_).2.1).length ≤ 3 ∧ But (fun q => q = b) w w' := by
 have hB0 := But.refl (fun q => q = b) w
 have hl_hb := hb.lt
 refine co_enter (n := 69) Try.func25 rfl rfl rfl [(0, pt b 0), (1, .agg #[.int .i64 id, .int .u64 at_, .int .i64 lf])] rfl (fun a h0 => ?_)
 refine co_seq ?_
 refine co_reg ?_
 refine pw h0 rfl (op_new (v := fun N => pt N 0) (T := 44) (cs := #[.int .i64 id, .int .u64 at_, .int .i64 lf]) (by kernel_rfl) (by kernel_rfl) (by kernel_rfl)) ?_; clear h0
 rintro _ w2 a1 ⟨N3, rfl, hN6, hz7, hk5, hg4⟩ h1
 have ha8 := row_fresh hpn hN6
 have hz9 := hg4.size
 try dsimp only at h1
 refine pk0 (v := .int .i64 0) h1 rfl fun a10 h10 => ?_; clear h1
 refine pl_nil ?_
 refine co_then ?_
 refine co_seq ?_
 refine co_seq ?_
 refine dr_gen (fun x => But (fun q => q = b) w x ∧ Blk x b 66 #[.bool true, .int .i64 ep, cv, .int .u64 fl, lgv, .int .u64 hz, pv, .int .i64 tp, .bool x0.1, .int .i64 x0.2.1, .int .i64 x0.2.2.1, .int .i64 x0.2.2.2.1, .int .i64 x0.2.2.2.2, .bool x1.1, .int .i64 x1.2.1, .int .i64 x1.2.2.1, .int .i64 x1.2.2.2.1, .int .i64 x1.2.2.2.2, .bool x2.1, .int .i64 x2.2.1, .int .i64 x2.2.2.1, .int .i64 x2.2.2.2.1, .int .i64 x2.2.2.2.2] ∧ Blk x N3 44 #[.int .i64 id, .int .u64 at_, .int .i64 lf]) (by kernel_rfl) (fun w11 hg12 => ?_) (fun w11 hg12 => ?_)
 ·
  have hz13 := hg12.size
  have hB14 := fb_new hB0 hg4
  have hB15 := fb_new hB14 hg12
  have hk16 := hb.kept hg4 (by simp)
  have hk17 := hk16.kept hg12 (by simp)
  have hk18 := hk5.kept hg12 (by simp)
  exact ⟨hB15, hk17, hk18⟩
 have hz19 := hg12.size
 have hB20 := fb_new hB0 hg4
 have hB21 := fb_new hB20 hg12
 have hk22 := hb.kept hg4 (by simp)
 have hk23 := hk22.kept hg12 (by simp)
 have hk24 := hk5.kept hg12 (by simp)
 refine dk0 0 (v := pt b 0) h10 rfl rfl ⟨hB21, hk23, hk24⟩ fun a25 h25 => ?_; clear h10
 refine dk0 1 (v := pt b 0) h25 rfl rfl ⟨hB21, hk23, hk24⟩ fun a26 h26 => ?_; clear h25
 refine dk0 2 (v := pt b 6) h26 rfl rfl ⟨hB21, hk23, hk24⟩ fun a27 h27 => ?_; clear h26
 refine dk 3 (v := pv) h27 rfl rfl ⟨hB21, hk23, hk24⟩ (fun x hx => (rn_load1 rfl rfl Try.isAgg33 (hx.2.1.cell rfl))) fun a28 h28 => ?_; clear h27
 refine dk0 4 (v := pt N3 0) h28 rfl rfl ⟨hB21, hk23, hk24⟩ fun a29 h29 => ?_; clear h28
 refine dk 5 (v := .int .i64 id) h29 rfl rfl ⟨hB21, hk23, hk24⟩ (fun x hx => (rn_load1 rfl rfl Try.isAgg3 (hx.2.2.cell rfl))) fun a30 h30 => ?_; clear h29
 have hr33 := row_kept_new hpn hg4
 have hr34 := row_kept_new hr33 hg12
 refine d1 6 h30 rfl rfl (op_call (args := #[pv, .int .i64 id]) (R := fun res xw => ∃ u : Value, res = .tuple #[u, .int .i64 ((renewP pn id).2)] ∧ xw.ownsRow w11.heap.size 44 3 u ((renewP pn id).1).length (((renewP pn id).1).flatMap pinE) ∧ Below w11.heap.size w11 xw) rfl rfl rfl (by kernel_rfl) (by kernel_rfl) (Try.call53 _ _) (leaseRenew_any pv pn id (renewP pn id).1 (renewP pn id).2 w11 (row_sl hr34 pinE_len) (by omega) rfl) (by rintro e x ⟨u, rfl, h⟩; exact ⟨_, rfl, u, rfl, h⟩)) ?_ ?_; clear h30
 ·
  rintro _ w32 ⟨u35, rfl, hr36, hb37⟩
  have hz41 := hb37.size
  have hle42 := renewP_le pn id
  have hB43 := fb_call hB21 hb37
  have hk44 := hk23.below hb37
  have hk45 := hk24.below hb37
  exact ⟨hB43, hk44, hk45⟩
 rintro _ w32 a31 ⟨u35, rfl, hr36, hb37⟩ h31
 have hz41 := hb37.size
 have hle42 := renewP_le pn id
 have hB43 := fb_call hB21 hb37
 have hk44 := hk23.below hb37
 have hk45 := hk24.below hb37
 refine dk0 7 (v := .tuple #[u35, .int .i64 ((renewP pn id).2)]) h31 rfl rfl ⟨hB43, hk44, hk45⟩ fun a46 h46 => ?_; clear h31
 refine dk0 8 (v := u35) h46 rfl rfl ⟨hB43, hk44, hk45⟩ fun a47 h47 => ?_; clear h46
 refine dk0 9 (v := .int .i64 ((renewP pn id).2)) h47 rfl rfl ⟨hB43, hk44, hk45⟩ fun a48 h48 => ?_; clear h47
 refine dk0 10 (v := u35) h48 rfl rfl ⟨hB43, hk44, hk45⟩ fun a49 h49 => ?_; clear h48
 refine dk0 11 (v := .int .i64 ((renewP pn id).2)) h49 rfl rfl ⟨hB43, hk44, hk45⟩ fun a50 h50 => ?_; clear h49
 refine dr_done (by kernel_rfl) ?_
 refine co_then ?_
 refine co_seq ?_
 refine co_reg ?_
 refine pk0 (v := .int .i64 ((renewP pn id).2)) h50 rfl fun a51 h51 => ?_; clear h50
 refine pk0 (v := .bool ((renewP pn id).2 == 0)) h51 rfl fun a52 h52 => ?_; clear h51
 refine pl_nil ?_
 refine co_then ?_
 cases hc53 : ((renewP pn id).2 == 0)
 ·
  rw [hc53] at h52
  have hp54 : ¬ ((renewP pn id).2 = 0) := by first | simpa using hc53 | simpa [and_assoc] using hc53
  clear hc53
  refine co_false h52 rfl ?_
  refine wp_skip ?_
  refine co_then ?_
  refine co_seq ?_
  refine co_seq ?_
  refine co_reg ?_
  refine pk0 (v := pt b 0) h52 rfl fun a55 h55 => ?_; clear h52
  refine pk0 (v := pt b 0) h55 rfl fun a56 h56 => ?_; clear h55
  refine pk0 (v := pt b 6) h56 rfl fun a57 h57 => ?_; clear h56
  refine pk (v := pv) h57 rfl (rn_load1 rfl rfl Try.isAgg33 (hk44.cell rfl)) fun a58 h58 => ?_; clear h57
  have hr59 := row_kept_new hr34 (below_grown hb37)
  refine pk (v := .int .i64 ((pn.length : Nat) : Int)) h58 rfl (rn_lenOwn rfl rfl Try.underlying33 hr59) fun a60 h60 => ?_; clear h58
  refine pk0 (v := .bool (decide (((pn.length : Nat) : Int) ≥ 3))) h60 rfl fun a61 h61 => ?_; clear h60
  refine pl_nil ?_
  refine co_then ?_
  cases hc62 : (decide (((pn.length : Nat) : Int) ≥ 3))
  ·
   rw [hc62] at h61
   have hp63 : ¬ (((pn.length : Nat) : Int) ≥ 3) := of_decide_eq_false hc62
   clear hc62
   refine co_false h61 rfl ?_
   refine wp_skip ?_
   refine co_then ?_
   refine co_seq ?_
   refine co_seq ?_
   refine dr_eq (by kernel_rfl) (fun w64 hg65 => ?_)
   have hz66 := hg65.size
   refine dk0 0 (v := pt N3 0) h61 rfl rfl rfl fun a67 h67 => ?_; clear h61
   have hk68 := hk45.kept hg65 (by simp)
   refine dk 1 (v := .int .i64 id) h67 rfl rfl rfl (fun x hx => by subst hx; exact (rn_load1 rfl rfl Try.isAgg3 (hk68.cell rfl))) fun a69 h69 => ?_; clear h67
   refine dk0 2 (v := pt b 0) h69 rfl rfl rfl fun a70 h70 => ?_; clear h69
   refine dk0 3 (v := pt b 0) h70 rfl rfl rfl fun a71 h71 => ?_; clear h70
   refine dk0 4 (v := pt b 7) h71 rfl rfl rfl fun a72 h72 => ?_; clear h71
   have hk73 := hk44.kept hg65 (by simp)
   refine dk 5 (v := .int .i64 tp) h72 rfl rfl rfl (fun x hx => by subst hx; exact (rn_load1 rfl rfl Try.isAgg3 (hk73.cell rfl))) fun a74 h74 => ?_; clear h72
   refine dk0 6 (v := .bool (decide (id ≤ tp))) h74 rfl rfl rfl fun a75 h75 => ?_; clear h74
   refine dr_done (by kernel_rfl) ?_
   refine co_then ?_
   have hB77 := fb_new hB43 hg65
   cases hc76 : (decide (id ≤ tp))
   ·
    rw [hc76] at h75
    have hp78 : ¬ (id ≤ tp) := of_decide_eq_false hc76
    clear hc76
    refine co_false h75 rfl ?_
    refine wp_skip ?_
    refine co_then ?_
    refine co_seq ?_
    refine co_seq ?_
    refine dr_eq (by kernel_rfl) (fun w79 hg80 => ?_)
    have hz81 := hg80.size
    refine dk0 0 (v := pt N3 1) h75 rfl rfl rfl fun a82 h82 => ?_; clear h75
    have hk83 := hk68.kept hg80 (by simp)
    refine dk 1 (v := .int .u64 at_) h82 rfl rfl rfl (fun x hx => by subst hx; exact (rn_load1 rfl rfl Try.isAgg27 (hk83.cell rfl))) fun a84 h84 => ?_; clear h82
    refine dk0 2 (v := pt b 0) h84 rfl rfl rfl fun a85 h85 => ?_; clear h84
    refine dk0 3 (v := pt b 0) h85 rfl rfl rfl fun a86 h86 => ?_; clear h85
    refine dk0 4 (v := pt b 5) h86 rfl rfl rfl fun a87 h87 => ?_; clear h86
    have hk88 := hk73.kept hg80 (by simp)
    refine dk 5 (v := .int .u64 hz) h87 rfl rfl rfl (fun x hx => by subst hx; exact (rn_load1 rfl rfl Try.isAgg27 (hk88.cell rfl))) fun a89 h89 => ?_; clear h87
    refine dk0 6 (v := .bool (decide (at_ < hz))) h89 rfl rfl rfl fun a90 h90 => ?_; clear h89
    refine dr_done (by kernel_rfl) ?_
    refine co_then ?_
    have hB92 := fb_new hB77 hg80
    have hr93 := row_kept_new hr59 hg65
    have hr94 := row_kept_new hr93 hg80
    have hr95 := row_kept_new hr36 hg65
    have hr96 := row_kept_new hr95 hg80
    cases hc91 : (decide (at_ < hz))
    ·
     rw [hc91] at h90
     have hp97 : ¬ (at_ < hz) := of_decide_eq_false hc91
     clear hc91
     refine co_false h90 rfl ?_
     refine wp_skip ?_
     refine co_then ?_
     refine co_seq ?_
     refine dr_gen (fun x => But (fun q => q = b) w x ∧ Blk x b 66 #[.bool true, .int .i64 ep, cv, .int .u64 fl, lgv, .int .u64 hz, pv, .int .i64 tp, .bool x0.1, .int .i64 x0.2.1, .int .i64 x0.2.2.1, .int .i64 x0.2.2.2.1, .int .i64 x0.2.2.2.2, .bool x1.1, .int .i64 x1.2.1, .int .i64 x1.2.2.1, .int .i64 x1.2.2.2.1, .int .i64 x1.2.2.2.2, .bool x2.1, .int .i64 x2.2.1, .int .i64 x2.2.2.1, .int .i64 x2.2.2.2.1, .int .i64 x2.2.2.2.2] ∧ Blk x N3 44 #[.int .i64 id, .int .u64 at_, .int .i64 lf]) (by kernel_rfl) (fun w98 hg99 => ?_) (fun w98 hg99 => ?_)
     ·
      have hz100 := hg99.size
      have hB101 := fb_new hB92 hg99
      have hk102 := hk88.kept hg99 (by simp)
      have hk103 := hk83.kept hg99 (by simp)
      exact ⟨hB101, hk102, hk103⟩
     have hz104 := hg99.size
     have hB105 := fb_new hB92 hg99
     have hk106 := hk88.kept hg99 (by simp)
     have hk107 := hk83.kept hg99 (by simp)
     refine dk0 0 (v := pt b 0) h90 rfl rfl ⟨hB105, hk106, hk107⟩ fun a108 h108 => ?_; clear h90
     refine dk0 1 (v := pt b 0) h108 rfl rfl ⟨hB105, hk106, hk107⟩ fun a109 h109 => ?_; clear h108
     refine dk0 2 (v := pt b 6) h109 rfl rfl ⟨hB105, hk106, hk107⟩ fun a110 h110 => ?_; clear h109
     refine dk 3 (v := pv) h110 rfl rfl ⟨hB105, hk106, hk107⟩ (fun x hx => (rn_load1 rfl rfl Try.isAgg33 (hx.2.1.cell rfl))) fun a111 h111 => ?_; clear h110
     refine dk0 4 (v := pt N3 0) h111 rfl rfl ⟨hB105, hk106, hk107⟩ fun a112 h112 => ?_; clear h111
     refine dk 5 (v := .int .i64 id) h112 rfl rfl ⟨hB105, hk106, hk107⟩ (fun x hx => (rn_load1 rfl rfl Try.isAgg3 (hx.2.2.cell rfl))) fun a113 h113 => ?_; clear h112
     refine dk0 6 (v := pt N3 1) h113 rfl rfl ⟨hB105, hk106, hk107⟩ fun a114 h114 => ?_; clear h113
     refine dk 7 (v := .int .u64 at_) h114 rfl rfl ⟨hB105, hk106, hk107⟩ (fun x hx => (rn_load1 rfl rfl Try.isAgg27 (hx.2.2.cell rfl))) fun a115 h115 => ?_; clear h114
     have hr124 := row_kept_new hr94 hg99
     refine d1 8 h115 rfl rfl (op_call (args := #[pv, .int .i64 id, .int .u64 at_]) (R := fun res xw => ∃ u : Value, res = .tuple #[u, .int .i64 ((grantP pn id at_).2)] ∧ xw.ownsRow w98.heap.size 44 3 u ((grantP pn id at_).1).length (((grantP pn id at_).1).flatMap pinE) ∧ Below w98.heap.size w98 xw) rfl rfl rfl (by kernel_rfl) (by kernel_rfl) (Try.call54 _ _) (leaseGrant_any pv pn id at_ (grantP pn id at_).1 (grantP pn id at_).2 w98 (row_sl hr124 pinE_len) (by omega) rfl) (by rintro e x ⟨u, rfl, h⟩; exact ⟨_, rfl, u, rfl, h⟩)) ?_ ?_; clear h115
     ·
      rintro _ w117 ⟨u118, rfl, hr119, hb120⟩
      have hz125 := hb120.size
      have hle126 := grantP_le pn id at_
      have hB127 := fb_call hB105 hb120
      have hk128 := hk106.below hb120
      have hk129 := hk107.below hb120
      exact ⟨hB127, hk128, hk129⟩
     rintro _ w117 a116 ⟨u118, rfl, hr119, hb120⟩ h116
     have hz125 := hb120.size
     have hle126 := grantP_le pn id at_
     have hB127 := fb_call hB105 hb120
     have hk128 := hk106.below hb120
     have hk129 := hk107.below hb120
     refine dk0 9 (v := .tuple #[u118, .int .i64 ((grantP pn id at_).2)]) h116 rfl rfl ⟨hB127, hk128, hk129⟩ fun a130 h130 => ?_; clear h116
     refine dk0 10 (v := u118) h130 rfl rfl ⟨hB127, hk128, hk129⟩ fun a131 h131 => ?_; clear h130
     refine dk0 11 (v := .int .i64 ((grantP pn id at_).2)) h131 rfl rfl ⟨hB127, hk128, hk129⟩ fun a132 h132 => ?_; clear h131
     refine dk0 12 (v := u118) h132 rfl rfl ⟨hB127, hk128, hk129⟩ fun a133 h133 => ?_; clear h132
     refine dk0 13 (v := .int .i64 ((grantP pn id at_).2)) h133 rfl rfl ⟨hB127, hk128, hk129⟩ fun a134 h134 => ?_; clear h133
     refine dr_done (by kernel_rfl) ?_
     refine co_then ?_
     refine co_seq ?_
     refine co_seq ?_
     refine co_reg ?_
     refine pk0 (v := .int .i64 ((grantP pn id at_).2)) h134 rfl fun a135 h135 => ?_; clear h134
     refine pk0 (v := .bool ((grantP pn id at_).2 != 0)) h135 rfl fun a136 h136 => ?_; clear h135
     refine pl_nil ?_
     refine co_then ?_
     have hr138 := row_kept_new hr96 hg99
     have hr139 := row_kept_new hr138 (below_grown hb120)
     cases hc137 : ((grantP pn id at_).2 != 0)
     ·
      rw [hc137] at h136
      have hp140 : ¬ ((grantP pn id at_).2 ≠ 0) := by first | simpa using hc137 | simpa [and_assoc] using hc137
      clear hc137
      refine co_false h136 rfl ?_
      refine wp_skip ?_
      refine co_then ?_
      refine co_seq ?_
      refine dr_gen (fun x => But (fun q => q = b) w x ∧ Blk x N3 44 #[.int .i64 id, .int .u64 at_, .int .i64 lf]) (by kernel_rfl) (fun w141 hg142 => ?_) (fun w141 hg142 => ?_)
      ·
       have hz143 := hg142.size
       have hB144 := fb_new hB127 hg142
       have hk145 := hk129.kept hg142 (by simp)
       exact ⟨hB144, hk145⟩
      have hz146 := hg142.size
      have hB147 := fb_new hB127 hg142
      have hk148 := hk129.kept hg142 (by simp)
      refine dk0 0 (v := pt b 0) h136 rfl rfl ⟨hB147, hk148⟩ fun a149 h149 => ?_; clear h136
      refine dk0 1 (v := pt b 0) h149 rfl rfl ⟨hB147, hk148⟩ fun a150 h150 => ?_; clear h149
      refine dk0 2 (v := u118) h150 rfl rfl ⟨hB147, hk148⟩ fun a151 h151 => ?_; clear h150
      refine dk0 3 (v := pt N3 0) h151 rfl rfl ⟨hB147, hk148⟩ fun a152 h152 => ?_; clear h151
      refine dk 4 (v := .int .i64 id) h152 rfl rfl ⟨hB147, hk148⟩ (fun x hx => (rn_load1 rfl rfl Try.isAgg3 (hx.2.cell rfl))) fun a153 h153 => ?_; clear h152
      refine dk0 5 (v := pt b 0) h153 rfl rfl ⟨hB147, hk148⟩ fun a154 h154 => ?_; clear h153
      refine dk0 6 (v := pt b 6) h154 rfl rfl ⟨hB147, hk148⟩ fun a155 h155 => ?_; clear h154
      have hr161 := row_kept_new hr119 hg142
      have hk162 := hk128.kept hg142 (by simp)
      refine d1D 7 h155 rfl rfl (op_store1 rfl rfl rfl (row_one hr161) Try.sizeOf33 hk162 rfl) ?_ ?_; clear h155
      ·
       rintro _ w157 ⟨hk158, hz159, hg160⟩
       have hk158' : Blk w157 b 66 #[.bool true, .int .i64 ep, cv, .int .u64 fl, lgv, .int .u64 hz, u118, .int .i64 tp, .bool x0.1, .int .i64 x0.2.1, .int .i64 x0.2.2.1, .int .i64 x0.2.2.2.1, .int .i64 x0.2.2.2.2, .bool x1.1, .int .i64 x1.2.1, .int .i64 x1.2.2.1, .int .i64 x1.2.2.2.1, .int .i64 x1.2.2.2.2, .bool x2.1, .int .i64 x2.2.1, .int .i64 x2.2.2.1, .int .i64 x2.2.2.2.1, .int .i64 x2.2.2.2.2] := hk158; clear hk158
       have hz163 := hg160.size
       have hB164 := fb_at hB147 hg160 (fun hlt => by first | (exfalso; omega) | (simp; done) | simp_all)
       have hk165 := hk148.kept hg160 (by simp; omega)
       exact ⟨hB164, hk165⟩
      rintro _ w157 a156 ⟨hk158, hz159, hg160⟩ h156
      have hk158' : Blk w157 b 66 #[.bool true, .int .i64 ep, cv, .int .u64 fl, lgv, .int .u64 hz, u118, .int .i64 tp, .bool x0.1, .int .i64 x0.2.1, .int .i64 x0.2.2.1, .int .i64 x0.2.2.2.1, .int .i64 x0.2.2.2.2, .bool x1.1, .int .i64 x1.2.1, .int .i64 x1.2.2.1, .int .i64 x1.2.2.2.1, .int .i64 x1.2.2.2.2, .bool x2.1, .int .i64 x2.2.1, .int .i64 x2.2.2.1, .int .i64 x2.2.2.2.1, .int .i64 x2.2.2.2.2] := hk158; clear hk158
      have hz163 := hg160.size
      have hB164 := fb_at hB147 hg160 (fun hlt => by first | (exfalso; omega) | (simp; done) | simp_all)
      have hk165 := hk148.kept hg160 (by simp; omega)
      refine dk0 8 (v := pt b 0) h156 rfl rfl ⟨hB164, hk165⟩ fun a166 h166 => ?_; clear h156
      refine dk0 9 (v := pt b 7) h166 rfl rfl ⟨hB164, hk165⟩ fun a167 h167 => ?_; clear h166
      refine d1D 10 h167 rfl rfl (op_store1 rfl rfl rfl rfl Try.sizeOf3 hk158' rfl) ?_ ?_; clear h167
      ·
       rintro _ w169 ⟨hk170, hz171, hg172⟩
       have hk170' : Blk w169 b 66 #[.bool true, .int .i64 ep, cv, .int .u64 fl, lgv, .int .u64 hz, u118, .int .i64 id, .bool x0.1, .int .i64 x0.2.1, .int .i64 x0.2.2.1, .int .i64 x0.2.2.2.1, .int .i64 x0.2.2.2.2, .bool x1.1, .int .i64 x1.2.1, .int .i64 x1.2.2.1, .int .i64 x1.2.2.2.1, .int .i64 x1.2.2.2.2, .bool x2.1, .int .i64 x2.2.1, .int .i64 x2.2.2.1, .int .i64 x2.2.2.2.1, .int .i64 x2.2.2.2.2] := hk170; clear hk170
       have hz173 := hg172.size
       have hB174 := fb_at hB164 hg172 (fun hlt => by first | (exfalso; omega) | (simp; done) | simp_all)
       have hk175 := hk165.kept hg172 (by simp; omega)
       exact ⟨hB174, hk175⟩
      rintro _ w169 a168 ⟨hk170, hz171, hg172⟩ h168
      have hk170' : Blk w169 b 66 #[.bool true, .int .i64 ep, cv, .int .u64 fl, lgv, .int .u64 hz, u118, .int .i64 id, .bool x0.1, .int .i64 x0.2.1, .int .i64 x0.2.2.1, .int .i64 x0.2.2.2.1, .int .i64 x0.2.2.2.2, .bool x1.1, .int .i64 x1.2.1, .int .i64 x1.2.2.1, .int .i64 x1.2.2.2.1, .int .i64 x1.2.2.2.2, .bool x2.1, .int .i64 x2.2.1, .int .i64 x2.2.2.1, .int .i64 x2.2.2.2.1, .int .i64 x2.2.2.2.2] := hk170; clear hk170
      have hz173 := hg172.size
      refine dr_done (by kernel_rfl) ?_
      refine co_then ?_
      refine co_seq ?_
      refine co_reg ?_
      refine pk0 (v := .int .i64 0) h168 rfl fun a174 h174 => ?_; clear h168
      refine pl_nil ?_
      refine co_then ?_
      refine wp_ret ?_
      refine co_ret1 h174 rfl rfl ?_
      have hr175 := row_kept_at hr161 hg160 (own_neT hr161 hk162 (by decide))
      have hr176 := row_kept_at hr175 hg172 (own_neT hr175 hk158' (by decide))
      have hB177 := fb_at hB164 hg172 (fun hlt => by first | (exfalso; omega) | (simp; done) | simp_all)
      have hA : pnF pn hz tp id at_ = (0, (grantP pn id at_).1, id) := by unfold pnF; (repeat (first | rw [if_pos (by omega)] | rw [if_neg (by omega)]))
      exact ⟨u118, by rw [hA], by rw [hA]; exact hk170', by rw [hA]; exact row_lows hr176 (Nat.zero_le _), by rw [hA]; show ((grantP pn id at_).1).length ≤ 3; omega, hB177⟩
     ·
      rw [hc137] at h136
      have hp178 : (grantP pn id at_).2 ≠ 0 := by first | simpa using hc137 | simpa [and_assoc] using hc137
      clear hc137
      refine co_true h136 rfl ?_
      refine co_seq ?_
      refine co_reg ?_
      refine pk0 (v := .int .i64 ((grantP pn id at_).2)) h136 rfl fun a179 h179 => ?_; clear h136
      refine pk0 (v := .int .i64 ((grantP pn id at_).2)) h179 rfl fun a180 h180 => ?_; clear h179
      refine pl_nil ?_
      refine co_then ?_
      refine wp_ret ?_
      refine co_thenR ?_
      refine co_ret1 h180 rfl rfl ?_
      have hr181 := row_kept_new hr124 (below_grown hb120)
      have hA : pnF pn hz tp id at_ = ((grantP pn id at_).2, pn, tp) := by unfold pnF; (repeat (first | rw [if_pos (by omega)] | rw [if_neg (by omega)]))
      exact ⟨pv, by rw [hA], by rw [hA]; exact hk128, by rw [hA]; exact row_lows hr181 (Nat.zero_le _), by rw [hA]; show pn.length ≤ 3; omega, hB127⟩
    ·
     rw [hc91] at h90
     have hp182 : at_ < hz := of_decide_eq_true hc91
     clear hc91
     refine co_true h90 rfl ?_
     refine co_seq ?_
     refine co_reg ?_
     refine pk0 (v := .int .i64 13) h90 rfl fun a183 h183 => ?_; clear h90
     refine pl_nil ?_
     refine co_then ?_
     refine wp_ret ?_
     refine co_thenR ?_
     refine co_ret1 h183 rfl rfl ?_
     have hA : pnF pn hz tp id at_ = (13, pn, tp) := by unfold pnF; (repeat (first | rw [if_pos (by omega)] | rw [if_neg (by omega)]))
     exact ⟨pv, by rw [hA], by rw [hA]; exact hk88, by rw [hA]; exact row_lows hr94 (Nat.zero_le _), by rw [hA]; show pn.length ≤ 3; omega, hB92⟩
   ·
    rw [hc76] at h75
    have hp184 : id ≤ tp := of_decide_eq_true hc76
    clear hc76
    refine co_true h75 rfl ?_
    refine co_seq ?_
    refine co_reg ?_
    refine pk0 (v := .int .i64 18) h75 rfl fun a185 h185 => ?_; clear h75
    refine pl_nil ?_
    refine co_then ?_
    refine wp_ret ?_
    refine co_thenR ?_
    refine co_ret1 h185 rfl rfl ?_
    have hr186 := row_kept_new hr59 hg65
    have hA : pnF pn hz tp id at_ = (18, pn, tp) := by unfold pnF; (repeat (first | rw [if_pos (by omega)] | rw [if_neg (by omega)]))
    exact ⟨pv, by rw [hA], by rw [hA]; exact hk73, by rw [hA]; exact row_lows hr186 (Nat.zero_le _), by rw [hA]; show pn.length ≤ 3; omega, hB77⟩
  ·
   rw [hc62] at h61
   have hp187 : ((pn.length : Nat) : Int) ≥ 3 := of_decide_eq_true hc62
   clear hc62
   refine co_true h61 rfl ?_
   refine co_seq ?_
   refine co_reg ?_
   refine pk0 (v := .int .i64 17) h61 rfl fun a188 h188 => ?_; clear h61
   refine pl_nil ?_
   refine co_then ?_
   refine wp_ret ?_
   refine co_thenR ?_
   refine co_ret1 h188 rfl rfl ?_
   have hA : pnF pn hz tp id at_ = (17, pn, tp) := by unfold pnF; (repeat (first | rw [if_pos (by omega)] | rw [if_neg (by omega)]))
   exact ⟨pv, by rw [hA], by rw [hA]; exact hk44, by rw [hA]; exact row_lows hr59 (Nat.zero_le _), by rw [hA]; show pn.length ≤ 3; omega, hB43⟩
 ·
  rw [hc53] at h52
  have hp189 : (renewP pn id).2 = 0 := by first | simpa using hc53 | simpa [and_assoc] using hc53
  clear hc53
  refine co_true h52 rfl ?_
  refine co_seq ?_
  refine co_reg ?_
  refine pk0 (v := pt b 0) h52 rfl fun a190 h190 => ?_; clear h52
  refine pk0 (v := u35) h190 rfl fun a191 h191 => ?_; clear h190
  refine pk0 (v := pt b 0) h191 rfl fun a192 h192 => ?_; clear h191
  refine pk0 (v := pt b 6) h192 rfl fun a193 h193 => ?_; clear h192
  refine pwD h193 rfl (op_store1 rfl rfl rfl (row_one hr36) Try.sizeOf33 hk44 rfl) ?_; clear h193
  rintro _ w195 a194 ⟨hk196, hz197, hg198⟩ h194
  have hk196' : Blk w195 b 66 #[.bool true, .int .i64 ep, cv, .int .u64 fl, lgv, .int .u64 hz, u35, .int .i64 tp, .bool x0.1, .int .i64 x0.2.1, .int .i64 x0.2.2.1, .int .i64 x0.2.2.2.1, .int .i64 x0.2.2.2.2, .bool x1.1, .int .i64 x1.2.1, .int .i64 x1.2.2.1, .int .i64 x1.2.2.2.1, .int .i64 x1.2.2.2.2, .bool x2.1, .int .i64 x2.2.1, .int .i64 x2.2.2.1, .int .i64 x2.2.2.2.1, .int .i64 x2.2.2.2.2] := hk196; clear hk196
  have hz199 := hg198.size
  refine pl_nil ?_
  refine co_then ?_
  refine co_seq ?_
  refine co_reg ?_
  refine pk0 (v := .int .i64 0) h194 rfl fun a200 h200 => ?_; clear h194
  refine pl_nil ?_
  refine co_then ?_
  refine wp_ret ?_
  refine co_thenR ?_
  refine co_ret1 h200 rfl rfl ?_
  have hr201 := row_kept_at hr36 hg198 (own_neT hr36 hk44 (by decide))
  have hB202 := fb_at hB43 hg198 (fun hlt => by first | (exfalso; omega) | (simp; done) | simp_all)
  have hA : pnF pn hz tp id at_ = (0, (renewP pn id).1, tp) := by unfold pnF; (repeat (first | rw [if_pos (by omega)] | rw [if_neg (by omega)]))
  exact ⟨u35, by rw [hA], by rw [hA]; exact hk196', by rw [hA]; exact row_lows hr201 (Nat.zero_le _), by rw [hA]; show ((renewP pn id).1).length ≤ 3; omega, hB202⟩
end Go.Proofs.Ytglfoippcmckaaa

/- Package mstate: Apply of pins and horizons, Pins, Top, Horizon. Conditions: at most three pins. -/
namespace Go.Proofs.Ytglfoippcmckaaa
open Go.RowKit Go.PlainAid
set_option linter.unusedVariables false
set_option linter.unusedSimpArgs false

set_option maxRecDepth 100000 in
theorem msApplyP_any (b : Nat) (ep : Int) (cv : Value) (fl : Int) (lgv : Value) (hz : Int) (pv : Value) (pn : List PinT) (tp : Int) (x0 : SdT) (x1 : SdT) (x2 : SdT) (d : NoteD) (mv : Value) (lv : Value) (ev : Value) (w : World) (hb : Blk w b 66 #[.bool true, .int .i64 ep, cv, .int .u64 fl, lgv, .int .u64 hz, pv, .int .i64 tp, .bool x0.1, .int .i64 x0.2.1, .int .i64 x0.2.2.1, .int .i64 x0.2.2.2.1, .int .i64 x0.2.2.2.2, .bool x1.1, .int .i64 x1.2.1, .int .i64 x1.2.2.1, .int .i64 x1.2.2.2.1, .int .i64 x1.2.2.2.2, .bool x2.1, .int .i64 x2.2.1, .int .i64 x2.2.2.1, .int .i64 x2.2.2.2.1, .int .i64 x2.2.2.2.2]) (hpn : w.ownsRow 0 44 3 pv pn.length (pn.flatMap pinE)) (hp3 : pn.length ≤ 3) (hm : SliceOf memE 2 w mv d.ms) (hg : SliceOf (intE .i64) 1 w lv d.lg) (he : SliceOf opE 3 w ev d.el) (hR : NoteR d) (hbm : d.ms ≠ [] → ∀ k, mv.ownBlock = some k → ¬ k = b) (hbg : d.lg ≠ [] → ∀ k, lv.ownBlock = some k → ¬ k = b) (hbe : d.el ≠ [] → ∀ k, ev.ownBlock = some k → ¬ k = b) (hkx : ¬ d.k = 1 ∧ ¬ d.k = 5 ∧ ¬ d.k = 8) :
    Calls Try.prog 11 #[pt b 0, .agg #[.int .i64 d.k, .int .i64 d.n, .int .u64 d.t, .int .i64 d.ep, mv, .int .u64 d.fl, lv, .int .i64 d.ec, .int .i64 d.er, ev, .int .u64 d.ets, .int .i64 d.pid, .int .u64 d.pat, .int .i64 d.plf, .int .i64 d.sc, .int .i64 d.sr, .int .i64 d.se, .int .i64 d.sp]] w fun e w' => ∃ (pv2 : Value), e = .returned (.int .i64 ((apF pn hz tp d).1)) ∧ Blk w' b 66 #[.bool true, .int .i64 ep, cv, .int .u64 fl, lgv, .int .u64 ((apF pn hz tp d).2.1), pv2, .int .i64 ((apF pn hz tp d).2.2.2), .bool x0.1, .int .i64 x0.2.1, .int .i64 x0.2.2.1, .int .i64 x0.2.2.2.1, .int .i64 x0.2.2.2.2, .bool x1.1, .int .i64 x1.2.1, .int .i64 x1.2.2.1, .int .i64 x1.2.2.2.1, .int .i64 x1.2.2.2.2, .bool x2.1, .int .i64 x2.2.1, .int .i64 x2.2.2.1, .int .i64 x2.2.2.2.1, .int .i64 x2.2.2.2.2] ∧ w'.ownsRow 0 44 3 pv2 ((apF pn hz tp d).2.2.1).length (((apF pn hz tp d).2.2.1).flatMap pinE) ∧ ((apF pn hz tp d).2.2.1).length ≤ 3 ∧ But (fun q => q = b) w w' := by
 have hrng := hR.rng
 have hB0 := But.refl (fun q => q = b) w
 have hl_hb := hb.lt
 have hl_hm := sl_len hm
 have hl_hg := sl_len hg
 have hl_he := sl_len he
 refine co_enter (n := 113) Try.func11 rfl rfl rfl [(0, pt b 0), (1, .agg #[.int .i64 d.k, .int .i64 d.n, .int .u64 d.t, .int .i64 d.ep, mv, .int .u64 d.fl, lv, .int .i64 d.ec, .int .i64 d.er, ev, .int .u64 d.ets, .int .i64 d.pid, .int .u64 d.pat, .int .i64 d.plf, .int .i64 d.sc, .int .i64 d.sr, .int .i64 d.se, .int .i64 d.sp])] rfl (fun a h0 => ?_)
 refine co_seq ?_
 refine co_reg ?_
 refine pw h0 rfl (op_new (v := fun N => pt N 0) (T := 48) (cs := #[.int .i64 d.k, .int .i64 d.n, .int .u64 d.t, .int .i64 d.ep, mv, .int .u64 d.fl, lv, .int .i64 d.ec, .int .i64 d.er, ev, .int .u64 d.ets, .int .i64 d.pid, .int .u64 d.pat, .int .i64 d.plf, .int .i64 d.sc, .int .i64 d.sr, .int .i64 d.se, .int .i64 d.sp]) (by kernel_rfl) (by kernel_rfl) (by kernel_rfl)) ?_; clear h0
 rintro _ w2 a1 ⟨N3, rfl, hN6, hz7, hk5, hg4⟩ h1
 have ha8 := row_fresh hpn hN6
 have hz9 := hg4.size
 try dsimp only at h1
 refine pk0 (v := .int .i64 0) h1 rfl fun a10 h10 => ?_; clear h1
 refine pl_nil ?_
 refine co_then ?_
 refine co_seq ?_
 refine co_seq ?_
 refine co_reg ?_
 refine pk0 (v := pt b 0) h10 rfl fun a11 h11 => ?_; clear h10
 have hk14 := hb.kept hg4 (by simp)
 refine pw h11 rfl (op_call (args := #[pt b 0]) (R := fun res xw => res = .bool false ∧ Below w2.heap.size w2 xw) rfl rfl rfl (by kernel_rfl) (by kernel_rfl) (Try.call19 _ _) (mszeroT b ep cv fl lgv hz pv tp x0 x1 x2 w2 hk14) (by rintro e x ⟨rfl, hb15⟩; exact ⟨_, rfl, ⟨rfl, hb15⟩⟩)) ?_; clear h11
 rintro _ w13 a12 ⟨rfl, hb15⟩ h12
 have hz16 := hb15.size
 refine pl_nil ?_
 refine co_then ?_
 refine co_false h12 rfl ?_
 refine wp_skip ?_
 refine co_then ?_
 refine co_seq ?_
 refine co_seq ?_
 refine co_reg ?_
 have hk17 := hk5.below hb15
 refine pk (v := .agg #[.int .i64 d.k, .int .i64 d.n, .int .u64 d.t, .int .i64 d.ep, mv, .int .u64 d.fl, lv, .int .i64 d.ec, .int .i64 d.er, ev, .int .u64 d.ets, .int .i64 d.pid, .int .u64 d.pat, .int .i64 d.plf, .int .i64 d.sc, .int .i64 d.sr, .int .i64 d.se, .int .i64 d.sp]) h12 rfl (rn_loadN rfl rfl Try.underlying48 rfl (by kernel_rfl) hk17.all) fun a18 h18 => ?_; clear h12
 have hB21 := fb_new hB0 hg4
 have hB22 := fb_call hB21 hb15
 refine pw h18 rfl (op_call (args := #[.agg #[.int .i64 d.k, .int .i64 d.n, .int .u64 d.t, .int .i64 d.ep, mv, .int .u64 d.fl, lv, .int .i64 d.ec, .int .i64 d.er, ev, .int .u64 d.ets, .int .i64 d.pid, .int .u64 d.pat, .int .i64 d.plf, .int .i64 d.sc, .int .i64 d.sr, .int .i64 d.se, .int .i64 d.sp]]) (R := fun res xw => res = .int .i64 (chkN d) ∧ Below w13.heap.size w13 xw) rfl rfl rfl (by kernel_rfl) (by kernel_rfl) (Try.call22 _ _) (nCheck_any d mv lv ev w13 (sl_butS hm hB22 hbm) (sl_butS hg hB22 hbg) (sl_butS he hB22 hbe) hR) (by rintro e x ⟨rfl, hb23⟩; exact ⟨_, rfl, ⟨rfl, hb23⟩⟩)) ?_; clear h18
 rintro _ w20 a19 ⟨rfl, hb23⟩ h19
 have hz24 := hb23.size
 refine pk0 (v := .int .i64 (chkN d)) h19 rfl fun a25 h25 => ?_; clear h19
 refine pl_nil ?_
 refine co_then ?_
 refine co_seq ?_
 refine co_reg ?_
 refine pk0 (v := .int .i64 (chkN d)) h25 rfl fun a26 h26 => ?_; clear h25
 refine pk0 (v := .bool (chkN d != 0)) h26 rfl fun a27 h27 => ?_; clear h26
 refine pl_nil ?_
 refine co_then ?_
 have hB29 := fb_call hB22 hb23
 have hk30 := hk14.below hb15
 have hk31 := hk30.below hb23
 have hr32 := row_kept_new hpn hg4
 have hr33 := row_kept_new hr32 (below_grown hb15)
 have hr34 := row_kept_new hr33 (below_grown hb23)
 cases hc28 : (chkN d != 0)
 ·
  rw [hc28] at h27
  have hp35 : ¬ (chkN d ≠ 0) := by first | simpa using hc28 | simpa [and_assoc] using hc28
  clear hc28
  refine co_false h27 rfl ?_
  refine wp_skip ?_
  refine co_then ?_
  refine co_seq ?_
  refine co_reg ?_
  refine pk0 (v := pt N3 1) h27 rfl fun a36 h36 => ?_; clear h27
  have hk37 := hk17.below hb23
  refine pk (v := .int .i64 d.n) h36 rfl (rn_load1 rfl rfl Try.isAgg3 (hk37.cell rfl)) fun a38 h38 => ?_; clear h36
  refine pw h38 rfl (op_new (v := fun N => .slice (some ⟨N, 0, none⟩) 1 1) (T := 3) (cs := #[.int .i64 d.n]) (by kernel_rfl) (by kernel_rfl) (by kernel_rfl)) ?_; clear h38
  rintro _ w40 a39 ⟨N41, rfl, hN44, hz45, hk43, hg42⟩ h39
  have ha46 := row_fresh hr34 hN44
  have hz47 := hg42.size
  try dsimp only at h39
  refine pk0 (v := .slice (some ⟨N41, 0, none⟩) 1 1) h39 rfl fun a48 h48 => ?_; clear h39
  refine pl_nil ?_
  refine co_then ?_
  refine co_seq ?_
  refine co_seq ?_
  refine co_reg ?_
  refine pk0 (v := pt N3 0) h48 rfl fun a49 h49 => ?_; clear h48
  have hk50 := hk37.kept hg42 (by simp)
  refine pk (v := .int .i64 d.k) h49 rfl (rn_load1 rfl rfl Try.isAgg3 (hk50.cell rfl)) fun a51 h51 => ?_; clear h49
  refine pl_nil ?_
  refine co_then ?_
  refine wp_block ?_
  refine co_seq ?_
  refine wp_block ?_
  refine co_seq ?_
  refine wp_block ?_
  refine co_seq ?_
  refine wp_block ?_
  refine co_seq ?_
  refine wp_block ?_
  refine co_seq ?_
  refine wp_block ?_
  refine co_seq ?_
  refine wp_block ?_
  refine co_seq ?_
  refine wp_block ?_
  refine co_seq ?_
  refine co_seq ?_
  refine co_seq ?_
  refine co_reg ?_
  refine pk0 (v := .bool (d.k == 1)) h51 rfl fun a52 h52 => ?_; clear h51
  refine pk0 (v := .bool (d.k == 1)) h52 rfl fun a53 h53 => ?_; clear h52
  refine pl_nil ?_
  refine co_then ?_
  have hc54 : (d.k == 1) = false := by first | (simp; done) | (simp; omega) | exact beq_false_of_ne (by omega) | exact beq_iff_eq.2 (by omega)
  rw [hc54] at h53; clear hc54
  refine co_false h53 rfl ?_
  refine wp_skip ?_
  refine co_then ?_
  refine co_seq ?_
  refine co_seq ?_
  refine co_reg ?_
  refine pk0 (v := .bool (d.k == 5)) h53 rfl fun a55 h55 => ?_; clear h53
  refine pk0 (v := .bool (d.k == 5)) h55 rfl fun a56 h56 => ?_; clear h55
  refine pl_nil ?_
  refine co_then ?_
  have hc57 : (d.k == 5) = false := by first | (simp; done) | (simp; omega) | exact beq_false_of_ne (by omega) | exact beq_iff_eq.2 (by omega)
  rw [hc57] at h56; clear hc57
  refine co_false h56 rfl ?_
  refine wp_skip ?_
  refine co_then ?_
  refine co_seq ?_
  refine co_seq ?_
  refine co_reg ?_
  refine pk0 (v := .bool (d.k == 4)) h56 rfl fun a58 h58 => ?_; clear h56
  refine pk0 (v := .bool (d.k == 4)) h58 rfl fun a59 h59 => ?_; clear h58
  refine pl_nil ?_
  refine co_then ?_
  have hB61 := fb_new hB29 hg42
  cases hc60 : (d.k == 4)
  ·
   rw [hc60] at h59
   have hp62 : ¬ (d.k = 4) := by first | simpa using hc60 | simpa [and_assoc] using hc60
   clear hc60
   refine co_false h59 rfl ?_
   refine wp_skip ?_
   refine co_then ?_
   refine co_seq ?_
   refine co_seq ?_
   refine co_reg ?_
   refine pk0 (v := .bool (d.k == 6)) h59 rfl fun a63 h63 => ?_; clear h59
   refine pk0 (v := .bool (d.k == 6)) h63 rfl fun a64 h64 => ?_; clear h63
   refine pl_nil ?_
   refine co_then ?_
   cases hc65 : (d.k == 6)
   ·
    rw [hc65] at h64
    have hp66 : ¬ (d.k = 6) := by first | simpa using hc65 | simpa [and_assoc] using hc65
    clear hc65
    refine co_false h64 rfl ?_
    refine wp_skip ?_
    refine co_then ?_
    refine co_seq ?_
    refine co_seq ?_
    refine co_reg ?_
    refine pk0 (v := .bool (d.k == 7)) h64 rfl fun a67 h67 => ?_; clear h64
    refine pk0 (v := .bool (d.k == 7)) h67 rfl fun a68 h68 => ?_; clear h67
    refine pl_nil ?_
    refine co_then ?_
    cases hc69 : (d.k == 7)
    ·
     rw [hc69] at h68
     have hp70 : ¬ (d.k = 7) := by first | simpa using hc69 | simpa [and_assoc] using hc69
     clear hc69
     refine co_false h68 rfl ?_
     refine wp_skip ?_
     refine co_then ?_
     refine co_seq ?_
     refine co_reg ?_
     refine pk0 (v := .bool (d.k == 8)) h68 rfl fun a71 h71 => ?_; clear h68
     refine pk0 (v := .bool (d.k == 8)) h71 rfl fun a72 h72 => ?_; clear h71
     refine pl_nil ?_
     refine co_then ?_
     have hc73 : (d.k == 8) = false := by first | (simp; done) | (simp; omega) | exact beq_false_of_ne (by omega) | exact beq_iff_eq.2 (by omega)
     rw [hc73] at h72; clear hc73
     refine co_false h72 rfl ?_
     refine wp_skip ?_
     refine co_then ?_
     refine wp_exit ?_
     refine co_blockY (by decide) ?_
     refine co_thenX ?_
     refine co_blockY (by decide) ?_
     refine co_thenX ?_
     refine co_blockY (by decide) ?_
     refine co_thenX ?_
     refine co_blockY (by decide) ?_
     refine co_thenX ?_
     refine co_blockY (by decide) ?_
     refine co_thenX ?_
     refine co_blockY (by decide) ?_
     refine co_thenX ?_
     refine co_blockX ?_
     refine co_then ?_
     refine co_seq ?_
     refine co_seq ?_
     refine co_reg ?_
     refine pk0 (v := .int .i64 11) h72 rfl fun a74 h74 => ?_; clear h72
     refine pl_nil ?_
     refine co_then ?_
     refine wp_ret ?_
     refine co_thenR ?_
     refine co_blockR ?_
     refine co_thenR ?_
     refine co_ret1 h74 rfl rfl ?_
     have hk75 := hk31.kept hg42 (by simp)
     have hr76 := row_kept_new hr34 hg42
     have hA : apF pn hz tp d = (11, hz, pn, tp) := by unfold apF; (repeat (first | rw [if_pos (by omega)] | rw [if_neg (by omega)]))
     exact ⟨pv, by rw [hA], by rw [hA]; exact hk75, by rw [hA]; exact row_lows hr76 (Nat.zero_le _), by rw [hA]; show pn.length ≤ 3; omega, hB61⟩
    ·
     rw [hc69] at h68
     have hp77 : d.k = 7 := by first | simpa using hc69 | simpa [and_assoc] using hc69
     clear hc69
     refine co_true h68 rfl ?_
     refine wp_exit ?_
     refine co_thenX ?_
     refine co_thenX ?_
     refine co_blockY (by decide) ?_
     refine co_thenX ?_
     refine co_blockY (by decide) ?_
     refine co_thenX ?_
     refine co_blockY (by decide) ?_
     refine co_thenX ?_
     refine co_blockY (by decide) ?_
     refine co_thenX ?_
     refine co_blockX ?_
     refine co_then ?_
     refine co_seq ?_
     refine co_seq ?_
     refine co_seq ?_
     refine dr_gen (fun x => But (fun q => q = b) w x ∧ Blk x b 66 #[.bool true, .int .i64 ep, cv, .int .u64 fl, lgv, .int .u64 hz, pv, .int .i64 tp, .bool x0.1, .int .i64 x0.2.1, .int .i64 x0.2.2.1, .int .i64 x0.2.2.2.1, .int .i64 x0.2.2.2.2, .bool x1.1, .int .i64 x1.2.1, .int .i64 x1.2.2.1, .int .i64 x1.2.2.2.1, .int .i64 x1.2.2.2.2, .bool x2.1, .int .i64 x2.2.1, .int .i64 x2.2.2.1, .int .i64 x2.2.2.2.1, .int .i64 x2.2.2.2.2] ∧ Blk x N3 48 #[.int .i64 d.k, .int .i64 d.n, .int .u64 d.t, .int .i64 d.ep, mv, .int .u64 d.fl, lv, .int .i64 d.ec, .int .i64 d.er, ev, .int .u64 d.ets, .int .i64 d.pid, .int .u64 d.pat, .int .i64 d.plf, .int .i64 d.sc, .int .i64 d.sr, .int .i64 d.se, .int .i64 d.sp]) (by kernel_rfl) (fun w78 hg79 => ?_) (fun w78 hg79 => ?_)
     ·
      have hz80 := hg79.size
      have hB81 := fb_new hB61 hg79
      have hk82 := hk31.kept hg42 (by simp)
      have hk83 := hk82.kept hg79 (by simp)
      have hk84 := hk50.kept hg79 (by simp)
      exact ⟨hB81, hk83, hk84⟩
     have hz85 := hg79.size
     have hB86 := fb_new hB61 hg79
     have hk87 := hk31.kept hg42 (by simp)
     have hk88 := hk87.kept hg79 (by simp)
     have hk89 := hk50.kept hg79 (by simp)
     refine dk0 0 (v := pt b 0) h68 rfl rfl ⟨hB86, hk88, hk89⟩ fun a90 h90 => ?_; clear h68
     refine dk0 1 (v := pt b 0) h90 rfl rfl ⟨hB86, hk88, hk89⟩ fun a91 h91 => ?_; clear h90
     refine dk0 2 (v := pt b 6) h91 rfl rfl ⟨hB86, hk88, hk89⟩ fun a92 h92 => ?_; clear h91
     refine dk 3 (v := pv) h92 rfl rfl ⟨hB86, hk88, hk89⟩ (fun x hx => (rn_load1 rfl rfl Try.isAgg33 (hx.2.1.cell rfl))) fun a93 h93 => ?_; clear h92
     refine dk0 4 (v := pt N3 1) h93 rfl rfl ⟨hB86, hk88, hk89⟩ fun a94 h94 => ?_; clear h93
     refine dk 5 (v := .int .i64 d.n) h94 rfl rfl ⟨hB86, hk88, hk89⟩ (fun x hx => (rn_load1 rfl rfl Try.isAgg3 (hx.2.2.cell rfl))) fun a95 h95 => ?_; clear h94
     have hr98 := row_kept_new hr34 hg42
     have hr99 := row_kept_new hr98 hg79
     refine d1 6 h95 rfl rfl (op_call (args := #[pv, .int .i64 d.n]) (R := fun res xw => ∃ u : Value, res = .tuple #[u, .int .i64 ((freeP pn d.n).2)] ∧ xw.ownsRow w78.heap.size 44 3 u ((freeP pn d.n).1).length (((freeP pn d.n).1).flatMap pinE) ∧ Below w78.heap.size w78 xw) rfl rfl rfl (by kernel_rfl) (by kernel_rfl) (Try.call26 _ _) (leaseFree_any pv pn d.n (freeP pn d.n).1 (freeP pn d.n).2 w78 (row_sl hr99 pinE_len) (by omega) rfl) (by rintro e x ⟨u, rfl, h⟩; exact ⟨_, rfl, u, rfl, h⟩)) ?_ ?_; clear h95
     ·
      rintro _ w97 ⟨u100, rfl, hr101, hb102⟩
      have hz106 := hb102.size
      have hle107 := freeP_le pn d.n
      have hB108 := fb_call hB86 hb102
      have hk109 := hk88.below hb102
      have hk110 := hk89.below hb102
      exact ⟨hB108, hk109, hk110⟩
     rintro _ w97 a96 ⟨u100, rfl, hr101, hb102⟩ h96
     have hz106 := hb102.size
     have hle107 := freeP_le pn d.n
     have hB108 := fb_call hB86 hb102
     have hk109 := hk88.below hb102
     have hk110 := hk89.below hb102
     refine dk0 7 (v := .tuple #[u100, .int .i64 ((freeP pn d.n).2)]) h96 rfl rfl ⟨hB108, hk109, hk110⟩ fun a111 h111 => ?_; clear h96
     refine dk0 8 (v := u100) h111 rfl rfl ⟨hB108, hk109, hk110⟩ fun a112 h112 => ?_; clear h111
     refine dk0 9 (v := .int .i64 ((freeP pn d.n).2)) h112 rfl rfl ⟨hB108, hk109, hk110⟩ fun a113 h113 => ?_; clear h112
     refine dk0 10 (v := u100) h113 rfl rfl ⟨hB108, hk109, hk110⟩ fun a114 h114 => ?_; clear h113
     refine dk0 11 (v := .int .i64 ((freeP pn d.n).2)) h114 rfl rfl ⟨hB108, hk109, hk110⟩ fun a115 h115 => ?_; clear h114
     refine dr_done (by kernel_rfl) ?_
     refine co_then ?_
     refine co_seq ?_
     refine co_reg ?_
     refine pk0 (v := .int .i64 ((freeP pn d.n).2)) h115 rfl fun a116 h116 => ?_; clear h115
     refine pk0 (v := .bool ((freeP pn d.n).2 == 0)) h116 rfl fun a117 h117 => ?_; clear h116
     refine pl_nil ?_
     refine co_then ?_
     have hk119 := hk43.kept hg79 (by simp)
     have hk120 := hk119.below hb102
     cases hc118 : ((freeP pn d.n).2 == 0)
     ·
      rw [hc118] at h117
      have hp121 : ¬ ((freeP pn d.n).2 = 0) := by first | simpa using hc118 | simpa [and_assoc] using hc118
      clear hc118
      refine co_false h117 rfl ?_
      refine wp_skip ?_
      refine co_then ?_
      refine dr_gen (fun x => But (fun q => q = b) w x ∧ Blk x N3 48 #[.int .i64 d.k, .int .i64 d.n, .int .u64 d.t, .int .i64 d.ep, mv, .int .u64 d.fl, lv, .int .i64 d.ec, .int .i64 d.er, ev, .int .u64 d.ets, .int .i64 d.pid, .int .u64 d.pat, .int .i64 d.plf, .int .i64 d.sc, .int .i64 d.sr, .int .i64 d.se, .int .i64 d.sp]) (by kernel_rfl) (fun w122 hg123 => ?_) (fun w122 hg123 => ?_)
      ·
       have hz124 := hg123.size
       have hB125 := fb_new hB108 hg123
       have hk126 := hk110.kept hg123 (by simp)
       exact ⟨hB125, hk126⟩
      have hz127 := hg123.size
      have hB128 := fb_new hB108 hg123
      have hk129 := hk110.kept hg123 (by simp)
      refine dk0 0 (v := pt b 0) h117 rfl rfl ⟨hB128, hk129⟩ fun a130 h130 => ?_; clear h117
      refine dk0 1 (v := pt b 0) h130 rfl rfl ⟨hB128, hk129⟩ fun a131 h131 => ?_; clear h130
      refine dk0 2 (v := pt b 0) h131 rfl rfl ⟨hB128, hk129⟩ fun a132 h132 => ?_; clear h131
      refine dk0 3 (v := pt b 7) h132 rfl rfl ⟨hB128, hk129⟩ fun a133 h133 => ?_; clear h132
      refine dk0 5 (v := pt N3 1) h133 rfl rfl ⟨hB128, hk129⟩ fun a134 h134 => ?_; clear h133
      refine dk 6 (v := .int .i64 d.n) h134 rfl rfl ⟨hB128, hk129⟩ (fun x hx => (rn_load1 rfl rfl Try.isAgg3 (hx.2.cell rfl))) fun a135 h135 => ?_; clear h134
      refine dr_many [4] (by kernel_rfl) (by simp) ⟨?_, trivial⟩
      ·
       have hk136 := hk109.kept hg123 (by simp)
       refine dr_opVal (i := 4) (v := .int .i64 tp) h135 rfl rfl rfl rfl (by kernel_rfl) rfl (rn_load1 rfl rfl Try.isAgg3 (hk136.cell rfl)) ⟨hB128, hk129⟩ (fun a137 h137 => ?_); clear h135
       have hmm138 := mxI_p tp d.n
       refine dk0 7 (v := .int .i64 (mxI tp d.n)) h137 rfl rfl ⟨hB128, hk129⟩ fun a139 h139 => ?_; clear h137
       refine dk0 8 (v := pt b 0) h139 rfl rfl ⟨hB128, hk129⟩ fun a140 h140 => ?_; clear h139
       refine dk0 9 (v := pt b 7) h140 rfl rfl ⟨hB128, hk129⟩ fun a141 h141 => ?_; clear h140
       refine d1D 10 h141 rfl rfl (op_store1 rfl rfl rfl rfl Try.sizeOf3 hk136 rfl) ?_ ?_; clear h141
       ·
        rintro _ w143 ⟨hk144, hz145, hg146⟩
        have hk144' : Blk w143 b 66 #[.bool true, .int .i64 ep, cv, .int .u64 fl, lgv, .int .u64 hz, pv, .int .i64 (mxI tp d.n), .bool x0.1, .int .i64 x0.2.1, .int .i64 x0.2.2.1, .int .i64 x0.2.2.2.1, .int .i64 x0.2.2.2.2, .bool x1.1, .int .i64 x1.2.1, .int .i64 x1.2.2.1, .int .i64 x1.2.2.2.1, .int .i64 x1.2.2.2.2, .bool x2.1, .int .i64 x2.2.1, .int .i64 x2.2.2.1, .int .i64 x2.2.2.2.1, .int .i64 x2.2.2.2.2] := hk144; clear hk144
        have hz147 := hg146.size
        have hB148 := fb_at hB128 hg146 (fun hlt => by first | (exfalso; omega) | (simp; done) | simp_all)
        have hk149 := hk129.kept hg146 (by simp; omega)
        exact ⟨hB148, hk149⟩
       rintro _ w143 a142 ⟨hk144, hz145, hg146⟩ h142
       have hk144' : Blk w143 b 66 #[.bool true, .int .i64 ep, cv, .int .u64 fl, lgv, .int .u64 hz, pv, .int .i64 (mxI tp d.n), .bool x0.1, .int .i64 x0.2.1, .int .i64 x0.2.2.1, .int .i64 x0.2.2.2.1, .int .i64 x0.2.2.2.2, .bool x1.1, .int .i64 x1.2.1, .int .i64 x1.2.2.1, .int .i64 x1.2.2.2.1, .int .i64 x1.2.2.2.2, .bool x2.1, .int .i64 x2.2.1, .int .i64 x2.2.2.1, .int .i64 x2.2.2.2.1, .int .i64 x2.2.2.2.2] := hk144; clear hk144
       have hz147 := hg146.size
       refine dr_done (by kernel_rfl) ?_
       refine co_then ?_
       refine wp_exit ?_
       refine co_blockY (by decide) ?_
       refine co_thenX ?_
       refine co_blockY (by decide) ?_
       refine co_thenX ?_
       refine co_blockX ?_
       refine co_then ?_
       refine co_seq ?_
       refine co_reg ?_
       refine pk0 (v := .int .i64 0) h142 rfl fun a148 h148 => ?_; clear h142
       refine pl_nil ?_
       refine co_then ?_
       refine wp_ret ?_
       refine co_ret1 h148 rfl rfl ?_
       have hr149 := row_kept_new hr99 (below_grown hb102)
       have hr150 := row_kept_new hr149 hg123
       have hr151 := row_kept_at hr150 hg146 (own_neT hr150 hk136 (by decide))
       have hB152 := fb_at hB128 hg146 (fun hlt => by first | (exfalso; omega) | (simp; done) | simp_all)
       have hA : apF pn hz tp d = (0, hz, pn, mxI tp d.n) := by unfold apF; (repeat (first | rw [if_pos (by omega)] | rw [if_neg (by omega)]))
       exact ⟨pv, by rw [hA], by rw [hA]; exact hk144', by rw [hA]; exact row_lows hr151 (Nat.zero_le _), by rw [hA]; show pn.length ≤ 3; omega, hB152⟩
     ·
      rw [hc118] at h117
      have hp153 : (freeP pn d.n).2 = 0 := by first | simpa using hc118 | simpa [and_assoc] using hc118
      clear hc118
      refine co_true h117 rfl ?_
      refine co_reg ?_
      refine pk0 (v := pt b 0) h117 rfl fun a154 h154 => ?_; clear h117
      refine pk0 (v := u100) h154 rfl fun a155 h155 => ?_; clear h154
      refine pk0 (v := pt b 0) h155 rfl fun a156 h156 => ?_; clear h155
      refine pk0 (v := pt b 6) h156 rfl fun a157 h157 => ?_; clear h156
      refine pwD h157 rfl (op_store1 rfl rfl rfl (row_one hr101) Try.sizeOf33 hk109 rfl) ?_; clear h157
      rintro _ w159 a158 ⟨hk160, hz161, hg162⟩ h158
      have hk160' : Blk w159 b 66 #[.bool true, .int .i64 ep, cv, .int .u64 fl, lgv, .int .u64 hz, u100, .int .i64 tp, .bool x0.1, .int .i64 x0.2.1, .int .i64 x0.2.2.1, .int .i64 x0.2.2.2.1, .int .i64 x0.2.2.2.2, .bool x1.1, .int .i64 x1.2.1, .int .i64 x1.2.2.1, .int .i64 x1.2.2.2.1, .int .i64 x1.2.2.2.2, .bool x2.1, .int .i64 x2.2.1, .int .i64 x2.2.2.1, .int .i64 x2.2.2.2.1, .int .i64 x2.2.2.2.2] := hk160; clear hk160
      have hz163 := hg162.size
      refine pl_nil ?_
      refine co_then ?_
      refine dr_gen (fun x => But (fun q => q = b) w x ∧ Blk x N3 48 #[.int .i64 d.k, .int .i64 d.n, .int .u64 d.t, .int .i64 d.ep, mv, .int .u64 d.fl, lv, .int .i64 d.ec, .int .i64 d.er, ev, .int .u64 d.ets, .int .i64 d.pid, .int .u64 d.pat, .int .i64 d.plf, .int .i64 d.sc, .int .i64 d.sr, .int .i64 d.se, .int .i64 d.sp]) (by kernel_rfl) (fun w164 hg165 => ?_) (fun w164 hg165 => ?_)
      ·
       have hz166 := hg165.size
       have hB167 := fb_at hB108 hg162 (fun hlt => by first | (exfalso; omega) | (simp; done) | simp_all)
       have hB168 := fb_new hB167 hg165
       have hk169 := hk110.kept hg162 (by simp; omega)
       have hk170 := hk169.kept hg165 (by simp)
       exact ⟨hB168, hk170⟩
      have hz171 := hg165.size
      have hB172 := fb_at hB108 hg162 (fun hlt => by first | (exfalso; omega) | (simp; done) | simp_all)
      have hB173 := fb_new hB172 hg165
      have hk174 := hk110.kept hg162 (by simp; omega)
      have hk175 := hk174.kept hg165 (by simp)
      refine dk0 0 (v := pt b 0) h158 rfl rfl ⟨hB173, hk175⟩ fun a176 h176 => ?_; clear h158
      refine dk0 1 (v := pt b 0) h176 rfl rfl ⟨hB173, hk175⟩ fun a177 h177 => ?_; clear h176
      refine dk0 2 (v := pt b 0) h177 rfl rfl ⟨hB173, hk175⟩ fun a178 h178 => ?_; clear h177
      refine dk0 3 (v := pt b 7) h178 rfl rfl ⟨hB173, hk175⟩ fun a179 h179 => ?_; clear h178
      refine dk0 5 (v := pt N3 1) h179 rfl rfl ⟨hB173, hk175⟩ fun a180 h180 => ?_; clear h179
      refine dk 6 (v := .int .i64 d.n) h180 rfl rfl ⟨hB173, hk175⟩ (fun x hx => (rn_load1 rfl rfl Try.isAgg3 (hx.2.cell rfl))) fun a181 h181 => ?_; clear h180
      refine dr_many [4] (by kernel_rfl) (by simp) ⟨?_, trivial⟩
      ·
       have hk182 := hk160'.kept hg165 (by simp)
       refine dr_opVal (i := 4) (v := .int .i64 tp) h181 rfl rfl rfl rfl (by kernel_rfl) rfl (rn_load1 rfl rfl Try.isAgg3 (hk182.cell rfl)) ⟨hB173, hk175⟩ (fun a183 h183 => ?_); clear h181
       have hmm184 := mxI_p tp d.n
       refine dk0 7 (v := .int .i64 (mxI tp d.n)) h183 rfl rfl ⟨hB173, hk175⟩ fun a185 h185 => ?_; clear h183
       refine dk0 8 (v := pt b 0) h185 rfl rfl ⟨hB173, hk175⟩ fun a186 h186 => ?_; clear h185
       refine dk0 9 (v := pt b 7) h186 rfl rfl ⟨hB173, hk175⟩ fun a187 h187 => ?_; clear h186
       refine d1D 10 h187 rfl rfl (op_store1 rfl rfl rfl rfl Try.sizeOf3 hk182 rfl) ?_ ?_; clear h187
       ·
        rintro _ w189 ⟨hk190, hz191, hg192⟩
        have hk190' : Blk w189 b 66 #[.bool true, .int .i64 ep, cv, .int .u64 fl, lgv, .int .u64 hz, u100, .int .i64 (mxI tp d.n), .bool x0.1, .int .i64 x0.2.1, .int .i64 x0.2.2.1, .int .i64 x0.2.2.2.1, .int .i64 x0.2.2.2.2, .bool x1.1, .int .i64 x1.2.1, .int .i64 x1.2.2.1, .int .i64 x1.2.2.2.1, .int .i64 x1.2.2.2.2, .bool x2.1, .int .i64 x2.2.1, .int .i64 x2.2.2.1, .int .i64 x2.2.2.2.1, .int .i64 x2.2.2.2.2] := hk190; clear hk190
        have hz193 := hg192.size
        have hB194 := fb_at hB173 hg192 (fun hlt => by first | (exfalso; omega) | (simp; done) | simp_all)
        have hk195 := hk175.kept hg192 (by simp; omega)
        exact ⟨hB194, hk195⟩
       rintro _ w189 a188 ⟨hk190, hz191, hg192⟩ h188
       have hk190' : Blk w189 b 66 #[.bool true, .int .i64 ep, cv, .int .u64 fl, lgv, .int .u64 hz, u100, .int .i64 (mxI tp d.n), .bool x0.1, .int .i64 x0.2.1, .int .i64 x0.2.2.1, .int .i64 x0.2.2.2.1, .int .i64 x0.2.2.2.2, .bool x1.1, .int .i64 x1.2.1, .int .i64 x1.2.2.1, .int .i64 x1.2.2.2.1, .int .i64 x1.2.2.2.2, .bool x2.1, .int .i64 x2.2.1, .int .i64 x2.2.2.1, .int .i64 x2.2.2.2.1, .int .i64 x2.2.2.2.2] := hk190; clear hk190
       have hz193 := hg192.size
       refine dr_done (by kernel_rfl) ?_
       refine co_then ?_
       refine wp_exit ?_
       refine co_blockY (by decide) ?_
       refine co_thenX ?_
       refine co_blockY (by decide) ?_
       refine co_thenX ?_
       refine co_blockX ?_
       refine co_then ?_
       refine co_seq ?_
       refine co_reg ?_
       refine pk0 (v := .int .i64 0) h188 rfl fun a194 h194 => ?_; clear h188
       refine pl_nil ?_
       refine co_then ?_
       refine wp_ret ?_
       refine co_ret1 h194 rfl rfl ?_
       have hr195 := row_kept_at hr101 hg162 (own_neT hr101 hk109 (by decide))
       have hr196 := row_kept_new hr195 hg165
       have hr197 := row_kept_at hr196 hg192 (own_neT hr196 hk182 (by decide))
       have hB198 := fb_at hB173 hg192 (fun hlt => by first | (exfalso; omega) | (simp; done) | simp_all)
       have hA : apF pn hz tp d = (0, hz, (freeP pn d.n).1, mxI tp d.n) := by unfold apF; (repeat (first | rw [if_pos (by omega)] | rw [if_neg (by omega)]))
       exact ⟨u100, by rw [hA], by rw [hA]; exact hk190', by rw [hA]; exact row_lows hr197 (Nat.zero_le _), by rw [hA]; show ((freeP pn d.n).1).length ≤ 3; omega, hB198⟩
   ·
    rw [hc65] at h64
    have hp199 : d.k = 6 := by first | simpa using hc65 | simpa [and_assoc] using hc65
    clear hc65
    refine co_true h64 rfl ?_
    refine wp_exit ?_
    refine co_thenX ?_
    refine co_thenX ?_
    refine co_blockY (by decide) ?_
    refine co_thenX ?_
    refine co_blockY (by decide) ?_
    refine co_thenX ?_
    refine co_blockY (by decide) ?_
    refine co_thenX ?_
    refine co_blockX ?_
    refine co_then ?_
    refine co_seq ?_
    refine co_seq ?_
    refine co_reg ?_
    refine pk0 (v := pt b 0) h64 rfl fun a200 h200 => ?_; clear h64
    refine pk0 (v := pt N3 11) h200 rfl fun a201 h201 => ?_; clear h200
    refine pk (v := .agg #[.int .i64 d.pid, .int .u64 d.pat, .int .i64 d.plf]) h201 rfl (rn_loadN rfl rfl Try.underlying44 rfl (by kernel_rfl) (blk_part hk50 11 (by rfl))) fun a202 h202 => ?_; clear h201
    have hr206 := row_kept_new hr34 hg42
    have hk207 := hk31.kept hg42 (by simp)
    refine pw h202 rfl (op_call (args := #[pt b 0, .agg #[.int .i64 d.pid, .int .u64 d.pat, .int .i64 d.plf]]) (R := fun res xw => ∃ pv2 : Value, res = .int .i64 ((pnF pn hz tp d.pid d.pat).1) ∧ Blk xw b 66 #[.bool true, .int .i64 ep, cv, .int .u64 fl, lgv, .int .u64 hz, pv2, .int .i64 ((pnF pn hz tp d.pid d.pat).2.2), .bool x0.1, .int .i64 x0.2.1, .int .i64 x0.2.2.1, .int .i64 x0.2.2.2.1, .int .i64 x0.2.2.2.2, .bool x1.1, .int .i64 x1.2.1, .int .i64 x1.2.2.1, .int .i64 x1.2.2.2.1, .int .i64 x1.2.2.2.2, .bool x2.1, .int .i64 x2.2.1, .int .i64 x2.2.2.1, .int .i64 x2.2.2.2.1, .int .i64 x2.2.2.2.2] ∧ xw.ownsRow 0 44 3 pv2 ((pnF pn hz tp d.pid d.pat).2.1).length (((pnF pn hz tp d.pid d.pat).2.1).flatMap pinE) ∧ ((pnF pn hz tp d.pid d.pat).2.1).length ≤ 3 ∧ But (fun q => q = b) w40 xw) rfl rfl rfl (by kernel_rfl) (by kernel_rfl) (Try.call25 _ _) (msPin_any b ep cv fl lgv hz pv pn tp x0 x1 x2 d.pid d.pat d.plf w40 hk207 (row_lows hr206 (Nat.zero_le _)) (by omega)) (by rintro e x ⟨pv2, rfl, hq209, hq210, hq211, hb212⟩; exact ⟨_, rfl, ⟨pv2, rfl, hq209, hq210, hq211, hb212⟩⟩)) ?_; clear h202
    rintro _ w204 a203 ⟨pv2208, rfl, hq209, hq210, hq211, hb212⟩ h203
    have hz213 := hb212.size
    have hl214 := hq209.lt
    refine pk0 (v := .int .i64 ((pnF pn hz tp d.pid d.pat).1)) h203 rfl fun a215 h215 => ?_; clear h203
    refine pl_nil ?_
    refine co_then ?_
    refine wp_ret ?_
    refine co_thenR ?_
    refine co_blockR ?_
    refine co_thenR ?_
    refine co_blockR ?_
    refine co_thenR ?_
    refine co_blockR ?_
    refine co_thenR ?_
    refine co_blockR ?_
    refine co_thenR ?_
    refine co_ret1 h215 rfl rfl ?_
    have hB216 := fb_foot hB61 hb212 (fun i hlt hS => by (try simp at hS); first | omega | (simp; omega) | simp_all)
    have hA : apF pn hz tp d = ((pnF pn hz tp d.pid d.pat).1, hz, (pnF pn hz tp d.pid d.pat).2.1, (pnF pn hz tp d.pid d.pat).2.2) := by unfold apF; (repeat (first | rw [if_pos (by omega)] | rw [if_neg (by omega)]))
    exact ⟨pv2208, by rw [hA], by rw [hA]; exact hq209, by rw [hA]; exact row_lows hq210 (Nat.zero_le _), by rw [hA]; show ((pnF pn hz tp d.pid d.pat).2.1).length ≤ 3; omega, hB216⟩
  ·
   rw [hc60] at h59
   have hp217 : d.k = 4 := by first | simpa using hc60 | simpa [and_assoc] using hc60
   clear hc60
   refine co_true h59 rfl ?_
   refine wp_exit ?_
   refine co_thenX ?_
   refine co_thenX ?_
   refine co_blockY (by decide) ?_
   refine co_thenX ?_
   refine co_blockY (by decide) ?_
   refine co_thenX ?_
   refine co_blockX ?_
   refine co_then ?_
   refine co_seq ?_
   refine co_seq ?_
   refine co_seq ?_
   refine dr_eq (by kernel_rfl) (fun w218 hg219 => ?_)
   have hz220 := hg219.size
   refine dk0 0 (v := pt N3 2) h59 rfl rfl rfl fun a221 h221 => ?_; clear h59
   have hk222 := hk50.kept hg219 (by simp)
   refine dk 1 (v := .int .u64 d.t) h221 rfl rfl rfl (fun x hx => by subst hx; exact (rn_load1 rfl rfl Try.isAgg27 (hk222.cell rfl))) fun a223 h223 => ?_; clear h221
   refine dk0 2 (v := pt b 0) h223 rfl rfl rfl fun a224 h224 => ?_; clear h223
   refine dk0 3 (v := pt b 0) h224 rfl rfl rfl fun a225 h225 => ?_; clear h224
   refine dk0 4 (v := pt b 5) h225 rfl rfl rfl fun a226 h226 => ?_; clear h225
   have hk227 := hk31.kept hg42 (by simp)
   have hk228 := hk227.kept hg219 (by simp)
   refine dk 5 (v := .int .u64 hz) h226 rfl rfl rfl (fun x hx => by subst hx; exact (rn_load1 rfl rfl Try.isAgg27 (hk228.cell rfl))) fun a229 h229 => ?_; clear h226
   refine dk0 6 (v := .bool (decide (d.t < hz))) h229 rfl rfl rfl fun a230 h230 => ?_; clear h229
   refine dr_done (by kernel_rfl) ?_
   refine co_then ?_
   have hB232 := fb_new hB61 hg219
   have hr233 := row_kept_new hr34 hg42
   have hr234 := row_kept_new hr233 hg219
   cases hc231 : (decide (d.t < hz))
   ·
    rw [hc231] at h230
    have hp235 : ¬ (d.t < hz) := of_decide_eq_false hc231
    clear hc231
    refine co_false h230 rfl ?_
    refine wp_skip ?_
    refine co_then ?_
    refine co_reg ?_
    refine pk0 (v := pt b 0) h230 rfl fun a236 h236 => ?_; clear h230
    refine pk0 (v := pt N3 2) h236 rfl fun a237 h237 => ?_; clear h236
    refine pk (v := .int .u64 d.t) h237 rfl (rn_load1 rfl rfl Try.isAgg27 (hk222.cell rfl)) fun a238 h238 => ?_; clear h237
    refine pk0 (v := pt b 0) h238 rfl fun a239 h239 => ?_; clear h238
    refine pk0 (v := pt b 5) h239 rfl fun a240 h240 => ?_; clear h239
    refine pwD h240 rfl (op_store1 rfl rfl rfl rfl Try.sizeOf27 hk228 rfl) ?_; clear h240
    rintro _ w242 a241 ⟨hk243, hz244, hg245⟩ h241
    have hk243' : Blk w242 b 66 #[.bool true, .int .i64 ep, cv, .int .u64 fl, lgv, .int .u64 d.t, pv, .int .i64 tp, .bool x0.1, .int .i64 x0.2.1, .int .i64 x0.2.2.1, .int .i64 x0.2.2.2.1, .int .i64 x0.2.2.2.2, .bool x1.1, .int .i64 x1.2.1, .int .i64 x1.2.2.1, .int .i64 x1.2.2.2.1, .int .i64 x1.2.2.2.2, .bool x2.1, .int .i64 x2.2.1, .int .i64 x2.2.2.1, .int .i64 x2.2.2.2.1, .int .i64 x2.2.2.2.2] := hk243; clear hk243
    have hz246 := hg245.size
    refine pl_nil ?_
    refine co_then ?_
    refine wp_exit ?_
    refine co_blockY (by decide) ?_
    refine co_thenX ?_
    refine co_blockY (by decide) ?_
    refine co_thenX ?_
    refine co_blockY (by decide) ?_
    refine co_thenX ?_
    refine co_blockY (by decide) ?_
    refine co_thenX ?_
    refine co_blockX ?_
    refine co_then ?_
    refine co_seq ?_
    refine co_reg ?_
    refine pk0 (v := .int .i64 0) h241 rfl fun a247 h247 => ?_; clear h241
    refine pl_nil ?_
    refine co_then ?_
    refine wp_ret ?_
    refine co_ret1 h247 rfl rfl ?_
    have hr248 := row_kept_at hr234 hg245 (own_neT hr234 hk228 (by decide))
    have hB249 := fb_at hB232 hg245 (fun hlt => by first | (exfalso; omega) | (simp; done) | simp_all)
    have hA : apF pn hz tp d = (0, d.t, pn, tp) := by unfold apF; (repeat (first | rw [if_pos (by omega)] | rw [if_neg (by omega)]))
    exact ⟨pv, by rw [hA], by rw [hA]; exact hk243', by rw [hA]; exact row_lows hr248 (Nat.zero_le _), by rw [hA]; show pn.length ≤ 3; omega, hB249⟩
   ·
    rw [hc231] at h230
    have hp250 : d.t < hz := of_decide_eq_true hc231
    clear hc231
    refine co_true h230 rfl ?_
    refine co_seq ?_
    refine co_reg ?_
    refine pk0 (v := .int .i64 18) h230 rfl fun a251 h251 => ?_; clear h230
    refine pl_nil ?_
    refine co_then ?_
    refine wp_ret ?_
    refine co_thenR ?_
    refine co_thenR ?_
    refine co_blockR ?_
    refine co_thenR ?_
    refine co_blockR ?_
    refine co_thenR ?_
    refine co_blockR ?_
    refine co_thenR ?_
    refine co_blockR ?_
    refine co_thenR ?_
    refine co_blockR ?_
    refine co_thenR ?_
    refine co_ret1 h251 rfl rfl ?_
    have hA : apF pn hz tp d = (18, hz, pn, tp) := by unfold apF; (repeat (first | rw [if_pos (by omega)] | rw [if_neg (by omega)]))
    exact ⟨pv, by rw [hA], by rw [hA]; exact hk228, by rw [hA]; exact row_lows hr234 (Nat.zero_le _), by rw [hA]; show pn.length ≤ 3; omega, hB232⟩
 ·
  rw [hc28] at h27
  have hp252 : chkN d ≠ 0 := by first | simpa using hc28 | simpa [and_assoc] using hc28
  clear hc28
  refine co_true h27 rfl ?_
  refine co_seq ?_
  refine co_reg ?_
  refine pk0 (v := .int .i64 (chkN d)) h27 rfl fun a253 h253 => ?_; clear h27
  refine pk0 (v := .int .i64 (chkN d)) h253 rfl fun a254 h254 => ?_; clear h253
  refine pl_nil ?_
  refine co_then ?_
  refine wp_ret ?_
  refine co_thenR ?_
  refine co_ret1 h254 rfl rfl ?_
  have hA : apF pn hz tp d = (chkN d, hz, pn, tp) := by unfold apF; (repeat (first | rw [if_pos (by omega)] | rw [if_neg (by omega)]))
  exact ⟨pv, by rw [hA], by rw [hA]; exact hk31, by rw [hA]; exact row_lows hr34 (Nat.zero_le _), by rw [hA]; show pn.length ≤ 3; omega, hB29⟩
set_option maxRecDepth 100000 in
theorem msPins_any (b : Nat) (ep : Int) (cv : Value) (fl : Int) (lgv : Value) (hz : Int) (pv : Value) (pn : List PinT) (tp : Int) (x0 : SdT) (x1 : SdT) (x2 : SdT) (w : World) (hb : Blk w b 66 #[.bool true, .int .i64 ep, cv, .int .u64 fl, lgv, .int .u64 hz, pv, .int .i64 tp, .bool x0.1, .int .i64 x0.2.1, .int .i64 x0.2.2.1, .int .i64 x0.2.2.2.1, .int .i64 x0.2.2.2.2, .bool x1.1, .int .i64 x1.2.1, .int .i64 x1.2.2.1, .int .i64 x1.2.2.2.1, .int .i64 x1.2.2.2.2, .bool x2.1, .int .i64 x2.2.1, .int .i64 x2.2.2.1, .int .i64 x2.2.2.2.1, .int .i64 x2.2.2.2.2]) (hpn : w.ownsRow 0 44 3 pv pn.length (pn.flatMap pinE)) (hp3 : pn.length ≤ 3) :
    Calls Try.prog 10 #[pt b 0] w fun e w' => ∃ (u : Value), e = .returned (u) ∧ w'.ownsRow w.heap.size 44 3 u pn.length (pn.flatMap pinE) ∧ Below w.heap.size w w' := by
 have hB0 := Below.refl w.heap.size w
 have hl_hb := hb.lt
 refine co_enter (n := 10) Try.func10 rfl rfl rfl [(0, pt b 0)] rfl (fun a h0 => ?_)
 refine co_seq ?_
 refine co_reg ?_
 refine pk0 (v := .slice none 0 0) h0 rfl fun a1 h1 => ?_; clear h0
 refine pl_nil ?_
 refine co_then ?_
 refine co_seq ?_
 refine co_seq ?_
 refine co_reg ?_
 refine pk0 (v := pt b 0) h1 rfl fun a2 h2 => ?_; clear h1
 refine pw h2 rfl (op_call (args := #[pt b 0]) (R := fun res xw => res = .bool false ∧ Below w.heap.size w xw) rfl rfl rfl (by kernel_rfl) (by kernel_rfl) (Try.call19 _ _) (mszeroT b ep cv fl lgv hz pv tp x0 x1 x2 w hb) (by rintro e x ⟨rfl, hb5⟩; exact ⟨_, rfl, ⟨rfl, hb5⟩⟩)) ?_; clear h2
 rintro _ w4 a3 ⟨rfl, hb5⟩ h3
 have hz6 := hb5.size
 refine pl_nil ?_
 refine co_then ?_
 refine co_false h3 rfl ?_
 refine wp_skip ?_
 refine co_then ?_
 refine co_seq ?_
 refine co_reg ?_
 refine pk0 (v := pt b 0) h3 rfl fun a7 h7 => ?_; clear h3
 refine pk0 (v := pt b 0) h7 rfl fun a8 h8 => ?_; clear h7
 refine pk0 (v := pt b 6) h8 rfl fun a9 h9 => ?_; clear h8
 have hk10 := hb.below hb5
 refine pk (v := pv) h9 rfl (rn_load1 rfl rfl Try.isAgg33 (hk10.cell rfl)) fun a11 h11 => ?_; clear h9
 have hr14 := row_kept_new hpn (below_grown hb5)
 refine pw h11 rfl (op_call (args := #[pv]) (R := fun res xw => ∃ u : Value, res = u ∧ xw.ownsRow w4.heap.size 44 3 u pn.length (pn.flatMap pinE) ∧ Below w4.heap.size w4 xw) rfl rfl rfl (by kernel_rfl) (by kernel_rfl) (Try.call21 _ _) (clonePin_any pv pn w4 (row_sl hr14 pinE_len) (by first | omega | (simp; done) | (simp; omega))) (by rintro e x ⟨u, rfl, hq16, hb17⟩; exact ⟨_, rfl, ⟨u, rfl, hq16, hb17⟩⟩)) ?_; clear h11
 rintro u15 w13 a12 ⟨_, rfl, hq16, hb17⟩ h12
 have hz18 := hb17.size
 have hl19 := sl_len (row_sl hq16 pinE_len)
 refine pk0 (v := u15) h12 rfl fun a20 h20 => ?_; clear h12
 refine pl_nil ?_
 refine co_then ?_
 refine wp_ret ?_
 refine co_ret1 h20 rfl rfl ?_
 have hB21 := hb_call hB0 hb5
 have hB22 := hb_call hB21 hb17
 exact ⟨_, rfl, (row_lows hq16 (by omega)), hB22⟩
set_option maxRecDepth 100000 in
theorem msTop_any (b : Nat) (ep : Int) (cv : Value) (fl : Int) (lgv : Value) (hz : Int) (pv : Value) (tp : Int) (x0 : SdT) (x1 : SdT) (x2 : SdT) (w : World) (hb : Blk w b 66 #[.bool true, .int .i64 ep, cv, .int .u64 fl, lgv, .int .u64 hz, pv, .int .i64 tp, .bool x0.1, .int .i64 x0.2.1, .int .i64 x0.2.2.1, .int .i64 x0.2.2.2.1, .int .i64 x0.2.2.2.2, .bool x1.1, .int .i64 x1.2.1, .int .i64 x1.2.2.1, .int .i64 x1.2.2.2.1, .int .i64 x1.2.2.2.2, .bool x2.1, .int .i64 x2.2.1, .int .i64 x2.2.2.1, .int .i64 x2.2.2.2.1, .int .i64 x2.2.2.2.2]) :
    Calls Try.prog 18 #[pt b 0] w fun e w' => e = .returned (.int .i64 tp) ∧ Below w.heap.size w w' := by
 have hB0 := Below.refl w.heap.size w
 have hl_hb := hb.lt
 refine co_enter (n := 9) Try.func18 rfl rfl rfl [(0, pt b 0)] rfl (fun a h0 => ?_)
 refine co_seq ?_
 refine co_reg ?_
 refine pk0 (v := .int .i64 0) h0 rfl fun a1 h1 => ?_; clear h0
 refine pl_nil ?_
 refine co_then ?_
 refine co_seq ?_
 refine co_seq ?_
 refine co_reg ?_
 refine pk0 (v := pt b 0) h1 rfl fun a2 h2 => ?_; clear h1
 refine pw h2 rfl (op_call (args := #[pt b 0]) (R := fun res xw => res = .bool false ∧ Below w.heap.size w xw) rfl rfl rfl (by kernel_rfl) (by kernel_rfl) (Try.call19 _ _) (mszeroT b ep cv fl lgv hz pv tp x0 x1 x2 w hb) (by rintro e x ⟨rfl, hb5⟩; exact ⟨_, rfl, ⟨rfl, hb5⟩⟩)) ?_; clear h2
 rintro _ w4 a3 ⟨rfl, hb5⟩ h3
 have hz6 := hb5.size
 refine pl_nil ?_
 refine co_then ?_
 refine co_false h3 rfl ?_
 refine wp_skip ?_
 refine co_then ?_
 refine co_seq ?_
 refine co_reg ?_
 refine pk0 (v := pt b 0) h3 rfl fun a7 h7 => ?_; clear h3
 refine pk0 (v := pt b 0) h7 rfl fun a8 h8 => ?_; clear h7
 refine pk0 (v := pt b 7) h8 rfl fun a9 h9 => ?_; clear h8
 have hk10 := hb.below hb5
 refine pk (v := .int .i64 tp) h9 rfl (rn_load1 rfl rfl Try.isAgg3 (hk10.cell rfl)) fun a11 h11 => ?_; clear h9
 refine pk0 (v := .int .i64 tp) h11 rfl fun a12 h12 => ?_; clear h11
 refine pl_nil ?_
 refine co_then ?_
 refine wp_ret ?_
 refine co_ret1 h12 rfl rfl ?_
 have hB13 := hb_call hB0 hb5
 exact ⟨rfl, hB13⟩
set_option maxRecDepth 100000 in
theorem msHorizon_any (b : Nat) (ep : Int) (cv : Value) (fl : Int) (lgv : Value) (hz : Int) (pv : Value) (tp : Int) (x0 : SdT) (x1 : SdT) (x2 : SdT) (w : World) (hb : Blk w b 66 #[.bool true, .int .i64 ep, cv, .int .u64 fl, lgv, .int .u64 hz, pv, .int .i64 tp, .bool x0.1, .int .i64 x0.2.1, .int .i64 x0.2.2.1, .int .i64 x0.2.2.2.1, .int .i64 x0.2.2.2.2, .bool x1.1, .int .i64 x1.2.1, .int .i64 x1.2.2.1, .int .i64 x1.2.2.2.1, .int .i64 x1.2.2.2.2, .bool x2.1, .int .i64 x2.2.1, .int .i64 x2.2.2.1, .int .i64 x2.2.2.2.1, .int .i64 x2.2.2.2.2]) :
    Calls Try.prog 8 #[pt b 0] w fun e w' => e = .returned (.int .u64 hz) ∧ Below w.heap.size w w' := by
 have hB0 := Below.refl w.heap.size w
 have hl_hb := hb.lt
 refine co_enter (n := 9) Try.func8 rfl rfl rfl [(0, pt b 0)] rfl (fun a h0 => ?_)
 refine co_seq ?_
 refine co_reg ?_
 refine pk0 (v := .int .u64 0) h0 rfl fun a1 h1 => ?_; clear h0
 refine pl_nil ?_
 refine co_then ?_
 refine co_seq ?_
 refine co_seq ?_
 refine co_reg ?_
 refine pk0 (v := pt b 0) h1 rfl fun a2 h2 => ?_; clear h1
 refine pw h2 rfl (op_call (args := #[pt b 0]) (R := fun res xw => res = .bool false ∧ Below w.heap.size w xw) rfl rfl rfl (by kernel_rfl) (by kernel_rfl) (Try.call19 _ _) (mszeroT b ep cv fl lgv hz pv tp x0 x1 x2 w hb) (by rintro e x ⟨rfl, hb5⟩; exact ⟨_, rfl, ⟨rfl, hb5⟩⟩)) ?_; clear h2
 rintro _ w4 a3 ⟨rfl, hb5⟩ h3
 have hz6 := hb5.size
 refine pl_nil ?_
 refine co_then ?_
 refine co_false h3 rfl ?_
 refine wp_skip ?_
 refine co_then ?_
 refine co_seq ?_
 refine co_reg ?_
 refine pk0 (v := pt b 0) h3 rfl fun a7 h7 => ?_; clear h3
 refine pk0 (v := pt b 0) h7 rfl fun a8 h8 => ?_; clear h7
 refine pk0 (v := pt b 5) h8 rfl fun a9 h9 => ?_; clear h8
 have hk10 := hb.below hb5
 refine pk (v := .int .u64 hz) h9 rfl (rn_load1 rfl rfl Try.isAgg27 (hk10.cell rfl)) fun a11 h11 => ?_; clear h9
 refine pk0 (v := .int .u64 hz) h11 rfl fun a12 h12 => ?_; clear h11
 refine pl_nil ?_
 refine co_then ?_
 refine wp_ret ?_
 refine co_ret1 h12 rfl rfl ?_
 have hB13 := hb_call hB0 hb5
 exact ⟨rfl, hB13⟩
end Go.Proofs.Ytglfoippcmckaaa

/- Package mstate: members and ids: ContainsFunc, Contains, Head, memberIds. Conditions: none. -/
namespace Go.Proofs.Ytglfoippcmckaaa
open Go.RowKit Go.PlainAid
set_option linter.unusedVariables false
set_option linter.unusedSimpArgs false


def inL (l : List Int) (n : Int) : Bool := l.any fun x => x == n
theorem inL_mem {l : List Int} {n : Int} : inL l n = true ↔ n ∈ l := by
  unfold inL; rw [List.any_eq_true]
  exact ⟨fun ⟨x, hx, e⟩ => by have := eq_of_beq e; subst this; exact hx, fun h => ⟨n, h, by simp⟩⟩
theorem inL_at {l : List Int} {i : Nat} {n y : Int} (hb : ∀ j, j < i → ∀ z, l[j]? = some z → z ≠ n) (h : l[i]? = some y) (e : y = n) : true = inL l n := by
  subst e; exact (inL_mem.2 (List.mem_of_getElem? h)).symm
theorem inL_end {l : List Int} {i : Nat} {n : Int} (hb : ∀ j, j < i → ∀ z, l[j]? = some z → z ≠ n) (hi : l.length ≤ i) : false = inL l n := by
  symm; rw [Bool.eq_false_iff]
  intro h
  obtain ⟨j, hj, e⟩ := List.getElem_of_mem (inL_mem.1 h)
  exact hb j (by omega) _ (List.getElem?_eq_getElem hj) e
theorem in_next {l : List Int} {i : Nat} {n y : Int} (hb : ∀ j, j < i → ∀ z, l[j]? = some z → z ≠ n) (h : l[i]? = some y) (e : ¬ y = n) : ∀ j, j < i + 1 → ∀ z, l[j]? = some z → z ≠ n := by
  intro j hj z hz
  by_cases q : j = i
  · subst q; rw [h] at hz; cases hz; exact e
  · exact hb j (by omega) z hz
def hasM (l : List MemT) (n : Int) : Bool := l.any fun o => o.1 == n
theorem hasM_at {l : List MemT} {i : Nat} {n : Int} {y : MemT} (h : l[i]? = some y) (e : y.1 = n) : true = hasM l n := by
  symm; unfold hasM; rw [List.any_eq_true]; exact ⟨y, List.mem_of_getElem? h, by simpa using e⟩
theorem hasM_end {l : List MemT} {i : Nat} {n : Int} (hb : ∀ j, j < i → ∀ z, l[j]? = some z → z.1 ≠ n) (hi : l.length ≤ i) : false = hasM l n := by
  symm; rw [Bool.eq_false_iff]; unfold hasM; rw [ne_eq, List.any_eq_true]
  rintro ⟨y, hy, e⟩
  obtain ⟨j, hj, e2⟩ := List.getElem_of_mem hy
  exact hb j (by omega) _ (List.getElem?_eq_getElem hj) (by rw [e2]; simpa using e)
theorem has_next {l : List MemT} {i : Nat} {n : Int} {y : MemT} (hb : ∀ j, j < i → ∀ z, l[j]? = some z → z.1 ≠ n) (h : l[i]? = some y) (e : ¬ y.1 = n) : ∀ j, j < i + 1 → ∀ z, l[j]? = some z → z.1 ≠ n := by
  intro j hj z hz
  by_cases q : j = i
  · subst q; rw [h] at hz; cases hz; exact e
  · exact hb j (by omega) z hz


def headI (l : List MemT) : Int := match l with | [] => -1 | m :: _ => m.1
theorem headI_0 {l : List MemT} (h : (0 : Int) ≥ (l.length : Nat)) : -1 = headI l := by
  obtain rfl : l = [] := List.eq_nil_of_length_eq_zero (by omega)
  rfl
theorem headI_y {l : List MemT} {y : MemT} (h : l[0]? = some y) : y.1 = headI l := by
  cases l with
  | nil => simp at h
  | cons m r => simp at h; subst h; rfl
/-- Are all of these members? -/
def memIds (ms : List MemT) (ids : List Int) : Bool := ids.all (hasM ms)
theorem memIds_no {ms : List MemT} {ids : List Int} {k : Nat} {y : Int} (hy : ids[k]? = some y) (h : hasM ms y = false) : false = memIds ms ids := by
  symm; rw [Bool.eq_false_iff]; intro hA
  have := List.all_eq_true.1 hA y (List.mem_of_getElem? hy)
  rw [h] at this; cases this
theorem memIds_next {ms : List MemT} {ids : List Int} {k : Nat} {y : Int} (hb : memIds ms (ids.take k) = true) (hy : ids[k]? = some y) (h : hasM ms y = true) : memIds ms (ids.take (k + 1)) = true := by
  unfold memIds at hb ⊢
  rw [List.take_add_one, hy]
  simp only [Option.toList_some, List.all_append, hb, List.all_cons, List.all_nil, h, Bool.and_true]

set_option maxRecDepth 100000 in
theorem hasIdM_any (p : MemT) (id : Int) (N : Nat) (w : World) (hr : w.rangeAt N 0 [.int .i64 id]) :
    Calls Try.prog 71 #[.agg #[.int .i64 p.1, .int .i64 p.2], pt N 0] w fun e w' => e = .returned (.bool (p.1 == id)) ∧ Below w.heap.size w w' := by
 have hB0 := Below.refl w.heap.size w
 refine co_enter (n := 8) Try.func71 rfl rfl rfl [(0, .agg #[.int .i64 p.1, .int .i64 p.2]), (1, pt N 0)] rfl (fun a h0 => ?_)
 refine co_seq ?_
 refine co_reg ?_
 refine pw h0 rfl (op_new (v := fun N => pt N 0) (T := 88) (cs := #[.int .i64 p.1, .int .i64 p.2]) (by kernel_rfl) (by kernel_rfl) (by kernel_rfl)) ?_; clear h0
 rintro _ w2 a1 ⟨N3, rfl, hN6, hz7, hk5, hg4⟩ h1
 have hz8 := hg4.size
 try dsimp only at h1
 refine pk0 (v := .bool false) h1 rfl fun a9 h9 => ?_; clear h1
 refine pl_nil ?_
 refine co_then ?_
 refine co_seq ?_
 refine co_reg ?_
 refine pk0 (v := pt N3 0) h9 rfl fun a10 h10 => ?_; clear h9
 refine pk (v := .int .i64 p.1) h10 rfl (rn_load1 rfl rfl Try.isAgg3 (hk5.cell rfl)) fun a11 h11 => ?_; clear h10
 have hB12 := hb_new hB0 hg4
 refine pk (v := .int .i64 id) h11 rfl (rn_load1 rfl rfl Try.isAgg3 ((range_below hr hB12) 0 _ rfl)) fun a13 h13 => ?_; clear h11
 refine pk0 (v := .bool (p.1 == id)) h13 rfl fun a14 h14 => ?_; clear h13
 refine pk0 (v := .bool (p.1 == id)) h14 rfl fun a15 h15 => ?_; clear h14
 refine pl_nil ?_
 refine co_then ?_
 refine wp_ret ?_
 refine co_ret1 h15 rfl rfl ?_
 exact ⟨rfl, hB12⟩
set_option maxRecDepth 100000 in
theorem indexM_any (v : Value) (l : List MemT) (id : Int) (N : Nat) (w : World) (hs : SliceOf memE 2 w v l) (hr : w.rangeAt N 0 [.int .i64 id]) :
    Calls Try.prog 82 #[v, .func (.func 71) #[] #[pt N 0]] w fun e w' => ∃ (j : Int), e = .returned (.int .i64 j) ∧ decide (j ≥ 0) = hasM l id ∧ Below w.heap.size w w' := by
 have hB0 := Below.refl w.heap.size w
 have hl_hs := sl_len hs
 refine co_enter (n := 19) Try.func82 rfl rfl rfl [(0, v), (1, .func (.func 71) #[] #[pt N 0])] rfl (fun a h0 => ?_)
 refine co_seq ?_
 refine co_reg ?_
 refine pk0 (v := .int .i64 0) h0 rfl fun a1 h1 => ?_; clear h0
 refine pl_nil ?_
 refine co_then ?_
 refine co_seq ?_
 refine co_seq ?_
 refine co_reg ?_
 refine pk0 (v := v) h1 rfl fun a2 h2 => ?_; clear h1
 refine pk (v := .int .i64 ((l.length : Nat) : Int)) h2 rfl (rn_len rfl rfl Try.underlying29 hs) fun a3 h3 => ?_; clear h2
 refine pk0 (v := .int .i64 0) h3 rfl fun a4 h4 => ?_; clear h3
 refine pl_nil ?_
 refine co_then ?_
 refine wp_block ?_
 have h5 : Slots 19 [(0, v), (1, .func (.func 71) #[] #[pt N 0]), (6, v), (7, .int .i64 ((l.length : Nat) : Int)), (8, .int .i64 0)] _ := h4.sub ⟨rfl, rfl, rfl, rfl, rfl, trivial⟩; clear h4
 refine co_loop (fun mm a x => ∃ (i : Nat), Slots 19 [(0, v), (1, .func (.func 71) #[] #[pt N 0]), (6, v), (7, .int .i64 ((l.length : Nat) : Int)), (8, .int .i64 ((i : Nat) : Int))] a ∧ mm = l.length - i ∧ (i ≤ l.length) ∧ (∀ j, j < i → ∀ z, l[j]? = some z → z.1 ≠ id) ∧ Below w.heap.size w x) (l.length - 0) ?_ ?_
 · exact ⟨0, h5.sub ⟨rfl, rfl, rfl, rfl, (slot_eq rfl (congrArg (Value.int .i64) (by first | rfl | omega))), trivial⟩, rfl, by omega, by first | (intro j hj; omega) | exact has_next (by assumption) (by assumption) (by omega), hB0⟩
 · rintro k6 a7 w8 ⟨i, h7, rfl, hi9, hi10, hB11⟩
   have hz12 := hB11.size
   refine co_seq ?_
   refine co_reg ?_
   refine pk0 (v := .bool (decide (((i : Nat) : Int) < ((l.length : Nat) : Int)))) h7 rfl fun a13 h13 => ?_; clear h7
   refine pl_nil ?_
   refine co_then ?_
   refine co_seq ?_
   cases hc14 : (decide (((i : Nat) : Int) < ((l.length : Nat) : Int)))
   ·
    rw [hc14] at h13
    have hp15 : ¬ (((i : Nat) : Int) < ((l.length : Nat) : Int)) := of_decide_eq_false hc14
    clear hc14
    refine co_false h13 rfl ?_
    refine wp_exit ?_
    refine co_thenX ?_
    refine co_thenX ?_
    refine co_blockX ?_
    refine co_then ?_
    refine co_seq ?_
    refine co_reg ?_
    refine pk0 (v := .int .i64 (-1)) h13 rfl fun a16 h16 => ?_; clear h13
    refine pl_nil ?_
    refine co_then ?_
    refine wp_ret ?_
    refine co_ret1 h16 rfl rfl ?_
    exact ⟨_, rfl, by rw [decide_eq_false (by omega)]; exact hasM_end (by assumption) (by omega), hB11⟩
   ·
    rw [hc14] at h13
    have hp17 : ((i : Nat) : Int) < ((l.length : Nat) : Int) := of_decide_eq_true hc14
    clear hc14
    refine co_true h13 rfl ?_
    refine wp_skip ?_
    refine co_then ?_
    refine co_seq ?_
    refine wp_block ?_
    refine co_seq ?_
    refine co_reg ?_
    refine pk0 (v := .int .i64 ((i : Nat) : Int)) h13 rfl fun a18 h18 => ?_; clear h13
    refine pk0 (v := .int .i64 ((i : Nat) : Int)) h18 rfl fun a19 h19 => ?_; clear h18
    refine pl_nil ?_
    refine co_then ?_
    refine co_seq ?_
    refine co_reg ?_
    refine pk0 (v := .func (.func 71) #[] #[pt N 0]) h19 rfl fun a20 h20 => ?_; clear h19
    refine pk0 (v := v) h20 rfl fun a21 h21 => ?_; clear h20
    refine pk0 (v := .int .i64 ((i : Nat) : Int)) h21 rfl fun a22 h22 => ?_; clear h21
    obtain ⟨y23, hy23⟩ : ∃ z, l[i]? = some z := ⟨_, List.getElem?_eq_getElem (by first | omega | (simp; done) | (simp; omega))⟩
    refine pk (v := pt (blkOf v) (offOf v + i * 2)) h22 rfl (rn_index rfl rfl rfl Try.underlying29 Try.sizeOf88 (hs.below hB11) (by omega) (by first | omega | (simp; done) | (simp; omega))) fun a24 h24 => ?_; clear h22
    refine pk (v := .agg #[.int .i64 y23.1, .int .i64 y23.2]) h24 rfl (rn_loadN rfl rfl Try.underlying88 rfl (by kernel_rfl) (sl_at (hs.below hB11) hy23)) fun a25 h25 => ?_; clear h24
    refine pw h25 rfl (op_callV (args := #[.agg #[.int .i64 y23.1, .int .i64 y23.2], pt N 0]) (R := fun res xw => res = .bool (y23.1 == id) ∧ Below w8.heap.size w8 xw) rfl rfl rfl (by kernel_rfl) (by kernel_rfl) (Try.call71 _ _) (hasIdM_any y23 id N w8 (range_below hr hB11)) (by rintro e x ⟨rfl, hb28⟩; exact ⟨_, rfl, ⟨rfl, hb28⟩⟩)) ?_; clear h25
    rintro _ w27 a26 ⟨rfl, hb28⟩ h26
    have hz29 := hb28.size
    refine pl_nil ?_
    refine co_then ?_
    have hB31 := hb_call hB11 hb28
    cases hc30 : (y23.1 == id)
    ·
     rw [hc30] at h26
     have hp32 : ¬ (y23.1 = id) := by first | simpa using hc30 | simpa [and_assoc] using hc30
     clear hc30
     refine co_false h26 rfl ?_
     refine wp_skip ?_
     refine co_blockN ?_
     refine co_then ?_
     refine co_reg ?_
     refine pk (v := .int .i64 ((i + 1 : Nat) : Int)) h26 rfl (rn_arith' rfl rfl rfl rfl rfl rfl (IntWalk.i64_in _ (by omega)) (by omega)) fun a33 h33 => ?_; clear h26
     refine pk0 (v := .int .i64 ((i + 1 : Nat) : Int)) h33 rfl fun a34 h34 => ?_; clear h33
     refine pl_nil ?_
     refine co_then ?_
     refine ⟨(l.length - (i + 1)), by omega, ?_⟩
     exact ⟨i + 1, h34.sub ⟨rfl, rfl, rfl, rfl, rfl, trivial⟩, rfl, by omega, by first | (intro j hj; omega) | exact has_next (by assumption) (by assumption) (by omega), hB31⟩
    ·
     rw [hc30] at h26
     have hp35 : y23.1 = id := by first | simpa using hc30 | simpa [and_assoc] using hc30
     clear hc30
     refine co_true h26 rfl ?_
     refine co_seq ?_
     refine co_reg ?_
     refine pk0 (v := .int .i64 ((i : Nat) : Int)) h26 rfl fun a36 h36 => ?_; clear h26
     refine pk0 (v := .int .i64 ((i : Nat) : Int)) h36 rfl fun a37 h37 => ?_; clear h36
     refine pl_nil ?_
     refine co_then ?_
     refine wp_ret ?_
     refine co_blockR ?_
     refine co_thenR ?_
     refine co_thenR ?_
     refine co_blockR ?_
     refine co_thenR ?_
     refine co_ret1 h37 rfl rfl ?_
     exact ⟨_, rfl, by rw [decide_eq_true (by omega)]; exact hasM_at (by assumption) (by omega), hB31⟩
set_option maxRecDepth 100000 in
theorem containsM_any (v : Value) (l : List MemT) (id : Int) (N : Nat) (w : World) (hs : SliceOf memE 2 w v l) (hr : w.rangeAt N 0 [.int .i64 id]) :
    Calls Try.prog 70 #[v, .func (.func 71) #[] #[pt N 0]] w fun e w' => e = .returned (.bool (hasM l id)) ∧ Below w.heap.size w w' := by
 have hB0 := Below.refl w.heap.size w
 have hl_hs := sl_len hs
 refine co_enter (n := 9) Try.func70 rfl rfl rfl [(0, v), (1, .func (.func 71) #[] #[pt N 0])] rfl (fun a h0 => ?_)
 refine co_seq ?_
 refine co_reg ?_
 refine pk0 (v := .bool false) h0 rfl fun a1 h1 => ?_; clear h0
 refine pl_nil ?_
 refine co_then ?_
 refine co_seq ?_
 refine co_reg ?_
 refine pk0 (v := v) h1 rfl fun a2 h2 => ?_; clear h1
 refine pk0 (v := .func (.func 71) #[] #[pt N 0]) h2 rfl fun a3 h3 => ?_; clear h2
 refine pw h3 rfl (op_call (args := #[v, .func (.func 71) #[] #[pt N 0]]) (R := fun res xw => ∃ j : Int, res = .int .i64 j ∧ decide (j ≥ 0) = hasM l id ∧ Below w.heap.size w xw) rfl rfl rfl (by kernel_rfl) (by kernel_rfl) (Try.call82 _ _) (indexM_any v l id N w hs hr) (by rintro e x ⟨j, rfl, hq7, hb8⟩; exact ⟨_, rfl, ⟨j, rfl, hq7, hb8⟩⟩)) ?_; clear h3
 rintro _ w5 a4 ⟨j6, rfl, hq7, hb8⟩ h4
 have hz9 := hb8.size
 refine pk0 (v := .bool (decide (j6 ≥ 0))) h4 rfl fun a10 h10 => ?_; clear h4
 refine pk0 (v := .bool (decide (j6 ≥ 0))) h10 rfl fun a11 h11 => ?_; clear h10
 refine pl_nil ?_
 refine co_then ?_
 refine wp_ret ?_
 refine co_ret1 h11 rfl rfl ?_
 have hB12 := hb_call hB0 hb8
 exact ⟨ret_bool (by assumption), hB12⟩
set_option maxRecDepth 100000 in
theorem indexI_any (v : Value) (l : List Int) (n : Int) (w : World) (hs : SliceOf (intE .i64) 1 w v l) :
    Calls Try.prog 72 #[v, .int .i64 n] w fun e w' => ∃ (j : Int), e = .returned (.int .i64 j) ∧ decide (j ≥ 0) = inL l n ∧ Below w.heap.size w w' := by
 have hB0 := Below.refl w.heap.size w
 have hl_hs := sl_len hs
 refine co_enter (n := 19) Try.func72 rfl rfl rfl [(0, v), (1, .int .i64 n)] rfl (fun a h0 => ?_)
 refine co_seq ?_
 refine co_reg ?_
 refine pk0 (v := .int .i64 0) h0 rfl fun a1 h1 => ?_; clear h0
 refine pl_nil ?_
 refine co_then ?_
 refine co_seq ?_
 refine co_seq ?_
 refine co_reg ?_
 refine pk0 (v := v) h1 rfl fun a2 h2 => ?_; clear h1
 refine pk (v := .int .i64 ((l.length : Nat) : Int)) h2 rfl (rn_len rfl rfl Try.underlying37 hs) fun a3 h3 => ?_; clear h2
 refine pk0 (v := .int .i64 0) h3 rfl fun a4 h4 => ?_; clear h3
 refine pl_nil ?_
 refine co_then ?_
 refine wp_block ?_
 have h5 : Slots 19 [(0, v), (1, .int .i64 n), (6, v), (7, .int .i64 ((l.length : Nat) : Int)), (8, .int .i64 0)] _ := h4.sub ⟨rfl, rfl, rfl, rfl, rfl, trivial⟩; clear h4
 refine co_loop (fun mm a x => ∃ (i : Nat), Slots 19 [(0, v), (1, .int .i64 n), (6, v), (7, .int .i64 ((l.length : Nat) : Int)), (8, .int .i64 ((i : Nat) : Int))] a ∧ mm = l.length - i ∧ (i ≤ l.length) ∧ (∀ j, j < i → ∀ z, l[j]? = some z → z ≠ n) ∧ Below w.heap.size w x) (l.length - 0) ?_ ?_
 · exact ⟨0, h5.sub ⟨rfl, rfl, rfl, rfl, (slot_eq rfl (congrArg (Value.int .i64) (by first | rfl | omega))), trivial⟩, rfl, by omega, by first | (intro j hj; omega) | exact in_next (by assumption) (by assumption) (by omega), hB0⟩
 · rintro k6 a7 w8 ⟨i, h7, rfl, hi9, hi10, hB11⟩
   have hz12 := hB11.size
   refine co_seq ?_
   refine co_reg ?_
   refine pk0 (v := .bool (decide (((i : Nat) : Int) < ((l.length : Nat) : Int)))) h7 rfl fun a13 h13 => ?_; clear h7
   refine pl_nil ?_
   refine co_then ?_
   refine co_seq ?_
   cases hc14 : (decide (((i : Nat) : Int) < ((l.length : Nat) : Int)))
   ·
    rw [hc14] at h13
    have hp15 : ¬ (((i : Nat) : Int) < ((l.length : Nat) : Int)) := of_decide_eq_false hc14
    clear hc14
    refine co_false h13 rfl ?_
    refine wp_exit ?_
    refine co_thenX ?_
    refine co_thenX ?_
    refine co_blockX ?_
    refine co_then ?_
    refine co_seq ?_
    refine co_reg ?_
    refine pk0 (v := .int .i64 (-1)) h13 rfl fun a16 h16 => ?_; clear h13
    refine pl_nil ?_
    refine co_then ?_
    refine wp_ret ?_
    refine co_ret1 h16 rfl rfl ?_
    exact ⟨_, rfl, by rw [decide_eq_false (by omega)]; exact inL_end (i := i) (by assumption) (by omega), hB11⟩
   ·
    rw [hc14] at h13
    have hp17 : ((i : Nat) : Int) < ((l.length : Nat) : Int) := of_decide_eq_true hc14
    clear hc14
    refine co_true h13 rfl ?_
    refine wp_skip ?_
    refine co_then ?_
    refine co_seq ?_
    refine wp_block ?_
    refine co_seq ?_
    refine co_reg ?_
    refine pk0 (v := .int .i64 ((i : Nat) : Int)) h13 rfl fun a18 h18 => ?_; clear h13
    refine pk0 (v := .int .i64 ((i : Nat) : Int)) h18 rfl fun a19 h19 => ?_; clear h18
    refine pl_nil ?_
    refine co_then ?_
    refine co_seq ?_
    refine co_reg ?_
    refine pk0 (v := .int .i64 n) h19 rfl fun a20 h20 => ?_; clear h19
    refine pk0 (v := v) h20 rfl fun a21 h21 => ?_; clear h20
    refine pk0 (v := .int .i64 ((i : Nat) : Int)) h21 rfl fun a22 h22 => ?_; clear h21
    obtain ⟨y23, hy23⟩ : ∃ z, l[i]? = some z := ⟨_, List.getElem?_eq_getElem (by first | omega | (simp; done) | (simp; omega))⟩
    refine pk (v := pt (blkOf v) (offOf v + i * 1)) h22 rfl (rn_index rfl rfl rfl Try.underlying37 Try.sizeOf3 (hs.below hB11) (by omega) (by first | omega | (simp; done) | (simp; omega))) fun a24 h24 => ?_; clear h22
    refine pk (v := .int .i64 y23) h24 rfl (rn_load1 rfl rfl Try.isAgg3 ((sl_at (hs.below hB11) hy23) 0 _ rfl)) fun a25 h25 => ?_; clear h24
    refine pk0 (v := .bool (n == y23)) h25 rfl fun a26 h26 => ?_; clear h25
    refine pl_nil ?_
    refine co_then ?_
    cases hc27 : (n == y23)
    ·
     rw [hc27] at h26
     have hp28 : ¬ (n = y23) := by first | simpa using hc27 | simpa [and_assoc] using hc27
     clear hc27
     refine co_false h26 rfl ?_
     refine wp_skip ?_
     refine co_blockN ?_
     refine co_then ?_
     refine co_reg ?_
     refine pk (v := .int .i64 ((i + 1 : Nat) : Int)) h26 rfl (rn_arith' rfl rfl rfl rfl rfl rfl (IntWalk.i64_in _ (by omega)) (by omega)) fun a29 h29 => ?_; clear h26
     refine pk0 (v := .int .i64 ((i + 1 : Nat) : Int)) h29 rfl fun a30 h30 => ?_; clear h29
     refine pl_nil ?_
     refine co_then ?_
     refine ⟨(l.length - (i + 1)), by omega, ?_⟩
     exact ⟨i + 1, h30.sub ⟨rfl, rfl, rfl, rfl, rfl, trivial⟩, rfl, by omega, by first | (intro j hj; omega) | exact in_next (by assumption) (by assumption) (by omega), hB11⟩
    ·
     rw [hc27] at h26
     have hp31 : n = y23 := by first | simpa using hc27 | simpa [and_assoc] using hc27
     clear hc27
     refine co_true h26 rfl ?_
     refine co_seq ?_
     refine co_reg ?_
     refine pk0 (v := .int .i64 ((i : Nat) : Int)) h26 rfl fun a32 h32 => ?_; clear h26
     refine pk0 (v := .int .i64 ((i : Nat) : Int)) h32 rfl fun a33 h33 => ?_; clear h32
     refine pl_nil ?_
     refine co_then ?_
     refine wp_ret ?_
     refine co_blockR ?_
     refine co_thenR ?_
     refine co_thenR ?_
     refine co_blockR ?_
     refine co_thenR ?_
     refine co_ret1 h33 rfl rfl ?_
     exact ⟨_, rfl, by rw [decide_eq_true (by omega)]; exact inL_at (by assumption) (by assumption) (by omega), hB11⟩
set_option maxRecDepth 100000 in
theorem containsI_any (v : Value) (l : List Int) (n : Int) (w : World) (hs : SliceOf (intE .i64) 1 w v l) :
    Calls Try.prog 48 #[v, .int .i64 n] w fun e w' => e = .returned (.bool (inL l n)) ∧ Below w.heap.size w w' := by
 have hB0 := Below.refl w.heap.size w
 have hl_hs := sl_len hs
 refine co_enter (n := 9) Try.func48 rfl rfl rfl [(0, v), (1, .int .i64 n)] rfl (fun a h0 => ?_)
 refine co_seq ?_
 refine co_reg ?_
 refine pk0 (v := .bool false) h0 rfl fun a1 h1 => ?_; clear h0
 refine pl_nil ?_
 refine co_then ?_
 refine co_seq ?_
 refine co_reg ?_
 refine pk0 (v := v) h1 rfl fun a2 h2 => ?_; clear h1
 refine pk0 (v := .int .i64 n) h2 rfl fun a3 h3 => ?_; clear h2
 refine pw h3 rfl (op_call (args := #[v, .int .i64 n]) (R := fun res xw => ∃ j : Int, res = .int .i64 j ∧ decide (j ≥ 0) = inL l n ∧ Below w.heap.size w xw) rfl rfl rfl (by kernel_rfl) (by kernel_rfl) (Try.call72 _ _) (indexI_any v l n w hs) (by rintro e x ⟨j, rfl, hq7, hb8⟩; exact ⟨_, rfl, ⟨j, rfl, hq7, hb8⟩⟩)) ?_; clear h3
 rintro _ w5 a4 ⟨j6, rfl, hq7, hb8⟩ h4
 have hz9 := hb8.size
 refine pk0 (v := .bool (decide (j6 ≥ 0))) h4 rfl fun a10 h10 => ?_; clear h4
 refine pk0 (v := .bool (decide (j6 ≥ 0))) h10 rfl fun a11 h11 => ?_; clear h10
 refine pl_nil ?_
 refine co_then ?_
 refine wp_ret ?_
 refine co_ret1 h11 rfl rfl ?_
 have hB12 := hb_call hB0 hb8
 exact ⟨ret_bool (by assumption), hB12⟩
set_option maxRecDepth 100000 in
theorem idAt0_any (ep : Int) (fl : Int) (mv : Value) (ms : List MemT) (w : World) (hs : SliceOf memE 2 w mv ms) :
    Calls Try.prog 73 #[.agg #[.int .i64 ep, mv, .int .u64 fl], .int .i64 0] w fun e w' => e = .returned (.int .i64 (headI ms)) ∧ Below w.heap.size w w' := by
 have hB0 := Below.refl w.heap.size w
 have hl_hs := sl_len hs
 refine co_enter (n := 20) Try.func73 rfl rfl rfl [(0, .agg #[.int .i64 ep, mv, .int .u64 fl]), (1, .int .i64 0)] rfl (fun a h0 => ?_)
 refine co_seq ?_
 refine co_reg ?_
 refine pw h0 rfl (op_new (v := fun N => pt N 0) (T := 31) (cs := #[.int .i64 ep, mv, .int .u64 fl]) (by kernel_rfl) (by kernel_rfl) (by kernel_rfl)) ?_; clear h0
 rintro _ w2 a1 ⟨N3, rfl, hN6, hz7, hk5, hg4⟩ h1
 have hz8 := hg4.size
 try dsimp only at h1
 refine pk0 (v := .int .i64 0) h1 rfl fun a9 h9 => ?_; clear h1
 refine pl_nil ?_
 refine co_then ?_
 refine co_seq ?_
 refine co_seq ?_
 refine co_reg ?_
 refine pk0 (v := .int .i64 0) h9 rfl fun a10 h10 => ?_; clear h9
 refine pk0 (v := .bool (decide (0 < 0))) h10 rfl fun a11 h11 => ?_; clear h10
 refine pk0 (v := .bool (decide (0 < 0))) h11 rfl fun a12 h12 => ?_; clear h11
 have hc13 : (decide (0 < 0)) = false := decide_eq_false (by omega)
 rw [hc13] at h12; clear hc13
 refine pk0 (v := .int .i64 0) h12 rfl fun a14 h14 => ?_; clear h12
 refine pk0 (v := pt N3 1) h14 rfl fun a15 h15 => ?_; clear h14
 refine pk (v := mv) h15 rfl (rn_load1 rfl rfl Try.isAgg29 (hk5.cell rfl)) fun a16 h16 => ?_; clear h15
 have hB17 := hb_new hB0 hg4
 refine pk (v := .int .i64 ((ms.length : Nat) : Int)) h16 rfl (rn_len rfl rfl Try.underlying29 (hs.below hB17)) fun a18 h18 => ?_; clear h16
 refine pk0 (v := .bool (decide (0 ≥ ((ms.length : Nat) : Int)))) h18 rfl fun a19 h19 => ?_; clear h18
 refine pk0 (v := .bool (decide (0 ≥ ((ms.length : Nat) : Int)))) h19 rfl fun a20 h20 => ?_; clear h19
 refine pl_nil ?_
 refine co_then ?_
 cases hc21 : (decide (0 ≥ ((ms.length : Nat) : Int)))
 ·
  rw [hc21] at h20
  have hp22 : ¬ (0 ≥ ((ms.length : Nat) : Int)) := of_decide_eq_false hc21
  clear hc21
  refine co_false h20 rfl ?_
  refine wp_skip ?_
  refine co_then ?_
  refine co_seq ?_
  refine co_reg ?_
  refine pk0 (v := pt N3 1) h20 rfl fun a23 h23 => ?_; clear h20
  refine pk (v := mv) h23 rfl (rn_load1 rfl rfl Try.isAgg29 (hk5.cell rfl)) fun a24 h24 => ?_; clear h23
  refine pk0 (v := .int .i64 0) h24 rfl fun a25 h25 => ?_; clear h24
  obtain ⟨y26, hy26⟩ : ∃ z, ms[0]? = some z := ⟨_, List.getElem?_eq_getElem (by first | omega | (simp; done) | (simp; omega))⟩
  refine pk (v := pt (blkOf mv) (offOf mv + 0 * 2)) h25 rfl (rn_index rfl rfl rfl Try.underlying29 Try.sizeOf88 (hs.below hB17) (by omega) (by first | omega | (simp; done) | (simp; omega))) fun a27 h27 => ?_; clear h25
  refine pk0 (v := pt (blkOf mv) (offOf mv + 0 * 2)) h27 rfl fun a28 h28 => ?_; clear h27
  refine pk (v := .int .i64 y26.1) h28 rfl (rn_load1 rfl rfl Try.isAgg3 ((sl_at (hs.below hB17) hy26) 0 _ rfl)) fun a29 h29 => ?_; clear h28
  refine pk0 (v := .int .i64 y26.1) h29 rfl fun a30 h30 => ?_; clear h29
  refine pl_nil ?_
  refine co_then ?_
  refine wp_ret ?_
  refine co_ret1 h30 rfl rfl ?_
  exact ⟨ret_int (by first | exact headI_y (by assumption) | exact headI_0 (by omega)), hB17⟩
 ·
  rw [hc21] at h20
  have hp31 : 0 ≥ ((ms.length : Nat) : Int) := of_decide_eq_true hc21
  clear hc21
  refine co_true h20 rfl ?_
  refine co_seq ?_
  refine co_reg ?_
  refine pk0 (v := .int .i64 (-1)) h20 rfl fun a32 h32 => ?_; clear h20
  refine pl_nil ?_
  refine co_then ?_
  refine wp_ret ?_
  refine co_thenR ?_
  refine co_ret1 h32 rfl rfl ?_
  exact ⟨ret_int (by first | exact headI_y (by assumption) | exact headI_0 (by omega)), hB17⟩
set_option maxRecDepth 100000 in
theorem headP_any (ep : Int) (fl : Int) (mv : Value) (ms : List MemT) (w : World) (hs : SliceOf memE 2 w mv ms) :
    Calls Try.prog 49 #[.agg #[.int .i64 ep, mv, .int .u64 fl]] w fun e w' => e = .returned (.int .i64 (headI ms)) ∧ Below w.heap.size w w' := by
 have hB0 := Below.refl w.heap.size w
 have hl_hs := sl_len hs
 refine co_enter (n := 5) Try.func49 rfl rfl rfl [(0, .agg #[.int .i64 ep, mv, .int .u64 fl])] rfl (fun a h0 => ?_)
 refine co_seq ?_
 refine co_reg ?_
 refine pw h0 rfl (op_new (v := fun N => pt N 0) (T := 31) (cs := #[.int .i64 ep, mv, .int .u64 fl]) (by kernel_rfl) (by kernel_rfl) (by kernel_rfl)) ?_; clear h0
 rintro _ w2 a1 ⟨N3, rfl, hN6, hz7, hk5, hg4⟩ h1
 have hz8 := hg4.size
 try dsimp only at h1
 refine pk0 (v := .int .i64 0) h1 rfl fun a9 h9 => ?_; clear h1
 refine pl_nil ?_
 refine co_then ?_
 refine co_seq ?_
 refine co_reg ?_
 refine pk (v := .agg #[.int .i64 ep, mv, .int .u64 fl]) h9 rfl (rn_loadN rfl rfl Try.underlying31 rfl (by kernel_rfl) hk5.all) fun a10 h10 => ?_; clear h9
 have hB13 := hb_new hB0 hg4
 refine pw h10 rfl (op_call (args := #[.agg #[.int .i64 ep, mv, .int .u64 fl], .int .i64 0]) (R := fun res xw => res = .int .i64 (headI ms) ∧ Below w2.heap.size w2 xw) rfl rfl rfl (by kernel_rfl) (by kernel_rfl) (Try.call73 _ _) (idAt0_any ep fl mv ms w2 (hs.below hB13)) (by rintro e x ⟨rfl, hb14⟩; exact ⟨_, rfl, ⟨rfl, hb14⟩⟩)) ?_; clear h10
 rintro _ w12 a11 ⟨rfl, hb14⟩ h11
 have hz15 := hb14.size
 refine pk0 (v := .int .i64 (headI ms)) h11 rfl fun a16 h16 => ?_; clear h11
 refine pl_nil ?_
 refine co_then ?_
 refine wp_ret ?_
 refine co_ret1 h16 rfl rfl ?_
 have hB17 := hb_call hB13 hb14
 exact ⟨rfl, hB17⟩
set_option maxRecDepth 100000 in
theorem memberIds_any (ep : Int) (fl : Int) (mv : Value) (ms : List MemT) (v : Value) (ids : List Int) (w : World) (hs : SliceOf memE 2 w mv ms) (hs2 : SliceOf (intE .i64) 1 w v ids) :
    Calls Try.prog 47 #[.agg #[.int .i64 ep, mv, .int .u64 fl], v] w fun e w' => e = .returned (.bool (memIds ms ids)) ∧ Below w.heap.size w w' := by
 have hB0 := Below.refl w.heap.size w
 have hl_hs := sl_len hs
 have hl_hs2 := sl_len hs2
 refine co_enter (n := 19) Try.func47 rfl rfl rfl [(0, .agg #[.int .i64 ep, mv, .int .u64 fl]), (1, v)] rfl (fun a h0 => ?_)
 refine co_seq ?_
 refine co_reg ?_
 refine pw h0 rfl (op_new (v := fun N => pt N 0) (T := 31) (cs := #[.int .i64 ep, mv, .int .u64 fl]) (by kernel_rfl) (by kernel_rfl) (by kernel_rfl)) ?_; clear h0
 rintro _ w2 a1 ⟨N3, rfl, hN6, hz7, hk5, hg4⟩ h1
 have hz8 := hg4.size
 try dsimp only at h1
 refine pk0 (v := .bool false) h1 rfl fun a9 h9 => ?_; clear h1
 refine pl_nil ?_
 refine co_then ?_
 refine co_seq ?_
 refine co_seq ?_
 refine co_reg ?_
 refine pk0 (v := v) h9 rfl fun a10 h10 => ?_; clear h9
 have hB11 := hb_new hB0 hg4
 refine pk (v := .int .i64 ((ids.length : Nat) : Int)) h10 rfl (rn_len rfl rfl Try.underlying37 (hs2.below hB11)) fun a12 h12 => ?_; clear h10
 refine pk0 (v := .int .i64 0) h12 rfl fun a13 h13 => ?_; clear h12
 refine pl_nil ?_
 refine co_then ?_
 refine wp_block ?_
 have h14 : Slots 19 [(2, pt N3 0), (7, v), (8, .int .i64 ((ids.length : Nat) : Int)), (9, .int .i64 0)] _ := h13.sub ⟨rfl, rfl, rfl, rfl, trivial⟩; clear h13
 refine co_loop (fun mm a x => ∃ (k : Nat), Slots 19 [(2, pt N3 0), (7, v), (8, .int .i64 ((ids.length : Nat) : Int)), (9, .int .i64 ((k : Nat) : Int))] a ∧ mm = ids.length - k ∧ (k ≤ ids.length) ∧ (memIds ms (ids.take k) = true) ∧ Below w.heap.size w x ∧ Blk x N3 31 #[.int .i64 ep, mv, .int .u64 fl]) (ids.length - 0) ?_ ?_
 · exact ⟨0, h14.sub ⟨rfl, rfl, rfl, (slot_eq rfl (congrArg (Value.int .i64) (by first | rfl | omega))), trivial⟩, rfl, by omega, by first | rfl | exact memIds_next (by assumption) (by assumption) (by assumption), hB11, hk5⟩
 · rintro k15 a16 w17 ⟨k, h16, rfl, hi18, hi19, hB20, hk21⟩
   have hz22 := hB20.size
   have hl23 := hk21.lt
   refine co_seq ?_
   refine co_reg ?_
   refine pk0 (v := .bool (decide (((k : Nat) : Int) < ((ids.length : Nat) : Int)))) h16 rfl fun a24 h24 => ?_; clear h16
   refine pl_nil ?_
   refine co_then ?_
   refine co_seq ?_
   cases hc25 : (decide (((k : Nat) : Int) < ((ids.length : Nat) : Int)))
   ·
    rw [hc25] at h24
    have hp26 : ¬ (((k : Nat) : Int) < ((ids.length : Nat) : Int)) := of_decide_eq_false hc25
    clear hc25
    refine co_false h24 rfl ?_
    refine wp_exit ?_
    refine co_thenX ?_
    refine co_thenX ?_
    refine co_blockX ?_
    refine co_then ?_
    refine co_seq ?_
    refine co_reg ?_
    refine pk0 (v := .bool true) h24 rfl fun a27 h27 => ?_; clear h24
    refine pl_nil ?_
    refine co_then ?_
    refine wp_ret ?_
    refine co_ret1 h27 rfl rfl ?_
    exact ⟨ret_bool (by first | exact memIds_no (by assumption) (by assumption) | (have hq := (by assumption : memIds ms (ids.take k) = true); rw [List.take_of_length_le (by omega)] at hq; exact hq.symm)), hB20⟩
   ·
    rw [hc25] at h24
    have hp28 : ((k : Nat) : Int) < ((ids.length : Nat) : Int) := of_decide_eq_true hc25
    clear hc25
    refine co_true h24 rfl ?_
    refine wp_skip ?_
    refine co_then ?_
    refine co_seq ?_
    refine wp_block ?_
    refine co_seq ?_
    refine co_reg ?_
    obtain ⟨y29, hy29⟩ : ∃ z, ids[k]? = some z := ⟨_, List.getElem?_eq_getElem (by first | omega | (simp; done) | (simp; omega))⟩
    refine pk (v := pt (blkOf v) (offOf v + k * 1)) h24 rfl (rn_index rfl rfl rfl Try.underlying37 Try.sizeOf3 (hs2.below hB20) (by omega) (by first | omega | (simp; done) | (simp; omega))) fun a30 h30 => ?_; clear h24
    refine pk (v := .int .i64 y29) h30 rfl (rn_load1 rfl rfl Try.isAgg3 ((sl_at (hs2.below hB20) hy29) 0 _ rfl)) fun a31 h31 => ?_; clear h30
    refine pw h31 rfl (op_new (v := fun N => pt N 0) (T := 3) (cs := #[.int .i64 0]) (by kernel_rfl) (by kernel_rfl) (by kernel_rfl)) ?_; clear h31
    rintro _ w33 a32 ⟨N34, rfl, hN37, hz38, hk36, hg35⟩ h32
    have hz39 := hg35.size
    try dsimp only at h32
    refine pwD h32 rfl (op_store1 rfl rfl rfl rfl Try.sizeOf3 hk36 rfl) ?_; clear h32
    rintro _ w41 a40 ⟨hk42, hz43, hg44⟩ h40
    have hk42' : Blk w41 N34 3 #[.int .i64 y29] := hk42; clear hk42
    have hz45 := hg44.size
    refine pl_nil ?_
    refine co_then ?_
    refine co_seq ?_
    refine co_reg ?_
    refine pk0 (v := pt N3 1) h40 rfl fun a46 h46 => ?_; clear h40
    have hk47 := hk21.kept hg35 (by simp)
    have hk48 := hk47.kept hg44 (by simp; omega)
    refine pk (v := mv) h46 rfl (rn_load1 rfl rfl Try.isAgg29 (hk48.cell rfl)) fun a49 h49 => ?_; clear h46
    refine pk0 (v := .func (.func 71) #[] #[pt N34 0]) h49 rfl fun a50 h50 => ?_; clear h49
    have hB53 := hb_new hB20 hg35
    have hB54 := hb_at hB53 hg44 (by omega)
    refine pw h50 rfl (op_call (args := #[mv, .func (.func 71) #[] #[pt N34 0]]) (R := fun res xw => res = .bool (hasM ms y29) ∧ Below w41.heap.size w41 xw) rfl rfl rfl (by kernel_rfl) (by kernel_rfl) (Try.call70 _ _) (containsM_any mv ms y29 N34 w41 (hs.below hB54) (blk_part hk42' 0 rfl)) (by rintro e x ⟨rfl, hb55⟩; exact ⟨_, rfl, ⟨rfl, hb55⟩⟩)) ?_; clear h50
    rintro _ w52 a51 ⟨rfl, hb55⟩ h51
    have hz56 := hb55.size
    have hB58 := hb_call hB54 hb55
    cases hc57 : (hasM ms y29)
    ·
     rw [hc57] at h51
     refine pk0 (v := .bool true) h51 rfl fun a59 h59 => ?_; clear h51
     refine pl_nil ?_
     refine co_then ?_
     refine co_true h59 rfl ?_
     refine co_seq ?_
     refine co_reg ?_
     refine pk0 (v := .bool false) h59 rfl fun a60 h60 => ?_; clear h59
     refine pl_nil ?_
     refine co_then ?_
     refine wp_ret ?_
     refine co_blockR ?_
     refine co_thenR ?_
     refine co_thenR ?_
     refine co_blockR ?_
     refine co_thenR ?_
     refine co_ret1 h60 rfl rfl ?_
     exact ⟨ret_bool (by first | exact memIds_no (by assumption) (by assumption) | (have hq := (by assumption : memIds ms (ids.take k) = true); rw [List.take_of_length_le (by omega)] at hq; exact hq.symm)), hB58⟩
    ·
     rw [hc57] at h51
     refine pk0 (v := .bool false) h51 rfl fun a61 h61 => ?_; clear h51
     refine pl_nil ?_
     refine co_then ?_
     refine co_false h61 rfl ?_
     refine wp_skip ?_
     refine co_blockN ?_
     refine co_then ?_
     refine co_reg ?_
     refine pk (v := .int .i64 ((k + 1 : Nat) : Int)) h61 rfl (rn_arith' rfl rfl rfl rfl rfl rfl (IntWalk.i64_in _ (by omega)) (by omega)) fun a62 h62 => ?_; clear h61
     refine pk0 (v := .int .i64 ((k + 1 : Nat) : Int)) h62 rfl fun a63 h63 => ?_; clear h62
     refine pl_nil ?_
     refine co_then ?_
     refine ⟨(ids.length - (k + 1)), by omega, ?_⟩
     have hk64 := hk48.below hb55
     exact ⟨k + 1, h63.sub ⟨rfl, rfl, rfl, rfl, trivial⟩, rfl, by omega, by first | rfl | exact memIds_next (by assumption) (by assumption) (by assumption), hB58, hk64⟩
end Go.Proofs.Ytglfoippcmckaaa

/- append(nil, make([]T, n)...): a new row of zeros. Conditions: at most 1000. -/
namespace Go.Proofs.Ytglfoippcmckaaa
open Go Go.RowKit
set_option linter.unusedVariables false
set_option linter.unusedSimpArgs false

theorem run_append_make {P : Program} (w : World) (t tx ty e : TypeId) (i : TypeInfo) (z : Value) (ht : P.underlying t = some (.slice e)) (hx : P.underlying tx = some (.int .i64)) (hi : P.info? e = some i) (hz : i.zero = some z) (n : Nat) (h0 : 0 < n) (hn : n ≤ 1000) (hs : i.size = 1) (hb : i.bytes = 8) :
    (Builtin.append_ #[t, tx] ty #[.slice none 0 0, .int .i64 n]).run P w =
      .ok (.slice (some ⟨w.heap.size, 0, none⟩) n (grownCap w n 0 e))
        (w.drew.alloc (.cells (Builtin.zeroCells z.cells n ++ Builtin.zeroCells z.cells (grownCap w n 0 e - n)) e)) := by
  have hw : IntKind.i64.wrap (n : Int) = n := IntWalk.i64_in _ ⟨by omega, by omega⟩
  have h1 : ¬ ((n : Int) < 0) := by omega
  have h2 : ¬ (281474976710656 < (n : Int) * 8) := by omega
  have h3 : ¬ (n = 0) := by omega
  have h63' : ¬ (9223372036854775807 < (n : Int)) := by omega
  have hg : Builtin.nextslicecap n 0 = n := by unfold Builtin.nextslicecap; rw [if_pos (by omega)]
  have h48' : ¬ (281474976710656 < n * 8) := by omega
  have hA : (asIntOf (.int .i64 (n : Int))).run P w = .ok (.i64, (n : Int)) w := rfl
  have h4 : ¬ ((n : Int) ≤ 0) := by omega
  have h5 : max (n : Int) 0 = n := by omega
  simp [Builtin.append_, hA, h4, h5, run_underlying ht, run_underlying hx, sizeOf, typeInfo, zeroValue, hi, hz, hs, hb, hw, h1, h2, h3, h63', hg, h48', Question.forced, newRow, grownCap, asInt, Builtin.firstCells]
end Go.Proofs.Ytglfoippcmckaaa

/- slices.Grow of nothing, for ints: a new row with no entries. Conditions: at most 1000. -/
namespace Go.Proofs.Ytglfoippcmckaaa
open Go Go.RowKit
set_option linter.unusedVariables false
set_option linter.unusedSimpArgs false

section
variable {P : Program} {n : Nat} {m : List (Nat × Value)} {w : World} {o : Oper}
theorem zeros_flat (z : Value) (h : z.cells = #[z]) (n : Nat) : (Builtin.zeroCells z.cells n).toList = List.replicate n z := by
  apply List.ext_getElem
  · rw [Array.length_toList, size_zeroCells, h]; simp
  · intro i h1 h2
    rw [List.getElem_replicate]
    simp [Builtin.zeroCells, h, Nat.mod_one]
/-- append(nothing, as many zeros) -/
theorem op_appendMk {s q : Operand} {t tx e : TypeId} (ho : o.op = .call { callee := .builtin .append, args := #[s, q], argTypes := #[t, tx] })
    (ht : P.underlying t = some (.slice e)) (hx : P.underlying tx = some (.int .i64)) (hi : (P.info? e).map (fun i => (i.zero, i.size, i.bytes)) = some (some (.int .i64 0), 1, 8))
    (hs : ev m s = some (.slice none 0 0)) {k : Nat} (hq : ev m q = some (.int .i64 (k : Int))) (h0 : 0 < k) (hk : k ≤ 1000) :
    Op1 P n m o w (fun u x => x.ownsRow w.heap.size e 1 u (List.replicate k (0 : Int)).length ((List.replicate k (0 : Int)).flatMap (intE .i64)) ∧ w.grownBy x none) := by
  intro a ha K Q hN
  obtain ⟨i0, hii, hz0, hz1, hz2⟩ := info_parts hi
  have hr := run_append_make (P := P) w t tx o.type e i0 (.int .i64 0) ht hx hii hz0 k h0 hk hz1 hz2
  unfold Oper.wp execOp
  simp only [ho, resolve, invoke, builtin, Sem.run_bind, Sem.run_pure, Result.andThen_ok, List.map_toArray, List.map_cons, List.map_nil, ha.ev hs, ha.ev hq, hr]
  refine hN _ _ ⟨?_, ⟨rfl, rfl, rfl, by simp, fun j hj _ => heap_alloc_old w.drew _ hj⟩⟩
  have hge := grownCap_ge w k 0 e
  have hcm : grownCap w k 0 e ≤ maxLen := grownCap_le_maxLen w k 0 e (by unfold maxLen; omega)
  have hfl : (List.replicate k (0 : Int)).flatMap (intE .i64) = List.replicate k (.int .i64 0) := by
    clear hN hr hge hcm h0 hk hq
    induction k with
    | zero => rfl
    | succ k ih => rw [List.replicate_succ, List.flatMap_cons, ih, List.replicate_succ]; rfl
  rw [hfl, List.length_replicate]
  refine ⟨by rw [List.length_replicate]; omega, .inr ⟨w.heap.size, _, _, rfl, Nat.le_refl _, heap_alloc_new w.drew _, hge, hcm, ?_, ?_⟩⟩
  · simp only [Array.size_append, size_zeroCells]
    show k * 1 + (grownCap w k 0 e - k) * 1 = grownCap w k 0 e * 1
    omega
  · rw [Array.toList_append, zeros_flat _ rfl, zeros_flat _ rfl, List.take_append_of_le_length (by rw [List.length_replicate]; omega), List.take_of_length_le (by rw [List.length_replicate]; omega)]
end
set_option maxRecDepth 100000 in
theorem growNil (n : Nat) (hn : n ≤ 1000) (w : World) :
    Calls Try.prog 74 #[.slice none 0 0, .int .i64 (n : Int)] w fun e w' => ∃ u, e = .returned u ∧ w'.ownsRow w.heap.size 3 1 u ([] : List Int).length (([] : List Int).flatMap (intE .i64)) ∧ Below w.heap.size w w' := by
 refine co_enter (n := 27) Try.func74 rfl rfl rfl [(0, .slice none 0 0), (1, .int .i64 (n : Int))] rfl (fun a h => ?_)
 refine co_seq ?_
 refine co_reg ?_
 refine pk0 (v := .slice none 0 0) h rfl fun _ h => ?_
 refine pl_nil ?_
 refine co_then ?_
 refine co_seq ?_
 refine co_seq ?_
 refine co_reg ?_
 refine pk0 (v := .int .i64 (n : Int)) h rfl fun _ h => ?_
 refine pk0 (v := .bool (decide ((n : Int) < 0))) h rfl fun _ h => ?_
 refine pl_nil ?_
 refine co_then ?_
 rw [decide_eq_false (show ¬ ((n : Int) < 0) by omega)] at h
 refine co_false h rfl ?_
 refine wp_skip ?_
 refine co_then ?_
 refine co_seq ?_
 refine co_seq ?_
 refine co_reg ?_
 refine pk0 (v := .int .i64 (n : Int)) h rfl fun _ h => ?_
 refine pk0 (v := .slice none 0 0) h rfl fun _ h => ?_
 refine pk0 (v := .int .i64 0) h rfl fun _ h => ?_
 refine pk0 (v := .slice none 0 0) h rfl fun _ h => ?_
 refine pk0 (v := .int .i64 0) h rfl fun _ h => ?_
 refine pk0 (v := .int .i64 0) h rfl fun _ h => ?_
 refine pk (v := .int .i64 (n : Int)) h rfl (rn_arith' rfl rfl rfl rfl rfl rfl (IntWalk.i64_in _ (by omega)) (by omega)) fun _ h => ?_
 refine pk0 (v := .int .i64 (n : Int)) h rfl fun _ h => ?_
 refine pl_nil ?_
 refine co_then ?_
 refine co_seq ?_
 refine co_reg ?_
 refine pk0 (v := .int .i64 (n : Int)) h rfl fun _ h => ?_
 refine pk0 (v := .bool (decide ((n : Int) > 0))) h rfl fun _ h => ?_
 refine pl_nil ?_
 refine co_then ?_
 by_cases hp : (n : Int) > 0
 · rw [decide_eq_true hp] at h
   refine co_true h rfl ?_
   refine co_reg ?_
   refine pk0 (v := .slice none 0 0) h rfl fun _ h => ?_
   refine pk0 (v := .slice none 0 0) h rfl fun _ h => ?_
   refine pk0 (v := .int .i64 0) h rfl fun _ h => ?_
   refine pk (v := .slice none 0 0) h rfl (rn_sliceTo (enc := intE .i64) (l := []) (j := 0) rfl rfl rfl Try.underlying37 (fun w => by rfl) (SliceOf.nil _ _ _) rfl (Nat.zero_le _)) fun _ h => ?_
   refine pk0 (v := .int .i64 (n : Int)) h rfl fun _ h => ?_
   refine pw h rfl (op_appendMk (k := n) rfl Try.underlying37 Try.underlying3 (by kernel_rfl) rfl rfl (by omega) hn) ?_
   rintro u w1 _ ⟨hr, hg⟩ h
   refine pk0 (v := .slice none 0 0) h rfl fun _ h => ?_
   refine pk0 (v := .int .i64 0) h rfl fun _ h => ?_
   refine pk (v := subV u 0 0 1) h rfl (rn_sliceTo (j := 0) rfl rfl rfl Try.underlying37 (fun w => by rfl) (row_sl hr (fun _ => rfl)) rfl (Nat.zero_le _)) fun _ h => ?_
   refine pk0 (v := subV u 0 0 1) h rfl fun _ h => ?_
   refine pl_nil ?_
   refine co_then ?_
   refine co_seq ?_
   refine co_reg ?_
   refine pk0 (v := subV u 0 0 1) h rfl fun _ h => ?_
   refine pk0 (v := subV u 0 0 1) h rfl fun _ h => ?_
   refine pl_nil ?_
   refine co_then ?_
   refine wp_ret ?_
   refine co_ret1 h rfl rfl ?_
   exact ⟨_, rfl, row_cut hr (fun _ => rfl) 0 (Nat.zero_le _) (.inr trivial), (Below.refl w.heap.size w).grown hg (Nat.le_refl _) (fun k e => by cases e)⟩
 · rw [decide_eq_false hp] at h
   refine co_false h rfl ?_
   refine wp_skip ?_
   refine co_then ?_
   refine co_seq ?_
   refine co_reg ?_
   refine pk0 (v := .slice none 0 0) h rfl fun _ h => ?_
   refine pk0 (v := .slice none 0 0) h rfl fun _ h => ?_
   refine pl_nil ?_
   refine co_then ?_
   refine wp_ret ?_
   refine co_ret1 h rfl rfl ?_
   exact ⟨_, rfl, World.ownsRow_nil _ _ _ _, Below.refl _ _⟩
end Go.Proofs.Ytglfoippcmckaaa

/- slices.Concat of two slices of ints. Conditions: at most 1000. -/
namespace Go.Proofs.Ytglfoippcmckaaa
open Go.RowKit Go.PlainAid
set_option linter.unusedVariables false
set_option linter.unusedSimpArgs false


theorem growNilI (i : Int) (h0 : 0 ≤ i) (h1 : i ≤ 1000) (w : World) :
    Calls Try.prog 74 #[.slice none 0 0, .int .i64 i] w fun e w' => ∃ u, e = .returned u ∧ w'.ownsRow w.heap.size 3 1 u ([] : List Int).length (([] : List Int).flatMap (intE .i64)) ∧ Below w.heap.size w w' := by
  obtain ⟨n, rfl⟩ := Int.eq_ofNat_of_zero_le h0
  exact growNil n (by omega) w

set_option maxRecDepth 100000 in
set_option maxHeartbeats 1600000 in
theorem concatI (N : Nat) (u : Value) (la : List Int) (v : Value) (lc : List Int) (w : World) (hb : Blk w N 37 #[u, v]) (hs : SliceOf (intE .i64) 1 w u la) (hs2 : SliceOf (intE .i64) 1 w v lc) (hlen : la.length + lc.length ≤ 1000) :
    Calls Try.prog 50 #[.slice (some ⟨N, 0, none⟩) 2 2] w fun e w' => ∃ (r : Value), e = .returned (r) ∧ w'.ownsRow w.heap.size 3 1 r (la ++ lc).length ((la ++ lc).flatMap (intE .i64)) ∧ Below w.heap.size w w' := by
 have hB0 := Below.refl w.heap.size w
 have hl_hb := hb.lt
 have hl_hs := sl_len hs
 have hl_hs2 := sl_len hs2
 refine co_enter (n := 36) Try.func50 rfl rfl rfl [(0, .slice (some ⟨N, 0, none⟩) 2 2)] rfl (fun a h0 => ?_)
 refine co_seq ?_
 refine co_reg ?_
 refine pk0 (v := .slice none 0 0) h0 rfl fun a1 h1 => ?_; clear h0
 refine pl_nil ?_
 refine co_then ?_
 refine co_seq ?_
 refine co_reg ?_
 refine pk0 (v := .int .i64 0) h1 rfl fun a2 h2 => ?_; clear h1
 refine pl_nil ?_
 refine co_then ?_
 refine co_seq ?_
 refine co_seq ?_
 refine co_reg ?_
 refine pk0 (v := .slice (some ⟨N, 0, none⟩) 2 2) h2 rfl fun a3 h3 => ?_; clear h2
 refine pk0 (v := .int .i64 2) h3 rfl fun a4 h4 => ?_; clear h3
 refine pk0 (v := .int .i64 0) h4 rfl fun a5 h5 => ?_; clear h4
 refine pl_nil ?_
 refine co_then ?_
 refine wp_block ?_
 refine wp_loop_rounds 3 ?_
 refine co_unroll (n := 2) ?_
 refine co_seq ?_
 refine co_reg ?_
 refine pk0 (v := .bool (decide (0 < 2))) h5 rfl fun a6 h6 => ?_; clear h5
 refine pl_nil ?_
 refine co_then ?_
 refine co_seq ?_
 have hc7 : (decide (0 < 2)) = true := decide_eq_true (by omega)
 rw [hc7] at h6; clear hc7
 refine co_true h6 rfl ?_
 refine wp_skip ?_
 refine co_then ?_
 refine co_seq ?_
 refine wp_block ?_
 refine co_seq ?_
 refine co_reg ?_
 refine pk0 (v := pt N 0) h6 rfl fun a8 h8 => ?_; clear h6
 refine pk (v := u) h8 rfl (rn_load1 rfl rfl Try.isAgg37 (hb.cell rfl)) fun a9 h9 => ?_; clear h8
 refine pk0 (v := u) h9 rfl fun a10 h10 => ?_; clear h9
 refine pl_nil ?_
 refine co_then ?_
 refine co_seq ?_
 refine co_reg ?_
 refine pk0 (v := .int .i64 0) h10 rfl fun a11 h11 => ?_; clear h10
 refine pk0 (v := u) h11 rfl fun a12 h12 => ?_; clear h11
 refine pk (v := .int .i64 ((la.length : Nat) : Int)) h12 rfl (rn_len rfl rfl Try.underlying37 hs) fun a13 h13 => ?_; clear h12
 refine pk (v := .int .i64 (0 + ((la.length : Nat) : Int))) h13 rfl (rn_arith rfl rfl rfl rfl rfl rfl (IntWalk.i64_in _ (by omega))) fun a14 h14 => ?_; clear h13
 refine pk0 (v := .int .i64 (0 + ((la.length : Nat) : Int))) h14 rfl fun a15 h15 => ?_; clear h14
 refine pl_nil ?_
 refine co_then ?_
 refine co_seq ?_
 refine co_reg ?_
 refine pk0 (v := .int .i64 (0 + ((la.length : Nat) : Int))) h15 rfl fun a16 h16 => ?_; clear h15
 refine pk0 (v := .bool (decide (0 + ((la.length : Nat) : Int) < 0))) h16 rfl fun a17 h17 => ?_; clear h16
 refine pl_nil ?_
 refine co_then ?_
 have hc18 : (decide (0 + ((la.length : Nat) : Int) < 0)) = false := decide_eq_false (by omega)
 rw [hc18] at h17; clear hc18
 refine co_false h17 rfl ?_
 refine wp_skip ?_
 refine co_blockN ?_
 refine co_then ?_
 refine co_reg ?_
 refine pk0 (v := .int .i64 1) h17 rfl fun a19 h19 => ?_; clear h17
 refine pk0 (v := .int .i64 1) h19 rfl fun a20 h20 => ?_; clear h19
 refine pl_nil ?_
 refine co_then ?_
 refine co_unroll (n := 1) ?_
 refine co_seq ?_
 refine co_reg ?_
 refine pk0 (v := .bool (decide (1 < 2))) h20 rfl fun a21 h21 => ?_; clear h20
 refine pl_nil ?_
 refine co_then ?_
 refine co_seq ?_
 have hc22 : (decide (1 < 2)) = true := decide_eq_true (by omega)
 rw [hc22] at h21; clear hc22
 refine co_true h21 rfl ?_
 refine wp_skip ?_
 refine co_then ?_
 refine co_seq ?_
 refine wp_block ?_
 refine co_seq ?_
 refine co_reg ?_
 refine pk0 (v := pt N 1) h21 rfl fun a23 h23 => ?_; clear h21
 refine pk (v := v) h23 rfl (rn_load1 rfl rfl Try.isAgg37 (hb.cell rfl)) fun a24 h24 => ?_; clear h23
 refine pk0 (v := v) h24 rfl fun a25 h25 => ?_; clear h24
 refine pl_nil ?_
 refine co_then ?_
 refine co_seq ?_
 refine co_reg ?_
 refine pk0 (v := .int .i64 (0 + ((la.length : Nat) : Int))) h25 rfl fun a26 h26 => ?_; clear h25
 refine pk0 (v := v) h26 rfl fun a27 h27 => ?_; clear h26
 refine pk (v := .int .i64 ((lc.length : Nat) : Int)) h27 rfl (rn_len rfl rfl Try.underlying37 hs2) fun a28 h28 => ?_; clear h27
 refine pk (v := .int .i64 ((0 + ((la.length : Nat) : Int)) + ((lc.length : Nat) : Int))) h28 rfl (rn_arith rfl rfl rfl rfl rfl rfl (IntWalk.i64_in _ (by omega))) fun a29 h29 => ?_; clear h28
 refine pk0 (v := .int .i64 ((0 + ((la.length : Nat) : Int)) + ((lc.length : Nat) : Int))) h29 rfl fun a30 h30 => ?_; clear h29
 refine pl_nil ?_
 refine co_then ?_
 refine co_seq ?_
 refine co_reg ?_
 refine pk0 (v := .int .i64 ((0 + ((la.length : Nat) : Int)) + ((lc.length : Nat) : Int))) h30 rfl fun a31 h31 => ?_; clear h30
 refine pk0 (v := .bool (decide ((0 + ((la.length : Nat) : Int)) + ((lc.length : Nat) : Int) < 0))) h31 rfl fun a32 h32 => ?_; clear h31
 refine pl_nil ?_
 refine co_then ?_
 have hc33 : (decide ((0 + ((la.length : Nat) : Int)) + ((lc.length : Nat) : Int) < 0)) = false := decide_eq_false (by omega)
 rw [hc33] at h32; clear hc33
 refine co_false h32 rfl ?_
 refine wp_skip ?_
 refine co_blockN ?_
 refine co_then ?_
 refine co_reg ?_
 refine pk0 (v := .int .i64 2) h32 rfl fun a34 h34 => ?_; clear h32
 refine pk0 (v := .int .i64 2) h34 rfl fun a35 h35 => ?_; clear h34
 refine pl_nil ?_
 refine co_then ?_
 refine co_unroll (n := 0) ?_
 refine co_seq ?_
 refine co_reg ?_
 refine pk0 (v := .bool (decide (2 < 2))) h35 rfl fun a36 h36 => ?_; clear h35
 refine pl_nil ?_
 refine co_then ?_
 refine co_seq ?_
 have hc37 : (decide (2 < 2)) = false := decide_eq_false (by omega)
 rw [hc37] at h36; clear hc37
 refine co_false h36 rfl ?_
 refine wp_exit ?_
 refine co_thenX ?_
 refine co_thenX ?_
 refine co_blockX ?_
 refine co_then ?_
 refine co_seq ?_
 refine co_reg ?_
 refine pk0 (v := .int .i64 ((0 + ((la.length : Nat) : Int)) + ((lc.length : Nat) : Int))) h36 rfl fun a38 h38 => ?_; clear h36
 refine pw h38 rfl (op_call (args := #[.slice none 0 0, .int .i64 ((0 + ((la.length : Nat) : Int)) + ((lc.length : Nat) : Int))]) (R := fun res xw => ∃ u : Value, res = u ∧ xw.ownsRow w.heap.size 3 1 u ([] : List Int).length (([] : List Int).flatMap (intE .i64)) ∧ Below w.heap.size w xw) rfl rfl rfl (by kernel_rfl) (by kernel_rfl) (Try.call74 _ _) (growNilI ((0 + ((la.length : Nat) : Int)) + ((lc.length : Nat) : Int)) (by omega) (by omega) w) (by rintro e x ⟨u, rfl, h⟩; exact ⟨_, rfl, u, rfl, h⟩)) ?_; clear h38
 rintro u41 w40 a39 ⟨_, rfl, hr42, hb43⟩ h39
 have hz44 := hb43.size
 refine pk0 (v := u41) h39 rfl fun a45 h45 => ?_; clear h39
 refine pl_nil ?_
 refine co_then ?_
 refine co_seq ?_
 refine co_seq ?_
 refine co_reg ?_
 refine pk0 (v := .slice (some ⟨N, 0, none⟩) 2 2) h45 rfl fun a46 h46 => ?_; clear h45
 refine pk0 (v := .int .i64 2) h46 rfl fun a47 h47 => ?_; clear h46
 refine pk0 (v := .int .i64 0) h47 rfl fun a48 h48 => ?_; clear h47
 refine pl_nil ?_
 refine co_then ?_
 refine wp_block ?_
 refine wp_loop_rounds 3 ?_
 refine co_unroll (n := 2) ?_
 refine co_seq ?_
 refine co_reg ?_
 refine pk0 (v := .bool (decide (0 < 2))) h48 rfl fun a49 h49 => ?_; clear h48
 refine pl_nil ?_
 refine co_then ?_
 refine co_seq ?_
 have hc50 : (decide (0 < 2)) = true := decide_eq_true (by omega)
 rw [hc50] at h49; clear hc50
 refine co_true h49 rfl ?_
 refine wp_skip ?_
 refine co_then ?_
 refine co_seq ?_
 refine wp_block ?_
 refine co_seq ?_
 refine co_reg ?_
 refine pk0 (v := pt N 0) h49 rfl fun a51 h51 => ?_; clear h49
 have hk52 := hb.below hb43
 refine pk (v := u) h51 rfl (rn_load1 rfl rfl Try.isAgg37 (hk52.cell rfl)) fun a53 h53 => ?_; clear h51
 refine pk0 (v := u) h53 rfl fun a54 h54 => ?_; clear h53
 refine pl_nil ?_
 refine co_then ?_
 refine co_reg ?_
 refine pk0 (v := u41) h54 rfl fun a55 h55 => ?_; clear h54
 refine pk0 (v := u) h55 rfl fun a56 h56 => ?_; clear h55
 have hB63 := hb_call hB0 hb43
 refine pw h56 rfl (op_appendSrc rfl w.heap.size 3 (z := .int .i64 0) (size := 1) (bytes := 8) Try.underlying37 (by kernel_rfl) rfl rfl rfl hr42 rfl (hs.below hB63) (fun y hy => ⟨(intE_len .i64) y, (intE_one .i64) y⟩) (by first | omega | (simp only [List.length_nil, List.length_append, List.length_cons, List.length_take, List.length_drop]; omega)) (by first | omega | (simp only [List.length_nil, List.length_append, List.length_cons, List.length_take, List.length_drop]; omega)) (by omega)) ?_; clear h56
 rintro v59 w58 a57 ⟨hr60, hg61⟩ h57
 have hr60' : w58.ownsRow w.heap.size 3 1 v59 ((([] : List Int) ++ la).length) ((([] : List Int) ++ la).flatMap (intE .i64)) := row_app hr60; clear hr60
 have hz64 := hg61.size
 refine pk0 (v := v59) h57 rfl fun a65 h65 => ?_; clear h57
 refine pl_nil ?_
 refine co_blockN ?_
 refine co_then ?_
 refine co_reg ?_
 refine pk0 (v := .int .i64 1) h65 rfl fun a66 h66 => ?_; clear h65
 refine pk0 (v := .int .i64 1) h66 rfl fun a67 h67 => ?_; clear h66
 refine pl_nil ?_
 refine co_then ?_
 refine co_unroll (n := 1) ?_
 refine co_seq ?_
 refine co_reg ?_
 refine pk0 (v := .bool (decide (1 < 2))) h67 rfl fun a68 h68 => ?_; clear h67
 refine pl_nil ?_
 refine co_then ?_
 refine co_seq ?_
 have hc69 : (decide (1 < 2)) = true := decide_eq_true (by omega)
 rw [hc69] at h68; clear hc69
 refine co_true h68 rfl ?_
 refine wp_skip ?_
 refine co_then ?_
 refine co_seq ?_
 refine wp_block ?_
 refine co_seq ?_
 refine co_reg ?_
 refine pk0 (v := pt N 1) h68 rfl fun a70 h70 => ?_; clear h68
 have hk71 := hk52.kept hg61 (own_neT hr42 hk52 (by decide))
 refine pk (v := v) h70 rfl (rn_load1 rfl rfl Try.isAgg37 (hk71.cell rfl)) fun a72 h72 => ?_; clear h70
 refine pk0 (v := v) h72 rfl fun a73 h73 => ?_; clear h72
 refine pl_nil ?_
 refine co_then ?_
 refine co_reg ?_
 refine pk0 (v := v59) h73 rfl fun a74 h74 => ?_; clear h73
 refine pk0 (v := v) h74 rfl fun a75 h75 => ?_; clear h74
 have hB82 := hb_row hB63 hr42 (by omega) hg61
 refine pw h75 rfl (op_appendSrc rfl w.heap.size 3 (z := .int .i64 0) (size := 1) (bytes := 8) Try.underlying37 (by kernel_rfl) rfl rfl rfl hr60' rfl (hs2.below hB82) (fun y hy => ⟨(intE_len .i64) y, (intE_one .i64) y⟩) (by first | omega | (simp only [List.length_nil, List.length_append, List.length_cons, List.length_take, List.length_drop]; omega)) (by first | omega | (simp only [List.length_nil, List.length_append, List.length_cons, List.length_take, List.length_drop]; omega)) (by omega)) ?_; clear h75
 rintro v78 w77 a76 ⟨hr79, hg80⟩ h76
 have hr79' : w77.ownsRow w.heap.size 3 1 v78 ((([] : List Int) ++ la ++ lc).length) ((([] : List Int) ++ la ++ lc).flatMap (intE .i64)) := row_app hr79; clear hr79
 have hz83 := hg80.size
 refine pk0 (v := v78) h76 rfl fun a84 h84 => ?_; clear h76
 refine pl_nil ?_
 refine co_blockN ?_
 refine co_then ?_
 refine co_reg ?_
 refine pk0 (v := .int .i64 2) h84 rfl fun a85 h85 => ?_; clear h84
 refine pk0 (v := .int .i64 2) h85 rfl fun a86 h86 => ?_; clear h85
 refine pl_nil ?_
 refine co_then ?_
 refine co_unroll (n := 0) ?_
 refine co_seq ?_
 refine co_reg ?_
 refine pk0 (v := .bool (decide (2 < 2))) h86 rfl fun a87 h87 => ?_; clear h86
 refine pl_nil ?_
 refine co_then ?_
 refine co_seq ?_
 have hc88 : (decide (2 < 2)) = false := decide_eq_false (by omega)
 rw [hc88] at h87; clear hc88
 refine co_false h87 rfl ?_
 refine wp_exit ?_
 refine co_thenX ?_
 refine co_thenX ?_
 refine co_blockX ?_
 refine co_then ?_
 refine co_seq ?_
 refine co_reg ?_
 refine pk0 (v := v78) h87 rfl fun a89 h89 => ?_; clear h87
 refine pk0 (v := v78) h89 rfl fun a90 h90 => ?_; clear h89
 refine pl_nil ?_
 refine co_then ?_
 refine wp_ret ?_
 refine co_ret1 h90 rfl rfl ?_
 have hB91 := hb_row hB82 hr60' (by omega) hg80
 exact ⟨_, rfl, (row_lows hr79' (by omega)), hB91⟩
end Go.Proofs.Ytglfoippcmckaaa

/- slices.Sort on a row of ints that the call owns: what the row holds behind it. Conditions: none. -/
namespace Go.Proofs.Ytglfoippcmckaaa
open Go.RowKit Go.Sort Go.Shelf

/-- The numbers, in order. -/
def srt (l : List Int) : List Int := l.mergeSort fun x y => decide (x ≤ y)
theorem srt_perm (l : List Int) : (srt l).Perm l := List.mergeSort_perm l _
theorem srt_len (l : List Int) : (srt l).length = l.length := (srt_perm l).length_eq
theorem srt_mem {l : List Int} {x : Int} : x ∈ srt l ↔ x ∈ l := (srt_perm l).mem_iff
theorem flat_intsI : ∀ l : List Int, l.flatMap (intE .i64) = l.map (Value.int .i64)
  | [] => rfl
  | x :: r => by rw [List.flatMap_cons, List.map_cons, flat_intsI r]; rfl
theorem holds_ints {w : World} {g : Nat} {e : TypeId} {cur : Array Value} {l : List Int} (hb : w.heap[g]? = some (.cells cur e (0, 0))) (ht : cur.toList.take l.length = l.map (Value.int .i64)) : Holds (Value.int .i64) w g 0 l.toArray := by
  intro j hj
  have hj' : j < l.length := by simpa using hj
  refine ⟨?_, by simp [World.frozen?, hb]⟩
  have h1 : (cur.toList.take l.length)[j]? = some (Value.int .i64 l[j]) := by rw [ht]; simp [hj']
  rw [List.getElem?_take_of_lt hj'] at h1
  simp only [World.cell?, hb, Nat.zero_add]
  simp only [Option.isSome_none, Bool.false_eq_true, if_false]
  rw [← Array.getElem?_toList, h1]
  simp [hj']
theorem heap_putI {w : World} {g n : Nat} {os : Array Obj} {cur : Array Value} {e : TypeId} {fr : Nat × Nat} (d : Array Int) (hb : w.heap[g]? = some (.cells cur e fr)) :
    (grow (putRow (Value.int .i64) (Sort.ahead w n) g 0 d) os).heap[g]? = some (.cells (putCells (Value.int .i64) 0 d cur) e fr) := by
  have hg : g < w.heap.size := (Array.getElem?_eq_some_iff.1 hb).1
  rw [heap_grow_old _ _ (by simpa using hg)]
  simp [putRow, mapBlock, Sort.ahead, Array.getElem?_modify, hb, onCells]
theorem grown_putI {w : World} {g n : Nat} {os : Array Obj} (d : Array Int) : w.grownBy (grow (putRow (Value.int .i64) (Sort.ahead w n) g 0 d) os) (some g) := by
  refine ⟨rfl, rfl, rfl, by simp, fun k hk hne => ?_⟩
  rw [heap_grow_old _ _ (by simpa using hk)]
  have : g ≠ k := fun e => hne (by rw [e])
  simp [putRow, mapBlock, Sort.ahead, Array.getElem?_modify, this]
theorem take_putI (cur : Array Value) (l : List Int) (h : l.length ≤ cur.size) : (putCells (Value.int .i64) 0 l.toArray cur).toList.take l.length = l.map (Value.int .i64) := by
  apply List.ext_getElem?
  intro j
  by_cases hj : j < l.length
  · rw [List.getElem?_take_of_lt hj, Array.getElem?_toList]
    simp [putCells, hj, show j < cur.size by omega]
  · rw [List.getElem?_take_eq_none (by omega), List.getElem?_eq_none (by simp; omega)]
theorem sortI_any (v : Value) (l : List Int) (base : Nat) (e : TypeId) (w : World) (h : w.ownsRow base e 1 v l.length (l.flatMap (intE .i64))) (hn : v ≠ .slice none 0 0) (hl : l.length < 4611686018427387904) :
    Calls Try.prog 51 #[v] w fun e1 w' => e1 = .returned (.tuple #[]) ∧ w'.ownsRow base e 1 v (srt l).length ((srt l).flatMap (intE .i64)) ∧ w.grownBy w' v.ownBlock := by
  obtain ⟨h0, h⟩ := h
  rcases h with ⟨rfl, _⟩ | ⟨g, cap, cur, rfl, hbase, hb, h1, h2, h3, h4⟩
  · exact absurd rfl hn
  rw [flat_intsI, Nat.mul_one] at h4
  have hH := holds_ints hb h4
  refine (Any.slices_Sort_int Try.laysI g 0 cap l w hH (Array.getElem?_eq_some_iff.1 hb).1 hl).mono ?_
  rintro e1 w' ⟨rfl, n, os, rfl⟩
  have hle : (srt l).length = l.length := srt_len l
  have hcs : l.length ≤ cur.size := by rw [h3, Nat.mul_one]; exact h1
  refine ⟨rfl, ⟨by rw [flat_intsI]; simp, .inr ⟨g, cap, _, by rw [hle], hbase, heap_putI _ hb, by rw [hle]; exact h1, h2, by simp [putCells, h3], ?_⟩⟩, grown_putI _⟩
  rw [flat_intsI, Nat.mul_one]
  exact take_putI cur (srt l) (by rw [hle]; exact hcs)
end Go.Proofs.Ytglfoippcmckaaa

/- slices.Compact on a row of ints that the call owns. Conditions: none. -/
namespace Go.Proofs.Ytglfoippcmckaaa
open Go.RowKit Go.Sort Go.Shelf
set_option linter.unusedVariables false

/-- Without those that are behind an equal one. -/
def cpt (l : List Int) : List Int := Lib.compact l
theorem cpt_len (l : List Int) : (cpt l).length ≤ l.length := by
  unfold cpt Lib.compact Lib.compactUpTo
  rw [List.length_map]
  exact Nat.le_trans (List.length_filter_le _ _) (by simp)
theorem cpt_mem {l : List Int} {x : Int} : x ∈ cpt l ↔ x ∈ l := by
  unfold cpt Lib.compact Lib.compactUpTo
  simp only [List.mem_map, List.mem_filter, List.mem_range]
  constructor
  · rintro ⟨j, ⟨hj, _⟩, rfl⟩
    have hj' : j < l.length := by simpa using hj
    simp [hj']
  · intro h
    obtain ⟨k, hk, e⟩ := List.getElem_of_mem h
    have : ∀ k, ∀ hk : k < l.length, l[k] = x → ∃ j, j < l.length ∧ Lib.keeps l.toArray j = true ∧ l.toArray[j]! = x := by
      intro k
      induction k with
      | zero => intro hk e; exact ⟨0, hk, by simp [Lib.keeps], by simp [hk, e]⟩
      | succ k ih =>
        intro hk e
        by_cases q : l[k]'(by omega) = x
        · exact ih (by omega) q
        · refine ⟨k + 1, hk, ?_, by simp [hk, e]⟩
          simp only [Lib.keeps, decide_eq_true_eq]
          right
          simp only [List.getElem!_toArray, Nat.add_sub_cancel]
          rw [getElem!_pos l (k + 1) hk, getElem!_pos l k (by omega), e]
          exact fun h => q h.symm
    obtain ⟨j, h1, h2, h3⟩ := this k hk e
    exact ⟨j, ⟨by simpa using h1, h2⟩, h3⟩
theorem compactI_any (v : Value) (l : List Int) (base : Nat) (e : TypeId) (w : World) (h : w.ownsRow base e 1 v l.length (l.flatMap (intE .i64))) (hn : v ≠ .slice none 0 0) (hl : l.length ≤ 9223372036854775807) :
    Calls Try.prog 52 #[v] w fun e1 w' => ∃ u, e1 = .returned u ∧ w'.ownsRow base e 1 u (cpt l).length ((cpt l).flatMap (intE .i64)) ∧ w.grownBy w' v.ownBlock := by
  obtain ⟨h0, h⟩ := h
  rcases h with ⟨rfl, _⟩ | ⟨g, cap, cur, rfl, hbase, hb, h1, h2, h3, h4⟩
  · exact absurd rfl hn
  rw [flat_intsI, Nat.mul_one] at h4
  have hH := holds_ints hb h4
  refine (Any.slices_Compact_int Try.laysC g 0 cap l w hH hl h1).mono ?_
  rintro e1 w' ⟨rfl, q, rfl⟩
  have hle : (cpt l).length ≤ l.length := cpt_len l
  have hcs : l.length ≤ cur.size := by rw [h3, Nat.mul_one]; exact h1
  have hL : (cpt l ++ List.replicate (l.length - (cpt l).length) 0).length = l.length := by rw [List.length_append, List.length_replicate]; omega
  have ht := take_putI cur (cpt l ++ List.replicate (l.length - (cpt l).length) 0) (by rw [hL]; exact hcs)
  refine ⟨_, rfl, ⟨by rw [flat_intsI]; simp, .inr ⟨g, cap, _, rfl, hbase, heap_putI (os := #[]) _ hb, Nat.le_trans hle h1, h2, by simp [putCells, h3], ?_⟩⟩, grown_putI (os := #[]) _⟩
  rw [flat_intsI, Nat.mul_one]
  have h5 := congrArg (List.take (cpt l).length) ht
  rw [List.take_take, hL, Nat.min_eq_left hle] at h5
  refine h5.trans ?_
  rw [← List.map_take, List.take_left]
end Go.Proofs.Ytglfoippcmckaaa

/- Package mstate: trust. Conditions: at most 1000 in all, not none. -/
namespace Go.Proofs.Ytglfoippcmckaaa
open Go.RowKit Go.PlainAid
set_option linter.unusedVariables false
set_option linter.unusedSimpArgs false


/-- What trusting so many comes to: the answer, who is trusted. -/
def trF (ms : List MemT) (lg ids : List Int) : Int × List Int := if memIds ms ids = true then (0, cpt (srt (lg ++ ids))) else (7, lg)
theorem row_nnT {w : World} {base : Nat} {T : TypeId} {v : Value} {l : List Int} (h : w.ownsRow base T 1 v l.length (l.flatMap (intE .i64))) (hl : 0 < l.length) : v ≠ .slice none 0 0 := by
  rintro rfl
  rcases h.2 with ⟨_, h⟩ | ⟨g, cap, cur, h, _⟩
  · omega
  · cases h

set_option maxRecDepth 100000 in
set_option maxHeartbeats 1600000 in
theorem msTrust_any (b : Nat) (ep : Int) (cv : Value) (fl : Int) (lgv : Value) (hz : Int) (pv : Value) (tp : Int) (x0 : SdT) (x1 : SdT) (x2 : SdT) (ms : List MemT) (lg : List Int) (iv : Value) (ids : List Int) (w : World) (hb : Blk w b 66 #[.bool true, .int .i64 ep, cv, .int .u64 fl, lgv, .int .u64 hz, pv, .int .i64 tp, .bool x0.1, .int .i64 x0.2.1, .int .i64 x0.2.2.1, .int .i64 x0.2.2.2.1, .int .i64 x0.2.2.2.2, .bool x1.1, .int .i64 x1.2.1, .int .i64 x1.2.2.1, .int .i64 x1.2.2.2.1, .int .i64 x1.2.2.2.2, .bool x2.1, .int .i64 x2.2.1, .int .i64 x2.2.2.1, .int .i64 x2.2.2.2.1, .int .i64 x2.2.2.2.2]) (hcv : SliceOf memE 2 w cv ms) (hlgr : w.ownsRow 0 3 1 lgv lg.length (lg.flatMap (intE .i64))) (hid : SliceOf (intE .i64) 1 w iv ids) (hne : 0 < lg.length + ids.length) (hlen : lg.length + ids.length ≤ 1000) (hbc : ms ≠ [] → ∀ k, cv.ownBlock = some k → ¬ k = b) (hbi : ids ≠ [] → ∀ k, iv.ownBlock = some k → ¬ k = b) :
    Calls Try.prog 24 #[pt b 0, iv] w fun e w' => ∃ (lv2 : Value), e = .returned (.int .i64 ((trF ms lg ids).1)) ∧ Blk w' b 66 #[.bool true, .int .i64 ep, cv, .int .u64 fl, lv2, .int .u64 hz, pv, .int .i64 tp, .bool x0.1, .int .i64 x0.2.1, .int .i64 x0.2.2.1, .int .i64 x0.2.2.2.1, .int .i64 x0.2.2.2.2, .bool x1.1, .int .i64 x1.2.1, .int .i64 x1.2.2.1, .int .i64 x1.2.2.2.1, .int .i64 x1.2.2.2.2, .bool x2.1, .int .i64 x2.2.1, .int .i64 x2.2.2.1, .int .i64 x2.2.2.2.1, .int .i64 x2.2.2.2.2] ∧ w'.ownsRow 0 3 1 lv2 ((trF ms lg ids).2).length (((trF ms lg ids).2).flatMap (intE .i64)) ∧ But (fun q => q = b) w w' := by
 have hB0 := But.refl (fun q => q = b) w
 have hl_hb := hb.lt
 have hl_hcv := sl_len hcv
 have hl_hid := sl_len hid
 refine co_enter (n := 27) Try.func24 rfl rfl rfl [(0, pt b 0), (1, iv)] rfl (fun a h0 => ?_)
 refine co_seq ?_
 refine co_reg ?_
 refine pk0 (v := .int .i64 0) h0 rfl fun a1 h1 => ?_; clear h0
 refine pl_nil ?_
 refine co_then ?_
 refine co_seq ?_
 refine co_seq ?_
 refine co_reg ?_
 refine pk0 (v := pt b 0) h1 rfl fun a2 h2 => ?_; clear h1
 refine pk0 (v := pt b 0) h2 rfl fun a3 h3 => ?_; clear h2
 refine pk0 (v := pt b 1) h3 rfl fun a4 h4 => ?_; clear h3
 refine pk (v := .agg #[.int .i64 ep, cv, .int .u64 fl]) h4 rfl (rn_loadN rfl rfl Try.underlying31 rfl (by kernel_rfl) (blk_part hb 1 (by rfl))) fun a5 h5 => ?_; clear h4
 refine pk0 (v := iv) h5 rfl fun a6 h6 => ?_; clear h5
 refine pw h6 rfl (op_call (args := #[.agg #[.int .i64 ep, cv, .int .u64 fl], iv]) (R := fun res xw => res = .bool (memIds ms ids) ∧ Below w.heap.size w xw) rfl rfl rfl (by kernel_rfl) (by kernel_rfl) (Try.call47 _ _) (memberIds_any ep fl cv ms iv ids w hcv hid) (by rintro e x ⟨rfl, hb9⟩; exact ⟨_, rfl, ⟨rfl, hb9⟩⟩)) ?_; clear h6
 rintro _ w8 a7 ⟨rfl, hb9⟩ h7
 have hz10 := hb9.size
 have hB12 := fb_call hB0 hb9
 cases hc11 : (memIds ms ids)
 ·
  rw [hc11] at h7
  refine pk0 (v := .bool true) h7 rfl fun a13 h13 => ?_; clear h7
  refine pl_nil ?_
  refine co_then ?_
  refine co_true h13 rfl ?_
  refine co_seq ?_
  refine co_reg ?_
  refine pk0 (v := .int .i64 7) h13 rfl fun a14 h14 => ?_; clear h13
  refine pl_nil ?_
  refine co_then ?_
  refine wp_ret ?_
  refine co_thenR ?_
  refine co_ret1 h14 rfl rfl ?_
  have hk15 := hb.below hb9
  have hr16 := row_kept_new hlgr (below_grown hb9)
  have hA : trF ms lg ids = (7, lg) := by unfold trF; rw [if_neg (by simp_all)]
  exact ⟨lgv, by rw [hA], hk15, by rw [hA]; exact row_lows hr16 (Nat.zero_le _), hB12⟩
 ·
  rw [hc11] at h7
  refine pk0 (v := .bool false) h7 rfl fun a17 h17 => ?_; clear h7
  refine pl_nil ?_
  refine co_then ?_
  refine co_false h17 rfl ?_
  refine wp_skip ?_
  refine co_then ?_
  refine co_seq ?_
  refine co_reg ?_
  refine pk0 (v := pt b 0) h17 rfl fun a18 h18 => ?_; clear h17
  refine pk0 (v := pt b 0) h18 rfl fun a19 h19 => ?_; clear h18
  refine pk0 (v := pt b 4) h19 rfl fun a20 h20 => ?_; clear h19
  have hk21 := hb.below hb9
  refine pk (v := lgv) h20 rfl (rn_load1 rfl rfl Try.isAgg37 (hk21.cell rfl)) fun a22 h22 => ?_; clear h20
  refine pk0 (v := iv) h22 rfl fun a23 h23 => ?_; clear h22
  have hr24 := row_kept_new hlgr (below_grown hb9)
  refine pw h23 rfl (op_new (v := fun N => .slice (some ⟨N, 0, none⟩) 2 2) (T := 37) (cs := #[lgv, iv]) (by kernel_rfl) (by kernel_rfl) (by obtain ⟨_, _, eB0, _⟩ := (row_sl hr24 (intE_len .i64)); subst eB0; obtain ⟨_, _, eB1, _⟩ := (sl_butS hid hB12 hbi); subst eB1; kernel_rfl)) ?_; clear h23
  rintro _ w26 a25 ⟨N27, rfl, hN30, hz31, hk29, hg28⟩ h25
  have ha32 := row_fresh hr24 hN30
  have hz33 := hg28.size
  try dsimp only at h25
  have hr36 := row_kept_new hr24 hg28
  have hB37 := fb_new hB12 hg28
  refine pw h25 rfl (op_call (args := #[.slice (some ⟨N27, 0, none⟩) 2 2]) (R := fun res xw => ∃ r : Value, res = r ∧ xw.ownsRow w26.heap.size 3 1 r (lg ++ ids).length ((lg ++ ids).flatMap (intE .i64)) ∧ Below w26.heap.size w26 xw) rfl rfl rfl (by kernel_rfl) (by kernel_rfl) (Try.call50 _ _) (concatI N27 lgv lg iv ids w26 hk29 (row_sl hr36 (intE_len .i64)) (sl_butS hid hB37 hbi) (by first | omega | (simp; done) | (simp; omega))) (by rintro e x ⟨r, rfl, hq39, hb40⟩; exact ⟨_, rfl, ⟨r, rfl, hq39, hb40⟩⟩)) ?_; clear h25
  rintro r38 w35 a34 ⟨_, rfl, hq39, hb40⟩ h34
  have hz41 := hb40.size
  have hl42 := sl_len (row_sl hq39 (intE_len .i64))
  refine pk0 (v := r38) h34 rfl fun a43 h43 => ?_; clear h34
  refine pl_nil ?_
  refine co_then ?_
  refine co_seq ?_
  refine co_reg ?_
  refine pk0 (v := r38) h43 rfl fun a44 h44 => ?_; clear h43
  have hB47 := fb_call hB37 hb40
  have hk48 := hk21.kept hg28 (by simp)
  have hk49 := hk48.below hb40
  have hlT : (lg ++ ids).length = lg.length + ids.length := List.length_append
  have hnn := row_nnT hq39 (by omega)
  refine pw h44 rfl (op_call (args := #[r38]) (R := fun res xw => res = .tuple #[] ∧ xw.ownsRow w26.heap.size 3 1 r38 (srt (lg ++ ids)).length ((srt (lg ++ ids)).flatMap (intE .i64)) ∧ w35.grownBy xw (Value.ownBlock r38)) rfl rfl rfl (by kernel_rfl) (by kernel_rfl) (Try.call51 _ _) (sortI_any r38 (lg ++ ids) w26.heap.size 3 w35 hq39 hnn (by omega)) (by rintro e x ⟨rfl, h⟩; exact ⟨_, rfl, rfl, h⟩)) ?_; clear h44
  rintro _ w46 a45 ⟨rfl, hr50, hg51⟩ h45
  have hz52 := hg51.size
  have hk53 := hk29.below hb40
  have hlS := srt_len (lg ++ ids)
  refine pl_nil ?_
  refine co_then ?_
  refine co_seq ?_
  refine co_reg ?_
  refine pk0 (v := pt b 0) h45 rfl fun a54 h54 => ?_; clear h45
  refine pk0 (v := r38) h54 rfl fun a55 h55 => ?_; clear h54
  have hB58 := fb_row hB47 hq39 (by omega) hg51
  refine pw h55 rfl (op_call (args := #[r38]) (R := fun res xw => ∃ u : Value, res = u ∧ xw.ownsRow w26.heap.size 3 1 u (cpt (srt (lg ++ ids))).length ((cpt (srt (lg ++ ids))).flatMap (intE .i64)) ∧ w46.grownBy xw (Value.ownBlock r38)) rfl rfl rfl (by kernel_rfl) (by kernel_rfl) (Try.call52 _ _) (compactI_any r38 (srt (lg ++ ids)) w26.heap.size 3 w46 hr50 hnn (by omega)) (by rintro e x ⟨u, rfl, h⟩; exact ⟨_, rfl, u, rfl, h⟩)) ?_; clear h55
  rintro u59 w57 a56 ⟨_, rfl, hr60, hg61⟩ h56
  have hz62 := hg61.size
  have hk63 := hk49.kept hg51 (own_neT hq39 hk49 (by decide))
  have hk64 := hk53.kept hg51 (own_neT hq39 hk53 (by decide))
  refine pk0 (v := pt b 0) h56 rfl fun a65 h65 => ?_; clear h56
  refine pk0 (v := pt b 4) h65 rfl fun a66 h66 => ?_; clear h65
  have hk72 := hk63.kept hg61 (own_neT hr50 hk63 (by decide))
  refine pwD h66 rfl (op_store1 rfl rfl rfl (row_one hr60) Try.sizeOf37 hk72 rfl) ?_; clear h66
  rintro _ w68 a67 ⟨hk69, hz70, hg71⟩ h67
  have hk69' : Blk w68 b 66 #[.bool true, .int .i64 ep, cv, .int .u64 fl, u59, .int .u64 hz, pv, .int .i64 tp, .bool x0.1, .int .i64 x0.2.1, .int .i64 x0.2.2.1, .int .i64 x0.2.2.2.1, .int .i64 x0.2.2.2.2, .bool x1.1, .int .i64 x1.2.1, .int .i64 x1.2.2.1, .int .i64 x1.2.2.2.1, .int .i64 x1.2.2.2.2, .bool x2.1, .int .i64 x2.2.1, .int .i64 x2.2.2.1, .int .i64 x2.2.2.2.1, .int .i64 x2.2.2.2.2] := hk69; clear hk69
  have hz73 := hg71.size
  refine pl_nil ?_
  refine co_then ?_
  refine co_seq ?_
  refine co_reg ?_
  refine pk0 (v := .int .i64 0) h67 rfl fun a74 h74 => ?_; clear h67
  refine pl_nil ?_
  refine co_then ?_
  refine wp_ret ?_
  refine co_ret1 h74 rfl rfl ?_
  have hr75 := row_kept_at hr60 hg71 (own_neT hr60 hk72 (by decide))
  have hB76 := fb_row hB58 hr50 (by omega) hg61
  have hB77 := fb_at hB76 hg71 (fun hlt => by first | (exfalso; omega) | (simp; done) | simp_all)
  have hA : trF ms lg ids = (0, cpt (srt (lg ++ ids))) := by unfold trF; rw [if_pos (by assumption)]
  exact ⟨u59, by rw [hA], hk69', by rw [hA]; exact row_lows hr75 (Nat.zero_le _), hB77⟩
end Go.Proofs.Ytglfoippcmckaaa

/- Package mstate: follow. Conditions: at most 20 members. -/
namespace Go.Proofs.Ytglfoippcmckaaa
open Go.RowKit Go.PlainAid
set_option linter.unusedVariables false
set_option linter.unusedSimpArgs false


/-- What a configuration comes to that is told with so many trusted: the answer. -/
def fwF (ep cep : Int) (cms : List MemT) (ids : List Int) : Int := if cep ≤ ep then 18 else if memIds cms ids = false then 7 else if inL ids (headI cms) = false then 18 else 0

/-- .. and the state: the epoch, the floor, the members, who is trusted. -/
def fwS (ep fl : Int) (ms : List MemT) (lg : List Int) (cep cfl : Int) (cms : List MemT) (ids : List Int) : Int × Int × Int × List MemT × List Int := if fwF ep cep cms ids = 0 then (0, cep, cfl, cms, []) else (fwF ep cep cms ids, ep, fl, ms, lg)
theorem fwF_1 {ep cep : Int} {cms : List MemT} {ids : List Int} (h : cep ≤ ep) : fwF ep cep cms ids = 18 := by unfold fwF; rw [if_pos h]
theorem fwF_2 {ep cep : Int} {cms : List MemT} {ids : List Int} (h : ¬ cep ≤ ep) (h2 : memIds cms ids = false) : fwF ep cep cms ids = 7 := by unfold fwF; rw [if_neg h, if_pos h2]
theorem fwF_3 {ep cep : Int} {cms : List MemT} {ids : List Int} (h : ¬ cep ≤ ep) (h2 : memIds cms ids = true) (h3 : inL ids (headI cms) = false) : fwF ep cep cms ids = 18 := by unfold fwF; rw [if_neg h, if_neg (by rw [h2]; decide), if_pos h3]
theorem fwF_4 {ep cep : Int} {cms : List MemT} {ids : List Int} (h : ¬ cep ≤ ep) (h2 : memIds cms ids = true) (h3 : inL ids (headI cms) = true) : fwF ep cep cms ids = 0 := by unfold fwF; rw [if_neg h, if_neg (by rw [h2]; decide), if_neg (by rw [h3]; decide)]
theorem fwS_n {ep fl cep cfl : Int} {ms cms : List MemT} {lg ids : List Int} {e : Int} (h : fwF ep cep cms ids = e) (he : e ≠ 0) : fwS ep fl ms lg cep cfl cms ids = (e, ep, fl, ms, lg) := by unfold fwS; rw [h, if_neg he]
theorem fwS_y {ep fl cep cfl : Int} {ms cms : List MemT} {lg ids : List Int} (h : fwF ep cep cms ids = 0) : fwS ep fl ms lg cep cfl cms ids = (0, cep, cfl, cms, []) := by unfold fwS; rw [h, if_pos rfl]

set_option maxRecDepth 100000 in
theorem cloneM_any (v : Value) (l : List MemT) (w : World) (hs : SliceOf memE 2 w v l) (hlen : l.length ≤ 20) :
    Calls Try.prog 41 #[v] w fun e w' => ∃ (u : Value), e = .returned (u) ∧ w'.ownsRow w.heap.size 88 2 u l.length (l.flatMap memE) ∧ Below w.heap.size w w' := by
 have hB0 := Below.refl w.heap.size w
 have hl_hs := sl_len hs
 have hs' := hs; obtain ⟨ao, cap, hv, _, _, h3, _⟩ := hs'; subst hv; rcases ao with _ | ad
 · obtain ⟨hl0, hc0⟩ := h3 rfl; obtain rfl : l = [] := List.eq_nil_of_length_eq_zero hl0; subst hc0
   refine co_enter (n := 8) Try.func41 rfl rfl rfl [(0, .slice none 0 0)] rfl (fun a h0 => ?_)
   refine co_seq ?_
   refine co_reg ?_
   refine pk0 (v := .slice none 0 0) h0 rfl fun a1 h1 => ?_; clear h0
   refine pl_nil ?_
   refine co_then ?_
   refine co_seq ?_
   refine co_seq ?_
   refine co_reg ?_
   refine pk0 (v := .slice none 0 0) h1 rfl fun a2 h2 => ?_; clear h1
   refine pk0 (v := .bool true) h2 rfl fun a3 h3 => ?_; clear h2
   refine pl_nil ?_
   refine co_then ?_
   refine co_true h3 rfl ?_
   refine co_seq ?_
   refine co_reg ?_
   refine pk0 (v := .slice none 0 0) h3 rfl fun a4 h4 => ?_; clear h3
   refine pl_nil ?_
   refine co_then ?_
   refine wp_ret ?_
   refine co_thenR ?_
   refine co_ret1 h4 rfl rfl ?_
   exact ⟨_, rfl, (row_nilL _ _ _ _ _), hB0⟩
 · skip
   refine co_enter (n := 8) Try.func41 rfl rfl rfl [(0, .slice (some ad) l.length cap)] rfl (fun a h0 => ?_)
   refine co_seq ?_
   refine co_reg ?_
   refine pk0 (v := .slice none 0 0) h0 rfl fun a5 h5 => ?_; clear h0
   refine pl_nil ?_
   refine co_then ?_
   refine co_seq ?_
   refine co_seq ?_
   refine co_reg ?_
   refine pk0 (v := .slice (some ad) l.length cap) h5 rfl fun a6 h6 => ?_; clear h5
   refine pk0 (v := .bool false) h6 rfl fun a7 h7 => ?_; clear h6
   refine pl_nil ?_
   refine co_then ?_
   refine co_false h7 rfl ?_
   refine wp_skip ?_
   refine co_then ?_
   refine co_seq ?_
   refine co_reg ?_
   refine pw h7 rfl (op_new (v := fun N => .slice (some ⟨N, 0, none⟩) 0 0) (T := 88) (cs := #[]) (by kernel_rfl) (by kernel_rfl) (by kernel_rfl)) ?_; clear h7
   rintro _ w9 a8 ⟨N10, rfl, hN13, hz14, hk12, hg11⟩ h8
   have hz15 := hg11.size
   try dsimp only at h8
   refine pk0 (v := .slice (some ad) l.length cap) h8 rfl fun a16 h16 => ?_; clear h8
   have hr19 := row_of_blkL hk12 (Nat.le_refl _) 2 memE
   have hB24 := hb_new hB0 hg11
   refine pw h16 rfl (op_appendSrc rfl N10 88 (z := .agg #[.int .i64 0, .int .i64 0]) (size := 2) (bytes := 16) Try.underlying29 (by kernel_rfl) rfl rfl rfl hr19 rfl (hs.below hB24) (fun y hy => ⟨memE_len y, memE_one y⟩) (by first | omega | (simp only [List.length_nil, List.length_append, List.length_cons, List.length_take, List.length_drop]; omega)) (by first | omega | (simp only [List.length_nil, List.length_append, List.length_cons, List.length_take, List.length_drop]; omega)) (by omega)) ?_; clear h16
   rintro v20 w18 a17 ⟨hr21, hg22⟩ h17
   have hr21' : w18.ownsRow N10 88 2 v20 l.length (l.flatMap memE) := row_app (l := []) hr21; clear hr21
   have hz25 := hg22.size
   refine pk0 (v := v20) h17 rfl fun a26 h26 => ?_; clear h17
   refine pl_nil ?_
   refine co_then ?_
   refine wp_ret ?_
   refine co_ret1 h26 rfl rfl ?_
   have hB27 := hb_row hB24 hr19 (by omega) hg22
   exact ⟨_, rfl, (row_lows hr21' (by omega)), hB27⟩
set_option maxRecDepth 100000 in
theorem freshConf_any (ep : Int) (fl : Int) (v : Value) (ms : List MemT) (w : World) (hs : SliceOf memE 2 w v ms) (hlen : ms.length ≤ 20) :
    Calls Try.prog 20 #[.agg #[.int .i64 ep, v, .int .u64 fl]] w fun e w' => ∃ (u : Value), e = .returned (.agg #[.int .i64 ep, u, .int .u64 fl]) ∧ w'.ownsRow w.heap.size 88 2 u ms.length (ms.flatMap memE) ∧ Below w.heap.size w w' := by
 have hB0 := Below.refl w.heap.size w
 have hl_hs := sl_len hs
 refine co_enter (n := 8) Try.func20 rfl rfl rfl [(0, .agg #[.int .i64 ep, v, .int .u64 fl])] rfl (fun a h0 => ?_)
 refine co_seq ?_
 refine co_reg ?_
 refine pw h0 rfl (op_new (v := fun N => pt N 0) (T := 31) (cs := #[.int .i64 ep, v, .int .u64 fl]) (by kernel_rfl) (by kernel_rfl) (by kernel_rfl)) ?_; clear h0
 rintro _ w2 a1 ⟨N3, rfl, hN6, hz7, hk5, hg4⟩ h1
 have hz8 := hg4.size
 try dsimp only at h1
 refine pw h1 rfl (op_new (v := fun N => pt N 0) (T := 31) (cs := #[.int .i64 0, .slice none 0 0, .int .u64 0]) (by kernel_rfl) (by kernel_rfl) (by kernel_rfl)) ?_; clear h1
 rintro _ w10 a9 ⟨N11, rfl, hN14, hz15, hk13, hg12⟩ h9
 have hz16 := hg12.size
 try dsimp only at h9
 refine pl_nil ?_
 refine co_then ?_
 refine co_seq ?_
 refine co_reg ?_
 refine pk0 (v := pt N3 1) h9 rfl fun a17 h17 => ?_; clear h9
 have hk18 := hk5.kept hg12 (by simp)
 refine pk (v := v) h17 rfl (rn_load1 rfl rfl Try.isAgg29 (hk18.cell rfl)) fun a19 h19 => ?_; clear h17
 have hB22 := hb_new hB0 hg4
 have hB23 := hb_new hB22 hg12
 refine pw h19 rfl (op_call (args := #[v]) (R := fun res xw => ∃ u : Value, res = u ∧ xw.ownsRow w10.heap.size 88 2 u ms.length (ms.flatMap memE) ∧ Below w10.heap.size w10 xw) rfl rfl rfl (by kernel_rfl) (by kernel_rfl) (Try.call41 _ _) (cloneM_any v ms w10 (hs.below hB23) (by first | omega | (simp; done) | (simp; omega))) (by rintro e x ⟨u, rfl, hq25, hb26⟩; exact ⟨_, rfl, ⟨u, rfl, hq25, hb26⟩⟩)) ?_; clear h19
 rintro u24 w21 a20 ⟨_, rfl, hq25, hb26⟩ h20
 have hz27 := hb26.size
 have hl28 := sl_len (row_sl hq25 memE_len)
 refine pk0 (v := pt N3 1) h20 rfl fun a29 h29 => ?_; clear h20
 have hk35 := hk18.below hb26
 refine pwD h29 rfl (op_store1 rfl rfl rfl (row_one hq25) Try.sizeOf29 hk35 rfl) ?_; clear h29
 rintro _ w31 a30 ⟨hk32, hz33, hg34⟩ h30
 have hk32' : Blk w31 N3 31 #[.int .i64 ep, u24, .int .u64 fl] := hk32; clear hk32
 have hz36 := hg34.size
 refine pl_nil ?_
 refine co_then ?_
 refine co_seq ?_
 refine co_reg ?_
 refine pk (v := .agg #[.int .i64 ep, u24, .int .u64 fl]) h30 rfl (rn_loadN rfl rfl Try.underlying31 rfl (by kernel_rfl) hk32'.all) fun a37 h37 => ?_; clear h30
 have hr43 := row_kept_at hq25 hg34 (row_ne_lt hq25 (by omega))
 have hk44 := hk13.below hb26
 have hk45 := hk44.kept hg34 (by simp; omega)
 refine pwD h37 rfl (op_storeN rfl rfl rfl (all_cons rfl (all_cons (row_one hr43) (all_cons rfl all_nil))) (by kernel_rfl) hk45 rfl) ?_; clear h37
 rintro _ w39 a38 ⟨hk40, hz41, hg42⟩ h38
 have hk40' : Blk w39 N11 31 #[.int .i64 ep, u24, .int .u64 fl] := hk40; clear hk40
 have hz46 := hg42.size
 refine pl_nil ?_
 refine co_then ?_
 refine wp_ret ?_
 refine co_retC (Q := fun _ _ _ => True) h38 rfl rfl hk40' Try.underlying31 rfl (by kernel_rfl) ?_
 have hr47 := row_kept_at hr43 hg42 (row_ne_lt hr43 (by omega))
 have hB48 := hb_call hB23 hb26
 have hB49 := hb_at hB48 hg34 (by omega)
 have hB50 := hb_at hB49 hg42 (by omega)
 exact ⟨_, rfl, (row_lows hr47 (by omega)), hB50⟩
set_option maxRecDepth 100000 in
set_option maxHeartbeats 1600000 in
theorem msFollow_any (b : Nat) (ep : Int) (cv : Value) (fl : Int) (lgv : Value) (hz : Int) (pv : Value) (tp : Int) (x0 : SdT) (x1 : SdT) (x2 : SdT) (ms : List MemT) (lg : List Int) (cep : Int) (cfl : Int) (cmv : Value) (cms : List MemT) (iv : Value) (ids : List Int) (w : World) (hb : Blk w b 66 #[.bool true, .int .i64 ep, cv, .int .u64 fl, lgv, .int .u64 hz, pv, .int .i64 tp, .bool x0.1, .int .i64 x0.2.1, .int .i64 x0.2.2.1, .int .i64 x0.2.2.2.1, .int .i64 x0.2.2.2.2, .bool x1.1, .int .i64 x1.2.1, .int .i64 x1.2.2.1, .int .i64 x1.2.2.2.1, .int .i64 x1.2.2.2.2, .bool x2.1, .int .i64 x2.2.1, .int .i64 x2.2.2.1, .int .i64 x2.2.2.2.1, .int .i64 x2.2.2.2.2]) (hcvr : w.ownsRow 0 88 2 cv ms.length (ms.flatMap memE)) (hlgr : w.ownsRow 0 3 1 lgv lg.length (lg.flatMap (intE .i64))) (hcm : SliceOf memE 2 w cmv cms) (hid : SliceOf (intE .i64) 1 w iv ids) (hl20 : cms.length ≤ 20) (hbc : cms ≠ [] → ∀ k, cmv.ownBlock = some k → ¬ k = b) (hbi : ids ≠ [] → ∀ k, iv.ownBlock = some k → ¬ k = b) :
    Calls Try.prog 23 #[pt b 0, .agg #[.int .i64 cep, cmv, .int .u64 cfl], iv] w fun e w' => ∃ (cv2 : Value) (lv2 : Value), e = .returned (.int .i64 ((fwS ep fl ms lg cep cfl cms ids).1)) ∧ Blk w' b 66 #[.bool true, .int .i64 ((fwS ep fl ms lg cep cfl cms ids).2.1), cv2, .int .u64 ((fwS ep fl ms lg cep cfl cms ids).2.2.1), lv2, .int .u64 hz, pv, .int .i64 tp, .bool x0.1, .int .i64 x0.2.1, .int .i64 x0.2.2.1, .int .i64 x0.2.2.2.1, .int .i64 x0.2.2.2.2, .bool x1.1, .int .i64 x1.2.1, .int .i64 x1.2.2.1, .int .i64 x1.2.2.2.1, .int .i64 x1.2.2.2.2, .bool x2.1, .int .i64 x2.2.1, .int .i64 x2.2.2.1, .int .i64 x2.2.2.2.1, .int .i64 x2.2.2.2.2] ∧ w'.ownsRow 0 88 2 cv2 ((fwS ep fl ms lg cep cfl cms ids).2.2.2.1).length (((fwS ep fl ms lg cep cfl cms ids).2.2.2.1).flatMap memE) ∧ w'.ownsRow 0 3 1 lv2 ((fwS ep fl ms lg cep cfl cms ids).2.2.2.2).length (((fwS ep fl ms lg cep cfl cms ids).2.2.2.2).flatMap (intE .i64)) ∧ But (fun q => q = b) w w' := by
 have hB0 := But.refl (fun q => q = b) w
 have hl_hb := hb.lt
 have hl_hcm := sl_len hcm
 have hl_hid := sl_len hid
 refine co_enter (n := 32) Try.func23 rfl rfl rfl [(0, pt b 0), (1, .agg #[.int .i64 cep, cmv, .int .u64 cfl]), (2, iv)] rfl (fun a h0 => ?_)
 refine co_seq ?_
 refine co_reg ?_
 refine pw h0 rfl (op_new (v := fun N => pt N 0) (T := 31) (cs := #[.int .i64 cep, cmv, .int .u64 cfl]) (by kernel_rfl) (by kernel_rfl) (by kernel_rfl)) ?_; clear h0
 rintro _ w2 a1 ⟨N3, rfl, hN6, hz7, hk5, hg4⟩ h1
 have ha8 := row_fresh hlgr hN6
 have ha9 := row_fresh hcvr hN6
 have hz10 := hg4.size
 try dsimp only at h1
 refine pk0 (v := .int .i64 0) h1 rfl fun a11 h11 => ?_; clear h1
 refine pl_nil ?_
 refine co_then ?_
 refine co_seq ?_
 refine co_seq ?_
 refine dr_eq (by kernel_rfl) (fun w12 hg13 => ?_)
 have hz14 := hg13.size
 refine dk0 0 (v := pt N3 0) h11 rfl rfl rfl fun a15 h15 => ?_; clear h11
 have hk16 := hk5.kept hg13 (by simp)
 refine dk 1 (v := .int .i64 cep) h15 rfl rfl rfl (fun x hx => by subst hx; exact (rn_load1 rfl rfl Try.isAgg3 (hk16.cell rfl))) fun a17 h17 => ?_; clear h15
 refine dk0 2 (v := pt b 0) h17 rfl rfl rfl fun a18 h18 => ?_; clear h17
 refine dk0 3 (v := pt b 0) h18 rfl rfl rfl fun a19 h19 => ?_; clear h18
 refine dk0 4 (v := pt b 1) h19 rfl rfl rfl fun a20 h20 => ?_; clear h19
 refine dk0 5 (v := pt b 1) h20 rfl rfl rfl fun a21 h21 => ?_; clear h20
 have hk22 := hb.kept hg4 (by simp)
 have hk23 := hk22.kept hg13 (by simp)
 refine dk 6 (v := .int .i64 ep) h21 rfl rfl rfl (fun x hx => by subst hx; exact (rn_load1 rfl rfl Try.isAgg3 (hk23.cell rfl))) fun a24 h24 => ?_; clear h21
 refine dk0 7 (v := .bool (decide (cep ≤ ep))) h24 rfl rfl rfl fun a25 h25 => ?_; clear h24
 refine dr_done (by kernel_rfl) ?_
 refine co_then ?_
 have hB27 := fb_new hB0 hg4
 have hB28 := fb_new hB27 hg13
 have hr29 := row_kept_new hlgr hg4
 have hr30 := row_kept_new hr29 hg13
 have hr31 := row_kept_new hcvr hg4
 have hr32 := row_kept_new hr31 hg13
 cases hc26 : (decide (cep ≤ ep))
 ·
  rw [hc26] at h25
  have hp33 : ¬ (cep ≤ ep) := of_decide_eq_false hc26
  clear hc26
  refine co_false h25 rfl ?_
  refine wp_skip ?_
  refine co_then ?_
  refine co_seq ?_
  refine co_seq ?_
  refine co_reg ?_
  refine pk (v := .agg #[.int .i64 cep, cmv, .int .u64 cfl]) h25 rfl (rn_loadN rfl rfl Try.underlying31 rfl (by kernel_rfl) hk16.all) fun a34 h34 => ?_; clear h25
  refine pk0 (v := iv) h34 rfl fun a35 h35 => ?_; clear h34
  refine pw h35 rfl (op_call (args := #[.agg #[.int .i64 cep, cmv, .int .u64 cfl], iv]) (R := fun res xw => res = .bool (memIds cms ids) ∧ Below w12.heap.size w12 xw) rfl rfl rfl (by kernel_rfl) (by kernel_rfl) (Try.call47 _ _) (memberIds_any cep cfl cmv cms iv ids w12 (sl_butS hcm hB28 hbc) (sl_butS hid hB28 hbi)) (by rintro e x ⟨rfl, hb38⟩; exact ⟨_, rfl, ⟨rfl, hb38⟩⟩)) ?_; clear h35
  rintro _ w37 a36 ⟨rfl, hb38⟩ h36
  have hz39 := hb38.size
  have hB41 := fb_call hB28 hb38
  cases hc40 : (memIds cms ids)
  ·
   rw [hc40] at h36
   refine pk0 (v := .bool true) h36 rfl fun a42 h42 => ?_; clear h36
   refine pl_nil ?_
   refine co_then ?_
   refine co_true h42 rfl ?_
   refine co_seq ?_
   refine co_reg ?_
   refine pk0 (v := .int .i64 7) h42 rfl fun a43 h43 => ?_; clear h42
   refine pl_nil ?_
   refine co_then ?_
   refine wp_ret ?_
   refine co_thenR ?_
   refine co_ret1 h43 rfl rfl ?_
   have hr44 := row_kept_new hr32 (below_grown hb38)
   have hr45 := row_kept_new hr30 (below_grown hb38)
   have hk46 := hk23.below hb38
   have hA : fwS ep fl ms lg cep cfl cms ids = (7, ep, fl, ms, lg) := fwS_n (by first | exact fwF_1 (by omega) | exact fwF_2 (by omega) (by first | assumption | simp_all) | exact fwF_3 (by omega) (by first | assumption | simp_all) (by first | assumption | simp_all)) (by decide)
   exact ⟨cv, lgv, by rw [hA], by rw [hA]; exact hk46, by rw [hA]; exact hr44, by rw [hA]; exact hr45, hB41⟩
  ·
   rw [hc40] at h36
   refine pk0 (v := .bool false) h36 rfl fun a47 h47 => ?_; clear h36
   refine pl_nil ?_
   refine co_then ?_
   refine co_false h47 rfl ?_
   refine wp_skip ?_
   refine co_then ?_
   refine co_seq ?_
   refine co_seq ?_
   refine co_reg ?_
   refine pk0 (v := iv) h47 rfl fun a48 h48 => ?_; clear h47
   have hk49 := hk16.below hb38
   refine pk (v := .agg #[.int .i64 cep, cmv, .int .u64 cfl]) h48 rfl (rn_loadN rfl rfl Try.underlying31 rfl (by kernel_rfl) hk49.all) fun a50 h50 => ?_; clear h48
   refine pw h50 rfl (op_call (args := #[.agg #[.int .i64 cep, cmv, .int .u64 cfl]]) (R := fun res xw => res = .int .i64 (headI cms) ∧ Below w37.heap.size w37 xw) rfl rfl rfl (by kernel_rfl) (by kernel_rfl) (Try.call49 _ _) (headP_any cep cfl cmv cms w37 (sl_butS hcm hB41 hbc)) (by rintro e x ⟨rfl, hb53⟩; exact ⟨_, rfl, ⟨rfl, hb53⟩⟩)) ?_; clear h50
   rintro _ w52 a51 ⟨rfl, hb53⟩ h51
   have hz54 := hb53.size
   have hB57 := fb_call hB41 hb53
   refine pw h51 rfl (op_call (args := #[iv, .int .i64 (headI cms)]) (R := fun res xw => res = .bool (inL ids (headI cms)) ∧ Below w52.heap.size w52 xw) rfl rfl rfl (by kernel_rfl) (by kernel_rfl) (Try.call48 _ _) (containsI_any iv ids (headI cms) w52 (sl_butS hid hB57 hbi)) (by rintro e x ⟨rfl, hb58⟩; exact ⟨_, rfl, ⟨rfl, hb58⟩⟩)) ?_; clear h51
   rintro _ w56 a55 ⟨rfl, hb58⟩ h55
   have hz59 := hb58.size
   have hB61 := fb_call hB57 hb58
   have hk62 := hk23.below hb38
   have hk63 := hk62.below hb53
   have hk64 := hk63.below hb58
   have hr65 := row_kept_new hr30 (below_grown hb38)
   have hr66 := row_kept_new hr65 (below_grown hb53)
   have hr67 := row_kept_new hr66 (below_grown hb58)
   have hr68 := row_kept_new hr32 (below_grown hb38)
   have hr69 := row_kept_new hr68 (below_grown hb53)
   have hr70 := row_kept_new hr69 (below_grown hb58)
   have hk71 := hk49.below hb53
   have hk72 := hk71.below hb58
   cases hc60 : (inL ids (headI cms))
   ·
    rw [hc60] at h55
    refine pk0 (v := .bool true) h55 rfl fun a73 h73 => ?_; clear h55
    refine pl_nil ?_
    refine co_then ?_
    refine co_true h73 rfl ?_
    refine co_seq ?_
    refine co_reg ?_
    refine pk0 (v := .int .i64 18) h73 rfl fun a74 h74 => ?_; clear h73
    refine pl_nil ?_
    refine co_then ?_
    refine wp_ret ?_
    refine co_thenR ?_
    refine co_ret1 h74 rfl rfl ?_
    have hA : fwS ep fl ms lg cep cfl cms ids = (18, ep, fl, ms, lg) := fwS_n (by first | exact fwF_1 (by omega) | exact fwF_2 (by omega) (by first | assumption | simp_all) | exact fwF_3 (by omega) (by first | assumption | simp_all) (by first | assumption | simp_all)) (by decide)
    exact ⟨cv, lgv, by rw [hA], by rw [hA]; exact hk64, by rw [hA]; exact hr70, by rw [hA]; exact hr67, hB61⟩
   ·
    rw [hc60] at h55
    refine pk0 (v := .bool false) h55 rfl fun a75 h75 => ?_; clear h55
    refine pl_nil ?_
    refine co_then ?_
    refine co_false h75 rfl ?_
    refine wp_skip ?_
    refine co_then ?_
    refine co_seq ?_
    refine co_reg ?_
    refine pk0 (v := pt b 0) h75 rfl fun a76 h76 => ?_; clear h75
    refine pk0 (v := pt b 0) h76 rfl fun a77 h77 => ?_; clear h76
    refine pk (v := .agg #[.int .i64 cep, cmv, .int .u64 cfl]) h77 rfl (rn_loadN rfl rfl Try.underlying31 rfl (by kernel_rfl) hk72.all) fun a78 h78 => ?_; clear h77
    refine pw h78 rfl (op_call (args := #[.agg #[.int .i64 cep, cmv, .int .u64 cfl]]) (R := fun res xw => ∃ u : Value, res = .agg #[.int .i64 cep, u, .int .u64 cfl] ∧ xw.ownsRow w56.heap.size 88 2 u cms.length (cms.flatMap memE) ∧ Below w56.heap.size w56 xw) rfl rfl rfl (by kernel_rfl) (by kernel_rfl) (Try.call20 _ _) (freshConf_any cep cfl cmv cms w56 (sl_butS hcm hB61 hbc) (by first | omega | (simp; done) | (simp; omega))) (by rintro e x ⟨u, rfl, hq82, hb83⟩; exact ⟨_, rfl, ⟨u, rfl, hq82, hb83⟩⟩)) ?_; clear h78
    rintro _ w80 a79 ⟨u81, rfl, hq82, hb83⟩ h79
    have hz84 := hb83.size
    have hl85 := sl_len (row_sl hq82 memE_len)
    refine pk0 (v := pt b 0) h79 rfl fun a86 h86 => ?_; clear h79
    refine pk0 (v := pt b 1) h86 rfl fun a87 h87 => ?_; clear h86
    have hk93 := hk64.below hb83
    refine pwD h87 rfl (op_storePart (k := 1) (cs' := #[.bool true, .int .i64 cep, u81, .int .u64 cfl, lgv, .int .u64 hz, pv, .int .i64 tp, .bool x0.1, .int .i64 x0.2.1, .int .i64 x0.2.2.1, .int .i64 x0.2.2.2.1, .int .i64 x0.2.2.2.2, .bool x1.1, .int .i64 x1.2.1, .int .i64 x1.2.2.1, .int .i64 x1.2.2.2.1, .int .i64 x1.2.2.2.2, .bool x2.1, .int .i64 x2.2.1, .int .i64 x2.2.2.1, .int .i64 x2.2.2.2.1, .int .i64 x2.2.2.2.2]) rfl rfl rfl (all_cons rfl (all_cons (row_one hq82) (all_cons rfl all_nil))) (by kernel_rfl) hk93 rfl rfl) ?_; clear h87
    rintro _ w89 a88 ⟨hk90, hz91, hg92⟩ h88
    have hk90' : Blk w89 b 66 #[.bool true, .int .i64 cep, u81, .int .u64 cfl, lgv, .int .u64 hz, pv, .int .i64 tp, .bool x0.1, .int .i64 x0.2.1, .int .i64 x0.2.2.1, .int .i64 x0.2.2.2.1, .int .i64 x0.2.2.2.2, .bool x1.1, .int .i64 x1.2.1, .int .i64 x1.2.2.1, .int .i64 x1.2.2.2.1, .int .i64 x1.2.2.2.2, .bool x2.1, .int .i64 x2.2.1, .int .i64 x2.2.2.1, .int .i64 x2.2.2.2.1, .int .i64 x2.2.2.2.2] := hk90; clear hk90
    have hz94 := hg92.size
    refine pk0 (v := pt b 0) h88 rfl fun a95 h95 => ?_; clear h88
    refine pk0 (v := pt b 4) h95 rfl fun a96 h96 => ?_; clear h95
    refine pwD h96 rfl (op_store1 rfl rfl rfl rfl Try.sizeOf37 hk90' rfl) ?_; clear h96
    rintro _ w98 a97 ⟨hk99, hz100, hg101⟩ h97
    have hk99' : Blk w98 b 66 #[.bool true, .int .i64 cep, u81, .int .u64 cfl, .slice none 0 0, .int .u64 hz, pv, .int .i64 tp, .bool x0.1, .int .i64 x0.2.1, .int .i64 x0.2.2.1, .int .i64 x0.2.2.2.1, .int .i64 x0.2.2.2.2, .bool x1.1, .int .i64 x1.2.1, .int .i64 x1.2.2.1, .int .i64 x1.2.2.2.1, .int .i64 x1.2.2.2.2, .bool x2.1, .int .i64 x2.2.1, .int .i64 x2.2.2.1, .int .i64 x2.2.2.2.1, .int .i64 x2.2.2.2.2] := hk99; clear hk99
    have hz102 := hg101.size
    refine pl_nil ?_
    refine co_then ?_
    refine co_seq ?_
    refine co_reg ?_
    refine pk0 (v := .int .i64 0) h97 rfl fun a103 h103 => ?_; clear h97
    refine pl_nil ?_
    refine co_then ?_
    refine wp_ret ?_
    refine co_ret1 h103 rfl rfl ?_
    have hr104 := row_kept_at hq82 hg92 (own_neT hq82 hk93 (by decide))
    have hr105 := row_kept_at hr104 hg101 (own_neT hr104 hk90' (by decide))
    have hB106 := fb_call hB61 hb83
    have hB107 := fb_at hB106 hg92 (fun hlt => by first | (exfalso; omega) | (simp; done) | simp_all)
    have hB108 := fb_at hB107 hg101 (fun hlt => by first | (exfalso; omega) | (simp; done) | simp_all)
    have hA : fwS ep fl ms lg cep cfl cms ids = (0, cep, cfl, cms, ([] : List Int)) := fwS_y (fwF_4 (by omega) (by first | assumption | simp_all) (by first | assumption | simp_all))
    exact ⟨u81, (.slice none 0 0), by rw [hA], by rw [hA]; exact hk99', by rw [hA]; exact row_lows hr105 (Nat.zero_le _), by rw [hA]; exact World.ownsRow_nil _ _ _ _, hB108⟩
 ·
  rw [hc26] at h25
  have hp109 : cep ≤ ep := of_decide_eq_true hc26
  clear hc26
  refine co_true h25 rfl ?_
  refine co_seq ?_
  refine co_reg ?_
  refine pk0 (v := .int .i64 18) h25 rfl fun a110 h110 => ?_; clear h25
  refine pl_nil ?_
  refine co_then ?_
  refine wp_ret ?_
  refine co_thenR ?_
  refine co_ret1 h110 rfl rfl ?_
  have hA : fwS ep fl ms lg cep cfl cms ids = (18, ep, fl, ms, lg) := fwS_n (by first | exact fwF_1 (by omega) | exact fwF_2 (by omega) (by first | assumption | simp_all) | exact fwF_3 (by omega) (by first | assumption | simp_all) (by first | assumption | simp_all)) (by decide)
  exact ⟨cv, lgv, by rw [hA], by rw [hA]; exact hk23, by rw [hA]; exact hr32, by rw [hA]; exact hr30, hB28⟩
end Go.Proofs.Ytglfoippcmckaaa
