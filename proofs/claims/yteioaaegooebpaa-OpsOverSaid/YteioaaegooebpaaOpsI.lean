/- Package ops: Over. Conditions: at most 1000000 pairs and operations. -/
import Derived.Test.YteioaaegooebpaaOpsH
namespace Go.Proofs.Yteioaaegooebpaa
open Go.RowKit Go.PlainAid
set_option linter.unusedVariables false

open Go.Sort Go.Shelf Go.Lib
set_option maxRecDepth 100000 in
theorem opsOver_any (v : Value) (l : List ValT) (v2 : Value) (m : List OpT) (w : World) (hs : SliceOf valE 2 w v l) (hs2 : SliceOf opE 3 w v2 m) (hlen : l.length + m.length ≤ 1000000) :
    Calls Try.prog 12 #[v, v2] w fun e w' => ∃ (ys : List ValT) (u : Value), e = .returned (u) ∧ w'.ownsRow w.heap.size 88 2 u ys.length (ys.flatMap valE) ∧ SetG (fun y : ValT => y.1) (ovG l m) ys ∧ ys.length ≤ l.length + m.length ∧ Below w.heap.size w w' := by
  have hB0 := Below.refl w.heap.size w
  have hl_hs := sl_len hs
  have hl_hs2 := sl_len hs2
  refine co_enter (n := 61) Try.func12 rfl rfl rfl [(0, v), (1, v2)] rfl (fun a h0 => ?_)
  refine co_seq ?_
  refine co_reg ?_
  refine pl_val (v := .slice none 0 0) h0 rfl rfl rfl (by kernel_rfl) (by kernel_rfl) (by kernel_rfl) (fun a1 h1 => ?_); clear h0
  refine pl_nil ?_
  refine co_then ?_
  refine co_seq ?_
  refine co_reg ?_
  refine pl_want h1 rfl rfl rfl (op_makeO strK valV (by kernel_rfl) (by kernel_rfl) rfl) ?_; clear h1
  rintro _ w3 a2 ⟨B4, rfl, hN5, hz6, hm7, hg8⟩ h2
  have hB9 := hb_new hB0 hg8
  have hz10 := hB9.size
  have hz11 := hg8.size
  have hl12 := hm7.lt
  refine pl_val (v := .map (some B4)) h2 rfl rfl rfl (by kernel_rfl) (by kernel_rfl) (by kernel_rfl) (fun a13 h13 => ?_); clear h2
  refine pl_nil ?_
  refine co_then ?_
  refine co_seq ?_
  refine co_seq ?_
  refine co_reg ?_
  refine pl_val (v := v) h13 rfl rfl rfl (by kernel_rfl) (by kernel_rfl) (by kernel_rfl) (fun a14 h14 => ?_); clear h13
  refine pl_val (v := .int .i64 ((l.length : Nat) : Int)) h14 rfl rfl rfl (by kernel_rfl) (by kernel_rfl) (rn_len rfl rfl Try.underlying22 (hs.below hB9)) (fun a15 h15 => ?_); clear h14
  refine pl_val (v := .int .i64 0) h15 rfl rfl rfl (by kernel_rfl) (by kernel_rfl) (by kernel_rfl) (fun a16 h16 => ?_); clear h15
  refine pl_nil ?_
  refine co_then ?_
  refine wp_block ?_
  have h17 : Slots 61 [(1, v2), (4, .slice none 0 0), (5, .map (some B4)), (14, v), (15, .int .i64 ((l.length : Nat) : Int)), (16, .int .i64 0)] _ := h16.sub ⟨rfl, rfl, rfl, rfl, rfl, rfl, trivial⟩; clear h16
  refine co_loop (fun mm a x => ∃ (i : Nat), Slots 61 [(1, v2), (4, .slice none 0 0), (5, .map (some B4)), (14, v), (15, .int .i64 ((l.length : Nat) : Int)), (16, .int .i64 ((i : Nat) : Int))] a ∧ mm = l.length - i ∧ (i ≤ l.length) ∧ MapO strK valV x B4 (pairG (l.take i)) (i) ∧ Below w.heap.size w x) (l.length - 0) ?_ ?_
  · exact ⟨0, h17.sub ⟨rfl, rfl, rfl, rfl, rfl, (slot_eq rfl (congrArg (Value.int .i64) (by first | rfl | omega))), trivial⟩, rfl, by omega, (hm7.eq (by first | rfl | exact pairG_at (by assumption)) (by omega)), hB9⟩
  · rintro k18 a19 w20 ⟨i, h19, rfl, hi21, hf22, hB23⟩
    have hz24 := hB23.size
    have hl25 := hf22.lt
    refine co_seq ?_
    refine co_reg ?_
    refine pl_val (v := .bool (decide (((i : Nat) : Int) < ((l.length : Nat) : Int)))) h19 rfl rfl rfl (by kernel_rfl) (by kernel_rfl) (by kernel_rfl) (fun a26 h26 => ?_); clear h19
    refine pl_nil ?_
    refine co_then ?_
    refine co_seq ?_
    cases hc27 : (decide (((i : Nat) : Int) < ((l.length : Nat) : Int)))
    ·
      rw [hc27] at h26
      have hp28 : ¬ (((i : Nat) : Int) < ((l.length : Nat) : Int)) := of_decide_eq_false hc27
      clear hc27
      refine co_false h26 rfl ?_
      refine wp_exit ?_
      refine co_thenX ?_
      refine co_thenX ?_
      refine co_blockX ?_
      refine co_then ?_
      refine co_seq ?_
      refine co_seq ?_
      refine co_reg ?_
      refine pl_val (v := v2) h26 rfl rfl rfl (by kernel_rfl) (by kernel_rfl) (by kernel_rfl) (fun a29 h29 => ?_); clear h26
      refine pl_val (v := .int .i64 ((m.length : Nat) : Int)) h29 rfl rfl rfl (by kernel_rfl) (by kernel_rfl) (rn_len rfl rfl Try.underlying23 (hs2.below hB23)) (fun a30 h30 => ?_); clear h29
      refine pl_val (v := .int .i64 0) h30 rfl rfl rfl (by kernel_rfl) (by kernel_rfl) (by kernel_rfl) (fun a31 h31 => ?_); clear h30
      refine pl_nil ?_
      refine co_then ?_
      refine wp_block ?_
      have hall1 : pairG (l.take i) = ovG l (m.take 0) := by rw [List.take_of_length_le (show l.length ≤ i by omega)]; rfl
      have h32 : Slots 61 [(4, .slice none 0 0), (5, .map (some B4)), (25, v2), (26, .int .i64 ((m.length : Nat) : Int)), (27, .int .i64 0)] _ := h31.sub ⟨rfl, rfl, rfl, rfl, rfl, trivial⟩; clear h31
      refine co_loop (fun mm a x => ∃ (k : Nat), Slots 61 [(4, .slice none 0 0), (5, .map (some B4)), (25, v2), (26, .int .i64 ((m.length : Nat) : Int)), (27, .int .i64 ((k : Nat) : Int))] a ∧ mm = m.length - k ∧ (k ≤ m.length) ∧ MapO strK valV x B4 (ovG l (m.take k)) (l.length + k) ∧ Below w.heap.size w x) (m.length - 0) ?_ ?_
      · exact ⟨0, h32.sub ⟨rfl, rfl, rfl, rfl, (slot_eq rfl (congrArg (Value.int .i64) (by first | rfl | omega))), trivial⟩, rfl, by omega, (hf22.eq (by first | exact hall1 | exact ovG_del (by assumption) (by assumption) | exact ovG_put (by assumption) (by assumption)) (by omega)), hB23⟩
      · rintro k33 a34 w35 ⟨k, h34, rfl, hi36, hf37, hB38⟩
        have hz39 := hB38.size
        have hl40 := hf37.lt
        refine co_seq ?_
        refine co_reg ?_
        refine pl_val (v := .bool (decide (((k : Nat) : Int) < ((m.length : Nat) : Int)))) h34 rfl rfl rfl (by kernel_rfl) (by kernel_rfl) (by kernel_rfl) (fun a41 h41 => ?_); clear h34
        refine pl_nil ?_
        refine co_then ?_
        refine co_seq ?_
        cases hc42 : (decide (((k : Nat) : Int) < ((m.length : Nat) : Int)))
        ·
          rw [hc42] at h41
          have hp43 : ¬ (((k : Nat) : Int) < ((m.length : Nat) : Int)) := of_decide_eq_false hc42
          clear hc42
          refine co_false h41 rfl ?_
          refine wp_exit ?_
          refine co_thenX ?_
          refine co_thenX ?_
          refine co_blockX ?_
          refine co_then ?_
          refine co_seq ?_
          refine co_reg ?_
          refine pl_val (v := .map (some B4)) h41 rfl rfl rfl (by kernel_rfl) (by kernel_rfl) (by kernel_rfl) (fun a44 h44 => ?_); clear h41
          refine pl_want h44 rfl rfl rfl (op_lenO (ts := #[]) rfl rfl Try.underlying89 hf37 (by kernel_rfl) rfl) ?_; clear h44
          rintro _ _ a45 ⟨k47, rfl, hk48, rfl⟩ h45
          refine pl_want h45 rfl rfl rfl (op_makeOwn (base := w35.heap.size) (enc := valE) (k := k47) (by_ := 32) (z := .agg #[.string (⟨#[]⟩), .string (⟨#[]⟩)]) (size := 2) rfl rfl rfl Try.underlying22 (by kernel_rfl) (by omega) (by unfold maxLen; omega) (Nat.le_refl _)) ?_; clear h45
          rintro _ w50 a49 ⟨N51, rfl, hN52, hr53, hg54⟩ h49
          have hB55 := hb_new hB38 hg54
          have hz56 := hB55.size
          have hz57 := hg54.size
          have hM58 := hf37.kept hg54 (by simp)
          refine pl_val (v := .slice (some ⟨N51, 0, none⟩) 0 k47) h49 rfl rfl rfl (by kernel_rfl) (by kernel_rfl) (by kernel_rfl) (fun a59 h59 => ?_); clear h49
          refine pl_nil ?_
          refine co_then ?_
          refine co_seq ?_
          refine co_seq ?_
          refine co_reg ?_
          refine pl_val (v := .map (some B4)) h59 rfl rfl rfl (by kernel_rfl) (by kernel_rfl) (by kernel_rfl) (fun a60 h60 => ?_); clear h59
          refine pl_want h60 rfl rfl rfl (op_call (args := #[.map (some B4), .func (.func 51) #[] #[]]) (R := fun res xw => ∃ ys : List ValT, ∃ u : Value, res = u ∧ xw.ownsRow w50.heap.size 90 2 u ys.length (ys.flatMap valE) ∧ SetG (fun y : ValT => y.1) (ovG l (m.take k)) ys ∧ ys.length ≤ (l.length + k) ∧ Below w50.heap.size w50 xw) rfl rfl rfl (by kernel_rfl) (by kernel_rfl) (Try.call50 _ _) (sorted_V B4 (ovG l (m.take k)) (l.length + k) w50 hM58 (by omega) (ovG_key _ _)) (by rintro e x ⟨ys, u, rfl, hq65, hq66, hq67, hb68⟩; exact ⟨_, rfl, ⟨ys, u, rfl, hq65, hq66, hq67, hb68⟩⟩)) ?_; clear h60
          rintro u64 w62 a61 ⟨ys63, _, rfl, hq65, hq66, hq67, hb68⟩ h61
          have hB69 := hb_call hB55 hb68
          have hz70 := hB69.size
          have hz71 := hb68.size
          have hM72 := hM58.kept (below_grown hb68) (by simp)
          have hr73 := row_kept_new hr53 (below_grown hb68)
          have hl74 := sl_len (row_sl hq65 valE_len)
          refine pl_val (v := .int .i64 ((ys63.length : Nat) : Int)) h61 rfl rfl rfl (by kernel_rfl) (by kernel_rfl) (rn_lenOwn rfl rfl Try.underlying91 hq65) (fun a75 h75 => ?_); clear h61
          refine pl_val (v := .int .i64 0) h75 rfl rfl rfl (by kernel_rfl) (by kernel_rfl) (by kernel_rfl) (fun a76 h76 => ?_); clear h75
          refine pl_nil ?_
          refine co_then ?_
          refine wp_block ?_
          have h77 : Slots 61 [(4, .slice none 0 0), (10, .slice (some ⟨N51, 0, none⟩) 0 k47), (49, u64), (50, .int .i64 ((ys63.length : Nat) : Int)), (51, .int .i64 0)] _ := h76.sub ⟨rfl, rfl, rfl, rfl, rfl, trivial⟩; clear h76
          refine co_loop (fun mm a x => ∃ (j : Nat) (u : Value), Slots 61 [(4, .slice none 0 0), (10, u), (49, u64), (50, .int .i64 ((ys63.length : Nat) : Int)), (51, .int .i64 ((j : Nat) : Int))] a ∧ mm = ys63.length - j ∧ (j ≤ ys63.length) ∧ x.ownsRow w50.heap.size 90 2 u64 ys63.length (ys63.flatMap valE) ∧ x.ownsRow w.heap.size 88 2 u (ys63.take j).length ((ys63.take j).flatMap valE) ∧ Below w.heap.size w x) (ys63.length - 0) ?_ ?_
          · exact ⟨0, (.slice (some ⟨N51, 0, none⟩) 0 k47), h77.sub ⟨rfl, rfl, rfl, rfl, (slot_eq rfl (congrArg (Value.int .i64) (by first | rfl | omega))), trivial⟩, rfl, by omega, hq65, (row_eq (row_lows hr73 (by omega)) (by first | rfl | exact take_snoc' (by assumption))), hB69⟩
          · rintro k78 a79 w80 ⟨j, u, h79, rfl, hi81, hf82, hf83, hB84⟩
            have hz85 := hB84.size
            have hst : (ys63.take j).length ≤ j := List.length_take_le _ _
            refine co_seq ?_
            refine co_reg ?_
            refine pl_val (v := .bool (decide (((j : Nat) : Int) < ((ys63.length : Nat) : Int)))) h79 rfl rfl rfl (by kernel_rfl) (by kernel_rfl) (by kernel_rfl) (fun a86 h86 => ?_); clear h79
            refine pl_nil ?_
            refine co_then ?_
            refine co_seq ?_
            cases hc87 : (decide (((j : Nat) : Int) < ((ys63.length : Nat) : Int)))
            ·
              rw [hc87] at h86
              have hp88 : ¬ (((j : Nat) : Int) < ((ys63.length : Nat) : Int)) := of_decide_eq_false hc87
              clear hc87
              refine co_false h86 rfl ?_
              refine wp_exit ?_
              refine co_thenX ?_
              refine co_thenX ?_
              refine co_blockX ?_
              refine co_then ?_
              refine co_seq ?_
              refine co_reg ?_
              refine pl_val (v := u) h86 rfl rfl rfl (by kernel_rfl) (by kernel_rfl) (by kernel_rfl) (fun a89 h89 => ?_); clear h86
              refine pl_val (v := u) h89 rfl rfl rfl (by kernel_rfl) (by kernel_rfl) (by kernel_rfl) (fun a90 h90 => ?_); clear h89
              refine pl_nil ?_
              refine co_then ?_
              refine wp_ret ?_
              refine co_ret1 h90 rfl rfl ?_
              exact ⟨_, _, rfl, (row_eq (row_lows hf83 (by omega)) (List.take_of_length_le (by omega))), (by have := hq66; rwa [List.take_of_length_le (show m.length ≤ k by omega)] at this), by omega, hB84⟩
            ·
              rw [hc87] at h86
              have hp91 : ((j : Nat) : Int) < ((ys63.length : Nat) : Int) := of_decide_eq_true hc87
              clear hc87
              refine co_true h86 rfl ?_
              refine wp_skip ?_
              refine co_then ?_
              refine co_seq ?_
              refine wp_block ?_
              refine co_seq ?_
              refine co_reg ?_
              obtain ⟨y92, hy92⟩ : ∃ z, ys63[j]? = some z := ⟨_, List.getElem?_eq_getElem (by first | omega | (simp; done) | (simp; omega))⟩
              refine pl_val (v := .pointer (some ⟨(blkOf u64), offOf u64 + j * 2, none⟩)) h86 rfl rfl rfl (by kernel_rfl) (by kernel_rfl) (rn_index rfl rfl rfl Try.underlying91 Try.sizeOf90 (row_sl hf82 valE_len) (by omega) (by first | omega | (simp; done) | (simp; omega))) (fun a93 h93 => ?_); clear h86
              refine pl_val (v := .agg #[.string y92.1, .string y92.2]) h93 rfl rfl rfl (by kernel_rfl) (by kernel_rfl) (rn_loadN rfl rfl Try.underlying90 rfl (by kernel_rfl) (sl_at (row_sl hf82 valE_len) hy92)) (fun a94 h94 => ?_); clear h93
              refine pl_want h94 rfl rfl rfl (op_new (v := fun N => .pointer (some ⟨N, 0, none⟩)) (T := 90) (cs := #[.string (⟨#[]⟩), .string (⟨#[]⟩)]) (by kernel_rfl) (by kernel_rfl) (by kernel_rfl)) ?_; clear h94
              rintro _ w96 a95 ⟨N97, rfl, hN100, hz101, hk99, hg98⟩ h95
              have ha102 := row_fresh hf82 hN100
              have ha103 := row_fresh hf83 hN100
              have hB104 := hb_new hB84 hg98
              have hz105 := hB104.size
              have hz106 := hg98.size
              have hr107 := row_kept_new hf82 hg98
              have hr108 := row_kept_new hf83 hg98
              try dsimp only at h95
              refine pl_doW h95 rfl rfl (op_storeN rfl rfl rfl (by kernel_rfl) (by kernel_rfl) hk99 rfl) ?_; clear h95
              rintro _ w110 a109 ⟨hk111, hz112, hg113⟩ h109
              have hk111' : Blk w110 N97 90 #[.string y92.1, .string y92.2] := hk111; clear hk111
              have hB114 := hb_at hB104 hg113 (by omega)
              have hz115 := hB114.size
              have hz116 := hg113.size
              have hr117 := row_kept_at hr107 hg113 (ha102)
              have hr118 := row_kept_at hr108 hg113 (ha103)
              refine pl_nil ?_
              refine co_then ?_
              refine co_reg ?_
              refine pl_val (v := u) h109 rfl rfl rfl (by kernel_rfl) (by kernel_rfl) (by kernel_rfl) (fun a119 h119 => ?_); clear h109
              refine pl_val (v := .agg #[.string y92.1, .string y92.2]) h119 rfl rfl rfl (by kernel_rfl) (by kernel_rfl) (rn_loadN rfl rfl Try.underlying90 rfl (by kernel_rfl) hk111'.all) (fun a120 h120 => ?_); clear h119
              refine pl_want h120 rfl rfl rfl (op_new (v := fun N => .slice (some ⟨N, 0, none⟩) 1 1) (T := 88) (cs := #[.string y92.1, .string y92.2]) (by kernel_rfl) (by kernel_rfl) (by kernel_rfl)) ?_; clear h120
              rintro _ w122 a121 ⟨N123, rfl, hN126, hz127, hk125, hg124⟩ h121
              have ha128 := row_fresh hr117 hN126
              have ha129 := row_fresh hr118 hN126
              have hB130 := hb_new hB114 hg124
              have hz131 := hB130.size
              have hz132 := hg124.size
              have hr133 := row_kept_new hr117 hg124
              have hr134 := row_kept_new hr118 hg124
              have hk135 := hk111'.kept hg124 (by simp)
              try dsimp only at h121
              refine pl_want h121 rfl rfl rfl (op_append rfl w.heap.size 88 (z := .agg #[.string (⟨#[]⟩), .string (⟨#[]⟩)]) (size := 2) (bytes := 32) Try.underlying22 (by kernel_rfl) rfl rfl rfl hr134 rfl hk125 rfl (by kernel_rfl) (by first | omega | (simp only [List.length_nil, List.length_append, List.length_cons, List.length_take, List.length_drop]; omega)) (by first | omega | (simp only [List.length_nil, List.length_append, List.length_cons, List.length_take, List.length_drop]; omega)) (by omega)) ?_; clear h121
              rintro v138 w137 a136 ⟨hr139, hg140⟩ h136
              have hr139' : w137.ownsRow w.heap.size 88 2 v138 ((ys63.take j ++ [(y92.1, y92.2)]).length) ((ys63.take j ++ [(y92.1, y92.2)]).flatMap valE) := row_push (y := (y92.1, y92.2)) hr139 rfl rfl; clear hr139
              have hB141 := hb_row hB130 hr134 (by omega) hg140
              have hz142 := hB141.size
              have hz143 := hg140.size
              have hr144 := row_kept_row hr133 hr134 hg140 (by decide)
              have hk145 := hk135.kept hg140 (ha103)
              have hk146 := hk125.kept hg140 (ha129)
              refine pl_val (v := v138) h136 rfl rfl rfl (by kernel_rfl) (by kernel_rfl) (by kernel_rfl) (fun a147 h147 => ?_); clear h136
              refine pl_nil ?_
              refine co_blockN ?_
              refine co_then ?_
              refine co_reg ?_
              refine pl_val (v := .int .i64 ((j + 1 : Nat) : Int)) h147 rfl rfl rfl (by kernel_rfl) (by kernel_rfl) (rn_arith' rfl rfl rfl rfl rfl rfl (IntWalk.i64_in _ (by omega)) (by omega)) (fun a148 h148 => ?_); clear h147
              refine pl_val (v := .int .i64 ((j + 1 : Nat) : Int)) h148 rfl rfl rfl (by kernel_rfl) (by kernel_rfl) (by kernel_rfl) (fun a149 h149 => ?_); clear h148
              refine pl_nil ?_
              refine co_then ?_
              refine ⟨(ys63.length - (j + 1)), by omega, ?_⟩
              exact ⟨j + 1, v138, h149.sub ⟨rfl, rfl, rfl, rfl, rfl, trivial⟩, rfl, by omega, hr144, (row_eq hr139' (by first | rfl | exact take_snoc' (by assumption))), hB141⟩
        ·
          rw [hc42] at h41
          have hp150 : ((k : Nat) : Int) < ((m.length : Nat) : Int) := of_decide_eq_true hc42
          clear hc42
          refine co_true h41 rfl ?_
          refine wp_skip ?_
          refine co_then ?_
          refine co_seq ?_
          refine wp_block ?_
          refine co_seq ?_
          refine co_reg ?_
          obtain ⟨y151, hy151⟩ : ∃ z, m[k]? = some z := ⟨_, List.getElem?_eq_getElem (by first | omega | (simp; done) | (simp; omega))⟩
          refine pl_val (v := .pointer (some ⟨(blkOf v2), offOf v2 + k * 3, none⟩)) h41 rfl rfl rfl (by kernel_rfl) (by kernel_rfl) (rn_index rfl rfl rfl Try.underlying23 Try.sizeOf86 (hs2.below hB38) (by omega) (by first | omega | (simp; done) | (simp; omega))) (fun a152 h152 => ?_); clear h41
          refine pl_val (v := .agg #[.string y151.1, .string y151.2.1, .bool y151.2.2]) h152 rfl rfl rfl (by kernel_rfl) (by kernel_rfl) (rn_loadN rfl rfl Try.underlying86 rfl (by kernel_rfl) (sl_at (hs2.below hB38) hy151)) (fun a153 h153 => ?_); clear h152
          refine pl_want h153 rfl rfl rfl (op_new (v := fun N => .pointer (some ⟨N, 0, none⟩)) (T := 86) (cs := #[.string (⟨#[]⟩), .string (⟨#[]⟩), .bool false]) (by kernel_rfl) (by kernel_rfl) (by kernel_rfl)) ?_; clear h153
          rintro _ w155 a154 ⟨N156, rfl, hN159, hz160, hk158, hg157⟩ h154
          have hB161 := hb_new hB38 hg157
          have hz162 := hB161.size
          have hz163 := hg157.size
          have hM164 := hf37.kept hg157 (by simp)
          try dsimp only at h154
          refine pl_doW h154 rfl rfl (op_storeN rfl rfl rfl (by kernel_rfl) (by kernel_rfl) hk158 rfl) ?_; clear h154
          rintro _ w166 a165 ⟨hk167, hz168, hg169⟩ h165
          have hk167' : Blk w166 N156 86 #[.string y151.1, .string y151.2.1, .bool y151.2.2] := hk167; clear hk167
          have hB170 := hb_at hB161 hg169 (by omega)
          have hz171 := hB170.size
          have hz172 := hg169.size
          have hM173 := hM164.kept hg169 (by simp; omega)
          refine pl_nil ?_
          refine co_then ?_
          refine co_seq ?_
          refine co_reg ?_
          refine pl_val (v := .pointer (some ⟨N156, 2, none⟩)) h165 rfl rfl rfl (by kernel_rfl) (by kernel_rfl) (by kernel_rfl) (fun a174 h174 => ?_); clear h165
          refine pl_val (v := .bool y151.2.2) h174 rfl rfl rfl (by kernel_rfl) (by kernel_rfl) (rn_load1 rfl rfl Try.isAgg4 (hk167'.cell rfl)) (fun a175 h175 => ?_); clear h174
          refine pl_nil ?_
          refine co_then ?_
          cases hc176 : (y151.2.2)
          ·
            rw [hc176] at h175
            refine co_false h175 rfl ?_
            refine co_reg ?_
            refine pl_val (v := .map (some B4)) h175 rfl rfl rfl (by kernel_rfl) (by kernel_rfl) (by kernel_rfl) (fun a177 h177 => ?_); clear h175
            refine pl_val (v := .pointer (some ⟨N156, 0, none⟩)) h177 rfl rfl rfl (by kernel_rfl) (by kernel_rfl) (by kernel_rfl) (fun a178 h178 => ?_); clear h177
            refine pl_val (v := .string y151.1) h178 rfl rfl rfl (by kernel_rfl) (by kernel_rfl) (rn_load1 rfl rfl Try.isAgg9 (hk167'.cell rfl)) (fun a179 h179 => ?_); clear h178
            refine pl_val (v := .pointer (some ⟨N156, 0, none⟩)) h179 rfl rfl rfl (by kernel_rfl) (by kernel_rfl) (by kernel_rfl) (fun a180 h180 => ?_); clear h179
            refine pl_val (v := .string y151.1) h180 rfl rfl rfl (by kernel_rfl) (by kernel_rfl) (rn_load1 rfl rfl Try.isAgg9 (hk167'.cell rfl)) (fun a181 h181 => ?_); clear h180
            refine pl_val (v := .pointer (some ⟨N156, 1, none⟩)) h181 rfl rfl rfl (by kernel_rfl) (by kernel_rfl) (by kernel_rfl) (fun a182 h182 => ?_); clear h181
            refine pl_val (v := .string y151.2.1) h182 rfl rfl rfl (by kernel_rfl) (by kernel_rfl) (rn_load1 rfl rfl Try.isAgg9 (hk167'.cell rfl)) (fun a183 h183 => ?_); clear h182
            refine pl_val (v := .agg #[.string y151.1, .string y151.2.1]) h183 rfl rfl rfl (by kernel_rfl) (by kernel_rfl) (by kernel_rfl) (fun a184 h184 => ?_); clear h183
            refine pl_doW h184 rfl rfl (op_updateO (a := y151.1) (v := (y151.1, y151.2.1)) (strKL Try.underlying9) rfl rfl rfl rfl Try.underlying89 hM173) ?_; clear h184
            rintro _ w186 a185 ⟨hm187, hz188, hg189⟩ h185
            have hB190 := hb_at hB170 hg189 (by omega)
            have hz191 := hB190.size
            have hz192 := hg189.size
            have hk193 := hk167'.kept hg189 (by simp; omega)
            have hl194 := hm187.lt
            refine pl_nil ?_
            refine co_blockN ?_
            refine co_then ?_
            refine co_reg ?_
            refine pl_val (v := .int .i64 ((k + 1 : Nat) : Int)) h185 rfl rfl rfl (by kernel_rfl) (by kernel_rfl) (rn_arith' rfl rfl rfl rfl rfl rfl (IntWalk.i64_in _ (by omega)) (by omega)) (fun a195 h195 => ?_); clear h185
            refine pl_val (v := .int .i64 ((k + 1 : Nat) : Int)) h195 rfl rfl rfl (by kernel_rfl) (by kernel_rfl) (by kernel_rfl) (fun a196 h196 => ?_); clear h195
            refine pl_nil ?_
            refine co_then ?_
            refine ⟨(m.length - (k + 1)), by omega, ?_⟩
            exact ⟨k + 1, h196.sub ⟨rfl, rfl, rfl, rfl, rfl, trivial⟩, rfl, by omega, (hm187.eq (by first | exact hall1 | exact ovG_del (by assumption) (by assumption) | exact ovG_put (by assumption) (by assumption)) (by omega)), hB190⟩
          ·
            rw [hc176] at h175
            refine co_true h175 rfl ?_
            refine co_reg ?_
            refine pl_val (v := .map (some B4)) h175 rfl rfl rfl (by kernel_rfl) (by kernel_rfl) (by kernel_rfl) (fun a197 h197 => ?_); clear h175
            refine pl_val (v := .pointer (some ⟨N156, 0, none⟩)) h197 rfl rfl rfl (by kernel_rfl) (by kernel_rfl) (by kernel_rfl) (fun a198 h198 => ?_); clear h197
            refine pl_val (v := .string y151.1) h198 rfl rfl rfl (by kernel_rfl) (by kernel_rfl) (rn_load1 rfl rfl Try.isAgg9 (hk167'.cell rfl)) (fun a199 h199 => ?_); clear h198
            refine pl_doW h199 rfl rfl (op_deleteO (a := y151.1) (strKL Try.underlying9) rfl rfl rfl Try.underlying89 hM173) ?_; clear h199
            rintro _ w201 a200 ⟨hm202, hz203, hg204⟩ h200
            have hB205 := hb_at hB170 hg204 (by omega)
            have hz206 := hB205.size
            have hz207 := hg204.size
            have hk208 := hk167'.kept hg204 (by simp; omega)
            have hl209 := hm202.lt
            refine pl_nil ?_
            refine co_blockN ?_
            refine co_then ?_
            refine co_reg ?_
            refine pl_val (v := .int .i64 ((k + 1 : Nat) : Int)) h200 rfl rfl rfl (by kernel_rfl) (by kernel_rfl) (rn_arith' rfl rfl rfl rfl rfl rfl (IntWalk.i64_in _ (by omega)) (by omega)) (fun a210 h210 => ?_); clear h200
            refine pl_val (v := .int .i64 ((k + 1 : Nat) : Int)) h210 rfl rfl rfl (by kernel_rfl) (by kernel_rfl) (by kernel_rfl) (fun a211 h211 => ?_); clear h210
            refine pl_nil ?_
            refine co_then ?_
            refine ⟨(m.length - (k + 1)), by omega, ?_⟩
            exact ⟨k + 1, h211.sub ⟨rfl, rfl, rfl, rfl, rfl, trivial⟩, rfl, by omega, (hm202.eq (by first | exact hall1 | exact ovG_del (by assumption) (by assumption) | exact ovG_put (by assumption) (by assumption)) (by omega)), hB205⟩
    ·
      rw [hc27] at h26
      have hp212 : ((i : Nat) : Int) < ((l.length : Nat) : Int) := of_decide_eq_true hc27
      clear hc27
      refine co_true h26 rfl ?_
      refine wp_skip ?_
      refine co_then ?_
      refine co_seq ?_
      refine wp_block ?_
      refine co_seq ?_
      refine co_reg ?_
      obtain ⟨y213, hy213⟩ : ∃ z, l[i]? = some z := ⟨_, List.getElem?_eq_getElem (by first | omega | (simp; done) | (simp; omega))⟩
      refine pl_val (v := .pointer (some ⟨(blkOf v), offOf v + i * 2, none⟩)) h26 rfl rfl rfl (by kernel_rfl) (by kernel_rfl) (rn_index rfl rfl rfl Try.underlying22 Try.sizeOf88 (hs.below hB23) (by omega) (by first | omega | (simp; done) | (simp; omega))) (fun a214 h214 => ?_); clear h26
      refine pl_val (v := .agg #[.string y213.1, .string y213.2]) h214 rfl rfl rfl (by kernel_rfl) (by kernel_rfl) (rn_loadN rfl rfl Try.underlying88 rfl (by kernel_rfl) (sl_at (hs.below hB23) hy213)) (fun a215 h215 => ?_); clear h214
      refine pl_want h215 rfl rfl rfl (op_new (v := fun N => .pointer (some ⟨N, 0, none⟩)) (T := 88) (cs := #[.string (⟨#[]⟩), .string (⟨#[]⟩)]) (by kernel_rfl) (by kernel_rfl) (by kernel_rfl)) ?_; clear h215
      rintro _ w217 a216 ⟨N218, rfl, hN221, hz222, hk220, hg219⟩ h216
      have hB223 := hb_new hB23 hg219
      have hz224 := hB223.size
      have hz225 := hg219.size
      have hM226 := hf22.kept hg219 (by simp)
      try dsimp only at h216
      refine pl_doW h216 rfl rfl (op_storeN rfl rfl rfl (by kernel_rfl) (by kernel_rfl) hk220 rfl) ?_; clear h216
      rintro _ w228 a227 ⟨hk229, hz230, hg231⟩ h227
      have hk229' : Blk w228 N218 88 #[.string y213.1, .string y213.2] := hk229; clear hk229
      have hB232 := hb_at hB223 hg231 (by omega)
      have hz233 := hB232.size
      have hz234 := hg231.size
      have hM235 := hM226.kept hg231 (by simp; omega)
      refine pl_nil ?_
      refine co_then ?_
      refine co_reg ?_
      refine pl_val (v := .map (some B4)) h227 rfl rfl rfl (by kernel_rfl) (by kernel_rfl) (by kernel_rfl) (fun a236 h236 => ?_); clear h227
      refine pl_val (v := .pointer (some ⟨N218, 0, none⟩)) h236 rfl rfl rfl (by kernel_rfl) (by kernel_rfl) (by kernel_rfl) (fun a237 h237 => ?_); clear h236
      refine pl_val (v := .string y213.1) h237 rfl rfl rfl (by kernel_rfl) (by kernel_rfl) (rn_load1 rfl rfl Try.isAgg9 (hk229'.cell rfl)) (fun a238 h238 => ?_); clear h237
      refine pl_val (v := .agg #[.string y213.1, .string y213.2]) h238 rfl rfl rfl (by kernel_rfl) (by kernel_rfl) (rn_loadN rfl rfl Try.underlying88 rfl (by kernel_rfl) hk229'.all) (fun a239 h239 => ?_); clear h238
      refine pl_doW h239 rfl rfl (op_updateO (a := y213.1) (v := (y213.1, y213.2)) (strKL Try.underlying9) rfl rfl rfl rfl Try.underlying89 hM235) ?_; clear h239
      rintro _ w241 a240 ⟨hm242, hz243, hg244⟩ h240
      have hB245 := hb_at hB232 hg244 (by omega)
      have hz246 := hB245.size
      have hz247 := hg244.size
      have hk248 := hk229'.kept hg244 (by simp; omega)
      have hl249 := hm242.lt
      refine pl_nil ?_
      refine co_blockN ?_
      refine co_then ?_
      refine co_reg ?_
      refine pl_val (v := .int .i64 ((i + 1 : Nat) : Int)) h240 rfl rfl rfl (by kernel_rfl) (by kernel_rfl) (rn_arith' rfl rfl rfl rfl rfl rfl (IntWalk.i64_in _ (by omega)) (by omega)) (fun a250 h250 => ?_); clear h240
      refine pl_val (v := .int .i64 ((i + 1 : Nat) : Int)) h250 rfl rfl rfl (by kernel_rfl) (by kernel_rfl) (by kernel_rfl) (fun a251 h251 => ?_); clear h250
      refine pl_nil ?_
      refine co_then ?_
      refine ⟨(l.length - (i + 1)), by omega, ?_⟩
      exact ⟨i + 1, h251.sub ⟨rfl, rfl, rfl, rfl, rfl, rfl, trivial⟩, rfl, by omega, (hm242.eq (by first | rfl | exact pairG_at (by assumption)) (by omega)), hB245⟩
end Go.Proofs.Yteioaaegooebpaa
