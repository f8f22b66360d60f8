/- Package lease: Tick, slices.Clone, slices.Index of pins, the closure of place. Conditions: at most 1000 pins. -/
import Derived.Test.YtfhiciaakgcbnaaLeaA
namespace Go.Proofs.Ytfhiciaakgcbnaa
open Go.RowKit Go.PlainAid
set_option linter.unusedVariables false


theorem idx_next {l : List PinT} {i k : Nat} {p y : PinT} (hi : l[i]? = some p) (hk : k ≤ i) (hy : l[k]? = some y) (hne : ¬ (p.1 = y.1 ∧ p.2.1 = y.2.1 ∧ p.2.2 = y.2.2)) : k + 1 ≤ i := by
  by_cases h : k = i
  · subst h; rw [hi] at hy; cases hy; exact absurd ⟨rfl, rfl, rfl⟩ hne
  · omega
theorem idx_eq {l : List PinT} {i k : Nat} {p y : PinT} (hn : ∀ j, j < i → ∀ z, l[j]? = some z → z.1 ≠ p.1) (hk : k ≤ i) (hy : l[k]? = some y) (he : p.1 = y.1 ∧ p.2.1 = y.2.1 ∧ p.2.2 = y.2.2) : k = i := by
  by_cases h : k < i
  · exact absurd he.1.symm (hn k h y hy)
  · omega

set_option maxRecDepth 100000 in
theorem leaseTick_any (v : Value) (l : List PinT) (w : World) (hs : SliceOf pinE 3 w v l) (hok : ∀ z ∈ l, pinOk z) (hlen : l.length ≤ 1000) :
    Calls Try.prog 42 #[v] w fun e w' => ∃ (u : Value) (g : Value), e = .returned (.tuple #[u, g]) ∧ w'.ownsRow w.heap.size 46 3 u (stayP l).length ((stayP l).flatMap pinE) ∧ w'.ownsRow w.heap.size 3 1 g (goneP l).length ((goneP l).flatMap (intE .i64)) ∧ Below w.heap.size w w' := by
  have hB0 := Below.refl w.heap.size w
  have hl_hs := sl_len hs
  refine co_enter (n := 33) Try.func42 rfl rfl rfl [(0, v)] rfl (fun a h0 => ?_)
  refine co_seq ?_
  refine co_reg ?_
  refine pl_val (v := .slice none 0 0) h0 rfl rfl rfl (by kernel_rfl) (by kernel_rfl) (by kernel_rfl) (fun a1 h1 => ?_); clear h0
  refine pl_val (v := .slice none 0 0) h1 rfl rfl rfl (by kernel_rfl) (by kernel_rfl) (by kernel_rfl) (fun a2 h2 => ?_); clear h1
  refine pl_nil ?_
  refine co_then ?_
  refine co_seq ?_
  refine co_reg ?_
  refine pl_val (v := .slice none 0 0) h2 rfl rfl rfl (by kernel_rfl) (by kernel_rfl) (by kernel_rfl) (fun a3 h3 => ?_); clear h2
  refine pl_nil ?_
  refine co_then ?_
  refine co_seq ?_
  refine co_reg ?_
  refine pl_val (v := .slice none 0 0) h3 rfl rfl rfl (by kernel_rfl) (by kernel_rfl) (by kernel_rfl) (fun a4 h4 => ?_); clear h3
  refine pl_nil ?_
  refine co_then ?_
  refine co_seq ?_
  refine co_seq ?_
  refine co_reg ?_
  refine pl_val (v := v) h4 rfl rfl rfl (by kernel_rfl) (by kernel_rfl) (by kernel_rfl) (fun a5 h5 => ?_); clear h4
  refine pl_val (v := .int .i64 ((l.length : Nat) : Int)) h5 rfl rfl rfl (by kernel_rfl) (by kernel_rfl) (rn_len rfl rfl Try.underlying77 hs) (fun a6 h6 => ?_); clear h5
  refine pl_val (v := .int .i64 0) h6 rfl rfl rfl (by kernel_rfl) (by kernel_rfl) (by kernel_rfl) (fun a7 h7 => ?_); clear h6
  refine pl_nil ?_
  refine co_then ?_
  refine wp_block ?_
  have h8 : Slots 33 [(0, v), (2, .slice none 0 0), (3, .slice none 0 0), (4, .slice none 0 0), (5, .slice none 0 0), (8, v), (9, .int .i64 ((l.length : Nat) : Int)), (10, .int .i64 0)] _ := h7.sub ⟨rfl, rfl, rfl, rfl, rfl, rfl, rfl, rfl, trivial⟩; clear h7
  refine co_loop (fun mm a x => ∃ (i : Nat) (u : Value) (g : Value), Slots 33 [(0, v), (2, .slice none 0 0), (3, .slice none 0 0), (4, u), (5, g), (8, v), (9, .int .i64 ((l.length : Nat) : Int)), (10, .int .i64 ((i : Nat) : Int))] a ∧ mm = l.length - i ∧ (i ≤ l.length) ∧ x.ownsRow w.heap.size 46 3 u (stayP (l.take i)).length ((stayP (l.take i)).flatMap pinE) ∧ x.ownsRow w.heap.size 3 1 g (goneP (l.take i)).length ((goneP (l.take i)).flatMap (intE .i64)) ∧ Below w.heap.size w x) (l.length - 0) ?_ ?_
  · exact ⟨0, (.slice none 0 0), (.slice none 0 0), h8.sub ⟨rfl, rfl, rfl, rfl, rfl, rfl, rfl, (slot_eq rfl (congrArg (Value.int .i64) (by first | rfl | omega))), trivial⟩, rfl, by omega, (row_nilL _ _ _ _ _), (row_nilL _ _ _ _ _), hB0⟩
  · rintro k9 a10 w11 ⟨i, u, g, h10, rfl, hi12, hf13, hf14, hB15⟩
    have hz16 := hB15.size
    have hq1 := stayP_len (l.take i); have hq2 := goneP_len (l.take i); have hq3 : (l.take i).length ≤ i := List.length_take_le _ _
    refine co_seq ?_
    refine co_reg ?_
    refine pl_val (v := .bool (decide (((i : Nat) : Int) < ((l.length : Nat) : Int)))) h10 rfl rfl rfl (by kernel_rfl) (by kernel_rfl) (by kernel_rfl) (fun a17 h17 => ?_); clear h10
    refine pl_nil ?_
    refine co_then ?_
    refine co_seq ?_
    cases hc18 : (decide (((i : Nat) : Int) < ((l.length : Nat) : Int)))
    ·
      rw [hc18] at h17
      have hp19 : ¬ (((i : Nat) : Int) < ((l.length : Nat) : Int)) := of_decide_eq_false hc18
      clear hc18
      refine co_false h17 rfl ?_
      refine wp_exit ?_
      refine co_thenX ?_
      refine co_thenX ?_
      refine co_blockX ?_
      refine co_then ?_
      refine co_seq ?_
      refine co_reg ?_
      refine pl_val (v := u) h17 rfl rfl rfl (by kernel_rfl) (by kernel_rfl) (by kernel_rfl) (fun a20 h20 => ?_); clear h17
      refine pl_val (v := g) h20 rfl rfl rfl (by kernel_rfl) (by kernel_rfl) (by kernel_rfl) (fun a21 h21 => ?_); clear h20
      refine pl_val (v := u) h21 rfl rfl rfl (by kernel_rfl) (by kernel_rfl) (by kernel_rfl) (fun a22 h22 => ?_); clear h21
      refine pl_val (v := g) h22 rfl rfl rfl (by kernel_rfl) (by kernel_rfl) (by kernel_rfl) (fun a23 h23 => ?_); clear h22
      refine pl_nil ?_
      refine co_then ?_
      refine wp_ret ?_
      refine co_ret2 h23 rfl rfl rfl ?_
      exact ⟨_, _, rfl, (row_eq (row_low hf13 (by omega)) (by rw [List.take_of_length_le (by omega)])), (row_eq (row_low hf14 (by omega)) (by rw [List.take_of_length_le (by omega)])), hB15⟩
    ·
      rw [hc18] at h17
      have hp24 : ((i : Nat) : Int) < ((l.length : Nat) : Int) := of_decide_eq_true hc18
      clear hc18
      refine co_true h17 rfl ?_
      refine wp_skip ?_
      refine co_then ?_
      refine co_seq ?_
      refine wp_block ?_
      refine co_seq ?_
      refine co_reg ?_
      obtain ⟨y25, hy25⟩ : ∃ z, l[i]? = some z := ⟨_, List.getElem?_eq_getElem (by first | omega | (simp; done) | (simp; omega))⟩
      have oky25 := hok _ (List.mem_of_getElem? hy25)
      have k26 : -9223372036854775808 ≤ y25.1 ∧ y25.1 ≤ 9223372036854775807 := (wf_i64 oky25.1)
      have k27 : 0 ≤ y25.2.1 ∧ y25.2.1 < 18446744073709551616 := (wf_u64 oky25.2.1)
      have k28 : -9223372036854775808 ≤ y25.2.2 ∧ y25.2.2 ≤ 9223372036854775807 := (wf_i64 oky25.2.2)
      refine pl_val (v := .pointer (some ⟨(blkOf v), offOf v + i * 3, none⟩)) h17 rfl rfl rfl (by kernel_rfl) (by kernel_rfl) (rn_index rfl rfl rfl Try.underlying77 Try.sizeOf46 (hs.below hB15) (by omega) (by first | omega | (simp; done) | (simp; omega))) (fun a29 h29 => ?_); clear h17
      refine pl_val (v := .agg #[.int .i64 y25.1, .int .u64 y25.2.1, .int .i64 y25.2.2]) h29 rfl rfl rfl (by kernel_rfl) (by kernel_rfl) (rn_loadN rfl rfl Try.underlying46 rfl (by kernel_rfl) (sl_at (hs.below hB15) hy25)) (fun a30 h30 => ?_); clear h29
      refine pl_want h30 rfl rfl rfl (op_new (v := fun N => .pointer (some ⟨N, 0, none⟩)) (T := 46) (cs := #[.int .i64 0, .int .u64 0, .int .i64 0]) (by kernel_rfl) (by kernel_rfl) (by kernel_rfl)) ?_; clear h30
      rintro _ w32 a31 ⟨N33, rfl, hN36, hz37, hk35, hg34⟩ h31
      have ha38 := row_fresh hf13 hN36
      have ha39 := row_fresh hf14 hN36
      have hB40 := hb_new hB15 hg34
      have hz41 := hB40.size
      have hz42 := hg34.size
      have hr43 := row_kept_new hf13 hg34
      have hr44 := row_kept_new hf14 hg34
      try dsimp only at h31
      refine pl_doW h31 rfl rfl (op_storeN rfl rfl rfl (by kernel_rfl) (by kernel_rfl) hk35 rfl) ?_; clear h31
      rintro _ w46 a45 ⟨hk47, hz48, hg49⟩ h45
      have hk47' : Blk w46 N33 46 #[.int .i64 y25.1, .int .u64 y25.2.1, .int .i64 y25.2.2] := hk47; clear hk47
      have hB50 := hb_at hB40 hg49 (by omega)
      have hz51 := hB50.size
      have hz52 := hg49.size
      have hr53 := row_kept_at hr43 hg49 (ha38)
      have hr54 := row_kept_at hr44 hg49 (ha39)
      refine pl_nil ?_
      refine co_then ?_
      refine co_seq ?_
      refine co_seq ?_
      refine co_reg ?_
      refine pl_val (v := .pointer (some ⟨N33, 2, none⟩)) h45 rfl rfl rfl (by kernel_rfl) (by kernel_rfl) (by kernel_rfl) (fun a55 h55 => ?_); clear h45
      refine pl_val (v := .int .i64 y25.2.2) h55 rfl rfl rfl (by kernel_rfl) (by kernel_rfl) (rn_load1 rfl rfl Try.isAgg3 (hk47'.cell rfl)) (fun a56 h56 => ?_); clear h55
      refine pl_val (v := .bool (decide (y25.2.2 ≤ 1))) h56 rfl rfl rfl (by kernel_rfl) (by kernel_rfl) (by kernel_rfl) (fun a57 h57 => ?_); clear h56
      refine pl_nil ?_
      refine co_then ?_
      cases hc58 : (decide (y25.2.2 ≤ 1))
      ·
        rw [hc58] at h57
        have hp59 : ¬ (y25.2.2 ≤ 1) := of_decide_eq_false hc58
        clear hc58
        refine co_false h57 rfl ?_
        refine wp_skip ?_
        refine co_then ?_
        refine co_seq ?_
        refine co_reg ?_
        refine pl_val (v := .pointer (some ⟨N33, 2, none⟩)) h57 rfl rfl rfl (by kernel_rfl) (by kernel_rfl) (by kernel_rfl) (fun a60 h60 => ?_); clear h57
        refine pl_val (v := .int .i64 y25.2.2) h60 rfl rfl rfl (by kernel_rfl) (by kernel_rfl) (rn_load1 rfl rfl Try.isAgg3 (hk47'.cell rfl)) (fun a61 h61 => ?_); clear h60
        refine pl_val (v := .int .i64 (y25.2.2 - 1)) h61 rfl rfl rfl (by kernel_rfl) (by kernel_rfl) (rn_arith rfl rfl rfl rfl rfl rfl (IntWalk.i64_in _ (by omega))) (fun a62 h62 => ?_); clear h61
        refine pl_val (v := .pointer (some ⟨N33, 2, none⟩)) h62 rfl rfl rfl (by kernel_rfl) (by kernel_rfl) (by kernel_rfl) (fun a63 h63 => ?_); clear h62
        refine pl_doW h63 rfl rfl (op_store1 rfl rfl rfl rfl Try.sizeOf3 hk47' rfl) ?_; clear h63
        rintro _ w65 a64 ⟨hk66, hz67, hg68⟩ h64
        have hk66' : Blk w65 N33 46 #[.int .i64 y25.1, .int .u64 y25.2.1, .int .i64 (y25.2.2 - 1)] := hk66; clear hk66
        have hB69 := hb_at hB50 hg68 (by omega)
        have hz70 := hB69.size
        have hz71 := hg68.size
        have hr72 := row_kept_at hr53 hg68 (ha38)
        have hr73 := row_kept_at hr54 hg68 (ha39)
        refine pl_nil ?_
        refine co_then ?_
        refine co_reg ?_
        refine pl_val (v := u) h64 rfl rfl rfl (by kernel_rfl) (by kernel_rfl) (by kernel_rfl) (fun a74 h74 => ?_); clear h64
        refine pl_val (v := .agg #[.int .i64 y25.1, .int .u64 y25.2.1, .int .i64 (y25.2.2 - 1)]) h74 rfl rfl rfl (by kernel_rfl) (by kernel_rfl) (rn_loadN rfl rfl Try.underlying46 rfl (by kernel_rfl) hk66'.all) (fun a75 h75 => ?_); clear h74
        refine pl_want h75 rfl rfl rfl (op_new (v := fun N => .slice (some ⟨N, 0, none⟩) 1 1) (T := 46) (cs := #[.int .i64 y25.1, .int .u64 y25.2.1, .int .i64 (y25.2.2 - 1)]) (by kernel_rfl) (by kernel_rfl) (by kernel_rfl)) ?_; clear h75
        rintro _ w77 a76 ⟨N78, rfl, hN81, hz82, hk80, hg79⟩ h76
        have ha83 := row_fresh hr72 hN81
        have ha84 := row_fresh hr73 hN81
        have hB85 := hb_new hB69 hg79
        have hz86 := hB85.size
        have hz87 := hg79.size
        have hr88 := row_kept_new hr72 hg79
        have hr89 := row_kept_new hr73 hg79
        have hk90 := hk66'.kept hg79 (by simp)
        try dsimp only at h76
        refine pl_want h76 rfl rfl rfl (op_append rfl w.heap.size 46 (z := .agg #[.int .i64 0, .int .u64 0, .int .i64 0]) (size := 3) (bytes := 24) Try.underlying77 (by kernel_rfl) rfl rfl rfl hr88 rfl hk80 rfl (by kernel_rfl) (by first | omega | (simp only [List.length_nil, List.length_append, List.length_cons, List.length_take, List.length_drop]; omega)) (by first | omega | (simp only [List.length_nil, List.length_append, List.length_cons, List.length_take, List.length_drop]; omega)) (by omega)) ?_; clear h76
        rintro v93 w92 a91 ⟨hr94, hg95⟩ h91
        have hr94' : w92.ownsRow w.heap.size 46 3 v93 ((stayP (l.take i) ++ [(y25.1, y25.2.1, y25.2.2 - 1)]).length) ((stayP (l.take i) ++ [(y25.1, y25.2.1, y25.2.2 - 1)]).flatMap pinE) := row_push (y := (y25.1, y25.2.1, y25.2.2 - 1)) hr94 rfl rfl; clear hr94
        have hB96 := hb_row hB85 hr88 (by omega) hg95
        have hz97 := hB96.size
        have hz98 := hg95.size
        have hr99 := row_kept_row hr89 hr88 hg95 (by decide)
        have hk100 := hk90.kept hg95 (ha38)
        have hk101 := hk80.kept hg95 (ha83)
        refine pl_val (v := v93) h91 rfl rfl rfl (by kernel_rfl) (by kernel_rfl) (by kernel_rfl) (fun a102 h102 => ?_); clear h91
        refine pl_nil ?_
        refine co_blockN ?_
        refine co_then ?_
        refine co_reg ?_
        refine pl_val (v := .int .i64 ((i + 1 : Nat) : Int)) h102 rfl rfl rfl (by kernel_rfl) (by kernel_rfl) (rn_arith' rfl rfl rfl rfl rfl rfl (IntWalk.i64_in _ (by omega)) (by omega)) (fun a103 h103 => ?_); clear h102
        refine pl_val (v := .int .i64 ((i + 1 : Nat) : Int)) h103 rfl rfl rfl (by kernel_rfl) (by kernel_rfl) (by kernel_rfl) (fun a104 h104 => ?_); clear h103
        refine pl_nil ?_
        refine co_then ?_
        refine ⟨(l.length - (i + 1)), by omega, ?_⟩
        exact ⟨i + 1, v93, g, h104.sub ⟨rfl, rfl, rfl, rfl, rfl, rfl, rfl, rfl, trivial⟩, rfl, by omega, (row_eq hr94' (by first | rfl | exact stay_yes (by assumption) (by omega) | exact stay_no (by assumption) (by omega))), (row_eq hr99 (by first | rfl | exact gone_yes (by assumption) (by omega) | exact gone_no (by assumption) (by omega))), hB96⟩
      ·
        rw [hc58] at h57
        have hp105 : y25.2.2 ≤ 1 := of_decide_eq_true hc58
        clear hc58
        refine co_true h57 rfl ?_
        refine co_seq ?_
        refine co_reg ?_
        refine pl_val (v := g) h57 rfl rfl rfl (by kernel_rfl) (by kernel_rfl) (by kernel_rfl) (fun a106 h106 => ?_); clear h57
        refine pl_val (v := .pointer (some ⟨N33, 0, none⟩)) h106 rfl rfl rfl (by kernel_rfl) (by kernel_rfl) (by kernel_rfl) (fun a107 h107 => ?_); clear h106
        refine pl_val (v := .int .i64 y25.1) h107 rfl rfl rfl (by kernel_rfl) (by kernel_rfl) (rn_load1 rfl rfl Try.isAgg3 (hk47'.cell rfl)) (fun a108 h108 => ?_); clear h107
        refine pl_want h108 rfl rfl rfl (op_new (v := fun N => .slice (some ⟨N, 0, none⟩) 1 1) (T := 3) (cs := #[.int .i64 y25.1]) (by kernel_rfl) (by kernel_rfl) (by kernel_rfl)) ?_; clear h108
        rintro _ w110 a109 ⟨N111, rfl, hN114, hz115, hk113, hg112⟩ h109
        have ha116 := row_fresh hr53 hN114
        have ha117 := row_fresh hr54 hN114
        have hB118 := hb_new hB50 hg112
        have hz119 := hB118.size
        have hz120 := hg112.size
        have hr121 := row_kept_new hr53 hg112
        have hr122 := row_kept_new hr54 hg112
        have hk123 := hk47'.kept hg112 (by simp)
        try dsimp only at h109
        refine pl_want h109 rfl rfl rfl (op_append rfl w.heap.size 3 (z := .int .i64 0) (size := 1) (bytes := 8) Try.underlying39 (by kernel_rfl) rfl rfl rfl hr122 rfl hk113 rfl (by kernel_rfl) (by first | omega | (simp only [List.length_nil, List.length_append, List.length_cons, List.length_take, List.length_drop]; omega)) (by first | omega | (simp only [List.length_nil, List.length_append, List.length_cons, List.length_take, List.length_drop]; omega)) (by omega)) ?_; clear h109
        rintro v126 w125 a124 ⟨hr127, hg128⟩ h124
        have hr127' : w125.ownsRow w.heap.size 3 1 v126 ((goneP (l.take i) ++ [y25.1]).length) ((goneP (l.take i) ++ [y25.1]).flatMap (intE .i64)) := row_push (y := y25.1) hr127 rfl rfl; clear hr127
        have hB129 := hb_row hB118 hr122 (by omega) hg128
        have hz130 := hB129.size
        have hz131 := hg128.size
        have hr132 := row_kept_row hr121 hr122 hg128 (by decide)
        have hk133 := hk123.kept hg128 (ha39)
        have hk134 := hk113.kept hg128 (ha117)
        refine pl_val (v := v126) h124 rfl rfl rfl (by kernel_rfl) (by kernel_rfl) (by kernel_rfl) (fun a135 h135 => ?_); clear h124
        refine pl_nil ?_
        refine co_then ?_
        refine wp_exit ?_
        refine co_thenX ?_
        refine co_blockX ?_
        refine co_then ?_
        refine co_reg ?_
        refine pl_val (v := .int .i64 ((i + 1 : Nat) : Int)) h135 rfl rfl rfl (by kernel_rfl) (by kernel_rfl) (rn_arith' rfl rfl rfl rfl rfl rfl (IntWalk.i64_in _ (by omega)) (by omega)) (fun a136 h136 => ?_); clear h135
        refine pl_val (v := .int .i64 ((i + 1 : Nat) : Int)) h136 rfl rfl rfl (by kernel_rfl) (by kernel_rfl) (by kernel_rfl) (fun a137 h137 => ?_); clear h136
        refine pl_nil ?_
        refine co_then ?_
        refine ⟨(l.length - (i + 1)), by omega, ?_⟩
        exact ⟨i + 1, u, v126, h137.sub ⟨rfl, rfl, rfl, rfl, rfl, rfl, rfl, rfl, trivial⟩, rfl, by omega, (row_eq hr132 (by first | rfl | exact stay_yes (by assumption) (by omega) | exact stay_no (by assumption) (by omega))), (row_eq hr127' (by first | rfl | exact gone_yes (by assumption) (by omega) | exact gone_no (by assumption) (by omega))), hB129⟩
set_option maxRecDepth 100000 in
theorem rleaseTick_any (v : Value) (l : List PinT) (w : World) (hs : SliceOf pinE 3 w v l) (hok : ∀ z ∈ l, pinOk z) (hlen : l.length ≤ 1000) :
    Calls Try.prog 43 #[v] w fun e w' => ∃ (u : Value) (g : Value), e = .returned (.tuple #[u, g]) ∧ w'.ownsRow w.heap.size 46 3 u (stayP l).length ((stayP l).flatMap pinE) ∧ w'.ownsRow w.heap.size 3 1 g (goneP l).length ((goneP l).flatMap (intE .i64)) ∧ Below w.heap.size w w' := by
  have hB0 := Below.refl w.heap.size w
  have hl_hs := sl_len hs
  refine co_enter (n := 36) Try.func43 rfl rfl rfl [(0, v)] rfl (fun a h0 => ?_)
  refine co_seq ?_
  refine co_reg ?_
  refine pl_val (v := .slice none 0 0) h0 rfl rfl rfl (by kernel_rfl) (by kernel_rfl) (by kernel_rfl) (fun a1 h1 => ?_); clear h0
  refine pl_val (v := .slice none 0 0) h1 rfl rfl rfl (by kernel_rfl) (by kernel_rfl) (by kernel_rfl) (fun a2 h2 => ?_); clear h1
  refine pl_nil ?_
  refine co_then ?_
  refine co_seq ?_
  refine co_reg ?_
  refine pl_val (v := .slice none 0 0) h2 rfl rfl rfl (by kernel_rfl) (by kernel_rfl) (by kernel_rfl) (fun a3 h3 => ?_); clear h2
  refine pl_nil ?_
  refine co_then ?_
  refine co_seq ?_
  refine co_reg ?_
  refine pl_val (v := .slice none 0 0) h3 rfl rfl rfl (by kernel_rfl) (by kernel_rfl) (by kernel_rfl) (fun a4 h4 => ?_); clear h3
  refine pl_nil ?_
  refine co_then ?_
  refine co_seq ?_
  refine co_seq ?_
  refine co_reg ?_
  refine pl_val (v := .int .i64 0) h4 rfl rfl rfl (by kernel_rfl) (by kernel_rfl) (by kernel_rfl) (fun a5 h5 => ?_); clear h4
  refine pl_nil ?_
  refine co_then ?_
  refine wp_block ?_
  have h6 : Slots 36 [(0, v), (2, .slice none 0 0), (3, .slice none 0 0), (4, .slice none 0 0), (5, .slice none 0 0), (6, .int .i64 0)] _ := h5.sub ⟨rfl, rfl, rfl, rfl, rfl, rfl, trivial⟩; clear h5
  refine co_loop (fun mm a x => ∃ (i : Nat) (u : Value) (g : Value), Slots 36 [(0, v), (2, .slice none 0 0), (3, .slice none 0 0), (4, u), (5, g), (6, .int .i64 ((i : Nat) : Int))] a ∧ mm = l.length - i ∧ (i ≤ l.length) ∧ x.ownsRow w.heap.size 46 3 u (stayP (l.take i)).length ((stayP (l.take i)).flatMap pinE) ∧ x.ownsRow w.heap.size 3 1 g (goneP (l.take i)).length ((goneP (l.take i)).flatMap (intE .i64)) ∧ Below w.heap.size w x) (l.length - 0) ?_ ?_
  · exact ⟨0, (.slice none 0 0), (.slice none 0 0), h6.sub ⟨rfl, rfl, rfl, rfl, rfl, (slot_eq rfl (congrArg (Value.int .i64) (by first | rfl | omega))), trivial⟩, rfl, by omega, (row_nilL _ _ _ _ _), (row_nilL _ _ _ _ _), hB0⟩
  · rintro k7 a8 w9 ⟨i, u, g, h8, rfl, hi10, hf11, hf12, hB13⟩
    have hz14 := hB13.size
    have hq1 := stayP_len (l.take i); have hq2 := goneP_len (l.take i); have hq3 : (l.take i).length ≤ i := List.length_take_le _ _
    refine co_seq ?_
    refine co_seq ?_
    refine co_reg ?_
    refine pl_val (v := .int .i64 ((i : Nat) : Int)) h8 rfl rfl rfl (by kernel_rfl) (by kernel_rfl) (by kernel_rfl) (fun a15 h15 => ?_); clear h8
    refine pl_val (v := v) h15 rfl rfl rfl (by kernel_rfl) (by kernel_rfl) (by kernel_rfl) (fun a16 h16 => ?_); clear h15
    refine pl_val (v := .int .i64 ((l.length : Nat) : Int)) h16 rfl rfl rfl (by kernel_rfl) (by kernel_rfl) (rn_len rfl rfl Try.underlying77 (hs.below hB13)) (fun a17 h17 => ?_); clear h16
    refine pl_val (v := .bool (decide (((i : Nat) : Int) < ((l.length : Nat) : Int)))) h17 rfl rfl rfl (by kernel_rfl) (by kernel_rfl) (by kernel_rfl) (fun a18 h18 => ?_); clear h17
    refine pl_nil ?_
    refine co_then ?_
    cases hc19 : (decide (((i : Nat) : Int) < ((l.length : Nat) : Int)))
    ·
      rw [hc19] at h18
      have hp20 : ¬ (((i : Nat) : Int) < ((l.length : Nat) : Int)) := of_decide_eq_false hc19
      clear hc19
      refine co_false h18 rfl ?_
      refine wp_exit ?_
      refine co_thenX ?_
      refine co_thenX ?_
      refine co_blockX ?_
      refine co_then ?_
      refine co_seq ?_
      refine co_reg ?_
      refine pl_val (v := u) h18 rfl rfl rfl (by kernel_rfl) (by kernel_rfl) (by kernel_rfl) (fun a21 h21 => ?_); clear h18
      refine pl_val (v := g) h21 rfl rfl rfl (by kernel_rfl) (by kernel_rfl) (by kernel_rfl) (fun a22 h22 => ?_); clear h21
      refine pl_val (v := u) h22 rfl rfl rfl (by kernel_rfl) (by kernel_rfl) (by kernel_rfl) (fun a23 h23 => ?_); clear h22
      refine pl_val (v := g) h23 rfl rfl rfl (by kernel_rfl) (by kernel_rfl) (by kernel_rfl) (fun a24 h24 => ?_); clear h23
      refine pl_nil ?_
      refine co_then ?_
      refine wp_ret ?_
      refine co_ret2 h24 rfl rfl rfl ?_
      exact ⟨_, _, rfl, (row_eq (row_low hf11 (by omega)) (by rw [List.take_of_length_le (by omega)])), (row_eq (row_low hf12 (by omega)) (by rw [List.take_of_length_le (by omega)])), hB13⟩
    ·
      rw [hc19] at h18
      have hp25 : ((i : Nat) : Int) < ((l.length : Nat) : Int) := of_decide_eq_true hc19
      clear hc19
      refine co_true h18 rfl ?_
      refine wp_skip ?_
      refine co_then ?_
      refine co_seq ?_
      refine wp_block ?_
      refine co_seq ?_
      refine co_reg ?_
      refine pl_val (v := v) h18 rfl rfl rfl (by kernel_rfl) (by kernel_rfl) (by kernel_rfl) (fun a26 h26 => ?_); clear h18
      refine pl_val (v := .int .i64 ((i : Nat) : Int)) h26 rfl rfl rfl (by kernel_rfl) (by kernel_rfl) (by kernel_rfl) (fun a27 h27 => ?_); clear h26
      obtain ⟨y28, hy28⟩ : ∃ z, l[i]? = some z := ⟨_, List.getElem?_eq_getElem (by first | omega | (simp; done) | (simp; omega))⟩
      have oky28 := hok _ (List.mem_of_getElem? hy28)
      have k29 : -9223372036854775808 ≤ y28.1 ∧ y28.1 ≤ 9223372036854775807 := (wf_i64 oky28.1)
      have k30 : 0 ≤ y28.2.1 ∧ y28.2.1 < 18446744073709551616 := (wf_u64 oky28.2.1)
      have k31 : -9223372036854775808 ≤ y28.2.2 ∧ y28.2.2 ≤ 9223372036854775807 := (wf_i64 oky28.2.2)
      refine pl_val (v := .pointer (some ⟨(blkOf v), offOf v + i * 3, none⟩)) h27 rfl rfl rfl (by kernel_rfl) (by kernel_rfl) (rn_index rfl rfl rfl Try.underlying77 Try.sizeOf46 (hs.below hB13) (by omega) (by first | omega | (simp; done) | (simp; omega))) (fun a32 h32 => ?_); clear h27
      refine pl_val (v := .agg #[.int .i64 y28.1, .int .u64 y28.2.1, .int .i64 y28.2.2]) h32 rfl rfl rfl (by kernel_rfl) (by kernel_rfl) (rn_loadN rfl rfl Try.underlying46 rfl (by kernel_rfl) (sl_at (hs.below hB13) hy28)) (fun a33 h33 => ?_); clear h32
      refine pl_want h33 rfl rfl rfl (op_new (v := fun N => .pointer (some ⟨N, 0, none⟩)) (T := 46) (cs := #[.int .i64 0, .int .u64 0, .int .i64 0]) (by kernel_rfl) (by kernel_rfl) (by kernel_rfl)) ?_; clear h33
      rintro _ w35 a34 ⟨N36, rfl, hN39, hz40, hk38, hg37⟩ h34
      have ha41 := row_fresh hf11 hN39
      have ha42 := row_fresh hf12 hN39
      have hB43 := hb_new hB13 hg37
      have hz44 := hB43.size
      have hz45 := hg37.size
      have hr46 := row_kept_new hf11 hg37
      have hr47 := row_kept_new hf12 hg37
      try dsimp only at h34
      refine pl_doW h34 rfl rfl (op_storeN rfl rfl rfl (by kernel_rfl) (by kernel_rfl) hk38 rfl) ?_; clear h34
      rintro _ w49 a48 ⟨hk50, hz51, hg52⟩ h48
      have hk50' : Blk w49 N36 46 #[.int .i64 y28.1, .int .u64 y28.2.1, .int .i64 y28.2.2] := hk50; clear hk50
      have hB53 := hb_at hB43 hg52 (by omega)
      have hz54 := hB53.size
      have hz55 := hg52.size
      have hr56 := row_kept_at hr46 hg52 (ha41)
      have hr57 := row_kept_at hr47 hg52 (ha42)
      refine pl_nil ?_
      refine co_then ?_
      refine co_seq ?_
      refine co_seq ?_
      refine co_reg ?_
      refine pl_val (v := .pointer (some ⟨N36, 2, none⟩)) h48 rfl rfl rfl (by kernel_rfl) (by kernel_rfl) (by kernel_rfl) (fun a58 h58 => ?_); clear h48
      refine pl_val (v := .int .i64 y28.2.2) h58 rfl rfl rfl (by kernel_rfl) (by kernel_rfl) (rn_load1 rfl rfl Try.isAgg3 (hk50'.cell rfl)) (fun a59 h59 => ?_); clear h58
      refine pl_val (v := .bool (decide (y28.2.2 ≤ 1))) h59 rfl rfl rfl (by kernel_rfl) (by kernel_rfl) (by kernel_rfl) (fun a60 h60 => ?_); clear h59
      refine pl_nil ?_
      refine co_then ?_
      cases hc61 : (decide (y28.2.2 ≤ 1))
      ·
        rw [hc61] at h60
        have hp62 : ¬ (y28.2.2 ≤ 1) := of_decide_eq_false hc61
        clear hc61
        refine co_false h60 rfl ?_
        refine wp_skip ?_
        refine co_then ?_
        refine co_seq ?_
        refine co_reg ?_
        refine pl_val (v := .pointer (some ⟨N36, 2, none⟩)) h60 rfl rfl rfl (by kernel_rfl) (by kernel_rfl) (by kernel_rfl) (fun a63 h63 => ?_); clear h60
        refine pl_val (v := .int .i64 y28.2.2) h63 rfl rfl rfl (by kernel_rfl) (by kernel_rfl) (rn_load1 rfl rfl Try.isAgg3 (hk50'.cell rfl)) (fun a64 h64 => ?_); clear h63
        refine pl_val (v := .int .i64 (y28.2.2 - 1)) h64 rfl rfl rfl (by kernel_rfl) (by kernel_rfl) (rn_arith rfl rfl rfl rfl rfl rfl (IntWalk.i64_in _ (by omega))) (fun a65 h65 => ?_); clear h64
        refine pl_val (v := .pointer (some ⟨N36, 2, none⟩)) h65 rfl rfl rfl (by kernel_rfl) (by kernel_rfl) (by kernel_rfl) (fun a66 h66 => ?_); clear h65
        refine pl_doW h66 rfl rfl (op_store1 rfl rfl rfl rfl Try.sizeOf3 hk50' rfl) ?_; clear h66
        rintro _ w68 a67 ⟨hk69, hz70, hg71⟩ h67
        have hk69' : Blk w68 N36 46 #[.int .i64 y28.1, .int .u64 y28.2.1, .int .i64 (y28.2.2 - 1)] := hk69; clear hk69
        have hB72 := hb_at hB53 hg71 (by omega)
        have hz73 := hB72.size
        have hz74 := hg71.size
        have hr75 := row_kept_at hr56 hg71 (ha41)
        have hr76 := row_kept_at hr57 hg71 (ha42)
        refine pl_nil ?_
        refine co_then ?_
        refine co_reg ?_
        refine pl_val (v := u) h67 rfl rfl rfl (by kernel_rfl) (by kernel_rfl) (by kernel_rfl) (fun a77 h77 => ?_); clear h67
        refine pl_val (v := .agg #[.int .i64 y28.1, .int .u64 y28.2.1, .int .i64 (y28.2.2 - 1)]) h77 rfl rfl rfl (by kernel_rfl) (by kernel_rfl) (rn_loadN rfl rfl Try.underlying46 rfl (by kernel_rfl) hk69'.all) (fun a78 h78 => ?_); clear h77
        refine pl_want h78 rfl rfl rfl (op_new (v := fun N => .slice (some ⟨N, 0, none⟩) 1 1) (T := 46) (cs := #[.int .i64 y28.1, .int .u64 y28.2.1, .int .i64 (y28.2.2 - 1)]) (by kernel_rfl) (by kernel_rfl) (by kernel_rfl)) ?_; clear h78
        rintro _ w80 a79 ⟨N81, rfl, hN84, hz85, hk83, hg82⟩ h79
        have ha86 := row_fresh hr75 hN84
        have ha87 := row_fresh hr76 hN84
        have hB88 := hb_new hB72 hg82
        have hz89 := hB88.size
        have hz90 := hg82.size
        have hr91 := row_kept_new hr75 hg82
        have hr92 := row_kept_new hr76 hg82
        have hk93 := hk69'.kept hg82 (by simp)
        try dsimp only at h79
        refine pl_want h79 rfl rfl rfl (op_append rfl w.heap.size 46 (z := .agg #[.int .i64 0, .int .u64 0, .int .i64 0]) (size := 3) (bytes := 24) Try.underlying77 (by kernel_rfl) rfl rfl rfl hr91 rfl hk83 rfl (by kernel_rfl) (by first | omega | (simp only [List.length_nil, List.length_append, List.length_cons, List.length_take, List.length_drop]; omega)) (by first | omega | (simp only [List.length_nil, List.length_append, List.length_cons, List.length_take, List.length_drop]; omega)) (by omega)) ?_; clear h79
        rintro v96 w95 a94 ⟨hr97, hg98⟩ h94
        have hr97' : w95.ownsRow w.heap.size 46 3 v96 ((stayP (l.take i) ++ [(y28.1, y28.2.1, y28.2.2 - 1)]).length) ((stayP (l.take i) ++ [(y28.1, y28.2.1, y28.2.2 - 1)]).flatMap pinE) := row_push (y := (y28.1, y28.2.1, y28.2.2 - 1)) hr97 rfl rfl; clear hr97
        have hB99 := hb_row hB88 hr91 (by omega) hg98
        have hz100 := hB99.size
        have hz101 := hg98.size
        have hr102 := row_kept_row hr92 hr91 hg98 (by decide)
        have hk103 := hk93.kept hg98 (ha41)
        have hk104 := hk83.kept hg98 (ha86)
        refine pl_val (v := v96) h94 rfl rfl rfl (by kernel_rfl) (by kernel_rfl) (by kernel_rfl) (fun a105 h105 => ?_); clear h94
        refine pl_nil ?_
        refine co_blockN ?_
        refine co_then ?_
        refine co_reg ?_
        refine pl_val (v := .int .i64 ((i : Nat) : Int)) h105 rfl rfl rfl (by kernel_rfl) (by kernel_rfl) (by kernel_rfl) (fun a106 h106 => ?_); clear h105
        refine pl_val (v := .int .i64 ((i + 1 : Nat) : Int)) h106 rfl rfl rfl (by kernel_rfl) (by kernel_rfl) (rn_arith' rfl rfl rfl rfl rfl rfl (IntWalk.i64_in _ (by omega)) (by omega)) (fun a107 h107 => ?_); clear h106
        refine pl_val (v := .int .i64 ((i + 1 : Nat) : Int)) h107 rfl rfl rfl (by kernel_rfl) (by kernel_rfl) (by kernel_rfl) (fun a108 h108 => ?_); clear h107
        refine pl_nil ?_
        refine co_then ?_
        refine ⟨(l.length - (i + 1)), by omega, ?_⟩
        exact ⟨i + 1, v96, g, h108.sub ⟨rfl, rfl, rfl, rfl, rfl, rfl, trivial⟩, rfl, by omega, (row_eq hr97' (by first | rfl | exact stay_yes (by assumption) (by omega) | exact stay_no (by assumption) (by omega))), (row_eq hr102 (by first | rfl | exact gone_yes (by assumption) (by omega) | exact gone_no (by assumption) (by omega))), hB99⟩
      ·
        rw [hc61] at h60
        have hp109 : y28.2.2 ≤ 1 := of_decide_eq_true hc61
        clear hc61
        refine co_true h60 rfl ?_
        refine co_seq ?_
        refine co_reg ?_
        refine pl_val (v := g) h60 rfl rfl rfl (by kernel_rfl) (by kernel_rfl) (by kernel_rfl) (fun a110 h110 => ?_); clear h60
        refine pl_val (v := .pointer (some ⟨N36, 0, none⟩)) h110 rfl rfl rfl (by kernel_rfl) (by kernel_rfl) (by kernel_rfl) (fun a111 h111 => ?_); clear h110
        refine pl_val (v := .int .i64 y28.1) h111 rfl rfl rfl (by kernel_rfl) (by kernel_rfl) (rn_load1 rfl rfl Try.isAgg3 (hk50'.cell rfl)) (fun a112 h112 => ?_); clear h111
        refine pl_want h112 rfl rfl rfl (op_new (v := fun N => .slice (some ⟨N, 0, none⟩) 1 1) (T := 3) (cs := #[.int .i64 y28.1]) (by kernel_rfl) (by kernel_rfl) (by kernel_rfl)) ?_; clear h112
        rintro _ w114 a113 ⟨N115, rfl, hN118, hz119, hk117, hg116⟩ h113
        have ha120 := row_fresh hr56 hN118
        have ha121 := row_fresh hr57 hN118
        have hB122 := hb_new hB53 hg116
        have hz123 := hB122.size
        have hz124 := hg116.size
        have hr125 := row_kept_new hr56 hg116
        have hr126 := row_kept_new hr57 hg116
        have hk127 := hk50'.kept hg116 (by simp)
        try dsimp only at h113
        refine pl_want h113 rfl rfl rfl (op_append rfl w.heap.size 3 (z := .int .i64 0) (size := 1) (bytes := 8) Try.underlying39 (by kernel_rfl) rfl rfl rfl hr126 rfl hk117 rfl (by kernel_rfl) (by first | omega | (simp only [List.length_nil, List.length_append, List.length_cons, List.length_take, List.length_drop]; omega)) (by first | omega | (simp only [List.length_nil, List.length_append, List.length_cons, List.length_take, List.length_drop]; omega)) (by omega)) ?_; clear h113
        rintro v130 w129 a128 ⟨hr131, hg132⟩ h128
        have hr131' : w129.ownsRow w.heap.size 3 1 v130 ((goneP (l.take i) ++ [y28.1]).length) ((goneP (l.take i) ++ [y28.1]).flatMap (intE .i64)) := row_push (y := y28.1) hr131 rfl rfl; clear hr131
        have hB133 := hb_row hB122 hr126 (by omega) hg132
        have hz134 := hB133.size
        have hz135 := hg132.size
        have hr136 := row_kept_row hr125 hr126 hg132 (by decide)
        have hk137 := hk127.kept hg132 (ha42)
        have hk138 := hk117.kept hg132 (ha121)
        refine pl_val (v := v130) h128 rfl rfl rfl (by kernel_rfl) (by kernel_rfl) (by kernel_rfl) (fun a139 h139 => ?_); clear h128
        refine pl_nil ?_
        refine co_then ?_
        refine wp_exit ?_
        refine co_thenX ?_
        refine co_blockX ?_
        refine co_then ?_
        refine co_reg ?_
        refine pl_val (v := .int .i64 ((i : Nat) : Int)) h139 rfl rfl rfl (by kernel_rfl) (by kernel_rfl) (by kernel_rfl) (fun a140 h140 => ?_); clear h139
        refine pl_val (v := .int .i64 ((i + 1 : Nat) : Int)) h140 rfl rfl rfl (by kernel_rfl) (by kernel_rfl) (rn_arith' rfl rfl rfl rfl rfl rfl (IntWalk.i64_in _ (by omega)) (by omega)) (fun a141 h141 => ?_); clear h140
        refine pl_val (v := .int .i64 ((i + 1 : Nat) : Int)) h141 rfl rfl rfl (by kernel_rfl) (by kernel_rfl) (by kernel_rfl) (fun a142 h142 => ?_); clear h141
        refine pl_nil ?_
        refine co_then ?_
        refine ⟨(l.length - (i + 1)), by omega, ?_⟩
        exact ⟨i + 1, u, v130, h142.sub ⟨rfl, rfl, rfl, rfl, rfl, rfl, trivial⟩, rfl, by omega, (row_eq hr136 (by first | rfl | exact stay_yes (by assumption) (by omega) | exact stay_no (by assumption) (by omega))), (row_eq hr131' (by first | rfl | exact gone_yes (by assumption) (by omega) | exact gone_no (by assumption) (by omega))), hB133⟩
set_option maxRecDepth 100000 in
theorem clonePin_any (v : Value) (l : List PinT) (w : World) (hs : SliceOf pinE 3 w v l) (hlen : l.length ≤ 1000) :
    Calls Try.prog 66 #[v] w fun e w' => ∃ (u : Value), e = .returned (u) ∧ w'.ownsRow w.heap.size 46 3 u l.length (l.flatMap pinE) ∧ Below w.heap.size w w' := by
  have hB0 := Below.refl w.heap.size w
  have hl_hs := sl_len hs
  have hs' := hs; obtain ⟨ao, cap, hv, _, _, h3, _⟩ := hs'; subst hv; rcases ao with _ | ad
  · obtain ⟨hl0, hc0⟩ := h3 rfl; obtain rfl : l = [] := List.eq_nil_of_length_eq_zero hl0; subst hc0
    refine co_enter (n := 8) Try.func66 rfl rfl rfl [(0, .slice none 0 0)] rfl (fun a h0 => ?_)
    refine co_seq ?_
    refine co_reg ?_
    refine pl_val (v := .slice none 0 0) h0 rfl rfl rfl (by kernel_rfl) (by kernel_rfl) (by kernel_rfl) (fun a1 h1 => ?_); clear h0
    refine pl_nil ?_
    refine co_then ?_
    refine co_seq ?_
    refine co_seq ?_
    refine co_reg ?_
    refine pl_val (v := .slice none 0 0) h1 rfl rfl rfl (by kernel_rfl) (by kernel_rfl) (by kernel_rfl) (fun a2 h2 => ?_); clear h1
    refine pl_val (v := .bool true) h2 rfl rfl rfl (by kernel_rfl) (by kernel_rfl) (by kernel_rfl) (fun a3 h3 => ?_); clear h2
    refine pl_nil ?_
    refine co_then ?_
    refine co_true h3 rfl ?_
    refine co_seq ?_
    refine co_reg ?_
    refine pl_val (v := .slice none 0 0) h3 rfl rfl rfl (by kernel_rfl) (by kernel_rfl) (by kernel_rfl) (fun a4 h4 => ?_); clear h3
    refine pl_nil ?_
    refine co_then ?_
    refine wp_ret ?_
    refine co_thenR ?_
    refine co_ret1 h4 rfl rfl ?_
    exact ⟨_, rfl, (row_nilL _ _ _ _ _), hB0⟩
  · skip
    refine co_enter (n := 8) Try.func66 rfl rfl rfl [(0, .slice (some ad) l.length cap)] rfl (fun a h0 => ?_)
    refine co_seq ?_
    refine co_reg ?_
    refine pl_val (v := .slice none 0 0) h0 rfl rfl rfl (by kernel_rfl) (by kernel_rfl) (by kernel_rfl) (fun a5 h5 => ?_); clear h0
    refine pl_nil ?_
    refine co_then ?_
    refine co_seq ?_
    refine co_seq ?_
    refine co_reg ?_
    refine pl_val (v := .slice (some ad) l.length cap) h5 rfl rfl rfl (by kernel_rfl) (by kernel_rfl) (by kernel_rfl) (fun a6 h6 => ?_); clear h5
    refine pl_val (v := .bool false) h6 rfl rfl rfl (by kernel_rfl) (by kernel_rfl) (by kernel_rfl) (fun a7 h7 => ?_); clear h6
    refine pl_nil ?_
    refine co_then ?_
    refine co_false h7 rfl ?_
    refine wp_skip ?_
    refine co_then ?_
    refine co_seq ?_
    refine co_reg ?_
    refine pl_want h7 rfl rfl rfl (op_new (v := fun N => .slice (some ⟨N, 0, none⟩) 0 0) (T := 46) (cs := #[]) (by kernel_rfl) (by kernel_rfl) (by kernel_rfl)) ?_; clear h7
    rintro _ w9 a8 ⟨N10, rfl, hN13, hz14, hk12, hg11⟩ h8
    have hB15 := hb_new hB0 hg11
    have hz16 := hB15.size
    have hz17 := hg11.size
    try dsimp only at h8
    refine pl_val (v := .slice (some ad) l.length cap) h8 rfl rfl rfl (by kernel_rfl) (by kernel_rfl) (by kernel_rfl) (fun a18 h18 => ?_); clear h8
    have hr21 := row_of_blkL hk12 (Nat.le_refl _) 3 pinE
    refine pl_want h18 rfl rfl rfl (op_appendSrc rfl N10 46 (z := .agg #[.int .i64 0, .int .u64 0, .int .i64 0]) (size := 3) (bytes := 24) Try.underlying77 (by kernel_rfl) rfl rfl rfl hr21 rfl (hs.below hB15) (fun y _ => ⟨pinE_len y, pinE_one y⟩) (by first | omega | (simp only [List.length_nil, List.length_append, List.length_cons, List.length_take, List.length_drop]; omega)) (by first | omega | (simp only [List.length_nil, List.length_append, List.length_cons, List.length_take, List.length_drop]; omega)) (by omega)) ?_; clear h18
    rintro v22 w20 a19 ⟨hr23, hg24⟩ h19
    have hr23' : w20.ownsRow N10 46 3 v22 l.length (l.flatMap pinE) := row_app (l := []) hr23; clear hr23
    have hB25 := hb_row hB15 hr21 (by omega) hg24
    have hz26 := hB25.size
    have hz27 := hg24.size
    refine pl_val (v := v22) h19 rfl rfl rfl (by kernel_rfl) (by kernel_rfl) (by kernel_rfl) (fun a28 h28 => ?_); clear h19
    refine pl_nil ?_
    refine co_then ?_
    refine wp_ret ?_
    refine co_ret1 h28 rfl rfl ?_
    exact ⟨_, rfl, (row_low hr23' (by omega)), hB25⟩
set_option maxRecDepth 100000 in
theorem placeC_any (p : PinT) (id : Int) (B : Nat) (w : World) (hr : w.rangeAt B 0 [.int .i64 id]) :
    Calls Try.prog 81 #[.agg #[.int .i64 p.1, .int .u64 p.2.1, .int .i64 p.2.2], .pointer (some ⟨B, 0, none⟩)] w fun e w' => e = .returned (.bool (p.1 == id)) ∧ Below w.heap.size w w' := by
  have hB0 := Below.refl w.heap.size w
  refine co_enter (n := 8) Try.func81 rfl rfl rfl [(0, .agg #[.int .i64 p.1, .int .u64 p.2.1, .int .i64 p.2.2]), (1, .pointer (some ⟨B, 0, none⟩))] rfl (fun a h0 => ?_)
  refine co_seq ?_
  refine co_reg ?_
  refine pl_want h0 rfl rfl rfl (op_new (v := fun N => .pointer (some ⟨N, 0, none⟩)) (T := 46) (cs := #[.int .i64 p.1, .int .u64 p.2.1, .int .i64 p.2.2]) (by kernel_rfl) (by kernel_rfl) (by kernel_rfl)) ?_; clear h0
  rintro _ w2 a1 ⟨N3, rfl, hN6, hz7, hk5, hg4⟩ h1
  have hB8 := hb_new hB0 hg4
  have hz9 := hB8.size
  have hz10 := hg4.size
  try dsimp only at h1
  refine pl_val (v := .bool false) h1 rfl rfl rfl (by kernel_rfl) (by kernel_rfl) (by kernel_rfl) (fun a11 h11 => ?_); clear h1
  refine pl_nil ?_
  refine co_then ?_
  refine co_seq ?_
  refine co_reg ?_
  refine pl_val (v := .pointer (some ⟨N3, 0, none⟩)) h11 rfl rfl rfl (by kernel_rfl) (by kernel_rfl) (by kernel_rfl) (fun a12 h12 => ?_); clear h11
  refine pl_val (v := .int .i64 p.1) h12 rfl rfl rfl (by kernel_rfl) (by kernel_rfl) (rn_load1 rfl rfl Try.isAgg3 (hk5.cell rfl)) (fun a13 h13 => ?_); clear h12
  refine pl_val (v := .int .i64 id) h13 rfl rfl rfl (by kernel_rfl) (by kernel_rfl) (rn_load1 rfl rfl Try.isAgg3 ((range_below hr hB8) 0 _ rfl)) (fun a14 h14 => ?_); clear h13
  refine pl_val (v := .bool (p.1 == id)) h14 rfl rfl rfl (by kernel_rfl) (by kernel_rfl) (by kernel_rfl) (fun a15 h15 => ?_); clear h14
  refine pl_val (v := .bool (p.1 == id)) h15 rfl rfl rfl (by kernel_rfl) (by kernel_rfl) (by kernel_rfl) (fun a16 h16 => ?_); clear h15
  refine pl_nil ?_
  refine co_then ?_
  refine wp_ret ?_
  refine co_ret1 h16 rfl rfl ?_
  exact ⟨rfl, hB8⟩
set_option maxRecDepth 100000 in
theorem indexPin_any (v : Value) (l : List PinT) (p : PinT) (i : Nat) (w : World) (hs : SliceOf pinE 3 w v l) (hi : l[i]? = some p) (hn : ∀ j, j < i → ∀ z, l[j]? = some z → z.1 ≠ p.1) :
    Calls Try.prog 82 #[v, .agg #[.int .i64 p.1, .int .u64 p.2.1, .int .i64 p.2.2]] w fun e w' => e = .returned (.int .i64 ((i : Nat) : Int)) ∧ Below w.heap.size w w' := by
  have hil := (List.getElem?_eq_some_iff.1 hi).1
  have hB0 := Below.refl w.heap.size w
  have hl_hs := sl_len hs
  refine co_enter (n := 19) Try.func82 rfl rfl rfl [(0, v), (1, .agg #[.int .i64 p.1, .int .u64 p.2.1, .int .i64 p.2.2])] rfl (fun a h0 => ?_)
  refine co_seq ?_
  refine co_reg ?_
  refine pl_want h0 rfl rfl rfl (op_new (v := fun N => .pointer (some ⟨N, 0, none⟩)) (T := 46) (cs := #[.int .i64 p.1, .int .u64 p.2.1, .int .i64 p.2.2]) (by kernel_rfl) (by kernel_rfl) (by kernel_rfl)) ?_; clear h0
  rintro _ w2 a1 ⟨N3, rfl, hN6, hz7, hk5, hg4⟩ h1
  have hB8 := hb_new hB0 hg4
  have hz9 := hB8.size
  have hz10 := hg4.size
  try dsimp only at h1
  refine pl_val (v := .int .i64 0) h1 rfl rfl rfl (by kernel_rfl) (by kernel_rfl) (by kernel_rfl) (fun a11 h11 => ?_); clear h1
  refine pl_nil ?_
  refine co_then ?_
  refine co_seq ?_
  refine co_seq ?_
  refine co_reg ?_
  refine pl_val (v := v) h11 rfl rfl rfl (by kernel_rfl) (by kernel_rfl) (by kernel_rfl) (fun a12 h12 => ?_); clear h11
  refine pl_val (v := .int .i64 ((l.length : Nat) : Int)) h12 rfl rfl rfl (by kernel_rfl) (by kernel_rfl) (rn_len rfl rfl Try.underlying77 (hs.below hB8)) (fun a13 h13 => ?_); clear h12
  refine pl_val (v := .int .i64 0) h13 rfl rfl rfl (by kernel_rfl) (by kernel_rfl) (by kernel_rfl) (fun a14 h14 => ?_); clear h13
  refine pl_nil ?_
  refine co_then ?_
  refine wp_block ?_
  have h15 : Slots 19 [(0, v), (3, .pointer (some ⟨N3, 0, none⟩)), (4, .int .i64 0), (6, v), (7, .int .i64 ((l.length : Nat) : Int)), (8, .int .i64 0)] _ := h14.sub ⟨rfl, rfl, rfl, rfl, rfl, rfl, trivial⟩; clear h14
  refine co_loop (fun mm a x => ∃ (k : Nat), Slots 19 [(0, v), (3, .pointer (some ⟨N3, 0, none⟩)), (4, .int .i64 0), (6, v), (7, .int .i64 ((l.length : Nat) : Int)), (8, .int .i64 ((k : Nat) : Int))] a ∧ mm = i + 1 - k ∧ (k ≤ i) ∧ Below w.heap.size w x ∧ Blk x N3 46 #[.int .i64 p.1, .int .u64 p.2.1, .int .i64 p.2.2]) (i + 1 - 0) ?_ ?_
  · exact ⟨0, h15.sub ⟨rfl, rfl, rfl, rfl, rfl, (slot_eq rfl (congrArg (Value.int .i64) (by first | rfl | omega))), trivial⟩, rfl, by first | omega | exact idx_next hi (by assumption) (by assumption) (by omega), hB8, hk5⟩
  · rintro k16 a17 w18 ⟨k, h17, rfl, hi19, hB20, hk21⟩
    have hz22 := hB20.size
    have hl23 := hk21.lt
    refine co_seq ?_
    refine co_reg ?_
    refine pl_val (v := .bool (decide (((k : Nat) : Int) < ((l.length : Nat) : Int)))) h17 rfl rfl rfl (by kernel_rfl) (by kernel_rfl) (by kernel_rfl) (fun a24 h24 => ?_); clear h17
    refine pl_nil ?_
    refine co_then ?_
    refine co_seq ?_
    have hc25 : (decide (((k : Nat) : Int) < ((l.length : Nat) : Int))) = true := decide_eq_true (by omega)
    rw [hc25] at h24; clear hc25
    refine co_true h24 rfl ?_
    refine wp_skip ?_
    refine co_then ?_
    refine co_seq ?_
    refine wp_block ?_
    refine co_seq ?_
    refine co_reg ?_
    refine pl_val (v := .int .i64 ((k : Nat) : Int)) h24 rfl rfl rfl (by kernel_rfl) (by kernel_rfl) (by kernel_rfl) (fun a26 h26 => ?_); clear h24
    refine pl_val (v := .int .i64 ((k : Nat) : Int)) h26 rfl rfl rfl (by kernel_rfl) (by kernel_rfl) (by kernel_rfl) (fun a27 h27 => ?_); clear h26
    refine pl_nil ?_
    refine co_then ?_
    refine co_seq ?_
    refine dr_eq (by kernel_rfl) (fun w28 hg29 => ?_)
    have hB30 := hb_new hB20 hg29
    have hz31 := hB30.size
    have hz32 := hg29.size
    have hk33 := hk21.kept hg29 (by simp)
    refine dr_take (i := 0) (v := .agg #[.int .i64 p.1, .int .u64 p.2.1, .int .i64 p.2.2]) h27 rfl (by kernel_rfl) (by kernel_rfl) (by kernel_rfl) rfl rfl rfl rfl (by kernel_rfl) (fun x hx => by subst hx; exact (rn_loadN rfl rfl Try.underlying46 rfl (by kernel_rfl) hk33.all)) (fun a34 h34 => ?_); clear h27
    refine dr_take (i := 1) (v := v) h34 rfl (by kernel_rfl) (by kernel_rfl) (by kernel_rfl) rfl rfl rfl rfl (by kernel_rfl) (fun _ _ => by kernel_rfl) (fun a35 h35 => ?_); clear h34
    refine dr_take (i := 2) (v := .int .i64 ((k : Nat) : Int)) h35 rfl (by kernel_rfl) (by kernel_rfl) (by kernel_rfl) rfl rfl rfl rfl (by kernel_rfl) (fun _ _ => by kernel_rfl) (fun a36 h36 => ?_); clear h35
    obtain ⟨y37, hy37⟩ : ∃ z, l[k]? = some z := ⟨_, List.getElem?_eq_getElem (by first | omega | (simp; done) | (simp; omega))⟩
    refine dr_take (i := 3) (v := .pointer (some ⟨(blkOf v), offOf v + k * 3, none⟩)) h36 rfl (by kernel_rfl) (by kernel_rfl) (by kernel_rfl) rfl rfl rfl rfl (by kernel_rfl) (fun x hx => by subst hx; exact (rn_index rfl rfl rfl Try.underlying77 Try.sizeOf46 (hs.below hB30) (by omega) (by first | omega | (simp; done) | (simp; omega)))) (fun a38 h38 => ?_); clear h36
    refine dr_take (i := 4) (v := .agg #[.int .i64 y37.1, .int .u64 y37.2.1, .int .i64 y37.2.2]) h38 rfl (by kernel_rfl) (by kernel_rfl) (by kernel_rfl) rfl rfl rfl rfl (by kernel_rfl) (fun x hx => by subst hx; exact (rn_loadN rfl rfl Try.underlying46 rfl (by kernel_rfl) (sl_at (hs.below hB30) hy37))) (fun a39 h39 => ?_); clear h38
    refine dr_take (i := 5) (v := .bool (p.1 == y37.1 && p.2.1 == y37.2.1 && p.2.2 == y37.2.2)) h39 rfl (by kernel_rfl) (by kernel_rfl) (by kernel_rfl) rfl rfl rfl rfl (by kernel_rfl) (fun x hx => by subst hx; exact (rn_eqS rfl rfl rfl Try.eqGuardType46 (eq_pin _ _ _ _ _ _ _))) (fun a40 h40 => ?_); clear h39
    refine dr_done (by kernel_rfl) ?_
    refine co_then ?_
    cases hc41 : (p.1 == y37.1 && p.2.1 == y37.2.1 && p.2.2 == y37.2.2)
    ·
      rw [hc41] at h40
      have hp42 : ¬ (p.1 = y37.1 ∧ p.2.1 = y37.2.1 ∧ p.2.2 = y37.2.2) := by first | simpa using hc41 | simpa [and_assoc] using hc41
      clear hc41
      refine co_false h40 rfl ?_
      refine wp_skip ?_
      refine co_blockN ?_
      refine co_then ?_
      refine co_reg ?_
      refine pl_val (v := .int .i64 ((k + 1 : Nat) : Int)) h40 rfl rfl rfl (by kernel_rfl) (by kernel_rfl) (rn_arith' rfl rfl rfl rfl rfl rfl (IntWalk.i64_in _ (by omega)) (by omega)) (fun a43 h43 => ?_); clear h40
      refine pl_val (v := .int .i64 ((k + 1 : Nat) : Int)) h43 rfl rfl rfl (by kernel_rfl) (by kernel_rfl) (by kernel_rfl) (fun a44 h44 => ?_); clear h43
      refine pl_nil ?_
      refine co_then ?_
      refine ⟨(i + 1 - (k + 1)), by omega, ?_⟩
      exact ⟨k + 1, h44.sub ⟨rfl, rfl, rfl, rfl, rfl, rfl, trivial⟩, rfl, by first | omega | exact idx_next hi (by assumption) (by assumption) (by omega), hB30, hk33⟩
    ·
      rw [hc41] at h40
      have hp45 : p.1 = y37.1 ∧ p.2.1 = y37.2.1 ∧ p.2.2 = y37.2.2 := by first | simpa using hc41 | simpa [and_assoc] using hc41
      clear hc41
      refine co_true h40 rfl ?_
      refine co_seq ?_
      refine co_reg ?_
      refine pl_val (v := .int .i64 ((k : Nat) : Int)) h40 rfl rfl rfl (by kernel_rfl) (by kernel_rfl) (by kernel_rfl) (fun a46 h46 => ?_); clear h40
      refine pl_val (v := .int .i64 ((k : Nat) : Int)) h46 rfl rfl rfl (by kernel_rfl) (by kernel_rfl) (by kernel_rfl) (fun a47 h47 => ?_); clear h46
      refine pl_nil ?_
      refine co_then ?_
      refine wp_ret ?_
      refine co_blockR ?_
      refine co_thenR ?_
      refine co_thenR ?_
      refine co_blockR ?_
      refine co_thenR ?_
      refine co_ret1 h47 rfl rfl ?_
      obtain rfl := idx_eq (k := k) hn (by assumption) (by assumption) (by omega)
      exact ⟨rfl, hB30⟩
end Go.Proofs.Ytfhiciaakgcbnaa
