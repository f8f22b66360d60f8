/- Package lease: Grant, Renew. Conditions: at most 1000 pins. -/
import Derived.Test.YtfhiciaakgcbnaaLeaC
namespace Go.Proofs.Ytfhiciaakgcbnaa
open Go.RowKit Go.PlainAid
set_option linter.unusedVariables false


theorem grant_full {l : List PinT} {id ts : Int} (h : (l.length : Int) ≥ 3) : grantP l id ts = ([], 17) := by unfold grantP; rw [if_pos h]
theorem grant_arg {l : List PinT} {id ts : Int} (h : ¬ (l.length : Int) ≥ 3) (h1 : id < 1 ∨ id > 1073741824) : grantP l id ts = ([], 1) := by unfold grantP; rw [if_neg h, if_pos h1]
theorem grant_ord {l : List PinT} {id ts : Int} {j : Nat} {y : PinT} (h : ¬ (l.length : Int) ≥ 3) (h1 : ¬ (id < 1 ∨ id > 1073741824)) (hy : l[j]? = some y) (hj : j = l.length - 1) (h2 : id ≤ y.1) : grantP l id ts = ([], 18) := by
  subst hj
  have := (List.getElem?_eq_some_iff.1 hy).1
  unfold grantP; rw [if_neg h, if_neg h1, if_pos ⟨by omega, by rw [getD_of hy]; exact h2⟩]
theorem grant_ok {l : List PinT} {id ts : Int} {j : Nat} {y : PinT} (h : ¬ (l.length : Int) ≥ 3) (h1 : ¬ (id < 1 ∨ id > 1073741824)) (hy : l[j]? = some y) (hj : j = l.length - 1) (h2 : ¬ id ≤ y.1) : grantP l id ts = (l ++ [(id, ts, 8)], 0) := by
  subst hj
  unfold grantP; rw [if_neg h, if_neg h1, if_neg (fun q => h2 (by rw [← getD_of hy]; exact q.2))]
theorem grant_ok0 {l : List PinT} {id ts : Int} (h : ¬ (l.length : Int) ≥ 3) (h1 : ¬ (id < 1 ∨ id > 1073741824)) (h0 : l.length = 0) : grantP l id ts = (l ++ [(id, ts, 8)], 0) := by
  unfold grantP; rw [if_neg h, if_neg h1, if_neg (by omega)]
theorem renew_no {l : List PinT} {id : Int} (h : findP l id < 0) : renewP l id = ([], 7) := by unfold renewP; rw [if_pos h]
theorem renew_ok {l : List PinT} {id : Int} {j : Nat} {y : PinT} (h : ¬ findP l id < 0) (hj : j = (findP l id).toNat) (hy : l[j]? = some y) : renewP l id = (l.set j (y.1, y.2.1, 8), 0) := by
  subst hj; unfold renewP; rw [if_neg h, getD_of hy]
theorem free_no {l : List PinT} {id : Int} (h : findP l id < 0) : freeP l id = ([], 7) := by unfold freeP; rw [if_pos h]
theorem free_ok {l : List PinT} {id : Int} {j : Nat} (h : ¬ findP l id < 0) (hj : j = (findP l id).toNat) : freeP l id = (l.take j ++ l.drop (j + 1), 0) := by subst hj; unfold freeP; rw [if_neg h]
theorem grant_len {l l2 : List PinT} {id ts r : Int} (h : grantP l id ts = (l2, r)) : l2.length ≤ l.length + 1 := by
  unfold grantP at h
  split at h
  · cases h; simp
  · split at h
    · cases h; simp
    · split at h <;> (cases h; simp)
theorem renew_len {l l2 : List PinT} {id r : Int} (h : renewP l id = (l2, r)) : l2.length ≤ l.length := by
  unfold renewP at h; split at h <;> (cases h; simp)
theorem free_len {l l2 : List PinT} {id r : Int} (h : freeP l id = (l2, r)) : l2.length ≤ l.length := by
  unfold freeP at h; split at h <;> (cases h; simp) ; omega

theorem grant_bd (l : List PinT) (id ts : Int) : 0 ≤ (grantP l id ts).2 ∧ (grantP l id ts).2 ≤ 18 := by
  unfold grantP; split
  · exact ⟨by first | decide | simp, by first | decide | simp⟩
  · split
    · exact ⟨by first | decide | simp, by first | decide | simp⟩
    · split <;> exact ⟨by first | decide | simp, by first | decide | simp⟩
theorem renew_bd (l : List PinT) (id : Int) : 0 ≤ (renewP l id).2 ∧ (renewP l id).2 ≤ 18 := by unfold renewP; split <;> exact ⟨by first | decide | simp, by first | decide | simp⟩
theorem free_bd (l : List PinT) (id : Int) : 0 ≤ (freeP l id).2 ∧ (freeP l id).2 ≤ 18 := by unfold freeP; split <;> exact ⟨by first | decide | simp, by first | decide | simp⟩

set_option maxRecDepth 100000 in
theorem leaseGrant_any (v : Value) (l : List PinT) (id : Int) (ts : Int) (l2 : List PinT) (r : Int) (w : World) (hs : SliceOf pinE 3 w v l) (hlen : l.length ≤ 1000) (hg : grantP l id ts = (l2, r)) :
    Calls Try.prog 36 #[v, .int .i64 id, .int .u64 ts] w fun e w' => ∃ (u : Value), e = .returned (.tuple #[u, .int .i64 r]) ∧ w'.ownsRow w.heap.size 46 3 u l2.length (l2.flatMap pinE) ∧ Below w.heap.size w w' := by
  have hB0 := Below.refl w.heap.size w
  have hl_hs := sl_len hs
  refine co_enter (n := 38) Try.func36 rfl rfl rfl [(0, v), (1, .int .i64 id), (2, .int .u64 ts)] rfl (fun a h0 => ?_)
  refine co_seq ?_
  refine co_reg ?_
  refine pl_val (v := .slice none 0 0) h0 rfl rfl rfl (by kernel_rfl) (by kernel_rfl) (by kernel_rfl) (fun a1 h1 => ?_); clear h0
  refine pl_val (v := .int .i64 0) h1 rfl rfl rfl (by kernel_rfl) (by kernel_rfl) (by kernel_rfl) (fun a2 h2 => ?_); clear h1
  refine pl_nil ?_
  refine co_then ?_
  refine co_seq ?_
  refine co_seq ?_
  refine co_reg ?_
  refine pl_val (v := v) h2 rfl rfl rfl (by kernel_rfl) (by kernel_rfl) (by kernel_rfl) (fun a3 h3 => ?_); clear h2
  refine pl_val (v := .int .i64 ((l.length : Nat) : Int)) h3 rfl rfl rfl (by kernel_rfl) (by kernel_rfl) (rn_len rfl rfl Try.underlying77 hs) (fun a4 h4 => ?_); clear h3
  refine pl_val (v := .bool (decide (((l.length : Nat) : Int) ≥ 3))) h4 rfl rfl rfl (by kernel_rfl) (by kernel_rfl) (by kernel_rfl) (fun a5 h5 => ?_); clear h4
  refine pl_nil ?_
  refine co_then ?_
  cases hc6 : (decide (((l.length : Nat) : Int) ≥ 3))
  ·
    rw [hc6] at h5
    have hp7 : ¬ (((l.length : Nat) : Int) ≥ 3) := of_decide_eq_false hc6
    clear hc6
    refine co_false h5 rfl ?_
    refine wp_skip ?_
    refine co_then ?_
    refine co_seq ?_
    refine co_seq ?_
    refine co_reg ?_
    refine pl_val (v := .int .i64 id) h5 rfl rfl rfl (by kernel_rfl) (by kernel_rfl) (by kernel_rfl) (fun a8 h8 => ?_); clear h5
    refine pl_val (v := .bool (decide (id < 1))) h8 rfl rfl rfl (by kernel_rfl) (by kernel_rfl) (by kernel_rfl) (fun a9 h9 => ?_); clear h8
    refine pl_val (v := .bool (decide (id < 1))) h9 rfl rfl rfl (by kernel_rfl) (by kernel_rfl) (by kernel_rfl) (fun a10 h10 => ?_); clear h9
    cases hc11 : (decide (id < 1))
    ·
      rw [hc11] at h10
      have hp12 : ¬ (id < 1) := of_decide_eq_false hc11
      clear hc11
      refine pl_val (v := .int .i64 id) h10 rfl rfl rfl (by kernel_rfl) (by kernel_rfl) (by kernel_rfl) (fun a13 h13 => ?_); clear h10
      refine pl_val (v := .bool (decide (id > 1073741824))) h13 rfl rfl rfl (by kernel_rfl) (by kernel_rfl) (by kernel_rfl) (fun a14 h14 => ?_); clear h13
      refine pl_val (v := .bool (decide (id > 1073741824))) h14 rfl rfl rfl (by kernel_rfl) (by kernel_rfl) (by kernel_rfl) (fun a15 h15 => ?_); clear h14
      refine pl_nil ?_
      refine co_then ?_
      cases hc16 : (decide (id > 1073741824))
      ·
        rw [hc16] at h15
        have hp17 : ¬ (id > 1073741824) := of_decide_eq_false hc16
        clear hc16
        refine co_false h15 rfl ?_
        refine wp_skip ?_
        refine co_then ?_
        refine co_seq ?_
        refine co_seq ?_
        refine co_reg ?_
        refine pl_val (v := v) h15 rfl rfl rfl (by kernel_rfl) (by kernel_rfl) (by kernel_rfl) (fun a18 h18 => ?_); clear h15
        refine pl_val (v := .int .i64 ((l.length : Nat) : Int)) h18 rfl rfl rfl (by kernel_rfl) (by kernel_rfl) (rn_len rfl rfl Try.underlying77 hs) (fun a19 h19 => ?_); clear h18
        refine pl_val (v := .bool (decide (((l.length : Nat) : Int) > 0))) h19 rfl rfl rfl (by kernel_rfl) (by kernel_rfl) (by kernel_rfl) (fun a20 h20 => ?_); clear h19
        refine pl_val (v := .bool (decide (((l.length : Nat) : Int) > 0))) h20 rfl rfl rfl (by kernel_rfl) (by kernel_rfl) (by kernel_rfl) (fun a21 h21 => ?_); clear h20
        cases hc22 : (decide (((l.length : Nat) : Int) > 0))
        ·
          rw [hc22] at h21
          have hp23 : ¬ (((l.length : Nat) : Int) > 0) := of_decide_eq_false hc22
          clear hc22
          refine pl_skip h21 rfl rfl rfl (fun a24 h24 => ?_); clear h21
          refine pl_skip h24 rfl rfl rfl (fun a25 h25 => ?_); clear h24
          refine pl_skip h25 rfl rfl rfl (fun a26 h26 => ?_); clear h25
          refine pl_skip h26 rfl rfl rfl (fun a27 h27 => ?_); clear h26
          refine pl_skip h27 rfl rfl rfl (fun a28 h28 => ?_); clear h27
          refine pl_skip h28 rfl rfl rfl (fun a29 h29 => ?_); clear h28
          refine pl_skip h29 rfl rfl rfl (fun a30 h30 => ?_); clear h29
          refine pl_skip h30 rfl rfl rfl (fun a31 h31 => ?_); clear h30
          refine pl_skip h31 rfl rfl rfl (fun a32 h32 => ?_); clear h31
          refine pl_val (v := .bool false) h32 rfl rfl rfl (by kernel_rfl) (by kernel_rfl) (by kernel_rfl) (fun a33 h33 => ?_); clear h32
          refine pl_nil ?_
          refine co_then ?_
          refine co_false h33 rfl ?_
          refine wp_skip ?_
          refine co_then ?_
          refine co_seq ?_
          refine co_reg ?_
          refine pl_val (v := v) h33 rfl rfl rfl (by kernel_rfl) (by kernel_rfl) (by kernel_rfl) (fun a34 h34 => ?_); clear h33
          refine pl_want h34 rfl rfl rfl (op_call (args := #[v]) (R := fun res xw => ∃ u : Value, res = u ∧ xw.ownsRow w.heap.size 46 3 u l.length (l.flatMap pinE) ∧ Below w.heap.size w xw) rfl rfl rfl (by kernel_rfl) (by kernel_rfl) (Try.call66 _ _) (clonePin_any v l w hs (by first | omega | (simp; done) | (simp; omega))) (by rintro e x ⟨u, rfl, hq38, hb39⟩; exact ⟨_, rfl, ⟨u, rfl, hq38, hb39⟩⟩)) ?_; clear h34
          rintro u37 w36 a35 ⟨_, rfl, hq38, hb39⟩ h35
          have hB40 := hb_call hB0 hb39
          have hz41 := hB40.size
          have hz42 := hb39.size
          refine pl_val (v := .int .i64 id) h35 rfl rfl rfl (by kernel_rfl) (by kernel_rfl) (by kernel_rfl) (fun a43 h43 => ?_); clear h35
          refine pl_val (v := .int .u64 ts) h43 rfl rfl rfl (by kernel_rfl) (by kernel_rfl) (by kernel_rfl) (fun a44 h44 => ?_); clear h43
          refine pl_val (v := .agg #[.int .i64 id, .int .u64 ts, .int .i64 8]) h44 rfl rfl rfl (by kernel_rfl) (by kernel_rfl) (by kernel_rfl) (fun a45 h45 => ?_); clear h44
          refine pl_want h45 rfl rfl rfl (op_new (v := fun N => .slice (some ⟨N, 0, none⟩) 1 1) (T := 46) (cs := #[.int .i64 id, .int .u64 ts, .int .i64 8]) (by kernel_rfl) (by kernel_rfl) (by kernel_rfl)) ?_; clear h45
          rintro _ w47 a46 ⟨N48, rfl, hN51, hz52, hk50, hg49⟩ h46
          have ha53 := row_fresh hq38 hN51
          have hB54 := hb_new hB40 hg49
          have hz55 := hB54.size
          have hz56 := hg49.size
          have hr57 := row_kept_new hq38 hg49
          try dsimp only at h46
          refine pl_want h46 rfl rfl rfl (op_append rfl w.heap.size 46 (z := .agg #[.int .i64 0, .int .u64 0, .int .i64 0]) (size := 3) (bytes := 24) Try.underlying77 (by kernel_rfl) rfl rfl rfl hr57 rfl hk50 rfl (by kernel_rfl) (by first | omega | (simp only [List.length_nil, List.length_append, List.length_cons, List.length_take, List.length_drop]; omega)) (by first | omega | (simp only [List.length_nil, List.length_append, List.length_cons, List.length_take, List.length_drop]; omega)) (by omega)) ?_; clear h46
          rintro v60 w59 a58 ⟨hr61, hg62⟩ h58
          have hr61' : w59.ownsRow w.heap.size 46 3 v60 ((l ++ [(id, ts, 8)]).length) ((l ++ [(id, ts, 8)]).flatMap pinE) := row_push (y := (id, ts, 8)) hr61 rfl rfl; clear hr61
          have hB63 := hb_row hB54 hr57 (by omega) hg62
          have hz64 := hB63.size
          have hz65 := hg62.size
          have hk66 := hk50.kept hg62 (ha53)
          refine pl_val (v := v60) h58 rfl rfl rfl (by kernel_rfl) (by kernel_rfl) (by kernel_rfl) (fun a67 h67 => ?_); clear h58
          refine pl_val (v := .int .i64 0) h67 rfl rfl rfl (by kernel_rfl) (by kernel_rfl) (by kernel_rfl) (fun a68 h68 => ?_); clear h67
          refine pl_nil ?_
          refine co_then ?_
          refine wp_ret ?_
          refine co_ret2 h68 rfl rfl rfl ?_
          cases hg.symm.trans (grant_ok0 (by omega) (by omega) (by omega))
          exact ⟨_, rfl, (row_low hr61' (by omega)), hB63⟩
        ·
          rw [hc22] at h21
          have hp69 : ((l.length : Nat) : Int) > 0 := of_decide_eq_true hc22
          clear hc22
          refine pl_val (v := v) h21 rfl rfl rfl (by kernel_rfl) (by kernel_rfl) (by kernel_rfl) (fun a70 h70 => ?_); clear h21
          refine pl_val (v := v) h70 rfl rfl rfl (by kernel_rfl) (by kernel_rfl) (by kernel_rfl) (fun a71 h71 => ?_); clear h70
          refine pl_val (v := .int .i64 ((l.length : Nat) : Int)) h71 rfl rfl rfl (by kernel_rfl) (by kernel_rfl) (rn_len rfl rfl Try.underlying77 hs) (fun a72 h72 => ?_); clear h71
          refine pl_val (v := .int .i64 (((l.length : Nat) : Int) - 1)) h72 rfl rfl rfl (by kernel_rfl) (by kernel_rfl) (rn_arith rfl rfl rfl rfl rfl rfl (IntWalk.i64_in _ (by omega))) (fun a73 h73 => ?_); clear h72
          obtain ⟨y74, hy74⟩ : ∃ z, l[(((l.length : Nat) : Int) - 1).toNat]? = some z := ⟨_, List.getElem?_eq_getElem (by first | omega | (simp; done) | (simp; omega))⟩
          refine pl_val (v := .pointer (some ⟨(blkOf v), offOf v + ((((l.length : Nat) : Int) - 1).toNat) * 3, none⟩)) h73 rfl rfl rfl (by kernel_rfl) (by kernel_rfl) (rn_index rfl rfl rfl Try.underlying77 Try.sizeOf46 hs (by omega) (by first | omega | (simp; done) | (simp; omega))) (fun a75 h75 => ?_); clear h73
          refine pl_val (v := .pointer (some ⟨(blkOf v), offOf v + ((((l.length : Nat) : Int) - 1).toNat) * 3, none⟩)) h75 rfl rfl rfl (by kernel_rfl) (by kernel_rfl) (by kernel_rfl) (fun a76 h76 => ?_); clear h75
          refine pl_val (v := .int .i64 y74.1) h76 rfl rfl rfl (by kernel_rfl) (by kernel_rfl) (rn_load1 rfl rfl Try.isAgg3 ((sl_at hs hy74) 0 _ rfl)) (fun a77 h77 => ?_); clear h76
          refine pl_val (v := .int .i64 id) h77 rfl rfl rfl (by kernel_rfl) (by kernel_rfl) (by kernel_rfl) (fun a78 h78 => ?_); clear h77
          refine pl_val (v := .bool (decide (y74.1 ≥ id))) h78 rfl rfl rfl (by kernel_rfl) (by kernel_rfl) (by kernel_rfl) (fun a79 h79 => ?_); clear h78
          refine pl_val (v := .bool (decide (y74.1 ≥ id))) h79 rfl rfl rfl (by kernel_rfl) (by kernel_rfl) (by kernel_rfl) (fun a80 h80 => ?_); clear h79
          refine pl_nil ?_
          refine co_then ?_
          cases hc81 : (decide (y74.1 ≥ id))
          ·
            rw [hc81] at h80
            have hp82 : ¬ (y74.1 ≥ id) := of_decide_eq_false hc81
            clear hc81
            refine co_false h80 rfl ?_
            refine wp_skip ?_
            refine co_then ?_
            refine co_seq ?_
            refine co_reg ?_
            refine pl_val (v := v) h80 rfl rfl rfl (by kernel_rfl) (by kernel_rfl) (by kernel_rfl) (fun a83 h83 => ?_); clear h80
            refine pl_want h83 rfl rfl rfl (op_call (args := #[v]) (R := fun res xw => ∃ u : Value, res = u ∧ xw.ownsRow w.heap.size 46 3 u l.length (l.flatMap pinE) ∧ Below w.heap.size w xw) rfl rfl rfl (by kernel_rfl) (by kernel_rfl) (Try.call66 _ _) (clonePin_any v l w hs (by first | omega | (simp; done) | (simp; omega))) (by rintro e x ⟨u, rfl, hq87, hb88⟩; exact ⟨_, rfl, ⟨u, rfl, hq87, hb88⟩⟩)) ?_; clear h83
            rintro u86 w85 a84 ⟨_, rfl, hq87, hb88⟩ h84
            have hB89 := hb_call hB0 hb88
            have hz90 := hB89.size
            have hz91 := hb88.size
            refine pl_val (v := .int .i64 id) h84 rfl rfl rfl (by kernel_rfl) (by kernel_rfl) (by kernel_rfl) (fun a92 h92 => ?_); clear h84
            refine pl_val (v := .int .u64 ts) h92 rfl rfl rfl (by kernel_rfl) (by kernel_rfl) (by kernel_rfl) (fun a93 h93 => ?_); clear h92
            refine pl_val (v := .agg #[.int .i64 id, .int .u64 ts, .int .i64 8]) h93 rfl rfl rfl (by kernel_rfl) (by kernel_rfl) (by kernel_rfl) (fun a94 h94 => ?_); clear h93
            refine pl_want h94 rfl rfl rfl (op_new (v := fun N => .slice (some ⟨N, 0, none⟩) 1 1) (T := 46) (cs := #[.int .i64 id, .int .u64 ts, .int .i64 8]) (by kernel_rfl) (by kernel_rfl) (by kernel_rfl)) ?_; clear h94
            rintro _ w96 a95 ⟨N97, rfl, hN100, hz101, hk99, hg98⟩ h95
            have ha102 := row_fresh hq87 hN100
            have hB103 := hb_new hB89 hg98
            have hz104 := hB103.size
            have hz105 := hg98.size
            have hr106 := row_kept_new hq87 hg98
            try dsimp only at h95
            refine pl_want h95 rfl rfl rfl (op_append rfl w.heap.size 46 (z := .agg #[.int .i64 0, .int .u64 0, .int .i64 0]) (size := 3) (bytes := 24) Try.underlying77 (by kernel_rfl) rfl rfl rfl hr106 rfl hk99 rfl (by kernel_rfl) (by first | omega | (simp only [List.length_nil, List.length_append, List.length_cons, List.length_take, List.length_drop]; omega)) (by first | omega | (simp only [List.length_nil, List.length_append, List.length_cons, List.length_take, List.length_drop]; omega)) (by omega)) ?_; clear h95
            rintro v109 w108 a107 ⟨hr110, hg111⟩ h107
            have hr110' : w108.ownsRow w.heap.size 46 3 v109 ((l ++ [(id, ts, 8)]).length) ((l ++ [(id, ts, 8)]).flatMap pinE) := row_push (y := (id, ts, 8)) hr110 rfl rfl; clear hr110
            have hB112 := hb_row hB103 hr106 (by omega) hg111
            have hz113 := hB112.size
            have hz114 := hg111.size
            have hk115 := hk99.kept hg111 (ha102)
            refine pl_val (v := v109) h107 rfl rfl rfl (by kernel_rfl) (by kernel_rfl) (by kernel_rfl) (fun a116 h116 => ?_); clear h107
            refine pl_val (v := .int .i64 0) h116 rfl rfl rfl (by kernel_rfl) (by kernel_rfl) (by kernel_rfl) (fun a117 h117 => ?_); clear h116
            refine pl_nil ?_
            refine co_then ?_
            refine wp_ret ?_
            refine co_ret2 h117 rfl rfl rfl ?_
            cases hg.symm.trans (grant_ok (by omega) (by omega) hy74 (by omega) (by omega))
            exact ⟨_, rfl, (row_low hr110' (by omega)), hB112⟩
          ·
            rw [hc81] at h80
            have hp118 : y74.1 ≥ id := of_decide_eq_true hc81
            clear hc81
            refine co_true h80 rfl ?_
            refine co_seq ?_
            refine co_reg ?_
            refine pl_val (v := .slice none 0 0) h80 rfl rfl rfl (by kernel_rfl) (by kernel_rfl) (by kernel_rfl) (fun a119 h119 => ?_); clear h80
            refine pl_val (v := .int .i64 18) h119 rfl rfl rfl (by kernel_rfl) (by kernel_rfl) (by kernel_rfl) (fun a120 h120 => ?_); clear h119
            refine pl_nil ?_
            refine co_then ?_
            refine wp_ret ?_
            refine co_thenR ?_
            refine co_ret2 h120 rfl rfl rfl ?_
            cases hg.symm.trans (grant_ord (by omega) (by omega) hy74 (by omega) (by omega))
            exact ⟨_, rfl, (row_nilL _ _ _ _ _), hB0⟩
      ·
        rw [hc16] at h15
        have hp121 : id > 1073741824 := of_decide_eq_true hc16
        clear hc16
        refine co_true h15 rfl ?_
        refine co_seq ?_
        refine co_reg ?_
        refine pl_val (v := .slice none 0 0) h15 rfl rfl rfl (by kernel_rfl) (by kernel_rfl) (by kernel_rfl) (fun a122 h122 => ?_); clear h15
        refine pl_val (v := .int .i64 1) h122 rfl rfl rfl (by kernel_rfl) (by kernel_rfl) (by kernel_rfl) (fun a123 h123 => ?_); clear h122
        refine pl_nil ?_
        refine co_then ?_
        refine wp_ret ?_
        refine co_thenR ?_
        refine co_ret2 h123 rfl rfl rfl ?_
        cases hg.symm.trans (grant_arg (by omega) (by omega))
        exact ⟨_, rfl, (row_nilL _ _ _ _ _), hB0⟩
    ·
      rw [hc11] at h10
      have hp124 : id < 1 := of_decide_eq_true hc11
      clear hc11
      refine pl_skip h10 rfl rfl rfl (fun a125 h125 => ?_); clear h10
      refine pl_skip h125 rfl rfl rfl (fun a126 h126 => ?_); clear h125
      refine pl_val (v := .bool true) h126 rfl rfl rfl (by kernel_rfl) (by kernel_rfl) (by kernel_rfl) (fun a127 h127 => ?_); clear h126
      refine pl_nil ?_
      refine co_then ?_
      refine co_true h127 rfl ?_
      refine co_seq ?_
      refine co_reg ?_
      refine pl_val (v := .slice none 0 0) h127 rfl rfl rfl (by kernel_rfl) (by kernel_rfl) (by kernel_rfl) (fun a128 h128 => ?_); clear h127
      refine pl_val (v := .int .i64 1) h128 rfl rfl rfl (by kernel_rfl) (by kernel_rfl) (by kernel_rfl) (fun a129 h129 => ?_); clear h128
      refine pl_nil ?_
      refine co_then ?_
      refine wp_ret ?_
      refine co_thenR ?_
      refine co_ret2 h129 rfl rfl rfl ?_
      cases hg.symm.trans (grant_arg (by omega) (by omega))
      exact ⟨_, rfl, (row_nilL _ _ _ _ _), hB0⟩
  ·
    rw [hc6] at h5
    have hp130 : ((l.length : Nat) : Int) ≥ 3 := of_decide_eq_true hc6
    clear hc6
    refine co_true h5 rfl ?_
    refine co_seq ?_
    refine co_reg ?_
    refine pl_val (v := .slice none 0 0) h5 rfl rfl rfl (by kernel_rfl) (by kernel_rfl) (by kernel_rfl) (fun a131 h131 => ?_); clear h5
    refine pl_val (v := .int .i64 17) h131 rfl rfl rfl (by kernel_rfl) (by kernel_rfl) (by kernel_rfl) (fun a132 h132 => ?_); clear h131
    refine pl_nil ?_
    refine co_then ?_
    refine wp_ret ?_
    refine co_thenR ?_
    refine co_ret2 h132 rfl rfl rfl ?_
    cases hg.symm.trans (grant_full (by omega))
    exact ⟨_, rfl, (row_nilL _ _ _ _ _), hB0⟩
set_option maxRecDepth 100000 in
theorem rleaseGrant_any (v : Value) (l : List PinT) (id : Int) (ts : Int) (l2 : List PinT) (r : Int) (w : World) (hs : SliceOf pinE 3 w v l) (hlen : l.length ≤ 1000) (hg : grantP l id ts = (l2, r)) :
    Calls Try.prog 37 #[v, .int .i64 id, .int .u64 ts] w fun e w' => ∃ (u : Value), e = .returned (.tuple #[u, .int .i64 r]) ∧ w'.ownsRow w.heap.size 46 3 u l2.length (l2.flatMap pinE) ∧ Below w.heap.size w w' := by
  have hB0 := Below.refl w.heap.size w
  have hl_hs := sl_len hs
  refine co_enter (n := 39) Try.func37 rfl rfl rfl [(0, v), (1, .int .i64 id), (2, .int .u64 ts)] rfl (fun a h0 => ?_)
  refine co_seq ?_
  refine co_reg ?_
  refine pl_val (v := .slice none 0 0) h0 rfl rfl rfl (by kernel_rfl) (by kernel_rfl) (by kernel_rfl) (fun a1 h1 => ?_); clear h0
  refine pl_val (v := .int .i64 0) h1 rfl rfl rfl (by kernel_rfl) (by kernel_rfl) (by kernel_rfl) (fun a2 h2 => ?_); clear h1
  refine pl_nil ?_
  refine co_then ?_
  refine co_seq ?_
  refine co_seq ?_
  refine co_reg ?_
  refine pl_val (v := v) h2 rfl rfl rfl (by kernel_rfl) (by kernel_rfl) (by kernel_rfl) (fun a3 h3 => ?_); clear h2
  refine pl_val (v := .int .i64 ((l.length : Nat) : Int)) h3 rfl rfl rfl (by kernel_rfl) (by kernel_rfl) (rn_len rfl rfl Try.underlying77 hs) (fun a4 h4 => ?_); clear h3
  refine pl_val (v := .bool (decide (((l.length : Nat) : Int) ≥ 3))) h4 rfl rfl rfl (by kernel_rfl) (by kernel_rfl) (by kernel_rfl) (fun a5 h5 => ?_); clear h4
  refine pl_nil ?_
  refine co_then ?_
  cases hc6 : (decide (((l.length : Nat) : Int) ≥ 3))
  ·
    rw [hc6] at h5
    have hp7 : ¬ (((l.length : Nat) : Int) ≥ 3) := of_decide_eq_false hc6
    clear hc6
    refine co_false h5 rfl ?_
    refine wp_skip ?_
    refine co_then ?_
    refine co_seq ?_
    refine co_seq ?_
    refine co_reg ?_
    refine pl_val (v := .int .i64 id) h5 rfl rfl rfl (by kernel_rfl) (by kernel_rfl) (by kernel_rfl) (fun a8 h8 => ?_); clear h5
    refine pl_val (v := .bool (decide (id < 1))) h8 rfl rfl rfl (by kernel_rfl) (by kernel_rfl) (by kernel_rfl) (fun a9 h9 => ?_); clear h8
    refine pl_val (v := .bool (decide (id < 1))) h9 rfl rfl rfl (by kernel_rfl) (by kernel_rfl) (by kernel_rfl) (fun a10 h10 => ?_); clear h9
    cases hc11 : (decide (id < 1))
    ·
      rw [hc11] at h10
      have hp12 : ¬ (id < 1) := of_decide_eq_false hc11
      clear hc11
      refine pl_val (v := .int .i64 id) h10 rfl rfl rfl (by kernel_rfl) (by kernel_rfl) (by kernel_rfl) (fun a13 h13 => ?_); clear h10
      refine pl_val (v := .bool (decide (id > 1073741824))) h13 rfl rfl rfl (by kernel_rfl) (by kernel_rfl) (by kernel_rfl) (fun a14 h14 => ?_); clear h13
      refine pl_val (v := .bool (decide (id > 1073741824))) h14 rfl rfl rfl (by kernel_rfl) (by kernel_rfl) (by kernel_rfl) (fun a15 h15 => ?_); clear h14
      refine pl_nil ?_
      refine co_then ?_
      cases hc16 : (decide (id > 1073741824))
      ·
        rw [hc16] at h15
        have hp17 : ¬ (id > 1073741824) := of_decide_eq_false hc16
        clear hc16
        refine co_false h15 rfl ?_
        refine wp_skip ?_
        refine co_then ?_
        refine co_seq ?_
        refine co_seq ?_
        refine co_reg ?_
        refine pl_val (v := v) h15 rfl rfl rfl (by kernel_rfl) (by kernel_rfl) (by kernel_rfl) (fun a18 h18 => ?_); clear h15
        refine pl_val (v := .int .i64 ((l.length : Nat) : Int)) h18 rfl rfl rfl (by kernel_rfl) (by kernel_rfl) (rn_len rfl rfl Try.underlying77 hs) (fun a19 h19 => ?_); clear h18
        refine pl_val (v := .bool (decide (((l.length : Nat) : Int) > 0))) h19 rfl rfl rfl (by kernel_rfl) (by kernel_rfl) (by kernel_rfl) (fun a20 h20 => ?_); clear h19
        refine pl_val (v := .bool (decide (((l.length : Nat) : Int) > 0))) h20 rfl rfl rfl (by kernel_rfl) (by kernel_rfl) (by kernel_rfl) (fun a21 h21 => ?_); clear h20
        cases hc22 : (decide (((l.length : Nat) : Int) > 0))
        ·
          rw [hc22] at h21
          have hp23 : ¬ (((l.length : Nat) : Int) > 0) := of_decide_eq_false hc22
          clear hc22
          refine pl_skip h21 rfl rfl rfl (fun a24 h24 => ?_); clear h21
          refine pl_skip h24 rfl rfl rfl (fun a25 h25 => ?_); clear h24
          refine pl_skip h25 rfl rfl rfl (fun a26 h26 => ?_); clear h25
          refine pl_skip h26 rfl rfl rfl (fun a27 h27 => ?_); clear h26
          refine pl_skip h27 rfl rfl rfl (fun a28 h28 => ?_); clear h27
          refine pl_skip h28 rfl rfl rfl (fun a29 h29 => ?_); clear h28
          refine pl_skip h29 rfl rfl rfl (fun a30 h30 => ?_); clear h29
          refine pl_skip h30 rfl rfl rfl (fun a31 h31 => ?_); clear h30
          refine pl_skip h31 rfl rfl rfl (fun a32 h32 => ?_); clear h31
          refine pl_val (v := .bool false) h32 rfl rfl rfl (by kernel_rfl) (by kernel_rfl) (by kernel_rfl) (fun a33 h33 => ?_); clear h32
          refine pl_nil ?_
          refine co_then ?_
          refine co_false h33 rfl ?_
          refine wp_skip ?_
          refine co_then ?_
          refine co_seq ?_
          refine co_reg ?_
          refine pl_want h33 rfl rfl rfl (op_new (v := fun N => .slice (some ⟨N, 0, none⟩) 0 0) (T := 46) (cs := #[]) (by kernel_rfl) (by kernel_rfl) (by kernel_rfl)) ?_; clear h33
          rintro _ w35 a34 ⟨N36, rfl, hN39, hz40, hk38, hg37⟩ h34
          have hB41 := hb_new hB0 hg37
          have hz42 := hB41.size
          have hz43 := hg37.size
          try dsimp only at h34
          refine pl_val (v := v) h34 rfl rfl rfl (by kernel_rfl) (by kernel_rfl) (by kernel_rfl) (fun a44 h44 => ?_); clear h34
          have hr47 := row_of_blkL hk38 (Nat.le_refl _) 3 pinE
          refine pl_want h44 rfl rfl rfl (op_appendSrc rfl N36 46 (z := .agg #[.int .i64 0, .int .u64 0, .int .i64 0]) (size := 3) (bytes := 24) Try.underlying77 (by kernel_rfl) rfl rfl rfl hr47 rfl (hs.below hB41) (fun y _ => ⟨pinE_len y, pinE_one y⟩) (by first | omega | (simp only [List.length_nil, List.length_append, List.length_cons, List.length_take, List.length_drop]; omega)) (by first | omega | (simp only [List.length_nil, List.length_append, List.length_cons, List.length_take, List.length_drop]; omega)) (by omega)) ?_; clear h44
          rintro v48 w46 a45 ⟨hr49, hg50⟩ h45
          have hr49' : w46.ownsRow N36 46 3 v48 l.length (l.flatMap pinE) := row_app (l := []) hr49; clear hr49
          have hB51 := hb_row hB41 hr47 (by omega) hg50
          have hz52 := hB51.size
          have hz53 := hg50.size
          refine pl_val (v := .int .i64 id) h45 rfl rfl rfl (by kernel_rfl) (by kernel_rfl) (by kernel_rfl) (fun a54 h54 => ?_); clear h45
          refine pl_val (v := .int .u64 ts) h54 rfl rfl rfl (by kernel_rfl) (by kernel_rfl) (by kernel_rfl) (fun a55 h55 => ?_); clear h54
          refine pl_val (v := .agg #[.int .i64 id, .int .u64 ts, .int .i64 8]) h55 rfl rfl rfl (by kernel_rfl) (by kernel_rfl) (by kernel_rfl) (fun a56 h56 => ?_); clear h55
          refine pl_want h56 rfl rfl rfl (op_new (v := fun N => .slice (some ⟨N, 0, none⟩) 1 1) (T := 46) (cs := #[.int .i64 id, .int .u64 ts, .int .i64 8]) (by kernel_rfl) (by kernel_rfl) (by kernel_rfl)) ?_; clear h56
          rintro _ w58 a57 ⟨N59, rfl, hN62, hz63, hk61, hg60⟩ h57
          have ha64 := row_fresh hr49' hN62
          have hB65 := hb_new hB51 hg60
          have hz66 := hB65.size
          have hz67 := hg60.size
          have hr68 := row_kept_new hr49' hg60
          try dsimp only at h57
          refine pl_want h57 rfl rfl rfl (op_append rfl N36 46 (z := .agg #[.int .i64 0, .int .u64 0, .int .i64 0]) (size := 3) (bytes := 24) Try.underlying77 (by kernel_rfl) rfl rfl rfl hr68 rfl hk61 rfl (by kernel_rfl) (by first | omega | (simp only [List.length_nil, List.length_append, List.length_cons, List.length_take, List.length_drop]; omega)) (by first | omega | (simp only [List.length_nil, List.length_append, List.length_cons, List.length_take, List.length_drop]; omega)) (by omega)) ?_; clear h57
          rintro v71 w70 a69 ⟨hr72, hg73⟩ h69
          have hr72' : w70.ownsRow N36 46 3 v71 ((l ++ [(id, ts, 8)]).length) ((l ++ [(id, ts, 8)]).flatMap pinE) := row_push (y := (id, ts, 8)) hr72 rfl rfl; clear hr72
          have hB74 := hb_row hB65 hr68 (by omega) hg73
          have hz75 := hB74.size
          have hz76 := hg73.size
          have hk77 := hk61.kept hg73 (ha64)
          refine pl_val (v := v71) h69 rfl rfl rfl (by kernel_rfl) (by kernel_rfl) (by kernel_rfl) (fun a78 h78 => ?_); clear h69
          refine pl_val (v := .int .i64 0) h78 rfl rfl rfl (by kernel_rfl) (by kernel_rfl) (by kernel_rfl) (fun a79 h79 => ?_); clear h78
          refine pl_nil ?_
          refine co_then ?_
          refine wp_ret ?_
          refine co_ret2 h79 rfl rfl rfl ?_
          cases hg.symm.trans (grant_ok0 (by omega) (by omega) (by omega))
          exact ⟨_, rfl, (row_low hr72' (by omega)), hB74⟩
        ·
          rw [hc22] at h21
          have hp80 : ((l.length : Nat) : Int) > 0 := of_decide_eq_true hc22
          clear hc22
          refine pl_val (v := v) h21 rfl rfl rfl (by kernel_rfl) (by kernel_rfl) (by kernel_rfl) (fun a81 h81 => ?_); clear h21
          refine pl_val (v := v) h81 rfl rfl rfl (by kernel_rfl) (by kernel_rfl) (by kernel_rfl) (fun a82 h82 => ?_); clear h81
          refine pl_val (v := .int .i64 ((l.length : Nat) : Int)) h82 rfl rfl rfl (by kernel_rfl) (by kernel_rfl) (rn_len rfl rfl Try.underlying77 hs) (fun a83 h83 => ?_); clear h82
          refine pl_val (v := .int .i64 (((l.length : Nat) : Int) - 1)) h83 rfl rfl rfl (by kernel_rfl) (by kernel_rfl) (rn_arith rfl rfl rfl rfl rfl rfl (IntWalk.i64_in _ (by omega))) (fun a84 h84 => ?_); clear h83
          obtain ⟨y85, hy85⟩ : ∃ z, l[(((l.length : Nat) : Int) - 1).toNat]? = some z := ⟨_, List.getElem?_eq_getElem (by first | omega | (simp; done) | (simp; omega))⟩
          refine pl_val (v := .pointer (some ⟨(blkOf v), offOf v + ((((l.length : Nat) : Int) - 1).toNat) * 3, none⟩)) h84 rfl rfl rfl (by kernel_rfl) (by kernel_rfl) (rn_index rfl rfl rfl Try.underlying77 Try.sizeOf46 hs (by omega) (by first | omega | (simp; done) | (simp; omega))) (fun a86 h86 => ?_); clear h84
          refine pl_val (v := .pointer (some ⟨(blkOf v), offOf v + ((((l.length : Nat) : Int) - 1).toNat) * 3, none⟩)) h86 rfl rfl rfl (by kernel_rfl) (by kernel_rfl) (by kernel_rfl) (fun a87 h87 => ?_); clear h86
          refine pl_val (v := .int .i64 y85.1) h87 rfl rfl rfl (by kernel_rfl) (by kernel_rfl) (rn_load1 rfl rfl Try.isAgg3 ((sl_at hs hy85) 0 _ rfl)) (fun a88 h88 => ?_); clear h87
          refine pl_val (v := .int .i64 id) h88 rfl rfl rfl (by kernel_rfl) (by kernel_rfl) (by kernel_rfl) (fun a89 h89 => ?_); clear h88
          refine pl_val (v := .bool (decide (y85.1 ≥ id))) h89 rfl rfl rfl (by kernel_rfl) (by kernel_rfl) (by kernel_rfl) (fun a90 h90 => ?_); clear h89
          refine pl_val (v := .bool (decide (y85.1 ≥ id))) h90 rfl rfl rfl (by kernel_rfl) (by kernel_rfl) (by kernel_rfl) (fun a91 h91 => ?_); clear h90
          refine pl_nil ?_
          refine co_then ?_
          cases hc92 : (decide (y85.1 ≥ id))
          ·
            rw [hc92] at h91
            have hp93 : ¬ (y85.1 ≥ id) := of_decide_eq_false hc92
            clear hc92
            refine co_false h91 rfl ?_
            refine wp_skip ?_
            refine co_then ?_
            refine co_seq ?_
            refine co_reg ?_
            refine pl_want h91 rfl rfl rfl (op_new (v := fun N => .slice (some ⟨N, 0, none⟩) 0 0) (T := 46) (cs := #[]) (by kernel_rfl) (by kernel_rfl) (by kernel_rfl)) ?_; clear h91
            rintro _ w95 a94 ⟨N96, rfl, hN99, hz100, hk98, hg97⟩ h94
            have hB101 := hb_new hB0 hg97
            have hz102 := hB101.size
            have hz103 := hg97.size
            try dsimp only at h94
            refine pl_val (v := v) h94 rfl rfl rfl (by kernel_rfl) (by kernel_rfl) (by kernel_rfl) (fun a104 h104 => ?_); clear h94
            have hr107 := row_of_blkL hk98 (Nat.le_refl _) 3 pinE
            refine pl_want h104 rfl rfl rfl (op_appendSrc rfl N96 46 (z := .agg #[.int .i64 0, .int .u64 0, .int .i64 0]) (size := 3) (bytes := 24) Try.underlying77 (by kernel_rfl) rfl rfl rfl hr107 rfl (hs.below hB101) (fun y _ => ⟨pinE_len y, pinE_one y⟩) (by first | omega | (simp only [List.length_nil, List.length_append, List.length_cons, List.length_take, List.length_drop]; omega)) (by first | omega | (simp only [List.length_nil, List.length_append, List.length_cons, List.length_take, List.length_drop]; omega)) (by omega)) ?_; clear h104
            rintro v108 w106 a105 ⟨hr109, hg110⟩ h105
            have hr109' : w106.ownsRow N96 46 3 v108 l.length (l.flatMap pinE) := row_app (l := []) hr109; clear hr109
            have hB111 := hb_row hB101 hr107 (by omega) hg110
            have hz112 := hB111.size
            have hz113 := hg110.size
            refine pl_val (v := .int .i64 id) h105 rfl rfl rfl (by kernel_rfl) (by kernel_rfl) (by kernel_rfl) (fun a114 h114 => ?_); clear h105
            refine pl_val (v := .int .u64 ts) h114 rfl rfl rfl (by kernel_rfl) (by kernel_rfl) (by kernel_rfl) (fun a115 h115 => ?_); clear h114
            refine pl_val (v := .agg #[.int .i64 id, .int .u64 ts, .int .i64 8]) h115 rfl rfl rfl (by kernel_rfl) (by kernel_rfl) (by kernel_rfl) (fun a116 h116 => ?_); clear h115
            refine pl_want h116 rfl rfl rfl (op_new (v := fun N => .slice (some ⟨N, 0, none⟩) 1 1) (T := 46) (cs := #[.int .i64 id, .int .u64 ts, .int .i64 8]) (by kernel_rfl) (by kernel_rfl) (by kernel_rfl)) ?_; clear h116
            rintro _ w118 a117 ⟨N119, rfl, hN122, hz123, hk121, hg120⟩ h117
            have ha124 := row_fresh hr109' hN122
            have hB125 := hb_new hB111 hg120
            have hz126 := hB125.size
            have hz127 := hg120.size
            have hr128 := row_kept_new hr109' hg120
            try dsimp only at h117
            refine pl_want h117 rfl rfl rfl (op_append rfl N96 46 (z := .agg #[.int .i64 0, .int .u64 0, .int .i64 0]) (size := 3) (bytes := 24) Try.underlying77 (by kernel_rfl) rfl rfl rfl hr128 rfl hk121 rfl (by kernel_rfl) (by first | omega | (simp only [List.length_nil, List.length_append, List.length_cons, List.length_take, List.length_drop]; omega)) (by first | omega | (simp only [List.length_nil, List.length_append, List.length_cons, List.length_take, List.length_drop]; omega)) (by omega)) ?_; clear h117
            rintro v131 w130 a129 ⟨hr132, hg133⟩ h129
            have hr132' : w130.ownsRow N96 46 3 v131 ((l ++ [(id, ts, 8)]).length) ((l ++ [(id, ts, 8)]).flatMap pinE) := row_push (y := (id, ts, 8)) hr132 rfl rfl; clear hr132
            have hB134 := hb_row hB125 hr128 (by omega) hg133
            have hz135 := hB134.size
            have hz136 := hg133.size
            have hk137 := hk121.kept hg133 (ha124)
            refine pl_val (v := v131) h129 rfl rfl rfl (by kernel_rfl) (by kernel_rfl) (by kernel_rfl) (fun a138 h138 => ?_); clear h129
            refine pl_val (v := .int .i64 0) h138 rfl rfl rfl (by kernel_rfl) (by kernel_rfl) (by kernel_rfl) (fun a139 h139 => ?_); clear h138
            refine pl_nil ?_
            refine co_then ?_
            refine wp_ret ?_
            refine co_ret2 h139 rfl rfl rfl ?_
            cases hg.symm.trans (grant_ok (by omega) (by omega) hy85 (by omega) (by omega))
            exact ⟨_, rfl, (row_low hr132' (by omega)), hB134⟩
          ·
            rw [hc92] at h91
            have hp140 : y85.1 ≥ id := of_decide_eq_true hc92
            clear hc92
            refine co_true h91 rfl ?_
            refine co_seq ?_
            refine co_reg ?_
            refine pl_val (v := .slice none 0 0) h91 rfl rfl rfl (by kernel_rfl) (by kernel_rfl) (by kernel_rfl) (fun a141 h141 => ?_); clear h91
            refine pl_val (v := .int .i64 18) h141 rfl rfl rfl (by kernel_rfl) (by kernel_rfl) (by kernel_rfl) (fun a142 h142 => ?_); clear h141
            refine pl_nil ?_
            refine co_then ?_
            refine wp_ret ?_
            refine co_thenR ?_
            refine co_ret2 h142 rfl rfl rfl ?_
            cases hg.symm.trans (grant_ord (by omega) (by omega) hy85 (by omega) (by omega))
            exact ⟨_, rfl, (row_nilL _ _ _ _ _), hB0⟩
      ·
        rw [hc16] at h15
        have hp143 : id > 1073741824 := of_decide_eq_true hc16
        clear hc16
        refine co_true h15 rfl ?_
        refine co_seq ?_
        refine co_reg ?_
        refine pl_val (v := .slice none 0 0) h15 rfl rfl rfl (by kernel_rfl) (by kernel_rfl) (by kernel_rfl) (fun a144 h144 => ?_); clear h15
        refine pl_val (v := .int .i64 1) h144 rfl rfl rfl (by kernel_rfl) (by kernel_rfl) (by kernel_rfl) (fun a145 h145 => ?_); clear h144
        refine pl_nil ?_
        refine co_then ?_
        refine wp_ret ?_
        refine co_thenR ?_
        refine co_ret2 h145 rfl rfl rfl ?_
        cases hg.symm.trans (grant_arg (by omega) (by omega))
        exact ⟨_, rfl, (row_nilL _ _ _ _ _), hB0⟩
    ·
      rw [hc11] at h10
      have hp146 : id < 1 := of_decide_eq_true hc11
      clear hc11
      refine pl_skip h10 rfl rfl rfl (fun a147 h147 => ?_); clear h10
      refine pl_skip h147 rfl rfl rfl (fun a148 h148 => ?_); clear h147
      refine pl_val (v := .bool true) h148 rfl rfl rfl (by kernel_rfl) (by kernel_rfl) (by kernel_rfl) (fun a149 h149 => ?_); clear h148
      refine pl_nil ?_
      refine co_then ?_
      refine co_true h149 rfl ?_
      refine co_seq ?_
      refine co_reg ?_
      refine pl_val (v := .slice none 0 0) h149 rfl rfl rfl (by kernel_rfl) (by kernel_rfl) (by kernel_rfl) (fun a150 h150 => ?_); clear h149
      refine pl_val (v := .int .i64 1) h150 rfl rfl rfl (by kernel_rfl) (by kernel_rfl) (by kernel_rfl) (fun a151 h151 => ?_); clear h150
      refine pl_nil ?_
      refine co_then ?_
      refine wp_ret ?_
      refine co_thenR ?_
      refine co_ret2 h151 rfl rfl rfl ?_
      cases hg.symm.trans (grant_arg (by omega) (by omega))
      exact ⟨_, rfl, (row_nilL _ _ _ _ _), hB0⟩
  ·
    rw [hc6] at h5
    have hp152 : ((l.length : Nat) : Int) ≥ 3 := of_decide_eq_true hc6
    clear hc6
    refine co_true h5 rfl ?_
    refine co_seq ?_
    refine co_reg ?_
    refine pl_val (v := .slice none 0 0) h5 rfl rfl rfl (by kernel_rfl) (by kernel_rfl) (by kernel_rfl) (fun a153 h153 => ?_); clear h5
    refine pl_val (v := .int .i64 17) h153 rfl rfl rfl (by kernel_rfl) (by kernel_rfl) (by kernel_rfl) (fun a154 h154 => ?_); clear h153
    refine pl_nil ?_
    refine co_then ?_
    refine wp_ret ?_
    refine co_thenR ?_
    refine co_ret2 h154 rfl rfl rfl ?_
    cases hg.symm.trans (grant_full (by omega))
    exact ⟨_, rfl, (row_nilL _ _ _ _ _), hB0⟩
set_option maxRecDepth 100000 in
theorem leaseRenew_any (v : Value) (l : List PinT) (id : Int) (l2 : List PinT) (r : Int) (w : World) (hs : SliceOf pinE 3 w v l) (hlen : l.length ≤ 1000) (hg : renewP l id = (l2, r)) :
    Calls Try.prog 38 #[v, .int .i64 id] w fun e w' => ∃ (u : Value), e = .returned (.tuple #[u, .int .i64 r]) ∧ w'.ownsRow w.heap.size 46 3 u l2.length (l2.flatMap pinE) ∧ Below w.heap.size w w' := by
  have hfl := findP_lt l id
  have hB0 := Below.refl w.heap.size w
  have hl_hs := sl_len hs
  refine co_enter (n := 20) Try.func38 rfl rfl rfl [(0, v), (1, .int .i64 id)] rfl (fun a h0 => ?_)
  refine co_seq ?_
  refine co_reg ?_
  refine pl_val (v := .slice none 0 0) h0 rfl rfl rfl (by kernel_rfl) (by kernel_rfl) (by kernel_rfl) (fun a1 h1 => ?_); clear h0
  refine pl_val (v := .int .i64 0) h1 rfl rfl rfl (by kernel_rfl) (by kernel_rfl) (by kernel_rfl) (fun a2 h2 => ?_); clear h1
  refine pl_nil ?_
  refine co_then ?_
  refine co_seq ?_
  refine co_reg ?_
  refine pl_val (v := v) h2 rfl rfl rfl (by kernel_rfl) (by kernel_rfl) (by kernel_rfl) (fun a3 h3 => ?_); clear h2
  refine pl_val (v := .int .i64 id) h3 rfl rfl rfl (by kernel_rfl) (by kernel_rfl) (by kernel_rfl) (fun a4 h4 => ?_); clear h3
  refine pl_want h4 rfl rfl rfl (op_call (args := #[v, .int .i64 id]) (R := fun res xw => res = .int .i64 (findP l id) ∧ Below w.heap.size w xw) rfl rfl rfl (by kernel_rfl) (by kernel_rfl) (Try.call67 _ _) (place_any v l id w hs) (by rintro e x ⟨rfl, hb7⟩; exact ⟨_, rfl, ⟨rfl, hb7⟩⟩)) ?_; clear h4
  rintro _ w6 a5 ⟨rfl, hb7⟩ h5
  have hB8 := hb_call hB0 hb7
  have hz9 := hB8.size
  have hz10 := hb7.size
  refine pl_val (v := .int .i64 (findP l id)) h5 rfl rfl rfl (by kernel_rfl) (by kernel_rfl) (by kernel_rfl) (fun a11 h11 => ?_); clear h5
  refine pl_nil ?_
  refine co_then ?_
  refine co_seq ?_
  refine co_seq ?_
  refine co_reg ?_
  refine pl_val (v := .int .i64 (findP l id)) h11 rfl rfl rfl (by kernel_rfl) (by kernel_rfl) (by kernel_rfl) (fun a12 h12 => ?_); clear h11
  refine pl_val (v := .bool (decide (findP l id < 0))) h12 rfl rfl rfl (by kernel_rfl) (by kernel_rfl) (by kernel_rfl) (fun a13 h13 => ?_); clear h12
  refine pl_nil ?_
  refine co_then ?_
  cases hc14 : (decide (findP l id < 0))
  ·
    rw [hc14] at h13
    have hp15 : ¬ (findP l id < 0) := of_decide_eq_false hc14
    clear hc14
    refine co_false h13 rfl ?_
    refine wp_skip ?_
    refine co_then ?_
    refine co_seq ?_
    refine co_reg ?_
    refine pl_val (v := v) h13 rfl rfl rfl (by kernel_rfl) (by kernel_rfl) (by kernel_rfl) (fun a16 h16 => ?_); clear h13
    refine pl_want h16 rfl rfl rfl (op_call (args := #[v]) (R := fun res xw => ∃ u : Value, res = u ∧ xw.ownsRow w6.heap.size 46 3 u l.length (l.flatMap pinE) ∧ Below w6.heap.size w6 xw) rfl rfl rfl (by kernel_rfl) (by kernel_rfl) (Try.call66 _ _) (clonePin_any v l w6 (hs.below hB8) (by first | omega | (simp; done) | (simp; omega))) (by rintro e x ⟨u, rfl, hq20, hb21⟩; exact ⟨_, rfl, ⟨u, rfl, hq20, hb21⟩⟩)) ?_; clear h16
    rintro u19 w18 a17 ⟨_, rfl, hq20, hb21⟩ h17
    have hB22 := hb_call hB8 hb21
    have hz23 := hB22.size
    have hz24 := hb21.size
    refine pl_val (v := u19) h17 rfl rfl rfl (by kernel_rfl) (by kernel_rfl) (by kernel_rfl) (fun a25 h25 => ?_); clear h17
    refine pl_nil ?_
    refine co_then ?_
    refine co_seq ?_
    refine co_reg ?_
    refine pl_val (v := u19) h25 rfl rfl rfl (by kernel_rfl) (by kernel_rfl) (by kernel_rfl) (fun a26 h26 => ?_); clear h25
    refine pl_val (v := .int .i64 (findP l id)) h26 rfl rfl rfl (by kernel_rfl) (by kernel_rfl) (by kernel_rfl) (fun a27 h27 => ?_); clear h26
    obtain ⟨y28, hy28⟩ : ∃ z, l[(findP l id).toNat]? = some z := ⟨_, List.getElem?_eq_getElem (by first | omega | (simp; done) | (simp; omega))⟩
    refine pl_val (v := .pointer (some ⟨(blkOf u19), offOf u19 + ((findP l id).toNat) * 3, none⟩)) h27 rfl rfl rfl (by kernel_rfl) (by kernel_rfl) (rn_index rfl rfl rfl Try.underlying77 Try.sizeOf46 (row_sl hq20 pinE_len) (by omega) (by first | omega | (simp; done) | (simp; omega))) (fun a29 h29 => ?_); clear h27
    refine pl_val (v := .pointer (some ⟨(blkOf u19), offOf u19 + ((findP l id).toNat) * 3 + 2, none⟩)) h29 rfl rfl rfl (by kernel_rfl) (by kernel_rfl) (by kernel_rfl) (fun a30 h30 => ?_); clear h29
    refine pl_doW h30 rfl rfl (op_storeRow (c := ((findP l id).toNat) * 3 + 2) rfl rfl rfl rfl Try.sizeOf3 hq20 (flat_lt pinE_len (by omega) (by omega)) (by first | rfl | omega)) ?_; clear h30
    rintro _ w32 a31 ⟨hr33, hz34, hg35⟩ h31
    have hr33' := row_set (y' := (y28.1, y28.2.1, 8)) hr33 pinE_len hy28 (by omega) rfl; clear hr33
    have hB36 := hb_row hB22 hq20 (by omega) hg35
    have hz37 := hB36.size
    have hz38 := hg35.size
    refine pl_nil ?_
    refine co_then ?_
    refine co_seq ?_
    refine co_reg ?_
    refine pl_val (v := u19) h31 rfl rfl rfl (by kernel_rfl) (by kernel_rfl) (by kernel_rfl) (fun a39 h39 => ?_); clear h31
    refine pl_val (v := u19) h39 rfl rfl rfl (by kernel_rfl) (by kernel_rfl) (by kernel_rfl) (fun a40 h40 => ?_); clear h39
    refine pl_val (v := .int .i64 0) h40 rfl rfl rfl (by kernel_rfl) (by kernel_rfl) (by kernel_rfl) (fun a41 h41 => ?_); clear h40
    refine pl_nil ?_
    refine co_then ?_
    refine wp_ret ?_
    refine co_ret2 h41 rfl rfl rfl ?_
    cases hg.symm.trans (renew_ok (by omega) rfl hy28)
    exact ⟨_, rfl, (row_low hr33' (by omega)), hB36⟩
  ·
    rw [hc14] at h13
    have hp42 : findP l id < 0 := of_decide_eq_true hc14
    clear hc14
    refine co_true h13 rfl ?_
    refine co_seq ?_
    refine co_reg ?_
    refine pl_val (v := .slice none 0 0) h13 rfl rfl rfl (by kernel_rfl) (by kernel_rfl) (by kernel_rfl) (fun a43 h43 => ?_); clear h13
    refine pl_val (v := .int .i64 7) h43 rfl rfl rfl (by kernel_rfl) (by kernel_rfl) (by kernel_rfl) (fun a44 h44 => ?_); clear h43
    refine pl_nil ?_
    refine co_then ?_
    refine wp_ret ?_
    refine co_thenR ?_
    refine co_ret2 h44 rfl rfl rfl ?_
    cases hg.symm.trans (renew_no (by omega))
    exact ⟨_, rfl, (row_nilL _ _ _ _ _), hB8⟩
set_option maxRecDepth 100000 in
theorem rleaseRenew_any (v : Value) (l : List PinT) (id : Int) (l2 : List PinT) (r : Int) (w : World) (hs : SliceOf pinE 3 w v l) (hlen : l.length ≤ 1000) (hg : renewP l id = (l2, r)) :
    Calls Try.prog 39 #[v, .int .i64 id] w fun e w' => ∃ (u : Value), e = .returned (.tuple #[u, .int .i64 r]) ∧ w'.ownsRow w.heap.size 46 3 u l2.length (l2.flatMap pinE) ∧ Below w.heap.size w w' := by
  have hfl := findP_lt l id
  have hB0 := Below.refl w.heap.size w
  have hl_hs := sl_len hs
  refine co_enter (n := 21) Try.func39 rfl rfl rfl [(0, v), (1, .int .i64 id)] rfl (fun a h0 => ?_)
  refine co_seq ?_
  refine co_reg ?_
  refine pl_val (v := .slice none 0 0) h0 rfl rfl rfl (by kernel_rfl) (by kernel_rfl) (by kernel_rfl) (fun a1 h1 => ?_); clear h0
  refine pl_val (v := .int .i64 0) h1 rfl rfl rfl (by kernel_rfl) (by kernel_rfl) (by kernel_rfl) (fun a2 h2 => ?_); clear h1
  refine pl_nil ?_
  refine co_then ?_
  refine co_seq ?_
  refine co_reg ?_
  refine pl_val (v := v) h2 rfl rfl rfl (by kernel_rfl) (by kernel_rfl) (by kernel_rfl) (fun a3 h3 => ?_); clear h2
  refine pl_val (v := .int .i64 id) h3 rfl rfl rfl (by kernel_rfl) (by kernel_rfl) (by kernel_rfl) (fun a4 h4 => ?_); clear h3
  refine pl_want h4 rfl rfl rfl (op_call (args := #[v, .int .i64 id]) (R := fun res xw => res = .int .i64 (findP l id) ∧ Below w.heap.size w xw) rfl rfl rfl (by kernel_rfl) (by kernel_rfl) (Try.call68 _ _) (rfind_any v l id w hs) (by rintro e x ⟨rfl, hb7⟩; exact ⟨_, rfl, ⟨rfl, hb7⟩⟩)) ?_; clear h4
  rintro _ w6 a5 ⟨rfl, hb7⟩ h5
  have hB8 := hb_call hB0 hb7
  have hz9 := hB8.size
  have hz10 := hb7.size
  refine pl_val (v := .int .i64 (findP l id)) h5 rfl rfl rfl (by kernel_rfl) (by kernel_rfl) (by kernel_rfl) (fun a11 h11 => ?_); clear h5
  refine pl_nil ?_
  refine co_then ?_
  refine co_seq ?_
  refine co_seq ?_
  refine co_reg ?_
  refine pl_val (v := .int .i64 (findP l id)) h11 rfl rfl rfl (by kernel_rfl) (by kernel_rfl) (by kernel_rfl) (fun a12 h12 => ?_); clear h11
  refine pl_val (v := .bool (decide (findP l id < 0))) h12 rfl rfl rfl (by kernel_rfl) (by kernel_rfl) (by kernel_rfl) (fun a13 h13 => ?_); clear h12
  refine pl_nil ?_
  refine co_then ?_
  cases hc14 : (decide (findP l id < 0))
  ·
    rw [hc14] at h13
    have hp15 : ¬ (findP l id < 0) := of_decide_eq_false hc14
    clear hc14
    refine co_false h13 rfl ?_
    refine wp_skip ?_
    refine co_then ?_
    refine co_seq ?_
    refine co_reg ?_
    refine pl_want h13 rfl rfl rfl (op_new (v := fun N => .slice (some ⟨N, 0, none⟩) 0 0) (T := 46) (cs := #[]) (by kernel_rfl) (by kernel_rfl) (by kernel_rfl)) ?_; clear h13
    rintro _ w17 a16 ⟨N18, rfl, hN21, hz22, hk20, hg19⟩ h16
    have hB23 := hb_new hB8 hg19
    have hz24 := hB23.size
    have hz25 := hg19.size
    try dsimp only at h16
    refine pl_val (v := v) h16 rfl rfl rfl (by kernel_rfl) (by kernel_rfl) (by kernel_rfl) (fun a26 h26 => ?_); clear h16
    have hr29 := row_of_blkL hk20 (Nat.le_refl _) 3 pinE
    refine pl_want h26 rfl rfl rfl (op_appendSrc rfl N18 46 (z := .agg #[.int .i64 0, .int .u64 0, .int .i64 0]) (size := 3) (bytes := 24) Try.underlying77 (by kernel_rfl) rfl rfl rfl hr29 rfl (hs.below hB23) (fun y _ => ⟨pinE_len y, pinE_one y⟩) (by first | omega | (simp only [List.length_nil, List.length_append, List.length_cons, List.length_take, List.length_drop]; omega)) (by first | omega | (simp only [List.length_nil, List.length_append, List.length_cons, List.length_take, List.length_drop]; omega)) (by omega)) ?_; clear h26
    rintro v30 w28 a27 ⟨hr31, hg32⟩ h27
    have hr31' : w28.ownsRow N18 46 3 v30 l.length (l.flatMap pinE) := row_app (l := []) hr31; clear hr31
    have hB33 := hb_row hB23 hr29 (by omega) hg32
    have hz34 := hB33.size
    have hz35 := hg32.size
    refine pl_val (v := v30) h27 rfl rfl rfl (by kernel_rfl) (by kernel_rfl) (by kernel_rfl) (fun a36 h36 => ?_); clear h27
    refine pl_nil ?_
    refine co_then ?_
    refine co_seq ?_
    refine co_reg ?_
    refine pl_val (v := v30) h36 rfl rfl rfl (by kernel_rfl) (by kernel_rfl) (by kernel_rfl) (fun a37 h37 => ?_); clear h36
    refine pl_val (v := .int .i64 (findP l id)) h37 rfl rfl rfl (by kernel_rfl) (by kernel_rfl) (by kernel_rfl) (fun a38 h38 => ?_); clear h37
    obtain ⟨y39, hy39⟩ : ∃ z, l[(findP l id).toNat]? = some z := ⟨_, List.getElem?_eq_getElem (by first | omega | (simp; done) | (simp; omega))⟩
    refine pl_val (v := .pointer (some ⟨(blkOf v30), offOf v30 + ((findP l id).toNat) * 3, none⟩)) h38 rfl rfl rfl (by kernel_rfl) (by kernel_rfl) (rn_index rfl rfl rfl Try.underlying77 Try.sizeOf46 (row_sl hr31' pinE_len) (by omega) (by first | omega | (simp; done) | (simp; omega))) (fun a40 h40 => ?_); clear h38
    refine pl_val (v := .pointer (some ⟨(blkOf v30), offOf v30 + ((findP l id).toNat) * 3 + 2, none⟩)) h40 rfl rfl rfl (by kernel_rfl) (by kernel_rfl) (by kernel_rfl) (fun a41 h41 => ?_); clear h40
    refine pl_doW h41 rfl rfl (op_storeRow (c := ((findP l id).toNat) * 3 + 2) rfl rfl rfl rfl Try.sizeOf3 hr31' (flat_lt pinE_len (by omega) (by omega)) (by first | rfl | omega)) ?_; clear h41
    rintro _ w43 a42 ⟨hr44, hz45, hg46⟩ h42
    have hr44' := row_set (y' := (y39.1, y39.2.1, 8)) hr44 pinE_len hy39 (by omega) rfl; clear hr44
    have hB47 := hb_row hB33 hr31' (by omega) hg46
    have hz48 := hB47.size
    have hz49 := hg46.size
    refine pl_nil ?_
    refine co_then ?_
    refine co_seq ?_
    refine co_reg ?_
    refine pl_val (v := v30) h42 rfl rfl rfl (by kernel_rfl) (by kernel_rfl) (by kernel_rfl) (fun a50 h50 => ?_); clear h42
    refine pl_val (v := v30) h50 rfl rfl rfl (by kernel_rfl) (by kernel_rfl) (by kernel_rfl) (fun a51 h51 => ?_); clear h50
    refine pl_val (v := .int .i64 0) h51 rfl rfl rfl (by kernel_rfl) (by kernel_rfl) (by kernel_rfl) (fun a52 h52 => ?_); clear h51
    refine pl_nil ?_
    refine co_then ?_
    refine wp_ret ?_
    refine co_ret2 h52 rfl rfl rfl ?_
    cases hg.symm.trans (renew_ok (by omega) rfl hy39)
    exact ⟨_, rfl, (row_low hr44' (by omega)), hB47⟩
  ·
    rw [hc14] at h13
    have hp53 : findP l id < 0 := of_decide_eq_true hc14
    clear hc14
    refine co_true h13 rfl ?_
    refine co_seq ?_
    refine co_reg ?_
    refine pl_val (v := .slice none 0 0) h13 rfl rfl rfl (by kernel_rfl) (by kernel_rfl) (by kernel_rfl) (fun a54 h54 => ?_); clear h13
    refine pl_val (v := .int .i64 7) h54 rfl rfl rfl (by kernel_rfl) (by kernel_rfl) (by kernel_rfl) (fun a55 h55 => ?_); clear h54
    refine pl_nil ?_
    refine co_then ?_
    refine wp_ret ?_
    refine co_thenR ?_
    refine co_ret2 h55 rfl rfl rfl ?_
    cases hg.symm.trans (renew_no (by omega))
    exact ⟨_, rfl, (row_nilL _ _ _ _ _), hB8⟩
end Go.Proofs.Ytfhiciaakgcbnaa
