/- Package lease: Grant, Renew. Conditions: at most 1000 pins. -/
import Derived.Test.YtfhiciaakgcbnaaLeaC
namespace Go.Proofs.Ytfhiciaakgcbnaa
open Go.RowKit Go.PlainAid
set_option linter.unusedVariables false


theorem grant_full {l : List PinT} {id ts : Int} (h : (l.length : Int) ≥ 3) : grantP l id ts = ([], 17) := by unfold grantP; rw [if_pos h]
theorem grant_arg {l : List PinT} {id ts : Int} (h : ¬ (l.length : Int) ≥ 3) (h1 : id < 1 ∨ id > 1073741824) : grantP l id ts = ([], 1) := by unfold grantP; rw [if_neg h, if_pos h1]
theorem grant_ord {l : List PinT} {id ts : Int} {j : Nat} {y : PinT} (h : ¬ (l.length : Int) ≥ 3) (h1 : ¬ (id < 1 ∨ id > 1073741824)) (hy : l[j]? = some y) (hj : j = l.length - 1) (h2 : id ≤ y.1) : grantP l id ts = ([], 18) := by
  subst hj
  have := (List.getElem?_eq_some_iff.1 hy).1
  unfold grantP; rw [if_neg h, if_neg h1, if_pos ⟨by omega, by rw [getD_of hy]; exact h2⟩]
theorem grant_ok {l : List PinT} {id ts : Int} {j : Nat} {y : PinT} (h : ¬ (l.length : Int) ≥ 3) (h1 : ¬ (id < 1 ∨ id > 1073741824)) (hy : l[j]? = some y) (hj : j = l.length - 1) (h2 : ¬ id ≤ y.1) : grantP l id ts = (l ++ [(id, ts, 8)], 0) := by
  subst hj
  unfold grantP; rw [if_neg h, if_neg h1, if_neg (fun q => h2 (by rw [← getD_of hy]; exact q.2))]
theorem grant_ok0 {l : List PinT} {id ts : Int} (h : ¬ (l.length : Int) ≥ 3) (h1 : ¬ (id < 1 ∨ id > 1073741824)) (h0 : l.length = 0) : grantP l id ts = (l ++ [(id, ts, 8)], 0) := by
  unfold grantP; rw [if_neg h, if_neg h1, if_neg (by omega)]
theorem renew_no {l : List PinT} {id : Int} (h : findP l id < 0) : renewP l id = ([], 7) := by unfold renewP; rw [if_pos h]
theorem renew_ok {l : List PinT} {id : Int} {j : Nat} {y : PinT} (h : ¬ findP l id < 0) (hj : j = (findP l id).toNat) (hy : l[j]? = some y) : renewP l id = (l.set j (y.1, y.2.1, 8), 0) := by
  subst hj; unfold renewP; rw [if_neg h, getD_of hy]
theorem free_no {l : List PinT} {id : Int} (h : findP l id < 0) : freeP l id = ([], 7) := by unfold freeP; rw [if_pos h]
theorem free_ok {l : List PinT} {id : Int} {j : Nat} (h : ¬ findP l id < 0) (hj : j = (findP l id).toNat) : freeP l id = (l.take j ++ l.drop (j + 1), 0) := by subst hj; unfold freeP; rw [if_neg h]
theorem grant_len {l l2 : List PinT} {id ts r : Int} (h : grantP l id ts = (l2, r)) : l2.length ≤ l.length + 1 := by
  unfold grantP at h
  split at h
  · cases h; simp
  · split at h
    · cases h; simp
    · split at h <;> (cases h; simp)
theorem renew_len {l l2 : List PinT} {id r : Int} (h : renewP l id = (l2, r)) : l2.length ≤ l.length := by
  unfold renewP at h; split at h <;> (cases h; simp)
theorem free_len {l l2 : List PinT} {id r : Int} (h : freeP l id = (l2, r)) : l2.length ≤ l.length := by
  unfold freeP at h; split at h <;> (cases h; simp) ; omega

theorem grant_bd (l : List PinT) (id ts : Int) : 0 ≤ (grantP l id ts).2 ∧ (grantP l id ts).2 ≤ 18 := by
  unfold grantP; split
  · exact ⟨by first | decide | simp, by first | decide | simp⟩
  · split
    · exact ⟨by first | decide | simp, by first | decide | simp⟩
    · split <;> exact ⟨by first | decide | simp, by first | decide | simp⟩
theorem renew_bd (l : List PinT) (id : Int) : 0 ≤ (renewP l id).2 ∧ (renewP l id).2 ≤ 18 := by unfold renewP; split <;> exact ⟨by first | decide | simp, by first | decide | simp⟩
theorem free_bd (l : List PinT) (id : Int) : 0 ≤ (freeP l id).2 ∧ (freeP l id).2 ≤ 18 := by unfold freeP; split <;> exact ⟨by first | decide | simp, by first | decide | simp⟩

set_option maxRecDepth 100000 in
theorem leaseGrant_any (v : Value) (l : List PinT) (id : Int) (ts : Int) (l2 : List PinT) (r : Int) (w : World) (hs : SliceOf pinE 3 w v l) (hlen : l.length ≤ 1000) (hg : grantP l id ts = (l2, r)) :
    Calls Try.prog 36 #[v, .int .i64 id, .int .u64 ts] w fun e w' => ∃ (u : Value), e = .returned (.tuple #[u, .int .i64 r]) ∧ w'.ownsRow w.heap.size 46 3 u l2.length (l2.flatMap pinE) ∧ Below w.heap.size w w' := by
  have hB0 := Below.refl w.heap.size w
  have hl_hs := sl_len hs
  refine co_enter (n := 38) Try.func36 rfl rfl rfl [(0, v), (1, .int .i64 id), (2, .int .u64 ts)] rfl (fun a h0 => ?_)
  refine co_seq ?_
  refine co_reg ?_
  refine pl_val (v := .slice none 0 0) h0 rfl rfl rfl (by kernel_rfl) (by kernel_rfl) (by kernel_rfl) (fun a1 h1 => ?_); clear h0
  refine pl_val (v := .int .i64 0) h1 rfl rfl rfl (by kernel_rfl) (by kernel_rfl) (by kernel_rfl) (fun a2 h2 => ?_); clear h1
  refine pl_nil ?_
  refine co_then ?_
  refine co_seq ?_
  refine co_seq ?_
  refine co_reg ?_
  refine pl_val (v := v) h2 rfl rfl rfl (by kernel_rfl) (by kernel_rfl) (by kernel_rfl) (fun a3 h3 => ?_); clear h2
  refine pl_val (v := .int .i64 ((l.length : Nat) : Int)) h3 rfl rfl rfl (by kernel_rfl) (by kernel_rfl) (rn_len rfl rfl Try.underlying77 hs) (fun a4 h4 => ?_); clear h3
  refine pl_val (v := .bool (decide (((l.length : Nat) : Int) ≥ 3))) h4 rfl rfl rfl (by kernel_rfl) (by kernel_rfl) (by kernel_rfl) (fun a5 h5 => ?_); clear h4
  refine pl_nil ?_
  refine co_then ?_
  cases hc6 : (decide (((l.length : Nat) : Int) ≥ 3))
  ·
    rw [hc6] at h5
    have hp7 : ¬ (((l.length : Nat) : Int) ≥ 3) := of_decide_eq_false hc6
    clear hc6
    refine co_false h5 rfl ?_
    refine wp_skip ?_
    refine co_then ?_
    refine co_seq ?_
    refine co_seq ?_
    refine co_reg ?_
    refine pl_val (v := .int .i64 id) h5 rfl rfl rfl (by kernel_rfl) (by kernel_rfl) (by kernel_rfl) (fun a8 h8 => ?_); clear h5
    refine pl_val (v := .bool (decide (id < 1))) h8 rfl rfl rfl (by kernel_rfl) (by kernel_rfl) (by kernel_rfl) (fun a9 h9 => ?_); clear h8
    refine pl_val (v := .bool (decide (id < 1))) h9 rfl rfl rfl (by kernel_rfl) (by kernel_rfl) (by kernel_rfl) (fun a10 h10 => ?_); clear h9
    cases hc11 : (decide (id < 1))
    ·
      rw [hc11] at h10
      have hp12 : ¬ (id < 1) := of_decide_eq_false hc11
      clear hc11
      refine pl_val (v := .int .i64 id) h10 rfl rfl rfl (by kernel_rfl) (by kernel_rfl) (by kernel_rfl) (fun a13 h13 => ?_); clear h10
      refine pl_val (v := .bool (decide (id > 1073741824))) h13 rfl rfl rfl (by kernel_rfl) (by kernel_rfl) (by kernel_rfl) (fun a14 h14 => ?_); clear h13
      refine pl_val (v := .bool (decide (id > 1073741824))) h14 rfl rfl rfl (by kernel_rfl) (by kernel_rfl) (by kernel_rfl) (fun a15 h15 => ?_); clear h14
      refine pl_nil ?_
      refine co_then ?_
      cases hc16 : (decide (id > 1073741824))
      ·
        rw [hc16] at h15
        have hp17 : ¬ (id > 1073741824) := of_decide_eq_false hc16
        clear hc16
        refine co_false h15 rfl ?_
        refine wp_skip ?_
        refine co_then ?_
        refine co_seq ?_
        refine co_seq ?_
        refine co_reg ?_
        refine pl_val (v := v) h15 rfl rfl rfl (by kernel_rfl) (by kernel_rfl) (by kernel_rfl) (fun a18 h18 => ?_); clear h15
        refine pl_val (v := .int .i64 ((l.length : Nat) : Int)) h18 rfl rfl rfl (by kernel_rfl) (by kernel_rfl) (rn_len rfl rfl Try.underlying77 hs) (fun a19 h19 => ?_); clear h18
        refine pl_val (v := .bool (decide (((l.length : Nat) : Int) > 0))) h19 rfl rfl rfl (by kernel_rfl) (by kernel_rfl) (by kernel_rfl) (fun a20 h20 => ?_); clear h19
        refine pl_val (v := .bool (decide (((l.length : Nat) : Int) > 0))) h20 rfl rfl rfl (by kernel_rfl) (by kernel_rfl) (by kernel_rfl) (fun a21 h21 => ?_); clear h20
        cases hc22 : (decide (((l.length : Nat) : Int) > 0))
        ·
          rw [hc22] at h21
          have hp23 : ¬ (((l.length : Nat) : Int) > 0) := of_decide_eq_false hc22
          clear hc22
          refine pl_skip h21 rfl rfl rfl (fun a24 h24 => ?_); clear h21
          refine pl_skip h24 rfl rfl rfl (fun a25 h25 => ?_); clear h24
          refine pl_skip h25 rfl rfl rfl (fun a26 h26 => ?_); clear h25
          refine pl_skip h26 rfl rfl rfl (fun a27 h27 => ?_); clear h26
          refine pl_skip h27 rfl rfl rfl (fun a28 h28 => ?_); clear h27
          refine pl_skip h28 rfl rfl rfl (fun a29 h29 => ?_); clear h28
          refine pl_skip h29 rfl rfl rfl (fun a30 h30 => ?_); clear h29
          refine pl_skip h30 rfl rfl rfl (fun a31 h31 => ?_); clear h30
          refine pl_skip h31 rfl rfl rfl (fun a32 h32 => ?_); clear h31
          refine pl_val (v := .bool false) h32 rfl rfl rfl (by kernel_rfl) (by kernel_rfl) (by kernel_rfl) (fun a33 h33 => ?_); clear h32
          refine pl_nil ?_
          refine co_then ?_
          refine co_false h33 rfl ?_
          refine wp_skip ?_
          refine co_then ?_
          refine co_seq ?_
          refine co_reg ?_
          refine pl_val (v := v) h33 rfl rfl rfl (by kernel_rfl) (by kernel_rfl) (by kernel_rfl) (fun a34 h34 => ?_); clear h33
          refine pl_want h34 rfl rfl rfl (op_call (args := #[v]) (R := fun res xw => ∃ u : Value, res = u ∧ xw.ownsRow w.heap.size 46 3 u l.length (l.flatMap pinE) ∧ Below w.heap.size w xw) rfl rfl rfl (by kernel_rfl) (by kernel_rfl) (Try.call66 _ _) (clonePin_any v l w hs (by first | omega | (simp; done) | (simp; omega))) (by rintro e x ⟨u, rfl, hq38, hb39⟩; exact ⟨_, rfl, ⟨u, rfl, hq38, hb39⟩⟩)) ?_; clear h34
          rintro u37 w36 a35 ⟨_, rfl, hq38, hb39⟩ h35
          have hB40 := hb_call hB0 hb39
          have hz41 := hB40.size
          have hz42 := hb39.size
          have hl43 := sl_len (row_sl hq38 pinE_len)
          refine pl_val (v := .int .i64 id) h35 rfl rfl rfl (by kernel_rfl) (by kernel_rfl) (by kernel_rfl) (fun a44 h44 => ?_); clear h35
          refine pl_val (v := .int .u64 ts) h44 rfl rfl rfl (by kernel_rfl) (by kernel_rfl) (by kernel_rfl) (fun a45 h45 => ?_); clear h44
          refine pl_val (v := .agg #[.int .i64 id, .int .u64 ts, .int .i64 8]) h45 rfl rfl rfl (by kernel_rfl) (by kernel_rfl) (by kernel_rfl) (fun a46 h46 => ?_); clear h45
          refine pl_want h46 rfl rfl rfl (op_new (v := fun N => .slice (some ⟨N, 0, none⟩) 1 1) (T := 46) (cs := #[.int .i64 id, .int .u64 ts, .int .i64 8]) (by kernel_rfl) (by kernel_rfl) (by kernel_rfl)) ?_; clear h46
          rintro _ w48 a47 ⟨N49, rfl, hN52, hz53, hk51, hg50⟩ h47
          have ha54 := row_fresh hq38 hN52
          have hB55 := hb_new hB40 hg50
          have hz56 := hB55.size
          have hz57 := hg50.size
          have hr58 := row_kept_new hq38 hg50
          try dsimp only at h47
          refine pl_want h47 rfl rfl rfl (op_append rfl w.heap.size 46 (z := .agg #[.int .i64 0, .int .u64 0, .int .i64 0]) (size := 3) (bytes := 24) Try.underlying77 (by kernel_rfl) rfl rfl rfl hr58 rfl hk51 rfl (by kernel_rfl) (by first | omega | (simp only [List.length_nil, List.length_append, List.length_cons, List.length_take, List.length_drop]; omega)) (by first | omega | (simp only [List.length_nil, List.length_append, List.length_cons, List.length_take, List.length_drop]; omega)) (by omega)) ?_; clear h47
          rintro v61 w60 a59 ⟨hr62, hg63⟩ h59
          have hr62' : w60.ownsRow w.heap.size 46 3 v61 ((l ++ [(id, ts, 8)]).length) ((l ++ [(id, ts, 8)]).flatMap pinE) := row_push (y := (id, ts, 8)) hr62 rfl rfl; clear hr62
          have hB64 := hb_row hB55 hr58 (by omega) hg63
          have hz65 := hB64.size
          have hz66 := hg63.size
          have hk67 := hk51.kept hg63 (ha54)
          refine pl_val (v := v61) h59 rfl rfl rfl (by kernel_rfl) (by kernel_rfl) (by kernel_rfl) (fun a68 h68 => ?_); clear h59
          refine pl_val (v := .int .i64 0) h68 rfl rfl rfl (by kernel_rfl) (by kernel_rfl) (by kernel_rfl) (fun a69 h69 => ?_); clear h68
          refine pl_nil ?_
          refine co_then ?_
          refine wp_ret ?_
          refine co_ret2 h69 rfl rfl rfl ?_
          cases hg.symm.trans (grant_ok0 (by omega) (by omega) (by omega))
          exact ⟨_, rfl, (row_low hr62' (by omega)), hB64⟩
        ·
          rw [hc22] at h21
          have hp70 : ((l.length : Nat) : Int) > 0 := of_decide_eq_true hc22
          clear hc22
          refine pl_val (v := v) h21 rfl rfl rfl (by kernel_rfl) (by kernel_rfl) (by kernel_rfl) (fun a71 h71 => ?_); clear h21
          refine pl_val (v := v) h71 rfl rfl rfl (by kernel_rfl) (by kernel_rfl) (by kernel_rfl) (fun a72 h72 => ?_); clear h71
          refine pl_val (v := .int .i64 ((l.length : Nat) : Int)) h72 rfl rfl rfl (by kernel_rfl) (by kernel_rfl) (rn_len rfl rfl Try.underlying77 hs) (fun a73 h73 => ?_); clear h72
          refine pl_val (v := .int .i64 (((l.length : Nat) : Int) - 1)) h73 rfl rfl rfl (by kernel_rfl) (by kernel_rfl) (rn_arith rfl rfl rfl rfl rfl rfl (IntWalk.i64_in _ (by omega))) (fun a74 h74 => ?_); clear h73
          obtain ⟨y75, hy75⟩ : ∃ z, l[(((l.length : Nat) : Int) - 1).toNat]? = some z := ⟨_, List.getElem?_eq_getElem (by first | omega | (simp; done) | (simp; omega))⟩
          refine pl_val (v := .pointer (some ⟨(blkOf v), offOf v + ((((l.length : Nat) : Int) - 1).toNat) * 3, none⟩)) h74 rfl rfl rfl (by kernel_rfl) (by kernel_rfl) (rn_index rfl rfl rfl Try.underlying77 Try.sizeOf46 hs (by omega) (by first | omega | (simp; done) | (simp; omega))) (fun a76 h76 => ?_); clear h74
          refine pl_val (v := .pointer (some ⟨(blkOf v), offOf v + ((((l.length : Nat) : Int) - 1).toNat) * 3, none⟩)) h76 rfl rfl rfl (by kernel_rfl) (by kernel_rfl) (by kernel_rfl) (fun a77 h77 => ?_); clear h76
          refine pl_val (v := .int .i64 y75.1) h77 rfl rfl rfl (by kernel_rfl) (by kernel_rfl) (rn_load1 rfl rfl Try.isAgg3 ((sl_at hs hy75) 0 _ rfl)) (fun a78 h78 => ?_); clear h77
          refine pl_val (v := .int .i64 id) h78 rfl rfl rfl (by kernel_rfl) (by kernel_rfl) (by kernel_rfl) (fun a79 h79 => ?_); clear h78
          refine pl_val (v := .bool (decide (y75.1 ≥ id))) h79 rfl rfl rfl (by kernel_rfl) (by kernel_rfl) (by kernel_rfl) (fun a80 h80 => ?_); clear h79
          refine pl_val (v := .bool (decide (y75.1 ≥ id))) h80 rfl rfl rfl (by kernel_rfl) (by kernel_rfl) (by kernel_rfl) (fun a81 h81 => ?_); clear h80
          refine pl_nil ?_
          refine co_then ?_
          cases hc82 : (decide (y75.1 ≥ id))
          ·
            rw [hc82] at h81
            have hp83 : ¬ (y75.1 ≥ id) := of_decide_eq_false hc82
            clear hc82
            refine co_false h81 rfl ?_
            refine wp_skip ?_
            refine co_then ?_
            refine co_seq ?_
            refine co_reg ?_
            refine pl_val (v := v) h81 rfl rfl rfl (by kernel_rfl) (by kernel_rfl) (by kernel_rfl) (fun a84 h84 => ?_); clear h81
            refine pl_want h84 rfl rfl rfl (op_call (args := #[v]) (R := fun res xw => ∃ u : Value, res = u ∧ xw.ownsRow w.heap.size 46 3 u l.length (l.flatMap pinE) ∧ Below w.heap.size w xw) rfl rfl rfl (by kernel_rfl) (by kernel_rfl) (Try.call66 _ _) (clonePin_any v l w hs (by first | omega | (simp; done) | (simp; omega))) (by rintro e x ⟨u, rfl, hq88, hb89⟩; exact ⟨_, rfl, ⟨u, rfl, hq88, hb89⟩⟩)) ?_; clear h84
            rintro u87 w86 a85 ⟨_, rfl, hq88, hb89⟩ h85
            have hB90 := hb_call hB0 hb89
            have hz91 := hB90.size
            have hz92 := hb89.size
            have hl93 := sl_len (row_sl hq88 pinE_len)
            refine pl_val (v := .int .i64 id) h85 rfl rfl rfl (by kernel_rfl) (by kernel_rfl) (by kernel_rfl) (fun a94 h94 => ?_); clear h85
            refine pl_val (v := .int .u64 ts) h94 rfl rfl rfl (by kernel_rfl) (by kernel_rfl) (by kernel_rfl) (fun a95 h95 => ?_); clear h94
            refine pl_val (v := .agg #[.int .i64 id, .int .u64 ts, .int .i64 8]) h95 rfl rfl rfl (by kernel_rfl) (by kernel_rfl) (by kernel_rfl) (fun a96 h96 => ?_); clear h95
            refine pl_want h96 rfl rfl rfl (op_new (v := fun N => .slice (some ⟨N, 0, none⟩) 1 1) (T := 46) (cs := #[.int .i64 id, .int .u64 ts, .int .i64 8]) (by kernel_rfl) (by kernel_rfl) (by kernel_rfl)) ?_; clear h96
            rintro _ w98 a97 ⟨N99, rfl, hN102, hz103, hk101, hg100⟩ h97
            have ha104 := row_fresh hq88 hN102
            have hB105 := hb_new hB90 hg100
            have hz106 := hB105.size
            have hz107 := hg100.size
            have hr108 := row_kept_new hq88 hg100
            try dsimp only at h97
            refine pl_want h97 rfl rfl rfl (op_append rfl w.heap.size 46 (z := .agg #[.int .i64 0, .int .u64 0, .int .i64 0]) (size := 3) (bytes := 24) Try.underlying77 (by kernel_rfl) rfl rfl rfl hr108 rfl hk101 rfl (by kernel_rfl) (by first | omega | (simp only [List.length_nil, List.length_append, List.length_cons, List.length_take, List.length_drop]; omega)) (by first | omega | (simp only [List.length_nil, List.length_append, List.length_cons, List.length_take, List.length_drop]; omega)) (by omega)) ?_; clear h97
            rintro v111 w110 a109 ⟨hr112, hg113⟩ h109
            have hr112' : w110.ownsRow w.heap.size 46 3 v111 ((l ++ [(id, ts, 8)]).length) ((l ++ [(id, ts, 8)]).flatMap pinE) := row_push (y := (id, ts, 8)) hr112 rfl rfl; clear hr112
            have hB114 := hb_row hB105 hr108 (by omega) hg113
            have hz115 := hB114.size
            have hz116 := hg113.size
            have hk117 := hk101.kept hg113 (ha104)
            refine pl_val (v := v111) h109 rfl rfl rfl (by kernel_rfl) (by kernel_rfl) (by kernel_rfl) (fun a118 h118 => ?_); clear h109
            refine pl_val (v := .int .i64 0) h118 rfl rfl rfl (by kernel_rfl) (by kernel_rfl) (by kernel_rfl) (fun a119 h119 => ?_); clear h118
            refine pl_nil ?_
            refine co_then ?_
            refine wp_ret ?_
            refine co_ret2 h119 rfl rfl rfl ?_
            cases hg.symm.trans (grant_ok (by omega) (by omega) hy75 (by omega) (by omega))
            exact ⟨_, rfl, (row_low hr112' (by omega)), hB114⟩
          ·
            rw [hc82] at h81
            have hp120 : y75.1 ≥ id := of_decide_eq_true hc82
            clear hc82
            refine co_true h81 rfl ?_
            refine co_seq ?_
            refine co_reg ?_
            refine pl_val (v := .slice none 0 0) h81 rfl rfl rfl (by kernel_rfl) (by kernel_rfl) (by kernel_rfl) (fun a121 h121 => ?_); clear h81
            refine pl_val (v := .int .i64 18) h121 rfl rfl rfl (by kernel_rfl) (by kernel_rfl) (by kernel_rfl) (fun a122 h122 => ?_); clear h121
            refine pl_nil ?_
            refine co_then ?_
            refine wp_ret ?_
            refine co_thenR ?_
            refine co_ret2 h122 rfl rfl rfl ?_
            cases hg.symm.trans (grant_ord (by omega) (by omega) hy75 (by omega) (by omega))
            exact ⟨_, rfl, (row_nilL _ _ _ _ _), hB0⟩
      ·
        rw [hc16] at h15
        have hp123 : id > 1073741824 := of_decide_eq_true hc16
        clear hc16
        refine co_true h15 rfl ?_
        refine co_seq ?_
        refine co_reg ?_
        refine pl_val (v := .slice none 0 0) h15 rfl rfl rfl (by kernel_rfl) (by kernel_rfl) (by kernel_rfl) (fun a124 h124 => ?_); clear h15
        refine pl_val (v := .int .i64 1) h124 rfl rfl rfl (by kernel_rfl) (by kernel_rfl) (by kernel_rfl) (fun a125 h125 => ?_); clear h124
        refine pl_nil ?_
        refine co_then ?_
        refine wp_ret ?_
        refine co_thenR ?_
        refine co_ret2 h125 rfl rfl rfl ?_
        cases hg.symm.trans (grant_arg (by omega) (by omega))
        exact ⟨_, rfl, (row_nilL _ _ _ _ _), hB0⟩
    ·
      rw [hc11] at h10
      have hp126 : id < 1 := of_decide_eq_true hc11
      clear hc11
      refine pl_skip h10 rfl rfl rfl (fun a127 h127 => ?_); clear h10
      refine pl_skip h127 rfl rfl rfl (fun a128 h128 => ?_); clear h127
      refine pl_val (v := .bool true) h128 rfl rfl rfl (by kernel_rfl) (by kernel_rfl) (by kernel_rfl) (fun a129 h129 => ?_); clear h128
      refine pl_nil ?_
      refine co_then ?_
      refine co_true h129 rfl ?_
      refine co_seq ?_
      refine co_reg ?_
      refine pl_val (v := .slice none 0 0) h129 rfl rfl rfl (by kernel_rfl) (by kernel_rfl) (by kernel_rfl) (fun a130 h130 => ?_); clear h129
      refine pl_val (v := .int .i64 1) h130 rfl rfl rfl (by kernel_rfl) (by kernel_rfl) (by kernel_rfl) (fun a131 h131 => ?_); clear h130
      refine pl_nil ?_
      refine co_then ?_
      refine wp_ret ?_
      refine co_thenR ?_
      refine co_ret2 h131 rfl rfl rfl ?_
      cases hg.symm.trans (grant_arg (by omega) (by omega))
      exact ⟨_, rfl, (row_nilL _ _ _ _ _), hB0⟩
  ·
    rw [hc6] at h5
    have hp132 : ((l.length : Nat) : Int) ≥ 3 := of_decide_eq_true hc6
    clear hc6
    refine co_true h5 rfl ?_
    refine co_seq ?_
    refine co_reg ?_
    refine pl_val (v := .slice none 0 0) h5 rfl rfl rfl (by kernel_rfl) (by kernel_rfl) (by kernel_rfl) (fun a133 h133 => ?_); clear h5
    refine pl_val (v := .int .i64 17) h133 rfl rfl rfl (by kernel_rfl) (by kernel_rfl) (by kernel_rfl) (fun a134 h134 => ?_); clear h133
    refine pl_nil ?_
    refine co_then ?_
    refine wp_ret ?_
    refine co_thenR ?_
    refine co_ret2 h134 rfl rfl rfl ?_
    cases hg.symm.trans (grant_full (by omega))
    exact ⟨_, rfl, (row_nilL _ _ _ _ _), hB0⟩
set_option maxRecDepth 100000 in
theorem rleaseGrant_any (v : Value) (l : List PinT) (id : Int) (ts : Int) (l2 : List PinT) (r : Int) (w : World) (hs : SliceOf pinE 3 w v l) (hlen : l.length ≤ 1000) (hg : grantP l id ts = (l2, r)) :
    Calls Try.prog 37 #[v, .int .i64 id, .int .u64 ts] w fun e w' => ∃ (u : Value), e = .returned (.tuple #[u, .int .i64 r]) ∧ w'.ownsRow w.heap.size 46 3 u l2.length (l2.flatMap pinE) ∧ Below w.heap.size w w' := by
  have hB0 := Below.refl w.heap.size w
  have hl_hs := sl_len hs
  refine co_enter (n := 39) Try.func37 rfl rfl rfl [(0, v), (1, .int .i64 id), (2, .int .u64 ts)] rfl (fun a h0 => ?_)
  refine co_seq ?_
  refine co_reg ?_
  refine pl_val (v := .slice none 0 0) h0 rfl rfl rfl (by kernel_rfl) (by kernel_rfl) (by kernel_rfl) (fun a1 h1 => ?_); clear h0
  refine pl_val (v := .int .i64 0) h1 rfl rfl rfl (by kernel_rfl) (by kernel_rfl) (by kernel_rfl) (fun a2 h2 => ?_); clear h1
  refine pl_nil ?_
  refine co_then ?_
  refine co_seq ?_
  refine co_seq ?_
  refine co_reg ?_
  refine pl_val (v := v) h2 rfl rfl rfl (by kernel_rfl) (by kernel_rfl) (by kernel_rfl) (fun a3 h3 => ?_); clear h2
  refine pl_val (v := .int .i64 ((l.length : Nat) : Int)) h3 rfl rfl rfl (by kernel_rfl) (by kernel_rfl) (rn_len rfl rfl Try.underlying77 hs) (fun a4 h4 => ?_); clear h3
  refine pl_val (v := .bool (decide (((l.length : Nat) : Int) ≥ 3))) h4 rfl rfl rfl (by kernel_rfl) (by kernel_rfl) (by kernel_rfl) (fun a5 h5 => ?_); clear h4
  refine pl_nil ?_
  refine co_then ?_
  cases hc6 : (decide (((l.length : Nat) : Int) ≥ 3))
  ·
    rw [hc6] at h5
    have hp7 : ¬ (((l.length : Nat) : Int) ≥ 3) := of_decide_eq_false hc6
    clear hc6
    refine co_false h5 rfl ?_
    refine wp_skip ?_
    refine co_then ?_
    refine co_seq ?_
    refine co_seq ?_
    refine co_reg ?_
    refine pl_val (v := .int .i64 id) h5 rfl rfl rfl (by kernel_rfl) (by kernel_rfl) (by kernel_rfl) (fun a8 h8 => ?_); clear h5
    refine pl_val (v := .bool (decide (id < 1))) h8 rfl rfl rfl (by kernel_rfl) (by kernel_rfl) (by kernel_rfl) (fun a9 h9 => ?_); clear h8
    refine pl_val (v := .bool (decide (id < 1))) h9 rfl rfl rfl (by kernel_rfl) (by kernel_rfl) (by kernel_rfl) (fun a10 h10 => ?_); clear h9
    cases hc11 : (decide (id < 1))
    ·
      rw [hc11] at h10
      have hp12 : ¬ (id < 1) := of_decide_eq_false hc11
      clear hc11
      refine pl_val (v := .int .i64 id) h10 rfl rfl rfl (by kernel_rfl) (by kernel_rfl) (by kernel_rfl) (fun a13 h13 => ?_); clear h10
      refine pl_val (v := .bool (decide (id > 1073741824))) h13 rfl rfl rfl (by kernel_rfl) (by kernel_rfl) (by kernel_rfl) (fun a14 h14 => ?_); clear h13
      refine pl_val (v := .bool (decide (id > 1073741824))) h14 rfl rfl rfl (by kernel_rfl) (by kernel_rfl) (by kernel_rfl) (fun a15 h15 => ?_); clear h14
      refine pl_nil ?_
      refine co_then ?_
      cases hc16 : (decide (id > 1073741824))
      ·
        rw [hc16] at h15
        have hp17 : ¬ (id > 1073741824) := of_decide_eq_false hc16
        clear hc16
        refine co_false h15 rfl ?_
        refine wp_skip ?_
        refine co_then ?_
        refine co_seq ?_
        refine co_seq ?_
        refine co_reg ?_
        refine pl_val (v := v) h15 rfl rfl rfl (by kernel_rfl) (by kernel_rfl) (by kernel_rfl) (fun a18 h18 => ?_); clear h15
        refine pl_val (v := .int .i64 ((l.length : Nat) : Int)) h18 rfl rfl rfl (by kernel_rfl) (by kernel_rfl) (rn_len rfl rfl Try.underlying77 hs) (fun a19 h19 => ?_); clear h18
        refine pl_val (v := .bool (decide (((l.length : Nat) : Int) > 0))) h19 rfl rfl rfl (by kernel_rfl) (by kernel_rfl) (by kernel_rfl) (fun a20 h20 => ?_); clear h19
        refine pl_val (v := .bool (decide (((l.length : Nat) : Int) > 0))) h20 rfl rfl rfl (by kernel_rfl) (by kernel_rfl) (by kernel_rfl) (fun a21 h21 => ?_); clear h20
        cases hc22 : (decide (((l.length : Nat) : Int) > 0))
        ·
          rw [hc22] at h21
          have hp23 : ¬ (((l.length : Nat) : Int) > 0) := of_decide_eq_false hc22
          clear hc22
          refine pl_skip h21 rfl rfl rfl (fun a24 h24 => ?_); clear h21
          refine pl_skip h24 rfl rfl rfl (fun a25 h25 => ?_); clear h24
          refine pl_skip h25 rfl rfl rfl (fun a26 h26 => ?_); clear h25
          refine pl_skip h26 rfl rfl rfl (fun a27 h27 => ?_); clear h26
          refine pl_skip h27 rfl rfl rfl (fun a28 h28 => ?_); clear h27
          refine pl_skip h28 rfl rfl rfl (fun a29 h29 => ?_); clear h28
          refine pl_skip h29 rfl rfl rfl (fun a30 h30 => ?_); clear h29
          refine pl_skip h30 rfl rfl rfl (fun a31 h31 => ?_); clear h30
          refine pl_skip h31 rfl rfl rfl (fun a32 h32 => ?_); clear h31
          refine pl_val (v := .bool false) h32 rfl rfl rfl (by kernel_rfl) (by kernel_rfl) (by kernel_rfl) (fun a33 h33 => ?_); clear h32
          refine pl_nil ?_
          refine co_then ?_
          refine co_false h33 rfl ?_
          refine wp_skip ?_
          refine co_then ?_
          refine co_seq ?_
          refine co_reg ?_
          refine pl_want h33 rfl rfl rfl (op_new (v := fun N => .slice (some ⟨N, 0, none⟩) 0 0) (T := 46) (cs := #[]) (by kernel_rfl) (by kernel_rfl) (by kernel_rfl)) ?_; clear h33
          rintro _ w35 a34 ⟨N36, rfl, hN39, hz40, hk38, hg37⟩ h34
          have hB41 := hb_new hB0 hg37
          have hz42 := hB41.size
          have hz43 := hg37.size
          try dsimp only at h34
          refine pl_val (v := v) h34 rfl rfl rfl (by kernel_rfl) (by kernel_rfl) (by kernel_rfl) (fun a44 h44 => ?_); clear h34
          have hr47 := row_of_blkL hk38 (Nat.le_refl _) 3 pinE
          refine pl_want h44 rfl rfl rfl (op_appendSrc rfl N36 46 (z := .agg #[.int .i64 0, .int .u64 0, .int .i64 0]) (size := 3) (bytes := 24) Try.underlying77 (by kernel_rfl) rfl rfl rfl hr47 rfl (hs.below hB41) (fun y _ => ⟨pinE_len y, pinE_one y⟩) (by first | omega | (simp only [List.length_nil, List.length_append, List.length_cons, List.length_take, List.length_drop]; omega)) (by first | omega | (simp only [List.length_nil, List.length_append, List.length_cons, List.length_take, List.length_drop]; omega)) (by omega)) ?_; clear h44
          rintro v48 w46 a45 ⟨hr49, hg50⟩ h45
          have hr49' : w46.ownsRow N36 46 3 v48 l.length (l.flatMap pinE) := row_app (l := []) hr49; clear hr49
          have hB51 := hb_row hB41 hr47 (by omega) hg50
          have hz52 := hB51.size
          have hz53 := hg50.size
          refine pl_val (v := .int .i64 id) h45 rfl rfl rfl (by kernel_rfl) (by kernel_rfl) (by kernel_rfl) (fun a54 h54 => ?_); clear h45
          refine pl_val (v := .int .u64 ts) h54 rfl rfl rfl (by kernel_rfl) (by kernel_rfl) (by kernel_rfl) (fun a55 h55 => ?_); clear h54
          refine pl_val (v := .agg #[.int .i64 id, .int .u64 ts, .int .i64 8]) h55 rfl rfl rfl (by kernel_rfl) (by kernel_rfl) (by kernel_rfl) (fun a56 h56 => ?_); clear h55
          refine pl_want h56 rfl rfl rfl (op_new (v := fun N => .slice (some ⟨N, 0, none⟩) 1 1) (T := 46) (cs := #[.int .i64 id, .int .u64 ts, .int .i64 8]) (by kernel_rfl) (by kernel_rfl) (by kernel_rfl)) ?_; clear h56
          rintro _ w58 a57 ⟨N59, rfl, hN62, hz63, hk61, hg60⟩ h57
          have ha64 := row_fresh hr49' hN62
          have hB65 := hb_new hB51 hg60
          have hz66 := hB65.size
          have hz67 := hg60.size
          have hr68 := row_kept_new hr49' hg60
          try dsimp only at h57
          refine pl_want h57 rfl rfl rfl (op_append rfl N36 46 (z := .agg #[.int .i64 0, .int .u64 0, .int .i64 0]) (size := 3) (bytes := 24) Try.underlying77 (by kernel_rfl) rfl rfl rfl hr68 rfl hk61 rfl (by kernel_rfl) (by first | omega | (simp only [List.length_nil, List.length_append, List.length_cons, List.length_take, List.length_drop]; omega)) (by first | omega | (simp only [List.length_nil, List.length_append, List.length_cons, List.length_take, List.length_drop]; omega)) (by omega)) ?_; clear h57
          rintro v71 w70 a69 ⟨hr72, hg73⟩ h69
          have hr72' : w70.ownsRow N36 46 3 v71 ((l ++ [(id, ts, 8)]).length) ((l ++ [(id, ts, 8)]).flatMap pinE) := row_push (y := (id, ts, 8)) hr72 rfl rfl; clear hr72
          have hB74 := hb_row hB65 hr68 (by omega) hg73
          have hz75 := hB74.size
          have hz76 := hg73.size
          have hk77 := hk61.kept hg73 (ha64)
          refine pl_val (v := v71) h69 rfl rfl rfl (by kernel_rfl) (by kernel_rfl) (by kernel_rfl) (fun a78 h78 => ?_); clear h69
          refine pl_val (v := .int .i64 0) h78 rfl rfl rfl (by kernel_rfl) (by kernel_rfl) (by kernel_rfl) (fun a79 h79 => ?_); clear h78
          refine pl_nil ?_
          refine co_then ?_
          refine wp_ret ?_
          refine co_ret2 h79 rfl rfl rfl ?_
          cases hg.symm.trans (grant_ok0 (by omega) (by omega) (by omega))
          exact ⟨_, rfl, (row_low hr72' (by omega)), hB74⟩
        ·
          rw [hc22] at h21
          have hp80 : ((l.length : Nat) : Int) > 0 := of_decide_eq_true hc22
          clear hc22
          refine pl_val (v := v) h21 rfl rfl rfl (by kernel_rfl) (by kernel_rfl) (by kernel_rfl) (fun a81 h81 => ?_); clear h21
          refine pl_val (v := v) h81 rfl rfl rfl (by kernel_rfl) (by kernel_rfl) (by kernel_rfl) (fun a82 h82 => ?_); clear h81
          refine pl_val (v := .int .i64 ((l.length : Nat) : Int)) h82 rfl rfl rfl (by kernel_rfl) (by kernel_rfl) (rn_len rfl rfl Try.underlying77 hs) (fun a83 h83 => ?_); clear h82
          refine pl_val (v := .int .i64 (((l.length : Nat) : Int) - 1)) h83 rfl rfl rfl (by kernel_rfl) (by kernel_rfl) (rn_arith rfl rfl rfl rfl rfl rfl (IntWalk.i64_in _ (by omega))) (fun a84 h84 => ?_); clear h83
          obtain ⟨y85, hy85⟩ : ∃ z, l[(((l.length : Nat) : Int) - 1).toNat]? = some z := ⟨_, List.getElem?_eq_getElem (by first | omega | (simp; done) | (simp; omega))⟩
          refine pl_val (v := .pointer (some ⟨(blkOf v), offOf v + ((((l.length : Nat) : Int) - 1).toNat) * 3, none⟩)) h84 rfl rfl rfl (by kernel_rfl) (by kernel_rfl) (rn_index rfl rfl rfl Try.underlying77 Try.sizeOf46 hs (by omega) (by first | omega | (simp; done) | (simp; omega))) (fun a86 h86 => ?_); clear h84
          refine pl_val (v := .pointer (some ⟨(blkOf v), offOf v + ((((l.length : Nat) : Int) - 1).toNat) * 3, none⟩)) h86 rfl rfl rfl (by kernel_rfl) (by kernel_rfl) (by kernel_rfl) (fun a87 h87 => ?_); clear h86
          refine pl_val (v := .int .i64 y85.1) h87 rfl rfl rfl (by kernel_rfl) (by kernel_rfl) (rn_load1 rfl rfl Try.isAgg3 ((sl_at hs hy85) 0 _ rfl)) (fun a88 h88 => ?_); clear h87
          refine pl_val (v := .int .i64 id) h88 rfl rfl rfl (by kernel_rfl) (by kernel_rfl) (by kernel_rfl) (fun a89 h89 => ?_); clear h88
          refine pl_val (v := .bool (decide (y85.1 ≥ id))) h89 rfl rfl rfl (by kernel_rfl) (by kernel_rfl) (by kernel_rfl) (fun a90 h90 => ?_); clear h89
          refine pl_val (v := .bool (decide (y85.1 ≥ id))) h90 rfl rfl rfl (by kernel_rfl) (by kernel_rfl) (by kernel_rfl) (fun a91 h91 => ?_); clear h90
          refine pl_nil ?_
          refine co_then ?_
          cases hc92 : (decide (y85.1 ≥ id))
          ·
            rw [hc92] at h91
            have hp93 : ¬ (y85.1 ≥ id) := of_decide_eq_false hc92
            clear hc92
            refine co_false h91 rfl ?_
            refine wp_skip ?_
            refine co_then ?_
            refine co_seq ?_
            refine co_reg ?_
            refine pl_want h91 rfl rfl rfl (op_new (v := fun N => .slice (some ⟨N, 0, none⟩) 0 0) (T := 46) (cs := #[]) (by kernel_rfl) (by kernel_rfl) (by kernel_rfl)) ?_; clear h91
            rintro _ w95 a94 ⟨N96, rfl, hN99, hz100, hk98, hg97⟩ h94
            have hB101 := hb_new hB0 hg97
            have hz102 := hB101.size
            have hz103 := hg97.size
            try dsimp only at h94
            refine pl_val (v := v) h94 rfl rfl rfl (by kernel_rfl) (by kernel_rfl) (by kernel_rfl) (fun a104 h104 => ?_); clear h94
            have hr107 := row_of_blkL hk98 (Nat.le_refl _) 3 pinE
            refine pl_want h104 rfl rfl rfl (op_appendSrc rfl N96 46 (z := .agg #[.int .i64 0, .int .u64 0, .int .i64 0]) (size := 3) (bytes := 24) Try.underlying77 (by kernel_rfl) rfl rfl rfl hr107 rfl (hs.below hB101) (fun y _ => ⟨pinE_len y, pinE_one y⟩) (by first | omega | (simp only [List.length_nil, List.length_append, List.length_cons, List.length_take, List.length_drop]; omega)) (by first | omega | (simp only [List.length_nil, List.length_append, List.length_cons, List.length_take, List.length_drop]; omega)) (by omega)) ?_; clear h104
            rintro v108 w106 a105 ⟨hr109, hg110⟩ h105
            have hr109' : w106.ownsRow N96 46 3 v108 l.length (l.flatMap pinE) := row_app (l := []) hr109; clear hr109
            have hB111 := hb_row hB101 hr107 (by omega) hg110
            have hz112 := hB111.size
            have hz113 := hg110.size
            refine pl_val (v := .int .i64 id) h105 rfl rfl rfl (by kernel_rfl) (by kernel_rfl) (by kernel_rfl) (fun a114 h114 => ?_); clear h105
            refine pl_val (v := .int .u64 ts) h114 rfl rfl rfl (by kernel_rfl) (by kernel_rfl) (by kernel_rfl) (fun a115 h115 => ?_); clear h114
            refine pl_val (v := .agg #[.int .i64 id, .int .u64 ts, .int .i64 8]) h115 rfl rfl rfl (by kernel_rfl) (by kernel_rfl) (by kernel_rfl) (fun a116 h116 => ?_); clear h115
            refine pl_want h116 rfl rfl rfl (op_new (v := fun N => .slice (some ⟨N, 0, none⟩) 1 1) (T := 46) (cs := #[.int .i64 id, .int .u64 ts, .int .i64 8]) (by kernel_rfl) (by kernel_rfl) (by kernel_rfl)) ?_; clear h116
            rintro _ w118 a117 ⟨N119, rfl, hN122, hz123, hk121, hg120⟩ h117
            have ha124 := row_fresh hr109' hN122
            have hB125 := hb_new hB111 hg120
            have hz126 := hB125.size
            have hz127 := hg120.size
            have hr128 := row_kept_new hr109' hg120
            try dsimp only at h117
            refine pl_want h117 rfl rfl rfl (op_append rfl N96 46 (z := .agg #[.int .i64 0, .int .u64 0, .int .i64 0]) (size := 3) (bytes := 24) Try.underlying77 (by kernel_rfl) rfl rfl rfl hr128 rfl hk121 rfl (by kernel_rfl) (by first | omega | (simp only [List.length_nil, List.length_append, List.length_cons, List.length_take, List.length_drop]; omega)) (by first | omega | (simp only [List.length_nil, List.length_append, List.length_cons, List.length_take, List.length_drop]; omega)) (by omega)) ?_; clear h117
            rintro v131 w130 a129 ⟨hr132, hg133⟩ h129
            have hr132' : w130.ownsRow N96 46 3 v131 ((l ++ [(id, ts, 8)]).length) ((l ++ [(id, ts, 8)]).flatMap pinE) := row_push (y := (id, ts, 8)) hr132 rfl rfl; clear hr132
            have hB134 := hb_row hB125 hr128 (by omega) hg133
            have hz135 := hB134.size
            have hz136 := hg133.size
            have hk137 := hk121.kept hg133 (ha124)
            refine pl_val (v := v131) h129 rfl rfl rfl (by kernel_rfl) (by kernel_rfl) (by kernel_rfl) (fun a138 h138 => ?_); clear h129
            refine pl_val (v := .int .i64 0) h138 rfl rfl rfl (by kernel_rfl) (by kernel_rfl) (by kernel_rfl) (fun a139 h139 => ?_); clear h138
            refine pl_nil ?_
            refine co_then ?_
            refine wp_ret ?_
            refine co_ret2 h139 rfl rfl rfl ?_
            cases hg.symm.trans (grant_ok (by omega) (by omega) hy85 (by omega) (by omega))
            exact ⟨_, rfl, (row_low hr132' (by omega)), hB134⟩
          ·
            rw [hc92] at h91
            have hp140 : y85.1 ≥ id := of_decide_eq_true hc92
            clear hc92
            refine co_true h91 rfl ?_
            refine co_seq ?_
            refine co_reg ?_
            refine pl_val (v := .slice none 0 0) h91 rfl rfl rfl (by kernel_rfl) (by kernel_rfl) (by kernel_rfl) (fun a141 h141 => ?_); clear h91
            refine pl_val (v := .int .i64 18) h141 rfl rfl rfl (by kernel_rfl) (by kernel_rfl) (by kernel_rfl) (fun a142 h142 => ?_); clear h141
            refine pl_nil ?_
            refine co_then ?_
            refine wp_ret ?_
            refine co_thenR ?_
            refine co_ret2 h142 rfl rfl rfl ?_
            cases hg.symm.trans (grant_ord (by omega) (by omega) hy85 (by omega) (by omega))
            exact ⟨_, rfl, (row_nilL _ _ _ _ _), hB0⟩
      ·
        rw [hc16] at h15
        have hp143 : id > 1073741824 := of_decide_eq_true hc16
        clear hc16
        refine co_true h15 rfl ?_
        refine co_seq ?_
        refine co_reg ?_
        refine pl_val (v := .slice none 0 0) h15 rfl rfl rfl (by kernel_rfl) (by kernel_rfl) (by kernel_rfl) (fun a144 h144 => ?_); clear h15
        refine pl_val (v := .int .i64 1) h144 rfl rfl rfl (by kernel_rfl) (by kernel_rfl) (by kernel_rfl) (fun a145 h145 => ?_); clear h144
        refine pl_nil ?_
        refine co_then ?_
        refine wp_ret ?_
        refine co_thenR ?_
        refine co_ret2 h145 rfl rfl rfl ?_
        cases hg.symm.trans (grant_arg (by omega) (by omega))
        exact ⟨_, rfl, (row_nilL _ _ _ _ _), hB0⟩
    ·
      rw [hc11] at h10
      have hp146 : id < 1 := of_decide_eq_true hc11
      clear hc11
      refine pl_skip h10 rfl rfl rfl (fun a147 h147 => ?_); clear h10
      refine pl_skip h147 rfl rfl rfl (fun a148 h148 => ?_); clear h147
      refine pl_val (v := .bool true) h148 rfl rfl rfl (by kernel_rfl) (by kernel_rfl) (by kernel_rfl) (fun a149 h149 => ?_); clear h148
      refine pl_nil ?_
      refine co_then ?_
      refine co_true h149 rfl ?_
      refine co_seq ?_
      refine co_reg ?_
      refine pl_val (v := .slice none 0 0) h149 rfl rfl rfl (by kernel_rfl) (by kernel_rfl) (by kernel_rfl) (fun a150 h150 => ?_); clear h149
      refine pl_val (v := .int .i64 1) h150 rfl rfl rfl (by kernel_rfl) (by kernel_rfl) (by kernel_rfl) (fun a151 h151 => ?_); clear h150
      refine pl_nil ?_
      refine co_then ?_
      refine wp_ret ?_
      refine co_thenR ?_
      refine co_ret2 h151 rfl rfl rfl ?_
      cases hg.symm.trans (grant_arg (by omega) (by omega))
      exact ⟨_, rfl, (row_nilL _ _ _ _ _), hB0⟩
  ·
    rw [hc6] at h5
    have hp152 : ((l.length : Nat) : Int) ≥ 3 := of_decide_eq_true hc6
    clear hc6
    refine co_true h5 rfl ?_
    refine co_seq ?_
    refine co_reg ?_
    refine pl_val (v := .slice none 0 0) h5 rfl rfl rfl (by kernel_rfl) (by kernel_rfl) (by kernel_rfl) (fun a153 h153 => ?_); clear h5
    refine pl_val (v := .int .i64 17) h153 rfl rfl rfl (by kernel_rfl) (by kernel_rfl) (by kernel_rfl) (fun a154 h154 => ?_); clear h153
    refine pl_nil ?_
    refine co_then ?_
    refine wp_ret ?_
    refine co_thenR ?_
    refine co_ret2 h154 rfl rfl rfl ?_
    cases hg.symm.trans (grant_full (by omega))
    exact ⟨_, rfl, (row_nilL _ _ _ _ _), hB0⟩
set_option maxRecDepth 100000 in
theorem leaseRenew_any (v : Value) (l : List PinT) (id : Int) (l2 : List PinT) (r : Int) (w : World) (hs : SliceOf pinE 3 w v l) (hlen : l.length ≤ 1000) (hg : renewP l id = (l2, r)) :
    Calls Try.prog 38 #[v, .int .i64 id] w fun e w' => ∃ (u : Value), e = .returned (.tuple #[u, .int .i64 r]) ∧ w'.ownsRow w.heap.size 46 3 u l2.length (l2.flatMap pinE) ∧ Below w.heap.size w w' := by
  have hfl := findP_lt l id
  have hB0 := Below.refl w.heap.size w
  have hl_hs := sl_len hs
  refine co_enter (n := 20) Try.func38 rfl rfl rfl [(0, v), (1, .int .i64 id)] rfl (fun a h0 => ?_)
  refine co_seq ?_
  refine co_reg ?_
  refine pl_val (v := .slice none 0 0) h0 rfl rfl rfl (by kernel_rfl) (by kernel_rfl) (by kernel_rfl) (fun a1 h1 => ?_); clear h0
  refine pl_val (v := .int .i64 0) h1 rfl rfl rfl (by kernel_rfl) (by kernel_rfl) (by kernel_rfl) (fun a2 h2 => ?_); clear h1
  refine pl_nil ?_
  refine co_then ?_
  refine co_seq ?_
  refine co_reg ?_
  refine pl_val (v := v) h2 rfl rfl rfl (by kernel_rfl) (by kernel_rfl) (by kernel_rfl) (fun a3 h3 => ?_); clear h2
  refine pl_val (v := .int .i64 id) h3 rfl rfl rfl (by kernel_rfl) (by kernel_rfl) (by kernel_rfl) (fun a4 h4 => ?_); clear h3
  refine pl_want h4 rfl rfl rfl (op_call (args := #[v, .int .i64 id]) (R := fun res xw => res = .int .i64 (findP l id) ∧ Below w.heap.size w xw) rfl rfl rfl (by kernel_rfl) (by kernel_rfl) (Try.call67 _ _) (place_any v l id w hs) (by rintro e x ⟨rfl, hb7⟩; exact ⟨_, rfl, ⟨rfl, hb7⟩⟩)) ?_; clear h4
  rintro _ w6 a5 ⟨rfl, hb7⟩ h5
  have hB8 := hb_call hB0 hb7
  have hz9 := hB8.size
  have hz10 := hb7.size
  refine pl_val (v := .int .i64 (findP l id)) h5 rfl rfl rfl (by kernel_rfl) (by kernel_rfl) (by kernel_rfl) (fun a11 h11 => ?_); clear h5
  refine pl_nil ?_
  refine co_then ?_
  refine co_seq ?_
  refine co_seq ?_
  refine co_reg ?_
  refine pl_val (v := .int .i64 (findP l id)) h11 rfl rfl rfl (by kernel_rfl) (by kernel_rfl) (by kernel_rfl) (fun a12 h12 => ?_); clear h11
  refine pl_val (v := .bool (decide (findP l id < 0))) h12 rfl rfl rfl (by kernel_rfl) (by kernel_rfl) (by kernel_rfl) (fun a13 h13 => ?_); clear h12
  refine pl_nil ?_
  refine co_then ?_
  cases hc14 : (decide (findP l id < 0))
  ·
    rw [hc14] at h13
    have hp15 : ¬ (findP l id < 0) := of_decide_eq_false hc14
    clear hc14
    refine co_false h13 rfl ?_
    refine wp_skip ?_
    refine co_then ?_
    refine co_seq ?_
    refine co_reg ?_
    refine pl_val (v := v) h13 rfl rfl rfl (by kernel_rfl) (by kernel_rfl) (by kernel_rfl) (fun a16 h16 => ?_); clear h13
    refine pl_want h16 rfl rfl rfl (op_call (args := #[v]) (R := fun res xw => ∃ u : Value, res = u ∧ xw.ownsRow w6.heap.size 46 3 u l.length (l.flatMap pinE) ∧ Below w6.heap.size w6 xw) rfl rfl rfl (by kernel_rfl) (by kernel_rfl) (Try.call66 _ _) (clonePin_any v l w6 (hs.below hB8) (by first | omega | (simp; done) | (simp; omega))) (by rintro e x ⟨u, rfl, hq20, hb21⟩; exact ⟨_, rfl, ⟨u, rfl, hq20, hb21⟩⟩)) ?_; clear h16
    rintro u19 w18 a17 ⟨_, rfl, hq20, hb21⟩ h17
    have hB22 := hb_call hB8 hb21
    have hz23 := hB22.size
    have hz24 := hb21.size
    have hl25 := sl_len (row_sl hq20 pinE_len)
    refine pl_val (v := u19) h17 rfl rfl rfl (by kernel_rfl) (by kernel_rfl) (by kernel_rfl) (fun a26 h26 => ?_); clear h17
    refine pl_nil ?_
    refine co_then ?_
    refine co_seq ?_
    refine co_reg ?_
    refine pl_val (v := u19) h26 rfl rfl rfl (by kernel_rfl) (by kernel_rfl) (by kernel_rfl) (fun a27 h27 => ?_); clear h26
    refine pl_val (v := .int .i64 (findP l id)) h27 rfl rfl rfl (by kernel_rfl) (by kernel_rfl) (by kernel_rfl) (fun a28 h28 => ?_); clear h27
    obtain ⟨y29, hy29⟩ : ∃ z, l[(findP l id).toNat]? = some z := ⟨_, List.getElem?_eq_getElem (by first | omega | (simp; done) | (simp; omega))⟩
    refine pl_val (v := .pointer (some ⟨(blkOf u19), offOf u19 + ((findP l id).toNat) * 3, none⟩)) h28 rfl rfl rfl (by kernel_rfl) (by kernel_rfl) (rn_index rfl rfl rfl Try.underlying77 Try.sizeOf46 (row_sl hq20 pinE_len) (by omega) (by first | omega | (simp; done) | (simp; omega))) (fun a30 h30 => ?_); clear h28
    refine pl_val (v := .pointer (some ⟨(blkOf u19), offOf u19 + ((findP l id).toNat) * 3 + 2, none⟩)) h30 rfl rfl rfl (by kernel_rfl) (by kernel_rfl) (by kernel_rfl) (fun a31 h31 => ?_); clear h30
    refine pl_doW h31 rfl rfl (op_storeRow (c := ((findP l id).toNat) * 3 + 2) rfl rfl rfl rfl Try.sizeOf3 hq20 (flat_lt pinE_len (by omega) (by omega)) (by first | rfl | omega)) ?_; clear h31
    rintro _ w33 a32 ⟨hr34, hz35, hg36⟩ h32
    have hr34' := row_set (y' := (y29.1, y29.2.1, 8)) hr34 pinE_len hy29 (by omega) rfl; clear hr34
    have hB37 := hb_row hB22 hq20 (by omega) hg36
    have hz38 := hB37.size
    have hz39 := hg36.size
    refine pl_nil ?_
    refine co_then ?_
    refine co_seq ?_
    refine co_reg ?_
    refine pl_val (v := u19) h32 rfl rfl rfl (by kernel_rfl) (by kernel_rfl) (by kernel_rfl) (fun a40 h40 => ?_); clear h32
    refine pl_val (v := u19) h40 rfl rfl rfl (by kernel_rfl) (by kernel_rfl) (by kernel_rfl) (fun a41 h41 => ?_); clear h40
    refine pl_val (v := .int .i64 0) h41 rfl rfl rfl (by kernel_rfl) (by kernel_rfl) (by kernel_rfl) (fun a42 h42 => ?_); clear h41
    refine pl_nil ?_
    refine co_then ?_
    refine wp_ret ?_
    refine co_ret2 h42 rfl rfl rfl ?_
    cases hg.symm.trans (renew_ok (by omega) rfl hy29)
    exact ⟨_, rfl, (row_low hr34' (by omega)), hB37⟩
  ·
    rw [hc14] at h13
    have hp43 : findP l id < 0 := of_decide_eq_true hc14
    clear hc14
    refine co_true h13 rfl ?_
    refine co_seq ?_
    refine co_reg ?_
    refine pl_val (v := .slice none 0 0) h13 rfl rfl rfl (by kernel_rfl) (by kernel_rfl) (by kernel_rfl) (fun a44 h44 => ?_); clear h13
    refine pl_val (v := .int .i64 7) h44 rfl rfl rfl (by kernel_rfl) (by kernel_rfl) (by kernel_rfl) (fun a45 h45 => ?_); clear h44
    refine pl_nil ?_
    refine co_then ?_
    refine wp_ret ?_
    refine co_thenR ?_
    refine co_ret2 h45 rfl rfl rfl ?_
    cases hg.symm.trans (renew_no (by omega))
    exact ⟨_, rfl, (row_nilL _ _ _ _ _), hB8⟩
set_option maxRecDepth 100000 in
theorem rleaseRenew_any (v : Value) (l : List PinT) (id : Int) (l2 : List PinT) (r : Int) (w : World) (hs : SliceOf pinE 3 w v l) (hlen : l.length ≤ 1000) (hg : renewP l id = (l2, r)) :
    Calls Try.prog 39 #[v, .int .i64 id] w fun e w' => ∃ (u : Value), e = .returned (.tuple #[u, .int .i64 r]) ∧ w'.ownsRow w.heap.size 46 3 u l2.length (l2.flatMap pinE) ∧ Below w.heap.size w w' := by
  have hfl := findP_lt l id
  have hB0 := Below.refl w.heap.size w
  have hl_hs := sl_len hs
  refine co_enter (n := 21) Try.func39 rfl rfl rfl [(0, v), (1, .int .i64 id)] rfl (fun a h0 => ?_)
  refine co_seq ?_
  refine co_reg ?_
  refine pl_val (v := .slice none 0 0) h0 rfl rfl rfl (by kernel_rfl) (by kernel_rfl) (by kernel_rfl) (fun a1 h1 => ?_); clear h0
  refine pl_val (v := .int .i64 0) h1 rfl rfl rfl (by kernel_rfl) (by kernel_rfl) (by kernel_rfl) (fun a2 h2 => ?_); clear h1
  refine pl_nil ?_
  refine co_then ?_
  refine co_seq ?_
  refine co_reg ?_
  refine pl_val (v := v) h2 rfl rfl rfl (by kernel_rfl) (by kernel_rfl) (by kernel_rfl) (fun a3 h3 => ?_); clear h2
  refine pl_val (v := .int .i64 id) h3 rfl rfl rfl (by kernel_rfl) (by kernel_rfl) (by kernel_rfl) (fun a4 h4 => ?_); clear h3
  refine pl_want h4 rfl rfl rfl (op_call (args := #[v, .int .i64 id]) (R := fun res xw => res = .int .i64 (findP l id) ∧ Below w.heap.size w xw) rfl rfl rfl (by kernel_rfl) (by kernel_rfl) (Try.call68 _ _) (rfind_any v l id w hs) (by rintro e x ⟨rfl, hb7⟩; exact ⟨_, rfl, ⟨rfl, hb7⟩⟩)) ?_; clear h4
  rintro _ w6 a5 ⟨rfl, hb7⟩ h5
  have hB8 := hb_call hB0 hb7
  have hz9 := hB8.size
  have hz10 := hb7.size
  refine pl_val (v := .int .i64 (findP l id)) h5 rfl rfl rfl (by kernel_rfl) (by kernel_rfl) (by kernel_rfl) (fun a11 h11 => ?_); clear h5
  refine pl_nil ?_
  refine co_then ?_
  refine co_seq ?_
  refine co_seq ?_
  refine co_reg ?_
  refine pl_val (v := .int .i64 (findP l id)) h11 rfl rfl rfl (by kernel_rfl) (by kernel_rfl) (by kernel_rfl) (fun a12 h12 => ?_); clear h11
  refine pl_val (v := .bool (decide (findP l id < 0))) h12 rfl rfl rfl (by kernel_rfl) (by kernel_rfl) (by kernel_rfl) (fun a13 h13 => ?_); clear h12
  refine pl_nil ?_
  refine co_then ?_
  cases hc14 : (decide (findP l id < 0))
  ·
    rw [hc14] at h13
    have hp15 : ¬ (findP l id < 0) := of_decide_eq_false hc14
    clear hc14
    refine co_false h13 rfl ?_
    refine wp_skip ?_
    refine co_then ?_
    refine co_seq ?_
    refine co_reg ?_
    refine pl_want h13 rfl rfl rfl (op_new (v := fun N => .slice (some ⟨N, 0, none⟩) 0 0) (T := 46) (cs := #[]) (by kernel_rfl) (by kernel_rfl) (by kernel_rfl)) ?_; clear h13
    rintro _ w17 a16 ⟨N18, rfl, hN21, hz22, hk20, hg19⟩ h16
    have hB23 := hb_new hB8 hg19
    have hz24 := hB23.size
    have hz25 := hg19.size
    try dsimp only at h16
    refine pl_val (v := v) h16 rfl rfl rfl (by kernel_rfl) (by kernel_rfl) (by kernel_rfl) (fun a26 h26 => ?_); clear h16
    have hr29 := row_of_blkL hk20 (Nat.le_refl _) 3 pinE
    refine pl_want h26 rfl rfl rfl (op_appendSrc rfl N18 46 (z := .agg #[.int .i64 0, .int .u64 0, .int .i64 0]) (size := 3) (bytes := 24) Try.underlying77 (by kernel_rfl) rfl rfl rfl hr29 rfl (hs.below hB23) (fun y _ => ⟨pinE_len y, pinE_one y⟩) (by first | omega | (simp only [List.length_nil, List.length_append, List.length_cons, List.length_take, List.length_drop]; omega)) (by first | omega | (simp only [List.length_nil, List.length_append, List.length_cons, List.length_take, List.length_drop]; omega)) (by omega)) ?_; clear h26
    rintro v30 w28 a27 ⟨hr31, hg32⟩ h27
    have hr31' : w28.ownsRow N18 46 3 v30 l.length (l.flatMap pinE) := row_app (l := []) hr31; clear hr31
    have hB33 := hb_row hB23 hr29 (by omega) hg32
    have hz34 := hB33.size
    have hz35 := hg32.size
    refine pl_val (v := v30) h27 rfl rfl rfl (by kernel_rfl) (by kernel_rfl) (by kernel_rfl) (fun a36 h36 => ?_); clear h27
    refine pl_nil ?_
    refine co_then ?_
    refine co_seq ?_
    refine co_reg ?_
    refine pl_val (v := v30) h36 rfl rfl rfl (by kernel_rfl) (by kernel_rfl) (by kernel_rfl) (fun a37 h37 => ?_); clear h36
    refine pl_val (v := .int .i64 (findP l id)) h37 rfl rfl rfl (by kernel_rfl) (by kernel_rfl) (by kernel_rfl) (fun a38 h38 => ?_); clear h37
    obtain ⟨y39, hy39⟩ : ∃ z, l[(findP l id).toNat]? = some z := ⟨_, List.getElem?_eq_getElem (by first | omega | (simp; done) | (simp; omega))⟩
    refine pl_val (v := .pointer (some ⟨(blkOf v30), offOf v30 + ((findP l id).toNat) * 3, none⟩)) h38 rfl rfl rfl (by kernel_rfl) (by kernel_rfl) (rn_index rfl rfl rfl Try.underlying77 Try.sizeOf46 (row_sl hr31' pinE_len) (by omega) (by first | omega | (simp; done) | (simp; omega))) (fun a40 h40 => ?_); clear h38
    refine pl_val (v := .pointer (some ⟨(blkOf v30), offOf v30 + ((findP l id).toNat) * 3 + 2, none⟩)) h40 rfl rfl rfl (by kernel_rfl) (by kernel_rfl) (by kernel_rfl) (fun a41 h41 => ?_); clear h40
    refine pl_doW h41 rfl rfl (op_storeRow (c := ((findP l id).toNat) * 3 + 2) rfl rfl rfl rfl Try.sizeOf3 hr31' (flat_lt pinE_len (by omega) (by omega)) (by first | rfl | omega)) ?_; clear h41
    rintro _ w43 a42 ⟨hr44, hz45, hg46⟩ h42
    have hr44' := row_set (y' := (y39.1, y39.2.1, 8)) hr44 pinE_len hy39 (by omega) rfl; clear hr44
    have hB47 := hb_row hB33 hr31' (by omega) hg46
    have hz48 := hB47.size
    have hz49 := hg46.size
    refine pl_nil ?_
    refine co_then ?_
    refine co_seq ?_
    refine co_reg ?_
    refine pl_val (v := v30) h42 rfl rfl rfl (by kernel_rfl) (by kernel_rfl) (by kernel_rfl) (fun a50 h50 => ?_); clear h42
    refine pl_val (v := v30) h50 rfl rfl rfl (by kernel_rfl) (by kernel_rfl) (by kernel_rfl) (fun a51 h51 => ?_); clear h50
    refine pl_val (v := .int .i64 0) h51 rfl rfl rfl (by kernel_rfl) (by kernel_rfl) (by kernel_rfl) (fun a52 h52 => ?_); clear h51
    refine pl_nil ?_
    refine co_then ?_
    refine wp_ret ?_
    refine co_ret2 h52 rfl rfl rfl ?_
    cases hg.symm.trans (renew_ok (by omega) rfl hy39)
    exact ⟨_, rfl, (row_low hr44' (by omega)), hB47⟩
  ·
    rw [hc14] at h13
    have hp53 : findP l id < 0 := of_decide_eq_true hc14
    clear hc14
    refine co_true h13 rfl ?_
    refine co_seq ?_
    refine co_reg ?_
    refine pl_val (v := .slice none 0 0) h13 rfl rfl rfl (by kernel_rfl) (by kernel_rfl) (by kernel_rfl) (fun a54 h54 => ?_); clear h13
    refine pl_val (v := .int .i64 7) h54 rfl rfl rfl (by kernel_rfl) (by kernel_rfl) (by kernel_rfl) (fun a55 h55 => ?_); clear h54
    refine pl_nil ?_
    refine co_then ?_
    refine wp_ret ?_
    refine co_thenR ?_
    refine co_ret2 h55 rfl rfl rfl ?_
    cases hg.symm.trans (renew_no (by omega))
    exact ⟨_, rfl, (row_nilL _ _ _ _ _), hB8⟩
end Go.Proofs.Ytfhiciaakgcbnaa
