/- catenalaw08: ItemLists. Conditions: none. -/
import Derived.Test.YteioaaegooebpaaItemC
namespace Go.Proofs.Yteioaaegooebpaa
open Go.RowKit Go.PlainAid
set_option linter.unusedVariables false

set_option maxRecDepth 100000 in
theorem ritemRight_any (v : Value) (l : List EntT) (w : World) (hs : SliceOf entE 4 w v l) (hok : ∀ z ∈ l, EntOk w z) :
    Calls Try.prog 31 #[v] w fun e w' => e = .returned (.int .i64 (rightI l)) ∧ Below w.heap.size w w' := by
  have hB0 := Below.refl w.heap.size w
  have hl_hs := sl_len hs
  refine co_enter (n := 67) Try.func31 rfl rfl rfl [(0, v)] rfl (fun a h0 => ?_)
  refine co_seq ?_
  refine co_reg ?_
  refine pl_val (v := .int .i64 0) h0 rfl rfl rfl (by kernel_rfl) (by kernel_rfl) (by kernel_rfl) (fun a1 h1 => ?_); clear h0
  refine pl_nil ?_
  refine co_then ?_
  refine co_seq ?_
  refine co_seq ?_
  refine co_reg ?_
  refine pl_val (v := .int .i64 0) h1 rfl rfl rfl (by kernel_rfl) (by kernel_rfl) (by kernel_rfl) (fun a2 h2 => ?_); clear h1
  refine pl_nil ?_
  refine co_then ?_
  refine wp_block ?_
  have h3 : Slots 67 [(0, v), (3, .int .i64 0)] _ := h2.sub ⟨rfl, rfl, trivial⟩; clear h2
  refine co_loop (fun mm a x => ∃ (i : Nat), Slots 67 [(0, v), (3, .int .i64 ((i : Nat) : Int))] a ∧ mm = l.length - i ∧ (i ≤ l.length) ∧ (rgF (l.take i) (l.drop i) = rightI l) ∧ Below w.heap.size w x) (l.length - 0) ?_ ?_
  · exact ⟨0, h3.sub ⟨rfl, (slot_eq rfl (congrArg (Value.int .i64) (by first | rfl | omega))), trivial⟩, rfl, by omega, by first | rfl | exact hL', hB0⟩
  · rintro k4 a5 w6 ⟨i, h5, rfl, hi7, hi8, hB9⟩
    have hz10 := hB9.size
    have hL : rgF (l.take i) (l.drop i) = rightI l := by assumption
    refine co_seq ?_
    refine co_seq ?_
    refine co_reg ?_
    refine pl_val (v := .int .i64 ((i : Nat) : Int)) h5 rfl rfl rfl (by kernel_rfl) (by kernel_rfl) (by kernel_rfl) (fun a11 h11 => ?_); clear h5
    refine pl_val (v := v) h11 rfl rfl rfl (by kernel_rfl) (by kernel_rfl) (by kernel_rfl) (fun a12 h12 => ?_); clear h11
    refine pl_val (v := .int .i64 ((l.length : Nat) : Int)) h12 rfl rfl rfl (by kernel_rfl) (by kernel_rfl) (rn_len rfl rfl Try.underlying48 (hs.below hB9)) (fun a13 h13 => ?_); clear h12
    refine pl_val (v := .bool (decide (((i : Nat) : Int) < ((l.length : Nat) : Int)))) h13 rfl rfl rfl (by kernel_rfl) (by kernel_rfl) (by kernel_rfl) (fun a14 h14 => ?_); clear h13
    refine pl_nil ?_
    refine co_then ?_
    cases hc15 : (decide (((i : Nat) : Int) < ((l.length : Nat) : Int)))
    ·
      rw [hc15] at h14
      have hp16 : ¬ (((i : Nat) : Int) < ((l.length : Nat) : Int)) := of_decide_eq_false hc15
      clear hc15
      refine co_false h14 rfl ?_
      refine wp_exit ?_
      refine co_thenX ?_
      refine co_thenX ?_
      refine co_blockX ?_
      refine co_then ?_
      refine co_seq ?_
      refine co_reg ?_
      refine pl_val (v := .int .i64 0) h14 rfl rfl rfl (by kernel_rfl) (by kernel_rfl) (by kernel_rfl) (fun a17 h17 => ?_); clear h14
      refine pl_nil ?_
      refine co_then ?_
      refine wp_ret ?_
      refine co_ret1 h17 rfl rfl ?_
      exact ⟨ret_int (rg_end (i := i) hL (by omega)), hB9⟩
    ·
      rw [hc15] at h14
      have hp18 : ((i : Nat) : Int) < ((l.length : Nat) : Int) := of_decide_eq_true hc15
      clear hc15
      refine co_true h14 rfl ?_
      refine wp_skip ?_
      refine co_then ?_
      refine co_seq ?_
      refine wp_block ?_
      refine co_seq ?_
      refine co_seq ?_
      refine co_reg ?_
      refine pl_val (v := v) h14 rfl rfl rfl (by kernel_rfl) (by kernel_rfl) (by kernel_rfl) (fun a19 h19 => ?_); clear h14
      refine pl_val (v := .int .i64 ((i : Nat) : Int)) h19 rfl rfl rfl (by kernel_rfl) (by kernel_rfl) (by kernel_rfl) (fun a20 h20 => ?_); clear h19
      obtain ⟨y21, hy21⟩ : ∃ z, l[i]? = some z := ⟨_, List.getElem?_eq_getElem (by first | omega | (simp; done) | (simp; omega))⟩
      have oky21 := hok _ (List.mem_of_getElem? hy21)
      have k22 : 0 ≤ y21.ts := oky21.ts0
      have k23 : y21.ts < 18446744073709551616 := oky21.ts1
      refine pl_val (v := .pointer (some ⟨(blkOf v), offOf v + i * 4, none⟩)) h20 rfl rfl rfl (by kernel_rfl) (by kernel_rfl) (rn_index rfl rfl rfl Try.underlying48 Try.sizeOf34 (hs.below hB9) (by omega) (by first | omega | (simp; done) | (simp; omega))) (fun a24 h24 => ?_); clear h20
      refine pl_val (v := .agg #[.int .i64 y21.client, .int .i64 y21.req, y21.ops, .int .u64 y21.ts]) h24 rfl rfl rfl (by kernel_rfl) (by kernel_rfl) (rn_loadN rfl rfl Try.underlying34 rfl (by kernel_rfl) (sl_at (hs.below hB9) hy21)) (fun a25 h25 => ?_); clear h24
      refine pl_want h25 rfl rfl rfl (op_call (args := #[.agg #[.int .i64 y21.client, .int .i64 y21.req, y21.ops, .int .u64 y21.ts]]) (R := fun res xw => res = .int .i64 (chkB y21.client y21.req y21.opl) ∧ Below w6.heap.size w6 xw) rfl rfl rfl (by kernel_rfl) (by kernel_rfl) (Try.call22 _ _) (ritemCheck_any y21.client y21.req y21.ops y21.opl y21.ts w6 (oky21.ops.below hB9)) (by rintro e x ⟨rfl, hb28⟩; exact ⟨_, rfl, ⟨rfl, hb28⟩⟩)) ?_; clear h25
      rintro _ w27 a26 ⟨rfl, hb28⟩ h26
      have hB29 := hb_call hB9 hb28
      have hz30 := hB29.size
      have hz31 := hb28.size
      refine pl_val (v := .int .i64 (chkB y21.client y21.req y21.opl)) h26 rfl rfl rfl (by kernel_rfl) (by kernel_rfl) (by kernel_rfl) (fun a32 h32 => ?_); clear h26
      refine pl_nil ?_
      refine co_then ?_
      refine co_seq ?_
      refine co_reg ?_
      refine pl_val (v := .int .i64 (chkB y21.client y21.req y21.opl)) h32 rfl rfl rfl (by kernel_rfl) (by kernel_rfl) (by kernel_rfl) (fun a33 h33 => ?_); clear h32
      refine pl_val (v := .bool (chkB y21.client y21.req y21.opl != 0)) h33 rfl rfl rfl (by kernel_rfl) (by kernel_rfl) (by kernel_rfl) (fun a34 h34 => ?_); clear h33
      refine pl_nil ?_
      refine co_then ?_
      cases hc35 : (chkB y21.client y21.req y21.opl != 0)
      ·
        rw [hc35] at h34
        have hp36 : ¬ (chkB y21.client y21.req y21.opl ≠ 0) := by first | simpa using hc35 | simpa [and_assoc] using hc35
        clear hc35
        refine co_false h34 rfl ?_
        refine wp_skip ?_
        refine co_then ?_
        refine co_seq ?_
        refine co_seq ?_
        refine co_reg ?_
        refine pl_val (v := .int .i64 0) h34 rfl rfl rfl (by kernel_rfl) (by kernel_rfl) (by kernel_rfl) (fun a37 h37 => ?_); clear h34
        refine pl_nil ?_
        refine co_then ?_
        refine wp_block ?_
        have h38 : Slots 67 [(0, v), (3, .int .i64 ((i : Nat) : Int)), (5, .int .i64 0)] _ := h37.sub ⟨rfl, rfl, rfl, trivial⟩; clear h37
        refine co_loop (fun mm a x => ∃ (k : Nat), Slots 67 [(0, v), (3, .int .i64 ((i : Nat) : Int)), (5, .int .i64 ((k : Nat) : Int))] a ∧ mm = i - k ∧ (k ≤ i) ∧ (twN (l.take k) y21.client y21.req = 0) ∧ Below w.heap.size w x) (i - 0) ?_ ?_
        · exact ⟨0, h38.sub ⟨rfl, rfl, (slot_eq rfl (congrArg (Value.int .i64) (by first | rfl | omega))), trivial⟩, rfl, by omega, by first | (simp [twN]; done) | exact htn, hB29⟩
        · rintro k39 a40 w41 ⟨k, h40, rfl, hi42, hi43, hB44⟩
          have hz45 := hB44.size
          refine co_seq ?_
          refine co_seq ?_
          refine co_reg ?_
          refine pl_val (v := .int .i64 ((k : Nat) : Int)) h40 rfl rfl rfl (by kernel_rfl) (by kernel_rfl) (by kernel_rfl) (fun a46 h46 => ?_); clear h40
          refine pl_val (v := .int .i64 ((i : Nat) : Int)) h46 rfl rfl rfl (by kernel_rfl) (by kernel_rfl) (by kernel_rfl) (fun a47 h47 => ?_); clear h46
          refine pl_val (v := .bool (decide (((k : Nat) : Int) < ((i : Nat) : Int)))) h47 rfl rfl rfl (by kernel_rfl) (by kernel_rfl) (by kernel_rfl) (fun a48 h48 => ?_); clear h47
          refine pl_nil ?_
          refine co_then ?_
          cases hc49 : (decide (((k : Nat) : Int) < ((i : Nat) : Int)))
          ·
            rw [hc49] at h48
            have hp50 : ¬ (((k : Nat) : Int) < ((i : Nat) : Int)) := of_decide_eq_false hc49
            clear hc49
            refine co_false h48 rfl ?_
            refine wp_exit ?_
            refine co_thenX ?_
            refine co_thenX ?_
            refine co_blockX ?_
            refine co_then ?_
            refine co_seq ?_
            refine dr_eq (by kernel_rfl) (fun w51 hg52 => ?_)
            have hB53 := hb_new hB44 hg52
            have hz54 := hB53.size
            have hz55 := hg52.size
            refine dr_take (i := 0) (v := .int .i64 ((i : Nat) : Int)) h48 rfl (by kernel_rfl) (by kernel_rfl) (by kernel_rfl) rfl rfl rfl rfl (by kernel_rfl) (fun _ _ => by kernel_rfl) (fun a56 h56 => ?_); clear h48
            refine dr_take (i := 1) (v := .bool (decide (((i : Nat) : Int) > 0))) h56 rfl (by kernel_rfl) (by kernel_rfl) (by kernel_rfl) rfl rfl rfl rfl (by kernel_rfl) (fun _ _ => by kernel_rfl) (fun a57 h57 => ?_); clear h56
            refine dr_take (i := 2) (v := .bool (decide (((i : Nat) : Int) > 0))) h57 rfl (by kernel_rfl) (by kernel_rfl) (by kernel_rfl) rfl rfl rfl rfl (by kernel_rfl) (fun _ _ => by kernel_rfl) (fun a58 h58 => ?_); clear h57
            cases hc59 : (decide (((i : Nat) : Int) > 0))
            ·
              rw [hc59] at h58
              have hp60 : ¬ (((i : Nat) : Int) > 0) := of_decide_eq_false hc59
              clear hc59
              refine dr_skip (i := 3) h58 rfl (by kernel_rfl) (by kernel_rfl) (by kernel_rfl) rfl rfl rfl rfl (fun a61 h61 => ?_); clear h58
              refine dr_skip (i := 4) h61 rfl (by kernel_rfl) (by kernel_rfl) (by kernel_rfl) rfl rfl rfl rfl (fun a62 h62 => ?_); clear h61
              refine dr_skip (i := 5) h62 rfl (by kernel_rfl) (by kernel_rfl) (by kernel_rfl) rfl rfl rfl rfl (fun a63 h63 => ?_); clear h62
              refine dr_skip (i := 6) h63 rfl (by kernel_rfl) (by kernel_rfl) (by kernel_rfl) rfl rfl rfl rfl (fun a64 h64 => ?_); clear h63
              refine dr_skip (i := 7) h64 rfl (by kernel_rfl) (by kernel_rfl) (by kernel_rfl) rfl rfl rfl rfl (fun a65 h65 => ?_); clear h64
              refine dr_skip (i := 8) h65 rfl (by kernel_rfl) (by kernel_rfl) (by kernel_rfl) rfl rfl rfl rfl (fun a66 h66 => ?_); clear h65
              refine dr_take (i := 9) (v := .bool false) h66 rfl (by kernel_rfl) (by kernel_rfl) (by kernel_rfl) rfl rfl rfl rfl (by kernel_rfl) (fun _ _ => by kernel_rfl) (fun a67 h67 => ?_); clear h66
              refine dr_take (i := 10) (v := .bool false) h67 rfl (by kernel_rfl) (by kernel_rfl) (by kernel_rfl) rfl rfl rfl rfl (by kernel_rfl) (fun _ _ => by kernel_rfl) (fun a68 h68 => ?_); clear h67
              refine dr_skip (i := 11) h68 rfl (by kernel_rfl) (by kernel_rfl) (by kernel_rfl) rfl rfl rfl rfl (fun a69 h69 => ?_); clear h68
              refine dr_skip (i := 12) h69 rfl (by kernel_rfl) (by kernel_rfl) (by kernel_rfl) rfl rfl rfl rfl (fun a70 h70 => ?_); clear h69
              refine dr_skip (i := 13) h70 rfl (by kernel_rfl) (by kernel_rfl) (by kernel_rfl) rfl rfl rfl rfl (fun a71 h71 => ?_); clear h70
              refine dr_skip (i := 14) h71 rfl (by kernel_rfl) (by kernel_rfl) (by kernel_rfl) rfl rfl rfl rfl (fun a72 h72 => ?_); clear h71
              refine dr_skip (i := 15) h72 rfl (by kernel_rfl) (by kernel_rfl) (by kernel_rfl) rfl rfl rfl rfl (fun a73 h73 => ?_); clear h72
              refine dr_skip (i := 16) h73 rfl (by kernel_rfl) (by kernel_rfl) (by kernel_rfl) rfl rfl rfl rfl (fun a74 h74 => ?_); clear h73
              refine dr_skip (i := 17) h74 rfl (by kernel_rfl) (by kernel_rfl) (by kernel_rfl) rfl rfl rfl rfl (fun a75 h75 => ?_); clear h74
              refine dr_skip (i := 18) h75 rfl (by kernel_rfl) (by kernel_rfl) (by kernel_rfl) rfl rfl rfl rfl (fun a76 h76 => ?_); clear h75
              refine dr_skip (i := 19) h76 rfl (by kernel_rfl) (by kernel_rfl) (by kernel_rfl) rfl rfl rfl rfl (fun a77 h77 => ?_); clear h76
              refine dr_skip (i := 20) h77 rfl (by kernel_rfl) (by kernel_rfl) (by kernel_rfl) rfl rfl rfl rfl (fun a78 h78 => ?_); clear h77
              refine dr_skip (i := 21) h78 rfl (by kernel_rfl) (by kernel_rfl) (by kernel_rfl) rfl rfl rfl rfl (fun a79 h79 => ?_); clear h78
              refine dr_skip (i := 22) h79 rfl (by kernel_rfl) (by kernel_rfl) (by kernel_rfl) rfl rfl rfl rfl (fun a80 h80 => ?_); clear h79
              refine dr_skip (i := 23) h80 rfl (by kernel_rfl) (by kernel_rfl) (by kernel_rfl) rfl rfl rfl rfl (fun a81 h81 => ?_); clear h80
              refine dr_skip (i := 24) h81 rfl (by kernel_rfl) (by kernel_rfl) (by kernel_rfl) rfl rfl rfl rfl (fun a82 h82 => ?_); clear h81
              refine dr_skip (i := 25) h82 rfl (by kernel_rfl) (by kernel_rfl) (by kernel_rfl) rfl rfl rfl rfl (fun a83 h83 => ?_); clear h82
              refine dr_skip (i := 26) h83 rfl (by kernel_rfl) (by kernel_rfl) (by kernel_rfl) rfl rfl rfl rfl (fun a84 h84 => ?_); clear h83
              refine dr_skip (i := 27) h84 rfl (by kernel_rfl) (by kernel_rfl) (by kernel_rfl) rfl rfl rfl rfl (fun a85 h85 => ?_); clear h84
              refine dr_skip (i := 28) h85 rfl (by kernel_rfl) (by kernel_rfl) (by kernel_rfl) rfl rfl rfl rfl (fun a86 h86 => ?_); clear h85
              refine dr_skip (i := 29) h86 rfl (by kernel_rfl) (by kernel_rfl) (by kernel_rfl) rfl rfl rfl rfl (fun a87 h87 => ?_); clear h86
              refine dr_skip (i := 30) h87 rfl (by kernel_rfl) (by kernel_rfl) (by kernel_rfl) rfl rfl rfl rfl (fun a88 h88 => ?_); clear h87
              refine dr_skip (i := 31) h88 rfl (by kernel_rfl) (by kernel_rfl) (by kernel_rfl) rfl rfl rfl rfl (fun a89 h89 => ?_); clear h88
              refine dr_take (i := 32) (v := .bool false) h89 rfl (by kernel_rfl) (by kernel_rfl) (by kernel_rfl) rfl rfl rfl rfl (by kernel_rfl) (fun _ _ => by kernel_rfl) (fun a90 h90 => ?_); clear h89
              refine dr_done (by kernel_rfl) ?_
              refine co_then ?_
              refine co_false h90 rfl ?_
              refine wp_skip ?_
              refine co_blockN ?_
              refine co_then ?_
              refine co_reg ?_
              refine pl_val (v := .int .i64 ((i : Nat) : Int)) h90 rfl rfl rfl (by kernel_rfl) (by kernel_rfl) (by kernel_rfl) (fun a91 h91 => ?_); clear h90
              refine pl_val (v := .int .i64 ((i + 1 : Nat) : Int)) h91 rfl rfl rfl (by kernel_rfl) (by kernel_rfl) (rn_arith' rfl rfl rfl rfl rfl rfl (IntWalk.i64_in _ (by omega)) (by omega)) (fun a92 h92 => ?_); clear h91
              refine pl_val (v := .int .i64 ((i + 1 : Nat) : Int)) h92 rfl rfl rfl (by kernel_rfl) (by kernel_rfl) (by kernel_rfl) (fun a93 h93 => ?_); clear h92
              refine pl_nil ?_
              refine co_then ?_
              refine ⟨(l.length - (i + 1)), by omega, ?_⟩
              have htw := tw_end (i := i) (by assumption : twN (l.take k) y21.client y21.req = 0) (by omega)
              have hbd : badT (l.take i) y21 = false := by first | exact bad_ts (by omega) | exact bad_0 (by omega)
              have hL' := rg_step (i := i) hL hy21 (by omega) htw hbd
              exact ⟨i + 1, h93.sub ⟨rfl, rfl, trivial⟩, rfl, by omega, by first | rfl | exact hL', hB53⟩
            ·
              rw [hc59] at h58
              have hp94 : ((i : Nat) : Int) > 0 := of_decide_eq_true hc59
              clear hc59
              refine dr_take (i := 3) (v := v) h58 rfl (by kernel_rfl) (by kernel_rfl) (by kernel_rfl) rfl rfl rfl rfl (by kernel_rfl) (fun _ _ => by kernel_rfl) (fun a95 h95 => ?_); clear h58
              refine dr_take (i := 4) (v := .int .i64 ((i : Nat) : Int)) h95 rfl (by kernel_rfl) (by kernel_rfl) (by kernel_rfl) rfl rfl rfl rfl (by kernel_rfl) (fun _ _ => by kernel_rfl) (fun a96 h96 => ?_); clear h95
              refine dr_take (i := 5) (v := .pointer (some ⟨(blkOf v), offOf v + i * 4, none⟩)) h96 rfl (by kernel_rfl) (by kernel_rfl) (by kernel_rfl) rfl rfl rfl rfl (by kernel_rfl) (fun x hx => by subst hx; exact (rn_index rfl rfl rfl Try.underlying48 Try.sizeOf34 (hs.below hB53) (by omega) (by first | omega | (simp; done) | (simp; omega)))) (fun a97 h97 => ?_); clear h96
              refine dr_take (i := 6) (v := .pointer (some ⟨(blkOf v), offOf v + i * 4 + 3, none⟩)) h97 rfl (by kernel_rfl) (by kernel_rfl) (by kernel_rfl) rfl rfl rfl rfl (by kernel_rfl) (fun _ _ => by kernel_rfl) (fun a98 h98 => ?_); clear h97
              refine dr_take (i := 7) (v := .int .u64 y21.ts) h98 rfl (by kernel_rfl) (by kernel_rfl) (by kernel_rfl) rfl rfl rfl rfl (by kernel_rfl) (fun x hx => by subst hx; exact (rn_load1 rfl rfl Try.isAgg32 ((sl_at (hs.below hB53) hy21) 3 _ rfl))) (fun a99 h99 => ?_); clear h98
              refine dr_take (i := 8) (v := .bool (y21.ts != 0)) h99 rfl (by kernel_rfl) (by kernel_rfl) (by kernel_rfl) rfl rfl rfl rfl (by kernel_rfl) (fun _ _ => by kernel_rfl) (fun a100 h100 => ?_); clear h99
              refine dr_take (i := 9) (v := .bool (y21.ts != 0)) h100 rfl (by kernel_rfl) (by kernel_rfl) (by kernel_rfl) rfl rfl rfl rfl (by kernel_rfl) (fun _ _ => by kernel_rfl) (fun a101 h101 => ?_); clear h100
              refine dr_take (i := 10) (v := .bool (y21.ts != 0)) h101 rfl (by kernel_rfl) (by kernel_rfl) (by kernel_rfl) rfl rfl rfl rfl (by kernel_rfl) (fun _ _ => by kernel_rfl) (fun a102 h102 => ?_); clear h101
              cases hc103 : (y21.ts != 0)
              ·
                rw [hc103] at h102
                have hp104 : ¬ (y21.ts ≠ 0) := by first | simpa using hc103 | simpa [and_assoc] using hc103
                clear hc103
                refine dr_skip (i := 11) h102 rfl (by kernel_rfl) (by kernel_rfl) (by kernel_rfl) rfl rfl rfl rfl (fun a105 h105 => ?_); clear h102
                refine dr_skip (i := 12) h105 rfl (by kernel_rfl) (by kernel_rfl) (by kernel_rfl) rfl rfl rfl rfl (fun a106 h106 => ?_); clear h105
                refine dr_skip (i := 13) h106 rfl (by kernel_rfl) (by kernel_rfl) (by kernel_rfl) rfl rfl rfl rfl (fun a107 h107 => ?_); clear h106
                refine dr_skip (i := 14) h107 rfl (by kernel_rfl) (by kernel_rfl) (by kernel_rfl) rfl rfl rfl rfl (fun a108 h108 => ?_); clear h107
                refine dr_skip (i := 15) h108 rfl (by kernel_rfl) (by kernel_rfl) (by kernel_rfl) rfl rfl rfl rfl (fun a109 h109 => ?_); clear h108
                refine dr_skip (i := 16) h109 rfl (by kernel_rfl) (by kernel_rfl) (by kernel_rfl) rfl rfl rfl rfl (fun a110 h110 => ?_); clear h109
                refine dr_skip (i := 17) h110 rfl (by kernel_rfl) (by kernel_rfl) (by kernel_rfl) rfl rfl rfl rfl (fun a111 h111 => ?_); clear h110
                refine dr_skip (i := 18) h111 rfl (by kernel_rfl) (by kernel_rfl) (by kernel_rfl) rfl rfl rfl rfl (fun a112 h112 => ?_); clear h111
                refine dr_skip (i := 19) h112 rfl (by kernel_rfl) (by kernel_rfl) (by kernel_rfl) rfl rfl rfl rfl (fun a113 h113 => ?_); clear h112
                refine dr_skip (i := 20) h113 rfl (by kernel_rfl) (by kernel_rfl) (by kernel_rfl) rfl rfl rfl rfl (fun a114 h114 => ?_); clear h113
                refine dr_skip (i := 21) h114 rfl (by kernel_rfl) (by kernel_rfl) (by kernel_rfl) rfl rfl rfl rfl (fun a115 h115 => ?_); clear h114
                refine dr_skip (i := 22) h115 rfl (by kernel_rfl) (by kernel_rfl) (by kernel_rfl) rfl rfl rfl rfl (fun a116 h116 => ?_); clear h115
                refine dr_skip (i := 23) h116 rfl (by kernel_rfl) (by kernel_rfl) (by kernel_rfl) rfl rfl rfl rfl (fun a117 h117 => ?_); clear h116
                refine dr_skip (i := 24) h117 rfl (by kernel_rfl) (by kernel_rfl) (by kernel_rfl) rfl rfl rfl rfl (fun a118 h118 => ?_); clear h117
                refine dr_skip (i := 25) h118 rfl (by kernel_rfl) (by kernel_rfl) (by kernel_rfl) rfl rfl rfl rfl (fun a119 h119 => ?_); clear h118
                refine dr_skip (i := 26) h119 rfl (by kernel_rfl) (by kernel_rfl) (by kernel_rfl) rfl rfl rfl rfl (fun a120 h120 => ?_); clear h119
                refine dr_skip (i := 27) h120 rfl (by kernel_rfl) (by kernel_rfl) (by kernel_rfl) rfl rfl rfl rfl (fun a121 h121 => ?_); clear h120
                refine dr_skip (i := 28) h121 rfl (by kernel_rfl) (by kernel_rfl) (by kernel_rfl) rfl rfl rfl rfl (fun a122 h122 => ?_); clear h121
                refine dr_skip (i := 29) h122 rfl (by kernel_rfl) (by kernel_rfl) (by kernel_rfl) rfl rfl rfl rfl (fun a123 h123 => ?_); clear h122
                refine dr_skip (i := 30) h123 rfl (by kernel_rfl) (by kernel_rfl) (by kernel_rfl) rfl rfl rfl rfl (fun a124 h124 => ?_); clear h123
                refine dr_skip (i := 31) h124 rfl (by kernel_rfl) (by kernel_rfl) (by kernel_rfl) rfl rfl rfl rfl (fun a125 h125 => ?_); clear h124
                refine dr_take (i := 32) (v := .bool false) h125 rfl (by kernel_rfl) (by kernel_rfl) (by kernel_rfl) rfl rfl rfl rfl (by kernel_rfl) (fun _ _ => by kernel_rfl) (fun a126 h126 => ?_); clear h125
                refine dr_done (by kernel_rfl) ?_
                refine co_then ?_
                refine co_false h126 rfl ?_
                refine wp_skip ?_
                refine co_blockN ?_
                refine co_then ?_
                refine co_reg ?_
                refine pl_val (v := .int .i64 ((i : Nat) : Int)) h126 rfl rfl rfl (by kernel_rfl) (by kernel_rfl) (by kernel_rfl) (fun a127 h127 => ?_); clear h126
                refine pl_val (v := .int .i64 ((i + 1 : Nat) : Int)) h127 rfl rfl rfl (by kernel_rfl) (by kernel_rfl) (rn_arith' rfl rfl rfl rfl rfl rfl (IntWalk.i64_in _ (by omega)) (by omega)) (fun a128 h128 => ?_); clear h127
                refine pl_val (v := .int .i64 ((i + 1 : Nat) : Int)) h128 rfl rfl rfl (by kernel_rfl) (by kernel_rfl) (by kernel_rfl) (fun a129 h129 => ?_); clear h128
                refine pl_nil ?_
                refine co_then ?_
                refine ⟨(l.length - (i + 1)), by omega, ?_⟩
                have htw := tw_end (i := i) (by assumption : twN (l.take k) y21.client y21.req = 0) (by omega)
                have hbd : badT (l.take i) y21 = false := by first | exact bad_ts (by omega) | exact bad_0 (by omega)
                have hL' := rg_step (i := i) hL hy21 (by omega) htw hbd
                exact ⟨i + 1, h129.sub ⟨rfl, rfl, trivial⟩, rfl, by omega, by first | rfl | exact hL', hB53⟩
              ·
                rw [hc103] at h102
                have hp130 : y21.ts ≠ 0 := by first | simpa using hc103 | simpa [and_assoc] using hc103
                clear hc103
                refine dr_take (i := 11) (v := v) h102 rfl (by kernel_rfl) (by kernel_rfl) (by kernel_rfl) rfl rfl rfl rfl (by kernel_rfl) (fun _ _ => by kernel_rfl) (fun a131 h131 => ?_); clear h102
                refine dr_take (i := 12) (v := .int .i64 ((i : Nat) : Int)) h131 rfl (by kernel_rfl) (by kernel_rfl) (by kernel_rfl) rfl rfl rfl rfl (by kernel_rfl) (fun _ _ => by kernel_rfl) (fun a132 h132 => ?_); clear h131
                refine dr_take (i := 13) (v := .int .i64 (((i : Nat) : Int) - 1)) h132 rfl (by kernel_rfl) (by kernel_rfl) (by kernel_rfl) rfl rfl rfl rfl (by kernel_rfl) (fun x hx => by subst hx; exact (rn_arith rfl rfl rfl rfl rfl rfl (IntWalk.i64_in _ (by omega)))) (fun a133 h133 => ?_); clear h132
                obtain ⟨y134, hy134⟩ : ∃ z, l[(((i : Nat) : Int) - 1).toNat]? = some z := ⟨_, List.getElem?_eq_getElem (by first | omega | (simp; done) | (simp; omega))⟩
                have oky134 := hok _ (List.mem_of_getElem? hy134)
                have k135 : 0 ≤ y134.ts := oky134.ts0
                have k136 : y134.ts < 18446744073709551616 := oky134.ts1
                refine dr_take (i := 14) (v := .pointer (some ⟨(blkOf v), offOf v + ((((i : Nat) : Int) - 1).toNat) * 4, none⟩)) h133 rfl (by kernel_rfl) (by kernel_rfl) (by kernel_rfl) rfl rfl rfl rfl (by kernel_rfl) (fun x hx => by subst hx; exact (rn_index rfl rfl rfl Try.underlying48 Try.sizeOf34 (hs.below hB53) (by omega) (by first | omega | (simp; done) | (simp; omega)))) (fun a137 h137 => ?_); clear h133
                refine dr_take (i := 15) (v := .pointer (some ⟨(blkOf v), offOf v + ((((i : Nat) : Int) - 1).toNat) * 4 + 3, none⟩)) h137 rfl (by kernel_rfl) (by kernel_rfl) (by kernel_rfl) rfl rfl rfl rfl (by kernel_rfl) (fun _ _ => by kernel_rfl) (fun a138 h138 => ?_); clear h137
                refine dr_take (i := 16) (v := .int .u64 y134.ts) h138 rfl (by kernel_rfl) (by kernel_rfl) (by kernel_rfl) rfl rfl rfl rfl (by kernel_rfl) (fun x hx => by subst hx; exact (rn_load1 rfl rfl Try.isAgg32 ((sl_at (hs.below hB53) hy134) 3 _ rfl))) (fun a139 h139 => ?_); clear h138
                refine dr_take (i := 17) (v := .bool (y134.ts == 0)) h139 rfl (by kernel_rfl) (by kernel_rfl) (by kernel_rfl) rfl rfl rfl rfl (by kernel_rfl) (fun _ _ => by kernel_rfl) (fun a140 h140 => ?_); clear h139
                refine dr_take (i := 18) (v := .bool (y134.ts == 0)) h140 rfl (by kernel_rfl) (by kernel_rfl) (by kernel_rfl) rfl rfl rfl rfl (by kernel_rfl) (fun _ _ => by kernel_rfl) (fun a141 h141 => ?_); clear h140
                cases hc142 : (y134.ts == 0)
                ·
                  rw [hc142] at h141
                  have hp143 : ¬ (y134.ts = 0) := by first | simpa using hc142 | simpa [and_assoc] using hc142
                  clear hc142
                  refine dr_take (i := 19) (v := v) h141 rfl (by kernel_rfl) (by kernel_rfl) (by kernel_rfl) rfl rfl rfl rfl (by kernel_rfl) (fun _ _ => by kernel_rfl) (fun a144 h144 => ?_); clear h141
                  refine dr_take (i := 20) (v := .int .i64 ((i : Nat) : Int)) h144 rfl (by kernel_rfl) (by kernel_rfl) (by kernel_rfl) rfl rfl rfl rfl (by kernel_rfl) (fun _ _ => by kernel_rfl) (fun a145 h145 => ?_); clear h144
                  refine dr_take (i := 21) (v := .int .i64 (((i : Nat) : Int) - 1)) h145 rfl (by kernel_rfl) (by kernel_rfl) (by kernel_rfl) rfl rfl rfl rfl (by kernel_rfl) (fun x hx => by subst hx; exact (rn_arith rfl rfl rfl rfl rfl rfl (IntWalk.i64_in _ (by omega)))) (fun a146 h146 => ?_); clear h145
                  refine dr_take (i := 22) (v := .pointer (some ⟨(blkOf v), offOf v + ((((i : Nat) : Int) - 1).toNat) * 4, none⟩)) h146 rfl (by kernel_rfl) (by kernel_rfl) (by kernel_rfl) rfl rfl rfl rfl (by kernel_rfl) (fun x hx => by subst hx; exact (rn_index rfl rfl rfl Try.underlying48 Try.sizeOf34 (hs.below hB53) (by omega) (by first | omega | (simp; done) | (simp; omega)))) (fun a147 h147 => ?_); clear h146
                  refine dr_take (i := 23) (v := .pointer (some ⟨(blkOf v), offOf v + ((((i : Nat) : Int) - 1).toNat) * 4 + 3, none⟩)) h147 rfl (by kernel_rfl) (by kernel_rfl) (by kernel_rfl) rfl rfl rfl rfl (by kernel_rfl) (fun _ _ => by kernel_rfl) (fun a148 h148 => ?_); clear h147
                  refine dr_take (i := 24) (v := .int .u64 y134.ts) h148 rfl (by kernel_rfl) (by kernel_rfl) (by kernel_rfl) rfl rfl rfl rfl (by kernel_rfl) (fun x hx => by subst hx; exact (rn_load1 rfl rfl Try.isAgg32 ((sl_at (hs.below hB53) hy134) 3 _ rfl))) (fun a149 h149 => ?_); clear h148
                  refine dr_take (i := 25) (v := v) h149 rfl (by kernel_rfl) (by kernel_rfl) (by kernel_rfl) rfl rfl rfl rfl (by kernel_rfl) (fun _ _ => by kernel_rfl) (fun a150 h150 => ?_); clear h149
                  refine dr_take (i := 26) (v := .int .i64 ((i : Nat) : Int)) h150 rfl (by kernel_rfl) (by kernel_rfl) (by kernel_rfl) rfl rfl rfl rfl (by kernel_rfl) (fun _ _ => by kernel_rfl) (fun a151 h151 => ?_); clear h150
                  refine dr_take (i := 27) (v := .pointer (some ⟨(blkOf v), offOf v + i * 4, none⟩)) h151 rfl (by kernel_rfl) (by kernel_rfl) (by kernel_rfl) rfl rfl rfl rfl (by kernel_rfl) (fun x hx => by subst hx; exact (rn_index rfl rfl rfl Try.underlying48 Try.sizeOf34 (hs.below hB53) (by omega) (by first | omega | (simp; done) | (simp; omega)))) (fun a152 h152 => ?_); clear h151
                  refine dr_take (i := 28) (v := .pointer (some ⟨(blkOf v), offOf v + i * 4 + 3, none⟩)) h152 rfl (by kernel_rfl) (by kernel_rfl) (by kernel_rfl) rfl rfl rfl rfl (by kernel_rfl) (fun _ _ => by kernel_rfl) (fun a153 h153 => ?_); clear h152
                  refine dr_take (i := 29) (v := .int .u64 y21.ts) h153 rfl (by kernel_rfl) (by kernel_rfl) (by kernel_rfl) rfl rfl rfl rfl (by kernel_rfl) (fun x hx => by subst hx; exact (rn_load1 rfl rfl Try.isAgg32 ((sl_at (hs.below hB53) hy21) 3 _ rfl))) (fun a154 h154 => ?_); clear h153
                  refine dr_take (i := 30) (v := .bool (decide (y134.ts ≥ y21.ts))) h154 rfl (by kernel_rfl) (by kernel_rfl) (by kernel_rfl) rfl rfl rfl rfl (by kernel_rfl) (fun _ _ => by kernel_rfl) (fun a155 h155 => ?_); clear h154
                  refine dr_take (i := 31) (v := .bool (decide (y134.ts ≥ y21.ts))) h155 rfl (by kernel_rfl) (by kernel_rfl) (by kernel_rfl) rfl rfl rfl rfl (by kernel_rfl) (fun _ _ => by kernel_rfl) (fun a156 h156 => ?_); clear h155
                  refine dr_take (i := 32) (v := .bool (decide (y134.ts ≥ y21.ts))) h156 rfl (by kernel_rfl) (by kernel_rfl) (by kernel_rfl) rfl rfl rfl rfl (by kernel_rfl) (fun _ _ => by kernel_rfl) (fun a157 h157 => ?_); clear h156
                  refine dr_done (by kernel_rfl) ?_
                  refine co_then ?_
                  cases hc158 : (decide (y134.ts ≥ y21.ts))
                  ·
                    rw [hc158] at h157
                    have hp159 : ¬ (y134.ts ≥ y21.ts) := of_decide_eq_false hc158
                    clear hc158
                    refine co_false h157 rfl ?_
                    refine wp_skip ?_
                    refine co_blockN ?_
                    refine co_then ?_
                    refine co_reg ?_
                    refine pl_val (v := .int .i64 ((i : Nat) : Int)) h157 rfl rfl rfl (by kernel_rfl) (by kernel_rfl) (by kernel_rfl) (fun a160 h160 => ?_); clear h157
                    refine pl_val (v := .int .i64 ((i + 1 : Nat) : Int)) h160 rfl rfl rfl (by kernel_rfl) (by kernel_rfl) (rn_arith' rfl rfl rfl rfl rfl rfl (IntWalk.i64_in _ (by omega)) (by omega)) (fun a161 h161 => ?_); clear h160
                    refine pl_val (v := .int .i64 ((i + 1 : Nat) : Int)) h161 rfl rfl rfl (by kernel_rfl) (by kernel_rfl) (by kernel_rfl) (fun a162 h162 => ?_); clear h161
                    refine pl_nil ?_
                    refine co_then ?_
                    refine ⟨(l.length - (i + 1)), by omega, ?_⟩
                    have htw := tw_end (i := i) (by assumption : twN (l.take k) y21.client y21.req = 0) (by omega)
                    have hbd : badT (l.take i) y21 = false := by rw [bad_at (j := (((i : Nat) : Int) - 1).toNat) (by omega) (by omega) hy134]; exact decide_eq_false (by omega)
                    have hL' := rg_step (i := i) hL hy21 (by omega) htw hbd
                    exact ⟨i + 1, h162.sub ⟨rfl, rfl, trivial⟩, rfl, by omega, by first | rfl | exact hL', hB53⟩
                  ·
                    rw [hc158] at h157
                    have hp163 : y134.ts ≥ y21.ts := of_decide_eq_true hc158
                    clear hc158
                    refine co_true h157 rfl ?_
                    refine co_seq ?_
                    refine co_reg ?_
                    refine pl_val (v := .int .i64 18) h157 rfl rfl rfl (by kernel_rfl) (by kernel_rfl) (by kernel_rfl) (fun a164 h164 => ?_); clear h157
                    refine pl_nil ?_
                    refine co_then ?_
                    refine wp_ret ?_
                    refine co_blockR ?_
                    refine co_thenR ?_
                    refine co_thenR ?_
                    refine co_blockR ?_
                    refine co_thenR ?_
                    refine co_ret1 h164 rfl rfl ?_
                    have htw := tw_end (i := i) (by assumption : twN (l.take k) y21.client y21.req = 0) (by omega)
                    have hbd : badT (l.take i) y21 = true := by rw [bad_at (j := (((i : Nat) : Int) - 1).toNat) (by omega) (by omega) hy134]; exact decide_eq_true (by omega)
                    exact ⟨ret_int (rg_bad (i := i) hL hy21 (by omega) htw hbd), hB53⟩
                ·
                  rw [hc142] at h141
                  have hp165 : y134.ts = 0 := by first | simpa using hc142 | simpa [and_assoc] using hc142
                  clear hc142
                  refine dr_skip (i := 19) h141 rfl (by kernel_rfl) (by kernel_rfl) (by kernel_rfl) rfl rfl rfl rfl (fun a166 h166 => ?_); clear h141
                  refine dr_skip (i := 20) h166 rfl (by kernel_rfl) (by kernel_rfl) (by kernel_rfl) rfl rfl rfl rfl (fun a167 h167 => ?_); clear h166
                  refine dr_skip (i := 21) h167 rfl (by kernel_rfl) (by kernel_rfl) (by kernel_rfl) rfl rfl rfl rfl (fun a168 h168 => ?_); clear h167
                  refine dr_skip (i := 22) h168 rfl (by kernel_rfl) (by kernel_rfl) (by kernel_rfl) rfl rfl rfl rfl (fun a169 h169 => ?_); clear h168
                  refine dr_skip (i := 23) h169 rfl (by kernel_rfl) (by kernel_rfl) (by kernel_rfl) rfl rfl rfl rfl (fun a170 h170 => ?_); clear h169
                  refine dr_skip (i := 24) h170 rfl (by kernel_rfl) (by kernel_rfl) (by kernel_rfl) rfl rfl rfl rfl (fun a171 h171 => ?_); clear h170
                  refine dr_skip (i := 25) h171 rfl (by kernel_rfl) (by kernel_rfl) (by kernel_rfl) rfl rfl rfl rfl (fun a172 h172 => ?_); clear h171
                  refine dr_skip (i := 26) h172 rfl (by kernel_rfl) (by kernel_rfl) (by kernel_rfl) rfl rfl rfl rfl (fun a173 h173 => ?_); clear h172
                  refine dr_skip (i := 27) h173 rfl (by kernel_rfl) (by kernel_rfl) (by kernel_rfl) rfl rfl rfl rfl (fun a174 h174 => ?_); clear h173
                  refine dr_skip (i := 28) h174 rfl (by kernel_rfl) (by kernel_rfl) (by kernel_rfl) rfl rfl rfl rfl (fun a175 h175 => ?_); clear h174
                  refine dr_skip (i := 29) h175 rfl (by kernel_rfl) (by kernel_rfl) (by kernel_rfl) rfl rfl rfl rfl (fun a176 h176 => ?_); clear h175
                  refine dr_skip (i := 30) h176 rfl (by kernel_rfl) (by kernel_rfl) (by kernel_rfl) rfl rfl rfl rfl (fun a177 h177 => ?_); clear h176
                  refine dr_take (i := 31) (v := .bool true) h177 rfl (by kernel_rfl) (by kernel_rfl) (by kernel_rfl) rfl rfl rfl rfl (by kernel_rfl) (fun _ _ => by kernel_rfl) (fun a178 h178 => ?_); clear h177
                  refine dr_take (i := 32) (v := .bool true) h178 rfl (by kernel_rfl) (by kernel_rfl) (by kernel_rfl) rfl rfl rfl rfl (by kernel_rfl) (fun _ _ => by kernel_rfl) (fun a179 h179 => ?_); clear h178
                  refine dr_done (by kernel_rfl) ?_
                  refine co_then ?_
                  refine co_true h179 rfl ?_
                  refine co_seq ?_
                  refine co_reg ?_
                  refine pl_val (v := .int .i64 18) h179 rfl rfl rfl (by kernel_rfl) (by kernel_rfl) (by kernel_rfl) (fun a180 h180 => ?_); clear h179
                  refine pl_nil ?_
                  refine co_then ?_
                  refine wp_ret ?_
                  refine co_blockR ?_
                  refine co_thenR ?_
                  refine co_thenR ?_
                  refine co_blockR ?_
                  refine co_thenR ?_
                  refine co_ret1 h180 rfl rfl ?_
                  have htw := tw_end (i := i) (by assumption : twN (l.take k) y21.client y21.req = 0) (by omega)
                  have hbd : badT (l.take i) y21 = true := by rw [bad_at (j := (((i : Nat) : Int) - 1).toNat) (by omega) (by omega) hy134]; exact decide_eq_true (by omega)
                  exact ⟨ret_int (rg_bad (i := i) hL hy21 (by omega) htw hbd), hB53⟩
          ·
            rw [hc49] at h48
            have hp181 : ((k : Nat) : Int) < ((i : Nat) : Int) := of_decide_eq_true hc49
            clear hc49
            refine co_true h48 rfl ?_
            refine wp_skip ?_
            refine co_then ?_
            refine co_seq ?_
            refine wp_block ?_
            refine co_seq ?_
            refine dr_gen (fun x => Below w.heap.size w x) (by kernel_rfl) (fun w182 hg183 => ?_) (fun w182 hg183 => ?_)
            ·
              have hB184 := hb_new hB44 hg183
              have hz185 := hB184.size
              have hz186 := hg183.size
              exact hB184
            have hB187 := hb_new hB44 hg183
            have hz188 := hB187.size
            have hz189 := hg183.size
            refine dr_take (i := 0) (v := v) h48 rfl (by kernel_rfl) (by kernel_rfl) (by kernel_rfl) rfl rfl rfl hB187 (by kernel_rfl) (fun _ _ => by kernel_rfl) (fun a190 h190 => ?_); clear h48
            refine dr_take (i := 1) (v := .int .i64 ((k : Nat) : Int)) h190 rfl (by kernel_rfl) (by kernel_rfl) (by kernel_rfl) rfl rfl rfl hB187 (by kernel_rfl) (fun _ _ => by kernel_rfl) (fun a191 h191 => ?_); clear h190
            obtain ⟨y192, hy192⟩ : ∃ z, l[k]? = some z := ⟨_, List.getElem?_eq_getElem (by first | omega | (simp; done) | (simp; omega))⟩
            have oky192 := hok _ (List.mem_of_getElem? hy192)
            have k193 : 0 ≤ y192.ts := oky192.ts0
            have k194 : y192.ts < 18446744073709551616 := oky192.ts1
            refine dr_take (i := 2) (v := .pointer (some ⟨(blkOf v), offOf v + k * 4, none⟩)) h191 rfl (by kernel_rfl) (by kernel_rfl) (by kernel_rfl) rfl rfl rfl hB187 (by kernel_rfl) (fun x hx => (rn_index rfl rfl rfl Try.underlying48 Try.sizeOf34 (hs.below hx) (by omega) (by first | omega | (simp; done) | (simp; omega)))) (fun a195 h195 => ?_); clear h191
            refine dr_take (i := 3) (v := .agg #[.int .i64 y192.client, .int .i64 y192.req, y192.ops, .int .u64 y192.ts]) h195 rfl (by kernel_rfl) (by kernel_rfl) (by kernel_rfl) rfl rfl rfl hB187 (by kernel_rfl) (fun x hx => (rn_loadN rfl rfl Try.underlying34 rfl (by kernel_rfl) (sl_at (hs.below hx) hy192))) (fun a196 h196 => ?_); clear h195
            refine dr_take (i := 4) (v := v) h196 rfl (by kernel_rfl) (by kernel_rfl) (by kernel_rfl) rfl rfl rfl hB187 (by kernel_rfl) (fun _ _ => by kernel_rfl) (fun a197 h197 => ?_); clear h196
            refine dr_take (i := 5) (v := .int .i64 ((i : Nat) : Int)) h197 rfl (by kernel_rfl) (by kernel_rfl) (by kernel_rfl) rfl rfl rfl hB187 (by kernel_rfl) (fun _ _ => by kernel_rfl) (fun a198 h198 => ?_); clear h197
            refine dr_take (i := 6) (v := .pointer (some ⟨(blkOf v), offOf v + i * 4, none⟩)) h198 rfl (by kernel_rfl) (by kernel_rfl) (by kernel_rfl) rfl rfl rfl hB187 (by kernel_rfl) (fun x hx => (rn_index rfl rfl rfl Try.underlying48 Try.sizeOf34 (hs.below hx) (by omega) (by first | omega | (simp; done) | (simp; omega)))) (fun a199 h199 => ?_); clear h198
            refine dr_take (i := 7) (v := .agg #[.int .i64 y21.client, .int .i64 y21.req, y21.ops, .int .u64 y21.ts]) h199 rfl (by kernel_rfl) (by kernel_rfl) (by kernel_rfl) rfl rfl rfl hB187 (by kernel_rfl) (fun x hx => (rn_loadN rfl rfl Try.underlying34 rfl (by kernel_rfl) (sl_at (hs.below hx) hy21))) (fun a200 h200 => ?_); clear h199
            refine dr_one (i := 8) h200 rfl (by kernel_rfl) rfl rfl rfl (op_call (args := #[.agg #[.int .i64 y192.client, .int .i64 y192.req, y192.ops, .int .u64 y192.ts], .agg #[.int .i64 y21.client, .int .i64 y21.req, y21.ops, .int .u64 y21.ts]]) (R := fun res xw => res = .bool ((y192.client == (y21.client : Int)) && (y192.req == (y21.req : Int))) ∧ Below w182.heap.size w182 xw) rfl rfl rfl (by kernel_rfl) (by kernel_rfl) (Try.call26 _ _) (ritemTwins_any y192.client y192.req y192.ops y192.ts y21.client y21.req y21.ops y21.ts w182 ) (by rintro e x ⟨rfl, hb203⟩; exact ⟨_, rfl, ⟨rfl, hb203⟩⟩)) ?_ ?_; clear h200
            ·
              rintro _ w202 ⟨rfl, hb203⟩
              have hB204 := hb_call hB187 hb203
              have hz205 := hB204.size
              have hz206 := hb203.size
              exact hB204
            rintro _ w202 a201 ⟨rfl, hb203⟩ h201
            have hB204 := hb_call hB187 hb203
            have hz205 := hB204.size
            have hz206 := hb203.size
            refine dr_done (by kernel_rfl) ?_
            refine co_then ?_
            cases hc207 : (((y192.client == (y21.client : Int)) && (y192.req == (y21.req : Int))))
            ·
              rw [hc207] at h201
              have hp208 : ¬ (y192.client = y21.client ∧ y192.req = y21.req) := by first | simpa using hc207 | simpa [and_assoc] using hc207
              clear hc207
              refine co_false h201 rfl ?_
              refine wp_skip ?_
              refine co_blockN ?_
              refine co_then ?_
              refine co_reg ?_
              refine pl_val (v := .int .i64 ((k : Nat) : Int)) h201 rfl rfl rfl (by kernel_rfl) (by kernel_rfl) (by kernel_rfl) (fun a209 h209 => ?_); clear h201
              refine pl_val (v := .int .i64 ((k + 1 : Nat) : Int)) h209 rfl rfl rfl (by kernel_rfl) (by kernel_rfl) (rn_arith' rfl rfl rfl rfl rfl rfl (IntWalk.i64_in _ (by omega)) (by omega)) (fun a210 h210 => ?_); clear h209
              refine pl_val (v := .int .i64 ((k + 1 : Nat) : Int)) h210 rfl rfl rfl (by kernel_rfl) (by kernel_rfl) (by kernel_rfl) (fun a211 h211 => ?_); clear h210
              refine pl_nil ?_
              refine co_then ?_
              refine ⟨(i - (k + 1)), by omega, ?_⟩
              have htn := tw_no (by assumption) hy192 (by omega)
              exact ⟨k + 1, h211.sub ⟨rfl, rfl, rfl, trivial⟩, rfl, by omega, by first | (simp [twN]; done) | exact htn, hB204⟩
            ·
              rw [hc207] at h201
              have hp212 : y192.client = y21.client ∧ y192.req = y21.req := by first | simpa using hc207 | simpa [and_assoc] using hc207
              clear hc207
              refine co_true h201 rfl ?_
              refine co_seq ?_
              refine co_reg ?_
              refine pl_val (v := .int .i64 18) h201 rfl rfl rfl (by kernel_rfl) (by kernel_rfl) (by kernel_rfl) (fun a213 h213 => ?_); clear h201
              refine pl_nil ?_
              refine co_then ?_
              refine wp_ret ?_
              refine co_blockR ?_
              refine co_thenR ?_
              refine co_thenR ?_
              refine co_blockR ?_
              refine co_thenR ?_
              refine co_blockR ?_
              refine co_thenR ?_
              refine co_thenR ?_
              refine co_blockR ?_
              refine co_thenR ?_
              refine co_ret1 h213 rfl rfl ?_
              exact ⟨ret_int (rg_tw (i := i) hL hy21 (by omega) (tw_yes hy192 (by omega) (by omega))), hB204⟩
      ·
        rw [hc35] at h34
        have hp214 : chkB y21.client y21.req y21.opl ≠ 0 := by first | simpa using hc35 | simpa [and_assoc] using hc35
        clear hc35
        refine co_true h34 rfl ?_
        refine co_seq ?_
        refine co_reg ?_
        refine pl_val (v := .int .i64 (chkB y21.client y21.req y21.opl)) h34 rfl rfl rfl (by kernel_rfl) (by kernel_rfl) (by kernel_rfl) (fun a215 h215 => ?_); clear h34
        refine pl_val (v := .int .i64 (chkB y21.client y21.req y21.opl)) h215 rfl rfl rfl (by kernel_rfl) (by kernel_rfl) (by kernel_rfl) (fun a216 h216 => ?_); clear h215
        refine pl_nil ?_
        refine co_then ?_
        refine wp_ret ?_
        refine co_thenR ?_
        refine co_blockR ?_
        refine co_thenR ?_
        refine co_thenR ?_
        refine co_blockR ?_
        refine co_thenR ?_
        refine co_ret1 h216 rfl rfl ?_
        exact ⟨ret_int (rg_chk (i := i) hL hy21 (by omega)), hB29⟩
set_option maxRecDepth 100000 in
theorem ritemStamped_any (v : Value) (l : List EntT) (w : World) (hs : SliceOf entE 4 w v l) (hok : ∀ z ∈ l, EntOk w z) :
    Calls Try.prog 33 #[v] w fun e w' => e = .returned (.int .i64 ((stN l : Nat) : Int)) ∧ Below w.heap.size w w' := by
  have hB0 := Below.refl w.heap.size w
  have hl_hs := sl_len hs
  refine co_enter (n := 19) Try.func33 rfl rfl rfl [(0, v)] rfl (fun a h0 => ?_)
  refine co_seq ?_
  refine co_reg ?_
  refine pl_val (v := .int .i64 0) h0 rfl rfl rfl (by kernel_rfl) (by kernel_rfl) (by kernel_rfl) (fun a1 h1 => ?_); clear h0
  refine pl_nil ?_
  refine co_then ?_
  refine co_seq ?_
  refine co_seq ?_
  refine co_reg ?_
  refine pl_val (v := .int .i64 0) h1 rfl rfl rfl (by kernel_rfl) (by kernel_rfl) (by kernel_rfl) (fun a2 h2 => ?_); clear h1
  refine pl_nil ?_
  refine co_then ?_
  refine wp_block ?_
  have h3 : Slots 19 [(0, v), (3, .int .i64 0)] _ := h2.sub ⟨rfl, rfl, trivial⟩; clear h2
  refine co_loop (fun mm a x => ∃ (i : Nat), Slots 19 [(0, v), (3, .int .i64 ((i : Nat) : Int))] a ∧ mm = l.length - i ∧ (i ≤ l.length) ∧ (∀ j, j < i → ∀ z, l[j]? = some z → z.ts ≠ 0) ∧ Below w.heap.size w x) (l.length - 0) ?_ ?_
  · exact ⟨0, h3.sub ⟨rfl, (slot_eq rfl (congrArg (Value.int .i64) (by first | rfl | omega))), trivial⟩, rfl, by omega, by first | (intro j hj; omega) | exact st_next (by assumption) (by assumption) (by omega), hB0⟩
  · rintro k4 a5 w6 ⟨i, h5, rfl, hi7, hi8, hB9⟩
    have hz10 := hB9.size
    refine co_seq ?_
    refine co_seq ?_
    refine co_reg ?_
    refine pl_val (v := .int .i64 ((i : Nat) : Int)) h5 rfl rfl rfl (by kernel_rfl) (by kernel_rfl) (by kernel_rfl) (fun a11 h11 => ?_); clear h5
    refine pl_val (v := v) h11 rfl rfl rfl (by kernel_rfl) (by kernel_rfl) (by kernel_rfl) (fun a12 h12 => ?_); clear h11
    refine pl_val (v := .int .i64 ((l.length : Nat) : Int)) h12 rfl rfl rfl (by kernel_rfl) (by kernel_rfl) (rn_len rfl rfl Try.underlying48 (hs.below hB9)) (fun a13 h13 => ?_); clear h12
    refine pl_val (v := .bool (decide (((i : Nat) : Int) < ((l.length : Nat) : Int)))) h13 rfl rfl rfl (by kernel_rfl) (by kernel_rfl) (by kernel_rfl) (fun a14 h14 => ?_); clear h13
    refine pl_nil ?_
    refine co_then ?_
    cases hc15 : (decide (((i : Nat) : Int) < ((l.length : Nat) : Int)))
    ·
      rw [hc15] at h14
      have hp16 : ¬ (((i : Nat) : Int) < ((l.length : Nat) : Int)) := of_decide_eq_false hc15
      clear hc15
      refine co_false h14 rfl ?_
      refine wp_exit ?_
      refine co_thenX ?_
      refine co_thenX ?_
      refine co_blockX ?_
      refine co_then ?_
      refine co_seq ?_
      refine co_reg ?_
      refine pl_val (v := v) h14 rfl rfl rfl (by kernel_rfl) (by kernel_rfl) (by kernel_rfl) (fun a17 h17 => ?_); clear h14
      refine pl_val (v := .int .i64 ((l.length : Nat) : Int)) h17 rfl rfl rfl (by kernel_rfl) (by kernel_rfl) (rn_len rfl rfl Try.underlying48 (hs.below hB9)) (fun a18 h18 => ?_); clear h17
      refine pl_val (v := .int .i64 ((l.length : Nat) : Int)) h18 rfl rfl rfl (by kernel_rfl) (by kernel_rfl) (by kernel_rfl) (fun a19 h19 => ?_); clear h18
      refine pl_nil ?_
      refine co_then ?_
      refine wp_ret ?_
      refine co_ret1 h19 rfl rfl ?_
      exact ⟨ret_int (by rw [stN_end (l := l) (i := i) (by assumption) (by omega)]; omega), hB9⟩
    ·
      rw [hc15] at h14
      have hp20 : ((i : Nat) : Int) < ((l.length : Nat) : Int) := of_decide_eq_true hc15
      clear hc15
      refine co_true h14 rfl ?_
      refine wp_skip ?_
      refine co_then ?_
      refine co_seq ?_
      refine wp_block ?_
      refine co_seq ?_
      refine co_reg ?_
      refine pl_val (v := v) h14 rfl rfl rfl (by kernel_rfl) (by kernel_rfl) (by kernel_rfl) (fun a21 h21 => ?_); clear h14
      refine pl_val (v := .int .i64 ((i : Nat) : Int)) h21 rfl rfl rfl (by kernel_rfl) (by kernel_rfl) (by kernel_rfl) (fun a22 h22 => ?_); clear h21
      obtain ⟨y23, hy23⟩ : ∃ z, l[i]? = some z := ⟨_, List.getElem?_eq_getElem (by first | omega | (simp; done) | (simp; omega))⟩
      have oky23 := hok _ (List.mem_of_getElem? hy23)
      have k24 : 0 ≤ y23.ts := oky23.ts0
      have k25 : y23.ts < 18446744073709551616 := oky23.ts1
      refine pl_val (v := .pointer (some ⟨(blkOf v), offOf v + i * 4, none⟩)) h22 rfl rfl rfl (by kernel_rfl) (by kernel_rfl) (rn_index rfl rfl rfl Try.underlying48 Try.sizeOf34 (hs.below hB9) (by omega) (by first | omega | (simp; done) | (simp; omega))) (fun a26 h26 => ?_); clear h22
      refine pl_val (v := .pointer (some ⟨(blkOf v), offOf v + i * 4 + 3, none⟩)) h26 rfl rfl rfl (by kernel_rfl) (by kernel_rfl) (by kernel_rfl) (fun a27 h27 => ?_); clear h26
      refine pl_val (v := .int .u64 y23.ts) h27 rfl rfl rfl (by kernel_rfl) (by kernel_rfl) (rn_load1 rfl rfl Try.isAgg32 ((sl_at (hs.below hB9) hy23) 3 _ rfl)) (fun a28 h28 => ?_); clear h27
      refine pl_val (v := .bool (y23.ts == 0)) h28 rfl rfl rfl (by kernel_rfl) (by kernel_rfl) (by kernel_rfl) (fun a29 h29 => ?_); clear h28
      refine pl_nil ?_
      refine co_then ?_
      cases hc30 : (y23.ts == 0)
      ·
        rw [hc30] at h29
        have hp31 : ¬ (y23.ts = 0) := by first | simpa using hc30 | simpa [and_assoc] using hc30
        clear hc30
        refine co_false h29 rfl ?_
        refine wp_skip ?_
        refine co_blockN ?_
        refine co_then ?_
        refine co_reg ?_
        refine pl_val (v := .int .i64 ((i : Nat) : Int)) h29 rfl rfl rfl (by kernel_rfl) (by kernel_rfl) (by kernel_rfl) (fun a32 h32 => ?_); clear h29
        refine pl_val (v := .int .i64 ((i + 1 : Nat) : Int)) h32 rfl rfl rfl (by kernel_rfl) (by kernel_rfl) (rn_arith' rfl rfl rfl rfl rfl rfl (IntWalk.i64_in _ (by omega)) (by omega)) (fun a33 h33 => ?_); clear h32
        refine pl_val (v := .int .i64 ((i + 1 : Nat) : Int)) h33 rfl rfl rfl (by kernel_rfl) (by kernel_rfl) (by kernel_rfl) (fun a34 h34 => ?_); clear h33
        refine pl_nil ?_
        refine co_then ?_
        refine ⟨(l.length - (i + 1)), by omega, ?_⟩
        exact ⟨i + 1, h34.sub ⟨rfl, rfl, trivial⟩, rfl, by omega, by first | (intro j hj; omega) | exact st_next (by assumption) (by assumption) (by omega), hB9⟩
      ·
        rw [hc30] at h29
        have hp35 : y23.ts = 0 := by first | simpa using hc30 | simpa [and_assoc] using hc30
        clear hc30
        refine co_true h29 rfl ?_
        refine co_seq ?_
        refine co_reg ?_
        refine pl_val (v := .int .i64 ((i : Nat) : Int)) h29 rfl rfl rfl (by kernel_rfl) (by kernel_rfl) (by kernel_rfl) (fun a36 h36 => ?_); clear h29
        refine pl_val (v := .int .i64 ((i : Nat) : Int)) h36 rfl rfl rfl (by kernel_rfl) (by kernel_rfl) (by kernel_rfl) (fun a37 h37 => ?_); clear h36
        refine pl_nil ?_
        refine co_then ?_
        refine wp_ret ?_
        refine co_blockR ?_
        refine co_thenR ?_
        refine co_thenR ?_
        refine co_blockR ?_
        refine co_thenR ?_
        refine co_ret1 h37 rfl rfl ?_
        exact ⟨ret_int (by rw [stN_stop (l := l) (i := i) (by assumption) hy23 (by omega)]), hB9⟩
set_option maxRecDepth 100000 in
theorem ritemLast_any (v : Value) (l : List EntT) (w : World) (hs : SliceOf entE 4 w v l) (hok : ∀ z ∈ l, EntOk w z) :
    Calls Try.prog 35 #[v] w fun e w' => e = .returned (.int .u64 (lastT l)) ∧ Below w.heap.size w w' := by
  have hst := stN_le l
  have hB0 := Below.refl w.heap.size w
  have hl_hs := sl_len hs
  refine co_enter (n := 14) Try.func35 rfl rfl rfl [(0, v)] rfl (fun a h0 => ?_)
  refine co_seq ?_
  refine co_reg ?_
  refine pl_val (v := .int .u64 0) h0 rfl rfl rfl (by kernel_rfl) (by kernel_rfl) (by kernel_rfl) (fun a1 h1 => ?_); clear h0
  refine pl_nil ?_
  refine co_then ?_
  refine co_seq ?_
  refine co_reg ?_
  refine pl_val (v := v) h1 rfl rfl rfl (by kernel_rfl) (by kernel_rfl) (by kernel_rfl) (fun a2 h2 => ?_); clear h1
  refine pl_want h2 rfl rfl rfl (op_call (args := #[v]) (R := fun res xw => res = .int .i64 ((stN l : Nat) : Int) ∧ Below w.heap.size w xw) rfl rfl rfl (by kernel_rfl) (by kernel_rfl) (Try.call33 _ _) (ritemStamped_any v l w hs hok) (by rintro e x ⟨rfl, hb5⟩; exact ⟨_, rfl, ⟨rfl, hb5⟩⟩)) ?_; clear h2
  rintro _ w4 a3 ⟨rfl, hb5⟩ h3
  have hB6 := hb_call hB0 hb5
  have hz7 := hB6.size
  have hz8 := hb5.size
  refine pl_val (v := .int .i64 ((stN l : Nat) : Int)) h3 rfl rfl rfl (by kernel_rfl) (by kernel_rfl) (by kernel_rfl) (fun a9 h9 => ?_); clear h3
  refine pl_nil ?_
  refine co_then ?_
  refine co_seq ?_
  refine co_seq ?_
  refine co_reg ?_
  refine pl_val (v := .int .i64 ((stN l : Nat) : Int)) h9 rfl rfl rfl (by kernel_rfl) (by kernel_rfl) (by kernel_rfl) (fun a10 h10 => ?_); clear h9
  refine pl_val (v := .bool (((stN l : Nat) : Int) == 0)) h10 rfl rfl rfl (by kernel_rfl) (by kernel_rfl) (by kernel_rfl) (fun a11 h11 => ?_); clear h10
  refine pl_nil ?_
  refine co_then ?_
  cases hc12 : (((stN l : Nat) : Int) == 0)
  ·
    rw [hc12] at h11
    have hp13 : ¬ (((stN l : Nat) : Int) = 0) := by first | simpa using hc12 | simpa [and_assoc] using hc12
    clear hc12
    refine co_false h11 rfl ?_
    refine wp_skip ?_
    refine co_then ?_
    refine co_seq ?_
    refine co_reg ?_
    refine pl_val (v := v) h11 rfl rfl rfl (by kernel_rfl) (by kernel_rfl) (by kernel_rfl) (fun a14 h14 => ?_); clear h11
    refine pl_val (v := .int .i64 ((stN l : Nat) : Int)) h14 rfl rfl rfl (by kernel_rfl) (by kernel_rfl) (by kernel_rfl) (fun a15 h15 => ?_); clear h14
    refine pl_val (v := .int .i64 (((stN l : Nat) : Int) - 1)) h15 rfl rfl rfl (by kernel_rfl) (by kernel_rfl) (rn_arith rfl rfl rfl rfl rfl rfl (IntWalk.i64_in _ (by omega))) (fun a16 h16 => ?_); clear h15
    obtain ⟨y17, hy17⟩ : ∃ z, l[(((stN l : Nat) : Int) - 1).toNat]? = some z := ⟨_, List.getElem?_eq_getElem (by first | omega | (simp; done) | (simp; omega))⟩
    have oky17 := hok _ (List.mem_of_getElem? hy17)
    have k18 : 0 ≤ y17.ts := oky17.ts0
    have k19 : y17.ts < 18446744073709551616 := oky17.ts1
    refine pl_val (v := .pointer (some ⟨(blkOf v), offOf v + ((((stN l : Nat) : Int) - 1).toNat) * 4, none⟩)) h16 rfl rfl rfl (by kernel_rfl) (by kernel_rfl) (rn_index rfl rfl rfl Try.underlying48 Try.sizeOf34 (hs.below hB6) (by omega) (by first | omega | (simp; done) | (simp; omega))) (fun a20 h20 => ?_); clear h16
    refine pl_val (v := .pointer (some ⟨(blkOf v), offOf v + ((((stN l : Nat) : Int) - 1).toNat) * 4 + 3, none⟩)) h20 rfl rfl rfl (by kernel_rfl) (by kernel_rfl) (by kernel_rfl) (fun a21 h21 => ?_); clear h20
    refine pl_val (v := .int .u64 y17.ts) h21 rfl rfl rfl (by kernel_rfl) (by kernel_rfl) (rn_load1 rfl rfl Try.isAgg32 ((sl_at (hs.below hB6) hy17) 3 _ rfl)) (fun a22 h22 => ?_); clear h21
    refine pl_val (v := .int .u64 y17.ts) h22 rfl rfl rfl (by kernel_rfl) (by kernel_rfl) (by kernel_rfl) (fun a23 h23 => ?_); clear h22
    refine pl_nil ?_
    refine co_then ?_
    refine wp_ret ?_
    refine co_ret1 h23 rfl rfl ?_
    exact ⟨ret_int (lastT_at (j := (((stN l : Nat) : Int) - 1).toNat) (by omega) (by omega) hy17), hB6⟩
  ·
    rw [hc12] at h11
    have hp24 : ((stN l : Nat) : Int) = 0 := by first | simpa using hc12 | simpa [and_assoc] using hc12
    clear hc12
    refine co_true h11 rfl ?_
    refine co_seq ?_
    refine co_reg ?_
    refine pl_val (v := .int .u64 0) h11 rfl rfl rfl (by kernel_rfl) (by kernel_rfl) (by kernel_rfl) (fun a25 h25 => ?_); clear h11
    refine pl_nil ?_
    refine co_then ?_
    refine wp_ret ?_
    refine co_thenR ?_
    refine co_ret1 h25 rfl rfl ?_
    exact ⟨ret_int (lastT_0 (by omega)), hB6⟩
set_option maxRecDepth 100000 in
theorem itemLists_law (v : Value) (l : List EntT) (w : World) (hs : SliceOf entE 4 w v l) (hok : ∀ z ∈ l, EntOk w z) (hS : ∀ z ∈ l, EntOkS w z) (hl : l.length ≤ 2932031007403) :
    Calls Try.prog 6 #[v] w fun e w' => e = .returned (.bool true) ∧ Below w.heap.size w w' := by
  have hB0 := Below.refl w.heap.size w
  have hl_hs := sl_len hs
  refine co_enter (n := 29) Try.func6 rfl rfl rfl [(0, v)] rfl (fun a h0 => ?_)
  refine co_seq ?_
  refine co_reg ?_
  refine pl_val (v := .bool false) h0 rfl rfl rfl (by kernel_rfl) (by kernel_rfl) (by kernel_rfl) (fun a1 h1 => ?_); clear h0
  refine pl_nil ?_
  refine co_then ?_
  refine co_seq ?_
  refine co_seq ?_
  refine co_reg ?_
  refine pl_val (v := v) h1 rfl rfl rfl (by kernel_rfl) (by kernel_rfl) (by kernel_rfl) (fun a2 h2 => ?_); clear h1
  refine pl_want h2 rfl rfl rfl (op_call (args := #[v]) (R := fun res xw => res = .int .i64 (muchN l) ∧ Below w.heap.size w xw) rfl rfl rfl (by kernel_rfl) (by kernel_rfl) (Try.call29 _ _) (much_any v l w hs (hS) (by first | omega | (simp; done) | (simp; omega))) (by rintro e x ⟨rfl, hb5⟩; exact ⟨_, rfl, ⟨rfl, hb5⟩⟩)) ?_; clear h2
  rintro _ w4 a3 ⟨rfl, hb5⟩ h3
  have hB6 := hb_call hB0 hb5
  have hz7 := hB6.size
  have hz8 := hb5.size
  refine pl_val (v := .bool (decide (muchN l > 100))) h3 rfl rfl rfl (by kernel_rfl) (by kernel_rfl) (by kernel_rfl) (fun a9 h9 => ?_); clear h3
  refine pl_nil ?_
  refine co_then ?_
  cases hc10 : (decide (muchN l > 100))
  ·
    rw [hc10] at h9
    have hp11 : ¬ (muchN l > 100) := of_decide_eq_false hc10
    clear hc10
    refine co_false h9 rfl ?_
    refine wp_skip ?_
    refine co_then ?_
    refine co_seq ?_
    refine co_reg ?_
    refine pl_val (v := v) h9 rfl rfl rfl (by kernel_rfl) (by kernel_rfl) (by kernel_rfl) (fun a12 h12 => ?_); clear h9
    refine pl_want h12 rfl rfl rfl (op_call (args := #[v]) (R := fun res xw => res = .int .i64 (rightI l) ∧ Below w4.heap.size w4 xw) rfl rfl rfl (by kernel_rfl) (by kernel_rfl) (Try.call30 _ _) (itemRight_any v l w4 (hs.below hB6) (fun z hz => (hok z hz).below hB6)) (by rintro e x ⟨rfl, hb15⟩; exact ⟨_, rfl, ⟨rfl, hb15⟩⟩)) ?_; clear h12
    rintro _ w14 a13 ⟨rfl, hb15⟩ h13
    have hB16 := hb_call hB6 hb15
    have hz17 := hB16.size
    have hz18 := hb15.size
    refine pl_val (v := v) h13 rfl rfl rfl (by kernel_rfl) (by kernel_rfl) (by kernel_rfl) (fun a19 h19 => ?_); clear h13
    refine pl_want h19 rfl rfl rfl (op_call (args := #[v]) (R := fun res xw => res = .int .i64 (rightI l) ∧ Below w14.heap.size w14 xw) rfl rfl rfl (by kernel_rfl) (by kernel_rfl) (Try.call31 _ _) (ritemRight_any v l w14 (hs.below hB16) (fun z hz => (hok z hz).below hB16)) (by rintro e x ⟨rfl, hb22⟩; exact ⟨_, rfl, ⟨rfl, hb22⟩⟩)) ?_; clear h19
    rintro _ w21 a20 ⟨rfl, hb22⟩ h20
    have hB23 := hb_call hB16 hb22
    have hz24 := hB23.size
    have hz25 := hb22.size
    refine pl_val (v := .bool (rightI l == rightI l)) h20 rfl rfl rfl (by kernel_rfl) (by kernel_rfl) (by kernel_rfl) (fun a26 h26 => ?_); clear h20
    refine pl_val (v := .bool (rightI l == rightI l)) h26 rfl rfl rfl (by kernel_rfl) (by kernel_rfl) (by kernel_rfl) (fun a27 h27 => ?_); clear h26
    have hc28 : (rightI l == rightI l) = true := by first | (simp; done) | (simp; omega)
    rw [hc28] at h27; clear hc28
    refine pl_val (v := v) h27 rfl rfl rfl (by kernel_rfl) (by kernel_rfl) (by kernel_rfl) (fun a29 h29 => ?_); clear h27
    refine pl_want h29 rfl rfl rfl (op_call (args := #[v]) (R := fun res xw => res = .int .i64 ((stN l : Nat) : Int) ∧ Below w21.heap.size w21 xw) rfl rfl rfl (by kernel_rfl) (by kernel_rfl) (Try.call32 _ _) (itemStamped_any v l w21 (hs.below hB23) (fun z hz => (hok z hz).below hB23)) (by rintro e x ⟨rfl, hb32⟩; exact ⟨_, rfl, ⟨rfl, hb32⟩⟩)) ?_; clear h29
    rintro _ w31 a30 ⟨rfl, hb32⟩ h30
    have hB33 := hb_call hB23 hb32
    have hz34 := hB33.size
    have hz35 := hb32.size
    refine pl_val (v := v) h30 rfl rfl rfl (by kernel_rfl) (by kernel_rfl) (by kernel_rfl) (fun a36 h36 => ?_); clear h30
    refine pl_want h36 rfl rfl rfl (op_call (args := #[v]) (R := fun res xw => res = .int .i64 ((stN l : Nat) : Int) ∧ Below w31.heap.size w31 xw) rfl rfl rfl (by kernel_rfl) (by kernel_rfl) (Try.call33 _ _) (ritemStamped_any v l w31 (hs.below hB33) (fun z hz => (hok z hz).below hB33)) (by rintro e x ⟨rfl, hb39⟩; exact ⟨_, rfl, ⟨rfl, hb39⟩⟩)) ?_; clear h36
    rintro _ w38 a37 ⟨rfl, hb39⟩ h37
    have hB40 := hb_call hB33 hb39
    have hz41 := hB40.size
    have hz42 := hb39.size
    refine pl_val (v := .bool (((stN l : Nat) : Int) == ((stN l : Nat) : Int))) h37 rfl rfl rfl (by kernel_rfl) (by kernel_rfl) (by kernel_rfl) (fun a43 h43 => ?_); clear h37
    refine pl_val (v := .bool (((stN l : Nat) : Int) == ((stN l : Nat) : Int))) h43 rfl rfl rfl (by kernel_rfl) (by kernel_rfl) (by kernel_rfl) (fun a44 h44 => ?_); clear h43
    refine pl_val (v := .bool (((stN l : Nat) : Int) == ((stN l : Nat) : Int))) h44 rfl rfl rfl (by kernel_rfl) (by kernel_rfl) (by kernel_rfl) (fun a45 h45 => ?_); clear h44
    have hc46 : (((stN l : Nat) : Int) == ((stN l : Nat) : Int)) = true := by first | (simp; done) | (simp; omega)
    rw [hc46] at h45; clear hc46
    refine pl_val (v := v) h45 rfl rfl rfl (by kernel_rfl) (by kernel_rfl) (by kernel_rfl) (fun a47 h47 => ?_); clear h45
    refine pl_want h47 rfl rfl rfl (op_call (args := #[v]) (R := fun res xw => res = .int .u64 (lastT l) ∧ Below w38.heap.size w38 xw) rfl rfl rfl (by kernel_rfl) (by kernel_rfl) (Try.call34 _ _) (itemLast_any v l w38 (hs.below hB40) (fun z hz => (hok z hz).below hB40)) (by rintro e x ⟨rfl, hb50⟩; exact ⟨_, rfl, ⟨rfl, hb50⟩⟩)) ?_; clear h47
    rintro _ w49 a48 ⟨rfl, hb50⟩ h48
    have hB51 := hb_call hB40 hb50
    have hz52 := hB51.size
    have hz53 := hb50.size
    refine pl_val (v := v) h48 rfl rfl rfl (by kernel_rfl) (by kernel_rfl) (by kernel_rfl) (fun a54 h54 => ?_); clear h48
    refine pl_want h54 rfl rfl rfl (op_call (args := #[v]) (R := fun res xw => res = .int .u64 (lastT l) ∧ Below w49.heap.size w49 xw) rfl rfl rfl (by kernel_rfl) (by kernel_rfl) (Try.call35 _ _) (ritemLast_any v l w49 (hs.below hB51) (fun z hz => (hok z hz).below hB51)) (by rintro e x ⟨rfl, hb57⟩; exact ⟨_, rfl, ⟨rfl, hb57⟩⟩)) ?_; clear h54
    rintro _ w56 a55 ⟨rfl, hb57⟩ h55
    have hB58 := hb_call hB51 hb57
    have hz59 := hB58.size
    have hz60 := hb57.size
    refine pl_val (v := .bool (lastT l == lastT l)) h55 rfl rfl rfl (by kernel_rfl) (by kernel_rfl) (by kernel_rfl) (fun a61 h61 => ?_); clear h55
    refine pl_val (v := .bool (lastT l == lastT l)) h61 rfl rfl rfl (by kernel_rfl) (by kernel_rfl) (by kernel_rfl) (fun a62 h62 => ?_); clear h61
    refine pl_val (v := .bool (lastT l == lastT l)) h62 rfl rfl rfl (by kernel_rfl) (by kernel_rfl) (by kernel_rfl) (fun a63 h63 => ?_); clear h62
    have hc64 : (lastT l == lastT l) = true := by first | (simp; done) | (simp; omega)
    rw [hc64] at h63; clear hc64
    refine pl_want h63 rfl rfl rfl (op_call (args := #[]) (R := fun res xw => res = .bool true ∧ Below w56.heap.size w56 xw) rfl rfl rfl (by kernel_rfl) (by kernel_rfl) (Try.call18 _ _) (awake08_any  w56 ) (by rintro e x ⟨rfl, hb67⟩; exact ⟨_, rfl, ⟨rfl, hb67⟩⟩)) ?_; clear h63
    rintro _ w66 a65 ⟨rfl, hb67⟩ h65
    have hB68 := hb_call hB58 hb67
    have hz69 := hB68.size
    have hz70 := hb67.size
    refine pl_val (v := .bool true) h65 rfl rfl rfl (by kernel_rfl) (by kernel_rfl) (by kernel_rfl) (fun a71 h71 => ?_); clear h65
    refine pl_val (v := .bool true) h71 rfl rfl rfl (by kernel_rfl) (by kernel_rfl) (by kernel_rfl) (fun a72 h72 => ?_); clear h71
    refine pl_nil ?_
    refine co_then ?_
    refine wp_ret ?_
    refine co_ret1 h72 rfl rfl ?_
    exact ⟨rfl, hB68⟩
  ·
    rw [hc10] at h9
    have hp73 : muchN l > 100 := of_decide_eq_true hc10
    clear hc10
    refine co_true h9 rfl ?_
    refine co_seq ?_
    refine co_reg ?_
    refine pl_want h9 rfl rfl rfl (op_call (args := #[]) (R := fun res xw => res = .bool true ∧ Below w4.heap.size w4 xw) rfl rfl rfl (by kernel_rfl) (by kernel_rfl) (Try.call18 _ _) (awake08_any  w4 ) (by rintro e x ⟨rfl, hb76⟩; exact ⟨_, rfl, ⟨rfl, hb76⟩⟩)) ?_; clear h9
    rintro _ w75 a74 ⟨rfl, hb76⟩ h74
    have hB77 := hb_call hB6 hb76
    have hz78 := hB77.size
    have hz79 := hb76.size
    refine pl_val (v := .bool true) h74 rfl rfl rfl (by kernel_rfl) (by kernel_rfl) (by kernel_rfl) (fun a80 h80 => ?_); clear h74
    refine pl_nil ?_
    refine co_then ?_
    refine wp_ret ?_
    refine co_thenR ?_
    refine co_ret1 h80 rfl rfl ?_
    exact ⟨rfl, hB77⟩
theorem itemLists_w (v : Value) (l : List EntT) (w : World) (hs : SliceOf entE 4 w v l) (hg : (∀ p ∈ l, EntOkS w p) ∧ l.length ≤ 2932031007403) : Calls Try.prog 6 #[v] w fun e w' => e = .returned (.bool true) ∧ Below w.heap.size w w' := itemLists_law v l w hs (fun z hz => (hg.1 z hz).1) hg.1 hg.2
end Go.Proofs.Yteioaaegooebpaa
