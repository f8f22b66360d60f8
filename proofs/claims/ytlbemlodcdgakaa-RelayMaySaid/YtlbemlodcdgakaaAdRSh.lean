/- Package item: Right of the document; Copy. Conditions: none. -/
import Derived.Test.YtlbemlodcdgakaaAdZSh
namespace Go.Proofs.Ytlbemlodcdgakaa
open Go.RowKit Go.PlainAid
set_option linter.unusedVariables false
set_option linter.unusedSimpArgs false


theorem fold_nn : ∀ (l : List EntT) (m : Int), m ≤ l.foldl (fun n e => n + (e.opl.length : Int)) m
  | [], m => Int.le_refl m
  | e :: r, m => by have := fold_nn r (m + (e.opl.length : Int)); simp only [List.foldl_cons]; omega
theorem tw_no {l : List EntT} {k : Nat} {z : EntT} {c r : Int} (h : twN (l.take k) c r = 0) (hz : l[k]? = some z) (hn : ¬ (z.client = c ∧ z.req = r)) : twN (l.take (k + 1)) c r = 0 := by
  rw [takeE hz, twN_snoc, if_neg hn, h]; rfl
theorem tw_yes {l : List EntT} {k i : Nat} {z : EntT} {c r : Int} (hz : l[k]? = some z) (hk : k < i) (hy : z.client = c ∧ z.req = r) : 0 < twN (l.take i) c r := by
  have h1 : z ∈ l.take i := List.mem_of_getElem? (by rw [List.getElem?_take, if_pos hk]; exact hz)
  have h2 : 0 < (l.take i).countP (fun e => e.client == c && e.req == r) := List.countP_pos_iff.2 ⟨z, h1, by simp [hy.1, hy.2]⟩
  unfold twN; omega
theorem tw_end {l : List EntT} {k i : Nat} {c r : Int} (h : twN (l.take k) c r = 0) (hk : k = i) : ¬ 0 < twN (l.take i) c r := by subst hk; omega

set_option maxRecDepth 100000 in
theorem ritemRight_any (v : Value) (l : List EntT) (w : World) (hs : SliceOf entE 4 w v l) (hok : ∀ z ∈ l, EntOk w z) :
    Calls Try.prog 38 #[v] w fun e w' => e = .returned (.int .i64 (rightI l)) ∧ Below w.heap.size w w' := by
 have hB0 := Below.refl w.heap.size w
 have hl_hs := sl_len hs
 refine co_enter (n := 67) Try.func38 rfl rfl rfl [(0, v)] rfl (fun a h0 => ?_)
 refine co_seq ?_
 refine co_reg ?_
 refine pk0 (v := .int .i64 0) h0 rfl fun a1 h1 => ?_; clear h0
 refine pl_nil ?_
 refine co_then ?_
 refine co_seq ?_
 refine co_seq ?_
 refine co_reg ?_
 refine pk0 (v := .int .i64 0) h1 rfl fun a2 h2 => ?_; clear h1
 refine pl_nil ?_
 refine co_then ?_
 refine wp_block ?_
 have h3 : Slots 67 [(0, v), (3, .int .i64 0)] _ := h2.sub ⟨rfl, rfl, trivial⟩; clear h2
 refine co_loop (fun mm a x => ∃ (i : Nat), Slots 67 [(0, v), (3, .int .i64 ((i : Nat) : Int))] a ∧ mm = l.length - i ∧ (i ≤ l.length) ∧ (rgF (l.take i) (l.drop i) = rightI l) ∧ Below w.heap.size w x) (l.length - 0) ?_ ?_
 · exact ⟨0, h3.sub ⟨rfl, (slot_eq rfl (congrArg (Value.int .i64) (by first | rfl | omega))), trivial⟩, rfl, by omega, by first | rfl | exact hL', hB0⟩
 · rintro k4 a5 w6 ⟨i, h5, rfl, hi7, hi8, hB9⟩
   have hz10 := hB9.size
   have hL : rgF (l.take i) (l.drop i) = rightI l := by assumption
   refine co_seq ?_
   refine co_seq ?_
   refine co_reg ?_
   refine pk0 (v := .int .i64 ((i : Nat) : Int)) h5 rfl fun a11 h11 => ?_; clear h5
   refine pk0 (v := v) h11 rfl fun a12 h12 => ?_; clear h11
   refine pk (v := .int .i64 ((l.length : Nat) : Int)) h12 rfl (rn_len rfl rfl Try.underlying69 (hs.below hB9)) fun a13 h13 => ?_; clear h12
   refine pk0 (v := .bool (decide (((i : Nat) : Int) < ((l.length : Nat) : Int)))) h13 rfl fun a14 h14 => ?_; clear h13
   refine pl_nil ?_
   refine co_then ?_
   cases hc15 : (decide (((i : Nat) : Int) < ((l.length : Nat) : Int)))
   ·
    rw [hc15] at h14
    have hp16 : ¬ (((i : Nat) : Int) < ((l.length : Nat) : Int)) := of_decide_eq_false hc15
    clear hc15
    refine co_false h14 rfl ?_
    refine wp_exit ?_
    refine co_thenX ?_
    refine co_thenX ?_
    refine co_blockX ?_
    refine co_then ?_
    refine co_seq ?_
    refine co_reg ?_
    refine pk0 (v := .int .i64 0) h14 rfl fun a17 h17 => ?_; clear h14
    refine pl_nil ?_
    refine co_then ?_
    refine wp_ret ?_
    refine co_ret1 h17 rfl rfl ?_
    exact ⟨ret_int (rg_end (i := i) hL (by omega)), hB9⟩
   ·
    rw [hc15] at h14
    have hp18 : ((i : Nat) : Int) < ((l.length : Nat) : Int) := of_decide_eq_true hc15
    clear hc15
    refine co_true h14 rfl ?_
    refine wp_skip ?_
    refine co_then ?_
    refine co_seq ?_
    refine wp_block ?_
    refine co_seq ?_
    refine co_seq ?_
    refine co_reg ?_
    refine pk0 (v := v) h14 rfl fun a19 h19 => ?_; clear h14
    refine pk0 (v := .int .i64 ((i : Nat) : Int)) h19 rfl fun a20 h20 => ?_; clear h19
    obtain ⟨y21, hy21⟩ : ∃ z, l[i]? = some z := ⟨_, List.getElem?_eq_getElem (by first | omega | (simp; done) | (simp; omega))⟩
    have oky21 := hok _ (List.mem_of_getElem? hy21)
    have k22 : 0 ≤ y21.ts := oky21.ts0
    have k23 : y21.ts < 18446744073709551616 := oky21.ts1
    refine pk (v := pt (blkOf v) (offOf v + i * 4)) h20 rfl (rn_index rfl rfl rfl Try.underlying69 Try.sizeOf38 (hs.below hB9) (by omega) (by first | omega | (simp; done) | (simp; omega))) fun a24 h24 => ?_; clear h20
    refine pk (v := .agg #[.int .i64 y21.client, .int .i64 y21.req, y21.ops, .int .u64 y21.ts]) h24 rfl (rn_loadN rfl rfl Try.underlying38 rfl (by kernel_rfl) (sl_at (hs.below hB9) hy21)) fun a25 h25 => ?_; clear h24
    refine pw h25 rfl (op_call (args := #[.agg #[.int .i64 y21.client, .int .i64 y21.req, y21.ops, .int .u64 y21.ts]]) (R := fun res xw => res = .int .i64 (chkB y21.client y21.req y21.opl) ∧ Below w6.heap.size w6 xw) rfl rfl rfl (by kernel_rfl) (by kernel_rfl) (Try.call81 _ _) (ritemCheck_any y21.client y21.req y21.ops y21.opl y21.ts w6 (oky21.ops.below hB9)) (by rintro e x ⟨rfl, hb28⟩; exact ⟨_, rfl, ⟨rfl, hb28⟩⟩)) ?_; clear h25
    rintro _ w27 a26 ⟨rfl, hb28⟩ h26
    have hz29 := hb28.size
    refine pk0 (v := .int .i64 (chkB y21.client y21.req y21.opl)) h26 rfl fun a30 h30 => ?_; clear h26
    refine pl_nil ?_
    refine co_then ?_
    refine co_seq ?_
    refine co_reg ?_
    refine pk0 (v := .int .i64 (chkB y21.client y21.req y21.opl)) h30 rfl fun a31 h31 => ?_; clear h30
    refine pk0 (v := .bool (chkB y21.client y21.req y21.opl != 0)) h31 rfl fun a32 h32 => ?_; clear h31
    refine pl_nil ?_
    refine co_then ?_
    have hB34 := hb_call hB9 hb28
    cases hc33 : (chkB y21.client y21.req y21.opl != 0)
    ·
     rw [hc33] at h32
     have hp35 : ¬ (chkB y21.client y21.req y21.opl ≠ 0) := by first | simpa using hc33 | simpa [and_assoc] using hc33
     clear hc33
     refine co_false h32 rfl ?_
     refine wp_skip ?_
     refine co_then ?_
     refine co_seq ?_
     refine co_seq ?_
     refine co_reg ?_
     refine pk0 (v := .int .i64 0) h32 rfl fun a36 h36 => ?_; clear h32
     refine pl_nil ?_
     refine co_then ?_
     refine wp_block ?_
     have h37 : Slots 67 [(0, v), (3, .int .i64 ((i : Nat) : Int)), (5, .int .i64 0)] _ := h36.sub ⟨rfl, rfl, rfl, trivial⟩; clear h36
     refine co_loop (fun mm a x => ∃ (k : Nat), Slots 67 [(0, v), (3, .int .i64 ((i : Nat) : Int)), (5, .int .i64 ((k : Nat) : Int))] a ∧ mm = i - k ∧ (k ≤ i) ∧ (twN (l.take k) y21.client y21.req = 0) ∧ Below w.heap.size w x) (i - 0) ?_ ?_
     · exact ⟨0, h37.sub ⟨rfl, rfl, (slot_eq rfl (congrArg (Value.int .i64) (by first | rfl | omega))), trivial⟩, rfl, by omega, by first | (simp [twN]; done) | exact htn, hB34⟩
     · rintro k38 a39 w40 ⟨k, h39, rfl, hi41, hi42, hB43⟩
       have hz44 := hB43.size
       refine co_seq ?_
       refine co_seq ?_
       refine co_reg ?_
       refine pk0 (v := .int .i64 ((k : Nat) : Int)) h39 rfl fun a45 h45 => ?_; clear h39
       refine pk0 (v := .int .i64 ((i : Nat) : Int)) h45 rfl fun a46 h46 => ?_; clear h45
       refine pk0 (v := .bool (decide (((k : Nat) : Int) < ((i : Nat) : Int)))) h46 rfl fun a47 h47 => ?_; clear h46
       refine pl_nil ?_
       refine co_then ?_
       cases hc48 : (decide (((k : Nat) : Int) < ((i : Nat) : Int)))
       ·
        rw [hc48] at h47
        have hp49 : ¬ (((k : Nat) : Int) < ((i : Nat) : Int)) := of_decide_eq_false hc48
        clear hc48
        refine co_false h47 rfl ?_
        refine wp_exit ?_
        refine co_thenX ?_
        refine co_thenX ?_
        refine co_blockX ?_
        refine co_then ?_
        refine co_seq ?_
        refine dr_eq (by kernel_rfl) (fun w50 hg51 => ?_)
        have hz52 := hg51.size
        refine dk0 0 (v := .int .i64 ((i : Nat) : Int)) h47 rfl rfl rfl fun a53 h53 => ?_; clear h47
        refine dk0 1 (v := .bool (decide (((i : Nat) : Int) > 0))) h53 rfl rfl rfl fun a54 h54 => ?_; clear h53
        refine dk0 2 (v := .bool (decide (((i : Nat) : Int) > 0))) h54 rfl rfl rfl fun a55 h55 => ?_; clear h54
        have hB57 := hb_new hB43 hg51
        cases hc56 : (decide (((i : Nat) : Int) > 0))
        ·
         rw [hc56] at h55
         have hp58 : ¬ (((i : Nat) : Int) > 0) := of_decide_eq_false hc56
         clear hc56
         refine dsk 3 h55 rfl rfl rfl fun a59 h59 => ?_; clear h55
         refine dsk 4 h59 rfl rfl rfl fun a60 h60 => ?_; clear h59
         refine dsk 5 h60 rfl rfl rfl fun a61 h61 => ?_; clear h60
         refine dsk 6 h61 rfl rfl rfl fun a62 h62 => ?_; clear h61
         refine dsk 7 h62 rfl rfl rfl fun a63 h63 => ?_; clear h62
         refine dsk 8 h63 rfl rfl rfl fun a64 h64 => ?_; clear h63
         refine dk0 9 (v := .bool false) h64 rfl rfl rfl fun a65 h65 => ?_; clear h64
         refine dk0 10 (v := .bool false) h65 rfl rfl rfl fun a66 h66 => ?_; clear h65
         refine dsk 11 h66 rfl rfl rfl fun a67 h67 => ?_; clear h66
         refine dsk 12 h67 rfl rfl rfl fun a68 h68 => ?_; clear h67
         refine dsk 13 h68 rfl rfl rfl fun a69 h69 => ?_; clear h68
         refine dsk 14 h69 rfl rfl rfl fun a70 h70 => ?_; clear h69
         refine dsk 15 h70 rfl rfl rfl fun a71 h71 => ?_; clear h70
         refine dsk 16 h71 rfl rfl rfl fun a72 h72 => ?_; clear h71
         refine dsk 17 h72 rfl rfl rfl fun a73 h73 => ?_; clear h72
         refine dsk 18 h73 rfl rfl rfl fun a74 h74 => ?_; clear h73
         refine dsk 19 h74 rfl rfl rfl fun a75 h75 => ?_; clear h74
         refine dsk 20 h75 rfl rfl rfl fun a76 h76 => ?_; clear h75
         refine dsk 21 h76 rfl rfl rfl fun a77 h77 => ?_; clear h76
         refine dsk 22 h77 rfl rfl rfl fun a78 h78 => ?_; clear h77
         refine dsk 23 h78 rfl rfl rfl fun a79 h79 => ?_; clear h78
         refine dsk 24 h79 rfl rfl rfl fun a80 h80 => ?_; clear h79
         refine dsk 25 h80 rfl rfl rfl fun a81 h81 => ?_; clear h80
         refine dsk 26 h81 rfl rfl rfl fun a82 h82 => ?_; clear h81
         refine dsk 27 h82 rfl rfl rfl fun a83 h83 => ?_; clear h82
         refine dsk 28 h83 rfl rfl rfl fun a84 h84 => ?_; clear h83
         refine dsk 29 h84 rfl rfl rfl fun a85 h85 => ?_; clear h84
         refine dsk 30 h85 rfl rfl rfl fun a86 h86 => ?_; clear h85
         refine dsk 31 h86 rfl rfl rfl fun a87 h87 => ?_; clear h86
         refine dk0 32 (v := .bool false) h87 rfl rfl rfl fun a88 h88 => ?_; clear h87
         refine dr_done (by kernel_rfl) ?_
         refine co_then ?_
         refine co_false h88 rfl ?_
         refine wp_skip ?_
         refine co_blockN ?_
         refine co_then ?_
         refine co_reg ?_
         refine pk0 (v := .int .i64 ((i : Nat) : Int)) h88 rfl fun a89 h89 => ?_; clear h88
         refine pk (v := .int .i64 ((i + 1 : Nat) : Int)) h89 rfl (rn_arith' rfl rfl rfl rfl rfl rfl (IntWalk.i64_in _ (by omega)) (by omega)) fun a90 h90 => ?_; clear h89
         refine pk0 (v := .int .i64 ((i + 1 : Nat) : Int)) h90 rfl fun a91 h91 => ?_; clear h90
         refine pl_nil ?_
         refine co_then ?_
         refine ⟨(l.length - (i + 1)), by omega, ?_⟩
         have htw := tw_end (i := i) (by assumption : twN (l.take k) y21.client y21.req = 0) (by omega)
         have hbd : badT (l.take i) y21 = false := by first | exact bad_ts (by omega) | exact bad_0 (by omega)
         have hL' := rg_step (i := i) hL hy21 (by omega) htw hbd
         exact ⟨i + 1, h91.sub ⟨rfl, rfl, trivial⟩, rfl, by omega, by first | rfl | exact hL', hB57⟩
        ·
         rw [hc56] at h55
         have hp92 : ((i : Nat) : Int) > 0 := of_decide_eq_true hc56
         clear hc56
         refine dk0 3 (v := v) h55 rfl rfl rfl fun a93 h93 => ?_; clear h55
         refine dk0 4 (v := .int .i64 ((i : Nat) : Int)) h93 rfl rfl rfl fun a94 h94 => ?_; clear h93
         refine dk 5 (v := pt (blkOf v) (offOf v + i * 4)) h94 rfl rfl rfl (fun x hx => by subst hx; exact (rn_index rfl rfl rfl Try.underlying69 Try.sizeOf38 (hs.below hB57) (by omega) (by first | omega | (simp; done) | (simp; omega)))) fun a95 h95 => ?_; clear h94
         refine dk0 6 (v := pt (blkOf v) (offOf v + i * 4 + 3)) h95 rfl rfl rfl fun a96 h96 => ?_; clear h95
         refine dk 7 (v := .int .u64 y21.ts) h96 rfl rfl rfl (fun x hx => by subst hx; exact (rn_load1 rfl rfl Try.isAgg29 ((sl_at (hs.below hB57) hy21) 3 _ rfl))) fun a97 h97 => ?_; clear h96
         refine dk0 8 (v := .bool (y21.ts != 0)) h97 rfl rfl rfl fun a98 h98 => ?_; clear h97
         refine dk0 9 (v := .bool (y21.ts != 0)) h98 rfl rfl rfl fun a99 h99 => ?_; clear h98
         refine dk0 10 (v := .bool (y21.ts != 0)) h99 rfl rfl rfl fun a100 h100 => ?_; clear h99
         cases hc101 : (y21.ts != 0)
         ·
          rw [hc101] at h100
          have hp102 : ¬ (y21.ts ≠ 0) := by first | simpa using hc101 | simpa [and_assoc] using hc101
          clear hc101
          refine dsk 11 h100 rfl rfl rfl fun a103 h103 => ?_; clear h100
          refine dsk 12 h103 rfl rfl rfl fun a104 h104 => ?_; clear h103
          refine dsk 13 h104 rfl rfl rfl fun a105 h105 => ?_; clear h104
          refine dsk 14 h105 rfl rfl rfl fun a106 h106 => ?_; clear h105
          refine dsk 15 h106 rfl rfl rfl fun a107 h107 => ?_; clear h106
          refine dsk 16 h107 rfl rfl rfl fun a108 h108 => ?_; clear h107
          refine dsk 17 h108 rfl rfl rfl fun a109 h109 => ?_; clear h108
          refine dsk 18 h109 rfl rfl rfl fun a110 h110 => ?_; clear h109
          refine dsk 19 h110 rfl rfl rfl fun a111 h111 => ?_; clear h110
          refine dsk 20 h111 rfl rfl rfl fun a112 h112 => ?_; clear h111
          refine dsk 21 h112 rfl rfl rfl fun a113 h113 => ?_; clear h112
          refine dsk 22 h113 rfl rfl rfl fun a114 h114 => ?_; clear h113
          refine dsk 23 h114 rfl rfl rfl fun a115 h115 => ?_; clear h114
          refine dsk 24 h115 rfl rfl rfl fun a116 h116 => ?_; clear h115
          refine dsk 25 h116 rfl rfl rfl fun a117 h117 => ?_; clear h116
          refine dsk 26 h117 rfl rfl rfl fun a118 h118 => ?_; clear h117
          refine dsk 27 h118 rfl rfl rfl fun a119 h119 => ?_; clear h118
          refine dsk 28 h119 rfl rfl rfl fun a120 h120 => ?_; clear h119
          refine dsk 29 h120 rfl rfl rfl fun a121 h121 => ?_; clear h120
          refine dsk 30 h121 rfl rfl rfl fun a122 h122 => ?_; clear h121
          refine dsk 31 h122 rfl rfl rfl fun a123 h123 => ?_; clear h122
          refine dk0 32 (v := .bool false) h123 rfl rfl rfl fun a124 h124 => ?_; clear h123
          refine dr_done (by kernel_rfl) ?_
          refine co_then ?_
          refine co_false h124 rfl ?_
          refine wp_skip ?_
          refine co_blockN ?_
          refine co_then ?_
          refine co_reg ?_
          refine pk0 (v := .int .i64 ((i : Nat) : Int)) h124 rfl fun a125 h125 => ?_; clear h124
          refine pk (v := .int .i64 ((i + 1 : Nat) : Int)) h125 rfl (rn_arith' rfl rfl rfl rfl rfl rfl (IntWalk.i64_in _ (by omega)) (by omega)) fun a126 h126 => ?_; clear h125
          refine pk0 (v := .int .i64 ((i + 1 : Nat) : Int)) h126 rfl fun a127 h127 => ?_; clear h126
          refine pl_nil ?_
          refine co_then ?_
          refine ⟨(l.length - (i + 1)), by omega, ?_⟩
          have htw := tw_end (i := i) (by assumption : twN (l.take k) y21.client y21.req = 0) (by omega)
          have hbd : badT (l.take i) y21 = false := by first | exact bad_ts (by omega) | exact bad_0 (by omega)
          have hL' := rg_step (i := i) hL hy21 (by omega) htw hbd
          exact ⟨i + 1, h127.sub ⟨rfl, rfl, trivial⟩, rfl, by omega, by first | rfl | exact hL', hB57⟩
         ·
          rw [hc101] at h100
          have hp128 : y21.ts ≠ 0 := by first | simpa using hc101 | simpa [and_assoc] using hc101
          clear hc101
          refine dk0 11 (v := v) h100 rfl rfl rfl fun a129 h129 => ?_; clear h100
          refine dk0 12 (v := .int .i64 ((i : Nat) : Int)) h129 rfl rfl rfl fun a130 h130 => ?_; clear h129
          refine dk 13 (v := .int .i64 (((i : Nat) : Int) - 1)) h130 rfl rfl rfl (fun x hx => by subst hx; exact (rn_arith rfl rfl rfl rfl rfl rfl (IntWalk.i64_in _ (by omega)))) fun a131 h131 => ?_; clear h130
          obtain ⟨y132, hy132⟩ : ∃ z, l[(((i : Nat) : Int) - 1).toNat]? = some z := ⟨_, List.getElem?_eq_getElem (by first | omega | (simp; done) | (simp; omega))⟩
          have oky132 := hok _ (List.mem_of_getElem? hy132)
          have k133 : 0 ≤ y132.ts := oky132.ts0
          have k134 : y132.ts < 18446744073709551616 := oky132.ts1
          refine dk 14 (v := pt (blkOf v) (offOf v + ((((i : Nat) : Int) - 1).toNat) * 4)) h131 rfl rfl rfl (fun x hx => by subst hx; exact (rn_index rfl rfl rfl Try.underlying69 Try.sizeOf38 (hs.below hB57) (by omega) (by first | omega | (simp; done) | (simp; omega)))) fun a135 h135 => ?_; clear h131
          refine dk0 15 (v := pt (blkOf v) (offOf v + ((((i : Nat) : Int) - 1).toNat) * 4 + 3)) h135 rfl rfl rfl fun a136 h136 => ?_; clear h135
          refine dk 16 (v := .int .u64 y132.ts) h136 rfl rfl rfl (fun x hx => by subst hx; exact (rn_load1 rfl rfl Try.isAgg29 ((sl_at (hs.below hB57) hy132) 3 _ rfl))) fun a137 h137 => ?_; clear h136
          refine dk0 17 (v := .bool (y132.ts == 0)) h137 rfl rfl rfl fun a138 h138 => ?_; clear h137
          refine dk0 18 (v := .bool (y132.ts == 0)) h138 rfl rfl rfl fun a139 h139 => ?_; clear h138
          cases hc140 : (y132.ts == 0)
          ·
           rw [hc140] at h139
           have hp141 : ¬ (y132.ts = 0) := by first | simpa using hc140 | simpa [and_assoc] using hc140
           clear hc140
           refine dk0 19 (v := v) h139 rfl rfl rfl fun a142 h142 => ?_; clear h139
           refine dk0 20 (v := .int .i64 ((i : Nat) : Int)) h142 rfl rfl rfl fun a143 h143 => ?_; clear h142
           refine dk 21 (v := .int .i64 (((i : Nat) : Int) - 1)) h143 rfl rfl rfl (fun x hx => by subst hx; exact (rn_arith rfl rfl rfl rfl rfl rfl (IntWalk.i64_in _ (by omega)))) fun a144 h144 => ?_; clear h143
           refine dk 22 (v := pt (blkOf v) (offOf v + ((((i : Nat) : Int) - 1).toNat) * 4)) h144 rfl rfl rfl (fun x hx => by subst hx; exact (rn_index rfl rfl rfl Try.underlying69 Try.sizeOf38 (hs.below hB57) (by omega) (by first | omega | (simp; done) | (simp; omega)))) fun a145 h145 => ?_; clear h144
           refine dk0 23 (v := pt (blkOf v) (offOf v + ((((i : Nat) : Int) - 1).toNat) * 4 + 3)) h145 rfl rfl rfl fun a146 h146 => ?_; clear h145
           refine dk 24 (v := .int .u64 y132.ts) h146 rfl rfl rfl (fun x hx => by subst hx; exact (rn_load1 rfl rfl Try.isAgg29 ((sl_at (hs.below hB57) hy132) 3 _ rfl))) fun a147 h147 => ?_; clear h146
           refine dk0 25 (v := v) h147 rfl rfl rfl fun a148 h148 => ?_; clear h147
           refine dk0 26 (v := .int .i64 ((i : Nat) : Int)) h148 rfl rfl rfl fun a149 h149 => ?_; clear h148
           refine dk 27 (v := pt (blkOf v) (offOf v + i * 4)) h149 rfl rfl rfl (fun x hx => by subst hx; exact (rn_index rfl rfl rfl Try.underlying69 Try.sizeOf38 (hs.below hB57) (by omega) (by first | omega | (simp; done) | (simp; omega)))) fun a150 h150 => ?_; clear h149
           refine dk0 28 (v := pt (blkOf v) (offOf v + i * 4 + 3)) h150 rfl rfl rfl fun a151 h151 => ?_; clear h150
           refine dk 29 (v := .int .u64 y21.ts) h151 rfl rfl rfl (fun x hx => by subst hx; exact (rn_load1 rfl rfl Try.isAgg29 ((sl_at (hs.below hB57) hy21) 3 _ rfl))) fun a152 h152 => ?_; clear h151
           refine dk0 30 (v := .bool (decide (y132.ts ≥ y21.ts))) h152 rfl rfl rfl fun a153 h153 => ?_; clear h152
           refine dk0 31 (v := .bool (decide (y132.ts ≥ y21.ts))) h153 rfl rfl rfl fun a154 h154 => ?_; clear h153
           refine dk0 32 (v := .bool (decide (y132.ts ≥ y21.ts))) h154 rfl rfl rfl fun a155 h155 => ?_; clear h154
           refine dr_done (by kernel_rfl) ?_
           refine co_then ?_
           cases hc156 : (decide (y132.ts ≥ y21.ts))
           ·
            rw [hc156] at h155
            have hp157 : ¬ (y132.ts ≥ y21.ts) := of_decide_eq_false hc156
            clear hc156
            refine co_false h155 rfl ?_
            refine wp_skip ?_
            refine co_blockN ?_
            refine co_then ?_
            refine co_reg ?_
            refine pk0 (v := .int .i64 ((i : Nat) : Int)) h155 rfl fun a158 h158 => ?_; clear h155
            refine pk (v := .int .i64 ((i + 1 : Nat) : Int)) h158 rfl (rn_arith' rfl rfl rfl rfl rfl rfl (IntWalk.i64_in _ (by omega)) (by omega)) fun a159 h159 => ?_; clear h158
            refine pk0 (v := .int .i64 ((i + 1 : Nat) : Int)) h159 rfl fun a160 h160 => ?_; clear h159
            refine pl_nil ?_
            refine co_then ?_
            refine ⟨(l.length - (i + 1)), by omega, ?_⟩
            have htw := tw_end (i := i) (by assumption : twN (l.take k) y21.client y21.req = 0) (by omega)
            have hbd : badT (l.take i) y21 = false := by rw [bad_at (j := (((i : Nat) : Int) - 1).toNat) (by omega) (by omega) hy132]; exact decide_eq_false (by omega)
            have hL' := rg_step (i := i) hL hy21 (by omega) htw hbd
            exact ⟨i + 1, h160.sub ⟨rfl, rfl, trivial⟩, rfl, by omega, by first | rfl | exact hL', hB57⟩
           ·
            rw [hc156] at h155
            have hp161 : y132.ts ≥ y21.ts := of_decide_eq_true hc156
            clear hc156
            refine co_true h155 rfl ?_
            refine co_seq ?_
            refine co_reg ?_
            refine pk0 (v := .int .i64 18) h155 rfl fun a162 h162 => ?_; clear h155
            refine pl_nil ?_
            refine co_then ?_
            refine wp_ret ?_
            refine co_blockR ?_
            refine co_thenR ?_
            refine co_thenR ?_
            refine co_blockR ?_
            refine co_thenR ?_
            refine co_ret1 h162 rfl rfl ?_
            have htw := tw_end (i := i) (by assumption : twN (l.take k) y21.client y21.req = 0) (by omega)
            have hbd : badT (l.take i) y21 = true := by rw [bad_at (j := (((i : Nat) : Int) - 1).toNat) (by omega) (by omega) hy132]; exact decide_eq_true (by omega)
            exact ⟨ret_int (rg_bad (i := i) hL hy21 (by omega) htw hbd), hB57⟩
          ·
           rw [hc140] at h139
           have hp163 : y132.ts = 0 := by first | simpa using hc140 | simpa [and_assoc] using hc140
           clear hc140
           refine dsk 19 h139 rfl rfl rfl fun a164 h164 => ?_; clear h139
           refine dsk 20 h164 rfl rfl rfl fun a165 h165 => ?_; clear h164
           refine dsk 21 h165 rfl rfl rfl fun a166 h166 => ?_; clear h165
           refine dsk 22 h166 rfl rfl rfl fun a167 h167 => ?_; clear h166
           refine dsk 23 h167 rfl rfl rfl fun a168 h168 => ?_; clear h167
           refine dsk 24 h168 rfl rfl rfl fun a169 h169 => ?_; clear h168
           refine dsk 25 h169 rfl rfl rfl fun a170 h170 => ?_; clear h169
           refine dsk 26 h170 rfl rfl rfl fun a171 h171 => ?_; clear h170
           refine dsk 27 h171 rfl rfl rfl fun a172 h172 => ?_; clear h171
           refine dsk 28 h172 rfl rfl rfl fun a173 h173 => ?_; clear h172
           refine dsk 29 h173 rfl rfl rfl fun a174 h174 => ?_; clear h173
           refine dsk 30 h174 rfl rfl rfl fun a175 h175 => ?_; clear h174
           refine dk0 31 (v := .bool true) h175 rfl rfl rfl fun a176 h176 => ?_; clear h175
           refine dk0 32 (v := .bool true) h176 rfl rfl rfl fun a177 h177 => ?_; clear h176
           refine dr_done (by kernel_rfl) ?_
           refine co_then ?_
           refine co_true h177 rfl ?_
           refine co_seq ?_
           refine co_reg ?_
           refine pk0 (v := .int .i64 18) h177 rfl fun a178 h178 => ?_; clear h177
           refine pl_nil ?_
           refine co_then ?_
           refine wp_ret ?_
           refine co_blockR ?_
           refine co_thenR ?_
           refine co_thenR ?_
           refine co_blockR ?_
           refine co_thenR ?_
           refine co_ret1 h178 rfl rfl ?_
           have htw := tw_end (i := i) (by assumption : twN (l.take k) y21.client y21.req = 0) (by omega)
           have hbd : badT (l.take i) y21 = true := by rw [bad_at (j := (((i : Nat) : Int) - 1).toNat) (by omega) (by omega) hy132]; exact decide_eq_true (by omega)
           exact ⟨ret_int (rg_bad (i := i) hL hy21 (by omega) htw hbd), hB57⟩
       ·
        rw [hc48] at h47
        have hp179 : ((k : Nat) : Int) < ((i : Nat) : Int) := of_decide_eq_true hc48
        clear hc48
        refine co_true h47 rfl ?_
        refine wp_skip ?_
        refine co_then ?_
        refine co_seq ?_
        refine wp_block ?_
        refine co_seq ?_
        refine dr_gen (fun x => Below w.heap.size w x) (by kernel_rfl) (fun w180 hg181 => ?_) (fun w180 hg181 => ?_)
        ·
         have hz182 := hg181.size
         have hB183 := hb_new hB43 hg181
         exact hB183
        have hz184 := hg181.size
        have hB185 := hb_new hB43 hg181
        refine dk0 0 (v := v) h47 rfl rfl hB185 fun a186 h186 => ?_; clear h47
        refine dk0 1 (v := .int .i64 ((k : Nat) : Int)) h186 rfl rfl hB185 fun a187 h187 => ?_; clear h186
        obtain ⟨y188, hy188⟩ : ∃ z, l[k]? = some z := ⟨_, List.getElem?_eq_getElem (by first | omega | (simp; done) | (simp; omega))⟩
        have oky188 := hok _ (List.mem_of_getElem? hy188)
        have k189 : 0 ≤ y188.ts := oky188.ts0
        have k190 : y188.ts < 18446744073709551616 := oky188.ts1
        refine dk 2 (v := pt (blkOf v) (offOf v + k * 4)) h187 rfl rfl hB185 (fun x hx => (rn_index rfl rfl rfl Try.underlying69 Try.sizeOf38 (hs.below hx) (by omega) (by first | omega | (simp; done) | (simp; omega)))) fun a191 h191 => ?_; clear h187
        refine dk 3 (v := .agg #[.int .i64 y188.client, .int .i64 y188.req, y188.ops, .int .u64 y188.ts]) h191 rfl rfl hB185 (fun x hx => (rn_loadN rfl rfl Try.underlying38 rfl (by kernel_rfl) (sl_at (hs.below hx) hy188))) fun a192 h192 => ?_; clear h191
        refine dk0 4 (v := v) h192 rfl rfl hB185 fun a193 h193 => ?_; clear h192
        refine dk0 5 (v := .int .i64 ((i : Nat) : Int)) h193 rfl rfl hB185 fun a194 h194 => ?_; clear h193
        refine dk 6 (v := pt (blkOf v) (offOf v + i * 4)) h194 rfl rfl hB185 (fun x hx => (rn_index rfl rfl rfl Try.underlying69 Try.sizeOf38 (hs.below hx) (by omega) (by first | omega | (simp; done) | (simp; omega)))) fun a195 h195 => ?_; clear h194
        refine dk 7 (v := .agg #[.int .i64 y21.client, .int .i64 y21.req, y21.ops, .int .u64 y21.ts]) h195 rfl rfl hB185 (fun x hx => (rn_loadN rfl rfl Try.underlying38 rfl (by kernel_rfl) (sl_at (hs.below hx) hy21))) fun a196 h196 => ?_; clear h195
        refine d1 8 h196 rfl rfl (op_call (args := #[.agg #[.int .i64 y188.client, .int .i64 y188.req, y188.ops, .int .u64 y188.ts], .agg #[.int .i64 y21.client, .int .i64 y21.req, y21.ops, .int .u64 y21.ts]]) (R := fun res xw => res = .bool ((y188.client == (y21.client : Int)) && (y188.req == (y21.req : Int))) ∧ Below w180.heap.size w180 xw) rfl rfl rfl (by kernel_rfl) (by kernel_rfl) (Try.call43 _ _) (ritemTwins_any y188.client y188.req y188.ops y188.ts y21.client y21.req y21.ops y21.ts w180 ) (by rintro e x ⟨rfl, hb199⟩; exact ⟨_, rfl, ⟨rfl, hb199⟩⟩)) ?_ ?_; clear h196
        ·
         rintro _ w198 ⟨rfl, hb199⟩
         have hz200 := hb199.size
         have hB201 := hb_call hB185 hb199
         exact hB201
        rintro _ w198 a197 ⟨rfl, hb199⟩ h197
        have hz200 := hb199.size
        refine dr_done (by kernel_rfl) ?_
        refine co_then ?_
        have hB202 := hb_call hB185 hb199
        cases hc201 : (((y188.client == (y21.client : Int)) && (y188.req == (y21.req : Int))))
        ·
         rw [hc201] at h197
         have hp203 : ¬ (y188.client = y21.client ∧ y188.req = y21.req) := by first | simpa using hc201 | simpa [and_assoc] using hc201
         clear hc201
         refine co_false h197 rfl ?_
         refine wp_skip ?_
         refine co_blockN ?_
         refine co_then ?_
         refine co_reg ?_
         refine pk0 (v := .int .i64 ((k : Nat) : Int)) h197 rfl fun a204 h204 => ?_; clear h197
         refine pk (v := .int .i64 ((k + 1 : Nat) : Int)) h204 rfl (rn_arith' rfl rfl rfl rfl rfl rfl (IntWalk.i64_in _ (by omega)) (by omega)) fun a205 h205 => ?_; clear h204
         refine pk0 (v := .int .i64 ((k + 1 : Nat) : Int)) h205 rfl fun a206 h206 => ?_; clear h205
         refine pl_nil ?_
         refine co_then ?_
         refine ⟨(i - (k + 1)), by omega, ?_⟩
         have htn := tw_no (by assumption) hy188 (by omega)
         exact ⟨k + 1, h206.sub ⟨rfl, rfl, rfl, trivial⟩, rfl, by omega, by first | (simp [twN]; done) | exact htn, hB202⟩
        ·
         rw [hc201] at h197
         have hp207 : y188.client = y21.client ∧ y188.req = y21.req := by first | simpa using hc201 | simpa [and_assoc] using hc201
         clear hc201
         refine co_true h197 rfl ?_
         refine co_seq ?_
         refine co_reg ?_
         refine pk0 (v := .int .i64 18) h197 rfl fun a208 h208 => ?_; clear h197
         refine pl_nil ?_
         refine co_then ?_
         refine wp_ret ?_
         refine co_blockR ?_
         refine co_thenR ?_
         refine co_thenR ?_
         refine co_blockR ?_
         refine co_thenR ?_
         refine co_blockR ?_
         refine co_thenR ?_
         refine co_thenR ?_
         refine co_blockR ?_
         refine co_thenR ?_
         refine co_ret1 h208 rfl rfl ?_
         exact ⟨ret_int (rg_tw (i := i) hL hy21 (by omega) (tw_yes hy188 (by omega) (by omega))), hB202⟩
    ·
     rw [hc33] at h32
     have hp209 : chkB y21.client y21.req y21.opl ≠ 0 := by first | simpa using hc33 | simpa [and_assoc] using hc33
     clear hc33
     refine co_true h32 rfl ?_
     refine co_seq ?_
     refine co_reg ?_
     refine pk0 (v := .int .i64 (chkB y21.client y21.req y21.opl)) h32 rfl fun a210 h210 => ?_; clear h32
     refine pk0 (v := .int .i64 (chkB y21.client y21.req y21.opl)) h210 rfl fun a211 h211 => ?_; clear h210
     refine pl_nil ?_
     refine co_then ?_
     refine wp_ret ?_
     refine co_thenR ?_
     refine co_blockR ?_
     refine co_thenR ?_
     refine co_thenR ?_
     refine co_blockR ?_
     refine co_thenR ?_
     refine co_ret1 h211 rfl rfl ?_
     exact ⟨ret_int (rg_chk (i := i) hL hy21 (by omega)), hB34⟩
end Go.Proofs.Ytlbemlodcdgakaa
