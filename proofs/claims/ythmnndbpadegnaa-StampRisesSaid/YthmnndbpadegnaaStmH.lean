/- catenalaw19: StampRises. Conditions: none. -/
import Derived.Test.YthmnndbpadegnaaStmG
import Derived.Test.YthmnndbpadegnaaPexV
import Derived.Test.YthmnndbpadegnaaGo
namespace Go.Proofs.Ythmnndbpadegnaa
open Go.RowKit Go.PlainAid
set_option linter.unusedVariables false


theorem tw_no {l : List EntT} {k : Nat} {z : EntT} {c r : Int} (h : twN (l.take k) c r = 0) (hz : l[k]? = some z) (hn : ¬ (z.client = c ∧ z.req = r)) : twN (l.take (k + 1)) c r = 0 := by
  rw [takeE hz, twN_snoc, if_neg hn, h]; rfl
theorem tw_yes {l : List EntT} {k i : Nat} {z : EntT} {c r : Int} (hz : l[k]? = some z) (hk : k < i) (hy : z.client = c ∧ z.req = r) : 0 < twN (l.take i) c r := by
  have h1 : z ∈ l.take i := List.mem_of_getElem? (by rw [List.getElem?_take, if_pos hk]; exact hz)
  have h2 : 0 < (l.take i).countP (fun e => e.client == c && e.req == r) := List.countP_pos_iff.2 ⟨z, h1, by simp [hy.1, hy.2]⟩
  unfold twN; omega
theorem tw_end {l : List EntT} {k i : Nat} {c r : Int} (h : twN (l.take k) c r = 0) (hk : k = i) : ¬ 0 < twN (l.take i) c r := by subst hk; omega

theorem noteE_len (x : Stp) : (noteE x).length = 18 := rfl
theorem rcopyS (v : Value) (l : List EntT) (w : World) (hs : SliceOf entE 4 w v l) (hok : ∀ z ∈ l, EntOk w z) (hl20 : ∀ z ∈ l, z.opl.length ≤ 20) (hlen : l.length ≤ 100) :
    Calls Try.prog 52 #[v] w fun e w' => ∃ (L2 : List EntT) (ao : Option Addr) (nn cap : Nat), e = .returned (.slice ao nn cap) ∧ w'.ownsRow w.heap.size 47 4 (.slice ao nn cap) L2.length (L2.flatMap entE) ∧ EntsK (fun _ => False) w.heap.size w' L2 ∧ L2.map e0 = l.map e0 ∧ Below w.heap.size w w' :=
  (rcopy17_any v l w hs hok hl20 hlen).mono fun e x ⟨L2, u, h1, h2, h3, h4, h5⟩ => by
    obtain ⟨ao, nn, cap, rfl⟩ := own_sliceS h2
    exact ⟨L2, ao, nn, cap, h1, h2, h3, h4, h5⟩

set_option maxRecDepth 100000 in
theorem ritemRight_any (v : Value) (l : List EntT) (w : World) (hs : SliceOf entE 4 w v l) (hok : ∀ z ∈ l, EntOk w z) :
    Calls Try.prog 34 #[v] w fun e w' => e = .returned (.int .i64 (rightI l)) ∧ Below w.heap.size w w' := by
 have hB0 := Below.refl w.heap.size w
 have hl_hs := sl_len hs
 refine co_enter (n := 67) Try.func34 rfl rfl rfl [(0, v)] rfl (fun a h0 => ?_)
 refine co_seq ?_
 refine co_reg ?_
 refine pk0 (v := .int .i64 0) h0 rfl fun a1 h1 => ?_; clear h0
 refine pl_nil ?_
 refine co_then ?_
 refine co_seq ?_
 refine co_seq ?_
 refine co_reg ?_
 refine pk0 (v := .int .i64 0) h1 rfl fun a2 h2 => ?_; clear h1
 refine pl_nil ?_
 refine co_then ?_
 refine wp_block ?_
 have h3 : Slots 67 [(0, v), (3, .int .i64 0)] _ := h2.sub ⟨rfl, rfl, trivial⟩; clear h2
 refine co_loop (fun mm a x => ∃ (i : Nat), Slots 67 [(0, v), (3, .int .i64 ((i : Nat) : Int))] a ∧ mm = l.length - i ∧ (i ≤ l.length) ∧ (rgF (l.take i) (l.drop i) = rightI l) ∧ Below w.heap.size w x) (l.length - 0) ?_ ?_
 · exact ⟨0, h3.sub ⟨rfl, (slot_eq rfl (congrArg (Value.int .i64) (by first | rfl | omega))), trivial⟩, rfl, by omega, by first | rfl | exact hL', hB0⟩
 · rintro k4 a5 w6 ⟨i, h5, rfl, hi7, hi8, hB9⟩
   have hz10 := hB9.size
   have hL : rgF (l.take i) (l.drop i) = rightI l := by assumption
   refine co_seq ?_
   refine co_seq ?_
   refine co_reg ?_
   refine pk0 (v := .int .i64 ((i : Nat) : Int)) h5 rfl fun a11 h11 => ?_; clear h5
   refine pk0 (v := v) h11 rfl fun a12 h12 => ?_; clear h11
   refine pk (v := .int .i64 ((l.length : Nat) : Int)) h12 rfl (rn_len rfl rfl Try.underlying39 (hs.below hB9)) fun a13 h13 => ?_; clear h12
   refine pk0 (v := .bool (decide (((i : Nat) : Int) < ((l.length : Nat) : Int)))) h13 rfl fun a14 h14 => ?_; clear h13
   refine pl_nil ?_
   refine co_then ?_
   cases hc15 : (decide (((i : Nat) : Int) < ((l.length : Nat) : Int)))
   ·
    rw [hc15] at h14
    have hp16 : ¬ (((i : Nat) : Int) < ((l.length : Nat) : Int)) := of_decide_eq_false hc15
    clear hc15
    refine co_false h14 rfl ?_
    refine wp_exit ?_
    refine co_thenX ?_
    refine co_thenX ?_
    refine co_blockX ?_
    refine co_then ?_
    refine co_seq ?_
    refine co_reg ?_
    refine pk0 (v := .int .i64 0) h14 rfl fun a17 h17 => ?_; clear h14
    refine pl_nil ?_
    refine co_then ?_
    refine wp_ret ?_
    refine co_ret1 h17 rfl rfl ?_
    exact ⟨ret_int (rg_end (i := i) hL (by omega)), hB9⟩
   ·
    rw [hc15] at h14
    have hp18 : ((i : Nat) : Int) < ((l.length : Nat) : Int) := of_decide_eq_true hc15
    clear hc15
    refine co_true h14 rfl ?_
    refine wp_skip ?_
    refine co_then ?_
    refine co_seq ?_
    refine wp_block ?_
    refine co_seq ?_
    refine co_seq ?_
    refine co_reg ?_
    refine pk0 (v := v) h14 rfl fun a19 h19 => ?_; clear h14
    refine pk0 (v := .int .i64 ((i : Nat) : Int)) h19 rfl fun a20 h20 => ?_; clear h19
    obtain ⟨y21, hy21⟩ : ∃ z, l[i]? = some z := ⟨_, List.getElem?_eq_getElem (by first | omega | (simp; done) | (simp; omega))⟩
    have oky21 := hok _ (List.mem_of_getElem? hy21)
    have k22 : 0 ≤ y21.ts := oky21.ts0
    have k23 : y21.ts < 18446744073709551616 := oky21.ts1
    refine pk (v := pt (blkOf v) (offOf v + i * 4)) h20 rfl (rn_index rfl rfl rfl Try.underlying39 Try.sizeOf47 (hs.below hB9) (by omega) (by first | omega | (simp; done) | (simp; omega))) fun a24 h24 => ?_; clear h20
    refine pk (v := .agg #[.int .i64 y21.client, .int .i64 y21.req, y21.ops, .int .u64 y21.ts]) h24 rfl (rn_loadN rfl rfl Try.underlying47 rfl (by kernel_rfl) (sl_at (hs.below hB9) hy21)) fun a25 h25 => ?_; clear h24
    refine pw h25 rfl (op_call (args := #[.agg #[.int .i64 y21.client, .int .i64 y21.req, y21.ops, .int .u64 y21.ts]]) (R := fun res xw => res = .int .i64 (chkB y21.client y21.req y21.opl) ∧ Below w6.heap.size w6 xw) rfl rfl rfl (by kernel_rfl) (by kernel_rfl) (Try.call83 _ _) (ritemCheck_any y21.client y21.req y21.ops y21.opl y21.ts w6 (oky21.ops.below hB9)) (by rintro e x ⟨rfl, hb28⟩; exact ⟨_, rfl, ⟨rfl, hb28⟩⟩)) ?_; clear h25
    rintro _ w27 a26 ⟨rfl, hb28⟩ h26
    have hz29 := hb28.size
    refine pk0 (v := .int .i64 (chkB y21.client y21.req y21.opl)) h26 rfl fun a30 h30 => ?_; clear h26
    refine pl_nil ?_
    refine co_then ?_
    refine co_seq ?_
    refine co_reg ?_
    refine pk0 (v := .int .i64 (chkB y21.client y21.req y21.opl)) h30 rfl fun a31 h31 => ?_; clear h30
    refine pk0 (v := .bool (chkB y21.client y21.req y21.opl != 0)) h31 rfl fun a32 h32 => ?_; clear h31
    refine pl_nil ?_
    refine co_then ?_
    have hB34 := hb_call hB9 hb28
    cases hc33 : (chkB y21.client y21.req y21.opl != 0)
    ·
     rw [hc33] at h32
     have hp35 : ¬ (chkB y21.client y21.req y21.opl ≠ 0) := by first | simpa using hc33 | simpa [and_assoc] using hc33
     clear hc33
     refine co_false h32 rfl ?_
     refine wp_skip ?_
     refine co_then ?_
     refine co_seq ?_
     refine co_seq ?_
     refine co_reg ?_
     refine pk0 (v := .int .i64 0) h32 rfl fun a36 h36 => ?_; clear h32
     refine pl_nil ?_
     refine co_then ?_
     refine wp_block ?_
     have h37 : Slots 67 [(0, v), (3, .int .i64 ((i : Nat) : Int)), (5, .int .i64 0)] _ := h36.sub ⟨rfl, rfl, rfl, trivial⟩; clear h36
     refine co_loop (fun mm a x => ∃ (k : Nat), Slots 67 [(0, v), (3, .int .i64 ((i : Nat) : Int)), (5, .int .i64 ((k : Nat) : Int))] a ∧ mm = i - k ∧ (k ≤ i) ∧ (twN (l.take k) y21.client y21.req = 0) ∧ Below w.heap.size w x) (i - 0) ?_ ?_
     · exact ⟨0, h37.sub ⟨rfl, rfl, (slot_eq rfl (congrArg (Value.int .i64) (by first | rfl | omega))), trivial⟩, rfl, by omega, by first | (simp [twN]; done) | exact htn, hB34⟩
     · rintro k38 a39 w40 ⟨k, h39, rfl, hi41, hi42, hB43⟩
       have hz44 := hB43.size
       refine co_seq ?_
       refine co_seq ?_
       refine co_reg ?_
       refine pk0 (v := .int .i64 ((k : Nat) : Int)) h39 rfl fun a45 h45 => ?_; clear h39
       refine pk0 (v := .int .i64 ((i : Nat) : Int)) h45 rfl fun a46 h46 => ?_; clear h45
       refine pk0 (v := .bool (decide (((k : Nat) : Int) < ((i : Nat) : Int)))) h46 rfl fun a47 h47 => ?_; clear h46
       refine pl_nil ?_
       refine co_then ?_
       cases hc48 : (decide (((k : Nat) : Int) < ((i : Nat) : Int)))
       ·
        rw [hc48] at h47
        have hp49 : ¬ (((k : Nat) : Int) < ((i : Nat) : Int)) := of_decide_eq_false hc48
        clear hc48
        refine co_false h47 rfl ?_
        refine wp_exit ?_
        refine co_thenX ?_
        refine co_thenX ?_
        refine co_blockX ?_
        refine co_then ?_
        refine co_seq ?_
        refine dr_eq (by kernel_rfl) (fun w50 hg51 => ?_)
        have hz52 := hg51.size
        refine dk0 0 (v := .int .i64 ((i : Nat) : Int)) h47 rfl rfl rfl fun a53 h53 => ?_; clear h47
        refine dk0 1 (v := .bool (decide (((i : Nat) : Int) > 0))) h53 rfl rfl rfl fun a54 h54 => ?_; clear h53
        refine dk0 2 (v := .bool (decide (((i : Nat) : Int) > 0))) h54 rfl rfl rfl fun a55 h55 => ?_; clear h54
        have hB57 := hb_new hB43 hg51
        cases hc56 : (decide (((i : Nat) : Int) > 0))
        ·
         rw [hc56] at h55
         have hp58 : ¬ (((i : Nat) : Int) > 0) := of_decide_eq_false hc56
         clear hc56
         refine dsk 3 h55 rfl rfl rfl fun a59 h59 => ?_; clear h55
         refine dsk 4 h59 rfl rfl rfl fun a60 h60 => ?_; clear h59
         refine dsk 5 h60 rfl rfl rfl fun a61 h61 => ?_; clear h60
         refine dsk 6 h61 rfl rfl rfl fun a62 h62 => ?_; clear h61
         refine dsk 7 h62 rfl rfl rfl fun a63 h63 => ?_; clear h62
         refine dsk 8 h63 rfl rfl rfl fun a64 h64 => ?_; clear h63
         refine dk0 9 (v := .bool false) h64 rfl rfl rfl fun a65 h65 => ?_; clear h64
         refine dk0 10 (v := .bool false) h65 rfl rfl rfl fun a66 h66 => ?_; clear h65
         refine dsk 11 h66 rfl rfl rfl fun a67 h67 => ?_; clear h66
         refine dsk 12 h67 rfl rfl rfl fun a68 h68 => ?_; clear h67
         refine dsk 13 h68 rfl rfl rfl fun a69 h69 => ?_; clear h68
         refine dsk 14 h69 rfl rfl rfl fun a70 h70 => ?_; clear h69
         refine dsk 15 h70 rfl rfl rfl fun a71 h71 => ?_; clear h70
         refine dsk 16 h71 rfl rfl rfl fun a72 h72 => ?_; clear h71
         refine dsk 17 h72 rfl rfl rfl fun a73 h73 => ?_; clear h72
         refine dsk 18 h73 rfl rfl rfl fun a74 h74 => ?_; clear h73
         refine dsk 19 h74 rfl rfl rfl fun a75 h75 => ?_; clear h74
         refine dsk 20 h75 rfl rfl rfl fun a76 h76 => ?_; clear h75
         refine dsk 21 h76 rfl rfl rfl fun a77 h77 => ?_; clear h76
         refine dsk 22 h77 rfl rfl rfl fun a78 h78 => ?_; clear h77
         refine dsk 23 h78 rfl rfl rfl fun a79 h79 => ?_; clear h78
         refine dsk 24 h79 rfl rfl rfl fun a80 h80 => ?_; clear h79
         refine dsk 25 h80 rfl rfl rfl fun a81 h81 => ?_; clear h80
         refine dsk 26 h81 rfl rfl rfl fun a82 h82 => ?_; clear h81
         refine dsk 27 h82 rfl rfl rfl fun a83 h83 => ?_; clear h82
         refine dsk 28 h83 rfl rfl rfl fun a84 h84 => ?_; clear h83
         refine dsk 29 h84 rfl rfl rfl fun a85 h85 => ?_; clear h84
         refine dsk 30 h85 rfl rfl rfl fun a86 h86 => ?_; clear h85
         refine dsk 31 h86 rfl rfl rfl fun a87 h87 => ?_; clear h86
         refine dk0 32 (v := .bool false) h87 rfl rfl rfl fun a88 h88 => ?_; clear h87
         refine dr_done (by kernel_rfl) ?_
         refine co_then ?_
         refine co_false h88 rfl ?_
         refine wp_skip ?_
         refine co_blockN ?_
         refine co_then ?_
         refine co_reg ?_
         refine pk0 (v := .int .i64 ((i : Nat) : Int)) h88 rfl fun a89 h89 => ?_; clear h88
         refine pk (v := .int .i64 ((i + 1 : Nat) : Int)) h89 rfl (rn_arith' rfl rfl rfl rfl rfl rfl (IntWalk.i64_in _ (by omega)) (by omega)) fun a90 h90 => ?_; clear h89
         refine pk0 (v := .int .i64 ((i + 1 : Nat) : Int)) h90 rfl fun a91 h91 => ?_; clear h90
         refine pl_nil ?_
         refine co_then ?_
         refine ⟨(l.length - (i + 1)), by omega, ?_⟩
         have htw := tw_end (i := i) (by assumption : twN (l.take k) y21.client y21.req = 0) (by omega)
         have hbd : badT (l.take i) y21 = false := by first | exact bad_ts (by omega) | exact bad_0 (by omega)
         have hL' := rg_step (i := i) hL hy21 (by omega) htw hbd
         exact ⟨i + 1, h91.sub ⟨rfl, rfl, trivial⟩, rfl, by omega, by first | rfl | exact hL', hB57⟩
        ·
         rw [hc56] at h55
         have hp92 : ((i : Nat) : Int) > 0 := of_decide_eq_true hc56
         clear hc56
         refine dk0 3 (v := v) h55 rfl rfl rfl fun a93 h93 => ?_; clear h55
         refine dk0 4 (v := .int .i64 ((i : Nat) : Int)) h93 rfl rfl rfl fun a94 h94 => ?_; clear h93
         refine dk 5 (v := pt (blkOf v) (offOf v + i * 4)) h94 rfl rfl rfl (fun x hx => by subst hx; exact (rn_index rfl rfl rfl Try.underlying39 Try.sizeOf47 (hs.below hB57) (by omega) (by first | omega | (simp; done) | (simp; omega)))) fun a95 h95 => ?_; clear h94
         refine dk0 6 (v := pt (blkOf v) (offOf v + i * 4 + 3)) h95 rfl rfl rfl fun a96 h96 => ?_; clear h95
         refine dk 7 (v := .int .u64 y21.ts) h96 rfl rfl rfl (fun x hx => by subst hx; exact (rn_load1 rfl rfl Try.isAgg45 ((sl_at (hs.below hB57) hy21) 3 _ rfl))) fun a97 h97 => ?_; clear h96
         refine dk0 8 (v := .bool (y21.ts != 0)) h97 rfl rfl rfl fun a98 h98 => ?_; clear h97
         refine dk0 9 (v := .bool (y21.ts != 0)) h98 rfl rfl rfl fun a99 h99 => ?_; clear h98
         refine dk0 10 (v := .bool (y21.ts != 0)) h99 rfl rfl rfl fun a100 h100 => ?_; clear h99
         cases hc101 : (y21.ts != 0)
         ·
          rw [hc101] at h100
          have hp102 : ¬ (y21.ts ≠ 0) := by first | simpa using hc101 | simpa [and_assoc] using hc101
          clear hc101
          refine dsk 11 h100 rfl rfl rfl fun a103 h103 => ?_; clear h100
          refine dsk 12 h103 rfl rfl rfl fun a104 h104 => ?_; clear h103
          refine dsk 13 h104 rfl rfl rfl fun a105 h105 => ?_; clear h104
          refine dsk 14 h105 rfl rfl rfl fun a106 h106 => ?_; clear h105
          refine dsk 15 h106 rfl rfl rfl fun a107 h107 => ?_; clear h106
          refine dsk 16 h107 rfl rfl rfl fun a108 h108 => ?_; clear h107
          refine dsk 17 h108 rfl rfl rfl fun a109 h109 => ?_; clear h108
          refine dsk 18 h109 rfl rfl rfl fun a110 h110 => ?_; clear h109
          refine dsk 19 h110 rfl rfl rfl fun a111 h111 => ?_; clear h110
          refine dsk 20 h111 rfl rfl rfl fun a112 h112 => ?_; clear h111
          refine dsk 21 h112 rfl rfl rfl fun a113 h113 => ?_; clear h112
          refine dsk 22 h113 rfl rfl rfl fun a114 h114 => ?_; clear h113
          refine dsk 23 h114 rfl rfl rfl fun a115 h115 => ?_; clear h114
          refine dsk 24 h115 rfl rfl rfl fun a116 h116 => ?_; clear h115
          refine dsk 25 h116 rfl rfl rfl fun a117 h117 => ?_; clear h116
          refine dsk 26 h117 rfl rfl rfl fun a118 h118 => ?_; clear h117
          refine dsk 27 h118 rfl rfl rfl fun a119 h119 => ?_; clear h118
          refine dsk 28 h119 rfl rfl rfl fun a120 h120 => ?_; clear h119
          refine dsk 29 h120 rfl rfl rfl fun a121 h121 => ?_; clear h120
          refine dsk 30 h121 rfl rfl rfl fun a122 h122 => ?_; clear h121
          refine dsk 31 h122 rfl rfl rfl fun a123 h123 => ?_; clear h122
          refine dk0 32 (v := .bool false) h123 rfl rfl rfl fun a124 h124 => ?_; clear h123
          refine dr_done (by kernel_rfl) ?_
          refine co_then ?_
          refine co_false h124 rfl ?_
          refine wp_skip ?_
          refine co_blockN ?_
          refine co_then ?_
          refine co_reg ?_
          refine pk0 (v := .int .i64 ((i : Nat) : Int)) h124 rfl fun a125 h125 => ?_; clear h124
          refine pk (v := .int .i64 ((i + 1 : Nat) : Int)) h125 rfl (rn_arith' rfl rfl rfl rfl rfl rfl (IntWalk.i64_in _ (by omega)) (by omega)) fun a126 h126 => ?_; clear h125
          refine pk0 (v := .int .i64 ((i + 1 : Nat) : Int)) h126 rfl fun a127 h127 => ?_; clear h126
          refine pl_nil ?_
          refine co_then ?_
          refine ⟨(l.length - (i + 1)), by omega, ?_⟩
          have htw := tw_end (i := i) (by assumption : twN (l.take k) y21.client y21.req = 0) (by omega)
          have hbd : badT (l.take i) y21 = false := by first | exact bad_ts (by omega) | exact bad_0 (by omega)
          have hL' := rg_step (i := i) hL hy21 (by omega) htw hbd
          exact ⟨i + 1, h127.sub ⟨rfl, rfl, trivial⟩, rfl, by omega, by first | rfl | exact hL', hB57⟩
         ·
          rw [hc101] at h100
          have hp128 : y21.ts ≠ 0 := by first | simpa using hc101 | simpa [and_assoc] using hc101
          clear hc101
          refine dk0 11 (v := v) h100 rfl rfl rfl fun a129 h129 => ?_; clear h100
          refine dk0 12 (v := .int .i64 ((i : Nat) : Int)) h129 rfl rfl rfl fun a130 h130 => ?_; clear h129
          refine dk 13 (v := .int .i64 (((i : Nat) : Int) - 1)) h130 rfl rfl rfl (fun x hx => by subst hx; exact (rn_arith rfl rfl rfl rfl rfl rfl (IntWalk.i64_in _ (by omega)))) fun a131 h131 => ?_; clear h130
          obtain ⟨y132, hy132⟩ : ∃ z, l[(((i : Nat) : Int) - 1).toNat]? = some z := ⟨_, List.getElem?_eq_getElem (by first | omega | (simp; done) | (simp; omega))⟩
          have oky132 := hok _ (List.mem_of_getElem? hy132)
          have k133 : 0 ≤ y132.ts := oky132.ts0
          have k134 : y132.ts < 18446744073709551616 := oky132.ts1
          refine dk 14 (v := pt (blkOf v) (offOf v + ((((i : Nat) : Int) - 1).toNat) * 4)) h131 rfl rfl rfl (fun x hx => by subst hx; exact (rn_index rfl rfl rfl Try.underlying39 Try.sizeOf47 (hs.below hB57) (by omega) (by first | omega | (simp; done) | (simp; omega)))) fun a135 h135 => ?_; clear h131
          refine dk0 15 (v := pt (blkOf v) (offOf v + ((((i : Nat) : Int) - 1).toNat) * 4 + 3)) h135 rfl rfl rfl fun a136 h136 => ?_; clear h135
          refine dk 16 (v := .int .u64 y132.ts) h136 rfl rfl rfl (fun x hx => by subst hx; exact (rn_load1 rfl rfl Try.isAgg45 ((sl_at (hs.below hB57) hy132) 3 _ rfl))) fun a137 h137 => ?_; clear h136
          refine dk0 17 (v := .bool (y132.ts == 0)) h137 rfl rfl rfl fun a138 h138 => ?_; clear h137
          refine dk0 18 (v := .bool (y132.ts == 0)) h138 rfl rfl rfl fun a139 h139 => ?_; clear h138
          cases hc140 : (y132.ts == 0)
          ·
           rw [hc140] at h139
           have hp141 : ¬ (y132.ts = 0) := by first | simpa using hc140 | simpa [and_assoc] using hc140
           clear hc140
           refine dk0 19 (v := v) h139 rfl rfl rfl fun a142 h142 => ?_; clear h139
           refine dk0 20 (v := .int .i64 ((i : Nat) : Int)) h142 rfl rfl rfl fun a143 h143 => ?_; clear h142
           refine dk 21 (v := .int .i64 (((i : Nat) : Int) - 1)) h143 rfl rfl rfl (fun x hx => by subst hx; exact (rn_arith rfl rfl rfl rfl rfl rfl (IntWalk.i64_in _ (by omega)))) fun a144 h144 => ?_; clear h143
           refine dk 22 (v := pt (blkOf v) (offOf v + ((((i : Nat) : Int) - 1).toNat) * 4)) h144 rfl rfl rfl (fun x hx => by subst hx; exact (rn_index rfl rfl rfl Try.underlying39 Try.sizeOf47 (hs.below hB57) (by omega) (by first | omega | (simp; done) | (simp; omega)))) fun a145 h145 => ?_; clear h144
           refine dk0 23 (v := pt (blkOf v) (offOf v + ((((i : Nat) : Int) - 1).toNat) * 4 + 3)) h145 rfl rfl rfl fun a146 h146 => ?_; clear h145
           refine dk 24 (v := .int .u64 y132.ts) h146 rfl rfl rfl (fun x hx => by subst hx; exact (rn_load1 rfl rfl Try.isAgg45 ((sl_at (hs.below hB57) hy132) 3 _ rfl))) fun a147 h147 => ?_; clear h146
           refine dk0 25 (v := v) h147 rfl rfl rfl fun a148 h148 => ?_; clear h147
           refine dk0 26 (v := .int .i64 ((i : Nat) : Int)) h148 rfl rfl rfl fun a149 h149 => ?_; clear h148
           refine dk 27 (v := pt (blkOf v) (offOf v + i * 4)) h149 rfl rfl rfl (fun x hx => by subst hx; exact (rn_index rfl rfl rfl Try.underlying39 Try.sizeOf47 (hs.below hB57) (by omega) (by first | omega | (simp; done) | (simp; omega)))) fun a150 h150 => ?_; clear h149
           refine dk0 28 (v := pt (blkOf v) (offOf v + i * 4 + 3)) h150 rfl rfl rfl fun a151 h151 => ?_; clear h150
           refine dk 29 (v := .int .u64 y21.ts) h151 rfl rfl rfl (fun x hx => by subst hx; exact (rn_load1 rfl rfl Try.isAgg45 ((sl_at (hs.below hB57) hy21) 3 _ rfl))) fun a152 h152 => ?_; clear h151
           refine dk0 30 (v := .bool (decide (y132.ts ≥ y21.ts))) h152 rfl rfl rfl fun a153 h153 => ?_; clear h152
           refine dk0 31 (v := .bool (decide (y132.ts ≥ y21.ts))) h153 rfl rfl rfl fun a154 h154 => ?_; clear h153
           refine dk0 32 (v := .bool (decide (y132.ts ≥ y21.ts))) h154 rfl rfl rfl fun a155 h155 => ?_; clear h154
           refine dr_done (by kernel_rfl) ?_
           refine co_then ?_
           cases hc156 : (decide (y132.ts ≥ y21.ts))
           ·
            rw [hc156] at h155
            have hp157 : ¬ (y132.ts ≥ y21.ts) := of_decide_eq_false hc156
            clear hc156
            refine co_false h155 rfl ?_
            refine wp_skip ?_
            refine co_blockN ?_
            refine co_then ?_
            refine co_reg ?_
            refine pk0 (v := .int .i64 ((i : Nat) : Int)) h155 rfl fun a158 h158 => ?_; clear h155
            refine pk (v := .int .i64 ((i + 1 : Nat) : Int)) h158 rfl (rn_arith' rfl rfl rfl rfl rfl rfl (IntWalk.i64_in _ (by omega)) (by omega)) fun a159 h159 => ?_; clear h158
            refine pk0 (v := .int .i64 ((i + 1 : Nat) : Int)) h159 rfl fun a160 h160 => ?_; clear h159
            refine pl_nil ?_
            refine co_then ?_
            refine ⟨(l.length - (i + 1)), by omega, ?_⟩
            have htw := tw_end (i := i) (by assumption : twN (l.take k) y21.client y21.req = 0) (by omega)
            have hbd : badT (l.take i) y21 = false := by rw [bad_at (j := (((i : Nat) : Int) - 1).toNat) (by omega) (by omega) hy132]; exact decide_eq_false (by omega)
            have hL' := rg_step (i := i) hL hy21 (by omega) htw hbd
            exact ⟨i + 1, h160.sub ⟨rfl, rfl, trivial⟩, rfl, by omega, by first | rfl | exact hL', hB57⟩
           ·
            rw [hc156] at h155
            have hp161 : y132.ts ≥ y21.ts := of_decide_eq_true hc156
            clear hc156
            refine co_true h155 rfl ?_
            refine co_seq ?_
            refine co_reg ?_
            refine pk0 (v := .int .i64 18) h155 rfl fun a162 h162 => ?_; clear h155
            refine pl_nil ?_
            refine co_then ?_
            refine wp_ret ?_
            refine co_blockR ?_
            refine co_thenR ?_
            refine co_thenR ?_
            refine co_blockR ?_
            refine co_thenR ?_
            refine co_ret1 h162 rfl rfl ?_
            have htw := tw_end (i := i) (by assumption : twN (l.take k) y21.client y21.req = 0) (by omega)
            have hbd : badT (l.take i) y21 = true := by rw [bad_at (j := (((i : Nat) : Int) - 1).toNat) (by omega) (by omega) hy132]; exact decide_eq_true (by omega)
            exact ⟨ret_int (rg_bad (i := i) hL hy21 (by omega) htw hbd), hB57⟩
          ·
           rw [hc140] at h139
           have hp163 : y132.ts = 0 := by first | simpa using hc140 | simpa [and_assoc] using hc140
           clear hc140
           refine dsk 19 h139 rfl rfl rfl fun a164 h164 => ?_; clear h139
           refine dsk 20 h164 rfl rfl rfl fun a165 h165 => ?_; clear h164
           refine dsk 21 h165 rfl rfl rfl fun a166 h166 => ?_; clear h165
           refine dsk 22 h166 rfl rfl rfl fun a167 h167 => ?_; clear h166
           refine dsk 23 h167 rfl rfl rfl fun a168 h168 => ?_; clear h167
           refine dsk 24 h168 rfl rfl rfl fun a169 h169 => ?_; clear h168
           refine dsk 25 h169 rfl rfl rfl fun a170 h170 => ?_; clear h169
           refine dsk 26 h170 rfl rfl rfl fun a171 h171 => ?_; clear h170
           refine dsk 27 h171 rfl rfl rfl fun a172 h172 => ?_; clear h171
           refine dsk 28 h172 rfl rfl rfl fun a173 h173 => ?_; clear h172
           refine dsk 29 h173 rfl rfl rfl fun a174 h174 => ?_; clear h173
           refine dsk 30 h174 rfl rfl rfl fun a175 h175 => ?_; clear h174
           refine dk0 31 (v := .bool true) h175 rfl rfl rfl fun a176 h176 => ?_; clear h175
           refine dk0 32 (v := .bool true) h176 rfl rfl rfl fun a177 h177 => ?_; clear h176
           refine dr_done (by kernel_rfl) ?_
           refine co_then ?_
           refine co_true h177 rfl ?_
           refine co_seq ?_
           refine co_reg ?_
           refine pk0 (v := .int .i64 18) h177 rfl fun a178 h178 => ?_; clear h177
           refine pl_nil ?_
           refine co_then ?_
           refine wp_ret ?_
           refine co_blockR ?_
           refine co_thenR ?_
           refine co_thenR ?_
           refine co_blockR ?_
           refine co_thenR ?_
           refine co_ret1 h178 rfl rfl ?_
           have htw := tw_end (i := i) (by assumption : twN (l.take k) y21.client y21.req = 0) (by omega)
           have hbd : badT (l.take i) y21 = true := by rw [bad_at (j := (((i : Nat) : Int) - 1).toNat) (by omega) (by omega) hy132]; exact decide_eq_true (by omega)
           exact ⟨ret_int (rg_bad (i := i) hL hy21 (by omega) htw hbd), hB57⟩
       ·
        rw [hc48] at h47
        have hp179 : ((k : Nat) : Int) < ((i : Nat) : Int) := of_decide_eq_true hc48
        clear hc48
        refine co_true h47 rfl ?_
        refine wp_skip ?_
        refine co_then ?_
        refine co_seq ?_
        refine wp_block ?_
        refine co_seq ?_
        refine dr_gen (fun x => Below w.heap.size w x) (by kernel_rfl) (fun w180 hg181 => ?_) (fun w180 hg181 => ?_)
        ·
         have hz182 := hg181.size
         have hB183 := hb_new hB43 hg181
         exact hB183
        have hz184 := hg181.size
        have hB185 := hb_new hB43 hg181
        refine dk0 0 (v := v) h47 rfl rfl hB185 fun a186 h186 => ?_; clear h47
        refine dk0 1 (v := .int .i64 ((k : Nat) : Int)) h186 rfl rfl hB185 fun a187 h187 => ?_; clear h186
        obtain ⟨y188, hy188⟩ : ∃ z, l[k]? = some z := ⟨_, List.getElem?_eq_getElem (by first | omega | (simp; done) | (simp; omega))⟩
        have oky188 := hok _ (List.mem_of_getElem? hy188)
        have k189 : 0 ≤ y188.ts := oky188.ts0
        have k190 : y188.ts < 18446744073709551616 := oky188.ts1
        refine dk 2 (v := pt (blkOf v) (offOf v + k * 4)) h187 rfl rfl hB185 (fun x hx => (rn_index rfl rfl rfl Try.underlying39 Try.sizeOf47 (hs.below hx) (by omega) (by first | omega | (simp; done) | (simp; omega)))) fun a191 h191 => ?_; clear h187
        refine dk 3 (v := .agg #[.int .i64 y188.client, .int .i64 y188.req, y188.ops, .int .u64 y188.ts]) h191 rfl rfl hB185 (fun x hx => (rn_loadN rfl rfl Try.underlying47 rfl (by kernel_rfl) (sl_at (hs.below hx) hy188))) fun a192 h192 => ?_; clear h191
        refine dk0 4 (v := v) h192 rfl rfl hB185 fun a193 h193 => ?_; clear h192
        refine dk0 5 (v := .int .i64 ((i : Nat) : Int)) h193 rfl rfl hB185 fun a194 h194 => ?_; clear h193
        refine dk 6 (v := pt (blkOf v) (offOf v + i * 4)) h194 rfl rfl hB185 (fun x hx => (rn_index rfl rfl rfl Try.underlying39 Try.sizeOf47 (hs.below hx) (by omega) (by first | omega | (simp; done) | (simp; omega)))) fun a195 h195 => ?_; clear h194
        refine dk 7 (v := .agg #[.int .i64 y21.client, .int .i64 y21.req, y21.ops, .int .u64 y21.ts]) h195 rfl rfl hB185 (fun x hx => (rn_loadN rfl rfl Try.underlying47 rfl (by kernel_rfl) (sl_at (hs.below hx) hy21))) fun a196 h196 => ?_; clear h195
        refine d1 8 h196 rfl rfl (op_call (args := #[.agg #[.int .i64 y188.client, .int .i64 y188.req, y188.ops, .int .u64 y188.ts], .agg #[.int .i64 y21.client, .int .i64 y21.req, y21.ops, .int .u64 y21.ts]]) (R := fun res xw => res = .bool ((y188.client == (y21.client : Int)) && (y188.req == (y21.req : Int))) ∧ Below w180.heap.size w180 xw) rfl rfl rfl (by kernel_rfl) (by kernel_rfl) (Try.call36 _ _) (ritemTwins_any y188.client y188.req y188.ops y188.ts y21.client y21.req y21.ops y21.ts w180 ) (by rintro e x ⟨rfl, hb199⟩; exact ⟨_, rfl, ⟨rfl, hb199⟩⟩)) ?_ ?_; clear h196
        ·
         rintro _ w198 ⟨rfl, hb199⟩
         have hz200 := hb199.size
         have hB201 := hb_call hB185 hb199
         exact hB201
        rintro _ w198 a197 ⟨rfl, hb199⟩ h197
        have hz200 := hb199.size
        refine dr_done (by kernel_rfl) ?_
        refine co_then ?_
        have hB202 := hb_call hB185 hb199
        cases hc201 : (((y188.client == (y21.client : Int)) && (y188.req == (y21.req : Int))))
        ·
         rw [hc201] at h197
         have hp203 : ¬ (y188.client = y21.client ∧ y188.req = y21.req) := by first | simpa using hc201 | simpa [and_assoc] using hc201
         clear hc201
         refine co_false h197 rfl ?_
         refine wp_skip ?_
         refine co_blockN ?_
         refine co_then ?_
         refine co_reg ?_
         refine pk0 (v := .int .i64 ((k : Nat) : Int)) h197 rfl fun a204 h204 => ?_; clear h197
         refine pk (v := .int .i64 ((k + 1 : Nat) : Int)) h204 rfl (rn_arith' rfl rfl rfl rfl rfl rfl (IntWalk.i64_in _ (by omega)) (by omega)) fun a205 h205 => ?_; clear h204
         refine pk0 (v := .int .i64 ((k + 1 : Nat) : Int)) h205 rfl fun a206 h206 => ?_; clear h205
         refine pl_nil ?_
         refine co_then ?_
         refine ⟨(i - (k + 1)), by omega, ?_⟩
         have htn := tw_no (by assumption) hy188 (by omega)
         exact ⟨k + 1, h206.sub ⟨rfl, rfl, rfl, trivial⟩, rfl, by omega, by first | (simp [twN]; done) | exact htn, hB202⟩
        ·
         rw [hc201] at h197
         have hp207 : y188.client = y21.client ∧ y188.req = y21.req := by first | simpa using hc201 | simpa [and_assoc] using hc201
         clear hc201
         refine co_true h197 rfl ?_
         refine co_seq ?_
         refine co_reg ?_
         refine pk0 (v := .int .i64 18) h197 rfl fun a208 h208 => ?_; clear h197
         refine pl_nil ?_
         refine co_then ?_
         refine wp_ret ?_
         refine co_blockR ?_
         refine co_thenR ?_
         refine co_thenR ?_
         refine co_blockR ?_
         refine co_thenR ?_
         refine co_blockR ?_
         refine co_thenR ?_
         refine co_thenR ?_
         refine co_blockR ?_
         refine co_thenR ?_
         refine co_ret1 h208 rfl rfl ?_
         exact ⟨ret_int (rg_tw (i := i) hL hy21 (by omega) (tw_yes hy188 (by omega) (by omega))), hB202⟩
    ·
     rw [hc33] at h32
     have hp209 : chkB y21.client y21.req y21.opl ≠ 0 := by first | simpa using hc33 | simpa [and_assoc] using hc33
     clear hc33
     refine co_true h32 rfl ?_
     refine co_seq ?_
     refine co_reg ?_
     refine pk0 (v := .int .i64 (chkB y21.client y21.req y21.opl)) h32 rfl fun a210 h210 => ?_; clear h32
     refine pk0 (v := .int .i64 (chkB y21.client y21.req y21.opl)) h210 rfl fun a211 h211 => ?_; clear h210
     refine pl_nil ?_
     refine co_then ?_
     refine wp_ret ?_
     refine co_thenR ?_
     refine co_blockR ?_
     refine co_thenR ?_
     refine co_thenR ?_
     refine co_blockR ?_
     refine co_thenR ?_
     refine co_ret1 h211 rfl rfl ?_
     exact ⟨ret_int (rg_chk (i := i) hL hy21 (by omega)), hB34⟩
set_option maxRecDepth 100000 in
theorem ended_any (v : Value) (l : List EntT) (n : Nat) (w : World) (hs : SliceOf entE 4 w v l) (hok : ∀ z ∈ l, EntOk w z) (hn : 1 ≤ n ∧ n ≤ l.length) :
    Calls Try.prog 56 #[v, .int .i64 ((n : Nat) : Int)] w fun e w' => e = .returned (.bool ((l.getD (n - 1) default).ts == 18446744073709551615)) ∧ Below w.heap.size w w' := by
 have hB0 := Below.refl w.heap.size w
 have hl_hs := sl_len hs
 refine co_enter (n := 22) Try.func56 rfl rfl rfl [(0, v), (1, .int .i64 ((n : Nat) : Int))] rfl (fun a h0 => ?_)
 refine co_seq ?_
 refine co_reg ?_
 refine pk0 (v := .bool false) h0 rfl fun a1 h1 => ?_; clear h0
 refine pl_nil ?_
 refine co_then ?_
 refine co_seq ?_
 refine co_reg ?_
 refine pk0 (v := .int .i64 ((n : Nat) : Int)) h1 rfl fun a2 h2 => ?_; clear h1
 refine pk0 (v := .bool (decide (((n : Nat) : Int) ≥ 1))) h2 rfl fun a3 h3 => ?_; clear h2
 refine pk0 (v := .bool (decide (((n : Nat) : Int) ≥ 1))) h3 rfl fun a4 h4 => ?_; clear h3
 have hc5 : (decide (((n : Nat) : Int) ≥ 1)) = true := decide_eq_true (by omega)
 rw [hc5] at h4; clear hc5
 refine pk0 (v := .int .i64 ((n : Nat) : Int)) h4 rfl fun a6 h6 => ?_; clear h4
 refine pk0 (v := v) h6 rfl fun a7 h7 => ?_; clear h6
 refine pk (v := .int .i64 ((l.length : Nat) : Int)) h7 rfl (rn_len rfl rfl Try.underlying39 hs) fun a8 h8 => ?_; clear h7
 refine pk0 (v := .bool (decide (((n : Nat) : Int) ≤ ((l.length : Nat) : Int)))) h8 rfl fun a9 h9 => ?_; clear h8
 refine pk0 (v := .bool (decide (((n : Nat) : Int) ≤ ((l.length : Nat) : Int)))) h9 rfl fun a10 h10 => ?_; clear h9
 refine pk0 (v := .bool (decide (((n : Nat) : Int) ≤ ((l.length : Nat) : Int)))) h10 rfl fun a11 h11 => ?_; clear h10
 have hc12 : (decide (((n : Nat) : Int) ≤ ((l.length : Nat) : Int))) = true := decide_eq_true (by omega)
 rw [hc12] at h11; clear hc12
 refine pk0 (v := v) h11 rfl fun a13 h13 => ?_; clear h11
 refine pk0 (v := .int .i64 ((n : Nat) : Int)) h13 rfl fun a14 h14 => ?_; clear h13
 refine pk (v := .int .i64 (((n : Nat) : Int) - 1)) h14 rfl (rn_arith rfl rfl rfl rfl rfl rfl (IntWalk.i64_in _ (by omega))) fun a15 h15 => ?_; clear h14
 obtain ⟨y16, hy16⟩ : ∃ z, l[(((n : Nat) : Int) - 1).toNat]? = some z := ⟨_, List.getElem?_eq_getElem (by first | omega | (simp; done) | (simp; omega))⟩
 have oky16 := hok _ (List.mem_of_getElem? hy16)
 have k17 : 0 ≤ y16.ts := oky16.ts0
 have k18 : y16.ts < 18446744073709551616 := oky16.ts1
 refine pk (v := pt (blkOf v) (offOf v + ((((n : Nat) : Int) - 1).toNat) * 4)) h15 rfl (rn_index rfl rfl rfl Try.underlying39 Try.sizeOf47 hs (by omega) (by first | omega | (simp; done) | (simp; omega))) fun a19 h19 => ?_; clear h15
 refine pk0 (v := pt (blkOf v) (offOf v + ((((n : Nat) : Int) - 1).toNat) * 4 + 3)) h19 rfl fun a20 h20 => ?_; clear h19
 refine pk (v := .int .u64 y16.ts) h20 rfl (rn_load1 rfl rfl Try.isAgg45 ((sl_at hs hy16) 3 _ rfl)) fun a21 h21 => ?_; clear h20
 refine pk0 (v := .bool (y16.ts == 18446744073709551615)) h21 rfl fun a22 h22 => ?_; clear h21
 refine pk0 (v := .bool (y16.ts == 18446744073709551615)) h22 rfl fun a23 h23 => ?_; clear h22
 refine pk0 (v := .bool (y16.ts == 18446744073709551615)) h23 rfl fun a24 h24 => ?_; clear h23
 refine pl_nil ?_
 refine co_then ?_
 refine wp_ret ?_
 refine co_ret1 h24 rfl rfl ?_
 have hgd : (l.getD (n - 1) default) = y16 := by rw [List.getD_eq_getElem?_getD]; have hq := hy16; first | rw [show n - 1 = _ from (by omega), hq]; rfl | (rw [show (((n : Nat) : Int) - 1).toNat = n - 1 by omega] at hq; rw [hq]; rfl)
 exact ⟨by rw [hgd], hB0⟩
set_option maxRecDepth 100000 in
set_option maxHeartbeats 6400000 in
theorem stampRises_law (v : Value) (l : List EntT) (n : Int) (f : Int) (w : World) (hs : SliceOf entE 4 w v l) (hok : ∀ z ∈ l, EntOkS w z) (hlen : l.length ≤ 2932031007403) (hf : 0 ≤ f ∧ f < 18446744073709551616) :
    Calls Try.prog 12 #[v, .int .i64 n, .int .u64 f] w fun e w' => e = .returned (.bool true) ∧ Below w.heap.size w w' := by
 have hB0 := Below.refl w.heap.size w
 have hl_hs := sl_len hs
 refine co_enter (n := 101) Try.func12 rfl rfl rfl [(0, v), (1, .int .i64 n), (2, .int .u64 f)] rfl (fun a h0 => ?_)
 refine co_seq ?_
 refine co_reg ?_
 refine pk0 (v := .bool false) h0 rfl fun a1 h1 => ?_; clear h0
 refine pl_nil ?_
 refine co_then ?_
 refine co_seq ?_
 refine co_seq ?_
 refine co_reg ?_
 refine pk0 (v := v) h1 rfl fun a2 h2 => ?_; clear h1
 refine pw h2 rfl (op_call (args := #[v]) (R := fun res xw => res = .int .i64 (muchN l) ∧ Below w.heap.size w xw) rfl rfl rfl (by kernel_rfl) (by kernel_rfl) (Try.call41 _ _) (much_any v l w (hs.below hB0) (fun z hz => ⟨(hok z hz).1.below hB0, (hok z hz).2⟩) hlen) (by rintro e x ⟨rfl, h⟩; exact ⟨_, rfl, rfl, h⟩)) ?_; clear h2
 rintro _ w4 a3 ⟨rfl, hb5⟩ h3
 have hz6 := hb5.size
 refine pk0 (v := .bool (decide (muchN l > 80))) h3 rfl fun a7 h7 => ?_; clear h3
 refine pk0 (v := .bool (decide (muchN l > 80))) h7 rfl fun a8 h8 => ?_; clear h7
 have hB10 := hb_call hB0 hb5
 cases hc9 : (decide (muchN l > 80))
 ·
  rw [hc9] at h8
  have hp11 : ¬ (muchN l > 80) := of_decide_eq_false hc9
  clear hc9
  refine pk0 (v := v) h8 rfl fun a12 h12 => ?_; clear h8
  refine pw h12 rfl (op_call (args := #[v]) (R := fun res xw => res = .int .i64 (rightI l) ∧ Below w4.heap.size w4 xw) rfl rfl rfl (by kernel_rfl) (by kernel_rfl) (Try.call34 _ _) (ritemRight_any v l w4 (hs.below hB10) (fun z hz => (hok z hz).1.below hB10)) (by rintro e x ⟨rfl, h⟩; exact ⟨_, rfl, rfl, h⟩)) ?_; clear h12
  rintro _ w14 a13 ⟨rfl, hb15⟩ h13
  have hz16 := hb15.size
  refine pk0 (v := .bool (rightI l != 0)) h13 rfl fun a17 h17 => ?_; clear h13
  refine pk0 (v := .bool (rightI l != 0)) h17 rfl fun a18 h18 => ?_; clear h17
  refine pl_nil ?_
  refine co_then ?_
  have hB20 := hb_call hB10 hb15
  cases hc19 : (rightI l != 0)
  ·
   rw [hc19] at h18
   have hp21 : ¬ (rightI l ≠ 0) := by first | simpa using hc19 | simpa [and_assoc] using hc19
   clear hc19
   refine co_false h18 rfl ?_
   refine wp_skip ?_
   refine co_then ?_
   refine co_seq ?_
   refine co_reg ?_
   refine pk0 (v := v) h18 rfl fun a22 h22 => ?_; clear h18
   have hRI := RI.of_right (by omega : rightI l = 0)
   have hl80 := much_len (by omega : ¬ muchN l > 80)
   have hlst := lastT_bd (fun z hz => (hok z hz).1)
   refine pw h22 rfl (op_call (args := #[v]) (R := fun res xw => ∃ (L2 : List EntT) (ao : Option Addr) (nn cap : Nat), res = .slice ao nn cap ∧ xw.ownsRow w14.heap.size 47 4 (.slice ao nn cap) L2.length (L2.flatMap entE) ∧ EntsK (fun _ => False) w14.heap.size xw L2 ∧ L2.map e0 = l.map e0 ∧ Below w14.heap.size w14 xw) rfl rfl rfl (by kernel_rfl) (by kernel_rfl) (Try.call52 _ _) (rcopyS v l w14 (hs.below hB20) (fun z hz => (hok z hz).1.below hB20) hRI.small (by omega)) (by rintro e x ⟨L2, ao, nn, cap, rfl, h⟩; exact ⟨_, rfl, L2, ao, nn, cap, rfl, h⟩)) ?_; clear h22
   rintro _ w24 a23 ⟨L225, ao26, nn27, cp28, rfl, hr29, hE30, hq31, hb32⟩ h23
   have hz33 := hb32.size
   have hl34 := e0_len hq31
   refine pk0 (v := .agg #[.slice ao26 nn27 cp28]) h23 rfl fun a35 h35 => ?_; clear h23
   refine pw h35 rfl (op_new (v := fun N => pt N 0) (T := 41) (cs := #[.slice ao26 nn27 cp28]) (by kernel_rfl) (by kernel_rfl) (by kernel_rfl)) ?_; clear h35
   rintro _ w37 a36 ⟨N38, rfl, hN41, hz42, hk40, hg39⟩ h36
   have ha43 := row_fresh hr29 hN41
   have hz44 := hg39.size
   try dsimp only at h36
   refine pk0 (v := pt N38 0) h36 rfl fun a45 h45 => ?_; clear h36
   refine pl_nil ?_
   refine co_then ?_
   refine co_seq ?_
   refine co_reg ?_
   refine pk0 (v := v) h45 rfl fun a46 h46 => ?_; clear h45
   refine pk0 (v := .int .i64 n) h46 rfl fun a47 h47 => ?_; clear h46
   refine pk0 (v := .int .u64 f) h47 rfl fun a48 h48 => ?_; clear h47
   have hr51 := row_kept_new hr29 hg39
   have hE52 := hE30.new hg39
   obtain ⟨S1, hO1, hlo1⟩ := RObj.mk0 hr51 hE52 hk40 (Nat.le_refl _) (by omega) (by omega)
   have hlo2 : ∀ q, S1 q → w.heap.size ≤ q := fun q hq => by have := hlo1 q hq; omega
   have hSt0 := StP.start (n := n) (f := f) (ys := []) hRI hq31
   have ho53 := RObj.ofS hO1
   have hB54 := hb_call hB20 hb32
   have hB55 := hb_new hB54 hg39
   refine pw h48 rfl (op_call (args := #[v, .int .i64 n, .int .u64 f]) (R := fun res xw => ∃ (u : Value) (ys : List Stp), res = u ∧ AllS l n f ys ∧ xw.ownsRow w37.heap.size 93 18 u ys.length (ys.flatMap noteE) ∧ Below w37.heap.size w37 xw) rfl rfl rfl (by kernel_rfl) (by kernel_rfl) (Try.call53 _ _) (sall_any v l n f w37 (hs.below hB55) (by omega) hf.1 (by unfold topT; omega) hlst) (by rintro e x ⟨u, ys, rfl, h⟩; exact ⟨_, rfl, u, ys, rfl, h⟩)) ?_; clear h48
   rintro v56 w50 a49 ⟨_, ys57, rfl, hA58, hr59, hb60⟩ h49
   have hz61 := hb60.size
   have ho62 := RObj.ofS hO1
   have hSt1 : StP l n f ys57 0 L225 := StP.start hRI hq31
   have hl63 := sl_len (row_sl hr59 noteE_len)
   refine pk0 (v := v56) h49 rfl fun a64 h64 => ?_; clear h49
   refine pl_nil ?_
   refine co_then ?_
   refine co_seq ?_
   refine co_seq ?_
   refine co_reg ?_
   refine pk0 (v := .int .i64 0) h64 rfl fun a65 h65 => ?_; clear h64
   refine pl_nil ?_
   refine co_then ?_
   refine wp_block ?_
   have hlo9 := hlo2
   have hof9 : ∀ i, v56.ownBlock = some i → ¬ S1 i := (offR_row ho62 hr59 (Nat.le_refl _))
   have hSt9 := hSt1
   have h66 : Slots 101 [(0, v), (1, .int .i64 n), (2, .int .u64 f), (7, pt N38 0), (8, v56), (9, .int .i64 0)] _ := h65.sub ⟨rfl, rfl, rfl, rfl, rfl, rfl, trivial⟩; clear h65
   refine co_loop (fun mm a x => ∃ (i : Nat) (S : Nat → Prop) (u : Value) (X : List EntT), Slots 101 [(0, v), (1, .int .i64 n), (2, .int .u64 f), (7, pt N38 0), (8, v56), (9, .int .i64 ((i : Nat) : Int))] a ∧ mm = ys57.length - i ∧ (i ≤ ys57.length) ∧ (∀ q, S q → w.heap.size ≤ q) ∧ (∀ i, v56.ownBlock = some i → ¬ S i) ∧ (StP l n f ys57 i X) ∧ RObj S x N38 u X ∧ x.ownsRow w37.heap.size 93 18 v56 ys57.length (ys57.flatMap noteE) ∧ Below w.heap.size w x) (ys57.length - 0) ?_ ?_
   have hO67 := RObj.gr hO1 (below_grown hb60) (fun k e => by cases e)
   have hB68 := hb_call hB55 hb60
   · exact ⟨0, S1, (.slice ao26 nn27 cp28), L225, h66.sub ⟨rfl, rfl, rfl, rfl, rfl, (slot_eq rfl (congrArg (Value.int .i64) (by first | rfl | omega))), trivial⟩, rfl, by omega, by exact hlo9, by exact hof9, by exact hSt9, hO67, hr59, hB68⟩
   · rintro k69 a70 w71 ⟨i, S, u, X, h70, rfl, hi72, hi73, hi74, hi75, hf76, hf77, hB78⟩
     have hz79 := hB78.size
     have hlo80 : ∀ q, S q → w.heap.size ≤ q := by assumption
     have ho81 : ∀ i, v56.ownBlock = some i → ¬ S i := by assumption
     have hSt := (by assumption : StP l n f ys57 i X)
     refine co_seq ?_
     refine co_seq ?_
     refine co_reg ?_
     refine pk0 (v := .int .i64 ((i : Nat) : Int)) h70 rfl fun a82 h82 => ?_; clear h70
     refine pk0 (v := v56) h82 rfl fun a83 h83 => ?_; clear h82
     refine pk (v := .int .i64 ((ys57.length : Nat) : Int)) h83 rfl (rn_lenOwn rfl rfl Try.underlying72 hf77) fun a84 h84 => ?_; clear h83
     refine pk0 (v := .bool (decide (((i : Nat) : Int) < ((ys57.length : Nat) : Int)))) h84 rfl fun a85 h85 => ?_; clear h84
     refine pl_nil ?_
     refine co_then ?_
     cases hc86 : (decide (((i : Nat) : Int) < ((ys57.length : Nat) : Int)))
     ·
      rw [hc86] at h85
      have hp87 : ¬ (((i : Nat) : Int) < ((ys57.length : Nat) : Int)) := of_decide_eq_false hc86
      clear hc86
      refine co_false h85 rfl ?_
      refine wp_exit ?_
      refine co_thenX ?_
      refine co_thenX ?_
      refine co_blockX ?_
      refine co_then ?_
      refine co_seq ?_
      refine co_seq ?_
      refine co_reg ?_
      refine pk0 (v := pt N38 0) h85 rfl fun a88 h88 => ?_; clear h85
      refine pk0 (v := pt N38 0) h88 rfl fun a89 h89 => ?_; clear h88
      refine pk0 (v := pt N38 0) h89 rfl fun a90 h90 => ?_; clear h89
      have hfin := hSt.fin hA58 (by omega) hf.1 (by unfold topT; omega) hlst
      have hf1 := hfin.1; have hf2 := hfin.2.1; have hf3 := hfin.2.2; have hsx := stN_le X
      refine pk (v := u) h90 rfl (rn_load1 rfl rfl Try.isAgg39 ((RObj.lg hf76).cell rfl)) fun a91 h91 => ?_; clear h90
      refine pw h91 rfl (op_call (args := #[u]) (R := fun res xw => res = .int .i64 (rightI X) ∧ Below w71.heap.size w71 xw) rfl rfl rfl (by kernel_rfl) (by kernel_rfl) (Try.call34 _ _) (ritemRight_any u X w71 (RObj.sl hf76) (RObj.got hf76)) (by rintro e x ⟨rfl, h⟩; exact ⟨_, rfl, rfl, h⟩)) ?_; clear h91
      rintro _ w93 a92 ⟨rfl, hb94⟩ h92
      have hz95 := hb94.size
      have ho96 := RObj.ofS hf76
      refine pk0 (v := .bool (rightI X != 0)) h92 rfl fun a97 h97 => ?_; clear h92
      refine pl_nil ?_
      refine co_then ?_
      have hc98 : (rightI X != 0) = false := by first | (simp; done) | (simp; omega) | exact beq_false_of_ne (by omega) | exact beq_iff_eq.2 (by omega)
      rw [hc98] at h97; clear hc98
      refine co_false h97 rfl ?_
      refine wp_skip ?_
      refine co_then ?_
      refine co_seq ?_
      refine co_reg ?_
      refine pk0 (v := pt N38 0) h97 rfl fun a99 h99 => ?_; clear h97
      refine pk0 (v := pt N38 0) h99 rfl fun a100 h100 => ?_; clear h99
      refine pk0 (v := pt N38 0) h100 rfl fun a101 h101 => ?_; clear h100
      have hO102 := RObj.gr hf76 (below_grown hb94) (fun k e => by cases e)
      refine pk (v := u) h101 rfl (rn_load1 rfl rfl Try.isAgg39 ((RObj.lg hO102).cell rfl)) fun a103 h103 => ?_; clear h101
      have hB106 := hb_call hB78 hb94
      refine pw h103 rfl (op_call (args := #[u]) (R := fun res xw => res = .int .i64 ((stN X : Nat) : Int) ∧ Below w93.heap.size w93 xw) rfl rfl rfl (by kernel_rfl) (by kernel_rfl) (Try.call27 _ _) (ritemStamped_any u X w93 (RObj.sl hO102) (RObj.got hO102)) (by rintro e x ⟨rfl, h⟩; exact ⟨_, rfl, rfl, h⟩)) ?_; clear h103
      rintro _ w105 a104 ⟨rfl, hb107⟩ h104
      have hz108 := hb107.size
      have ho109 := RObj.ofS hO102
      refine pk0 (v := .int .i64 ((stN X : Nat) : Int)) h104 rfl fun a110 h110 => ?_; clear h104
      refine pl_nil ?_
      refine co_then ?_
      refine co_seq ?_
      refine co_seq ?_
      refine co_reg ?_
      refine pk0 (v := .int .i64 ((stN X : Nat) : Int)) h110 rfl fun a111 h111 => ?_; clear h110
      refine pk0 (v := .int .i64 n) h111 rfl fun a112 h112 => ?_; clear h111
      refine pk0 (v := v) h112 rfl fun a113 h113 => ?_; clear h112
      have hB114 := hb_call hB106 hb107
      refine pk (v := .int .i64 ((l.length : Nat) : Int)) h113 rfl (rn_len rfl rfl Try.underlying39 (hs.below hB114)) fun a115 h115 => ?_; clear h113
      by_cases hs116 : ((l.length : Nat) : Int) < n
      ·
       refine pk (v := .int .i64 ((l.length : Nat) : Int)) h115 rfl (rn_min2 rfl rfl rfl rfl (by omega)) fun a117 h117 => ?_; clear h115
       refine pk0 (v := .bool (decide (((stN X : Nat) : Int) < ((l.length : Nat) : Int)))) h117 rfl fun a118 h118 => ?_; clear h117
       refine pk0 (v := .bool (decide (((stN X : Nat) : Int) < ((l.length : Nat) : Int)))) h118 rfl fun a119 h119 => ?_; clear h118
       have hr121 := row_kept_new hf77 (below_grown hb94)
       have hr122 := row_kept_new hr121 (below_grown hb107)
       cases hc120 : (decide (((stN X : Nat) : Int) < ((l.length : Nat) : Int)))
       ·
        rw [hc120] at h119
        have hp123 : ¬ (((stN X : Nat) : Int) < ((l.length : Nat) : Int)) := of_decide_eq_false hc120
        clear hc120
        refine psk h119 rfl fun a124 h124 => ?_; clear h119
        refine psk h124 rfl fun a125 h125 => ?_; clear h124
        refine psk h125 rfl fun a126 h126 => ?_; clear h125
        refine psk h126 rfl fun a127 h127 => ?_; clear h126
        refine psk h127 rfl fun a128 h128 => ?_; clear h127
        refine psk h128 rfl fun a129 h129 => ?_; clear h128
        refine pk0 (v := .bool false) h129 rfl fun a130 h130 => ?_; clear h129
        refine pl_nil ?_
        refine co_then ?_
        refine co_false h130 rfl ?_
        refine wp_skip ?_
        refine co_then ?_
        refine co_seq ?_
        refine dr_gen (fun x => Below w.heap.size w x) (by kernel_rfl) (fun w131 hg132 => ?_) (fun w131 hg132 => ?_)
        ·
         have hz133 := hg132.size
         have hB134 := hb_new hB114 hg132
         exact hB134
        have hz135 := hg132.size
        have hB136 := hb_new hB114 hg132
        refine dk0 0 (v := .int .i64 ((stN X : Nat) : Int)) h130 rfl rfl hB136 fun a137 h137 => ?_; clear h130
        refine dk0 1 (v := .bool (((stN X : Nat) : Int) == 0)) h137 rfl rfl hB136 fun a138 h138 => ?_; clear h137
        refine dk0 2 (v := .bool (((stN X : Nat) : Int) == 0)) h138 rfl rfl hB136 fun a139 h139 => ?_; clear h138
        have hO141 := RObj.gr hO102 (below_grown hb107) (fun k e => by cases e)
        have hO142 := RObj.gr hO141 hg132 (fun k e => by cases e)
        cases hc140 : (((stN X : Nat) : Int) == 0)
        ·
         rw [hc140] at h139
         have hp143 : ¬ (((stN X : Nat) : Int) = 0) := by first | simpa using hc140 | simpa [and_assoc] using hc140
         clear hc140
         refine dk0 3 (v := pt N38 0) h139 rfl rfl hB136 fun a144 h144 => ?_; clear h139
         refine dk0 4 (v := pt N38 0) h144 rfl rfl hB136 fun a145 h145 => ?_; clear h144
         refine dk0 5 (v := pt N38 0) h145 rfl rfl hB136 fun a146 h146 => ?_; clear h145
         refine dk0 7 (v := .int .i64 ((stN X : Nat) : Int)) h146 rfl rfl hB136 fun a147 h147 => ?_; clear h146
         refine dk0 9 (v := pt N38 0) h147 rfl rfl hB136 fun a148 h148 => ?_; clear h147
         refine dk0 10 (v := pt N38 0) h148 rfl rfl hB136 fun a149 h149 => ?_; clear h148
         refine dk0 11 (v := pt N38 0) h149 rfl rfl hB136 fun a150 h150 => ?_; clear h149
         refine dr_many [6, 12] (by kernel_rfl) (by simp) ⟨?_, ?_, trivial⟩
         ·
          refine dr_opVal (i := 6) (v := u) h150 rfl rfl rfl rfl (by kernel_rfl) rfl (rn_load1 rfl rfl Try.isAgg39 ((RObj.lg hO142).cell rfl)) hB136 (fun a151 h151 => ?_); clear h150
          refine dr_many [8, 12] (by kernel_rfl) (by simp) ⟨?_, ?_, trivial⟩
          ·
           refine dr_op (i := 8) h151 rfl rfl rfl rfl (op_call (args := #[u, .int .i64 ((stN X : Nat) : Int)]) (R := fun res xw => res = .bool (((X).getD (stN X - 1) default).ts == 18446744073709551615) ∧ Below w131.heap.size w131 xw) rfl rfl rfl (by kernel_rfl) (by kernel_rfl) (Try.call56 _ _) (ended_any u X (stN X) w131 (RObj.sl hO142) (RObj.got hO142) ⟨by omega, by have := stN_le X; omega⟩) (by rintro e x ⟨rfl, h⟩; exact ⟨_, rfl, rfl, h⟩)) ?_ ?_; clear h151
           ·
            rintro _ w153 ⟨rfl, hb154⟩
            have hz155 := hb154.size
            have ho156 := RObj.ofS hO142
            have hB157 := hb_call hB136 hb154
            exact hB157
           rintro _ w153 a152 ⟨rfl, hb154⟩ h152
           have hz155 := hb154.size
           have ho156 := RObj.ofS hO142
           have hB157 := hb_call hB136 hb154
           refine dr_many [12] (by kernel_rfl) (by simp) ⟨?_, trivial⟩
           ·
            have hO158 := RObj.gr hO142 (below_grown hb154) (fun k e => by cases e)
            refine dr_opVal (i := 12) (v := u) h152 rfl rfl rfl rfl (by kernel_rfl) rfl (rn_load1 rfl rfl Try.isAgg39 ((RObj.lg hO158).cell rfl)) hB157 (fun a159 h159 => ?_); clear h152
            have hr162 := row_kept_new hr122 hg132
            have hr163 := row_kept_new hr162 (below_grown hb154)
            refine d1 13 h159 rfl rfl (op_call (args := #[u]) (R := fun res xw => res = .int .u64 (lastT X) ∧ Below w153.heap.size w153 xw) rfl rfl rfl (by kernel_rfl) (by kernel_rfl) (Try.call55 _ _) (ritemLast_any u X w153 (RObj.sl hO158) (RObj.got hO158)) (by rintro e x ⟨rfl, h⟩; exact ⟨_, rfl, rfl, h⟩)) ?_ ?_; clear h159
            ·
             rintro _ w161 ⟨rfl, hb164⟩
             have hz165 := hb164.size
             have ho166 := RObj.ofS hO158
             have hB167 := hb_call hB157 hb164
             exact hB167
            rintro _ w161 a160 ⟨rfl, hb164⟩ h160
            have hz165 := hb164.size
            have ho166 := RObj.ofS hO158
            have hB167 := hb_call hB157 hb164
            refine dk0 14 (v := .bool (lastT X == 18446744073709551615)) h160 rfl rfl hB167 fun a168 h168 => ?_; clear h160
            refine dk0 15 (v := .bool ((((X).getD (stN X - 1) default).ts == 18446744073709551615) == (lastT X == 18446744073709551615))) h168 rfl rfl hB167 fun a169 h169 => ?_; clear h168
            refine dk0 16 (v := .bool ((((X).getD (stN X - 1) default).ts == 18446744073709551615) == (lastT X == 18446744073709551615))) h169 rfl rfl hB167 fun a170 h170 => ?_; clear h169
            refine dk0 17 (v := .bool ((((X).getD (stN X - 1) default).ts == 18446744073709551615) == (lastT X == 18446744073709551615))) h170 rfl rfl hB167 fun a171 h171 => ?_; clear h170
            have hc172 : ((((X).getD (stN X - 1) default).ts == 18446744073709551615) == (lastT X == 18446744073709551615)) = true := by unfold lastT; rw [if_neg (by omega)]; exact beq_self_eq_true _
            rw [hc172] at h171; clear hc172
            refine d1 18 h171 rfl rfl (op_call (args := #[]) (R := fun res xw => res = .bool true ∧ Below w161.heap.size w161 xw) rfl rfl rfl (by kernel_rfl) (by kernel_rfl) (Try.call51 _ _) (awake19 w161) (by rintro e x ⟨rfl, h⟩; exact ⟨_, rfl, rfl, h⟩)) ?_ ?_; clear h171
            ·
             rintro _ w174 ⟨rfl, hb175⟩
             have hz176 := hb175.size
             have hO178 := RObj.gr hO158 (below_grown hb164) (fun k e => by cases e)
             have ho177 := RObj.ofS hO178
             have hB179 := hb_call hB167 hb175
             exact hB179
            rintro _ w174 a173 ⟨rfl, hb175⟩ h173
            have hz176 := hb175.size
            have hO178 := RObj.gr hO158 (below_grown hb164) (fun k e => by cases e)
            have ho177 := RObj.ofS hO178
            have hB179 := hb_call hB167 hb175
            refine dk0 19 (v := .bool true) h173 rfl rfl hB179 fun a180 h180 => ?_; clear h173
            refine dk0 20 (v := .bool true) h180 rfl rfl hB179 fun a181 h181 => ?_; clear h180
            refine dr_done (by kernel_rfl) ?_
            refine co_then ?_
            refine wp_ret ?_
            refine co_ret1 h181 rfl rfl ?_
            exact ⟨rfl, hB179⟩
          ·
           refine dr_opVal (i := 12) (v := u) h151 rfl rfl rfl rfl (by kernel_rfl) rfl (rn_load1 rfl rfl Try.isAgg39 ((RObj.lg hO142).cell rfl)) hB136 (fun a182 h182 => ?_); clear h151
           refine d1 8 h182 rfl rfl (op_call (args := #[u, .int .i64 ((stN X : Nat) : Int)]) (R := fun res xw => res = .bool (((X).getD (stN X - 1) default).ts == 18446744073709551615) ∧ Below w131.heap.size w131 xw) rfl rfl rfl (by kernel_rfl) (by kernel_rfl) (Try.call56 _ _) (ended_any u X (stN X) w131 (RObj.sl hO142) (RObj.got hO142) ⟨by omega, by have := stN_le X; omega⟩) (by rintro e x ⟨rfl, h⟩; exact ⟨_, rfl, rfl, h⟩)) ?_ ?_; clear h182
           ·
            rintro _ w184 ⟨rfl, hb185⟩
            have hz186 := hb185.size
            have ho187 := RObj.ofS hO142
            have hB188 := hb_call hB136 hb185
            exact hB188
           rintro _ w184 a183 ⟨rfl, hb185⟩ h183
           have hz186 := hb185.size
           have ho187 := RObj.ofS hO142
           have hB188 := hb_call hB136 hb185
           have hr191 := row_kept_new hr122 hg132
           have hr192 := row_kept_new hr191 (below_grown hb185)
           have hO193 := RObj.gr hO142 (below_grown hb185) (fun k e => by cases e)
           refine d1 13 h183 rfl rfl (op_call (args := #[u]) (R := fun res xw => res = .int .u64 (lastT X) ∧ Below w184.heap.size w184 xw) rfl rfl rfl (by kernel_rfl) (by kernel_rfl) (Try.call55 _ _) (ritemLast_any u X w184 (RObj.sl hO193) (RObj.got hO193)) (by rintro e x ⟨rfl, h⟩; exact ⟨_, rfl, rfl, h⟩)) ?_ ?_; clear h183
           ·
            rintro _ w190 ⟨rfl, hb194⟩
            have hz195 := hb194.size
            have ho196 := RObj.ofS hO193
            have hB197 := hb_call hB188 hb194
            exact hB197
           rintro _ w190 a189 ⟨rfl, hb194⟩ h189
           have hz195 := hb194.size
           have ho196 := RObj.ofS hO193
           have hB197 := hb_call hB188 hb194
           refine dk0 14 (v := .bool (lastT X == 18446744073709551615)) h189 rfl rfl hB197 fun a198 h198 => ?_; clear h189
           refine dk0 15 (v := .bool ((((X).getD (stN X - 1) default).ts == 18446744073709551615) == (lastT X == 18446744073709551615))) h198 rfl rfl hB197 fun a199 h199 => ?_; clear h198
           refine dk0 16 (v := .bool ((((X).getD (stN X - 1) default).ts == 18446744073709551615) == (lastT X == 18446744073709551615))) h199 rfl rfl hB197 fun a200 h200 => ?_; clear h199
           refine dk0 17 (v := .bool ((((X).getD (stN X - 1) default).ts == 18446744073709551615) == (lastT X == 18446744073709551615))) h200 rfl rfl hB197 fun a201 h201 => ?_; clear h200
           have hc202 : ((((X).getD (stN X - 1) default).ts == 18446744073709551615) == (lastT X == 18446744073709551615)) = true := by unfold lastT; rw [if_neg (by omega)]; exact beq_self_eq_true _
           rw [hc202] at h201; clear hc202
           refine d1 18 h201 rfl rfl (op_call (args := #[]) (R := fun res xw => res = .bool true ∧ Below w190.heap.size w190 xw) rfl rfl rfl (by kernel_rfl) (by kernel_rfl) (Try.call51 _ _) (awake19 w190) (by rintro e x ⟨rfl, h⟩; exact ⟨_, rfl, rfl, h⟩)) ?_ ?_; clear h201
           ·
            rintro _ w204 ⟨rfl, hb205⟩
            have hz206 := hb205.size
            have hO208 := RObj.gr hO193 (below_grown hb194) (fun k e => by cases e)
            have ho207 := RObj.ofS hO208
            have hB209 := hb_call hB197 hb205
            exact hB209
           rintro _ w204 a203 ⟨rfl, hb205⟩ h203
           have hz206 := hb205.size
           have hO208 := RObj.gr hO193 (below_grown hb194) (fun k e => by cases e)
           have ho207 := RObj.ofS hO208
           have hB209 := hb_call hB197 hb205
           refine dk0 19 (v := .bool true) h203 rfl rfl hB209 fun a210 h210 => ?_; clear h203
           refine dk0 20 (v := .bool true) h210 rfl rfl hB209 fun a211 h211 => ?_; clear h210
           refine dr_done (by kernel_rfl) ?_
           refine co_then ?_
           refine wp_ret ?_
           refine co_ret1 h211 rfl rfl ?_
           exact ⟨rfl, hB209⟩
         ·
          refine dr_opVal (i := 12) (v := u) h150 rfl rfl rfl rfl (by kernel_rfl) rfl (rn_load1 rfl rfl Try.isAgg39 ((RObj.lg hO142).cell rfl)) hB136 (fun a212 h212 => ?_); clear h150
          refine dr_many [6] (by kernel_rfl) (by simp) ⟨?_, trivial⟩
          ·
           refine dr_opVal (i := 6) (v := u) h212 rfl rfl rfl rfl (by kernel_rfl) rfl (rn_load1 rfl rfl Try.isAgg39 ((RObj.lg hO142).cell rfl)) hB136 (fun a213 h213 => ?_); clear h212
           refine d1 8 h213 rfl rfl (op_call (args := #[u, .int .i64 ((stN X : Nat) : Int)]) (R := fun res xw => res = .bool (((X).getD (stN X - 1) default).ts == 18446744073709551615) ∧ Below w131.heap.size w131 xw) rfl rfl rfl (by kernel_rfl) (by kernel_rfl) (Try.call56 _ _) (ended_any u X (stN X) w131 (RObj.sl hO142) (RObj.got hO142) ⟨by omega, by have := stN_le X; omega⟩) (by rintro e x ⟨rfl, h⟩; exact ⟨_, rfl, rfl, h⟩)) ?_ ?_; clear h213
           ·
            rintro _ w215 ⟨rfl, hb216⟩
            have hz217 := hb216.size
            have ho218 := RObj.ofS hO142
            have hB219 := hb_call hB136 hb216
            exact hB219
           rintro _ w215 a214 ⟨rfl, hb216⟩ h214
           have hz217 := hb216.size
           have ho218 := RObj.ofS hO142
           have hB219 := hb_call hB136 hb216
           have hr222 := row_kept_new hr122 hg132
           have hr223 := row_kept_new hr222 (below_grown hb216)
           have hO224 := RObj.gr hO142 (below_grown hb216) (fun k e => by cases e)
           refine d1 13 h214 rfl rfl (op_call (args := #[u]) (R := fun res xw => res = .int .u64 (lastT X) ∧ Below w215.heap.size w215 xw) rfl rfl rfl (by kernel_rfl) (by kernel_rfl) (Try.call55 _ _) (ritemLast_any u X w215 (RObj.sl hO224) (RObj.got hO224)) (by rintro e x ⟨rfl, h⟩; exact ⟨_, rfl, rfl, h⟩)) ?_ ?_; clear h214
           ·
            rintro _ w221 ⟨rfl, hb225⟩
            have hz226 := hb225.size
            have ho227 := RObj.ofS hO224
            have hB228 := hb_call hB219 hb225
            exact hB228
           rintro _ w221 a220 ⟨rfl, hb225⟩ h220
           have hz226 := hb225.size
           have ho227 := RObj.ofS hO224
           have hB228 := hb_call hB219 hb225
           refine dk0 14 (v := .bool (lastT X == 18446744073709551615)) h220 rfl rfl hB228 fun a229 h229 => ?_; clear h220
           refine dk0 15 (v := .bool ((((X).getD (stN X - 1) default).ts == 18446744073709551615) == (lastT X == 18446744073709551615))) h229 rfl rfl hB228 fun a230 h230 => ?_; clear h229
           refine dk0 16 (v := .bool ((((X).getD (stN X - 1) default).ts == 18446744073709551615) == (lastT X == 18446744073709551615))) h230 rfl rfl hB228 fun a231 h231 => ?_; clear h230
           refine dk0 17 (v := .bool ((((X).getD (stN X - 1) default).ts == 18446744073709551615) == (lastT X == 18446744073709551615))) h231 rfl rfl hB228 fun a232 h232 => ?_; clear h231
           have hc233 : ((((X).getD (stN X - 1) default).ts == 18446744073709551615) == (lastT X == 18446744073709551615)) = true := by unfold lastT; rw [if_neg (by omega)]; exact beq_self_eq_true _
           rw [hc233] at h232; clear hc233
           refine d1 18 h232 rfl rfl (op_call (args := #[]) (R := fun res xw => res = .bool true ∧ Below w221.heap.size w221 xw) rfl rfl rfl (by kernel_rfl) (by kernel_rfl) (Try.call51 _ _) (awake19 w221) (by rintro e x ⟨rfl, h⟩; exact ⟨_, rfl, rfl, h⟩)) ?_ ?_; clear h232
           ·
            rintro _ w235 ⟨rfl, hb236⟩
            have hz237 := hb236.size
            have hO239 := RObj.gr hO224 (below_grown hb225) (fun k e => by cases e)
            have ho238 := RObj.ofS hO239
            have hB240 := hb_call hB228 hb236
            exact hB240
           rintro _ w235 a234 ⟨rfl, hb236⟩ h234
           have hz237 := hb236.size
           have hO239 := RObj.gr hO224 (below_grown hb225) (fun k e => by cases e)
           have ho238 := RObj.ofS hO239
           have hB240 := hb_call hB228 hb236
           refine dk0 19 (v := .bool true) h234 rfl rfl hB240 fun a241 h241 => ?_; clear h234
           refine dk0 20 (v := .bool true) h241 rfl rfl hB240 fun a242 h242 => ?_; clear h241
           refine dr_done (by kernel_rfl) ?_
           refine co_then ?_
           refine wp_ret ?_
           refine co_ret1 h242 rfl rfl ?_
           exact ⟨rfl, hB240⟩
        ·
         rw [hc140] at h139
         have hp243 : ((stN X : Nat) : Int) = 0 := by first | simpa using hc140 | simpa [and_assoc] using hc140
         clear hc140
         refine dsk 3 h139 rfl rfl hB136 fun a244 h244 => ?_; clear h139
         refine dsk 4 h244 rfl rfl hB136 fun a245 h245 => ?_; clear h244
         refine dsk 5 h245 rfl rfl hB136 fun a246 h246 => ?_; clear h245
         refine dsk 6 h246 rfl rfl hB136 fun a247 h247 => ?_; clear h246
         refine dsk 7 h247 rfl rfl hB136 fun a248 h248 => ?_; clear h247
         refine dsk 8 h248 rfl rfl hB136 fun a249 h249 => ?_; clear h248
         refine dsk 9 h249 rfl rfl hB136 fun a250 h250 => ?_; clear h249
         refine dsk 10 h250 rfl rfl hB136 fun a251 h251 => ?_; clear h250
         refine dsk 11 h251 rfl rfl hB136 fun a252 h252 => ?_; clear h251
         refine dsk 12 h252 rfl rfl hB136 fun a253 h253 => ?_; clear h252
         refine dsk 13 h253 rfl rfl hB136 fun a254 h254 => ?_; clear h253
         refine dsk 14 h254 rfl rfl hB136 fun a255 h255 => ?_; clear h254
         refine dsk 15 h255 rfl rfl hB136 fun a256 h256 => ?_; clear h255
         refine dk0 16 (v := .bool true) h256 rfl rfl hB136 fun a257 h257 => ?_; clear h256
         refine dk0 17 (v := .bool true) h257 rfl rfl hB136 fun a258 h258 => ?_; clear h257
         refine d1 18 h258 rfl rfl (op_call (args := #[]) (R := fun res xw => res = .bool true ∧ Below w131.heap.size w131 xw) rfl rfl rfl (by kernel_rfl) (by kernel_rfl) (Try.call51 _ _) (awake19 w131) (by rintro e x ⟨rfl, h⟩; exact ⟨_, rfl, rfl, h⟩)) ?_ ?_; clear h258
         ·
          rintro _ w260 ⟨rfl, hb261⟩
          have hz262 := hb261.size
          have ho263 := RObj.ofS hO142
          have hB264 := hb_call hB136 hb261
          exact hB264
         rintro _ w260 a259 ⟨rfl, hb261⟩ h259
         have hz262 := hb261.size
         have ho263 := RObj.ofS hO142
         have hB264 := hb_call hB136 hb261
         refine dk0 19 (v := .bool true) h259 rfl rfl hB264 fun a265 h265 => ?_; clear h259
         refine dk0 20 (v := .bool true) h265 rfl rfl hB264 fun a266 h266 => ?_; clear h265
         refine dr_done (by kernel_rfl) ?_
         refine co_then ?_
         refine wp_ret ?_
         refine co_ret1 h266 rfl rfl ?_
         exact ⟨rfl, hB264⟩
       ·
        rw [hc120] at h119
        have hp267 : ((stN X : Nat) : Int) < ((l.length : Nat) : Int) := of_decide_eq_true hc120
        clear hc120
        refine pk0 (v := pt N38 0) h119 rfl fun a268 h268 => ?_; clear h119
        refine pk0 (v := pt N38 0) h268 rfl fun a269 h269 => ?_; clear h268
        refine pk0 (v := pt N38 0) h269 rfl fun a270 h270 => ?_; clear h269
        have hO271 := RObj.gr hO102 (below_grown hb107) (fun k e => by cases e)
        refine pk (v := u) h270 rfl (rn_load1 rfl rfl Try.isAgg39 ((RObj.lg hO271).cell rfl)) fun a272 h272 => ?_; clear h270
        refine pw h272 rfl (op_call (args := #[u]) (R := fun res xw => res = .int .u64 (lastT X) ∧ Below w105.heap.size w105 xw) rfl rfl rfl (by kernel_rfl) (by kernel_rfl) (Try.call55 _ _) (ritemLast_any u X w105 (RObj.sl hO271) (RObj.got hO271)) (by rintro e x ⟨rfl, h⟩; exact ⟨_, rfl, rfl, h⟩)) ?_; clear h272
        rintro _ w274 a273 ⟨rfl, hb275⟩ h273
        have hz276 := hb275.size
        have ho277 := RObj.ofS hO271
        refine pk0 (v := .bool (lastT X != 18446744073709551615)) h273 rfl fun a278 h278 => ?_; clear h273
        refine pk0 (v := .bool (lastT X != 18446744073709551615)) h278 rfl fun a279 h279 => ?_; clear h278
        refine pl_nil ?_
        refine co_then ?_
        have hc280 : (lastT X != 18446744073709551615) = false := by first | (simp; done) | (simp; omega) | exact beq_false_of_ne (by omega) | exact beq_iff_eq.2 (by omega)
        rw [hc280] at h279; clear hc280
        refine co_false h279 rfl ?_
        refine wp_skip ?_
        refine co_then ?_
        refine co_seq ?_
        refine dr_gen (fun x => Below w.heap.size w x) (by kernel_rfl) (fun w281 hg282 => ?_) (fun w281 hg282 => ?_)
        ·
         have hz283 := hg282.size
         have hB284 := hb_call hB114 hb275
         have hB285 := hb_new hB284 hg282
         exact hB285
        have hz286 := hg282.size
        have hB287 := hb_call hB114 hb275
        have hB288 := hb_new hB287 hg282
        refine dk0 0 (v := .int .i64 ((stN X : Nat) : Int)) h279 rfl rfl hB288 fun a289 h289 => ?_; clear h279
        refine dk0 1 (v := .bool (((stN X : Nat) : Int) == 0)) h289 rfl rfl hB288 fun a290 h290 => ?_; clear h289
        refine dk0 2 (v := .bool (((stN X : Nat) : Int) == 0)) h290 rfl rfl hB288 fun a291 h291 => ?_; clear h290
        have hO293 := RObj.gr hO271 (below_grown hb275) (fun k e => by cases e)
        have hO294 := RObj.gr hO293 hg282 (fun k e => by cases e)
        have hr295 := row_kept_new hr122 (below_grown hb275)
        have hr296 := row_kept_new hr295 hg282
        cases hc292 : (((stN X : Nat) : Int) == 0)
        ·
         rw [hc292] at h291
         have hp297 : ¬ (((stN X : Nat) : Int) = 0) := by first | simpa using hc292 | simpa [and_assoc] using hc292
         clear hc292
         refine dk0 3 (v := pt N38 0) h291 rfl rfl hB288 fun a298 h298 => ?_; clear h291
         refine dk0 4 (v := pt N38 0) h298 rfl rfl hB288 fun a299 h299 => ?_; clear h298
         refine dk0 5 (v := pt N38 0) h299 rfl rfl hB288 fun a300 h300 => ?_; clear h299
         refine dk0 7 (v := .int .i64 ((stN X : Nat) : Int)) h300 rfl rfl hB288 fun a301 h301 => ?_; clear h300
         refine dk0 9 (v := pt N38 0) h301 rfl rfl hB288 fun a302 h302 => ?_; clear h301
         refine dk0 10 (v := pt N38 0) h302 rfl rfl hB288 fun a303 h303 => ?_; clear h302
         refine dk0 11 (v := pt N38 0) h303 rfl rfl hB288 fun a304 h304 => ?_; clear h303
         refine dr_many [6, 12] (by kernel_rfl) (by simp) ⟨?_, ?_, trivial⟩
         ·
          refine dr_opVal (i := 6) (v := u) h304 rfl rfl rfl rfl (by kernel_rfl) rfl (rn_load1 rfl rfl Try.isAgg39 ((RObj.lg hO294).cell rfl)) hB288 (fun a305 h305 => ?_); clear h304
          refine dr_many [8, 12] (by kernel_rfl) (by simp) ⟨?_, ?_, trivial⟩
          ·
           refine dr_op (i := 8) h305 rfl rfl rfl rfl (op_call (args := #[u, .int .i64 ((stN X : Nat) : Int)]) (R := fun res xw => res = .bool (((X).getD (stN X - 1) default).ts == 18446744073709551615) ∧ Below w281.heap.size w281 xw) rfl rfl rfl (by kernel_rfl) (by kernel_rfl) (Try.call56 _ _) (ended_any u X (stN X) w281 (RObj.sl hO294) (RObj.got hO294) ⟨by omega, by have := stN_le X; omega⟩) (by rintro e x ⟨rfl, h⟩; exact ⟨_, rfl, rfl, h⟩)) ?_ ?_; clear h305
           ·
            rintro _ w307 ⟨rfl, hb308⟩
            have hz309 := hb308.size
            have ho310 := RObj.ofS hO294
            have hB311 := hb_call hB288 hb308
            exact hB311
           rintro _ w307 a306 ⟨rfl, hb308⟩ h306
           have hz309 := hb308.size
           have ho310 := RObj.ofS hO294
           have hB311 := hb_call hB288 hb308
           refine dr_many [12] (by kernel_rfl) (by simp) ⟨?_, trivial⟩
           ·
            have hO312 := RObj.gr hO294 (below_grown hb308) (fun k e => by cases e)
            refine dr_opVal (i := 12) (v := u) h306 rfl rfl rfl rfl (by kernel_rfl) rfl (rn_load1 rfl rfl Try.isAgg39 ((RObj.lg hO312).cell rfl)) hB311 (fun a313 h313 => ?_); clear h306
            refine d1 13 h313 rfl rfl (op_call (args := #[u]) (R := fun res xw => res = .int .u64 (lastT X) ∧ Below w307.heap.size w307 xw) rfl rfl rfl (by kernel_rfl) (by kernel_rfl) (Try.call55 _ _) (ritemLast_any u X w307 (RObj.sl hO312) (RObj.got hO312)) (by rintro e x ⟨rfl, h⟩; exact ⟨_, rfl, rfl, h⟩)) ?_ ?_; clear h313
            ·
             rintro _ w315 ⟨rfl, hb316⟩
             have hz317 := hb316.size
             have ho318 := RObj.ofS hO312
             have hB319 := hb_call hB311 hb316
             exact hB319
            rintro _ w315 a314 ⟨rfl, hb316⟩ h314
            have hz317 := hb316.size
            have ho318 := RObj.ofS hO312
            have hB319 := hb_call hB311 hb316
            refine dk0 14 (v := .bool (lastT X == 18446744073709551615)) h314 rfl rfl hB319 fun a320 h320 => ?_; clear h314
            refine dk0 15 (v := .bool ((((X).getD (stN X - 1) default).ts == 18446744073709551615) == (lastT X == 18446744073709551615))) h320 rfl rfl hB319 fun a321 h321 => ?_; clear h320
            refine dk0 16 (v := .bool ((((X).getD (stN X - 1) default).ts == 18446744073709551615) == (lastT X == 18446744073709551615))) h321 rfl rfl hB319 fun a322 h322 => ?_; clear h321
            refine dk0 17 (v := .bool ((((X).getD (stN X - 1) default).ts == 18446744073709551615) == (lastT X == 18446744073709551615))) h322 rfl rfl hB319 fun a323 h323 => ?_; clear h322
            have hc324 : ((((X).getD (stN X - 1) default).ts == 18446744073709551615) == (lastT X == 18446744073709551615)) = true := by unfold lastT; rw [if_neg (by omega)]; exact beq_self_eq_true _
            rw [hc324] at h323; clear hc324
            have hr327 := row_kept_new hr296 (below_grown hb308)
            have hr328 := row_kept_new hr327 (below_grown hb316)
            refine d1 18 h323 rfl rfl (op_call (args := #[]) (R := fun res xw => res = .bool true ∧ Below w315.heap.size w315 xw) rfl rfl rfl (by kernel_rfl) (by kernel_rfl) (Try.call51 _ _) (awake19 w315) (by rintro e x ⟨rfl, h⟩; exact ⟨_, rfl, rfl, h⟩)) ?_ ?_; clear h323
            ·
             rintro _ w326 ⟨rfl, hb329⟩
             have hz330 := hb329.size
             have hO332 := RObj.gr hO312 (below_grown hb316) (fun k e => by cases e)
             have ho331 := RObj.ofS hO332
             have hB333 := hb_call hB319 hb329
             exact hB333
            rintro _ w326 a325 ⟨rfl, hb329⟩ h325
            have hz330 := hb329.size
            have hO332 := RObj.gr hO312 (below_grown hb316) (fun k e => by cases e)
            have ho331 := RObj.ofS hO332
            have hB333 := hb_call hB319 hb329
            refine dk0 19 (v := .bool true) h325 rfl rfl hB333 fun a334 h334 => ?_; clear h325
            refine dk0 20 (v := .bool true) h334 rfl rfl hB333 fun a335 h335 => ?_; clear h334
            refine dr_done (by kernel_rfl) ?_
            refine co_then ?_
            refine wp_ret ?_
            refine co_ret1 h335 rfl rfl ?_
            exact ⟨rfl, hB333⟩
          ·
           refine dr_opVal (i := 12) (v := u) h305 rfl rfl rfl rfl (by kernel_rfl) rfl (rn_load1 rfl rfl Try.isAgg39 ((RObj.lg hO294).cell rfl)) hB288 (fun a336 h336 => ?_); clear h305
           refine d1 8 h336 rfl rfl (op_call (args := #[u, .int .i64 ((stN X : Nat) : Int)]) (R := fun res xw => res = .bool (((X).getD (stN X - 1) default).ts == 18446744073709551615) ∧ Below w281.heap.size w281 xw) rfl rfl rfl (by kernel_rfl) (by kernel_rfl) (Try.call56 _ _) (ended_any u X (stN X) w281 (RObj.sl hO294) (RObj.got hO294) ⟨by omega, by have := stN_le X; omega⟩) (by rintro e x ⟨rfl, h⟩; exact ⟨_, rfl, rfl, h⟩)) ?_ ?_; clear h336
           ·
            rintro _ w338 ⟨rfl, hb339⟩
            have hz340 := hb339.size
            have ho341 := RObj.ofS hO294
            have hB342 := hb_call hB288 hb339
            exact hB342
           rintro _ w338 a337 ⟨rfl, hb339⟩ h337
           have hz340 := hb339.size
           have ho341 := RObj.ofS hO294
           have hB342 := hb_call hB288 hb339
           have hO345 := RObj.gr hO294 (below_grown hb339) (fun k e => by cases e)
           refine d1 13 h337 rfl rfl (op_call (args := #[u]) (R := fun res xw => res = .int .u64 (lastT X) ∧ Below w338.heap.size w338 xw) rfl rfl rfl (by kernel_rfl) (by kernel_rfl) (Try.call55 _ _) (ritemLast_any u X w338 (RObj.sl hO345) (RObj.got hO345)) (by rintro e x ⟨rfl, h⟩; exact ⟨_, rfl, rfl, h⟩)) ?_ ?_; clear h337
           ·
            rintro _ w344 ⟨rfl, hb346⟩
            have hz347 := hb346.size
            have ho348 := RObj.ofS hO345
            have hB349 := hb_call hB342 hb346
            exact hB349
           rintro _ w344 a343 ⟨rfl, hb346⟩ h343
           have hz347 := hb346.size
           have ho348 := RObj.ofS hO345
           have hB349 := hb_call hB342 hb346
           refine dk0 14 (v := .bool (lastT X == 18446744073709551615)) h343 rfl rfl hB349 fun a350 h350 => ?_; clear h343
           refine dk0 15 (v := .bool ((((X).getD (stN X - 1) default).ts == 18446744073709551615) == (lastT X == 18446744073709551615))) h350 rfl rfl hB349 fun a351 h351 => ?_; clear h350
           refine dk0 16 (v := .bool ((((X).getD (stN X - 1) default).ts == 18446744073709551615) == (lastT X == 18446744073709551615))) h351 rfl rfl hB349 fun a352 h352 => ?_; clear h351
           refine dk0 17 (v := .bool ((((X).getD (stN X - 1) default).ts == 18446744073709551615) == (lastT X == 18446744073709551615))) h352 rfl rfl hB349 fun a353 h353 => ?_; clear h352
           have hc354 : ((((X).getD (stN X - 1) default).ts == 18446744073709551615) == (lastT X == 18446744073709551615)) = true := by unfold lastT; rw [if_neg (by omega)]; exact beq_self_eq_true _
           rw [hc354] at h353; clear hc354
           have hr357 := row_kept_new hr296 (below_grown hb339)
           have hr358 := row_kept_new hr357 (below_grown hb346)
           refine d1 18 h353 rfl rfl (op_call (args := #[]) (R := fun res xw => res = .bool true ∧ Below w344.heap.size w344 xw) rfl rfl rfl (by kernel_rfl) (by kernel_rfl) (Try.call51 _ _) (awake19 w344) (by rintro e x ⟨rfl, h⟩; exact ⟨_, rfl, rfl, h⟩)) ?_ ?_; clear h353
           ·
            rintro _ w356 ⟨rfl, hb359⟩
            have hz360 := hb359.size
            have hO362 := RObj.gr hO345 (below_grown hb346) (fun k e => by cases e)
            have ho361 := RObj.ofS hO362
            have hB363 := hb_call hB349 hb359
            exact hB363
           rintro _ w356 a355 ⟨rfl, hb359⟩ h355
           have hz360 := hb359.size
           have hO362 := RObj.gr hO345 (below_grown hb346) (fun k e => by cases e)
           have ho361 := RObj.ofS hO362
           have hB363 := hb_call hB349 hb359
           refine dk0 19 (v := .bool true) h355 rfl rfl hB363 fun a364 h364 => ?_; clear h355
           refine dk0 20 (v := .bool true) h364 rfl rfl hB363 fun a365 h365 => ?_; clear h364
           refine dr_done (by kernel_rfl) ?_
           refine co_then ?_
           refine wp_ret ?_
           refine co_ret1 h365 rfl rfl ?_
           exact ⟨rfl, hB363⟩
         ·
          refine dr_opVal (i := 12) (v := u) h304 rfl rfl rfl rfl (by kernel_rfl) rfl (rn_load1 rfl rfl Try.isAgg39 ((RObj.lg hO294).cell rfl)) hB288 (fun a366 h366 => ?_); clear h304
          refine dr_many [6] (by kernel_rfl) (by simp) ⟨?_, trivial⟩
          ·
           refine dr_opVal (i := 6) (v := u) h366 rfl rfl rfl rfl (by kernel_rfl) rfl (rn_load1 rfl rfl Try.isAgg39 ((RObj.lg hO294).cell rfl)) hB288 (fun a367 h367 => ?_); clear h366
           refine d1 8 h367 rfl rfl (op_call (args := #[u, .int .i64 ((stN X : Nat) : Int)]) (R := fun res xw => res = .bool (((X).getD (stN X - 1) default).ts == 18446744073709551615) ∧ Below w281.heap.size w281 xw) rfl rfl rfl (by kernel_rfl) (by kernel_rfl) (Try.call56 _ _) (ended_any u X (stN X) w281 (RObj.sl hO294) (RObj.got hO294) ⟨by omega, by have := stN_le X; omega⟩) (by rintro e x ⟨rfl, h⟩; exact ⟨_, rfl, rfl, h⟩)) ?_ ?_; clear h367
           ·
            rintro _ w369 ⟨rfl, hb370⟩
            have hz371 := hb370.size
            have ho372 := RObj.ofS hO294
            have hB373 := hb_call hB288 hb370
            exact hB373
           rintro _ w369 a368 ⟨rfl, hb370⟩ h368
           have hz371 := hb370.size
           have ho372 := RObj.ofS hO294
           have hB373 := hb_call hB288 hb370
           have hO376 := RObj.gr hO294 (below_grown hb370) (fun k e => by cases e)
           refine d1 13 h368 rfl rfl (op_call (args := #[u]) (R := fun res xw => res = .int .u64 (lastT X) ∧ Below w369.heap.size w369 xw) rfl rfl rfl (by kernel_rfl) (by kernel_rfl) (Try.call55 _ _) (ritemLast_any u X w369 (RObj.sl hO376) (RObj.got hO376)) (by rintro e x ⟨rfl, h⟩; exact ⟨_, rfl, rfl, h⟩)) ?_ ?_; clear h368
           ·
            rintro _ w375 ⟨rfl, hb377⟩
            have hz378 := hb377.size
            have ho379 := RObj.ofS hO376
            have hB380 := hb_call hB373 hb377
            exact hB380
           rintro _ w375 a374 ⟨rfl, hb377⟩ h374
           have hz378 := hb377.size
           have ho379 := RObj.ofS hO376
           have hB380 := hb_call hB373 hb377
           refine dk0 14 (v := .bool (lastT X == 18446744073709551615)) h374 rfl rfl hB380 fun a381 h381 => ?_; clear h374
           refine dk0 15 (v := .bool ((((X).getD (stN X - 1) default).ts == 18446744073709551615) == (lastT X == 18446744073709551615))) h381 rfl rfl hB380 fun a382 h382 => ?_; clear h381
           refine dk0 16 (v := .bool ((((X).getD (stN X - 1) default).ts == 18446744073709551615) == (lastT X == 18446744073709551615))) h382 rfl rfl hB380 fun a383 h383 => ?_; clear h382
           refine dk0 17 (v := .bool ((((X).getD (stN X - 1) default).ts == 18446744073709551615) == (lastT X == 18446744073709551615))) h383 rfl rfl hB380 fun a384 h384 => ?_; clear h383
           have hc385 : ((((X).getD (stN X - 1) default).ts == 18446744073709551615) == (lastT X == 18446744073709551615)) = true := by unfold lastT; rw [if_neg (by omega)]; exact beq_self_eq_true _
           rw [hc385] at h384; clear hc385
           have hr388 := row_kept_new hr296 (below_grown hb370)
           have hr389 := row_kept_new hr388 (below_grown hb377)
           refine d1 18 h384 rfl rfl (op_call (args := #[]) (R := fun res xw => res = .bool true ∧ Below w375.heap.size w375 xw) rfl rfl rfl (by kernel_rfl) (by kernel_rfl) (Try.call51 _ _) (awake19 w375) (by rintro e x ⟨rfl, h⟩; exact ⟨_, rfl, rfl, h⟩)) ?_ ?_; clear h384
           ·
            rintro _ w387 ⟨rfl, hb390⟩
            have hz391 := hb390.size
            have hO393 := RObj.gr hO376 (below_grown hb377) (fun k e => by cases e)
            have ho392 := RObj.ofS hO393
            have hB394 := hb_call hB380 hb390
            exact hB394
           rintro _ w387 a386 ⟨rfl, hb390⟩ h386
           have hz391 := hb390.size
           have hO393 := RObj.gr hO376 (below_grown hb377) (fun k e => by cases e)
           have ho392 := RObj.ofS hO393
           have hB394 := hb_call hB380 hb390
           refine dk0 19 (v := .bool true) h386 rfl rfl hB394 fun a395 h395 => ?_; clear h386
           refine dk0 20 (v := .bool true) h395 rfl rfl hB394 fun a396 h396 => ?_; clear h395
           refine dr_done (by kernel_rfl) ?_
           refine co_then ?_
           refine wp_ret ?_
           refine co_ret1 h396 rfl rfl ?_
           exact ⟨rfl, hB394⟩
        ·
         rw [hc292] at h291
         have hp397 : ((stN X : Nat) : Int) = 0 := by first | simpa using hc292 | simpa [and_assoc] using hc292
         clear hc292
         refine dsk 3 h291 rfl rfl hB288 fun a398 h398 => ?_; clear h291
         refine dsk 4 h398 rfl rfl hB288 fun a399 h399 => ?_; clear h398
         refine dsk 5 h399 rfl rfl hB288 fun a400 h400 => ?_; clear h399
         refine dsk 6 h400 rfl rfl hB288 fun a401 h401 => ?_; clear h400
         refine dsk 7 h401 rfl rfl hB288 fun a402 h402 => ?_; clear h401
         refine dsk 8 h402 rfl rfl hB288 fun a403 h403 => ?_; clear h402
         refine dsk 9 h403 rfl rfl hB288 fun a404 h404 => ?_; clear h403
         refine dsk 10 h404 rfl rfl hB288 fun a405 h405 => ?_; clear h404
         refine dsk 11 h405 rfl rfl hB288 fun a406 h406 => ?_; clear h405
         refine dsk 12 h406 rfl rfl hB288 fun a407 h407 => ?_; clear h406
         refine dsk 13 h407 rfl rfl hB288 fun a408 h408 => ?_; clear h407
         refine dsk 14 h408 rfl rfl hB288 fun a409 h409 => ?_; clear h408
         refine dsk 15 h409 rfl rfl hB288 fun a410 h410 => ?_; clear h409
         refine dk0 16 (v := .bool true) h410 rfl rfl hB288 fun a411 h411 => ?_; clear h410
         refine dk0 17 (v := .bool true) h411 rfl rfl hB288 fun a412 h412 => ?_; clear h411
         refine d1 18 h412 rfl rfl (op_call (args := #[]) (R := fun res xw => res = .bool true ∧ Below w281.heap.size w281 xw) rfl rfl rfl (by kernel_rfl) (by kernel_rfl) (Try.call51 _ _) (awake19 w281) (by rintro e x ⟨rfl, h⟩; exact ⟨_, rfl, rfl, h⟩)) ?_ ?_; clear h412
         ·
          rintro _ w414 ⟨rfl, hb415⟩
          have hz416 := hb415.size
          have ho417 := RObj.ofS hO294
          have hB418 := hb_call hB288 hb415
          exact hB418
         rintro _ w414 a413 ⟨rfl, hb415⟩ h413
         have hz416 := hb415.size
         have ho417 := RObj.ofS hO294
         have hB418 := hb_call hB288 hb415
         refine dk0 19 (v := .bool true) h413 rfl rfl hB418 fun a419 h419 => ?_; clear h413
         refine dk0 20 (v := .bool true) h419 rfl rfl hB418 fun a420 h420 => ?_; clear h419
         refine dr_done (by kernel_rfl) ?_
         refine co_then ?_
         refine wp_ret ?_
         refine co_ret1 h420 rfl rfl ?_
         exact ⟨rfl, hB418⟩
      ·
       refine pk (v := .int .i64 n) h115 rfl (rn_min1 rfl rfl rfl rfl (by omega)) fun a421 h421 => ?_; clear h115
       refine pk0 (v := .bool (decide (((stN X : Nat) : Int) < n))) h421 rfl fun a422 h422 => ?_; clear h421
       refine pk0 (v := .bool (decide (((stN X : Nat) : Int) < n))) h422 rfl fun a423 h423 => ?_; clear h422
       have hr425 := row_kept_new hf77 (below_grown hb94)
       have hr426 := row_kept_new hr425 (below_grown hb107)
       cases hc424 : (decide (((stN X : Nat) : Int) < n))
       ·
        rw [hc424] at h423
        have hp427 : ¬ (((stN X : Nat) : Int) < n) := of_decide_eq_false hc424
        clear hc424
        refine psk h423 rfl fun a428 h428 => ?_; clear h423
        refine psk h428 rfl fun a429 h429 => ?_; clear h428
        refine psk h429 rfl fun a430 h430 => ?_; clear h429
        refine psk h430 rfl fun a431 h431 => ?_; clear h430
        refine psk h431 rfl fun a432 h432 => ?_; clear h431
        refine psk h432 rfl fun a433 h433 => ?_; clear h432
        refine pk0 (v := .bool false) h433 rfl fun a434 h434 => ?_; clear h433
        refine pl_nil ?_
        refine co_then ?_
        refine co_false h434 rfl ?_
        refine wp_skip ?_
        refine co_then ?_
        refine co_seq ?_
        refine dr_gen (fun x => Below w.heap.size w x) (by kernel_rfl) (fun w435 hg436 => ?_) (fun w435 hg436 => ?_)
        ·
         have hz437 := hg436.size
         have hB438 := hb_new hB114 hg436
         exact hB438
        have hz439 := hg436.size
        have hB440 := hb_new hB114 hg436
        refine dk0 0 (v := .int .i64 ((stN X : Nat) : Int)) h434 rfl rfl hB440 fun a441 h441 => ?_; clear h434
        refine dk0 1 (v := .bool (((stN X : Nat) : Int) == 0)) h441 rfl rfl hB440 fun a442 h442 => ?_; clear h441
        refine dk0 2 (v := .bool (((stN X : Nat) : Int) == 0)) h442 rfl rfl hB440 fun a443 h443 => ?_; clear h442
        have hO445 := RObj.gr hO102 (below_grown hb107) (fun k e => by cases e)
        have hO446 := RObj.gr hO445 hg436 (fun k e => by cases e)
        cases hc444 : (((stN X : Nat) : Int) == 0)
        ·
         rw [hc444] at h443
         have hp447 : ¬ (((stN X : Nat) : Int) = 0) := by first | simpa using hc444 | simpa [and_assoc] using hc444
         clear hc444
         refine dk0 3 (v := pt N38 0) h443 rfl rfl hB440 fun a448 h448 => ?_; clear h443
         refine dk0 4 (v := pt N38 0) h448 rfl rfl hB440 fun a449 h449 => ?_; clear h448
         refine dk0 5 (v := pt N38 0) h449 rfl rfl hB440 fun a450 h450 => ?_; clear h449
         refine dk0 7 (v := .int .i64 ((stN X : Nat) : Int)) h450 rfl rfl hB440 fun a451 h451 => ?_; clear h450
         refine dk0 9 (v := pt N38 0) h451 rfl rfl hB440 fun a452 h452 => ?_; clear h451
         refine dk0 10 (v := pt N38 0) h452 rfl rfl hB440 fun a453 h453 => ?_; clear h452
         refine dk0 11 (v := pt N38 0) h453 rfl rfl hB440 fun a454 h454 => ?_; clear h453
         refine dr_many [6, 12] (by kernel_rfl) (by simp) ⟨?_, ?_, trivial⟩
         ·
          refine dr_opVal (i := 6) (v := u) h454 rfl rfl rfl rfl (by kernel_rfl) rfl (rn_load1 rfl rfl Try.isAgg39 ((RObj.lg hO446).cell rfl)) hB440 (fun a455 h455 => ?_); clear h454
          refine dr_many [8, 12] (by kernel_rfl) (by simp) ⟨?_, ?_, trivial⟩
          ·
           refine dr_op (i := 8) h455 rfl rfl rfl rfl (op_call (args := #[u, .int .i64 ((stN X : Nat) : Int)]) (R := fun res xw => res = .bool (((X).getD (stN X - 1) default).ts == 18446744073709551615) ∧ Below w435.heap.size w435 xw) rfl rfl rfl (by kernel_rfl) (by kernel_rfl) (Try.call56 _ _) (ended_any u X (stN X) w435 (RObj.sl hO446) (RObj.got hO446) ⟨by omega, by have := stN_le X; omega⟩) (by rintro e x ⟨rfl, h⟩; exact ⟨_, rfl, rfl, h⟩)) ?_ ?_; clear h455
           ·
            rintro _ w457 ⟨rfl, hb458⟩
            have hz459 := hb458.size
            have ho460 := RObj.ofS hO446
            have hB461 := hb_call hB440 hb458
            exact hB461
           rintro _ w457 a456 ⟨rfl, hb458⟩ h456
           have hz459 := hb458.size
           have ho460 := RObj.ofS hO446
           have hB461 := hb_call hB440 hb458
           refine dr_many [12] (by kernel_rfl) (by simp) ⟨?_, trivial⟩
           ·
            have hO462 := RObj.gr hO446 (below_grown hb458) (fun k e => by cases e)
            refine dr_opVal (i := 12) (v := u) h456 rfl rfl rfl rfl (by kernel_rfl) rfl (rn_load1 rfl rfl Try.isAgg39 ((RObj.lg hO462).cell rfl)) hB461 (fun a463 h463 => ?_); clear h456
            have hr466 := row_kept_new hr426 hg436
            have hr467 := row_kept_new hr466 (below_grown hb458)
            refine d1 13 h463 rfl rfl (op_call (args := #[u]) (R := fun res xw => res = .int .u64 (lastT X) ∧ Below w457.heap.size w457 xw) rfl rfl rfl (by kernel_rfl) (by kernel_rfl) (Try.call55 _ _) (ritemLast_any u X w457 (RObj.sl hO462) (RObj.got hO462)) (by rintro e x ⟨rfl, h⟩; exact ⟨_, rfl, rfl, h⟩)) ?_ ?_; clear h463
            ·
             rintro _ w465 ⟨rfl, hb468⟩
             have hz469 := hb468.size
             have ho470 := RObj.ofS hO462
             have hB471 := hb_call hB461 hb468
             exact hB471
            rintro _ w465 a464 ⟨rfl, hb468⟩ h464
            have hz469 := hb468.size
            have ho470 := RObj.ofS hO462
            have hB471 := hb_call hB461 hb468
            refine dk0 14 (v := .bool (lastT X == 18446744073709551615)) h464 rfl rfl hB471 fun a472 h472 => ?_; clear h464
            refine dk0 15 (v := .bool ((((X).getD (stN X - 1) default).ts == 18446744073709551615) == (lastT X == 18446744073709551615))) h472 rfl rfl hB471 fun a473 h473 => ?_; clear h472
            refine dk0 16 (v := .bool ((((X).getD (stN X - 1) default).ts == 18446744073709551615) == (lastT X == 18446744073709551615))) h473 rfl rfl hB471 fun a474 h474 => ?_; clear h473
            refine dk0 17 (v := .bool ((((X).getD (stN X - 1) default).ts == 18446744073709551615) == (lastT X == 18446744073709551615))) h474 rfl rfl hB471 fun a475 h475 => ?_; clear h474
            have hc476 : ((((X).getD (stN X - 1) default).ts == 18446744073709551615) == (lastT X == 18446744073709551615)) = true := by unfold lastT; rw [if_neg (by omega)]; exact beq_self_eq_true _
            rw [hc476] at h475; clear hc476
            refine d1 18 h475 rfl rfl (op_call (args := #[]) (R := fun res xw => res = .bool true ∧ Below w465.heap.size w465 xw) rfl rfl rfl (by kernel_rfl) (by kernel_rfl) (Try.call51 _ _) (awake19 w465) (by rintro e x ⟨rfl, h⟩; exact ⟨_, rfl, rfl, h⟩)) ?_ ?_; clear h475
            ·
             rintro _ w478 ⟨rfl, hb479⟩
             have hz480 := hb479.size
             have hO482 := RObj.gr hO462 (below_grown hb468) (fun k e => by cases e)
             have ho481 := RObj.ofS hO482
             have hB483 := hb_call hB471 hb479
             exact hB483
            rintro _ w478 a477 ⟨rfl, hb479⟩ h477
            have hz480 := hb479.size
            have hO482 := RObj.gr hO462 (below_grown hb468) (fun k e => by cases e)
            have ho481 := RObj.ofS hO482
            have hB483 := hb_call hB471 hb479
            refine dk0 19 (v := .bool true) h477 rfl rfl hB483 fun a484 h484 => ?_; clear h477
            refine dk0 20 (v := .bool true) h484 rfl rfl hB483 fun a485 h485 => ?_; clear h484
            refine dr_done (by kernel_rfl) ?_
            refine co_then ?_
            refine wp_ret ?_
            refine co_ret1 h485 rfl rfl ?_
            exact ⟨rfl, hB483⟩
          ·
           refine dr_opVal (i := 12) (v := u) h455 rfl rfl rfl rfl (by kernel_rfl) rfl (rn_load1 rfl rfl Try.isAgg39 ((RObj.lg hO446).cell rfl)) hB440 (fun a486 h486 => ?_); clear h455
           refine d1 8 h486 rfl rfl (op_call (args := #[u, .int .i64 ((stN X : Nat) : Int)]) (R := fun res xw => res = .bool (((X).getD (stN X - 1) default).ts == 18446744073709551615) ∧ Below w435.heap.size w435 xw) rfl rfl rfl (by kernel_rfl) (by kernel_rfl) (Try.call56 _ _) (ended_any u X (stN X) w435 (RObj.sl hO446) (RObj.got hO446) ⟨by omega, by have := stN_le X; omega⟩) (by rintro e x ⟨rfl, h⟩; exact ⟨_, rfl, rfl, h⟩)) ?_ ?_; clear h486
           ·
            rintro _ w488 ⟨rfl, hb489⟩
            have hz490 := hb489.size
            have ho491 := RObj.ofS hO446
            have hB492 := hb_call hB440 hb489
            exact hB492
           rintro _ w488 a487 ⟨rfl, hb489⟩ h487
           have hz490 := hb489.size
           have ho491 := RObj.ofS hO446
           have hB492 := hb_call hB440 hb489
           have hr495 := row_kept_new hr426 hg436
           have hr496 := row_kept_new hr495 (below_grown hb489)
           have hO497 := RObj.gr hO446 (below_grown hb489) (fun k e => by cases e)
           refine d1 13 h487 rfl rfl (op_call (args := #[u]) (R := fun res xw => res = .int .u64 (lastT X) ∧ Below w488.heap.size w488 xw) rfl rfl rfl (by kernel_rfl) (by kernel_rfl) (Try.call55 _ _) (ritemLast_any u X w488 (RObj.sl hO497) (RObj.got hO497)) (by rintro e x ⟨rfl, h⟩; exact ⟨_, rfl, rfl, h⟩)) ?_ ?_; clear h487
           ·
            rintro _ w494 ⟨rfl, hb498⟩
            have hz499 := hb498.size
            have ho500 := RObj.ofS hO497
            have hB501 := hb_call hB492 hb498
            exact hB501
           rintro _ w494 a493 ⟨rfl, hb498⟩ h493
           have hz499 := hb498.size
           have ho500 := RObj.ofS hO497
           have hB501 := hb_call hB492 hb498
           refine dk0 14 (v := .bool (lastT X == 18446744073709551615)) h493 rfl rfl hB501 fun a502 h502 => ?_; clear h493
           refine dk0 15 (v := .bool ((((X).getD (stN X - 1) default).ts == 18446744073709551615) == (lastT X == 18446744073709551615))) h502 rfl rfl hB501 fun a503 h503 => ?_; clear h502
           refine dk0 16 (v := .bool ((((X).getD (stN X - 1) default).ts == 18446744073709551615) == (lastT X == 18446744073709551615))) h503 rfl rfl hB501 fun a504 h504 => ?_; clear h503
           refine dk0 17 (v := .bool ((((X).getD (stN X - 1) default).ts == 18446744073709551615) == (lastT X == 18446744073709551615))) h504 rfl rfl hB501 fun a505 h505 => ?_; clear h504
           have hc506 : ((((X).getD (stN X - 1) default).ts == 18446744073709551615) == (lastT X == 18446744073709551615)) = true := by unfold lastT; rw [if_neg (by omega)]; exact beq_self_eq_true _
           rw [hc506] at h505; clear hc506
           refine d1 18 h505 rfl rfl (op_call (args := #[]) (R := fun res xw => res = .bool true ∧ Below w494.heap.size w494 xw) rfl rfl rfl (by kernel_rfl) (by kernel_rfl) (Try.call51 _ _) (awake19 w494) (by rintro e x ⟨rfl, h⟩; exact ⟨_, rfl, rfl, h⟩)) ?_ ?_; clear h505
           ·
            rintro _ w508 ⟨rfl, hb509⟩
            have hz510 := hb509.size
            have hO512 := RObj.gr hO497 (below_grown hb498) (fun k e => by cases e)
            have ho511 := RObj.ofS hO512
            have hB513 := hb_call hB501 hb509
            exact hB513
           rintro _ w508 a507 ⟨rfl, hb509⟩ h507
           have hz510 := hb509.size
           have hO512 := RObj.gr hO497 (below_grown hb498) (fun k e => by cases e)
           have ho511 := RObj.ofS hO512
           have hB513 := hb_call hB501 hb509
           refine dk0 19 (v := .bool true) h507 rfl rfl hB513 fun a514 h514 => ?_; clear h507
           refine dk0 20 (v := .bool true) h514 rfl rfl hB513 fun a515 h515 => ?_; clear h514
           refine dr_done (by kernel_rfl) ?_
           refine co_then ?_
           refine wp_ret ?_
           refine co_ret1 h515 rfl rfl ?_
           exact ⟨rfl, hB513⟩
         ·
          refine dr_opVal (i := 12) (v := u) h454 rfl rfl rfl rfl (by kernel_rfl) rfl (rn_load1 rfl rfl Try.isAgg39 ((RObj.lg hO446).cell rfl)) hB440 (fun a516 h516 => ?_); clear h454
          refine dr_many [6] (by kernel_rfl) (by simp) ⟨?_, trivial⟩
          ·
           refine dr_opVal (i := 6) (v := u) h516 rfl rfl rfl rfl (by kernel_rfl) rfl (rn_load1 rfl rfl Try.isAgg39 ((RObj.lg hO446).cell rfl)) hB440 (fun a517 h517 => ?_); clear h516
           refine d1 8 h517 rfl rfl (op_call (args := #[u, .int .i64 ((stN X : Nat) : Int)]) (R := fun res xw => res = .bool (((X).getD (stN X - 1) default).ts == 18446744073709551615) ∧ Below w435.heap.size w435 xw) rfl rfl rfl (by kernel_rfl) (by kernel_rfl) (Try.call56 _ _) (ended_any u X (stN X) w435 (RObj.sl hO446) (RObj.got hO446) ⟨by omega, by have := stN_le X; omega⟩) (by rintro e x ⟨rfl, h⟩; exact ⟨_, rfl, rfl, h⟩)) ?_ ?_; clear h517
           ·
            rintro _ w519 ⟨rfl, hb520⟩
            have hz521 := hb520.size
            have ho522 := RObj.ofS hO446
            have hB523 := hb_call hB440 hb520
            exact hB523
           rintro _ w519 a518 ⟨rfl, hb520⟩ h518
           have hz521 := hb520.size
           have ho522 := RObj.ofS hO446
           have hB523 := hb_call hB440 hb520
           have hr526 := row_kept_new hr426 hg436
           have hr527 := row_kept_new hr526 (below_grown hb520)
           have hO528 := RObj.gr hO446 (below_grown hb520) (fun k e => by cases e)
           refine d1 13 h518 rfl rfl (op_call (args := #[u]) (R := fun res xw => res = .int .u64 (lastT X) ∧ Below w519.heap.size w519 xw) rfl rfl rfl (by kernel_rfl) (by kernel_rfl) (Try.call55 _ _) (ritemLast_any u X w519 (RObj.sl hO528) (RObj.got hO528)) (by rintro e x ⟨rfl, h⟩; exact ⟨_, rfl, rfl, h⟩)) ?_ ?_; clear h518
           ·
            rintro _ w525 ⟨rfl, hb529⟩
            have hz530 := hb529.size
            have ho531 := RObj.ofS hO528
            have hB532 := hb_call hB523 hb529
            exact hB532
           rintro _ w525 a524 ⟨rfl, hb529⟩ h524
           have hz530 := hb529.size
           have ho531 := RObj.ofS hO528
           have hB532 := hb_call hB523 hb529
           refine dk0 14 (v := .bool (lastT X == 18446744073709551615)) h524 rfl rfl hB532 fun a533 h533 => ?_; clear h524
           refine dk0 15 (v := .bool ((((X).getD (stN X - 1) default).ts == 18446744073709551615) == (lastT X == 18446744073709551615))) h533 rfl rfl hB532 fun a534 h534 => ?_; clear h533
           refine dk0 16 (v := .bool ((((X).getD (stN X - 1) default).ts == 18446744073709551615) == (lastT X == 18446744073709551615))) h534 rfl rfl hB532 fun a535 h535 => ?_; clear h534
           refine dk0 17 (v := .bool ((((X).getD (stN X - 1) default).ts == 18446744073709551615) == (lastT X == 18446744073709551615))) h535 rfl rfl hB532 fun a536 h536 => ?_; clear h535
           have hc537 : ((((X).getD (stN X - 1) default).ts == 18446744073709551615) == (lastT X == 18446744073709551615)) = true := by unfold lastT; rw [if_neg (by omega)]; exact beq_self_eq_true _
           rw [hc537] at h536; clear hc537
           refine d1 18 h536 rfl rfl (op_call (args := #[]) (R := fun res xw => res = .bool true ∧ Below w525.heap.size w525 xw) rfl rfl rfl (by kernel_rfl) (by kernel_rfl) (Try.call51 _ _) (awake19 w525) (by rintro e x ⟨rfl, h⟩; exact ⟨_, rfl, rfl, h⟩)) ?_ ?_; clear h536
           ·
            rintro _ w539 ⟨rfl, hb540⟩
            have hz541 := hb540.size
            have hO543 := RObj.gr hO528 (below_grown hb529) (fun k e => by cases e)
            have ho542 := RObj.ofS hO543
            have hB544 := hb_call hB532 hb540
            exact hB544
           rintro _ w539 a538 ⟨rfl, hb540⟩ h538
           have hz541 := hb540.size
           have hO543 := RObj.gr hO528 (below_grown hb529) (fun k e => by cases e)
           have ho542 := RObj.ofS hO543
           have hB544 := hb_call hB532 hb540
           refine dk0 19 (v := .bool true) h538 rfl rfl hB544 fun a545 h545 => ?_; clear h538
           refine dk0 20 (v := .bool true) h545 rfl rfl hB544 fun a546 h546 => ?_; clear h545
           refine dr_done (by kernel_rfl) ?_
           refine co_then ?_
           refine wp_ret ?_
           refine co_ret1 h546 rfl rfl ?_
           exact ⟨rfl, hB544⟩
        ·
         rw [hc444] at h443
         have hp547 : ((stN X : Nat) : Int) = 0 := by first | simpa using hc444 | simpa [and_assoc] using hc444
         clear hc444
         refine dsk 3 h443 rfl rfl hB440 fun a548 h548 => ?_; clear h443
         refine dsk 4 h548 rfl rfl hB440 fun a549 h549 => ?_; clear h548
         refine dsk 5 h549 rfl rfl hB440 fun a550 h550 => ?_; clear h549
         refine dsk 6 h550 rfl rfl hB440 fun a551 h551 => ?_; clear h550
         refine dsk 7 h551 rfl rfl hB440 fun a552 h552 => ?_; clear h551
         refine dsk 8 h552 rfl rfl hB440 fun a553 h553 => ?_; clear h552
         refine dsk 9 h553 rfl rfl hB440 fun a554 h554 => ?_; clear h553
         refine dsk 10 h554 rfl rfl hB440 fun a555 h555 => ?_; clear h554
         refine dsk 11 h555 rfl rfl hB440 fun a556 h556 => ?_; clear h555
         refine dsk 12 h556 rfl rfl hB440 fun a557 h557 => ?_; clear h556
         refine dsk 13 h557 rfl rfl hB440 fun a558 h558 => ?_; clear h557
         refine dsk 14 h558 rfl rfl hB440 fun a559 h559 => ?_; clear h558
         refine dsk 15 h559 rfl rfl hB440 fun a560 h560 => ?_; clear h559
         refine dk0 16 (v := .bool true) h560 rfl rfl hB440 fun a561 h561 => ?_; clear h560
         refine dk0 17 (v := .bool true) h561 rfl rfl hB440 fun a562 h562 => ?_; clear h561
         refine d1 18 h562 rfl rfl (op_call (args := #[]) (R := fun res xw => res = .bool true ∧ Below w435.heap.size w435 xw) rfl rfl rfl (by kernel_rfl) (by kernel_rfl) (Try.call51 _ _) (awake19 w435) (by rintro e x ⟨rfl, h⟩; exact ⟨_, rfl, rfl, h⟩)) ?_ ?_; clear h562
         ·
          rintro _ w564 ⟨rfl, hb565⟩
          have hz566 := hb565.size
          have ho567 := RObj.ofS hO446
          have hB568 := hb_call hB440 hb565
          exact hB568
         rintro _ w564 a563 ⟨rfl, hb565⟩ h563
         have hz566 := hb565.size
         have ho567 := RObj.ofS hO446
         have hB568 := hb_call hB440 hb565
         refine dk0 19 (v := .bool true) h563 rfl rfl hB568 fun a569 h569 => ?_; clear h563
         refine dk0 20 (v := .bool true) h569 rfl rfl hB568 fun a570 h570 => ?_; clear h569
         refine dr_done (by kernel_rfl) ?_
         refine co_then ?_
         refine wp_ret ?_
         refine co_ret1 h570 rfl rfl ?_
         exact ⟨rfl, hB568⟩
       ·
        rw [hc424] at h423
        have hp571 : ((stN X : Nat) : Int) < n := of_decide_eq_true hc424
        clear hc424
        refine pk0 (v := pt N38 0) h423 rfl fun a572 h572 => ?_; clear h423
        refine pk0 (v := pt N38 0) h572 rfl fun a573 h573 => ?_; clear h572
        refine pk0 (v := pt N38 0) h573 rfl fun a574 h574 => ?_; clear h573
        have hO575 := RObj.gr hO102 (below_grown hb107) (fun k e => by cases e)
        refine pk (v := u) h574 rfl (rn_load1 rfl rfl Try.isAgg39 ((RObj.lg hO575).cell rfl)) fun a576 h576 => ?_; clear h574
        refine pw h576 rfl (op_call (args := #[u]) (R := fun res xw => res = .int .u64 (lastT X) ∧ Below w105.heap.size w105 xw) rfl rfl rfl (by kernel_rfl) (by kernel_rfl) (Try.call55 _ _) (ritemLast_any u X w105 (RObj.sl hO575) (RObj.got hO575)) (by rintro e x ⟨rfl, h⟩; exact ⟨_, rfl, rfl, h⟩)) ?_; clear h576
        rintro _ w578 a577 ⟨rfl, hb579⟩ h577
        have hz580 := hb579.size
        have ho581 := RObj.ofS hO575
        refine pk0 (v := .bool (lastT X != 18446744073709551615)) h577 rfl fun a582 h582 => ?_; clear h577
        refine pk0 (v := .bool (lastT X != 18446744073709551615)) h582 rfl fun a583 h583 => ?_; clear h582
        refine pl_nil ?_
        refine co_then ?_
        have hc584 : (lastT X != 18446744073709551615) = false := by first | (simp; done) | (simp; omega) | exact beq_false_of_ne (by omega) | exact beq_iff_eq.2 (by omega)
        rw [hc584] at h583; clear hc584
        refine co_false h583 rfl ?_
        refine wp_skip ?_
        refine co_then ?_
        refine co_seq ?_
        refine dr_gen (fun x => Below w.heap.size w x) (by kernel_rfl) (fun w585 hg586 => ?_) (fun w585 hg586 => ?_)
        ·
         have hz587 := hg586.size
         have hB588 := hb_call hB114 hb579
         have hB589 := hb_new hB588 hg586
         exact hB589
        have hz590 := hg586.size
        have hB591 := hb_call hB114 hb579
        have hB592 := hb_new hB591 hg586
        refine dk0 0 (v := .int .i64 ((stN X : Nat) : Int)) h583 rfl rfl hB592 fun a593 h593 => ?_; clear h583
        refine dk0 1 (v := .bool (((stN X : Nat) : Int) == 0)) h593 rfl rfl hB592 fun a594 h594 => ?_; clear h593
        refine dk0 2 (v := .bool (((stN X : Nat) : Int) == 0)) h594 rfl rfl hB592 fun a595 h595 => ?_; clear h594
        have hO597 := RObj.gr hO575 (below_grown hb579) (fun k e => by cases e)
        have hO598 := RObj.gr hO597 hg586 (fun k e => by cases e)
        have hr599 := row_kept_new hr426 (below_grown hb579)
        have hr600 := row_kept_new hr599 hg586
        cases hc596 : (((stN X : Nat) : Int) == 0)
        ·
         rw [hc596] at h595
         have hp601 : ¬ (((stN X : Nat) : Int) = 0) := by first | simpa using hc596 | simpa [and_assoc] using hc596
         clear hc596
         refine dk0 3 (v := pt N38 0) h595 rfl rfl hB592 fun a602 h602 => ?_; clear h595
         refine dk0 4 (v := pt N38 0) h602 rfl rfl hB592 fun a603 h603 => ?_; clear h602
         refine dk0 5 (v := pt N38 0) h603 rfl rfl hB592 fun a604 h604 => ?_; clear h603
         refine dk0 7 (v := .int .i64 ((stN X : Nat) : Int)) h604 rfl rfl hB592 fun a605 h605 => ?_; clear h604
         refine dk0 9 (v := pt N38 0) h605 rfl rfl hB592 fun a606 h606 => ?_; clear h605
         refine dk0 10 (v := pt N38 0) h606 rfl rfl hB592 fun a607 h607 => ?_; clear h606
         refine dk0 11 (v := pt N38 0) h607 rfl rfl hB592 fun a608 h608 => ?_; clear h607
         refine dr_many [6, 12] (by kernel_rfl) (by simp) ⟨?_, ?_, trivial⟩
         ·
          refine dr_opVal (i := 6) (v := u) h608 rfl rfl rfl rfl (by kernel_rfl) rfl (rn_load1 rfl rfl Try.isAgg39 ((RObj.lg hO598).cell rfl)) hB592 (fun a609 h609 => ?_); clear h608
          refine dr_many [8, 12] (by kernel_rfl) (by simp) ⟨?_, ?_, trivial⟩
          ·
           refine dr_op (i := 8) h609 rfl rfl rfl rfl (op_call (args := #[u, .int .i64 ((stN X : Nat) : Int)]) (R := fun res xw => res = .bool (((X).getD (stN X - 1) default).ts == 18446744073709551615) ∧ Below w585.heap.size w585 xw) rfl rfl rfl (by kernel_rfl) (by kernel_rfl) (Try.call56 _ _) (ended_any u X (stN X) w585 (RObj.sl hO598) (RObj.got hO598) ⟨by omega, by have := stN_le X; omega⟩) (by rintro e x ⟨rfl, h⟩; exact ⟨_, rfl, rfl, h⟩)) ?_ ?_; clear h609
           ·
            rintro _ w611 ⟨rfl, hb612⟩
            have hz613 := hb612.size
            have ho614 := RObj.ofS hO598
            have hB615 := hb_call hB592 hb612
            exact hB615
           rintro _ w611 a610 ⟨rfl, hb612⟩ h610
           have hz613 := hb612.size
           have ho614 := RObj.ofS hO598
           have hB615 := hb_call hB592 hb612
           refine dr_many [12] (by kernel_rfl) (by simp) ⟨?_, trivial⟩
           ·
            have hO616 := RObj.gr hO598 (below_grown hb612) (fun k e => by cases e)
            refine dr_opVal (i := 12) (v := u) h610 rfl rfl rfl rfl (by kernel_rfl) rfl (rn_load1 rfl rfl Try.isAgg39 ((RObj.lg hO616).cell rfl)) hB615 (fun a617 h617 => ?_); clear h610
            refine d1 13 h617 rfl rfl (op_call (args := #[u]) (R := fun res xw => res = .int .u64 (lastT X) ∧ Below w611.heap.size w611 xw) rfl rfl rfl (by kernel_rfl) (by kernel_rfl) (Try.call55 _ _) (ritemLast_any u X w611 (RObj.sl hO616) (RObj.got hO616)) (by rintro e x ⟨rfl, h⟩; exact ⟨_, rfl, rfl, h⟩)) ?_ ?_; clear h617
            ·
             rintro _ w619 ⟨rfl, hb620⟩
             have hz621 := hb620.size
             have ho622 := RObj.ofS hO616
             have hB623 := hb_call hB615 hb620
             exact hB623
            rintro _ w619 a618 ⟨rfl, hb620⟩ h618
            have hz621 := hb620.size
            have ho622 := RObj.ofS hO616
            have hB623 := hb_call hB615 hb620
            refine dk0 14 (v := .bool (lastT X == 18446744073709551615)) h618 rfl rfl hB623 fun a624 h624 => ?_; clear h618
            refine dk0 15 (v := .bool ((((X).getD (stN X - 1) default).ts == 18446744073709551615) == (lastT X == 18446744073709551615))) h624 rfl rfl hB623 fun a625 h625 => ?_; clear h624
            refine dk0 16 (v := .bool ((((X).getD (stN X - 1) default).ts == 18446744073709551615) == (lastT X == 18446744073709551615))) h625 rfl rfl hB623 fun a626 h626 => ?_; clear h625
            refine dk0 17 (v := .bool ((((X).getD (stN X - 1) default).ts == 18446744073709551615) == (lastT X == 18446744073709551615))) h626 rfl rfl hB623 fun a627 h627 => ?_; clear h626
            have hc628 : ((((X).getD (stN X - 1) default).ts == 18446744073709551615) == (lastT X == 18446744073709551615)) = true := by unfold lastT; rw [if_neg (by omega)]; exact beq_self_eq_true _
            rw [hc628] at h627; clear hc628
            have hr631 := row_kept_new hr600 (below_grown hb612)
            have hr632 := row_kept_new hr631 (below_grown hb620)
            refine d1 18 h627 rfl rfl (op_call (args := #[]) (R := fun res xw => res = .bool true ∧ Below w619.heap.size w619 xw) rfl rfl rfl (by kernel_rfl) (by kernel_rfl) (Try.call51 _ _) (awake19 w619) (by rintro e x ⟨rfl, h⟩; exact ⟨_, rfl, rfl, h⟩)) ?_ ?_; clear h627
            ·
             rintro _ w630 ⟨rfl, hb633⟩
             have hz634 := hb633.size
             have hO636 := RObj.gr hO616 (below_grown hb620) (fun k e => by cases e)
             have ho635 := RObj.ofS hO636
             have hB637 := hb_call hB623 hb633
             exact hB637
            rintro _ w630 a629 ⟨rfl, hb633⟩ h629
            have hz634 := hb633.size
            have hO636 := RObj.gr hO616 (below_grown hb620) (fun k e => by cases e)
            have ho635 := RObj.ofS hO636
            have hB637 := hb_call hB623 hb633
            refine dk0 19 (v := .bool true) h629 rfl rfl hB637 fun a638 h638 => ?_; clear h629
            refine dk0 20 (v := .bool true) h638 rfl rfl hB637 fun a639 h639 => ?_; clear h638
            refine dr_done (by kernel_rfl) ?_
            refine co_then ?_
            refine wp_ret ?_
            refine co_ret1 h639 rfl rfl ?_
            exact ⟨rfl, hB637⟩
          ·
           refine dr_opVal (i := 12) (v := u) h609 rfl rfl rfl rfl (by kernel_rfl) rfl (rn_load1 rfl rfl Try.isAgg39 ((RObj.lg hO598).cell rfl)) hB592 (fun a640 h640 => ?_); clear h609
           refine d1 8 h640 rfl rfl (op_call (args := #[u, .int .i64 ((stN X : Nat) : Int)]) (R := fun res xw => res = .bool (((X).getD (stN X - 1) default).ts == 18446744073709551615) ∧ Below w585.heap.size w585 xw) rfl rfl rfl (by kernel_rfl) (by kernel_rfl) (Try.call56 _ _) (ended_any u X (stN X) w585 (RObj.sl hO598) (RObj.got hO598) ⟨by omega, by have := stN_le X; omega⟩) (by rintro e x ⟨rfl, h⟩; exact ⟨_, rfl, rfl, h⟩)) ?_ ?_; clear h640
           ·
            rintro _ w642 ⟨rfl, hb643⟩
            have hz644 := hb643.size
            have ho645 := RObj.ofS hO598
            have hB646 := hb_call hB592 hb643
            exact hB646
           rintro _ w642 a641 ⟨rfl, hb643⟩ h641
           have hz644 := hb643.size
           have ho645 := RObj.ofS hO598
           have hB646 := hb_call hB592 hb643
           have hO649 := RObj.gr hO598 (below_grown hb643) (fun k e => by cases e)
           refine d1 13 h641 rfl rfl (op_call (args := #[u]) (R := fun res xw => res = .int .u64 (lastT X) ∧ Below w642.heap.size w642 xw) rfl rfl rfl (by kernel_rfl) (by kernel_rfl) (Try.call55 _ _) (ritemLast_any u X w642 (RObj.sl hO649) (RObj.got hO649)) (by rintro e x ⟨rfl, h⟩; exact ⟨_, rfl, rfl, h⟩)) ?_ ?_; clear h641
           ·
            rintro _ w648 ⟨rfl, hb650⟩
            have hz651 := hb650.size
            have ho652 := RObj.ofS hO649
            have hB653 := hb_call hB646 hb650
            exact hB653
           rintro _ w648 a647 ⟨rfl, hb650⟩ h647
           have hz651 := hb650.size
           have ho652 := RObj.ofS hO649
           have hB653 := hb_call hB646 hb650
           refine dk0 14 (v := .bool (lastT X == 18446744073709551615)) h647 rfl rfl hB653 fun a654 h654 => ?_; clear h647
           refine dk0 15 (v := .bool ((((X).getD (stN X - 1) default).ts == 18446744073709551615) == (lastT X == 18446744073709551615))) h654 rfl rfl hB653 fun a655 h655 => ?_; clear h654
           refine dk0 16 (v := .bool ((((X).getD (stN X - 1) default).ts == 18446744073709551615) == (lastT X == 18446744073709551615))) h655 rfl rfl hB653 fun a656 h656 => ?_; clear h655
           refine dk0 17 (v := .bool ((((X).getD (stN X - 1) default).ts == 18446744073709551615) == (lastT X == 18446744073709551615))) h656 rfl rfl hB653 fun a657 h657 => ?_; clear h656
           have hc658 : ((((X).getD (stN X - 1) default).ts == 18446744073709551615) == (lastT X == 18446744073709551615)) = true := by unfold lastT; rw [if_neg (by omega)]; exact beq_self_eq_true _
           rw [hc658] at h657; clear hc658
           have hr661 := row_kept_new hr600 (below_grown hb643)
           have hr662 := row_kept_new hr661 (below_grown hb650)
           refine d1 18 h657 rfl rfl (op_call (args := #[]) (R := fun res xw => res = .bool true ∧ Below w648.heap.size w648 xw) rfl rfl rfl (by kernel_rfl) (by kernel_rfl) (Try.call51 _ _) (awake19 w648) (by rintro e x ⟨rfl, h⟩; exact ⟨_, rfl, rfl, h⟩)) ?_ ?_; clear h657
           ·
            rintro _ w660 ⟨rfl, hb663⟩
            have hz664 := hb663.size
            have hO666 := RObj.gr hO649 (below_grown hb650) (fun k e => by cases e)
            have ho665 := RObj.ofS hO666
            have hB667 := hb_call hB653 hb663
            exact hB667
           rintro _ w660 a659 ⟨rfl, hb663⟩ h659
           have hz664 := hb663.size
           have hO666 := RObj.gr hO649 (below_grown hb650) (fun k e => by cases e)
           have ho665 := RObj.ofS hO666
           have hB667 := hb_call hB653 hb663
           refine dk0 19 (v := .bool true) h659 rfl rfl hB667 fun a668 h668 => ?_; clear h659
           refine dk0 20 (v := .bool true) h668 rfl rfl hB667 fun a669 h669 => ?_; clear h668
           refine dr_done (by kernel_rfl) ?_
           refine co_then ?_
           refine wp_ret ?_
           refine co_ret1 h669 rfl rfl ?_
           exact ⟨rfl, hB667⟩
         ·
          refine dr_opVal (i := 12) (v := u) h608 rfl rfl rfl rfl (by kernel_rfl) rfl (rn_load1 rfl rfl Try.isAgg39 ((RObj.lg hO598).cell rfl)) hB592 (fun a670 h670 => ?_); clear h608
          refine dr_many [6] (by kernel_rfl) (by simp) ⟨?_, trivial⟩
          ·
           refine dr_opVal (i := 6) (v := u) h670 rfl rfl rfl rfl (by kernel_rfl) rfl (rn_load1 rfl rfl Try.isAgg39 ((RObj.lg hO598).cell rfl)) hB592 (fun a671 h671 => ?_); clear h670
           refine d1 8 h671 rfl rfl (op_call (args := #[u, .int .i64 ((stN X : Nat) : Int)]) (R := fun res xw => res = .bool (((X).getD (stN X - 1) default).ts == 18446744073709551615) ∧ Below w585.heap.size w585 xw) rfl rfl rfl (by kernel_rfl) (by kernel_rfl) (Try.call56 _ _) (ended_any u X (stN X) w585 (RObj.sl hO598) (RObj.got hO598) ⟨by omega, by have := stN_le X; omega⟩) (by rintro e x ⟨rfl, h⟩; exact ⟨_, rfl, rfl, h⟩)) ?_ ?_; clear h671
           ·
            rintro _ w673 ⟨rfl, hb674⟩
            have hz675 := hb674.size
            have ho676 := RObj.ofS hO598
            have hB677 := hb_call hB592 hb674
            exact hB677
           rintro _ w673 a672 ⟨rfl, hb674⟩ h672
           have hz675 := hb674.size
           have ho676 := RObj.ofS hO598
           have hB677 := hb_call hB592 hb674
           have hO680 := RObj.gr hO598 (below_grown hb674) (fun k e => by cases e)
           refine d1 13 h672 rfl rfl (op_call (args := #[u]) (R := fun res xw => res = .int .u64 (lastT X) ∧ Below w673.heap.size w673 xw) rfl rfl rfl (by kernel_rfl) (by kernel_rfl) (Try.call55 _ _) (ritemLast_any u X w673 (RObj.sl hO680) (RObj.got hO680)) (by rintro e x ⟨rfl, h⟩; exact ⟨_, rfl, rfl, h⟩)) ?_ ?_; clear h672
           ·
            rintro _ w679 ⟨rfl, hb681⟩
            have hz682 := hb681.size
            have ho683 := RObj.ofS hO680
            have hB684 := hb_call hB677 hb681
            exact hB684
           rintro _ w679 a678 ⟨rfl, hb681⟩ h678
           have hz682 := hb681.size
           have ho683 := RObj.ofS hO680
           have hB684 := hb_call hB677 hb681
           refine dk0 14 (v := .bool (lastT X == 18446744073709551615)) h678 rfl rfl hB684 fun a685 h685 => ?_; clear h678
           refine dk0 15 (v := .bool ((((X).getD (stN X - 1) default).ts == 18446744073709551615) == (lastT X == 18446744073709551615))) h685 rfl rfl hB684 fun a686 h686 => ?_; clear h685
           refine dk0 16 (v := .bool ((((X).getD (stN X - 1) default).ts == 18446744073709551615) == (lastT X == 18446744073709551615))) h686 rfl rfl hB684 fun a687 h687 => ?_; clear h686
           refine dk0 17 (v := .bool ((((X).getD (stN X - 1) default).ts == 18446744073709551615) == (lastT X == 18446744073709551615))) h687 rfl rfl hB684 fun a688 h688 => ?_; clear h687
           have hc689 : ((((X).getD (stN X - 1) default).ts == 18446744073709551615) == (lastT X == 18446744073709551615)) = true := by unfold lastT; rw [if_neg (by omega)]; exact beq_self_eq_true _
           rw [hc689] at h688; clear hc689
           have hr692 := row_kept_new hr600 (below_grown hb674)
           have hr693 := row_kept_new hr692 (below_grown hb681)
           refine d1 18 h688 rfl rfl (op_call (args := #[]) (R := fun res xw => res = .bool true ∧ Below w679.heap.size w679 xw) rfl rfl rfl (by kernel_rfl) (by kernel_rfl) (Try.call51 _ _) (awake19 w679) (by rintro e x ⟨rfl, h⟩; exact ⟨_, rfl, rfl, h⟩)) ?_ ?_; clear h688
           ·
            rintro _ w691 ⟨rfl, hb694⟩
            have hz695 := hb694.size
            have hO697 := RObj.gr hO680 (below_grown hb681) (fun k e => by cases e)
            have ho696 := RObj.ofS hO697
            have hB698 := hb_call hB684 hb694
            exact hB698
           rintro _ w691 a690 ⟨rfl, hb694⟩ h690
           have hz695 := hb694.size
           have hO697 := RObj.gr hO680 (below_grown hb681) (fun k e => by cases e)
           have ho696 := RObj.ofS hO697
           have hB698 := hb_call hB684 hb694
           refine dk0 19 (v := .bool true) h690 rfl rfl hB698 fun a699 h699 => ?_; clear h690
           refine dk0 20 (v := .bool true) h699 rfl rfl hB698 fun a700 h700 => ?_; clear h699
           refine dr_done (by kernel_rfl) ?_
           refine co_then ?_
           refine wp_ret ?_
           refine co_ret1 h700 rfl rfl ?_
           exact ⟨rfl, hB698⟩
        ·
         rw [hc596] at h595
         have hp701 : ((stN X : Nat) : Int) = 0 := by first | simpa using hc596 | simpa [and_assoc] using hc596
         clear hc596
         refine dsk 3 h595 rfl rfl hB592 fun a702 h702 => ?_; clear h595
         refine dsk 4 h702 rfl rfl hB592 fun a703 h703 => ?_; clear h702
         refine dsk 5 h703 rfl rfl hB592 fun a704 h704 => ?_; clear h703
         refine dsk 6 h704 rfl rfl hB592 fun a705 h705 => ?_; clear h704
         refine dsk 7 h705 rfl rfl hB592 fun a706 h706 => ?_; clear h705
         refine dsk 8 h706 rfl rfl hB592 fun a707 h707 => ?_; clear h706
         refine dsk 9 h707 rfl rfl hB592 fun a708 h708 => ?_; clear h707
         refine dsk 10 h708 rfl rfl hB592 fun a709 h709 => ?_; clear h708
         refine dsk 11 h709 rfl rfl hB592 fun a710 h710 => ?_; clear h709
         refine dsk 12 h710 rfl rfl hB592 fun a711 h711 => ?_; clear h710
         refine dsk 13 h711 rfl rfl hB592 fun a712 h712 => ?_; clear h711
         refine dsk 14 h712 rfl rfl hB592 fun a713 h713 => ?_; clear h712
         refine dsk 15 h713 rfl rfl hB592 fun a714 h714 => ?_; clear h713
         refine dk0 16 (v := .bool true) h714 rfl rfl hB592 fun a715 h715 => ?_; clear h714
         refine dk0 17 (v := .bool true) h715 rfl rfl hB592 fun a716 h716 => ?_; clear h715
         refine d1 18 h716 rfl rfl (op_call (args := #[]) (R := fun res xw => res = .bool true ∧ Below w585.heap.size w585 xw) rfl rfl rfl (by kernel_rfl) (by kernel_rfl) (Try.call51 _ _) (awake19 w585) (by rintro e x ⟨rfl, h⟩; exact ⟨_, rfl, rfl, h⟩)) ?_ ?_; clear h716
         ·
          rintro _ w718 ⟨rfl, hb719⟩
          have hz720 := hb719.size
          have ho721 := RObj.ofS hO598
          have hB722 := hb_call hB592 hb719
          exact hB722
         rintro _ w718 a717 ⟨rfl, hb719⟩ h717
         have hz720 := hb719.size
         have ho721 := RObj.ofS hO598
         have hB722 := hb_call hB592 hb719
         refine dk0 19 (v := .bool true) h717 rfl rfl hB722 fun a723 h723 => ?_; clear h717
         refine dk0 20 (v := .bool true) h723 rfl rfl hB722 fun a724 h724 => ?_; clear h723
         refine dr_done (by kernel_rfl) ?_
         refine co_then ?_
         refine wp_ret ?_
         refine co_ret1 h724 rfl rfl ?_
         exact ⟨rfl, hB722⟩
     ·
      rw [hc86] at h85
      have hp725 : ((i : Nat) : Int) < ((ys57.length : Nat) : Int) := of_decide_eq_true hc86
      clear hc86
      refine co_true h85 rfl ?_
      refine wp_skip ?_
      refine co_then ?_
      refine co_seq ?_
      refine wp_block ?_
      refine co_seq ?_
      refine dr_gen (fun x => Below w.heap.size w x ∧ x.ownsRow w37.heap.size 93 18 v56 ys57.length (ys57.flatMap noteE)) (by kernel_rfl) (fun w726 hg727 => ?_) (fun w726 hg727 => ?_)
      ·
       have hz728 := hg727.size
       have hB729 := hb_new hB78 hg727
       have hr730 := row_kept_new hf77 hg727
       exact ⟨hB729, hr730⟩
      have hz731 := hg727.size
      have hB732 := hb_new hB78 hg727
      have hr733 := row_kept_new hf77 hg727
      refine dk0 0 (v := v56) h85 rfl rfl ⟨hB732, hr733⟩ fun a734 h734 => ?_; clear h85
      refine dk0 1 (v := .int .i64 ((i : Nat) : Int)) h734 rfl rfl ⟨hB732, hr733⟩ fun a735 h735 => ?_; clear h734
      obtain ⟨y736, hy736⟩ : ∃ z, ys57[i]? = some z := ⟨_, List.getElem?_eq_getElem (by first | omega | (simp; done) | (simp; omega))⟩
      have hat := hSt.at hA58 hy736 hf.1 (by unfold topT; omega) hlst
      have hat1 := hat.1; have hat2 := hat.2.1
      refine dk 2 (v := pt (blkOf v56) (offOf v56 + i * 18)) h735 rfl rfl ⟨hB732, hr733⟩ (fun x hx => (rn_index rfl rfl rfl Try.underlying72 Try.sizeOf93 (row_sl hx.2 noteE_len) (by omega) (by first | omega | (simp; done) | (simp; omega)))) fun a737 h737 => ?_; clear h735
      refine dk0 3 (v := pt (blkOf v56) (offOf v56 + i * 18 + 2)) h737 rfl rfl ⟨hB732, hr733⟩ fun a738 h738 => ?_; clear h737
      refine dk 4 (v := .int .u64 y736.2) h738 rfl rfl ⟨hB732, hr733⟩ (fun x hx => (rn_load1 rfl rfl Try.isAgg45 ((sl_at (row_sl hx.2 noteE_len) hy736) 2 _ rfl))) fun a739 h739 => ?_; clear h738
      refine dk0 5 (v := .int .u64 f) h739 rfl rfl ⟨hB732, hr733⟩ fun a740 h740 => ?_; clear h739
      refine dk0 6 (v := .bool (decide (y736.2 < f))) h740 rfl rfl ⟨hB732, hr733⟩ fun a741 h741 => ?_; clear h740
      refine dk0 7 (v := .bool (decide (y736.2 < f))) h741 rfl rfl ⟨hB732, hr733⟩ fun a742 h742 => ?_; clear h741
      have hc743 : (decide (y736.2 < f)) = false := decide_eq_false (by omega)
      rw [hc743] at h742; clear hc743
      refine dk0 8 (v := pt N38 0) h742 rfl rfl ⟨hB732, hr733⟩ fun a744 h744 => ?_; clear h742
      refine dk0 9 (v := v56) h744 rfl rfl ⟨hB732, hr733⟩ fun a745 h745 => ?_; clear h744
      refine dk0 10 (v := .int .i64 ((i : Nat) : Int)) h745 rfl rfl ⟨hB732, hr733⟩ fun a746 h746 => ?_; clear h745
      refine dk 11 (v := pt (blkOf v56) (offOf v56 + i * 18)) h746 rfl rfl ⟨hB732, hr733⟩ (fun x hx => (rn_index rfl rfl rfl Try.underlying72 Try.sizeOf93 (row_sl hx.2 noteE_len) (by omega) (by first | omega | (simp; done) | (simp; omega)))) fun a747 h747 => ?_; clear h746
      refine dk0 12 (v := pt (blkOf v56) (offOf v56 + i * 18 + 1)) h747 rfl rfl ⟨hB732, hr733⟩ fun a748 h748 => ?_; clear h747
      refine dk 13 (v := .int .i64 y736.1) h748 rfl rfl ⟨hB732, hr733⟩ (fun x hx => (rn_load1 rfl rfl Try.isAgg3 ((sl_at (row_sl hx.2 noteE_len) hy736) 1 _ rfl))) fun a749 h749 => ?_; clear h748
      refine dk0 14 (v := v56) h749 rfl rfl ⟨hB732, hr733⟩ fun a750 h750 => ?_; clear h749
      refine dk0 15 (v := .int .i64 ((i : Nat) : Int)) h750 rfl rfl ⟨hB732, hr733⟩ fun a751 h751 => ?_; clear h750
      refine dk 16 (v := pt (blkOf v56) (offOf v56 + i * 18)) h751 rfl rfl ⟨hB732, hr733⟩ (fun x hx => (rn_index rfl rfl rfl Try.underlying72 Try.sizeOf93 (row_sl hx.2 noteE_len) (by omega) (by first | omega | (simp; done) | (simp; omega)))) fun a752 h752 => ?_; clear h751
      refine dk0 17 (v := pt (blkOf v56) (offOf v56 + i * 18 + 2)) h752 rfl rfl ⟨hB732, hr733⟩ fun a753 h753 => ?_; clear h752
      refine dk 18 (v := .int .u64 y736.2) h753 rfl rfl ⟨hB732, hr733⟩ (fun x hx => (rn_load1 rfl rfl Try.isAgg45 ((sl_at (row_sl hx.2 noteE_len) hy736) 2 _ rfl))) fun a754 h754 => ?_; clear h753
      have hO757 := RObj.gr hf76 hg727 (fun k e => by cases e)
      refine d1 19 h754 rfl rfl (op_call (args := #[pt N38 0, .int .i64 y736.1, .int .u64 y736.2]) (R := fun res xw => ∃ u' : Value, ∃ X' : List EntT, ∃ S' : Nat → Prop, res = .int .i64 0 ∧ RObj S' xw N38 u' X' ∧ (X'.map e0 = (stL X y736.1 y736.2).map e0) ∧ Grew S S' w726 xw) rfl rfl rfl (by kernel_rfl) (by kernel_rfl) (Try.call54 _ _) (uStamp w726 y736.1 y736.2 hO757 hat.2.1) (by rintro e x ⟨u', X', S', h0, h⟩; rw [hat.2.2.1] at h0; exact ⟨_, h0, u', X', S', rfl, h⟩)) ?_ ?_; clear h754
      ·
       rintro _ w756 ⟨u'758, X'759, S760, rfl, hO761, hq763, hx762⟩
       have hlo765 : ∀ q, S760 q → w.heap.size ≤ q := hx762.lo hlo80 (by omega)
       have hB764 := hbL hB732 hlo80 hx762.but
       have hz766 := hB764.size
       have hz767 := hx762.but.size
       have hr768 := own_butS hr733 hx762.but ho81
       exact ⟨hB764, hr768⟩
      rintro _ w756 a755 ⟨u'758, X'759, S760, rfl, hO761, hq763, hx762⟩ h755
      have hlo765 : ∀ q, S760 q → w.heap.size ≤ q := hx762.lo hlo80 (by omega)
      have hB764 := hbL hB732 hlo80 hx762.but
      have hz766 := hB764.size
      have hz767 := hx762.but.size
      have hr768 := own_butS hr733 hx762.but ho81
      refine dk0 20 (v := .bool ((0 : Int) != 0)) h755 rfl rfl ⟨hB764, hr768⟩ fun a769 h769 => ?_; clear h755
      refine dk0 21 (v := .bool ((0 : Int) != 0)) h769 rfl rfl ⟨hB764, hr768⟩ fun a770 h770 => ?_; clear h769
      refine dr_done (by kernel_rfl) ?_
      refine co_then ?_
      have hc771 : ((0 : Int) != 0) = false := by first | (simp; done) | (simp; omega) | exact beq_false_of_ne (by omega) | exact beq_iff_eq.2 (by omega)
      rw [hc771] at h770; clear hc771
      refine co_false h770 rfl ?_
      refine wp_skip ?_
      refine co_blockN ?_
      refine co_then ?_
      refine co_reg ?_
      refine pk0 (v := .int .i64 ((i : Nat) : Int)) h770 rfl fun a772 h772 => ?_; clear h770
      refine pk (v := .int .i64 ((i + 1 : Nat) : Int)) h772 rfl (rn_arith' rfl rfl rfl rfl rfl rfl (IntWalk.i64_in _ (by omega)) (by omega)) fun a773 h773 => ?_; clear h772
      refine pk0 (v := .int .i64 ((i + 1 : Nat) : Int)) h773 rfl fun a774 h774 => ?_; clear h773
      refine pl_nil ?_
      refine co_then ?_
      refine ⟨(ys57.length - (i + 1)), by omega, ?_⟩
      have hlo9 := hlo765
      have hof9 : ∀ i, v56.ownBlock = some i → ¬ S760 i := (Grew.offR hx762 hr733 ho81)
      have hSt9 := hat.2.2.2 _ hq763
      exact ⟨i + 1, S760, u'758, X'759, h774.sub ⟨rfl, rfl, rfl, rfl, rfl, rfl, trivial⟩, rfl, by omega, by exact hlo9, by exact hof9, by exact hSt9, hO761, hr768, hB764⟩
  ·
   rw [hc19] at h18
   have hp775 : rightI l ≠ 0 := by first | simpa using hc19 | simpa [and_assoc] using hc19
   clear hc19
   refine co_true h18 rfl ?_
   refine co_seq ?_
   refine co_reg ?_
   refine pw h18 rfl (op_call (args := #[]) (R := fun res xw => res = .bool true ∧ Below w14.heap.size w14 xw) rfl rfl rfl (by kernel_rfl) (by kernel_rfl) (Try.call51 _ _) (awake19 w14) (by rintro e x ⟨rfl, h⟩; exact ⟨_, rfl, rfl, h⟩)) ?_; clear h18
   rintro _ w777 a776 ⟨rfl, hb778⟩ h776
   have hz779 := hb778.size
   refine pk0 (v := .bool true) h776 rfl fun a780 h780 => ?_; clear h776
   refine pl_nil ?_
   refine co_then ?_
   refine wp_ret ?_
   refine co_thenR ?_
   refine co_ret1 h780 rfl rfl ?_
   have hB781 := hb_call hB20 hb778
   exact ⟨rfl, hB781⟩
 ·
  rw [hc9] at h8
  have hp782 : muchN l > 80 := of_decide_eq_true hc9
  clear hc9
  refine psk h8 rfl fun a783 h783 => ?_; clear h8
  refine psk h783 rfl fun a784 h784 => ?_; clear h783
  refine psk h784 rfl fun a785 h785 => ?_; clear h784
  refine pk0 (v := .bool true) h785 rfl fun a786 h786 => ?_; clear h785
  refine pl_nil ?_
  refine co_then ?_
  refine co_true h786 rfl ?_
  refine co_seq ?_
  refine co_reg ?_
  refine pw h786 rfl (op_call (args := #[]) (R := fun res xw => res = .bool true ∧ Below w4.heap.size w4 xw) rfl rfl rfl (by kernel_rfl) (by kernel_rfl) (Try.call51 _ _) (awake19 w4) (by rintro e x ⟨rfl, h⟩; exact ⟨_, rfl, rfl, h⟩)) ?_; clear h786
  rintro _ w788 a787 ⟨rfl, hb789⟩ h787
  have hz790 := hb789.size
  refine pk0 (v := .bool true) h787 rfl fun a791 h791 => ?_; clear h787
  refine pl_nil ?_
  refine co_then ?_
  refine wp_ret ?_
  refine co_thenR ?_
  refine co_ret1 h791 rfl rfl ?_
  have hB792 := hb_call hB10 hb789
  exact ⟨rfl, hB792⟩
end Go.Proofs.Ythmnndbpadegnaa
