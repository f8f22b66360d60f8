/- catenalaw17: RlogRight. Conditions: none. -/
import Derived.Test.YthmnndbpadegnaaRlgV
namespace Go.Proofs.Ythmnndbpadegnaa
open Go.RowKit Go.PlainAid
set_option linter.unusedVariables false

set_option maxRecDepth 100000 in
theorem rlogRight_law (v : Value) (l : List RActT) (w : World) (hs : SliceOf ractE 6 w v l) (hok : ∀ z ∈ l, RActOk w z) :
    Calls Try.prog 5 #[v] w fun e w' => e = .returned (.bool true) ∧ Below w.heap.size w w' := by
 have hB0 := Below.refl w.heap.size w
 have hl_hs := sl_len hs
 by_cases hfew : Few l 40
 · skip
   refine co_enter (n := 35) Try.func5 rfl rfl rfl [(0, v)] rfl (fun a h0 => ?_)
   refine co_seq ?_
   refine co_reg ?_
   refine pk0 (v := .bool false) h0 rfl fun a1 h1 => ?_; clear h0
   refine pl_nil ?_
   refine co_then ?_
   refine co_seq ?_
   refine co_seq ?_
   refine co_reg ?_
   refine pk0 (v := v) h1 rfl fun a2 h2 => ?_; clear h1
   refine pw h2 rfl (op_call (args := #[v]) (R := fun res xw => res = .bool (decide (Few l 40)) ∧ Below w.heap.size w xw) rfl rfl rfl (by kernel_rfl) (by kernel_rfl) (Try.call19 _ _) (few17_any v l w hs hok) (by rintro e x ⟨rfl, hb5⟩; exact ⟨_, rfl, ⟨rfl, hb5⟩⟩)) ?_; clear h2
   rintro _ w4 a3 ⟨rfl, hb5⟩ h3
   have hz6 := hb5.size
   have hc7 : (decide (Few l 40)) = true := by simp [hfew]
   rw [hc7] at h3; clear hc7
   refine pk0 (v := .bool false) h3 rfl fun a8 h8 => ?_; clear h3
   refine pl_nil ?_
   refine co_then ?_
   refine co_false h8 rfl ?_
   refine wp_skip ?_
   refine co_then ?_
   refine co_seq ?_
   refine co_reg ?_
   refine pw h8 rfl (op_call (args := #[]) (R := fun res xw => ∃ N S, res = pt N 0 ∧ LObj S xw N [] ∧ (∀ q, S q → w4.heap.size ≤ q) ∧ Below w4.heap.size w4 xw) rfl rfl rfl (by kernel_rfl) (by kernel_rfl) (Try.call21 _ _) (tNew w4) (by rintro e x ⟨N, S, rfl, h⟩; exact ⟨_, rfl, N, S, rfl, h⟩)) ?_; clear h8
   rintro _ w10 a9 ⟨N11, S12, rfl, hO13, hlo14, hb15⟩ h9
   have hz16 := hb15.size
   have hlo17 : ∀ q, S12 q → w.heap.size ≤ q := fun q hq => by have := hlo14 q hq; omega
   refine pk0 (v := pt N11 0) h9 rfl fun a18 h18 => ?_; clear h9
   refine pl_nil ?_
   refine co_then ?_
   refine co_seq ?_
   refine co_reg ?_
   refine pk0 (v := .agg #[.slice none 0 0]) h18 rfl fun a19 h19 => ?_; clear h18
   refine pw h19 rfl (op_new (v := fun N => pt N 0) (T := 41) (cs := #[.slice none 0 0]) (by kernel_rfl) (by kernel_rfl) (by kernel_rfl)) ?_; clear h19
   rintro _ w21 a20 ⟨N22, rfl, hN25, hz26, hk24, hg23⟩ h20
   have hz27 := hg23.size
   have ho28 := off_new (LObj.ofS hO13) hN25
   try dsimp only at h20
   refine pk0 (v := pt N22 0) h20 rfl fun a29 h29 => ?_; clear h20
   refine pl_nil ?_
   refine co_then ?_
   refine co_seq ?_
   refine co_seq ?_
   refine co_reg ?_
   refine pk0 (v := .int .i64 0) h29 rfl fun a30 h30 => ?_; clear h29
   refine pl_nil ?_
   refine co_then ?_
   refine wp_block ?_
   have hlo' : ∀ q, (fun q => S12 q ∨ q = N22) q → w.heap.size ≤ q := fun q hq => by rcases hq with k | k; exact hlo17 q k; omega
   have h31 : Slots 35 [(0, v), (3, pt N11 0), (4, pt N22 0), (5, .int .i64 0)] _ := h30.sub ⟨rfl, rfl, rfl, rfl, trivial⟩; clear h30
   refine co_loop (fun mm a x => ∃ (i : Nat) (S : Nat → Prop) (u : Value) (L : List EntT) (X : List EntT), Slots 35 [(0, v), (3, pt N11 0), (4, pt N22 0), (5, .int .i64 ((i : Nat) : Int))] a ∧ mm = l.length - i ∧ (i ≤ l.length) ∧ (i ≤ 40) ∧ (∀ q, S q → w.heap.size ≤ q) ∧ TwoP S x N11 N22 u L X ∧ Below w.heap.size w x) (l.length - 0) ?_ ?_
   have hO32 := LObj.gr hO13 hg23 (fun k e => by cases e)
   have hB33 := hb_call hB0 hb5
   have hB34 := hb_call hB33 hb15
   have hB35 := hb_new hB34 hg23
   · exact ⟨0, (fun q => S12 q ∨ q = N22), (.slice none 0 0), [], [], h31.sub ⟨rfl, rfl, rfl, (slot_eq rfl (congrArg (Value.int .i64) (by first | rfl | omega))), trivial⟩, rfl, by omega, by omega, by exact hlo', (TwoP.mk0 hO32 hk24 ho28), hB35⟩
   · rintro k36 a37 w38 ⟨i, S, u, L, X, h37, rfl, hi39, hi40, hi41, hf42, hB43⟩
     have hz44 := hB43.size
     have hlo45 : ∀ q, S q → w.heap.size ≤ q := by assumption
     have hTl := TwoP.len hf42; have hTx := TwoP.lenE hf42
     refine co_seq ?_
     refine co_seq ?_
     refine co_reg ?_
     refine pk0 (v := .int .i64 ((i : Nat) : Int)) h37 rfl fun a46 h46 => ?_; clear h37
     refine pk0 (v := v) h46 rfl fun a47 h47 => ?_; clear h46
     refine pk (v := .int .i64 ((l.length : Nat) : Int)) h47 rfl (rn_len rfl rfl Try.underlying34 (hs.below hB43)) fun a48 h48 => ?_; clear h47
     refine pk0 (v := .bool (decide (((i : Nat) : Int) < ((l.length : Nat) : Int)))) h48 rfl fun a49 h49 => ?_; clear h48
     refine pk0 (v := .bool (decide (((i : Nat) : Int) < ((l.length : Nat) : Int)))) h49 rfl fun a50 h50 => ?_; clear h49
     cases hc51 : (decide (((i : Nat) : Int) < ((l.length : Nat) : Int)))
     ·
      rw [hc51] at h50
      have hp52 : ¬ (((i : Nat) : Int) < ((l.length : Nat) : Int)) := of_decide_eq_false hc51
      clear hc51
      refine psk h50 rfl fun a53 h53 => ?_; clear h50
      refine psk h53 rfl fun a54 h54 => ?_; clear h53
      refine pk0 (v := .bool false) h54 rfl fun a55 h55 => ?_; clear h54
      refine pl_nil ?_
      refine co_then ?_
      refine co_false h55 rfl ?_
      refine wp_exit ?_
      refine co_thenX ?_
      refine co_thenX ?_
      refine co_blockX ?_
      refine co_then ?_
      refine co_seq ?_
      refine co_reg ?_
      refine pw h55 rfl (op_call (args := #[]) (R := fun res xw => res = .bool true ∧ Below w38.heap.size w38 xw) rfl rfl rfl (by kernel_rfl) (by kernel_rfl) (Try.call20 _ _) (awake17  w38 ) (by rintro e x ⟨rfl, hb58⟩; exact ⟨_, rfl, ⟨rfl, hb58⟩⟩)) ?_; clear h55
      rintro _ w57 a56 ⟨rfl, hb58⟩ h56
      have hz59 := hb58.size
      have ho60 := TwoP.ofS hf42
      refine pk0 (v := .bool true) h56 rfl fun a61 h61 => ?_; clear h56
      refine pl_nil ?_
      refine co_then ?_
      refine wp_ret ?_
      refine co_ret1 h61 rfl rfl ?_
      have hB62 := hb_call hB43 hb58
      exact ⟨rfl, hB62⟩
     ·
      rw [hc51] at h50
      have hp63 : ((i : Nat) : Int) < ((l.length : Nat) : Int) := of_decide_eq_true hc51
      clear hc51
      refine pk0 (v := .int .i64 ((i : Nat) : Int)) h50 rfl fun a64 h64 => ?_; clear h50
      refine pk0 (v := .bool (decide (((i : Nat) : Int) < 40))) h64 rfl fun a65 h65 => ?_; clear h64
      refine pk0 (v := .bool (decide (((i : Nat) : Int) < 40))) h65 rfl fun a66 h66 => ?_; clear h65
      refine pl_nil ?_
      refine co_then ?_
      cases hc67 : (decide (((i : Nat) : Int) < 40))
      ·
       rw [hc67] at h66
       have hp68 : ¬ (((i : Nat) : Int) < 40) := of_decide_eq_false hc67
       clear hc67
       refine co_false h66 rfl ?_
       refine wp_exit ?_
       refine co_thenX ?_
       refine co_thenX ?_
       refine co_blockX ?_
       refine co_then ?_
       refine co_seq ?_
       refine co_reg ?_
       refine pw h66 rfl (op_call (args := #[]) (R := fun res xw => res = .bool true ∧ Below w38.heap.size w38 xw) rfl rfl rfl (by kernel_rfl) (by kernel_rfl) (Try.call20 _ _) (awake17  w38 ) (by rintro e x ⟨rfl, hb71⟩; exact ⟨_, rfl, ⟨rfl, hb71⟩⟩)) ?_; clear h66
       rintro _ w70 a69 ⟨rfl, hb71⟩ h69
       have hz72 := hb71.size
       have ho73 := TwoP.ofS hf42
       refine pk0 (v := .bool true) h69 rfl fun a74 h74 => ?_; clear h69
       refine pl_nil ?_
       refine co_then ?_
       refine wp_ret ?_
       refine co_ret1 h74 rfl rfl ?_
       have hB75 := hb_call hB43 hb71
       exact ⟨rfl, hB75⟩
      ·
       rw [hc67] at h66
       have hp76 : ((i : Nat) : Int) < 40 := of_decide_eq_true hc67
       clear hc67
       refine co_true h66 rfl ?_
       refine wp_skip ?_
       refine co_then ?_
       refine co_seq ?_
       refine wp_block ?_
       refine co_seq ?_
       refine co_reg ?_
       refine pk0 (v := pt N11 0) h66 rfl fun a77 h77 => ?_; clear h66
       refine pk0 (v := pt N22 0) h77 rfl fun a78 h78 => ?_; clear h77
       refine pk0 (v := v) h78 rfl fun a79 h79 => ?_; clear h78
       refine pk0 (v := .int .i64 ((i : Nat) : Int)) h79 rfl fun a80 h80 => ?_; clear h79
       obtain ⟨y81, hy81⟩ : ∃ z, l[i]? = some z := ⟨_, List.getElem?_eq_getElem (by first | omega | (simp; done) | (simp; omega))⟩
       have oky81 := hok _ (List.mem_of_getElem? hy81)
       have k82 : 0 ≤ y81.e.ts := oky81.1.ts0
       have k83 : y81.e.ts < 18446744073709551616 := oky81.1.ts1
       refine pk (v := pt (blkOf v) (offOf v + i * 6)) h80 rfl (rn_index rfl rfl rfl Try.underlying34 Try.sizeOf49 (hs.below hB43) (by omega) (by first | omega | (simp; done) | (simp; omega))) fun a84 h84 => ?_; clear h80
       refine pk (v := .agg #[.int .i64 y81.c, .int .i64 y81.i, .int .i64 y81.e.client, .int .i64 y81.e.req, y81.e.ops, .int .u64 y81.e.ts]) h84 rfl (rn_loadN rfl rfl Try.underlying49 rfl (by kernel_rfl) (sl_at (hs.below hB43) hy81)) fun a85 h85 => ?_; clear h84
       refine pw h85 rfl (op_call (args := #[pt N11 0, pt N22 0, .agg #[.int .i64 y81.c, .int .i64 y81.i, .int .i64 y81.e.client, .int .i64 y81.e.req, y81.e.ops, .int .u64 y81.e.ts]]) (R := fun res xw => ∃ u' : Value, ∃ L' : List EntT, ∃ X' : List EntT, ∃ S' : Nat → Prop, res = .bool true ∧ TwoP S' xw N11 N22 u' L' X' ∧ Grew S S' w38 xw) rfl rfl rfl (by kernel_rfl) (by kernel_rfl) (Try.call22 _ _) (step17_any' w38 y81.c y81.i y81.e.client y81.e.req y81.e.ops y81.e.opl y81.e.ts hf42 (oky81.1.ops.below hB43) (sl_off oky81.1.ops (opE_ne _) hlo45) (Few.at hfew hy81 (by omega)) ⟨oky81.1.ts0, oky81.1.ts1⟩ (wf_i64 oky81.2.2) ⟨oky81.1.each, oky81.1.cl, oky81.1.rq⟩) (by rintro e x ⟨u', L', X', S', h0, h⟩; exact ⟨_, h0, u', L', X', S', rfl, h⟩)) ?_; clear h85
       rintro _ w87 a86 ⟨u'88, L'89, X'90, S91, rfl, hO92, hx93⟩ h86
       have hlo95 : ∀ q, S91 q → w.heap.size ≤ q := hx93.lo hlo45 (by omega)
       have hB94 := hbL hB43 hlo45 hx93.but
       have hz96 := hB94.size
       have hz97 := hx93.but.size
       refine pl_nil ?_
       refine co_then ?_
       refine co_seq ?_
       refine co_reg ?_
       refine pk0 (v := pt N11 0) h86 rfl fun a98 h98 => ?_; clear h86
       refine pw h98 rfl (op_call (args := #[pt N11 0]) (R := fun res xw => ∃ L2 : List EntT, ∃ u2 : Value, ∃ S' : Nat → Prop, res = u2 ∧ TwoP S' xw N11 N22 u'88 L'89 X'90 ∧ (xw.ownsRow w87.heap.size 47 4 u2 L2.length (L2.flatMap entE)) ∧ (EntsK (fun _ => False) w87.heap.size xw L2) ∧ (L2.map e0 = L'89.map e0) ∧ (∀ q, S' q → q < w87.heap.size) ∧ Grew S91 S' w87 xw) rfl rfl rfl (by kernel_rfl) (by kernel_rfl) (Try.call24 _ _) (wAll w87 hO92) (by rintro e x ⟨L2, u2, S', h0, h⟩; exact ⟨_, h0, L2, u2, S', rfl, h⟩)) ?_; clear h98
       rintro u2102 w100 a99 ⟨L2101, _, S103, rfl, hO104, hq106, hq107, hq108, hq109, hx105⟩ h99
       have hlo111 : ∀ q, S103 q → w.heap.size ≤ q := hx105.lo hlo95 (by omega)
       have hB110 := hbL hB94 hlo95 hx105.but
       have hz112 := hB110.size
       have hz113 := hx105.but.size
       have hl114 := e0_len hq108; have hl114b := TwoP.len hO104
       have hrt117 := RI.right (RI.e0 hq108.symm (TwoP.ri hO104))
       refine pw h99 rfl (op_call (args := #[u2102]) (R := fun res xw => res = .int .i64 (rightI L2101) ∧ Below w100.heap.size w100 xw) rfl rfl rfl (by kernel_rfl) (by kernel_rfl) (Try.call34 _ _) (ritemRight_any u2102 L2101 w100 (row_sl hq106 entE_len) (entsK_got hq107)) (by rintro e x ⟨rfl, hb118⟩; exact ⟨_, rfl, ⟨rfl, hb118⟩⟩)) ?_; clear h99
       rintro _ w116 a115 ⟨rfl, hb118⟩ h115
       have hz119 := hb118.size
       have ho120 := TwoP.ofS hO104
       refine pk0 (v := .bool (rightI L2101 != 0)) h115 rfl fun a121 h121 => ?_; clear h115
       refine pl_nil ?_
       refine co_then ?_
       have hc122 : (rightI L2101 != 0) = false := by first | (simp; done) | (simp; omega)
       rw [hc122] at h121; clear hc122
       refine co_false h121 rfl ?_
       refine wp_skip ?_
       refine co_blockN ?_
       refine co_then ?_
       refine co_reg ?_
       refine pk0 (v := .int .i64 ((i : Nat) : Int)) h121 rfl fun a123 h123 => ?_; clear h121
       refine pk (v := .int .i64 ((i + 1 : Nat) : Int)) h123 rfl (rn_arith' rfl rfl rfl rfl rfl rfl (IntWalk.i64_in _ (by omega)) (by omega)) fun a124 h124 => ?_; clear h123
       refine pk0 (v := .int .i64 ((i + 1 : Nat) : Int)) h124 rfl fun a125 h125 => ?_; clear h124
       refine pl_nil ?_
       refine co_then ?_
       refine ⟨(l.length - (i + 1)), by omega, ?_⟩
       have hlo' := hlo111
       have hO126 := TwoP.gr hO104 (below_grown hb118) (fun k e => by cases e)
       have hB127 := hb_call hB110 hb118
       exact ⟨i + 1, S103, u'88, L'89, X'90, h125.sub ⟨rfl, rfl, rfl, rfl, trivial⟩, rfl, by omega, by omega, by exact hlo', hO126, hB127⟩
 · skip
   refine co_enter (n := 35) Try.func5 rfl rfl rfl [(0, v)] rfl (fun a h0 => ?_)
   refine co_seq ?_
   refine co_reg ?_
   refine pk0 (v := .bool false) h0 rfl fun a128 h128 => ?_; clear h0
   refine pl_nil ?_
   refine co_then ?_
   refine co_seq ?_
   refine co_seq ?_
   refine co_reg ?_
   refine pk0 (v := v) h128 rfl fun a129 h129 => ?_; clear h128
   refine pw h129 rfl (op_call (args := #[v]) (R := fun res xw => res = .bool (decide (Few l 40)) ∧ Below w.heap.size w xw) rfl rfl rfl (by kernel_rfl) (by kernel_rfl) (Try.call19 _ _) (few17_any v l w hs hok) (by rintro e x ⟨rfl, hb132⟩; exact ⟨_, rfl, ⟨rfl, hb132⟩⟩)) ?_; clear h129
   rintro _ w131 a130 ⟨rfl, hb132⟩ h130
   have hz133 := hb132.size
   have hc134 : (decide (Few l 40)) = false := by simp [hfew]
   rw [hc134] at h130; clear hc134
   refine pk0 (v := .bool true) h130 rfl fun a135 h135 => ?_; clear h130
   refine pl_nil ?_
   refine co_then ?_
   refine co_true h135 rfl ?_
   refine co_seq ?_
   refine co_reg ?_
   refine pw h135 rfl (op_call (args := #[]) (R := fun res xw => res = .bool true ∧ Below w131.heap.size w131 xw) rfl rfl rfl (by kernel_rfl) (by kernel_rfl) (Try.call20 _ _) (awake17  w131 ) (by rintro e x ⟨rfl, hb138⟩; exact ⟨_, rfl, ⟨rfl, hb138⟩⟩)) ?_; clear h135
   rintro _ w137 a136 ⟨rfl, hb138⟩ h136
   have hz139 := hb138.size
   refine pk0 (v := .bool true) h136 rfl fun a140 h140 => ?_; clear h136
   refine pl_nil ?_
   refine co_then ?_
   refine wp_ret ?_
   refine co_thenR ?_
   refine co_ret1 h140 rfl rfl ?_
   have hB141 := hb_call hB0 hb132
   have hB142 := hb_call hB141 hb138
   exact ⟨rfl, hB142⟩
end Go.Proofs.Ythmnndbpadegnaa
