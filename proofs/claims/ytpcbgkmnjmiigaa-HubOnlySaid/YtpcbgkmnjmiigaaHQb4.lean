/- Put together: HoFHQa. Conditions: as each says. -/
import Derived.Test.YtpcbgkmnjmiigaaHQb3
import Derived.LoopN
/- catenalaw23: HubOnly. Conditions: none. -/
namespace Go.Proofs.Ytpcbgkmnjmiigaa
open Go.RowKit Go.PlainAid
set_option linter.unusedVariables false
set_option linter.unusedSimpArgs false

theorem co_unroll {P : Program} {c : Code} {Q : Exit → Act → World → Prop} {n : Nat} {a : Act} {w : World} (h : c.wp P (Exit.then (Code.rounds P c Q n) Q) a w) : Code.rounds P c Q (n + 1) a w := h
set_option maxRecDepth 100000 in
set_option maxHeartbeats 12800000 in
theorem hubOnly_law (v : Value) (l : List HActT) (w : World) (hs : SliceOf hactE 4 w v l) (hok : ∀ z ∈ l, HActOk z) :
    Calls Try.prog 4 #[v] w fun e w' => e = .returned (.bool true) ∧ Below w.heap.size w w' := by
 have hB0 := Below.refl w.heap.size w
 have hl_hs := sl_len hs
 refine co_enter (n := 195) Try.func4 rfl rfl rfl [(0, v)] rfl (fun a h0 => ?_)
 refine co_seq ?_
 refine co_reg ?_
 refine pk0 (v := .bool false) h0 rfl fun a1 h1 => ?_; clear h0
 refine pl_nil ?_
 refine co_then ?_
 refine co_seq ?_
 refine co_reg ?_
 refine pw h1 rfl (op_new (v := fun N => pt N 0) (T := 46) (cs := #[.pointer none, .pointer none, .pointer none, .pointer none]) (by kernel_rfl) (by kernel_rfl) (by kernel_rfl)) ?_; clear h1
 rintro _ w3 a2 ⟨N4, rfl, hN7, hz8, hk6, hg5⟩ h2
 have hz9 := hg5.size
 try dsimp only at h2
 refine pl_nil ?_
 refine co_then ?_
 have hB10 := hb_new hB0 hg5
 refine co_cut (fun a x => ∃ (q : Nat → Nat) (SH : Nat → Prop), Slots 195 [(0, v), (3, pt N4 0)] a ∧ (∀ q, SH q → w.heap.size ≤ q) ∧ HubsO SH x N4 q (fun _ _ => newLn 1) ∧ Below w.heap.size w x) ?_ ?_
 ·
  refine co_seq ?_
  refine co_reg ?_
  refine pk0 (v := .int .i64 0) h2 rfl fun a11 h11 => ?_; clear h2
  refine pl_nil ?_
  refine co_then ?_
  refine wp_block ?_
  refine wp_loop_rounds 5 ?_
  refine co_unroll (n := 4) ?_
  refine co_seq ?_
  refine co_seq ?_
  refine co_reg ?_
  refine pk0 (v := .int .i64 0) h11 rfl fun a12 h12 => ?_; clear h11
  refine pk0 (v := .bool (decide (0 < 4))) h12 rfl fun a13 h13 => ?_; clear h12
  refine pl_nil ?_
  refine co_then ?_
  have hc14 : (decide (0 < 4)) = true := decide_eq_true (by omega)
  rw [hc14] at h13; clear hc14
  refine co_true h13 rfl ?_
  refine wp_skip ?_
  refine co_then ?_
  refine co_seq ?_
  refine wp_block ?_
  refine co_seq ?_
  refine co_reg ?_
  refine pk0 (v := .int .i64 0) h13 rfl fun a15 h15 => ?_; clear h13
  refine pw h15 rfl (op_call (args := #[.int .i64 0, .int .i64 1]) (R := fun res xw => ∃ (N : Nat) (S : Nat → Prop), res = .tuple #[pt N 0, .int .i64 0] ∧ HbP S xw N (newM 0 1 4) ∧ (∀ q, S q → w3.heap.size ≤ q) ∧ Below w3.heap.size w3 xw) rfl rfl rfl (by kernel_rfl) (by kernel_rfl) (Try.call6 _ _) (pHNew 0 1 w3 (by omega) (by omega)) (by rintro e x ⟨N, S, rfl, h⟩; exact ⟨_, rfl, N, S, rfl, h⟩)) ?_; clear h15
  rintro _ w17 a16 ⟨N18, S19, rfl, hO20, hlo21, hb22⟩ h16
  have hz23 := hb22.size
  have hlo24 : ∀ q, S19 q → w.heap.size ≤ q := fun q hq => by have := hlo21 q hq; omega
  have ho25 := off_lo (N := N4) hlo21 (by omega)
  refine pk0 (v := .tuple #[pt N18 0, .int .i64 0]) h16 rfl fun a26 h26 => ?_; clear h16
  refine pk0 (v := pt N18 0) h26 rfl fun a27 h27 => ?_; clear h26
  refine pk0 (v := .int .i64 0) h27 rfl fun a28 h28 => ?_; clear h27
  refine pk0 (v := pt N18 0) h28 rfl fun a29 h29 => ?_; clear h28
  refine pk0 (v := .int .i64 0) h29 rfl fun a30 h30 => ?_; clear h29
  refine pl_nil ?_
  refine co_then ?_
  refine co_seq ?_
  refine co_seq ?_
  refine co_reg ?_
  refine pk0 (v := .int .i64 0) h30 rfl fun a31 h31 => ?_; clear h30
  refine pk0 (v := .bool ((0 : Int) != 0)) h31 rfl fun a32 h32 => ?_; clear h31
  refine pk0 (v := .bool ((0 : Int) != 0)) h32 rfl fun a33 h33 => ?_; clear h32
  have hc34 : ((0 : Int) != 0) = false := by first | (simp; done) | (simp; omega) | exact beq_false_of_ne (by omega) | exact beq_iff_eq.2 (by omega)
  rw [hc34] at h33; clear hc34
  refine pk0 (v := pt N18 0) h33 rfl fun a35 h35 => ?_; clear h33
  refine pk0 (v := .bool false) h35 rfl fun a36 h36 => ?_; clear h35
  refine pk0 (v := .bool false) h36 rfl fun a37 h37 => ?_; clear h36
  refine pl_nil ?_
  refine co_then ?_
  refine co_false h37 rfl ?_
  refine wp_skip ?_
  refine co_then ?_
  refine co_reg ?_
  refine pk0 (v := .int .i64 0) h37 rfl fun a38 h38 => ?_; clear h37
  refine pk0 (v := pt N18 0) h38 rfl fun a39 h39 => ?_; clear h38
  refine pk0 (v := pt N4 0) h39 rfl fun a40 h40 => ?_; clear h39
  have hk46 := hk6.below hb22
  refine pwD h40 rfl (op_store1 rfl rfl rfl rfl Try.sizeOf23 hk46 rfl) ?_; clear h40
  rintro _ w42 a41 ⟨hk43, hz44, hg45⟩ h41
  have hk43' : Blk w42 N4 46 #[pt N18 0, .pointer none, .pointer none, .pointer none] := hk43; clear hk43
  have hz47 := hg45.size
  refine pl_nil ?_
  refine co_blockN ?_
  refine co_then ?_
  refine co_reg ?_
  refine pk0 (v := .int .i64 0) h41 rfl fun a48 h48 => ?_; clear h41
  refine pk0 (v := .int .i64 1) h48 rfl fun a49 h49 => ?_; clear h48
  refine pk0 (v := .int .i64 1) h49 rfl fun a50 h50 => ?_; clear h49
  refine pl_nil ?_
  refine co_then ?_
  refine co_unroll (n := 3) ?_
  refine co_seq ?_
  refine co_seq ?_
  refine co_reg ?_
  refine pk0 (v := .int .i64 1) h50 rfl fun a51 h51 => ?_; clear h50
  refine pk0 (v := .bool (decide (1 < 4))) h51 rfl fun a52 h52 => ?_; clear h51
  refine pl_nil ?_
  refine co_then ?_
  have hc53 : (decide (1 < 4)) = true := decide_eq_true (by omega)
  rw [hc53] at h52; clear hc53
  refine co_true h52 rfl ?_
  refine wp_skip ?_
  refine co_then ?_
  refine co_seq ?_
  refine wp_block ?_
  refine co_seq ?_
  refine co_reg ?_
  refine pk0 (v := .int .i64 1) h52 rfl fun a54 h54 => ?_; clear h52
  have hO58 := HbP.gr hO20 hg45 (fun k e => by cases e; exact ho25)
  have ho57 := HbP.ofS hO58
  refine pw h54 rfl (op_call (args := #[.int .i64 1, .int .i64 1]) (R := fun res xw => ∃ (N : Nat) (S : Nat → Prop), res = .tuple #[pt N 0, .int .i64 0] ∧ HbP S xw N (newM 1 1 4) ∧ (∀ q, S q → w42.heap.size ≤ q) ∧ Below w42.heap.size w42 xw) rfl rfl rfl (by kernel_rfl) (by kernel_rfl) (Try.call6 _ _) (pHNew 1 1 w42 (by omega) (by omega)) (by rintro e x ⟨N, S, rfl, h⟩; exact ⟨_, rfl, N, S, rfl, h⟩)) ?_; clear h54
  rintro _ w56 a55 ⟨N59, S60, rfl, hO61, hlo62, hb63⟩ h55
  have hz64 := hb63.size
  have ho65 := HbP.ofS hO58
  have hlo66 : ∀ q, S60 q → w.heap.size ≤ q := fun q hq => by have := hlo62 q hq; omega
  have ho67 := off_lo (N := N4) hlo62 (by omega)
  refine pk0 (v := .tuple #[pt N59 0, .int .i64 0]) h55 rfl fun a68 h68 => ?_; clear h55
  refine pk0 (v := pt N59 0) h68 rfl fun a69 h69 => ?_; clear h68
  refine pk0 (v := .int .i64 0) h69 rfl fun a70 h70 => ?_; clear h69
  refine pk0 (v := pt N59 0) h70 rfl fun a71 h71 => ?_; clear h70
  refine pk0 (v := .int .i64 0) h71 rfl fun a72 h72 => ?_; clear h71
  refine pl_nil ?_
  refine co_then ?_
  refine co_seq ?_
  refine co_seq ?_
  refine co_reg ?_
  refine pk0 (v := .int .i64 0) h72 rfl fun a73 h73 => ?_; clear h72
  refine pk0 (v := .bool ((0 : Int) != 0)) h73 rfl fun a74 h74 => ?_; clear h73
  refine pk0 (v := .bool ((0 : Int) != 0)) h74 rfl fun a75 h75 => ?_; clear h74
  have hc76 : ((0 : Int) != 0) = false := by first | (simp; done) | (simp; omega) | exact beq_false_of_ne (by omega) | exact beq_iff_eq.2 (by omega)
  rw [hc76] at h75; clear hc76
  refine pk0 (v := pt N59 0) h75 rfl fun a77 h77 => ?_; clear h75
  refine pk0 (v := .bool false) h77 rfl fun a78 h78 => ?_; clear h77
  refine pk0 (v := .bool false) h78 rfl fun a79 h79 => ?_; clear h78
  refine pl_nil ?_
  refine co_then ?_
  refine co_false h79 rfl ?_
  refine wp_skip ?_
  refine co_then ?_
  refine co_reg ?_
  refine pk0 (v := .int .i64 1) h79 rfl fun a80 h80 => ?_; clear h79
  refine pk0 (v := pt N59 0) h80 rfl fun a81 h81 => ?_; clear h80
  refine pk0 (v := pt N4 1) h81 rfl fun a82 h82 => ?_; clear h81
  have hk88 := hk43'.below hb63
  refine pwD h82 rfl (op_store1 rfl rfl rfl rfl Try.sizeOf23 hk88 rfl) ?_; clear h82
  rintro _ w84 a83 ⟨hk85, hz86, hg87⟩ h83
  have hk85' : Blk w84 N4 46 #[pt N18 0, pt N59 0, .pointer none, .pointer none] := hk85; clear hk85
  have hz89 := hg87.size
  refine pl_nil ?_
  refine co_blockN ?_
  refine co_then ?_
  refine co_reg ?_
  refine pk0 (v := .int .i64 1) h83 rfl fun a90 h90 => ?_; clear h83
  refine pk0 (v := .int .i64 2) h90 rfl fun a91 h91 => ?_; clear h90
  refine pk0 (v := .int .i64 2) h91 rfl fun a92 h92 => ?_; clear h91
  refine pl_nil ?_
  refine co_then ?_
  refine co_unroll (n := 2) ?_
  refine co_seq ?_
  refine co_seq ?_
  refine co_reg ?_
  refine pk0 (v := .int .i64 2) h92 rfl fun a93 h93 => ?_; clear h92
  refine pk0 (v := .bool (decide (2 < 4))) h93 rfl fun a94 h94 => ?_; clear h93
  refine pl_nil ?_
  refine co_then ?_
  have hc95 : (decide (2 < 4)) = true := decide_eq_true (by omega)
  rw [hc95] at h94; clear hc95
  refine co_true h94 rfl ?_
  refine wp_skip ?_
  refine co_then ?_
  refine co_seq ?_
  refine wp_block ?_
  refine co_seq ?_
  refine co_reg ?_
  refine pk0 (v := .int .i64 2) h94 rfl fun a96 h96 => ?_; clear h94
  have hO100 := HbP.gr hO58 (below_grown hb63) (fun k e => by cases e)
  have hO101 := HbP.gr hO100 hg87 (fun k e => by cases e; exact ho25)
  have ho99 := HbP.ofS hO101
  have hO103 := HbP.gr hO61 hg87 (fun k e => by cases e; exact ho67)
  have ho102 := HbP.ofS hO103
  refine pw h96 rfl (op_call (args := #[.int .i64 2, .int .i64 1]) (R := fun res xw => ∃ (N : Nat) (S : Nat → Prop), res = .tuple #[pt N 0, .int .i64 0] ∧ HbP S xw N (newM 2 1 4) ∧ (∀ q, S q → w84.heap.size ≤ q) ∧ Below w84.heap.size w84 xw) rfl rfl rfl (by kernel_rfl) (by kernel_rfl) (Try.call6 _ _) (pHNew 2 1 w84 (by omega) (by omega)) (by rintro e x ⟨N, S, rfl, h⟩; exact ⟨_, rfl, N, S, rfl, h⟩)) ?_; clear h96
  rintro _ w98 a97 ⟨N104, S105, rfl, hO106, hlo107, hb108⟩ h97
  have hz109 := hb108.size
  have ho110 := HbP.ofS hO101
  have ho111 := HbP.ofS hO103
  have hlo112 : ∀ q, S105 q → w.heap.size ≤ q := fun q hq => by have := hlo107 q hq; omega
  have ho113 := off_lo (N := N4) hlo107 (by omega)
  refine pk0 (v := .tuple #[pt N104 0, .int .i64 0]) h97 rfl fun a114 h114 => ?_; clear h97
  refine pk0 (v := pt N104 0) h114 rfl fun a115 h115 => ?_; clear h114
  refine pk0 (v := .int .i64 0) h115 rfl fun a116 h116 => ?_; clear h115
  refine pk0 (v := pt N104 0) h116 rfl fun a117 h117 => ?_; clear h116
  refine pk0 (v := .int .i64 0) h117 rfl fun a118 h118 => ?_; clear h117
  refine pl_nil ?_
  refine co_then ?_
  refine co_seq ?_
  refine co_seq ?_
  refine co_reg ?_
  refine pk0 (v := .int .i64 0) h118 rfl fun a119 h119 => ?_; clear h118
  refine pk0 (v := .bool ((0 : Int) != 0)) h119 rfl fun a120 h120 => ?_; clear h119
  refine pk0 (v := .bool ((0 : Int) != 0)) h120 rfl fun a121 h121 => ?_; clear h120
  have hc122 : ((0 : Int) != 0) = false := by first | (simp; done) | (simp; omega) | exact beq_false_of_ne (by omega) | exact beq_iff_eq.2 (by omega)
  rw [hc122] at h121; clear hc122
  refine pk0 (v := pt N104 0) h121 rfl fun a123 h123 => ?_; clear h121
  refine pk0 (v := .bool false) h123 rfl fun a124 h124 => ?_; clear h123
  refine pk0 (v := .bool false) h124 rfl fun a125 h125 => ?_; clear h124
  refine pl_nil ?_
  refine co_then ?_
  refine co_false h125 rfl ?_
  refine wp_skip ?_
  refine co_then ?_
  refine co_reg ?_
  refine pk0 (v := .int .i64 2) h125 rfl fun a126 h126 => ?_; clear h125
  refine pk0 (v := pt N104 0) h126 rfl fun a127 h127 => ?_; clear h126
  refine pk0 (v := pt N4 2) h127 rfl fun a128 h128 => ?_; clear h127
  have hk134 := hk85'.below hb108
  refine pwD h128 rfl (op_store1 rfl rfl rfl rfl Try.sizeOf23 hk134 rfl) ?_; clear h128
  rintro _ w130 a129 ⟨hk131, hz132, hg133⟩ h129
  have hk131' : Blk w130 N4 46 #[pt N18 0, pt N59 0, pt N104 0, .pointer none] := hk131; clear hk131
  have hz135 := hg133.size
  refine pl_nil ?_
  refine co_blockN ?_
  refine co_then ?_
  refine co_reg ?_
  refine pk0 (v := .int .i64 2) h129 rfl fun a136 h136 => ?_; clear h129
  refine pk0 (v := .int .i64 3) h136 rfl fun a137 h137 => ?_; clear h136
  refine pk0 (v := .int .i64 3) h137 rfl fun a138 h138 => ?_; clear h137
  refine pl_nil ?_
  refine co_then ?_
  refine co_unroll (n := 1) ?_
  refine co_seq ?_
  refine co_seq ?_
  refine co_reg ?_
  refine pk0 (v := .int .i64 3) h138 rfl fun a139 h139 => ?_; clear h138
  refine pk0 (v := .bool (decide (3 < 4))) h139 rfl fun a140 h140 => ?_; clear h139
  refine pl_nil ?_
  refine co_then ?_
  have hc141 : (decide (3 < 4)) = true := decide_eq_true (by omega)
  rw [hc141] at h140; clear hc141
  refine co_true h140 rfl ?_
  refine wp_skip ?_
  refine co_then ?_
  refine co_seq ?_
  refine wp_block ?_
  refine co_seq ?_
  refine co_reg ?_
  refine pk0 (v := .int .i64 3) h140 rfl fun a142 h142 => ?_; clear h140
  have hO146 := HbP.gr hO101 (below_grown hb108) (fun k e => by cases e)
  have hO147 := HbP.gr hO146 hg133 (fun k e => by cases e; exact ho25)
  have ho145 := HbP.ofS hO147
  have hO149 := HbP.gr hO103 (below_grown hb108) (fun k e => by cases e)
  have hO150 := HbP.gr hO149 hg133 (fun k e => by cases e; exact ho67)
  have ho148 := HbP.ofS hO150
  have hO152 := HbP.gr hO106 hg133 (fun k e => by cases e; exact ho113)
  have ho151 := HbP.ofS hO152
  refine pw h142 rfl (op_call (args := #[.int .i64 3, .int .i64 1]) (R := fun res xw => ∃ (N : Nat) (S : Nat → Prop), res = .tuple #[pt N 0, .int .i64 0] ∧ HbP S xw N (newM 3 1 4) ∧ (∀ q, S q → w130.heap.size ≤ q) ∧ Below w130.heap.size w130 xw) rfl rfl rfl (by kernel_rfl) (by kernel_rfl) (Try.call6 _ _) (pHNew 3 1 w130 (by omega) (by omega)) (by rintro e x ⟨N, S, rfl, h⟩; exact ⟨_, rfl, N, S, rfl, h⟩)) ?_; clear h142
  rintro _ w144 a143 ⟨N153, S154, rfl, hO155, hlo156, hb157⟩ h143
  have hz158 := hb157.size
  have ho159 := HbP.ofS hO147
  have ho160 := HbP.ofS hO150
  have ho161 := HbP.ofS hO152
  have hlo162 : ∀ q, S154 q → w.heap.size ≤ q := fun q hq => by have := hlo156 q hq; omega
  have ho163 := off_lo (N := N4) hlo156 (by omega)
  refine pk0 (v := .tuple #[pt N153 0, .int .i64 0]) h143 rfl fun a164 h164 => ?_; clear h143
  refine pk0 (v := pt N153 0) h164 rfl fun a165 h165 => ?_; clear h164
  refine pk0 (v := .int .i64 0) h165 rfl fun a166 h166 => ?_; clear h165
  refine pk0 (v := pt N153 0) h166 rfl fun a167 h167 => ?_; clear h166
  refine pk0 (v := .int .i64 0) h167 rfl fun a168 h168 => ?_; clear h167
  refine pl_nil ?_
  refine co_then ?_
  refine co_seq ?_
  refine co_seq ?_
  refine co_reg ?_
  refine pk0 (v := .int .i64 0) h168 rfl fun a169 h169 => ?_; clear h168
  refine pk0 (v := .bool ((0 : Int) != 0)) h169 rfl fun a170 h170 => ?_; clear h169
  refine pk0 (v := .bool ((0 : Int) != 0)) h170 rfl fun a171 h171 => ?_; clear h170
  have hc172 : ((0 : Int) != 0) = false := by first | (simp; done) | (simp; omega) | exact beq_false_of_ne (by omega) | exact beq_iff_eq.2 (by omega)
  rw [hc172] at h171; clear hc172
  refine pk0 (v := pt N153 0) h171 rfl fun a173 h173 => ?_; clear h171
  refine pk0 (v := .bool false) h173 rfl fun a174 h174 => ?_; clear h173
  refine pk0 (v := .bool false) h174 rfl fun a175 h175 => ?_; clear h174
  refine pl_nil ?_
  refine co_then ?_
  refine co_false h175 rfl ?_
  refine wp_skip ?_
  refine co_then ?_
  refine co_reg ?_
  refine pk0 (v := .int .i64 3) h175 rfl fun a176 h176 => ?_; clear h175
  refine pk0 (v := pt N153 0) h176 rfl fun a177 h177 => ?_; clear h176
  refine pk0 (v := pt N4 3) h177 rfl fun a178 h178 => ?_; clear h177
  have hk184 := hk131'.below hb157
  refine pwD h178 rfl (op_store1 rfl rfl rfl rfl Try.sizeOf23 hk184 rfl) ?_; clear h178
  rintro _ w180 a179 ⟨hk181, hz182, hg183⟩ h179
  have hk181' : Blk w180 N4 46 #[pt N18 0, pt N59 0, pt N104 0, pt N153 0] := hk181; clear hk181
  have hz185 := hg183.size
  refine pl_nil ?_
  refine co_blockN ?_
  refine co_then ?_
  refine co_reg ?_
  refine pk0 (v := .int .i64 3) h179 rfl fun a186 h186 => ?_; clear h179
  refine pk0 (v := .int .i64 4) h186 rfl fun a187 h187 => ?_; clear h186
  refine pk0 (v := .int .i64 4) h187 rfl fun a188 h188 => ?_; clear h187
  refine pl_nil ?_
  refine co_then ?_
  refine co_unroll (n := 0) ?_
  refine co_seq ?_
  refine co_seq ?_
  refine co_reg ?_
  refine pk0 (v := .int .i64 4) h188 rfl fun a189 h189 => ?_; clear h188
  refine pk0 (v := .bool (decide (4 < 4))) h189 rfl fun a190 h190 => ?_; clear h189
  refine pl_nil ?_
  refine co_then ?_
  have hc191 : (decide (4 < 4)) = false := decide_eq_false (by omega)
  rw [hc191] at h190; clear hc191
  refine co_false h190 rfl ?_
  refine wp_exit ?_
  refine co_thenX ?_
  refine co_thenX ?_
  refine co_blockX ?_
  refine co_then ?_
  have hO192 := HbP.gr hO147 (below_grown hb157) (fun k e => by cases e)
  have hO193 := HbP.gr hO192 hg183 (fun k e => by cases e; exact ho25)
  have hO194 := HbP.gr hO150 (below_grown hb157) (fun k e => by cases e)
  have hO195 := HbP.gr hO194 hg183 (fun k e => by cases e; exact ho67)
  have hO196 := HbP.gr hO152 (below_grown hb157) (fun k e => by cases e)
  have hO197 := HbP.gr hO196 hg183 (fun k e => by cases e; exact ho113)
  have hO198 := HbP.gr hO155 hg183 (fun k e => by cases e; exact ho163)
  obtain ⟨q9, S9, hH9, hlo9⟩ := hubs_mk4 (n0 := w.heap.size) hk181' hO193 hO195 hO197 hO198 (fun q h1 h2 => by have e1 := ho57 q h1; have e2 := hlo62 q h2; omega) (fun q h1 h2 => by have e1 := ho99 q h1; have e2 := hlo107 q h2; omega) (fun q h1 h2 => by have e1 := ho145 q h1; have e2 := hlo156 q h2; omega) (fun q h1 h2 => by have e1 := ho102 q h1; have e2 := hlo107 q h2; omega) (fun q h1 h2 => by have e1 := ho148 q h1; have e2 := hlo156 q h2; omega) (fun q h1 h2 => by have e1 := ho151 q h1; have e2 := hlo156 q h2; omega) ho25 ho67 ho113 ho163 (by omega) hlo24 hlo66 hlo112 hlo162
  have hB199 := hb_call hB10 hb22
  have hB200 := hb_at hB199 hg45 (by omega)
  have hB201 := hb_call hB200 hb63
  have hB202 := hb_at hB201 hg87 (by omega)
  have hB203 := hb_call hB202 hb108
  have hB204 := hb_at hB203 hg133 (by omega)
  have hB205 := hb_call hB204 hb157
  have hB206 := hb_at hB205 hg183 (by omega)
  exact ⟨q9, S9, h190.sub ⟨rfl, rfl, trivial⟩, by exact hlo9, hH9, hB206⟩
 rintro a207 w208 ⟨q, SH, h207, hi209, hf210, hB211⟩
 have hz212 := hB211.size
 have hlt213 := HubsO.lt hf210
 refine co_seq ?_
 refine co_reg ?_
 refine pw h207 rfl (op_new (v := fun N => pt N 0) (T := 48) (cs := #[.slice none 0 0, .slice none 0 0, .slice none 0 0, .slice none 0 0, .slice none 0 0, .slice none 0 0, .slice none 0 0, .slice none 0 0, .slice none 0 0, .slice none 0 0, .slice none 0 0, .slice none 0 0, .slice none 0 0, .slice none 0 0, .slice none 0 0, .slice none 0 0]) (by kernel_rfl) (by kernel_rfl) (by kernel_rfl)) ?_; clear h207
 rintro _ w215 a214 ⟨N216, rfl, hN219, hz220, hk218, hg217⟩ h214
 have hz221 := hg217.size
 have ho222 := off_new (HubsO.ofS hf210) hN219
 try dsimp only at h214
 refine pw h214 rfl (op_new (v := fun N => pt N 0) (T := 48) (cs := #[.slice none 0 0, .slice none 0 0, .slice none 0 0, .slice none 0 0, .slice none 0 0, .slice none 0 0, .slice none 0 0, .slice none 0 0, .slice none 0 0, .slice none 0 0, .slice none 0 0, .slice none 0 0, .slice none 0 0, .slice none 0 0, .slice none 0 0, .slice none 0 0]) (by kernel_rfl) (by kernel_rfl) (by kernel_rfl)) ?_; clear h214
 rintro _ w224 a223 ⟨N225, rfl, hN228, hz229, hk227, hg226⟩ h223
 have hz230 := hg226.size
 have hO232 := HubsO.gr hf210 hg217 (fun k e => by cases e)
 have ho231 := off_new (HubsO.ofS hO232) hN228
 try dsimp only at h223
 refine pl_nil ?_
 refine co_then ?_
 have hk234 := hk218.kept hg226 (by simp)
 have hL233 : LstO (fun n => n = N216) w224 N216 (flatL fun _ _ => []) := LstO.new hk234
 have hlo235 : ∀ q, (fun n => n = N216) q → w.heap.size ≤ q := fun q h => by (have h : q = N216 := h); omega
 have hL236 : LstO (fun n => n = N225) w224 N225 (flatL fun _ _ => []) := LstO.new hk227
 have hlo237 : ∀ q, (fun n => n = N225) q → w.heap.size ≤ q := fun q h => by (have h : q = N225 := h); omega
 have hB238 := hb_new hB211 hg217
 have hB239 := hb_new hB238 hg226
 refine co_cut (fun a x => ∃ (LL : LLT) (sn : SLT) (SA : Nat → Prop) (SB : Nat → Prop) (SC : Nat → Prop), Slots 195 [(0, v), (3, pt N4 0), (7, pt N216 0), (8, pt N225 0)] a ∧ (HS LL sn (fun _ _ => [])) ∧ (∀ q, SA q → w.heap.size ≤ q) ∧ (∀ q, SB q → w.heap.size ≤ q) ∧ (∀ q, SC q → w.heap.size ≤ q) ∧ (∀ q, SA q → SB q → False) ∧ (∀ q, SA q → SC q → False) ∧ (∀ q, SB q → SC q → False) ∧ HubsO SA x N4 q LL ∧ LstO SB x N216 (flatL sn) ∧ LstO SC x N225 (flatL fun _ _ => []) ∧ Below w.heap.size w x) ?_ ?_
 ·
  refine co_seq ?_
  refine co_reg ?_
  refine pk0 (v := .int .i64 0) h223 rfl fun a240 h240 => ?_; clear h223
  refine pl_nil ?_
  refine co_then ?_
  refine wp_block ?_
  have h241 : Slots 195 [(0, v), (3, pt N4 0), (7, pt N216 0), (8, pt N225 0), (9, .int .i64 0)] _ := h240.sub ⟨rfl, rfl, rfl, rfl, rfl, trivial⟩; clear h240
  refine co_loop (fun mm a x => ∃ (i : Nat) (LL : LLT) (sn : SLT) (SA : Nat → Prop) (SB : Nat → Prop) (SC : Nat → Prop), Slots 195 [(0, v), (3, pt N4 0), (7, pt N216 0), (8, pt N225 0), (9, .int .i64 ((i : Nat) : Int))] a ∧ mm = 30 - i ∧ (i ≤ l.length) ∧ (i ≤ 30) ∧ (0 = 0) ∧ (HS LL sn (fun _ _ => [])) ∧ (∀ i k, (LL i k).first = 0) ∧ (∀ q, SA q → w.heap.size ≤ q) ∧ (∀ q, SB q → w.heap.size ≤ q) ∧ (∀ q, SC q → w.heap.size ≤ q) ∧ (∀ q, SA q → SB q → False) ∧ (∀ q, SA q → SC q → False) ∧ (∀ q, SB q → SC q → False) ∧ HubsO SA x N4 q LL ∧ LstO SB x N216 (flatL sn) ∧ LstO SC x N225 (flatL fun _ _ => []) ∧ Below w.heap.size w x) (30 - 0) ?_ ?_
  have hO242 := HubsO.gr hO232 hg226 (fun k e => by cases e)
  · exact ⟨0, (fun _ _ => newLn 1), (fun _ _ => []), SH, (fun n => n = N216), (fun n => n = N225), h241.sub ⟨rfl, rfl, rfl, rfl, (slot_eq rfl (congrArg (Value.int .i64) (by first | rfl | omega))), trivial⟩, rfl, by omega, by omega, by omega, by first | exact HS.new | exact fun _ _ => rfl, by first | exact HS.new | exact fun _ _ => rfl, by exact hi209, by exact hlo235, by exact hlo237, by exact (ap_symm (fun n h1 h2 => by (have h1 : n = N216 := h1); subst h1; exact ho222 h2)), by exact (ap_symm (fun n h1 h2 => by (have h1 : n = N225 := h1); subst h1; exact ho231 h2)), by exact (ap_symm (fun n h1 h2 => by (have h1 : n = N225 := h1); (have h2 : n = N216 := h2); omega)), hO242, hL233, hL236, hB239⟩
  · rintro k243 a244 w245 ⟨i, LL, sn, SA, SB, SC, h244, rfl, hi246, hi247, hi248, hi249, hi250, hi251, hi252, hi253, hi254, hi255, hi256, hf257, hf258, hf259, hB260⟩
    have hz261 := hB260.size
    have hlo262 : ∀ q, SA q → w.heap.size ≤ q := by assumption
    have hlt263 := HubsO.lt hf257
    have hlo264 : ∀ q, SB q → w.heap.size ≤ q := by assumption
    have hlt265 := LstO.lt hf258
    have hlo266 : ∀ q, SC q → w.heap.size ≤ q := by assumption
    have hlt267 := LstO.lt hf259
    have hap268 : ∀ q, SA q → SB q → False := by assumption
    have hap269 : ∀ q, SA q → SC q → False := by assumption
    have hap270 : ∀ q, SB q → SC q → False := by assumption
    have hHS : HS LL sn (fun _ _ => []) := by assumption
    have hF0 : ∀ i k, (LL i k).first = 0 := by assumption
    refine co_seq ?_
    refine co_seq ?_
    refine co_reg ?_
    refine pk0 (v := .int .i64 ((i : Nat) : Int)) h244 rfl fun a271 h271 => ?_; clear h244
    refine pk0 (v := v) h271 rfl fun a272 h272 => ?_; clear h271
    refine pk (v := .int .i64 ((l.length : Nat) : Int)) h272 rfl (rn_len rfl rfl Try.underlying22 (hs.below hB260)) fun a273 h273 => ?_; clear h272
    refine pk0 (v := .bool (decide (((i : Nat) : Int) < ((l.length : Nat) : Int)))) h273 rfl fun a274 h274 => ?_; clear h273
    refine pk0 (v := .bool (decide (((i : Nat) : Int) < ((l.length : Nat) : Int)))) h274 rfl fun a275 h275 => ?_; clear h274
    cases hc276 : (decide (((i : Nat) : Int) < ((l.length : Nat) : Int)))
    ·
     rw [hc276] at h275
     have hp277 : ¬ (((i : Nat) : Int) < ((l.length : Nat) : Int)) := of_decide_eq_false hc276
     clear hc276
     refine psk h275 rfl fun a278 h278 => ?_; clear h275
     refine psk h278 rfl fun a279 h279 => ?_; clear h278
     refine pk0 (v := .bool false) h279 rfl fun a280 h280 => ?_; clear h279
     refine pl_nil ?_
     refine co_then ?_
     refine co_false h280 rfl ?_
     refine wp_exit ?_
     refine co_thenX ?_
     refine co_thenX ?_
     refine co_blockX ?_
     refine co_then ?_
     exact ⟨LL, sn, SA, SB, SC, h280.sub ⟨rfl, rfl, rfl, rfl, trivial⟩, by exact hHS, by exact hlo262, by exact hlo264, by exact hlo266, by exact hap268, by exact hap269, by exact hap270, hf257, hf258, hf259, hB260⟩
    ·
     rw [hc276] at h275
     have hp281 : ((i : Nat) : Int) < ((l.length : Nat) : Int) := of_decide_eq_true hc276
     clear hc276
     refine pk0 (v := .int .i64 ((i : Nat) : Int)) h275 rfl fun a282 h282 => ?_; clear h275
     refine pk0 (v := .bool (decide (((i : Nat) : Int) < 30))) h282 rfl fun a283 h283 => ?_; clear h282
     refine pk0 (v := .bool (decide (((i : Nat) : Int) < 30))) h283 rfl fun a284 h284 => ?_; clear h283
     refine pl_nil ?_
     refine co_then ?_
     cases hc285 : (decide (((i : Nat) : Int) < 30))
     ·
      rw [hc285] at h284
      have hp286 : ¬ (((i : Nat) : Int) < 30) := of_decide_eq_false hc285
      clear hc285
      refine co_false h284 rfl ?_
      refine wp_exit ?_
      refine co_thenX ?_
      refine co_thenX ?_
      refine co_blockX ?_
      refine co_then ?_
      exact ⟨LL, sn, SA, SB, SC, h284.sub ⟨rfl, rfl, rfl, rfl, trivial⟩, by exact hHS, by exact hlo262, by exact hlo264, by exact hlo266, by exact hap268, by exact hap269, by exact hap270, hf257, hf258, hf259, hB260⟩
     ·
      rw [hc285] at h284
      have hp287 : ((i : Nat) : Int) < 30 := of_decide_eq_true hc285
      clear hc285
      refine co_true h284 rfl ?_
      refine wp_skip ?_
      refine co_then ?_
      refine co_seq ?_
      refine wp_block ?_
      refine co_seq ?_
      refine co_reg ?_
      refine pk0 (v := .int .i64 ((i : Nat) : Int)) h284 rfl fun a288 h288 => ?_; clear h284
      obtain ⟨f289, hf290⟩ : ∃ z, z = i % 4 := ⟨_, rfl⟩
      have hf4291 : f289 < 4 := by omega
      refine pk (v := .int .i64 ((f289 : Nat) : Int)) h288 rfl (by rw [show ((f289 : Nat) : Int) = ((i : Nat) : Int) % 4 by omega]; exact rn_rem rfl rfl rfl (by omega) (by omega)) fun a292 h292 => ?_; clear h288
      refine pk0 (v := .int .i64 ((f289 : Nat) : Int)) h292 rfl fun a293 h293 => ?_; clear h292
      refine pl_nil ?_
      refine co_then ?_
      refine co_seq ?_
      refine dr_gen (fun x => Below w.heap.size w x) (by kernel_rfl) (fun w294 hg295 => ?_) (fun w294 hg295 => ?_)
      ·
       have hz296 := hg295.size
       have hB297 := hb_new hB260 hg295
       exact hB297
      have hz298 := hg295.size
      have hB299 := hb_new hB260 hg295
      refine dk0 0 (v := .int .i64 ((f289 : Nat) : Int)) h293 rfl rfl hB299 fun a300 h300 => ?_; clear h293
      refine dk 1 (v := pt N4 f289) h300 rfl rfl hB299 (fun x hx => (rn_indexAtAny rfl rfl rfl (ixa_h4 N4 f289 (by omega)))) fun a301 h301 => ?_; clear h300
      refine dk0 3 (v := v) h301 rfl rfl hB299 fun a302 h302 => ?_; clear h301
      refine dk0 4 (v := .int .i64 ((i : Nat) : Int)) h302 rfl rfl hB299 fun a303 h303 => ?_; clear h302
      obtain ⟨y304, hy304⟩ : ∃ z, l[i]? = some z := ⟨_, List.getElem?_eq_getElem (by first | omega | (simp; done) | (simp; omega))⟩
      have oky304 := hok _ (List.mem_of_getElem? hy304)
      refine dk 5 (v := pt (blkOf v) (offOf v + i * 4)) h303 rfl rfl hB299 (fun x hx => (rn_index rfl rfl rfl Try.underlying22 Try.sizeOf31 (hs.below hx) (by omega) (by first | omega | (simp; done) | (simp; omega)))) fun a305 h305 => ?_; clear h303
      refine dk0 6 (v := pt (blkOf v) (offOf v + i * 4 + 1)) h305 rfl rfl hB299 fun a306 h306 => ?_; clear h305
      refine dk 7 (v := .int .i64 y304.n) h306 rfl rfl hB299 (fun x hx => (rn_load1 rfl rfl Try.isAgg3 ((sl_at (hs.below hx) hy304) 1 _ rfl))) fun a307 h307 => ?_; clear h306
      refine dk0 8 (v := v) h307 rfl rfl hB299 fun a308 h308 => ?_; clear h307
      refine dk0 9 (v := .int .i64 ((i : Nat) : Int)) h308 rfl rfl hB299 fun a309 h309 => ?_; clear h308
      refine dk 10 (v := pt (blkOf v) (offOf v + i * 4)) h309 rfl rfl hB299 (fun x hx => (rn_index rfl rfl rfl Try.underlying22 Try.sizeOf31 (hs.below hx) (by omega) (by first | omega | (simp; done) | (simp; omega)))) fun a310 h310 => ?_; clear h309
      refine dk0 11 (v := pt (blkOf v) (offOf v + i * 4 + 2)) h310 rfl rfl hB299 fun a311 h311 => ?_; clear h310
      refine dk 12 (v := .string y304.s) h311 rfl rfl hB299 (fun x hx => (rn_load1 rfl rfl Try.isAgg9 ((sl_at (hs.below hx) hy304) 2 _ rfl))) fun a312 h312 => ?_; clear h311
      refine dr_many [2] (by kernel_rfl) (by simp) ⟨?_, trivial⟩
      ·
       have hO313 := HubsO.gr hf257 hg295 (fun k e => by cases e)
       refine dr_opVal (i := 2) (v := pt (q f289) 0) h312 rfl rfl rfl rfl (by kernel_rfl) rfl (rn_load1 rfl rfl Try.isAgg23 (HubsO.cell hO313 (by omega))) hB299 (fun a314 h314 => ?_); clear h312
       have ho317 := HubsO.ofS hO313
       have hO319 := LstO.gr hf258 hg295 (fun k e => by cases e)
       have ho318 := LstO.ofS hO319
       have hO321 := LstO.gr hf259 hg295 (fun k e => by cases e)
       have ho320 := LstO.ofS hO321
       refine d1 13 h314 rfl rfl (op_call (args := #[pt (q f289) 0, .int .i64 y304.n, .string y304.s]) (R := fun res xw => ∃ S' : Nat → Prop, res = .int .i64 (sendE LL f289 y304.n y304.s) ∧ HubsO S' xw N4 q (sendLL LL f289 y304.n y304.s) ∧ Grew SA S' w294 xw) rfl rfl rfl (by kernel_rfl) (by kernel_rfl) (Try.call8 _ _) (hubsSend w294 (by omega) hO313 y304.n y304.s) (by rintro e x ⟨S', h0, h⟩; exact ⟨_, h0, S', rfl, h⟩)) ?_ ?_; clear h314
       ·
        rintro _ w316 ⟨S322, rfl, hO323, hx324⟩
        have hlo326 : ∀ q, S322 q → w.heap.size ≤ q := hx324.lo hlo262 (by omega)
        have hB325 := hbL hB299 hlo262 hx324.but
        have hz327 := hB325.size
        have hz328 := hx324.but.size
        exact hB325
       rintro _ w316 a315 ⟨S322, rfl, hO323, hx324⟩ h315
       have hlo326 : ∀ q, S322 q → w.heap.size ≤ q := hx324.lo hlo262 (by omega)
       have hB325 := hbL hB299 hlo262 hx324.but
       have hz327 := hB325.size
       have hz328 := hx324.but.size
       refine dk0 14 (v := .bool ((sendE LL f289 y304.n y304.s) == 0)) h315 rfl rfl hB325 fun a329 h329 => ?_; clear h315
       refine dr_done (by kernel_rfl) ?_
       refine co_then ?_
       cases hc330 : ((sendE LL f289 y304.n y304.s) == 0)
       ·
        rw [hc330] at h329
        have hp331 : ¬ ((sendE LL f289 y304.n y304.s) = 0) := by first | simpa using hc330 | simpa [and_assoc] using hc330
        clear hc330
        refine co_false h329 rfl ?_
        refine wp_skip ?_
        refine co_blockN ?_
        refine co_then ?_
        refine co_reg ?_
        refine pk0 (v := .int .i64 ((i : Nat) : Int)) h329 rfl fun a332 h332 => ?_; clear h329
        refine pk (v := .int .i64 ((i + 1 : Nat) : Int)) h332 rfl (rn_arith' rfl rfl rfl rfl rfl rfl (IntWalk.i64_in _ (by omega)) (by omega)) fun a333 h333 => ?_; clear h332
        refine pk0 (v := .int .i64 ((i + 1 : Nat) : Int)) h333 rfl fun a334 h334 => ?_; clear h333
        refine pl_nil ?_
        refine co_then ?_
        refine ⟨(30 - (i + 1)), by omega, ?_⟩
        have hO335 := LstO.but hO319 hx324.but (ap_symm hap268)
        have hO336 := LstO.but hO321 hx324.but (ap_symm hap269)
        exact ⟨i + 1, (sendLL LL f289 y304.n y304.s), sn, S322, SB, SC, h334.sub ⟨rfl, rfl, rfl, rfl, rfl, trivial⟩, rfl, by omega, by omega, by omega, by rw [send_no (by assumption)]; exact hHS, by rw [send_no (by assumption)]; exact hF0, by exact hlo326, by exact hlo264, by exact hlo266, by exact (ap_symm (ap_symm (Grew.ap hx324 (ap_symm (ap_symm hap268)) (LstO.ofS hO319)))), by exact (ap_symm (ap_symm (Grew.ap hx324 (ap_symm (ap_symm hap269)) (LstO.ofS hO321)))), by exact hap270, hO323, hO335, hO336, hB325⟩
       ·
        rw [hc330] at h329
        have hp337 : (sendE LL f289 y304.n y304.s) = 0 := by first | simpa using hc330 | simpa [and_assoc] using hc330
        clear hc330
        refine co_true h329 rfl ?_
        refine dr_gen (fun x => Below w.heap.size w x) (by kernel_rfl) (fun w338 hg339 => ?_) (fun w338 hg339 => ?_)
        ·
         have hz340 := hg339.size
         have hB341 := hb_new hB325 hg339
         exact hB341
        have hz342 := hg339.size
        have hB343 := hb_new hB325 hg339
        have hsd9 := send_ok (by assumption : sendE LL f289 y304.n y304.s = 0)
        have hsdn : (0 ≤ y304.n ∧ y304.n < 4) ∧ y304.n.toNat ≠ f289 := hsd9.1
        have hsl9 := HS.len hHS (a := f289) (b := y304.n.toNat) (by omega) (by omega)
        refine dk0 0 (v := .int .i64 ((f289 : Nat) : Int)) h329 rfl rfl hB343 fun a344 h344 => ?_; clear h329
        refine dk0 1 (v := v) h344 rfl rfl hB343 fun a345 h345 => ?_; clear h344
        refine dk0 2 (v := .int .i64 ((i : Nat) : Int)) h345 rfl rfl hB343 fun a346 h346 => ?_; clear h345
        refine dk 3 (v := pt (blkOf v) (offOf v + i * 4)) h346 rfl rfl hB343 (fun x hx => (rn_index rfl rfl rfl Try.underlying22 Try.sizeOf31 (hs.below hx) (by omega) (by first | omega | (simp; done) | (simp; omega)))) fun a347 h347 => ?_; clear h346
        refine dk0 4 (v := pt (blkOf v) (offOf v + i * 4 + 1)) h347 rfl rfl hB343 fun a348 h348 => ?_; clear h347
        refine dk 5 (v := .int .i64 y304.n) h348 rfl rfl hB343 (fun x hx => (rn_load1 rfl rfl Try.isAgg3 ((sl_at (hs.below hx) hy304) 1 _ rfl))) fun a349 h349 => ?_; clear h348
        refine dk0 6 (v := .int .i64 ((f289 : Nat) : Int)) h349 rfl rfl hB343 fun a350 h350 => ?_; clear h349
        refine dk0 7 (v := v) h350 rfl rfl hB343 fun a351 h351 => ?_; clear h350
        refine dk0 8 (v := .int .i64 ((i : Nat) : Int)) h351 rfl rfl hB343 fun a352 h352 => ?_; clear h351
        refine dk 9 (v := pt (blkOf v) (offOf v + i * 4)) h352 rfl rfl hB343 (fun x hx => (rn_index rfl rfl rfl Try.underlying22 Try.sizeOf31 (hs.below hx) (by omega) (by first | omega | (simp; done) | (simp; omega)))) fun a353 h353 => ?_; clear h352
        refine dk0 10 (v := pt (blkOf v) (offOf v + i * 4 + 1)) h353 rfl rfl hB343 fun a354 h354 => ?_; clear h353
        refine dk 11 (v := .int .i64 y304.n) h354 rfl rfl hB343 (fun x hx => (rn_load1 rfl rfl Try.isAgg3 ((sl_at (hs.below hx) hy304) 1 _ rfl))) fun a355 h355 => ?_; clear h354
        refine dk 12 (v := pt N216 (4 * f289)) h355 rfl rfl hB343 (fun x hx => (rn_indexAtAny rfl rfl rfl (ixa_a4 N216 f289 (by omega)))) fun a356 h356 => ?_; clear h355
        refine dk 13 (v := pt N216 (4 * f289 + y304.n.toNat)) h356 rfl rfl hB343 (fun x hx => (rn_indexAtAny rfl rfl rfl (fun w => by rw [show y304.n = ((y304.n.toNat : Nat) : Int) by omega]; exact ixa_b4 N216 (4 * f289) y304.n.toNat (by omega) w))) fun a357 h357 => ?_; clear h356
        refine dk0 15 (v := v) h357 rfl rfl hB343 fun a358 h358 => ?_; clear h357
        refine dk0 16 (v := .int .i64 ((i : Nat) : Int)) h358 rfl rfl hB343 fun a359 h359 => ?_; clear h358
        refine dk 17 (v := pt (blkOf v) (offOf v + i * 4)) h359 rfl rfl hB343 (fun x hx => (rn_index rfl rfl rfl Try.underlying22 Try.sizeOf31 (hs.below hx) (by omega) (by first | omega | (simp; done) | (simp; omega)))) fun a360 h360 => ?_; clear h359
        refine dk0 18 (v := pt (blkOf v) (offOf v + i * 4 + 2)) h360 rfl rfl hB343 fun a361 h361 => ?_; clear h360
        refine dk 19 (v := .string y304.s) h361 rfl rfl hB343 (fun x hx => (rn_load1 rfl rfl Try.isAgg9 ((sl_at (hs.below hx) hy304) 2 _ rfl))) fun a362 h362 => ?_; clear h361
        refine dk 22 (v := pt N216 (4 * f289)) h362 rfl rfl hB343 (fun x hx => (rn_indexAtAny rfl rfl rfl (ixa_a4 N216 f289 (by omega)))) fun a363 h363 => ?_; clear h362
        refine dr_many [14, 20] (by kernel_rfl) (by simp) ⟨?_, ?_, trivial⟩
        ·
         have hO366 := LstO.but hO319 hx324.but (ap_symm hap268)
         have hO367 := LstO.gr hO366 hg339 (fun k e => by cases e)
         have hO371 := LstO.but hO321 hx324.but (ap_symm hap269)
         have hO372 := LstO.gr hO371 hg339 (fun k e => by cases e)
         have hO374 := HubsO.gr hO323 hg339 (fun k e => by cases e)
         obtain ⟨V364, hQ365⟩ := hO367
         have hm369 : ∀ k, (Value.ownBlock (V364 (4 * f289 + y304.n.toNat))) = some k → SB k := fun k hk => (hQ365.fp k).2 (.inr ⟨4 * f289 + y304.n.toNat, by omega, hk⟩)
         have hr368 := row_raise (hQ365.row (4 * f289 + y304.n.toNat) (by omega)) (fun k hk => hlo264 k (hm369 k hk))
         have hof370 := LstO.ofS hO372
         have hof373 := HubsO.ofS hO374
         have hof375 := LstQ.ofS hQ365
         have hnn376 : w.heap.size ≤ w338.heap.size := by omega
         have hbd377 : (flatL sn (4 * f289 + y304.n.toNat)).length ≤ 8 := by rw [flatL_at (by omega)]; exact hsl9
         refine dr_opVal (i := 14) (v := (V364 (4 * f289 + y304.n.toNat))) h363 rfl rfl rfl rfl (by kernel_rfl) rfl (rn_load1 rfl rfl Try.isAgg37 (hQ365.cell (by omega))) hB343 (fun a378 h378 => ?_); clear h363
         refine d1 20 h378 rfl rfl (op_new (v := fun N => .slice (some ⟨N, 0, none⟩) 1 1) (T := 9) (cs := #[.string y304.s]) (by kernel_rfl) (by kernel_rfl) (by kernel_rfl)) ?_ ?_; clear h378
         ·
          rintro _ w380 ⟨N381, rfl, hN384, hz385, hk383, hg382⟩
          have ha386 := row_fresh hr368 hN384
          have hz387 := hg382.size
          have ho388 := off_new (LstO.ofS hO372) hN384
          have ho389 := off_new (HubsO.ofS hO374) hN384
          have ho390 := off_new (LstQ.ofS hQ365) hN384
          have hB391 := hb_new hB343 hg382
          exact hB391
         rintro _ w380 a379 ⟨N381, rfl, hN384, hz385, hk383, hg382⟩ h379
         have ha386 := row_fresh hr368 hN384
         have hz387 := hg382.size
         have ho388 := off_new (LstO.ofS hO372) hN384
         have ho389 := off_new (HubsO.ofS hO374) hN384
         have ho390 := off_new (LstQ.ofS hQ365) hN384
         try dsimp only at h379
         have hB391 := hb_new hB343 hg382
         have hr398 := row_kept_new hr368 hg382
         refine d1 21 h379 rfl rfl (op_appendF rfl w.heap.size 9 (z := .string (⟨#[]⟩)) (size := 1) (bytes := 16) Try.underlying37 (by kernel_rfl) rfl rfl rfl hr398 rfl hk383 rfl (by kernel_rfl) (by first | omega | (simp only [List.length_nil, List.length_append, List.length_cons, List.length_take, List.length_drop]; omega)) (by first | omega | (simp only [List.length_nil, List.length_append, List.length_cons, List.length_take, List.length_drop]; omega)) (by omega)) ?_ ?_; clear h379
         ·
          rintro v394 w393 ⟨hr395, hwt397, hg396⟩
          have hr395' : w393.ownsRow w.heap.size 9 1 v394 (((flatL sn (4 * f289 + y304.n.toNat)) ++ [y304.s]).length) (((flatL sn (4 * f289 + y304.n.toNat)) ++ [y304.s]).flatMap strE) := row_push (y := y304.s) hr395 rfl rfl; clear hr395
          have hO401 := LstO.gr hO372 hg382 (fun k e => by cases e)
          have ho400 := LstO.ofS hO401
          have ho399 := offR_went (fun k hk h => hap270 k (hm369 k hk) h) ho400 hwt397
          have hO404 := HubsO.gr hO374 hg382 (fun k e => by cases e)
          have ho403 := HubsO.ofS hO404
          have ho402 := offR_went (fun k hk h => (ap_symm (Grew.ap hx324 (ap_symm (ap_symm hap268)) (LstO.ofS hO319))) k (hm369 k hk) h) ho403 hwt397
          have hz405 := hg396.size
          have hB406 := hb_row hB391 hr398 (by omega) hg396
          exact hB406
         rintro v394 w393 a392 ⟨hr395, hwt397, hg396⟩ h392
         have hr395' : w393.ownsRow w.heap.size 9 1 v394 (((flatL sn (4 * f289 + y304.n.toNat)) ++ [y304.s]).length) (((flatL sn (4 * f289 + y304.n.toNat)) ++ [y304.s]).flatMap strE) := row_push (y := y304.s) hr395 rfl rfl; clear hr395
         have hO401 := LstO.gr hO372 hg382 (fun k e => by cases e)
         have ho400 := LstO.ofS hO401
         have ho399 := offR_went (fun k hk h => hap270 k (hm369 k hk) h) ho400 hwt397
         have hO404 := HubsO.gr hO374 hg382 (fun k e => by cases e)
         have ho403 := HubsO.ofS hO404
         have ho402 := offR_went (fun k hk h => (ap_symm (Grew.ap hx324 (ap_symm (ap_symm hap268)) (LstO.ofS hO319))) k (hm369 k hk) h) ho403 hwt397
         have hz405 := hg396.size
         have hB406 := hb_row hB391 hr398 (by omega) hg396
         refine dk 23 (v := pt N216 (4 * f289 + y304.n.toNat)) h392 rfl rfl hB406 (fun x hx => (rn_indexAtAny rfl rfl rfl (fun w => by rw [show y304.n = ((y304.n.toNat : Nat) : Int) by omega]; exact ixa_b4 N216 (4 * f289) y304.n.toNat (by omega) w))) fun a407 h407 => ?_; clear h392
         have hO413 := LstQ.gr hQ365 hg382 (fun k e => by cases e)
         have hO414 := LstQ.hole hO413 (by omega) hg396
         refine d1D 24 h407 rfl rfl (op_store1 (k := (4 * f289 + y304.n.toNat)) rfl rfl rfl (row_one hr395') Try.sizeOf37 (LstH.blk hO414) (arr_blt (by omega))) ?_ ?_; clear h407
         ·
          rintro _ w409 ⟨hk410, hz411, hg412⟩
          obtain ⟨S415, hL416, hsub417⟩ := LstH.fill (u := v394) (l := ((flatL sn (4 * f289 + y304.n.toNat)) ++ [y304.s])) hO414 (by omega) hk410 hg412 (n0 := w338.heap.size) (by omega) (row_lows hr395' (Nat.zero_le _)) (went_le hwt397 (by omega)) hof375
          have hbm418 : SB N216 := LstH.mem hO414
          have hz419 := hg412.size
          have hO420 : LstO S415 w409 N216 (flatL (fun a b => if a = f289 ∧ b = y304.n.toNat then sn f289 y304.n.toNat ++ [y304.s] else sn a b)) := LstO.congr hL416 (flatL_set (by omega) (fun x z _ _ => by rw [flatL_at (by omega)]))
          have hlo421 : ∀ q, S415 q → w.heap.size ≤ q := lo_fill hsub417 hlo264 hnn376
          have hap422 : ∀ q, S415 q → SC q → False := ap_fill hsub417 hap270 hof370
          have hap423 : ∀ q, S415 q → S322 q → False := ap_fill hsub417 (ap_symm (Grew.ap hx324 (ap_symm (ap_symm hap268)) (LstO.ofS hO319))) hof373
          have hB424 := hb_at hB406 hg412 (by omega)
          exact hB424
         rintro _ w409 a408 ⟨hk410, hz411, hg412⟩ h408
         obtain ⟨S415, hL416, hsub417⟩ := LstH.fill (u := v394) (l := ((flatL sn (4 * f289 + y304.n.toNat)) ++ [y304.s])) hO414 (by omega) hk410 hg412 (n0 := w338.heap.size) (by omega) (row_lows hr395' (Nat.zero_le _)) (went_le hwt397 (by omega)) hof375
         have hbm418 : SB N216 := LstH.mem hO414
         have hz419 := hg412.size
         have hO420 : LstO S415 w409 N216 (flatL (fun a b => if a = f289 ∧ b = y304.n.toNat then sn f289 y304.n.toNat ++ [y304.s] else sn a b)) := LstO.congr hL416 (flatL_set (by omega) (fun x z _ _ => by rw [flatL_at (by omega)]))
         have hlo421 : ∀ q, S415 q → w.heap.size ≤ q := lo_fill hsub417 hlo264 hnn376
         have hap422 : ∀ q, S415 q → SC q → False := ap_fill hsub417 hap270 hof370
         have hap423 : ∀ q, S415 q → S322 q → False := ap_fill hsub417 (ap_symm (Grew.ap hx324 (ap_symm (ap_symm hap268)) (LstO.ofS hO319))) hof373
         refine dr_done (by kernel_rfl) ?_
         refine co_blockN ?_
         refine co_then ?_
         refine co_reg ?_
         refine pk0 (v := .int .i64 ((i : Nat) : Int)) h408 rfl fun a424 h424 => ?_; clear h408
         refine pk (v := .int .i64 ((i + 1 : Nat) : Int)) h424 rfl (rn_arith' rfl rfl rfl rfl rfl rfl (IntWalk.i64_in _ (by omega)) (by omega)) fun a425 h425 => ?_; clear h424
         refine pk0 (v := .int .i64 ((i + 1 : Nat) : Int)) h425 rfl fun a426 h426 => ?_; clear h425
         refine pl_nil ?_
         refine co_then ?_
         refine ⟨(30 - (i + 1)), by omega, ?_⟩
         have hO427 := HubsO.gr hO404 hg396 (fun k e => (fun k hk h => (ap_symm (Grew.ap hx324 (ap_symm (ap_symm hap268)) (LstO.ofS hO319))) k (hm369 k hk) h) k e)
         have hO428 := HubsO.gr hO427 hg412 (fun k e => by cases e; exact (fun h => (ap_symm (Grew.ap hx324 (ap_symm (ap_symm hap268)) (LstO.ofS hO319))) _ hbm418 h))
         have hO429 := LstO.gr hO401 hg396 (fun k e => (fun k hk h => hap270 k (hm369 k hk) h) k e)
         have hO430 := LstO.gr hO429 hg412 (fun k e => by cases e; exact (fun h => hap270 _ hbm418 h))
         have hB431 := hb_at hB406 hg412 (by omega)
         exact ⟨i + 1, (sendLL LL f289 y304.n y304.s), (fun a b => if a = f289 ∧ b = y304.n.toNat then sn f289 y304.n.toNat ++ [y304.s] else sn a b), S322, S415, SC, h426.sub ⟨rfl, rfl, rfl, rfl, rfl, trivial⟩, rfl, by omega, by omega, by omega, by rw [hsd9.2.2]; exact (HS.send hHS hF0 (by omega) (by omega) hsd9.1.2 hsd9.2.1).1, by rw [hsd9.2.2]; exact (HS.send hHS hF0 (by omega) (by omega) hsd9.1.2 hsd9.2.1).2, by exact hlo326, by exact hlo421, by exact hlo266, by exact (ap_symm hap423), by exact (ap_symm (ap_symm (Grew.ap hx324 (ap_symm (ap_symm hap269)) (LstO.ofS hO321)))), by exact hap422, hO428, hO420, hO430, hB431⟩
        ·
         refine dr_op (i := 20) h363 rfl rfl rfl rfl (op_new (v := fun N => .slice (some ⟨N, 0, none⟩) 1 1) (T := 9) (cs := #[.string y304.s]) (by kernel_rfl) (by kernel_rfl) (by kernel_rfl)) ?_ ?_; clear h363
         ·
          rintro _ w433 ⟨N434, rfl, hN437, hz438, hk436, hg435⟩
          have hz439 := hg435.size
          have hO441 := LstO.but hO319 hx324.but (ap_symm hap268)
          have hO442 := LstO.gr hO441 hg339 (fun k e => by cases e)
          have ho440 := off_new (LstO.ofS hO442) hN437
          have hO444 := LstO.but hO321 hx324.but (ap_symm hap269)
          have hO445 := LstO.gr hO444 hg339 (fun k e => by cases e)
          have ho443 := off_new (LstO.ofS hO445) hN437
          have hO447 := HubsO.gr hO323 hg339 (fun k e => by cases e)
          have ho446 := off_new (HubsO.ofS hO447) hN437
          have hB448 := hb_new hB343 hg435
          exact hB448
         rintro _ w433 a432 ⟨N434, rfl, hN437, hz438, hk436, hg435⟩ h432
         have hz439 := hg435.size
         have hO441 := LstO.but hO319 hx324.but (ap_symm hap268)
         have hO442 := LstO.gr hO441 hg339 (fun k e => by cases e)
         have ho440 := off_new (LstO.ofS hO442) hN437
         have hO444 := LstO.but hO321 hx324.but (ap_symm hap269)
         have hO445 := LstO.gr hO444 hg339 (fun k e => by cases e)
         have ho443 := off_new (LstO.ofS hO445) hN437
         have hO447 := HubsO.gr hO323 hg339 (fun k e => by cases e)
         have ho446 := off_new (HubsO.ofS hO447) hN437
         try dsimp only at h432
         have hB448 := hb_new hB343 hg435
         refine dr_many [14] (by kernel_rfl) (by simp) ⟨?_, trivial⟩
         ·
          have hO451 := LstO.gr hO442 hg435 (fun k e => by cases e)
          have hO455 := LstO.gr hO445 hg435 (fun k e => by cases e)
          have hO457 := HubsO.gr hO447 hg435 (fun k e => by cases e)
          obtain ⟨V449, hQ450⟩ := hO451
          have hm453 : ∀ k, (Value.ownBlock (V449 (4 * f289 + y304.n.toNat))) = some k → SB k := fun k hk => (hQ450.fp k).2 (.inr ⟨4 * f289 + y304.n.toNat, by omega, hk⟩)
          have hr452 := row_raise (hQ450.row (4 * f289 + y304.n.toNat) (by omega)) (fun k hk => hlo264 k (hm453 k hk))
          have hof454 := LstO.ofS hO455
          have hof456 := HubsO.ofS hO457
          have hof458 := LstQ.ofS hQ450
          have hbl459 := Blk.lt hk436
          have hnn460 : w.heap.size ≤ w433.heap.size := by omega
          have hbd461 : (flatL sn (4 * f289 + y304.n.toNat)).length ≤ 8 := by rw [flatL_at (by omega)]; exact hsl9
          refine dr_opVal (i := 14) (v := (V449 (4 * f289 + y304.n.toNat))) h432 rfl rfl rfl rfl (by kernel_rfl) rfl (rn_load1 rfl rfl Try.isAgg37 (hQ450.cell (by omega))) hB448 (fun a462 h462 => ?_); clear h432
          refine d1 21 h462 rfl rfl (op_appendF rfl w.heap.size 9 (z := .string (⟨#[]⟩)) (size := 1) (bytes := 16) Try.underlying37 (by kernel_rfl) rfl rfl rfl hr452 rfl hk436 rfl (by kernel_rfl) (by first | omega | (simp only [List.length_nil, List.length_append, List.length_cons, List.length_take, List.length_drop]; omega)) (by first | omega | (simp only [List.length_nil, List.length_append, List.length_cons, List.length_take, List.length_drop]; omega)) (by omega)) ?_ ?_; clear h462
          ·
           rintro v465 w464 ⟨hr466, hwt468, hg467⟩
           have hr466' : w464.ownsRow w.heap.size 9 1 v465 (((flatL sn (4 * f289 + y304.n.toNat)) ++ [y304.s]).length) (((flatL sn (4 * f289 + y304.n.toNat)) ++ [y304.s]).flatMap strE) := row_push (y := y304.s) hr466 rfl rfl; clear hr466
           have ho470 := LstO.ofS hO455
           have ho469 := offR_went (fun k hk h => hap270 k (hm453 k hk) h) ho470 hwt468
           have ho472 := HubsO.ofS hO457
           have ho471 := offR_went (fun k hk h => (ap_symm (Grew.ap hx324 (ap_symm (ap_symm hap268)) (LstO.ofS hO319))) k (hm453 k hk) h) ho472 hwt468
           have hz473 := hg467.size
           have hB474 := hb_row hB448 hr452 (by omega) hg467
           exact hB474
          rintro v465 w464 a463 ⟨hr466, hwt468, hg467⟩ h463
          have hr466' : w464.ownsRow w.heap.size 9 1 v465 (((flatL sn (4 * f289 + y304.n.toNat)) ++ [y304.s]).length) (((flatL sn (4 * f289 + y304.n.toNat)) ++ [y304.s]).flatMap strE) := row_push (y := y304.s) hr466 rfl rfl; clear hr466
          have ho470 := LstO.ofS hO455
          have ho469 := offR_went (fun k hk h => hap270 k (hm453 k hk) h) ho470 hwt468
          have ho472 := HubsO.ofS hO457
          have ho471 := offR_went (fun k hk h => (ap_symm (Grew.ap hx324 (ap_symm (ap_symm hap268)) (LstO.ofS hO319))) k (hm453 k hk) h) ho472 hwt468
          have hz473 := hg467.size
          have hB474 := hb_row hB448 hr452 (by omega) hg467
          refine dk 23 (v := pt N216 (4 * f289 + y304.n.toNat)) h463 rfl rfl hB474 (fun x hx => (rn_indexAtAny rfl rfl rfl (fun w => by rw [show y304.n = ((y304.n.toNat : Nat) : Int) by omega]; exact ixa_b4 N216 (4 * f289) y304.n.toNat (by omega) w))) fun a475 h475 => ?_; clear h463
          have hO481 := LstQ.hole hQ450 (by omega) hg467
          refine d1D 24 h475 rfl rfl (op_store1 (k := (4 * f289 + y304.n.toNat)) rfl rfl rfl (row_one hr466') Try.sizeOf37 (LstH.blk hO481) (arr_blt (by omega))) ?_ ?_; clear h475
          ·
           rintro _ w477 ⟨hk478, hz479, hg480⟩
           obtain ⟨S482, hL483, hsub484⟩ := LstH.fill (u := v465) (l := ((flatL sn (4 * f289 + y304.n.toNat)) ++ [y304.s])) hO481 (by omega) hk478 hg480 (n0 := w433.heap.size) (by omega) (row_lows hr466' (Nat.zero_le _)) (went_le hwt468 (by omega)) hof458
           have hbm485 : SB N216 := LstH.mem hO481
           have hz486 := hg480.size
           have hO487 : LstO S482 w477 N216 (flatL (fun a b => if a = f289 ∧ b = y304.n.toNat then sn f289 y304.n.toNat ++ [y304.s] else sn a b)) := LstO.congr hL483 (flatL_set (by omega) (fun x z _ _ => by rw [flatL_at (by omega)]))
           have hlo488 : ∀ q, S482 q → w.heap.size ≤ q := lo_fill hsub484 hlo264 hnn460
           have hap489 : ∀ q, S482 q → SC q → False := ap_fill hsub484 hap270 hof454
           have hap490 : ∀ q, S482 q → S322 q → False := ap_fill hsub484 (ap_symm (Grew.ap hx324 (ap_symm (ap_symm hap268)) (LstO.ofS hO319))) hof456
           have hB491 := hb_at hB474 hg480 (by omega)
           exact hB491
          rintro _ w477 a476 ⟨hk478, hz479, hg480⟩ h476
          obtain ⟨S482, hL483, hsub484⟩ := LstH.fill (u := v465) (l := ((flatL sn (4 * f289 + y304.n.toNat)) ++ [y304.s])) hO481 (by omega) hk478 hg480 (n0 := w433.heap.size) (by omega) (row_lows hr466' (Nat.zero_le _)) (went_le hwt468 (by omega)) hof458
          have hbm485 : SB N216 := LstH.mem hO481
          have hz486 := hg480.size
          have hO487 : LstO S482 w477 N216 (flatL (fun a b => if a = f289 ∧ b = y304.n.toNat then sn f289 y304.n.toNat ++ [y304.s] else sn a b)) := LstO.congr hL483 (flatL_set (by omega) (fun x z _ _ => by rw [flatL_at (by omega)]))
          have hlo488 : ∀ q, S482 q → w.heap.size ≤ q := lo_fill hsub484 hlo264 hnn460
          have hap489 : ∀ q, S482 q → SC q → False := ap_fill hsub484 hap270 hof454
          have hap490 : ∀ q, S482 q → S322 q → False := ap_fill hsub484 (ap_symm (Grew.ap hx324 (ap_symm (ap_symm hap268)) (LstO.ofS hO319))) hof456
          refine dr_done (by kernel_rfl) ?_
          refine co_blockN ?_
          refine co_then ?_
          refine co_reg ?_
          refine pk0 (v := .int .i64 ((i : Nat) : Int)) h476 rfl fun a491 h491 => ?_; clear h476
          refine pk (v := .int .i64 ((i + 1 : Nat) : Int)) h491 rfl (rn_arith' rfl rfl rfl rfl rfl rfl (IntWalk.i64_in _ (by omega)) (by omega)) fun a492 h492 => ?_; clear h491
          refine pk0 (v := .int .i64 ((i + 1 : Nat) : Int)) h492 rfl fun a493 h493 => ?_; clear h492
          refine pl_nil ?_
          refine co_then ?_
          refine ⟨(30 - (i + 1)), by omega, ?_⟩
          have hO494 := HubsO.gr hO457 hg467 (fun k e => (fun k hk h => (ap_symm (Grew.ap hx324 (ap_symm (ap_symm hap268)) (LstO.ofS hO319))) k (hm453 k hk) h) k e)
          have hO495 := HubsO.gr hO494 hg480 (fun k e => by cases e; exact (fun h => (ap_symm (Grew.ap hx324 (ap_symm (ap_symm hap268)) (LstO.ofS hO319))) _ hbm485 h))
          have hO496 := LstO.gr hO455 hg467 (fun k e => (fun k hk h => hap270 k (hm453 k hk) h) k e)
          have hO497 := LstO.gr hO496 hg480 (fun k e => by cases e; exact (fun h => hap270 _ hbm485 h))
          have hB498 := hb_at hB474 hg480 (by omega)
          exact ⟨i + 1, (sendLL LL f289 y304.n y304.s), (fun a b => if a = f289 ∧ b = y304.n.toNat then sn f289 y304.n.toNat ++ [y304.s] else sn a b), S322, S482, SC, h493.sub ⟨rfl, rfl, rfl, rfl, rfl, trivial⟩, rfl, by omega, by omega, by omega, by rw [hsd9.2.2]; exact (HS.send hHS hF0 (by omega) (by omega) hsd9.1.2 hsd9.2.1).1, by rw [hsd9.2.2]; exact (HS.send hHS hF0 (by omega) (by omega) hsd9.1.2 hsd9.2.1).2, by exact hlo326, by exact hlo488, by exact hlo266, by exact (ap_symm hap490), by exact (ap_symm (ap_symm (Grew.ap hx324 (ap_symm (ap_symm hap269)) (LstO.ofS hO321)))), by exact hap489, hO495, hO487, hO497, hB498⟩
 rintro a499 w500 ⟨LL, sn, SA, SB, SC, h499, hi501, hi502, hi503, hi504, hi505, hi506, hi507, hf508, hf509, hf510, hB511⟩
 have hz512 := hB511.size
 have hge513 : w.heap.size ≤ N4 := by omega
 have hge514 : w.heap.size ≤ N216 := by omega
 have hge515 : w.heap.size ≤ N225 := by omega
 have hne516 : N4 < N216 := by omega
 have hne517 : N216 < N225 := by omega
 first | clear hz512 hz230 hN228 hz229 hz221 hN219 hz220 hlt213 hz212 hz9 hN7 hz8 | (try clear hz512; try clear hz230; try clear hN228; try clear hz229; try clear hz221; try clear hN219; try clear hz220; try clear hlt213; try clear hz212; try clear hz9; try clear hN7; try clear hz8)
 have hz518 := hB511.size
 have hlo519 : ∀ q, SA q → w.heap.size ≤ q := by assumption
 have hlt520 := HubsO.lt hf508
 have hlo521 : ∀ q, SB q → w.heap.size ≤ q := by assumption
 have hlt522 := LstO.lt hf509
 have hlo523 : ∀ q, SC q → w.heap.size ≤ q := by assumption
 have hlt524 := LstO.lt hf510
 have hap525 : ∀ q, SA q → SB q → False := by assumption
 have hap526 : ∀ q, SA q → SC q → False := by assumption
 have hap527 : ∀ q, SB q → SC q → False := by assumption
 have hHS : HS LL sn (fun _ _ => []) := by assumption
 refine co_cut (fun a x => ∃ (R8 : LLT) (G8 : SLT) (SE8 : Nat → Prop) (SB8 : Nat → Prop) (SF8 : Nat → Prop), Slots 195 [(3, pt N4 0), (7, pt N216 0), (8, pt N225 0)] a ∧ (∀ i k, i < 4 → k < 4 → G8 i k = sn i k ∧ (i ≠ k → (R8 i k).q = [])) ∧ (∀ q, SE8 q → w.heap.size ≤ q) ∧ (∀ q, SB8 q → w.heap.size ≤ q) ∧ (∀ q, SF8 q → w.heap.size ≤ q) ∧ (∀ q, SE8 q → SB8 q → False) ∧ (∀ q, SE8 q → SF8 q → False) ∧ (∀ q, SB8 q → SF8 q → False) ∧ HubsO SE8 x N4 q R8 ∧ LstO SB8 x N216 (flatL sn) ∧ LstO SF8 x N225 (flatL G8) ∧ Below w.heap.size w x) ?_ ?_
 ·
  refine co_seq ?_
  refine co_reg ?_
  refine pk0 (v := .int .i64 0) h499 rfl fun a528 h528 => ?_; clear h499
  refine pl_nil ?_
  refine co_then ?_
  refine wp_block ?_
  have h529 : Slots 195 [(0, v), (3, pt N4 0), (7, pt N216 0), (8, pt N225 0), (11, .int .i64 0)] _ := h528.sub ⟨rfl, rfl, rfl, rfl, rfl, trivial⟩; clear h528
  refine co_loop (fun mm a x => ∃ (r : Nat) (SE : Nat → Prop) (SF : Nat → Prop), Slots 195 [(0, v), (3, pt N4 0), (7, pt N216 0), (8, pt N225 0), (11, .int .i64 ((r : Nat) : Int))] a ∧ mm = 8 - r ∧ (r ≤ 8) ∧ (∀ q, SE q → w.heap.size ≤ q) ∧ (∀ q, SB q → w.heap.size ≤ q) ∧ (∀ q, SF q → w.heap.size ≤ q) ∧ (∀ q, SE q → SB q → False) ∧ (∀ q, SE q → SF q → False) ∧ (∀ q, SB q → SF q → False) ∧ HubsO SE x N4 q (RDs LL r) ∧ LstO SB x N216 (flatL sn) ∧ LstO SF x N225 (flatL (GTs LL r)) ∧ Below w.heap.size w x) (8 - 0) ?_ ?_
  · exact ⟨0, SA, SC, h529.sub ⟨rfl, rfl, rfl, rfl, (slot_eq rfl (congrArg (Value.int .i64) (by first | rfl | omega))), trivial⟩, rfl, by omega, by exact hlo519, by exact hlo521, by exact hlo523, by exact hap525, by exact hap526, by exact hap527, hf508, hf509, hf510, hB511⟩
  · rintro k530 a531 w532 ⟨r, SE, SF, h531, rfl, hi533, hi534, hi535, hi536, hi537, hi538, hi539, hf540, hf541, hf542, hB543⟩
    have hz544 := hB543.size
    have hge545 : w.heap.size ≤ N4 := by omega
    have hge546 : w.heap.size ≤ N216 := by omega
    have hge547 : w.heap.size ≤ N225 := by omega
    have hne548 : N4 < N216 := by omega
    have hne549 : N216 < N225 := by omega
    first | clear hz544 hlt524 hlt522 hlt520 hz518 hz512 hz230 hN228 hz229 hz221 hN219 hz220 | (try clear hz544; try clear hlt524; try clear hlt522; try clear hlt520; try clear hz518; try clear hz512; try clear hz230; try clear hN228; try clear hz229; try clear hz221; try clear hN219; try clear hz220)
    first | clear hlt213 hz212 hz9 hN7 hz8 | (try clear hlt213; try clear hz212; try clear hz9; try clear hN7; try clear hz8)
    have hz550 := hB543.size
    have hlo551 : ∀ q, SE q → w.heap.size ≤ q := by assumption
    have hlt552 := HubsO.lt hf540
    have hlo553 : ∀ q, SB q → w.heap.size ≤ q := by assumption
    have hlt554 := LstO.lt hf541
    have hlo555 : ∀ q, SF q → w.heap.size ≤ q := by assumption
    have hlt556 := LstO.lt hf542
    have hap557 : ∀ q, SE q → SB q → False := by assumption
    have hap558 : ∀ q, SE q → SF q → False := by assumption
    have hap559 : ∀ q, SB q → SF q → False := by assumption
    have hRS := HS.rd hHS r
    refine co_seq ?_
    refine co_seq ?_
    refine co_reg ?_
    refine pk0 (v := .int .i64 ((r : Nat) : Int)) h531 rfl fun a560 h560 => ?_; clear h531
    refine pk0 (v := .bool (decide (((r : Nat) : Int) < 8))) h560 rfl fun a561 h561 => ?_; clear h560
    refine pl_nil ?_
    refine co_then ?_
    cases hc562 : (decide (((r : Nat) : Int) < 8))
    ·
     rw [hc562] at h561
     have hp563 : ¬ (((r : Nat) : Int) < 8) := of_decide_eq_false hc562
     clear hc562
     refine co_false h561 rfl ?_
     refine wp_exit ?_
     refine co_thenX ?_
     refine co_thenX ?_
     refine co_blockX ?_
     refine co_then ?_
     obtain rfl : r = 8 := by omega
     exact ⟨(RDs LL 8), (GTs LL 8), SE, SB, SF, h561.sub ⟨rfl, rfl, rfl, trivial⟩, by exact fun i k hi hk => HS.fin hHS hi hk, by exact hlo551, by exact hlo553, by exact hlo555, by exact hap557, by exact hap558, by exact hap559, hf540, hf541, hf542, hB543⟩
    ·
     rw [hc562] at h561
     have hp564 : ((r : Nat) : Int) < 8 := of_decide_eq_true hc562
     clear hc562
     refine co_true h561 rfl ?_
     refine wp_skip ?_
     refine co_then ?_
     refine co_seq ?_
     refine wp_block ?_
     refine co_seq ?_
     refine co_reg ?_
     refine pw h561 rfl (op_new (v := fun N => pt N 0) (T := 49) (cs := #[.slice none 0 0, .slice none 0 0, .slice none 0 0, .slice none 0 0]) (by kernel_rfl) (by kernel_rfl) (by kernel_rfl)) ?_; clear h561
     rintro _ w566 a565 ⟨N567, rfl, hN570, hz571, hk569, hg568⟩ h565
     have hz572 := hg568.size
     have ho573 := off_new (HubsO.ofS hf540) hN570
     have ho574 := off_new (LstO.ofS hf541) hN570
     have ho575 := off_new (LstO.ofS hf542) hN570
     try dsimp only at h565
     refine pl_nil ?_
     refine co_then ?_
     refine co_seq ?_
     refine co_seq ?_
     refine co_reg ?_
     refine pk0 (v := .int .i64 0) h565 rfl fun a576 h576 => ?_; clear h565
     refine pl_nil ?_
     refine co_then ?_
     refine wp_block ?_
     refine wp_loop_rounds 5 ?_
     refine co_unroll (n := 4) ?_
     refine co_seq ?_
     refine co_seq ?_
     refine co_reg ?_
     refine pk0 (v := .int .i64 0) h576 rfl fun a577 h577 => ?_; clear h576
     refine pk0 (v := .bool (decide (0 < 4))) h577 rfl fun a578 h578 => ?_; clear h577
     refine pl_nil ?_
     refine co_then ?_
     have hc579 : (decide (0 < 4)) = true := decide_eq_true (by omega)
     rw [hc579] at h578; clear hc579
     refine co_true h578 rfl ?_
     refine wp_skip ?_
     refine co_then ?_
     refine co_seq ?_
     refine wp_block ?_
     refine co_reg ?_
     refine pk0 (v := .int .i64 0) h578 rfl fun a580 h580 => ?_; clear h578
     refine pk0 (v := .int .i64 0) h580 rfl fun a581 h581 => ?_; clear h580
     refine pk0 (v := pt N4 0) h581 rfl fun a582 h582 => ?_; clear h581
     have hO583 := HubsO.gr hf540 hg568 (fun k e => by cases e)
     refine pk (v := pt (q 0) 0) h582 rfl (rn_load1 rfl rfl Try.isAgg23 (HubsO.cell hO583 (by omega))) fun a584 h584 => ?_; clear h582
     have ho587 := HubsO.ofS hO583
     have hO589 := LstO.gr hf541 hg568 (fun k e => by cases e)
     have ho588 := LstO.ofS hO589
     have hO591 := LstO.gr hf542 hg568 (fun k e => by cases e)
     have ho590 := LstO.ofS hO591
     have hB592 := hb_new hB543 hg568
     refine pw h584 rfl (op_call (args := #[pt (q 0) 0, .bool true]) (R := fun res xw => ∃ v : Value, ∃ S' : Nat → Prop, res = v ∧ HubsO S' xw N4 q (outRow (RDs LL r) 0) ∧ (xw.ownsRow w566.heap.size 51 2 v (outH (hubM (RDs LL r) 0) true 4).length ((outH (hubM (RDs LL r) 0) true 4).flatMap outE)) ∧ (∀ k, (Value.ownBlock v) = some k → ¬ S' k) ∧ Grew SE S' w566 xw) rfl rfl rfl (by kernel_rfl) (by kernel_rfl) (Try.call11 _ _) (hubsOut w566 (by omega) hO583) (by rintro e x ⟨v, S', h0, h⟩; exact ⟨_, h0, v, S', rfl, h⟩)) ?_; clear h584
     rintro v593 w586 a585 ⟨_, S594, rfl, hO595, hq597, hq598, hx596⟩ h585
     have hlo600 : ∀ q, S594 q → w.heap.size ≤ q := hx596.lo hlo551 (by omega)
     have hB599 := hbL hB592 hlo551 hx596.but
     have hz601 := hB599.size
     have hz602 := hx596.but.size
     have heq603 : (outH (hubM (RDs LL r) 0) true 4) = ((prsH (RDs LL r) 0 4).map putP) := by rw [outH_prs (fun k hk hne => HS.segP hRS (by omega) hk hne) 4 (Nat.le_refl _)]
     have hl604 := outH_len (hubM (RDs LL r) 0) true 4
     have hll0 : ((prsH (RDs LL r) 0 4).map putP).length ≤ 32 := by rw [← heq603]; omega
     have hr605 := hq597; rw [heq603] at hr605
     refine pk0 (v := pt N567 0) h585 rfl fun a606 h606 => ?_; clear h585
     have hk612 := Blk.butS hk569 hx596.but ho573
     refine pwD h606 rfl (op_store1 rfl rfl rfl (row_one hr605) Try.sizeOf35 hk612 rfl) ?_; clear h606
     rintro _ w608 a607 ⟨hk609, hz610, hg611⟩ h607
     have hk609' : Blk w608 N567 49 #[v593, .slice none 0 0, .slice none 0 0, .slice none 0 0] := hk609; clear hk609
     have hz613 := hg611.size
     refine pl_nil ?_
     refine co_blockN ?_
     refine co_then ?_
     refine co_reg ?_
     refine pk0 (v := .int .i64 0) h607 rfl fun a614 h614 => ?_; clear h607
     refine pk0 (v := .int .i64 1) h614 rfl fun a615 h615 => ?_; clear h614
     refine pk0 (v := .int .i64 1) h615 rfl fun a616 h616 => ?_; clear h615
     refine pl_nil ?_
     refine co_then ?_
     refine co_unroll (n := 3) ?_
     refine co_seq ?_
     refine co_seq ?_
     refine co_reg ?_
     refine pk0 (v := .int .i64 1) h616 rfl fun a617 h617 => ?_; clear h616
     refine pk0 (v := .bool (decide (1 < 4))) h617 rfl fun a618 h618 => ?_; clear h617
     refine pl_nil ?_
     refine co_then ?_
     have hc619 : (decide (1 < 4)) = true := decide_eq_true (by omega)
     rw [hc619] at h618; clear hc619
     refine co_true h618 rfl ?_
     refine wp_skip ?_
     refine co_then ?_
     refine co_seq ?_
     refine wp_block ?_
     refine co_reg ?_
     refine pk0 (v := .int .i64 1) h618 rfl fun a620 h620 => ?_; clear h618
     refine pk0 (v := .int .i64 1) h620 rfl fun a621 h621 => ?_; clear h620
     refine pk0 (v := pt N4 1) h621 rfl fun a622 h622 => ?_; clear h621
     have hO623 := HubsO.gr hO595 hg611 (fun k e => by cases e; exact (Grew.off hx596 ho573 hk569.lt))
     refine pk (v := pt (q 1) 0) h622 rfl (rn_load1 rfl rfl Try.isAgg23 (HubsO.cell hO623 (by omega))) fun a624 h624 => ?_; clear h622
     have hO628 := LstO.but hO589 hx596.but (ap_symm hap557)
     have hO629 := LstO.gr hO628 hg611 (fun k e => by cases e; exact ho574)
     have ho627 := LstO.ofS hO629
     have hO631 := LstO.but hO591 hx596.but (ap_symm hap558)
     have hO632 := LstO.gr hO631 hg611 (fun k e => by cases e; exact ho575)
     have ho630 := LstO.ofS hO632
     have ho633 := HubsO.ofS hO623
     have hB634 := hb_at hB599 hg611 (by omega)
     refine pw h624 rfl (op_call (args := #[pt (q 1) 0, .bool true]) (R := fun res xw => ∃ v : Value, ∃ S' : Nat → Prop, res = v ∧ HubsO S' xw N4 q (outRow (outRow (RDs LL r) 0) 1) ∧ (xw.ownsRow w608.heap.size 51 2 v (outH (hubM (outRow (RDs LL r) 0) 1) true 4).length ((outH (hubM (outRow (RDs LL r) 0) 1) true 4).flatMap outE)) ∧ (∀ k, (Value.ownBlock v) = some k → ¬ S' k) ∧ Grew S594 S' w608 xw) rfl rfl rfl (by kernel_rfl) (by kernel_rfl) (Try.call11 _ _) (hubsOut w608 (by omega) hO623) (by rintro e x ⟨v, S', h0, h⟩; exact ⟨_, h0, v, S', rfl, h⟩)) ?_; clear h624
     rintro v635 w626 a625 ⟨_, S636, rfl, hO637, hq639, hq640, hx638⟩ h625
     have hr641 := row_kept_at hr605 hg611 (own_neT hr605 hk612 (by decide))
     have hlo643 : ∀ q, S636 q → w.heap.size ≤ q := hx638.lo hlo600 (by omega)
     have hB642 := hbL hB634 hlo600 hx638.but
     have hz644 := hB642.size
     have hz645 := hx638.but.size
     have heq646 : (outH (hubM (outRow (RDs LL r) 0) 1) true 4) = ((prsH (RDs LL r) 1 4).map putP) := by rw [hubM_row (by omega), outH_prs (fun k hk hne => HS.segP hRS (by omega) hk hne) 4 (Nat.le_refl _)]
     have hl647 := outH_len (hubM (outRow (RDs LL r) 0) 1) true 4
     have hll1 : ((prsH (RDs LL r) 1 4).map putP).length ≤ 32 := by rw [← heq646]; omega
     have hr648 := hq639; rw [heq646] at hr648
     refine pk0 (v := pt N567 1) h625 rfl fun a649 h649 => ?_; clear h625
     have hk655 := Blk.butS hk609' hx638.but (Grew.off hx596 ho573 hk569.lt)
     refine pwD h649 rfl (op_store1 rfl rfl rfl (row_one hr648) Try.sizeOf35 hk655 rfl) ?_; clear h649
     rintro _ w651 a650 ⟨hk652, hz653, hg654⟩ h650
     have hk652' : Blk w651 N567 49 #[v593, v635, .slice none 0 0, .slice none 0 0] := hk652; clear hk652
     have hz656 := hg654.size
     refine pl_nil ?_
     refine co_blockN ?_
     refine co_then ?_
     refine co_reg ?_
     refine pk0 (v := .int .i64 1) h650 rfl fun a657 h657 => ?_; clear h650
     refine pk0 (v := .int .i64 2) h657 rfl fun a658 h658 => ?_; clear h657
     refine pk0 (v := .int .i64 2) h658 rfl fun a659 h659 => ?_; clear h658
     refine pl_nil ?_
     refine co_then ?_
     refine co_unroll (n := 2) ?_
     refine co_seq ?_
     refine co_seq ?_
     refine co_reg ?_
     refine pk0 (v := .int .i64 2) h659 rfl fun a660 h660 => ?_; clear h659
     refine pk0 (v := .bool (decide (2 < 4))) h660 rfl fun a661 h661 => ?_; clear h660
     refine pl_nil ?_
     refine co_then ?_
     have hc662 : (decide (2 < 4)) = true := decide_eq_true (by omega)
     rw [hc662] at h661; clear hc662
     refine co_true h661 rfl ?_
     refine wp_skip ?_
     refine co_then ?_
     refine co_seq ?_
     refine wp_block ?_
     refine co_reg ?_
     refine pk0 (v := .int .i64 2) h661 rfl fun a663 h663 => ?_; clear h661
     refine pk0 (v := .int .i64 2) h663 rfl fun a664 h664 => ?_; clear h663
     refine pk0 (v := pt N4 2) h664 rfl fun a665 h665 => ?_; clear h664
     have hO666 := HubsO.gr hO637 hg654 (fun k e => by cases e; exact (Grew.off hx638 (Grew.off hx596 ho573 hk569.lt) hk609'.lt))
     refine pk (v := pt (q 2) 0) h665 rfl (rn_load1 rfl rfl Try.isAgg23 (HubsO.cell hO666 (by omega))) fun a667 h667 => ?_; clear h665
     have hO671 := LstO.but hO629 hx638.but (ap_symm (Grew.ap hx596 (ap_symm (ap_symm hap557)) (LstO.ofS hO589)))
     have hO672 := LstO.gr hO671 hg654 (fun k e => by cases e; exact ho574)
     have ho670 := LstO.ofS hO672
     have hO674 := LstO.but hO632 hx638.but (ap_symm (Grew.ap hx596 (ap_symm (ap_symm hap558)) (LstO.ofS hO591)))
     have hO675 := LstO.gr hO674 hg654 (fun k e => by cases e; exact ho575)
     have ho673 := LstO.ofS hO675
     have ho676 := HubsO.ofS hO666
     have hB677 := hb_at hB642 hg654 (by omega)
     have hr678 := own_butS hr641 hx638.but hq598
     have hr679 := row_kept_at hr678 hg654 (own_neT hr678 hk655 (by decide))
     refine pw h667 rfl (op_call (args := #[pt (q 2) 0, .bool true]) (R := fun res xw => ∃ v : Value, ∃ S' : Nat → Prop, res = v ∧ HubsO S' xw N4 q (outRow (outRow (outRow (RDs LL r) 0) 1) 2) ∧ (xw.ownsRow w651.heap.size 51 2 v (outH (hubM (outRow (outRow (RDs LL r) 0) 1) 2) true 4).length ((outH (hubM (outRow (outRow (RDs LL r) 0) 1) 2) true 4).flatMap outE)) ∧ (∀ k, (Value.ownBlock v) = some k → ¬ S' k) ∧ Grew S636 S' w651 xw) rfl rfl rfl (by kernel_rfl) (by kernel_rfl) (Try.call11 _ _) (hubsOut w651 (by omega) hO666) (by rintro e x ⟨v, S', h0, h⟩; exact ⟨_, h0, v, S', rfl, h⟩)) ?_; clear h667
     rintro v680 w669 a668 ⟨_, S681, rfl, hO682, hq684, hq685, hx683⟩ h668
     have hr686 := row_kept_at hr648 hg654 (own_neT hr648 hk655 (by decide))
     have hlo688 : ∀ q, S681 q → w.heap.size ≤ q := hx683.lo hlo643 (by omega)
     have hB687 := hbL hB677 hlo643 hx683.but
     have hz689 := hB687.size
     have hz690 := hx683.but.size
     have heq691 : (outH (hubM (outRow (outRow (RDs LL r) 0) 1) 2) true 4) = ((prsH (RDs LL r) 2 4).map putP) := by rw [hubM_row (by omega), hubM_row (by omega), outH_prs (fun k hk hne => HS.segP hRS (by omega) hk hne) 4 (Nat.le_refl _)]
     have hl692 := outH_len (hubM (outRow (outRow (RDs LL r) 0) 1) 2) true 4
     have hll2 : ((prsH (RDs LL r) 2 4).map putP).length ≤ 32 := by rw [← heq691]; omega
     have hr693 := hq684; rw [heq691] at hr693
     refine pk0 (v := pt N567 2) h668 rfl fun a694 h694 => ?_; clear h668
     have hk700 := Blk.butS hk652' hx683.but (Grew.off hx638 (Grew.off hx596 ho573 hk569.lt) hk609'.lt)
     refine pwD h694 rfl (op_store1 rfl rfl rfl (row_one hr693) Try.sizeOf35 hk700 rfl) ?_; clear h694
     rintro _ w696 a695 ⟨hk697, hz698, hg699⟩ h695
     have hk697' : Blk w696 N567 49 #[v593, v635, v680, .slice none 0 0] := hk697; clear hk697
     have hz701 := hg699.size
     refine pl_nil ?_
     refine co_blockN ?_
     refine co_then ?_
     refine co_reg ?_
     refine pk0 (v := .int .i64 2) h695 rfl fun a702 h702 => ?_; clear h695
     refine pk0 (v := .int .i64 3) h702 rfl fun a703 h703 => ?_; clear h702
     refine pk0 (v := .int .i64 3) h703 rfl fun a704 h704 => ?_; clear h703
     refine pl_nil ?_
     refine co_then ?_
     refine co_unroll (n := 1) ?_
     refine co_seq ?_
     refine co_seq ?_
     refine co_reg ?_
     refine pk0 (v := .int .i64 3) h704 rfl fun a705 h705 => ?_; clear h704
     refine pk0 (v := .bool (decide (3 < 4))) h705 rfl fun a706 h706 => ?_; clear h705
     refine pl_nil ?_
     refine co_then ?_
     have hc707 : (decide (3 < 4)) = true := decide_eq_true (by omega)
     rw [hc707] at h706; clear hc707
     refine co_true h706 rfl ?_
     refine wp_skip ?_
     refine co_then ?_
     refine co_seq ?_
     refine wp_block ?_
     refine co_reg ?_
     refine pk0 (v := .int .i64 3) h706 rfl fun a708 h708 => ?_; clear h706
     refine pk0 (v := .int .i64 3) h708 rfl fun a709 h709 => ?_; clear h708
     refine pk0 (v := pt N4 3) h709 rfl fun a710 h710 => ?_; clear h709
     have hO711 := HubsO.gr hO682 hg699 (fun k e => by cases e; exact (Grew.off hx683 (Grew.off hx638 (Grew.off hx596 ho573 hk569.lt) hk609'.lt) hk652'.lt))
     refine pk (v := pt (q 3) 0) h710 rfl (rn_load1 rfl rfl Try.isAgg23 (HubsO.cell hO711 (by omega))) fun a712 h712 => ?_; clear h710
     have hO716 := LstO.but hO672 hx683.but (ap_symm (Grew.ap hx638 (ap_symm (ap_symm (Grew.ap hx596 (ap_symm (ap_symm hap557)) (LstO.ofS hO589)))) (LstO.ofS hO629)))
     have hO717 := LstO.gr hO716 hg699 (fun k e => by cases e; exact ho574)
     have ho715 := LstO.ofS hO717
     have hO719 := LstO.but hO675 hx683.but (ap_symm (Grew.ap hx638 (ap_symm (ap_symm (Grew.ap hx596 (ap_symm (ap_symm hap558)) (LstO.ofS hO591)))) (LstO.ofS hO632)))
     have hO720 := LstO.gr hO719 hg699 (fun k e => by cases e; exact ho575)
     have ho718 := LstO.ofS hO720
     have ho721 := HubsO.ofS hO711
     have hB722 := hb_at hB687 hg699 (by omega)
     have hr723 := own_butS hr679 hx683.but (Grew.offR hx638 hr641 hq598)
     have hr724 := row_kept_at hr723 hg699 (own_neT hr723 hk700 (by decide))
     have hr725 := own_butS hr686 hx683.but hq640
     have hr726 := row_kept_at hr725 hg699 (own_neT hr725 hk700 (by decide))
     refine pw h712 rfl (op_call (args := #[pt (q 3) 0, .bool true]) (R := fun res xw => ∃ v : Value, ∃ S' : Nat → Prop, res = v ∧ HubsO S' xw N4 q (outRow (outRow (outRow (outRow (RDs LL r) 0) 1) 2) 3) ∧ (xw.ownsRow w696.heap.size 51 2 v (outH (hubM (outRow (outRow (outRow (RDs LL r) 0) 1) 2) 3) true 4).length ((outH (hubM (outRow (outRow (outRow (RDs LL r) 0) 1) 2) 3) true 4).flatMap outE)) ∧ (∀ k, (Value.ownBlock v) = some k → ¬ S' k) ∧ Grew S681 S' w696 xw) rfl rfl rfl (by kernel_rfl) (by kernel_rfl) (Try.call11 _ _) (hubsOut w696 (by omega) hO711) (by rintro e x ⟨v, S', h0, h⟩; exact ⟨_, h0, v, S', rfl, h⟩)) ?_; clear h712
     rintro v727 w714 a713 ⟨_, S728, rfl, hO729, hq731, hq732, hx730⟩ h713
     have hr733 := row_kept_at hr693 hg699 (own_neT hr693 hk700 (by decide))
     have hlo735 : ∀ q, S728 q → w.heap.size ≤ q := hx730.lo hlo688 (by omega)
     have hB734 := hbL hB722 hlo688 hx730.but
     have hz736 := hB734.size
     have hz737 := hx730.but.size
     have heq738 : (outH (hubM (outRow (outRow (outRow (RDs LL r) 0) 1) 2) 3) true 4) = ((prsH (RDs LL r) 3 4).map putP) := by rw [hubM_row (by omega), hubM_row (by omega), hubM_row (by omega), outH_prs (fun k hk hne => HS.segP hRS (by omega) hk hne) 4 (Nat.le_refl _)]
     have hl739 := outH_len (hubM (outRow (outRow (outRow (RDs LL r) 0) 1) 2) 3) true 4
     have hll3 : ((prsH (RDs LL r) 3 4).map putP).length ≤ 32 := by rw [← heq738]; omega
     have hr740 := hq731; rw [heq738] at hr740
     refine pk0 (v := pt N567 3) h713 rfl fun a741 h741 => ?_; clear h713
     have hk747 := Blk.butS hk697' hx730.but (Grew.off hx683 (Grew.off hx638 (Grew.off hx596 ho573 hk569.lt) hk609'.lt) hk652'.lt)
     refine pwD h741 rfl (op_store1 rfl rfl rfl (row_one hr740) Try.sizeOf35 hk747 rfl) ?_; clear h741
     rintro _ w743 a742 ⟨hk744, hz745, hg746⟩ h742
     have hk744' : Blk w743 N567 49 #[v593, v635, v680, v727] := hk744; clear hk744
     have hz748 := hg746.size
     refine pl_nil ?_
     refine co_blockN ?_
     refine co_then ?_
     refine co_reg ?_
     refine pk0 (v := .int .i64 3) h742 rfl fun a749 h749 => ?_; clear h742
     refine pk0 (v := .int .i64 4) h749 rfl fun a750 h750 => ?_; clear h749
     refine pk0 (v := .int .i64 4) h750 rfl fun a751 h751 => ?_; clear h750
     refine pl_nil ?_
     refine co_then ?_
     refine co_unroll (n := 0) ?_
     refine co_seq ?_
     refine co_seq ?_
     refine co_reg ?_
     refine pk0 (v := .int .i64 4) h751 rfl fun a752 h752 => ?_; clear h751
     refine pk0 (v := .bool (decide (4 < 4))) h752 rfl fun a753 h753 => ?_; clear h752
     refine pl_nil ?_
     refine co_then ?_
     have hc754 : (decide (4 < 4)) = false := decide_eq_false (by omega)
     rw [hc754] at h753; clear hc754
     refine co_false h753 rfl ?_
     refine wp_exit ?_
     refine co_thenX ?_
     refine co_thenX ?_
     refine co_blockX ?_
     refine co_then ?_
     refine co_seq ?_
     refine co_reg ?_
     refine pk0 (v := .int .i64 0) h753 rfl fun a755 h755 => ?_; clear h753
     refine pl_nil ?_
     refine co_then ?_
     refine wp_block ?_
     refine wp_loop_rounds 5 ?_
     refine co_unroll (n := 4) ?_
     refine co_seq ?_
     refine co_seq ?_
     refine co_reg ?_
     refine pk0 (v := .int .i64 0) h755 rfl fun a756 h756 => ?_; clear h755
     refine pk0 (v := .bool (decide (0 < 4))) h756 rfl fun a757 h757 => ?_; clear h756
     refine pl_nil ?_
     refine co_then ?_
     have hc758 : (decide (0 < 4)) = true := decide_eq_true (by omega)
     rw [hc758] at h757; clear hc758
     refine co_true h757 rfl ?_
     refine wp_skip ?_
     refine co_then ?_
     refine co_seq ?_
     refine wp_block ?_
     refine co_seq ?_
     refine co_reg ?_
     refine pk0 (v := .int .i64 0) h757 rfl fun a759 h759 => ?_; clear h757
     refine pl_nil ?_
     refine co_then ?_
     refine wp_block ?_
     have h760 : Slots 195 [(0, v), (3, pt N4 0), (7, pt N216 0), (8, pt N225 0), (11, .int .i64 ((r : Nat) : Int)), (12, pt N567 0), (14, .int .i64 0), (15, .int .i64 0)] _ := h759.sub ⟨rfl, rfl, rfl, rfl, rfl, rfl, rfl, rfl, trivial⟩; clear h759
     refine co_loop (fun mm a x => ∃ (k : Nat) (SP0 : Nat → Prop) (SQ0 : Nat → Prop), Slots 195 [(0, v), (3, pt N4 0), (7, pt N216 0), (8, pt N225 0), (11, .int .i64 ((r : Nat) : Int)), (12, pt N567 0), (14, .int .i64 0), (15, .int .i64 ((k : Nat) : Int))] a ∧ mm = 60 - k ∧ (k ≤ (prsH (RDs LL r) 0 4).length) ∧ (∀ q, SP0 q → w.heap.size ≤ q) ∧ (∀ q, SB q → w.heap.size ≤ q) ∧ (∀ q, SQ0 q → w.heap.size ≤ q) ∧ (∀ q, SP0 q → SB q → False) ∧ (∀ q, SP0 q → SQ0 q → False) ∧ (∀ q, SB q → SQ0 q → False) ∧ (∀ i, (Value.ownBlock (v593)) = some i → ¬ SP0 i) ∧ (∀ i, (Value.ownBlock (v593)) = some i → ¬ SB i) ∧ (∀ i, (Value.ownBlock (v593)) = some i → ¬ SQ0 i) ∧ (∀ i, (Value.ownBlock (v635)) = some i → ¬ SP0 i) ∧ (∀ i, (Value.ownBlock (v635)) = some i → ¬ SB i) ∧ (∀ i, (Value.ownBlock (v635)) = some i → ¬ SQ0 i) ∧ (∀ i, (Value.ownBlock (v680)) = some i → ¬ SP0 i) ∧ (∀ i, (Value.ownBlock (v680)) = some i → ¬ SB i) ∧ (∀ i, (Value.ownBlock (v680)) = some i → ¬ SQ0 i) ∧ (∀ i, (Value.ownBlock (v727)) = some i → ¬ SP0 i) ∧ (∀ i, (Value.ownBlock (v727)) = some i → ¬ SB i) ∧ (∀ i, (Value.ownBlock (v727)) = some i → ¬ SQ0 i) ∧ (¬ SP0 N567) ∧ (¬ SB N567) ∧ (¬ SQ0 N567) ∧ HubsO SP0 x N4 q (Dn (RDs LL r) 0 k) ∧ LstO SB x N216 (flatL sn) ∧ LstO SQ0 x N225 (flatL (Gn (RDs LL r) (GTs LL r) 0 k)) ∧ Blk x N567 49 #[v593, v635, v680, v727] ∧ x.ownsRow w566.heap.size 51 2 v593 ((prsH (RDs LL r) 0 4).map putP).length (((prsH (RDs LL r) 0 4).map putP).flatMap outE) ∧ x.ownsRow w608.heap.size 51 2 v635 ((prsH (RDs LL r) 1 4).map putP).length (((prsH (RDs LL r) 1 4).map putP).flatMap outE) ∧ x.ownsRow w651.heap.size 51 2 v680 ((prsH (RDs LL r) 2 4).map putP).length (((prsH (RDs LL r) 2 4).map putP).flatMap outE) ∧ x.ownsRow w696.heap.size 51 2 v727 ((prsH (RDs LL r) 3 4).map putP).length (((prsH (RDs LL r) 3 4).map putP).flatMap outE) ∧ Below w.heap.size w x) (60 - 0) ?_ ?_
     have hO761 := HubsO.gr hO729 hg746 (fun k e => by cases e; exact (Grew.off hx730 (Grew.off hx683 (Grew.off hx638 (Grew.off hx596 ho573 hk569.lt) hk609'.lt) hk652'.lt) hk697'.lt))
     have hO762 := LstO.but hO717 hx730.but (ap_symm (Grew.ap hx683 (ap_symm (ap_symm (Grew.ap hx638 (ap_symm (ap_symm (Grew.ap hx596 (ap_symm (ap_symm hap557)) (LstO.ofS hO589)))) (LstO.ofS hO629)))) (LstO.ofS hO672)))
     have hO763 := LstO.gr hO762 hg746 (fun k e => by cases e; exact ho574)
     have hO764 := LstO.but hO720 hx730.but (ap_symm (Grew.ap hx683 (ap_symm (ap_symm (Grew.ap hx638 (ap_symm (ap_symm (Grew.ap hx596 (ap_symm (ap_symm hap558)) (LstO.ofS hO591)))) (LstO.ofS hO632)))) (LstO.ofS hO675)))
     have hO765 := LstO.gr hO764 hg746 (fun k e => by cases e; exact ho575)
     have hr766 := own_butS hr724 hx730.but (Grew.offR hx683 hr679 (Grew.offR hx638 hr641 hq598))
     have hr767 := row_kept_at hr766 hg746 (own_neT hr766 hk747 (by decide))
     have hr768 := own_butS hr726 hx730.but (Grew.offR hx683 hr686 hq640)
     have hr769 := row_kept_at hr768 hg746 (own_neT hr768 hk747 (by decide))
     have hr770 := own_butS hr733 hx730.but hq685
     have hr771 := row_kept_at hr770 hg746 (own_neT hr770 hk747 (by decide))
     have hr772 := row_kept_at hr740 hg746 (own_neT hr740 hk747 (by decide))
     have hB773 := hb_at hB734 hg746 (by omega)
     · exact ⟨0, S728, SF, h760.sub ⟨rfl, rfl, rfl, rfl, rfl, rfl, rfl, (slot_eq rfl (congrArg (Value.int .i64) (by first | rfl | omega))), trivial⟩, rfl, by omega, by exact hlo735, by exact hlo553, by exact hlo555, by exact (ap_symm (ap_symm (Grew.ap hx730 (ap_symm (ap_symm (Grew.ap hx683 (ap_symm (ap_symm (Grew.ap hx638 (ap_symm (ap_symm (Grew.ap hx596 (ap_symm (ap_symm hap557)) (LstO.ofS hO589)))) (LstO.ofS hO629)))) (LstO.ofS hO672)))) (LstO.ofS hO717)))), by exact (ap_symm (ap_symm (Grew.ap hx730 (ap_symm (ap_symm (Grew.ap hx683 (ap_symm (ap_symm (Grew.ap hx638 (ap_symm (ap_symm (Grew.ap hx596 (ap_symm (ap_symm hap558)) (LstO.ofS hO591)))) (LstO.ofS hO632)))) (LstO.ofS hO675)))) (LstO.ofS hO720)))), by exact hap559, by exact (Grew.offR hx730 hr724 (Grew.offR hx683 hr679 (Grew.offR hx638 hr641 hq598))), by exact (offR_row ho588 hq597 (Nat.le_refl _)), by exact (offR_row ho590 hq597 (Nat.le_refl _)), by exact (Grew.offR hx730 hr726 (Grew.offR hx683 hr686 hq640)), by exact (offR_row ho627 hq639 (Nat.le_refl _)), by exact (offR_row ho630 hq639 (Nat.le_refl _)), by exact (Grew.offR hx730 hr733 hq685), by exact (offR_row ho670 hq684 (Nat.le_refl _)), by exact (offR_row ho673 hq684 (Nat.le_refl _)), by exact hq732, by exact (offR_row ho715 hq731 (Nat.le_refl _)), by exact (offR_row ho718 hq731 (Nat.le_refl _)), by exact (Grew.off hx730 (Grew.off hx683 (Grew.off hx638 (Grew.off hx596 ho573 hk569.lt) hk609'.lt) hk652'.lt) hk697'.lt), by exact ho574, by exact ho575, (HubsO.congr hO761 (Dn_0 (RDs LL r))), hO763, (LstO.congr hO765 (flatL_eq (fun a b _ _ => Gn_0 (RDs LL r) (GTs LL r) a b))), hk744', hr767, hr769, hr771, hr772, hB773⟩
     · rintro k774 a775 w776 ⟨k, SP0, SQ0, h775, rfl, hi777, hi778, hi779, hi780, hi781, hi782, hi783, hi784, hi785, hi786, hi787, hi788, hi789, hi790, hi791, hi792, hi793, hi794, hi795, hi796, hi797, hi798, hf799, hf800, hf801, hf802, hf803, hf804, hf805, hf806, hB807⟩
       have hz808 := hB807.size
       have hl809 := hf802.lt
       have hge810 : w.heap.size ≤ N4 := by omega
       have hge811 : w.heap.size ≤ N216 := by omega
       have hge812 : w.heap.size ≤ N225 := by omega
       have hge813 : w.heap.size ≤ N567 := by omega
       have hne814 : N4 < N216 := by omega
       have hne815 : N216 < N225 := by omega
       have hne816 : N225 < N567 := by omega
       have hne817 : N216 < w566.heap.size := by omega
       have hne818 : N225 < w566.heap.size := by omega
       have hne819 : N567 < w566.heap.size := by omega
       have hne820 : N216 < w608.heap.size := by omega
       have hne821 : N225 < w608.heap.size := by omega
       have hne822 : N567 < w608.heap.size := by omega
       have hne823 : N216 < w651.heap.size := by omega
       have hne824 : N225 < w651.heap.size := by omega
       have hne825 : N567 < w651.heap.size := by omega
       have hne826 : N216 < w696.heap.size := by omega
       have hne827 : N225 < w696.heap.size := by omega
       have hne828 : N567 < w696.heap.size := by omega
       first | clear hl809 hz808 hz748 hz745 hl739 hz737 hz736 hz701 hz698 hl692 hz690 hz689 | (try clear hl809; try clear hz808; try clear hz748; try clear hz745; try clear hl739; try clear hz737; try clear hz736; try clear hz701; try clear hz698; try clear hl692; try clear hz690; try clear hz689)
       first | clear hz656 hz653 hl647 hz645 hz644 hz613 hz610 hl604 hz602 hz601 hz572 hN570 | (try clear hz656; try clear hz653; try clear hl647; try clear hz645; try clear hz644; try clear hz613; try clear hz610; try clear hl604; try clear hz602; try clear hz601; try clear hz572; try clear hN570)
       first | clear hz571 hlt556 hlt554 hlt552 hz550 hlt213 hz212 hz9 hN7 hz8 hz544 hlt524 | (try clear hz571; try clear hlt556; try clear hlt554; try clear hlt552; try clear hz550; try clear hlt213; try clear hz212; try clear hz9; try clear hN7; try clear hz8; try clear hz544; try clear hlt524)
       first | clear hlt522 hlt520 hz518 hz512 hz230 hN228 hz229 hz221 hN219 hz220 | (try clear hlt522; try clear hlt520; try clear hz518; try clear hz512; try clear hz230; try clear hN228; try clear hz229; try clear hz221; try clear hN219; try clear hz220)
       have hz829 := hB807.size
       have hl830 := hf802.lt
       have hlo831 : ∀ q, SP0 q → w.heap.size ≤ q := by assumption
       have hlt832 := HubsO.lt hf799
       have hlo833 : ∀ q, SB q → w.heap.size ≤ q := by assumption
       have hlt834 := LstO.lt hf800
       have hlo835 : ∀ q, SQ0 q → w.heap.size ≤ q := by assumption
       have hlt836 := LstO.lt hf801
       have hap837 : ∀ q, SP0 q → SB q → False := by assumption
       have hap838 : ∀ q, SP0 q → SQ0 q → False := by assumption
       have ho839 : ∀ i, (Value.ownBlock (v593)) = some i → ¬ SP0 i := by assumption
       have ho840 : ∀ i, (Value.ownBlock (v635)) = some i → ¬ SP0 i := by assumption
       have ho841 : ∀ i, (Value.ownBlock (v680)) = some i → ¬ SP0 i := by assumption
       have ho842 : ∀ i, (Value.ownBlock (v727)) = some i → ¬ SP0 i := by assumption
       have hap843 : ∀ q, SB q → SQ0 q → False := by assumption
       have ho844 : ∀ i, (Value.ownBlock (v593)) = some i → ¬ SB i := by assumption
       have ho845 : ∀ i, (Value.ownBlock (v635)) = some i → ¬ SB i := by assumption
       have ho846 : ∀ i, (Value.ownBlock (v680)) = some i → ¬ SB i := by assumption
       have ho847 : ∀ i, (Value.ownBlock (v727)) = some i → ¬ SB i := by assumption
       have ho848 : ∀ i, (Value.ownBlock (v593)) = some i → ¬ SQ0 i := by assumption
       have ho849 : ∀ i, (Value.ownBlock (v635)) = some i → ¬ SQ0 i := by assumption
       have ho850 : ∀ i, (Value.ownBlock (v680)) = some i → ¬ SQ0 i := by assumption
       have ho851 : ∀ i, (Value.ownBlock (v727)) = some i → ¬ SQ0 i := by assumption
       have ho852 : ¬ SP0 N567 := by assumption
       have ho853 : ¬ SB N567 := by assumption
       have ho854 : ¬ SQ0 N567 := by assumption
       have hlm : ((prsH (RDs LL r) 0 4).map putP).length = (prsH (RDs LL r) 0 4).length := List.length_map _
       refine co_seq ?_
       refine co_seq ?_
       refine co_reg ?_
       refine pk0 (v := .int .i64 ((k : Nat) : Int)) h775 rfl fun a855 h855 => ?_; clear h775
       refine pk0 (v := .int .i64 0) h855 rfl fun a856 h856 => ?_; clear h855
       refine pk0 (v := pt N567 0) h856 rfl fun a857 h857 => ?_; clear h856
       refine pk (v := v593) h857 rfl (rn_load1 rfl rfl Try.isAgg35 (hf802.cell rfl)) fun a858 h858 => ?_; clear h857
       refine pk (v := .int .i64 ((((prsH (RDs LL r) 0 4).map putP).length : Nat) : Int)) h858 rfl (rn_lenOwn rfl rfl Try.underlying35 hf803) fun a859 h859 => ?_; clear h858
       refine pk0 (v := .bool (decide (((k : Nat) : Int) < ((((prsH (RDs LL r) 0 4).map putP).length : Nat) : Int)))) h859 rfl fun a860 h860 => ?_; clear h859
       refine pk0 (v := .bool (decide (((k : Nat) : Int) < ((((prsH (RDs LL r) 0 4).map putP).length : Nat) : Int)))) h860 rfl fun a861 h861 => ?_; clear h860
       cases hc862 : (decide (((k : Nat) : Int) < ((((prsH (RDs LL r) 0 4).map putP).length : Nat) : Int)))
       ·
        rw [hc862] at h861
        have hp863 : ¬ (((k : Nat) : Int) < ((((prsH (RDs LL r) 0 4).map putP).length : Nat) : Int)) := of_decide_eq_false hc862
        clear hc862
        refine psk h861 rfl fun a864 h864 => ?_; clear h861
        refine psk h864 rfl fun a865 h865 => ?_; clear h864
        refine pk0 (v := .bool false) h865 rfl fun a866 h866 => ?_; clear h865
        refine pl_nil ?_
        refine co_then ?_
        refine co_false h866 rfl ?_
        refine wp_exit ?_
        refine co_thenX ?_
        refine co_thenX ?_
        refine co_blockX ?_
        refine co_blockN ?_
        refine co_then ?_
        refine co_reg ?_
        refine pk0 (v := .int .i64 0) h866 rfl fun a867 h867 => ?_; clear h866
        refine pk0 (v := .int .i64 1) h867 rfl fun a868 h868 => ?_; clear h867
        refine pk0 (v := .int .i64 1) h868 rfl fun a869 h869 => ?_; clear h868
        refine pl_nil ?_
        refine co_then ?_
        refine co_unroll (n := 3) ?_
        refine co_seq ?_
        refine co_seq ?_
        refine co_reg ?_
        refine pk0 (v := .int .i64 1) h869 rfl fun a870 h870 => ?_; clear h869
        refine pk0 (v := .bool (decide (1 < 4))) h870 rfl fun a871 h871 => ?_; clear h870
        refine pl_nil ?_
        refine co_then ?_
        have hc872 : (decide (1 < 4)) = true := decide_eq_true (by omega)
        rw [hc872] at h871; clear hc872
        refine co_true h871 rfl ?_
        refine wp_skip ?_
        refine co_then ?_
        refine co_seq ?_
        refine wp_block ?_
        refine co_seq ?_
        refine co_reg ?_
        refine pk0 (v := .int .i64 0) h871 rfl fun a873 h873 => ?_; clear h871
        refine pl_nil ?_
        refine co_then ?_
        refine wp_block ?_
        have hlen874 : (prsH (RDs LL r) 0 4).length ≤ k := by omega
        have h875 : Slots 195 [(0, v), (3, pt N4 0), (7, pt N216 0), (8, pt N225 0), (11, .int .i64 ((r : Nat) : Int)), (12, pt N567 0), (14, .int .i64 1), (15, .int .i64 0)] _ := h873.sub ⟨rfl, rfl, rfl, rfl, rfl, rfl, rfl, rfl, trivial⟩; clear h873
        refine co_loop (fun mm a x => ∃ (k : Nat) (SP1 : Nat → Prop) (SQ1 : Nat → Prop), Slots 195 [(0, v), (3, pt N4 0), (7, pt N216 0), (8, pt N225 0), (11, .int .i64 ((r : Nat) : Int)), (12, pt N567 0), (14, .int .i64 1), (15, .int .i64 ((k : Nat) : Int))] a ∧ mm = 60 - k ∧ (k ≤ (prsH (RDs LL r) 1 4).length) ∧ (∀ q, SP1 q → w.heap.size ≤ q) ∧ (∀ q, SB q → w.heap.size ≤ q) ∧ (∀ q, SQ1 q → w.heap.size ≤ q) ∧ (∀ q, SP1 q → SB q → False) ∧ (∀ q, SP1 q → SQ1 q → False) ∧ (∀ q, SB q → SQ1 q → False) ∧ (∀ i, (Value.ownBlock (v635)) = some i → ¬ SP1 i) ∧ (∀ i, (Value.ownBlock (v635)) = some i → ¬ SB i) ∧ (∀ i, (Value.ownBlock (v635)) = some i → ¬ SQ1 i) ∧ (∀ i, (Value.ownBlock (v680)) = some i → ¬ SP1 i) ∧ (∀ i, (Value.ownBlock (v680)) = some i → ¬ SB i) ∧ (∀ i, (Value.ownBlock (v680)) = some i → ¬ SQ1 i) ∧ (∀ i, (Value.ownBlock (v727)) = some i → ¬ SP1 i) ∧ (∀ i, (Value.ownBlock (v727)) = some i → ¬ SB i) ∧ (∀ i, (Value.ownBlock (v727)) = some i → ¬ SQ1 i) ∧ (¬ SP1 N567) ∧ (¬ SB N567) ∧ (¬ SQ1 N567) ∧ HubsO SP1 x N4 q (Dn (RDs LL r) 1 k) ∧ LstO SB x N216 (flatL sn) ∧ LstO SQ1 x N225 (flatL (Gn (RDs LL r) (GTs LL r) 1 k)) ∧ Blk x N567 49 #[v593, v635, v680, v727] ∧ x.ownsRow w608.heap.size 51 2 v635 ((prsH (RDs LL r) 1 4).map putP).length (((prsH (RDs LL r) 1 4).map putP).flatMap outE) ∧ x.ownsRow w651.heap.size 51 2 v680 ((prsH (RDs LL r) 2 4).map putP).length (((prsH (RDs LL r) 2 4).map putP).flatMap outE) ∧ x.ownsRow w696.heap.size 51 2 v727 ((prsH (RDs LL r) 3 4).map putP).length (((prsH (RDs LL r) 3 4).map putP).flatMap outE) ∧ Below w.heap.size w x) (60 - 0) ?_ ?_
        · exact ⟨0, SP0, SQ0, h875.sub ⟨rfl, rfl, rfl, rfl, rfl, rfl, rfl, (slot_eq rfl (congrArg (Value.int .i64) (by first | rfl | omega))), trivial⟩, rfl, by omega, by exact hlo831, by exact hlo833, by exact hlo835, by exact hap837, by exact hap838, by exact hap843, by exact ho840, by exact ho845, by exact ho849, by exact ho841, by exact ho846, by exact ho850, by exact ho842, by exact ho847, by exact ho851, by exact ho852, by exact ho853, by exact ho854, (HubsO.congr hf799 (Dn_next hlen874)), hf800, (LstO.congr hf801 (flatL_eq (fun a b ha hb => Gn_next hlen874 a b hb))), hf802, hf804, hf805, hf806, hB807⟩
        · rintro k876 a877 w878 ⟨k, SP1, SQ1, h877, rfl, hi879, hi880, hi881, hi882, hi883, hi884, hi885, hi886, hi887, hi888, hi889, hi890, hi891, hi892, hi893, hi894, hi895, hi896, hi897, hf898, hf899, hf900, hf901, hf902, hf903, hf904, hB905⟩
          have hz906 := hB905.size
          have hl907 := hf901.lt
          have hge908 : w.heap.size ≤ N4 := by omega
          have hge909 : w.heap.size ≤ N216 := by omega
          have hge910 : w.heap.size ≤ N225 := by omega
          have hge911 : w.heap.size ≤ N567 := by omega
          have hne912 : N4 < N216 := by omega
          have hne913 : N216 < N225 := by omega
          have hne914 : N225 < N567 := by omega
          have hne915 : N216 < w608.heap.size := by omega
          have hne916 : N225 < w608.heap.size := by omega
          have hne917 : N567 < w608.heap.size := by omega
          have hne918 : N216 < w651.heap.size := by omega
          have hne919 : N225 < w651.heap.size := by omega
          have hne920 : N567 < w651.heap.size := by omega
          have hne921 : N216 < w696.heap.size := by omega
          have hne922 : N225 < w696.heap.size := by omega
          have hne923 : N567 < w696.heap.size := by omega
          first | clear hl907 hz906 hlt836 hlt834 hlt832 hl830 hz829 hlt522 hlt520 hz518 hz512 hz230 | (try clear hl907; try clear hz906; try clear hlt836; try clear hlt834; try clear hlt832; try clear hl830; try clear hz829; try clear hlt522; try clear hlt520; try clear hz518; try clear hz512; try clear hz230)
          first | clear hN228 hz229 hz221 hN219 hz220 hz571 hlt556 hlt554 hlt552 hz550 hlt213 hz212 | (try clear hN228; try clear hz229; try clear hz221; try clear hN219; try clear hz220; try clear hz571; try clear hlt556; try clear hlt554; try clear hlt552; try clear hz550; try clear hlt213; try clear hz212)
          first | clear hz9 hN7 hz8 hz544 hlt524 hz656 hz653 hl647 hz645 hz644 hz613 hz610 | (try clear hz9; try clear hN7; try clear hz8; try clear hz544; try clear hlt524; try clear hz656; try clear hz653; try clear hl647; try clear hz645; try clear hz644; try clear hz613; try clear hz610)
          first | clear hl604 hz602 hz601 hz572 hN570 hl809 hz808 hz748 hz745 hl739 hz737 hz736 | (try clear hl604; try clear hz602; try clear hz601; try clear hz572; try clear hN570; try clear hl809; try clear hz808; try clear hz748; try clear hz745; try clear hl739; try clear hz737; try clear hz736)
          first | clear hz701 hz698 hl692 hz690 hz689 | (try clear hz701; try clear hz698; try clear hl692; try clear hz690; try clear hz689)
          have hz924 := hB905.size
          have hl925 := hf901.lt
          have hlo926 : ∀ q, SP1 q → w.heap.size ≤ q := by assumption
          have hlt927 := HubsO.lt hf898
          have hlo928 : ∀ q, SB q → w.heap.size ≤ q := by assumption
          have hlt929 := LstO.lt hf899
          have hlo930 : ∀ q, SQ1 q → w.heap.size ≤ q := by assumption
          have hlt931 := LstO.lt hf900
          have hap932 : ∀ q, SP1 q → SB q → False := by assumption
          have hap933 : ∀ q, SP1 q → SQ1 q → False := by assumption
          have ho934 : ∀ i, (Value.ownBlock (v635)) = some i → ¬ SP1 i := by assumption
          have ho935 : ∀ i, (Value.ownBlock (v680)) = some i → ¬ SP1 i := by assumption
          have ho936 : ∀ i, (Value.ownBlock (v727)) = some i → ¬ SP1 i := by assumption
          have hap937 : ∀ q, SB q → SQ1 q → False := by assumption
          have ho938 : ∀ i, (Value.ownBlock (v635)) = some i → ¬ SB i := by assumption
          have ho939 : ∀ i, (Value.ownBlock (v680)) = some i → ¬ SB i := by assumption
          have ho940 : ∀ i, (Value.ownBlock (v727)) = some i → ¬ SB i := by assumption
          have ho941 : ∀ i, (Value.ownBlock (v635)) = some i → ¬ SQ1 i := by assumption
          have ho942 : ∀ i, (Value.ownBlock (v680)) = some i → ¬ SQ1 i := by assumption
          have ho943 : ∀ i, (Value.ownBlock (v727)) = some i → ¬ SQ1 i := by assumption
          have ho944 : ¬ SP1 N567 := by assumption
          have ho945 : ¬ SB N567 := by assumption
          have ho946 : ¬ SQ1 N567 := by assumption
          have hlm : ((prsH (RDs LL r) 1 4).map putP).length = (prsH (RDs LL r) 1 4).length := List.length_map _
          refine co_seq ?_
          refine co_seq ?_
          refine co_reg ?_
          refine pk0 (v := .int .i64 ((k : Nat) : Int)) h877 rfl fun a947 h947 => ?_; clear h877
          refine pk0 (v := .int .i64 1) h947 rfl fun a948 h948 => ?_; clear h947
          refine pk0 (v := pt N567 1) h948 rfl fun a949 h949 => ?_; clear h948
          refine pk (v := v635) h949 rfl (rn_load1 rfl rfl Try.isAgg35 (hf901.cell rfl)) fun a950 h950 => ?_; clear h949
          refine pk (v := .int .i64 ((((prsH (RDs LL r) 1 4).map putP).length : Nat) : Int)) h950 rfl (rn_lenOwn rfl rfl Try.underlying35 hf902) fun a951 h951 => ?_; clear h950
          refine pk0 (v := .bool (decide (((k : Nat) : Int) < ((((prsH (RDs LL r) 1 4).map putP).length : Nat) : Int)))) h951 rfl fun a952 h952 => ?_; clear h951
          refine pk0 (v := .bool (decide (((k : Nat) : Int) < ((((prsH (RDs LL r) 1 4).map putP).length : Nat) : Int)))) h952 rfl fun a953 h953 => ?_; clear h952
          cases hc954 : (decide (((k : Nat) : Int) < ((((prsH (RDs LL r) 1 4).map putP).length : Nat) : Int)))
          ·
           rw [hc954] at h953
           have hp955 : ¬ (((k : Nat) : Int) < ((((prsH (RDs LL r) 1 4).map putP).length : Nat) : Int)) := of_decide_eq_false hc954
           clear hc954
           refine psk h953 rfl fun a956 h956 => ?_; clear h953
           refine psk h956 rfl fun a957 h957 => ?_; clear h956
           refine pk0 (v := .bool false) h957 rfl fun a958 h958 => ?_; clear h957
           refine pl_nil ?_
           refine co_then ?_
           refine co_false h958 rfl ?_
           refine wp_exit ?_
           refine co_thenX ?_
           refine co_thenX ?_
           refine co_blockX ?_
           refine co_blockN ?_
           refine co_then ?_
           refine co_reg ?_
           refine pk0 (v := .int .i64 1) h958 rfl fun a959 h959 => ?_; clear h958
           refine pk0 (v := .int .i64 2) h959 rfl fun a960 h960 => ?_; clear h959
           refine pk0 (v := .int .i64 2) h960 rfl fun a961 h961 => ?_; clear h960
           refine pl_nil ?_
           refine co_then ?_
           refine co_unroll (n := 2) ?_
           refine co_seq ?_
           refine co_seq ?_
           refine co_reg ?_
           refine pk0 (v := .int .i64 2) h961 rfl fun a962 h962 => ?_; clear h961
           refine pk0 (v := .bool (decide (2 < 4))) h962 rfl fun a963 h963 => ?_; clear h962
           refine pl_nil ?_
           refine co_then ?_
           have hc964 : (decide (2 < 4)) = true := decide_eq_true (by omega)
           rw [hc964] at h963; clear hc964
           refine co_true h963 rfl ?_
           refine wp_skip ?_
           refine co_then ?_
           refine co_seq ?_
           refine wp_block ?_
           refine co_seq ?_
           refine co_reg ?_
           refine pk0 (v := .int .i64 0) h963 rfl fun a965 h965 => ?_; clear h963
           refine pl_nil ?_
           refine co_then ?_
           refine wp_block ?_
           have hlen966 : (prsH (RDs LL r) 1 4).length ≤ k := by omega
           have h967 : Slots 195 [(0, v), (3, pt N4 0), (7, pt N216 0), (8, pt N225 0), (11, .int .i64 ((r : Nat) : Int)), (12, pt N567 0), (14, .int .i64 2), (15, .int .i64 0)] _ := h965.sub ⟨rfl, rfl, rfl, rfl, rfl, rfl, rfl, rfl, trivial⟩; clear h965
           refine co_loop (fun mm a x => ∃ (k : Nat) (SP2 : Nat → Prop) (SQ2 : Nat → Prop), Slots 195 [(0, v), (3, pt N4 0), (7, pt N216 0), (8, pt N225 0), (11, .int .i64 ((r : Nat) : Int)), (12, pt N567 0), (14, .int .i64 2), (15, .int .i64 ((k : Nat) : Int))] a ∧ mm = 60 - k ∧ (k ≤ (prsH (RDs LL r) 2 4).length) ∧ (∀ q, SP2 q → w.heap.size ≤ q) ∧ (∀ q, SB q → w.heap.size ≤ q) ∧ (∀ q, SQ2 q → w.heap.size ≤ q) ∧ (∀ q, SP2 q → SB q → False) ∧ (∀ q, SP2 q → SQ2 q → False) ∧ (∀ q, SB q → SQ2 q → False) ∧ (∀ i, (Value.ownBlock (v680)) = some i → ¬ SP2 i) ∧ (∀ i, (Value.ownBlock (v680)) = some i → ¬ SB i) ∧ (∀ i, (Value.ownBlock (v680)) = some i → ¬ SQ2 i) ∧ (∀ i, (Value.ownBlock (v727)) = some i → ¬ SP2 i) ∧ (∀ i, (Value.ownBlock (v727)) = some i → ¬ SB i) ∧ (∀ i, (Value.ownBlock (v727)) = some i → ¬ SQ2 i) ∧ (¬ SP2 N567) ∧ (¬ SB N567) ∧ (¬ SQ2 N567) ∧ HubsO SP2 x N4 q (Dn (RDs LL r) 2 k) ∧ LstO SB x N216 (flatL sn) ∧ LstO SQ2 x N225 (flatL (Gn (RDs LL r) (GTs LL r) 2 k)) ∧ Blk x N567 49 #[v593, v635, v680, v727] ∧ x.ownsRow w651.heap.size 51 2 v680 ((prsH (RDs LL r) 2 4).map putP).length (((prsH (RDs LL r) 2 4).map putP).flatMap outE) ∧ x.ownsRow w696.heap.size 51 2 v727 ((prsH (RDs LL r) 3 4).map putP).length (((prsH (RDs LL r) 3 4).map putP).flatMap outE) ∧ Below w.heap.size w x) (60 - 0) ?_ ?_
           · exact ⟨0, SP1, SQ1, h967.sub ⟨rfl, rfl, rfl, rfl, rfl, rfl, rfl, (slot_eq rfl (congrArg (Value.int .i64) (by first | rfl | omega))), trivial⟩, rfl, by omega, by exact hlo926, by exact hlo928, by exact hlo930, by exact hap932, by exact hap933, by exact hap937, by exact ho935, by exact ho939, by exact ho942, by exact ho936, by exact ho940, by exact ho943, by exact ho944, by exact ho945, by exact ho946, (HubsO.congr hf898 (Dn_next hlen966)), hf899, (LstO.congr hf900 (flatL_eq (fun a b ha hb => Gn_next hlen966 a b hb))), hf901, hf903, hf904, hB905⟩
           · rintro k968 a969 w970 ⟨k, SP2, SQ2, h969, rfl, hi971, hi972, hi973, hi974, hi975, hi976, hi977, hi978, hi979, hi980, hi981, hi982, hi983, hi984, hi985, hi986, hf987, hf988, hf989, hf990, hf991, hf992, hB993⟩
             have hz994 := hB993.size
             have hl995 := hf990.lt
             have hge996 : w.heap.size ≤ N4 := by omega
             have hge997 : w.heap.size ≤ N216 := by omega
             have hge998 : w.heap.size ≤ N225 := by omega
             have hge999 : w.heap.size ≤ N567 := by omega
             have hne1000 : N4 < N216 := by omega
             have hne1001 : N216 < N225 := by omega
             have hne1002 : N225 < N567 := by omega
             have hne1003 : N216 < w651.heap.size := by omega
             have hne1004 : N225 < w651.heap.size := by omega
             have hne1005 : N567 < w651.heap.size := by omega
             have hne1006 : N216 < w696.heap.size := by omega
             have hne1007 : N225 < w696.heap.size := by omega
             have hne1008 : N567 < w696.heap.size := by omega
             first | clear hl995 hz994 hlt931 hlt929 hlt927 hl925 hz924 hz701 hz698 hl692 hz690 hz689 | (try clear hl995; try clear hz994; try clear hlt931; try clear hlt929; try clear hlt927; try clear hl925; try clear hz924; try clear hz701; try clear hz698; try clear hl692; try clear hz690; try clear hz689)
             first | clear hl604 hz602 hz601 hz572 hN570 hl809 hz808 hz748 hz745 hl739 hz737 hz736 | (try clear hl604; try clear hz602; try clear hz601; try clear hz572; try clear hN570; try clear hl809; try clear hz808; try clear hz748; try clear hz745; try clear hl739; try clear hz737; try clear hz736)
             first | clear hz9 hN7 hz8 hz544 hlt524 hz656 hz653 hl647 hz645 hz644 hz613 hz610 | (try clear hz9; try clear hN7; try clear hz8; try clear hz544; try clear hlt524; try clear hz656; try clear hz653; try clear hl647; try clear hz645; try clear hz644; try clear hz613; try clear hz610)
             first | clear hN228 hz229 hz221 hN219 hz220 hz571 hlt556 hlt554 hlt552 hz550 hlt213 hz212 | (try clear hN228; try clear hz229; try clear hz221; try clear hN219; try clear hz220; try clear hz571; try clear hlt556; try clear hlt554; try clear hlt552; try clear hz550; try clear hlt213; try clear hz212)
             first | clear hl907 hz906 hlt836 hlt834 hlt832 hl830 hz829 hlt522 hlt520 hz518 hz512 hz230 | (try clear hl907; try clear hz906; try clear hlt836; try clear hlt834; try clear hlt832; try clear hl830; try clear hz829; try clear hlt522; try clear hlt520; try clear hz518; try clear hz512; try clear hz230)
             have hz1009 := hB993.size
             have hl1010 := hf990.lt
             have hlo1011 : ∀ q, SP2 q → w.heap.size ≤ q := by assumption
             have hlt1012 := HubsO.lt hf987
             have hlo1013 : ∀ q, SB q → w.heap.size ≤ q := by assumption
             have hlt1014 := LstO.lt hf988
             have hlo1015 : ∀ q, SQ2 q → w.heap.size ≤ q := by assumption
             have hlt1016 := LstO.lt hf989
             have hap1017 : ∀ q, SP2 q → SB q → False := by assumption
             have hap1018 : ∀ q, SP2 q → SQ2 q → False := by assumption
             have ho1019 : ∀ i, (Value.ownBlock (v680)) = some i → ¬ SP2 i := by assumption
             have ho1020 : ∀ i, (Value.ownBlock (v727)) = some i → ¬ SP2 i := by assumption
             have hap1021 : ∀ q, SB q → SQ2 q → False := by assumption
             have ho1022 : ∀ i, (Value.ownBlock (v680)) = some i → ¬ SB i := by assumption
             have ho1023 : ∀ i, (Value.ownBlock (v727)) = some i → ¬ SB i := by assumption
             have ho1024 : ∀ i, (Value.ownBlock (v680)) = some i → ¬ SQ2 i := by assumption
             have ho1025 : ∀ i, (Value.ownBlock (v727)) = some i → ¬ SQ2 i := by assumption
             have ho1026 : ¬ SP2 N567 := by assumption
             have ho1027 : ¬ SB N567 := by assumption
             have ho1028 : ¬ SQ2 N567 := by assumption
             have hlm : ((prsH (RDs LL r) 2 4).map putP).length = (prsH (RDs LL r) 2 4).length := List.length_map _
             refine co_seq ?_
             refine co_seq ?_
             refine co_reg ?_
             refine pk0 (v := .int .i64 ((k : Nat) : Int)) h969 rfl fun a1029 h1029 => ?_; clear h969
             refine pk0 (v := .int .i64 2) h1029 rfl fun a1030 h1030 => ?_; clear h1029
             refine pk0 (v := pt N567 2) h1030 rfl fun a1031 h1031 => ?_; clear h1030
             refine pk (v := v680) h1031 rfl (rn_load1 rfl rfl Try.isAgg35 (hf990.cell rfl)) fun a1032 h1032 => ?_; clear h1031
             refine pk (v := .int .i64 ((((prsH (RDs LL r) 2 4).map putP).length : Nat) : Int)) h1032 rfl (rn_lenOwn rfl rfl Try.underlying35 hf991) fun a1033 h1033 => ?_; clear h1032
             refine pk0 (v := .bool (decide (((k : Nat) : Int) < ((((prsH (RDs LL r) 2 4).map putP).length : Nat) : Int)))) h1033 rfl fun a1034 h1034 => ?_; clear h1033
             refine pk0 (v := .bool (decide (((k : Nat) : Int) < ((((prsH (RDs LL r) 2 4).map putP).length : Nat) : Int)))) h1034 rfl fun a1035 h1035 => ?_; clear h1034
             cases hc1036 : (decide (((k : Nat) : Int) < ((((prsH (RDs LL r) 2 4).map putP).length : Nat) : Int)))
             ·
              rw [hc1036] at h1035
              have hp1037 : ¬ (((k : Nat) : Int) < ((((prsH (RDs LL r) 2 4).map putP).length : Nat) : Int)) := of_decide_eq_false hc1036
              clear hc1036
              refine psk h1035 rfl fun a1038 h1038 => ?_; clear h1035
              refine psk h1038 rfl fun a1039 h1039 => ?_; clear h1038
              refine pk0 (v := .bool false) h1039 rfl fun a1040 h1040 => ?_; clear h1039
              refine pl_nil ?_
              refine co_then ?_
              refine co_false h1040 rfl ?_
              refine wp_exit ?_
              refine co_thenX ?_
              refine co_thenX ?_
              refine co_blockX ?_
              refine co_blockN ?_
              refine co_then ?_
              refine co_reg ?_
              refine pk0 (v := .int .i64 2) h1040 rfl fun a1041 h1041 => ?_; clear h1040
              refine pk0 (v := .int .i64 3) h1041 rfl fun a1042 h1042 => ?_; clear h1041
              refine pk0 (v := .int .i64 3) h1042 rfl fun a1043 h1043 => ?_; clear h1042
              refine pl_nil ?_
              refine co_then ?_
              refine co_unroll (n := 1) ?_
              refine co_seq ?_
              refine co_seq ?_
              refine co_reg ?_
              refine pk0 (v := .int .i64 3) h1043 rfl fun a1044 h1044 => ?_; clear h1043
              refine pk0 (v := .bool (decide (3 < 4))) h1044 rfl fun a1045 h1045 => ?_; clear h1044
              refine pl_nil ?_
              refine co_then ?_
              have hc1046 : (decide (3 < 4)) = true := decide_eq_true (by omega)
              rw [hc1046] at h1045; clear hc1046
              refine co_true h1045 rfl ?_
              refine wp_skip ?_
              refine co_then ?_
              refine co_seq ?_
              refine wp_block ?_
              refine co_seq ?_
              refine co_reg ?_
              refine pk0 (v := .int .i64 0) h1045 rfl fun a1047 h1047 => ?_; clear h1045
              refine pl_nil ?_
              refine co_then ?_
              refine wp_block ?_
              have hlen1048 : (prsH (RDs LL r) 2 4).length ≤ k := by omega
              have h1049 : Slots 195 [(0, v), (3, pt N4 0), (7, pt N216 0), (8, pt N225 0), (11, .int .i64 ((r : Nat) : Int)), (12, pt N567 0), (14, .int .i64 3), (15, .int .i64 0)] _ := h1047.sub ⟨rfl, rfl, rfl, rfl, rfl, rfl, rfl, rfl, trivial⟩; clear h1047
              refine co_loop (fun mm a x => ∃ (k : Nat) (SP3 : Nat → Prop) (SQ3 : Nat → Prop), Slots 195 [(0, v), (3, pt N4 0), (7, pt N216 0), (8, pt N225 0), (11, .int .i64 ((r : Nat) : Int)), (12, pt N567 0), (14, .int .i64 3), (15, .int .i64 ((k : Nat) : Int))] a ∧ mm = 60 - k ∧ (k ≤ (prsH (RDs LL r) 3 4).length) ∧ (∀ q, SP3 q → w.heap.size ≤ q) ∧ (∀ q, SB q → w.heap.size ≤ q) ∧ (∀ q, SQ3 q → w.heap.size ≤ q) ∧ (∀ q, SP3 q → SB q → False) ∧ (∀ q, SP3 q → SQ3 q → False) ∧ (∀ q, SB q → SQ3 q → False) ∧ (∀ i, (Value.ownBlock (v727)) = some i → ¬ SP3 i) ∧ (∀ i, (Value.ownBlock (v727)) = some i → ¬ SB i) ∧ (∀ i, (Value.ownBlock (v727)) = some i → ¬ SQ3 i) ∧ (¬ SP3 N567) ∧ (¬ SB N567) ∧ (¬ SQ3 N567) ∧ HubsO SP3 x N4 q (Dn (RDs LL r) 3 k) ∧ LstO SB x N216 (flatL sn) ∧ LstO SQ3 x N225 (flatL (Gn (RDs LL r) (GTs LL r) 3 k)) ∧ Blk x N567 49 #[v593, v635, v680, v727] ∧ x.ownsRow w696.heap.size 51 2 v727 ((prsH (RDs LL r) 3 4).map putP).length (((prsH (RDs LL r) 3 4).map putP).flatMap outE) ∧ Below w.heap.size w x) (60 - 0) ?_ ?_
              · exact ⟨0, SP2, SQ2, h1049.sub ⟨rfl, rfl, rfl, rfl, rfl, rfl, rfl, (slot_eq rfl (congrArg (Value.int .i64) (by first | rfl | omega))), trivial⟩, rfl, by omega, by exact hlo1011, by exact hlo1013, by exact hlo1015, by exact hap1017, by exact hap1018, by exact hap1021, by exact ho1020, by exact ho1023, by exact ho1025, by exact ho1026, by exact ho1027, by exact ho1028, (HubsO.congr hf987 (Dn_next hlen1048)), hf988, (LstO.congr hf989 (flatL_eq (fun a b ha hb => Gn_next hlen1048 a b hb))), hf990, hf992, hB993⟩
              · rintro k1050 a1051 w1052 ⟨k, SP3, SQ3, h1051, rfl, hi1053, hi1054, hi1055, hi1056, hi1057, hi1058, hi1059, hi1060, hi1061, hi1062, hi1063, hi1064, hi1065, hf1066, hf1067, hf1068, hf1069, hf1070, hB1071⟩
                have hz1072 := hB1071.size
                have hl1073 := hf1069.lt
                have hge1074 : w.heap.size ≤ N4 := by omega
                have hge1075 : w.heap.size ≤ N216 := by omega
                have hge1076 : w.heap.size ≤ N225 := by omega
                have hge1077 : w.heap.size ≤ N567 := by omega
                have hne1078 : N4 < N216 := by omega
                have hne1079 : N216 < N225 := by omega
                have hne1080 : N225 < N567 := by omega
                have hne1081 : N216 < w696.heap.size := by omega
                have hne1082 : N225 < w696.heap.size := by omega
                have hne1083 : N567 < w696.heap.size := by omega
                first | clear hl1073 hz1072 hlt1016 hlt1014 hlt1012 hl1010 hz1009 hl907 hz906 hlt836 hlt834 hlt832 | (try clear hl1073; try clear hz1072; try clear hlt1016; try clear hlt1014; try clear hlt1012; try clear hl1010; try clear hz1009; try clear hl907; try clear hz906; try clear hlt836; try clear hlt834; try clear hlt832)
                first | clear hl830 hz829 hlt522 hlt520 hz518 hz512 hz230 hN228 hz229 hz221 hN219 hz220 | (try clear hl830; try clear hz829; try clear hlt522; try clear hlt520; try clear hz518; try clear hz512; try clear hz230; try clear hN228; try clear hz229; try clear hz221; try clear hN219; try clear hz220)
                first | clear hz571 hlt556 hlt554 hlt552 hz550 hlt213 hz212 hz9 hN7 hz8 hz544 hlt524 | (try clear hz571; try clear hlt556; try clear hlt554; try clear hlt552; try clear hz550; try clear hlt213; try clear hz212; try clear hz9; try clear hN7; try clear hz8; try clear hz544; try clear hlt524)
                first | clear hz656 hz653 hl647 hz645 hz644 hz613 hz610 hl604 hz602 hz601 hz572 hN570 | (try clear hz656; try clear hz653; try clear hl647; try clear hz645; try clear hz644; try clear hz613; try clear hz610; try clear hl604; try clear hz602; try clear hz601; try clear hz572; try clear hN570)
                first | clear hl809 hz808 hz748 hz745 hl739 hz737 hz736 hl995 hz994 hlt931 hlt929 hlt927 | (try clear hl809; try clear hz808; try clear hz748; try clear hz745; try clear hl739; try clear hz737; try clear hz736; try clear hl995; try clear hz994; try clear hlt931; try clear hlt929; try clear hlt927)
                first | clear hl925 hz924 hz701 hz698 hl692 hz690 hz689 | (try clear hl925; try clear hz924; try clear hz701; try clear hz698; try clear hl692; try clear hz690; try clear hz689)
                have hz1084 := hB1071.size
                have hl1085 := hf1069.lt
                have hlo1086 : ∀ q, SP3 q → w.heap.size ≤ q := by assumption
                have hlt1087 := HubsO.lt hf1066
                have hlo1088 : ∀ q, SB q → w.heap.size ≤ q := by assumption
                have hlt1089 := LstO.lt hf1067
                have hlo1090 : ∀ q, SQ3 q → w.heap.size ≤ q := by assumption
                have hlt1091 := LstO.lt hf1068
                have hap1092 : ∀ q, SP3 q → SB q → False := by assumption
                have hap1093 : ∀ q, SP3 q → SQ3 q → False := by assumption
                have ho1094 : ∀ i, (Value.ownBlock (v727)) = some i → ¬ SP3 i := by assumption
                have hap1095 : ∀ q, SB q → SQ3 q → False := by assumption
                have ho1096 : ∀ i, (Value.ownBlock (v727)) = some i → ¬ SB i := by assumption
                have ho1097 : ∀ i, (Value.ownBlock (v727)) = some i → ¬ SQ3 i := by assumption
                have ho1098 : ¬ SP3 N567 := by assumption
                have ho1099 : ¬ SB N567 := by assumption
                have ho1100 : ¬ SQ3 N567 := by assumption
                have hlm : ((prsH (RDs LL r) 3 4).map putP).length = (prsH (RDs LL r) 3 4).length := List.length_map _
                refine co_seq ?_
                refine co_seq ?_
                refine co_reg ?_
                refine pk0 (v := .int .i64 ((k : Nat) : Int)) h1051 rfl fun a1101 h1101 => ?_; clear h1051
                refine pk0 (v := .int .i64 3) h1101 rfl fun a1102 h1102 => ?_; clear h1101
                refine pk0 (v := pt N567 3) h1102 rfl fun a1103 h1103 => ?_; clear h1102
                refine pk (v := v727) h1103 rfl (rn_load1 rfl rfl Try.isAgg35 (hf1069.cell rfl)) fun a1104 h1104 => ?_; clear h1103
                refine pk (v := .int .i64 ((((prsH (RDs LL r) 3 4).map putP).length : Nat) : Int)) h1104 rfl (rn_lenOwn rfl rfl Try.underlying35 hf1070) fun a1105 h1105 => ?_; clear h1104
                refine pk0 (v := .bool (decide (((k : Nat) : Int) < ((((prsH (RDs LL r) 3 4).map putP).length : Nat) : Int)))) h1105 rfl fun a1106 h1106 => ?_; clear h1105
                refine pk0 (v := .bool (decide (((k : Nat) : Int) < ((((prsH (RDs LL r) 3 4).map putP).length : Nat) : Int)))) h1106 rfl fun a1107 h1107 => ?_; clear h1106
                cases hc1108 : (decide (((k : Nat) : Int) < ((((prsH (RDs LL r) 3 4).map putP).length : Nat) : Int)))
                ·
                 rw [hc1108] at h1107
                 have hp1109 : ¬ (((k : Nat) : Int) < ((((prsH (RDs LL r) 3 4).map putP).length : Nat) : Int)) := of_decide_eq_false hc1108
                 clear hc1108
                 refine psk h1107 rfl fun a1110 h1110 => ?_; clear h1107
                 refine psk h1110 rfl fun a1111 h1111 => ?_; clear h1110
                 refine pk0 (v := .bool false) h1111 rfl fun a1112 h1112 => ?_; clear h1111
                 refine pl_nil ?_
                 refine co_then ?_
                 refine co_false h1112 rfl ?_
                 refine wp_exit ?_
                 refine co_thenX ?_
                 refine co_thenX ?_
                 refine co_blockX ?_
                 refine co_blockN ?_
                 refine co_then ?_
                 refine co_reg ?_
                 refine pk0 (v := .int .i64 3) h1112 rfl fun a1113 h1113 => ?_; clear h1112
                 refine pk0 (v := .int .i64 4) h1113 rfl fun a1114 h1114 => ?_; clear h1113
                 refine pk0 (v := .int .i64 4) h1114 rfl fun a1115 h1115 => ?_; clear h1114
                 refine pl_nil ?_
                 refine co_then ?_
                 refine co_unroll (n := 0) ?_
                 refine co_seq ?_
                 refine co_seq ?_
                 refine co_reg ?_
                 refine pk0 (v := .int .i64 4) h1115 rfl fun a1116 h1116 => ?_; clear h1115
                 refine pk0 (v := .bool (decide (4 < 4))) h1116 rfl fun a1117 h1117 => ?_; clear h1116
                 refine pl_nil ?_
                 refine co_then ?_
                 have hc1118 : (decide (4 < 4)) = false := decide_eq_false (by omega)
                 rw [hc1118] at h1117; clear hc1118
                 refine co_false h1117 rfl ?_
                 refine wp_exit ?_
                 refine co_thenX ?_
                 refine co_thenX ?_
                 refine co_blockX ?_
                 refine co_blockN ?_
                 refine co_then ?_
                 refine co_reg ?_
                 refine pk0 (v := .int .i64 ((r : Nat) : Int)) h1117 rfl fun a1119 h1119 => ?_; clear h1117
                 refine pk (v := .int .i64 ((r + 1 : Nat) : Int)) h1119 rfl (rn_arith' rfl rfl rfl rfl rfl rfl (IntWalk.i64_in _ (by omega)) (by omega)) fun a1120 h1120 => ?_; clear h1119
                 refine pk0 (v := .int .i64 ((r + 1 : Nat) : Int)) h1120 rfl fun a1121 h1121 => ?_; clear h1120
                 refine pl_nil ?_
                 refine co_then ?_
                 refine ⟨(8 - (r + 1)), by omega, ?_⟩
                 have hlen1122 : (prsH (RDs LL r) 3 4).length ≤ k := by omega
                 exact ⟨r + 1, SP3, SQ3, h1121.sub ⟨rfl, rfl, rfl, rfl, rfl, trivial⟩, rfl, by omega, by exact hlo1086, by exact hlo1088, by exact hlo1090, by exact hap1092, by exact hap1093, by exact hap1095, (HubsO.congr hf1066 (fun a b ha hb hn => (Dn_next hlen1122 a b ha hb hn).trans (Dn_end a b ha hb hn))), hf1067, (LstO.congr hf1068 (flatL_eq (fun a b ha hb => (Gn_next hlen1122 a b hb).trans (Gn_end ha)))), hB1071⟩
                ·
                 rw [hc1108] at h1107
                 have hp1123 : ((k : Nat) : Int) < ((((prsH (RDs LL r) 3 4).map putP).length : Nat) : Int) := of_decide_eq_true hc1108
                 clear hc1108
                 refine pk0 (v := .int .i64 ((k : Nat) : Int)) h1107 rfl fun a1124 h1124 => ?_; clear h1107
                 refine pk0 (v := .bool (decide (((k : Nat) : Int) < 60))) h1124 rfl fun a1125 h1125 => ?_; clear h1124
                 refine pk0 (v := .bool (decide (((k : Nat) : Int) < 60))) h1125 rfl fun a1126 h1126 => ?_; clear h1125
                 refine pl_nil ?_
                 refine co_then ?_
                 have hc1127 : (decide (((k : Nat) : Int) < 60)) = true := decide_eq_true (by omega)
                 rw [hc1127] at h1126; clear hc1127
                 refine co_true h1126 rfl ?_
                 refine wp_skip ?_
                 refine co_then ?_
                 refine co_seq ?_
                 refine wp_block ?_
                 refine co_seq ?_
                 refine co_reg ?_
                 refine pk0 (v := .int .i64 3) h1126 rfl fun a1128 h1128 => ?_; clear h1126
                 refine pk0 (v := pt N567 3) h1128 rfl fun a1129 h1129 => ?_; clear h1128
                 refine pk (v := v727) h1129 rfl (rn_load1 rfl rfl Try.isAgg35 (hf1069.cell rfl)) fun a1130 h1130 => ?_; clear h1129
                 refine pk0 (v := .int .i64 ((k : Nat) : Int)) h1130 rfl fun a1131 h1131 => ?_; clear h1130
                 obtain ⟨y1132, hy1132⟩ : ∃ z, ((prsH (RDs LL r) 3 4).map putP)[k]? = some z := ⟨_, List.getElem?_eq_getElem (by first | omega | (simp; done) | (simp; omega))⟩
                 obtain ⟨py1132, hpy1132, hy1y1132, hy2y1132⟩ := map_at hy1132
                 have hpmy1132 := prs_mem (List.mem_of_getElem? hpy1132)
                 have hpny1132 : py1132.1 < 4 := hpmy1132.1
                 have hpxy1132 : Hid (py1132.1 ≠ 3) := hpmy1132.2.1
                 have hsgy1132 : SegP py1132.2 := HS.segP hRS (i := 3) (by decide) hpny1132 hpxy1132 _ hpmy1132.2.2; clear hpmy1132
                 have hrdy1132 : rdSeg y1132.2 = (py1132.2, 0) := by rw [hy2y1132]; exact hsgy1132.read
                 have hzy1132 := fun L => inT_e0 (L := L) hsgy1132.1
                 have hszy1132 : y1132.2.size ≤ 9223372036854775807 := by rw [hy2y1132]; exact putG_sz hsgy1132
                 have hyby1132 : 0 ≤ y1132.1 ∧ y1132.1 < 4 := by omega
                 have hyxy1132 : y1132.1 ≠ (3 : Int) := fun h => hpxy1132 (by omega)
                 refine pk (v := pt (blkOf v727) (offOf v727 + k * 2)) h1131 rfl (rn_index rfl rfl rfl Try.underlying35 Try.sizeOf51 (row_sl hf1070 outE_len) (by omega) (by first | omega | (simp; done) | (simp; omega))) fun a1133 h1133 => ?_; clear h1131
                 refine pk0 (v := pt (blkOf v727) (offOf v727 + k * 2)) h1133 rfl fun a1134 h1134 => ?_; clear h1133
                 refine pk (v := .int .i64 y1132.1) h1134 rfl (rn_load1 rfl rfl Try.isAgg3 ((sl_at (row_sl hf1070 outE_len) hy1132) 0 _ rfl)) fun a1135 h1135 => ?_; clear h1134
                 refine pk0 (v := .int .i64 y1132.1) h1135 rfl fun a1136 h1136 => ?_; clear h1135
                 refine pl_nil ?_
                 refine co_then ?_
                 refine co_seq ?_
                 refine co_seq ?_
                 refine co_reg ?_
                 refine pk0 (v := .int .i64 y1132.1) h1136 rfl fun a1137 h1137 => ?_; clear h1136
                 refine pk0 (v := .bool (decide (y1132.1 < 0))) h1137 rfl fun a1138 h1138 => ?_; clear h1137
                 refine pk0 (v := .bool (decide (y1132.1 < 0))) h1138 rfl fun a1139 h1139 => ?_; clear h1138
                 have hc1140 : (decide (y1132.1 < 0)) = false := decide_eq_false (by omega)
                 rw [hc1140] at h1139; clear hc1140
                 refine pk0 (v := .int .i64 y1132.1) h1139 rfl fun a1141 h1141 => ?_; clear h1139
                 refine pk0 (v := .bool (decide (y1132.1 ≥ 4))) h1141 rfl fun a1142 h1142 => ?_; clear h1141
                 refine pk0 (v := .bool (decide (y1132.1 ≥ 4))) h1142 rfl fun a1143 h1143 => ?_; clear h1142
                 refine pk0 (v := .bool (decide (y1132.1 ≥ 4))) h1143 rfl fun a1144 h1144 => ?_; clear h1143
                 have hc1145 : (decide (y1132.1 ≥ 4)) = false := decide_eq_false (by omega)
                 rw [hc1145] at h1144; clear hc1145
                 refine pk0 (v := .int .i64 y1132.1) h1144 rfl fun a1146 h1146 => ?_; clear h1144
                 refine pk0 (v := .int .i64 3) h1146 rfl fun a1147 h1147 => ?_; clear h1146
                 refine pk0 (v := .bool (y1132.1 == 3)) h1147 rfl fun a1148 h1148 => ?_; clear h1147
                 refine pk0 (v := .bool (y1132.1 == 3)) h1148 rfl fun a1149 h1149 => ?_; clear h1148
                 refine pl_nil ?_
                 refine co_then ?_
                 have hc1150 : (y1132.1 == 3) = false := by first | (simp; done) | (simp; omega) | exact beq_false_of_ne (by omega) | exact beq_iff_eq.2 (by omega)
                 rw [hc1150] at h1149; clear hc1150
                 refine co_false h1149 rfl ?_
                 refine wp_skip ?_
                 refine co_then ?_
                 refine co_seq ?_
                 refine dr_gen (fun x => Below w.heap.size w x ∧ Blk x N567 49 #[v593, v635, v680, v727] ∧ x.ownsRow w696.heap.size 51 2 v727 (((prsH (RDs LL r) 3 4).map putP).length) (((prsH (RDs LL r) 3 4).map putP).flatMap outE)) (by kernel_rfl) (fun w1151 hg1152 => ?_) (fun w1151 hg1152 => ?_)
                 ·
                  have hz1153 := hg1152.size
                  have hB1154 := hb_new hB1071 hg1152
                  have hk1155 := hf1069.kept hg1152 (by simp)
                  have hr1156 := row_kept_new hf1070 hg1152
                  exact ⟨hB1154, hk1155, hr1156⟩
                 have hz1157 := hg1152.size
                 have hB1158 := hb_new hB1071 hg1152
                 have hk1159 := hf1069.kept hg1152 (by simp)
                 have hr1160 := row_kept_new hf1070 hg1152
                 refine dk0 0 (v := .int .i64 y1132.1) h1149 rfl rfl ⟨hB1158, hk1159, hr1160⟩ fun a1161 h1161 => ?_; clear h1149
                 refine dk 1 (v := pt N4 py1132.1) h1161 rfl rfl ⟨hB1158, hk1159, hr1160⟩ (fun x hx => (rn_indexAtAny rfl rfl rfl (fun w => by rw [hy1y1132]; exact ixa_h4 N4 py1132.1 (by omega) w))) fun a1162 h1162 => ?_; clear h1161
                 refine dk0 3 (v := .int .i64 3) h1162 rfl rfl ⟨hB1158, hk1159, hr1160⟩ fun a1163 h1163 => ?_; clear h1162
                 refine dk0 4 (v := .int .i64 3) h1163 rfl rfl ⟨hB1158, hk1159, hr1160⟩ fun a1164 h1164 => ?_; clear h1163
                 refine dk0 5 (v := pt N567 3) h1164 rfl rfl ⟨hB1158, hk1159, hr1160⟩ fun a1165 h1165 => ?_; clear h1164
                 refine dk 6 (v := v727) h1165 rfl rfl ⟨hB1158, hk1159, hr1160⟩ (fun x hx => (rn_load1 rfl rfl Try.isAgg35 (hx.2.1.cell rfl))) fun a1166 h1166 => ?_; clear h1165
                 refine dk0 7 (v := .int .i64 ((k : Nat) : Int)) h1166 rfl rfl ⟨hB1158, hk1159, hr1160⟩ fun a1167 h1167 => ?_; clear h1166
                 refine dk 8 (v := pt (blkOf v727) (offOf v727 + k * 2)) h1167 rfl rfl ⟨hB1158, hk1159, hr1160⟩ (fun x hx => (rn_index rfl rfl rfl Try.underlying35 Try.sizeOf51 (row_sl hx.2.2 outE_len) (by omega) (by first | omega | (simp; done) | (simp; omega)))) fun a1168 h1168 => ?_; clear h1167
                 refine dk0 9 (v := pt (blkOf v727) (offOf v727 + k * 2 + 1)) h1168 rfl rfl ⟨hB1158, hk1159, hr1160⟩ fun a1169 h1169 => ?_; clear h1168
                 refine dk 10 (v := .string y1132.2) h1169 rfl rfl ⟨hB1158, hk1159, hr1160⟩ (fun x hx => (rn_load1 rfl rfl Try.isAgg9 ((sl_at (row_sl hx.2.2 outE_len) hy1132) 1 _ rfl))) fun a1170 h1170 => ?_; clear h1169
                 refine dr_many [2] (by kernel_rfl) (by simp) ⟨?_, trivial⟩
                 ·
                  have hO1171 := HubsO.gr hf1066 hg1152 (fun k e => by cases e)
                  refine dr_opVal (i := 2) (v := pt (q py1132.1) 0) h1170 rfl rfl rfl rfl (by kernel_rfl) rfl (rn_load1 rfl rfl Try.isAgg23 (HubsO.cell hO1171 (by omega))) ⟨hB1158, hk1159, hr1160⟩ (fun a1172 h1172 => ?_); clear h1170
                  have ho1175 := HubsO.ofS hO1171
                  have hO1177 := LstO.gr hf1067 hg1152 (fun k e => by cases e)
                  have ho1176 := LstO.ofS hO1177
                  have hO1179 := LstO.gr hf1068 hg1152 (fun k e => by cases e)
                  have ho1178 := LstO.ofS hO1179
                  try clear hyxy1132
                  refine d1 11 h1172 rfl rfl (op_call (args := #[pt (q py1132.1) 0, .int .i64 3, .string y1132.2]) (R := fun res xw => ∃ v : Value, ∃ S' : Nat → Prop, res = .tuple #[v, .int .i64 0] ∧ HubsO S' xw N4 q (Dn (RDs LL r) 3 (k + 1)) ∧ (xw.ownsRow w1151.heap.size 9 1 v (inT ((Dn (RDs LL r) 3 k) py1132.1 3) py1132.2).1.length ((inT ((Dn (RDs LL r) 3 k) py1132.1 3) py1132.2).1.flatMap strE)) ∧ (∀ k, (Value.ownBlock v) = some k → ¬ S' k) ∧ Grew SP3 S' w1151 xw) rfl rfl rfl (by kernel_rfl) (by kernel_rfl) (Try.call13 _ _) (hubsIn (i := 3) w1151 hpny1132 ⟨by decide, Ne.symm hpxy1132⟩ hO1171 y1132.2 (by omega) py1132.2 hrdy1132) (by rintro e x ⟨v, S', h0, h1, h2⟩; rw [hzy1132] at h0; rw [Dn_step hpy1132] at h1; exact ⟨_, h0, v, S', rfl, h1, h2⟩)) ?_ ?_; clear h1172
                  ·
                   rintro _ w1174 ⟨v1180, S1181, rfl, hO1182, hq1184, hq1185, hx1183⟩
                   have hlo1187 : ∀ q, S1181 q → w.heap.size ≤ q := hx1183.lo hlo1086 (by omega)
                   have hB1186 := hbL hB1158 hlo1086 hx1183.but
                   have hz1188 := hB1186.size
                   have hz1189 := hx1183.but.size
                   have hl11190 := inT_atm ((Dn (RDs LL r) 3 k) py1132.1 3) py1132.2
                   have hk1191 := Blk.butS hk1159 hx1183.but ho1098
                   have hr1192 := own_butS hr1160 hx1183.but ho1094
                   exact ⟨hB1186, hk1191, hr1192⟩
                  rintro _ w1174 a1173 ⟨v1180, S1181, rfl, hO1182, hq1184, hq1185, hx1183⟩ h1173
                  have hlo1187 : ∀ q, S1181 q → w.heap.size ≤ q := hx1183.lo hlo1086 (by omega)
                  have hB1186 := hbL hB1158 hlo1086 hx1183.but
                  have hz1188 := hB1186.size
                  have hz1189 := hx1183.but.size
                  have hl11190 := inT_atm ((Dn (RDs LL r) 3 k) py1132.1 3) py1132.2
                  have hk1191 := Blk.butS hk1159 hx1183.but ho1098
                  have hr1192 := own_butS hr1160 hx1183.but ho1094
                  refine dk0 12 (v := .tuple #[v1180, .int .i64 0]) h1173 rfl rfl ⟨hB1186, hk1191, hr1192⟩ fun a1193 h1193 => ?_; clear h1173
                  refine dk0 13 (v := v1180) h1193 rfl rfl ⟨hB1186, hk1191, hr1192⟩ fun a1194 h1194 => ?_; clear h1193
                  refine dk0 14 (v := .int .i64 0) h1194 rfl rfl ⟨hB1186, hk1191, hr1192⟩ fun a1195 h1195 => ?_; clear h1194
                  refine dk0 15 (v := v1180) h1195 rfl rfl ⟨hB1186, hk1191, hr1192⟩ fun a1196 h1196 => ?_; clear h1195
                  refine dk0 16 (v := .int .i64 0) h1196 rfl rfl ⟨hB1186, hk1191, hr1192⟩ fun a1197 h1197 => ?_; clear h1196
                  refine dr_done (by kernel_rfl) ?_
                  refine co_then ?_
                  refine co_seq ?_
                  refine co_seq ?_
                  refine co_reg ?_
                  refine pk0 (v := .int .i64 0) h1197 rfl fun a1198 h1198 => ?_; clear h1197
                  refine pk0 (v := .bool ((0 : Int) != 0)) h1198 rfl fun a1199 h1199 => ?_; clear h1198
                  refine pl_nil ?_
                  refine co_then ?_
                  have hc1200 : ((0 : Int) != 0) = false := by first | (simp; done) | (simp; omega) | exact beq_false_of_ne (by omega) | exact beq_iff_eq.2 (by omega)
                  rw [hc1200] at h1199; clear hc1200
                  refine co_false h1199 rfl ?_
                  refine wp_skip ?_
                  refine co_then ?_
                  refine dr_gen (fun x => Below w.heap.size w x) (by kernel_rfl) (fun w1201 hg1202 => ?_) (fun w1201 hg1202 => ?_)
                  ·
                   have hz1203 := hg1202.size
                   have hB1204 := hb_new hB1186 hg1202
                   exact hB1204
                  have hz1205 := hg1202.size
                  have hB1206 := hb_new hB1186 hg1202
                  refine dk0 0 (v := .int .i64 3) h1199 rfl rfl hB1206 fun a1207 h1207 => ?_; clear h1199
                  refine dk0 1 (v := .int .i64 y1132.1) h1207 rfl rfl hB1206 fun a1208 h1208 => ?_; clear h1207
                  refine dk0 2 (v := .int .i64 3) h1208 rfl rfl hB1206 fun a1209 h1209 => ?_; clear h1208
                  refine dk0 3 (v := .int .i64 y1132.1) h1209 rfl rfl hB1206 fun a1210 h1210 => ?_; clear h1209
                  refine dk0 4 (v := pt N225 12) h1210 rfl rfl hB1206 fun a1211 h1211 => ?_; clear h1210
                  refine dk 5 (v := pt N225 (4 * 3 + py1132.1)) h1211 rfl rfl hB1206 (fun x hx => (rn_indexAtAny rfl rfl rfl (fun w => by rw [hy1y1132]; exact ixa_b4 N225 (4 * 3) py1132.1 (by omega) w))) fun a1212 h1212 => ?_; clear h1211
                  refine dk0 7 (v := v1180) h1212 rfl rfl hB1206 fun a1213 h1213 => ?_; clear h1212
                  refine dk0 9 (v := pt N225 12) h1213 rfl rfl hB1206 fun a1214 h1214 => ?_; clear h1213
                  refine dr_many [6] (by kernel_rfl) (by simp) ⟨?_, trivial⟩
                  ·
                   have hO1217 := LstO.but hO1179 hx1183.but (ap_symm hap1093)
                   have hO1218 := LstO.gr hO1217 hg1202 (fun k e => by cases e)
                   have hO1222 := LstO.but hO1177 hx1183.but (ap_symm hap1092)
                   have hO1223 := LstO.gr hO1222 hg1202 (fun k e => by cases e)
                   have hO1225 := HubsO.gr hO1182 hg1202 (fun k e => by cases e)
                   have hk1228 := hk1191.kept hg1202 (by simp)
                   have hr1230 := row_kept_new hr1192 hg1202
                   have hr1232 := row_kept_new hq1184 hg1202
                   obtain ⟨V1215, hQ1216⟩ := hO1218
                   have hm1220 : ∀ k, (Value.ownBlock (V1215 (4 * 3 + py1132.1))) = some k → SQ3 k := fun k hk => (hQ1216.fp k).2 (.inr ⟨4 * 3 + py1132.1, by omega, hk⟩)
                   have hr1219 := row_raise (hQ1216.row (4 * 3 + py1132.1) (by omega)) (fun k hk => hlo1090 k (hm1220 k hk))
                   have hof1221 := LstO.ofS hO1223
                   have hof1224 := HubsO.ofS hO1225
                   have hof1226 := LstQ.ofS hQ1216
                   have hbl1227 := Blk.lt hk1228
                   have hrl1229 := fun k hk => (World.ownsRow.lt hr1230 k hk).2
                   have hrl1231 := fun k hk => (World.ownsRow.lt hr1232 k hk).2
                   have hnn1233 : w.heap.size ≤ w1201.heap.size := by omega
                   have hbd1234 : (flatL (Gn (RDs LL r) (GTs LL r) 3 k) (4 * 3 + py1132.1)).length ≤ 8 := by rw [flatL_at hpny1132]; exact Gn_len hRS (by decide) hpny1132
                   refine dr_opVal (i := 6) (v := (V1215 (4 * 3 + py1132.1))) h1214 rfl rfl rfl rfl (by kernel_rfl) rfl (rn_load1 rfl rfl Try.isAgg37 (hQ1216.cell (by omega))) hB1206 (fun a1235 h1235 => ?_); clear h1214
                   refine d1 8 h1235 rfl rfl (op_appendRow rfl w.heap.size 9 (z := .string (⟨#[]⟩)) (size := 1) (bytes := 16) Try.underlying37 (by kernel_rfl) rfl rfl rfl hr1219 rfl hr1232 (fm_one strE_one) (by first | omega | (simp only [List.length_nil, List.length_append, List.length_cons, List.length_take, List.length_drop]; omega)) (by first | omega | (simp only [List.length_nil, List.length_append, List.length_cons, List.length_take, List.length_drop]; omega)) (by omega)) ?_ ?_; clear h1235
                   ·
                    rintro v1238 w1237 ⟨hr1239, hwt1241, hg1240⟩
                    have hr1239' : w1237.ownsRow w.heap.size 9 1 v1238 (((flatL (Gn (RDs LL r) (GTs LL r) 3 k) (4 * 3 + py1132.1)) ++ ((inT ((Dn (RDs LL r) 3 k) py1132.1 3) py1132.2).1)).length) (((flatL (Gn (RDs LL r) (GTs LL r) 3 k) (4 * 3 + py1132.1)) ++ ((inT ((Dn (RDs LL r) 3 k) py1132.1 3) py1132.2).1)).flatMap strE) := row_app hr1239; clear hr1239
                    have ho1243 := LstO.ofS hO1223
                    have ho1242 := offR_went (fun k hk h => (ap_symm hap1095) k (hm1220 k hk) h) ho1243 hwt1241
                    have ho1245 := HubsO.ofS hO1225
                    have ho1244 := offR_went (fun k hk h => (ap_symm (Grew.ap hx1183 (ap_symm (ap_symm hap1093)) (LstO.ofS hO1179))) k (hm1220 k hk) h) ho1245 hwt1241
                    have hz1246 := hg1240.size
                    have hB1247 := hb_row hB1206 hr1219 (by omega) hg1240
                    exact hB1247
                   rintro v1238 w1237 a1236 ⟨hr1239, hwt1241, hg1240⟩ h1236
                   have hr1239' : w1237.ownsRow w.heap.size 9 1 v1238 (((flatL (Gn (RDs LL r) (GTs LL r) 3 k) (4 * 3 + py1132.1)) ++ ((inT ((Dn (RDs LL r) 3 k) py1132.1 3) py1132.2).1)).length) (((flatL (Gn (RDs LL r) (GTs LL r) 3 k) (4 * 3 + py1132.1)) ++ ((inT ((Dn (RDs LL r) 3 k) py1132.1 3) py1132.2).1)).flatMap strE) := row_app hr1239; clear hr1239
                   have ho1243 := LstO.ofS hO1223
                   have ho1242 := offR_went (fun k hk h => (ap_symm hap1095) k (hm1220 k hk) h) ho1243 hwt1241
                   have ho1245 := HubsO.ofS hO1225
                   have ho1244 := offR_went (fun k hk h => (ap_symm (Grew.ap hx1183 (ap_symm (ap_symm hap1093)) (LstO.ofS hO1179))) k (hm1220 k hk) h) ho1245 hwt1241
                   have hz1246 := hg1240.size
                   have hB1247 := hb_row hB1206 hr1219 (by omega) hg1240
                   refine dk 10 (v := pt N225 (4 * 3 + py1132.1)) h1236 rfl rfl hB1247 (fun x hx => (rn_indexAtAny rfl rfl rfl (fun w => by rw [hy1y1132]; exact ixa_b4 N225 (4 * 3) py1132.1 (by omega) w))) fun a1248 h1248 => ?_; clear h1236
                   have hO1254 := LstQ.hole hQ1216 (by omega) hg1240
                   refine d1D 11 h1248 rfl rfl (op_store1 (k := (4 * 3 + py1132.1)) rfl rfl rfl (row_one hr1239') Try.sizeOf37 (LstH.blk hO1254) (arr_blt (by omega))) ?_ ?_; clear h1248
                   ·
                    rintro _ w1250 ⟨hk1251, hz1252, hg1253⟩
                    obtain ⟨S1255, hL1256, hsub1257⟩ := LstH.fill (u := v1238) (l := ((flatL (Gn (RDs LL r) (GTs LL r) 3 k) (4 * 3 + py1132.1)) ++ ((inT ((Dn (RDs LL r) 3 k) py1132.1 3) py1132.2).1))) hO1254 (by omega) hk1251 hg1253 (n0 := w1201.heap.size) (by omega) (row_lows hr1239' (Nat.zero_le _)) (went_le hwt1241 (by omega)) hof1226
                    have hbm1258 : SQ3 N225 := LstH.mem hO1254
                    have hz1259 := hg1253.size
                    have hO1260 : LstO S1255 w1250 N225 (flatL (Gn (RDs LL r) (GTs LL r) 3 (k + 1))) := LstO.congr hL1256 (flatL_up hpny1132 (Gn_step hpy1132))
                    have hlo1261 : ∀ q, S1255 q → w.heap.size ≤ q := lo_fill hsub1257 hlo1090 hnn1233
                    have hap1262 : ∀ q, S1255 q → SB q → False := ap_fill hsub1257 (ap_symm hap1095) hof1221
                    have hap1263 : ∀ q, S1255 q → S1181 q → False := ap_fill hsub1257 (ap_symm (Grew.ap hx1183 (ap_symm (ap_symm hap1093)) (LstO.ofS hO1179))) hof1224
                    have ho1264 : ¬ S1255 N567 := offb_fill hsub1257 ho1100 hbl1227
                    have ho1265 : ∀ k, (Value.ownBlock v727) = some k → ¬ S1255 k := offr_fill hsub1257 ho1097 hrl1229
                    have ho1266 : ∀ k, (Value.ownBlock v1180) = some k → ¬ S1255 k := offr_fill hsub1257 (offR_row ho1178 hq1184 (Nat.le_refl _)) hrl1231
                    have hB1267 := hb_at hB1247 hg1253 (by omega)
                    exact hB1267
                   rintro _ w1250 a1249 ⟨hk1251, hz1252, hg1253⟩ h1249
                   obtain ⟨S1255, hL1256, hsub1257⟩ := LstH.fill (u := v1238) (l := ((flatL (Gn (RDs LL r) (GTs LL r) 3 k) (4 * 3 + py1132.1)) ++ ((inT ((Dn (RDs LL r) 3 k) py1132.1 3) py1132.2).1))) hO1254 (by omega) hk1251 hg1253 (n0 := w1201.heap.size) (by omega) (row_lows hr1239' (Nat.zero_le _)) (went_le hwt1241 (by omega)) hof1226
                   have hbm1258 : SQ3 N225 := LstH.mem hO1254
                   have hz1259 := hg1253.size
                   have hO1260 : LstO S1255 w1250 N225 (flatL (Gn (RDs LL r) (GTs LL r) 3 (k + 1))) := LstO.congr hL1256 (flatL_up hpny1132 (Gn_step hpy1132))
                   have hlo1261 : ∀ q, S1255 q → w.heap.size ≤ q := lo_fill hsub1257 hlo1090 hnn1233
                   have hap1262 : ∀ q, S1255 q → SB q → False := ap_fill hsub1257 (ap_symm hap1095) hof1221
                   have hap1263 : ∀ q, S1255 q → S1181 q → False := ap_fill hsub1257 (ap_symm (Grew.ap hx1183 (ap_symm (ap_symm hap1093)) (LstO.ofS hO1179))) hof1224
                   have ho1264 : ¬ S1255 N567 := offb_fill hsub1257 ho1100 hbl1227
                   have ho1265 : ∀ k, (Value.ownBlock v727) = some k → ¬ S1255 k := offr_fill hsub1257 ho1097 hrl1229
                   have ho1266 : ∀ k, (Value.ownBlock v1180) = some k → ¬ S1255 k := offr_fill hsub1257 (offR_row ho1178 hq1184 (Nat.le_refl _)) hrl1231
                   refine dr_done (by kernel_rfl) ?_
                   refine co_blockN ?_
                   refine co_then ?_
                   refine co_reg ?_
                   refine pk0 (v := .int .i64 ((k : Nat) : Int)) h1249 rfl fun a1267 h1267 => ?_; clear h1249
                   refine pk (v := .int .i64 ((k + 1 : Nat) : Int)) h1267 rfl (rn_arith' rfl rfl rfl rfl rfl rfl (IntWalk.i64_in _ (by omega)) (by omega)) fun a1268 h1268 => ?_; clear h1267
                   refine pk0 (v := .int .i64 ((k + 1 : Nat) : Int)) h1268 rfl fun a1269 h1269 => ?_; clear h1268
                   refine pl_nil ?_
                   refine co_then ?_
                   refine ⟨(60 - (k + 1)), by omega, ?_⟩
                   have hO1270 := HubsO.gr hO1225 hg1240 (fun k e => (fun k hk h => (ap_symm (Grew.ap hx1183 (ap_symm (ap_symm hap1093)) (LstO.ofS hO1179))) k (hm1220 k hk) h) k e)
                   have hO1271 := HubsO.gr hO1270 hg1253 (fun k e => by cases e; exact (fun h => (ap_symm (Grew.ap hx1183 (ap_symm (ap_symm hap1093)) (LstO.ofS hO1179))) _ hbm1258 h))
                   have hO1272 := LstO.gr hO1223 hg1240 (fun k e => (fun k hk h => (ap_symm hap1095) k (hm1220 k hk) h) k e)
                   have hO1273 := LstO.gr hO1272 hg1253 (fun k e => by cases e; exact (fun h => (ap_symm hap1095) _ hbm1258 h))
                   have hk1274 := hk1228.kept hg1240 (own_neT hr1219 hk1228 (by decide))
                   have hk1275 := hk1274.kept hg1253 (by simp; omega)
                   have hr1276 := row_kept_row hr1230 hr1219 hg1240 (by decide)
                   have hr1277 := row_kept_at hr1276 hg1253 (row_ne_lt hr1276 (by omega))
                   have hB1278 := hb_at hB1247 hg1253 (by omega)
                   exact ⟨k + 1, S1181, S1255, h1269.sub ⟨rfl, rfl, rfl, rfl, rfl, rfl, rfl, rfl, trivial⟩, rfl, by omega, by exact hlo1187, by exact hlo1088, by exact hlo1261, by exact (ap_symm (ap_symm (Grew.ap hx1183 (ap_symm (ap_symm hap1092)) (LstO.ofS hO1177)))), by exact (ap_symm hap1263), by exact (ap_symm hap1262), by exact (Grew.offR hx1183 hr1160 ho1094), by exact ho1096, by exact ho1265, by exact (Grew.off hx1183 ho1098 hk1159.lt), by exact ho1099, by exact ho1264, hO1271, hO1273, hO1260, hk1275, hr1277, hB1278⟩
             ·
              rw [hc1036] at h1035
              have hp1279 : ((k : Nat) : Int) < ((((prsH (RDs LL r) 2 4).map putP).length : Nat) : Int) := of_decide_eq_true hc1036
              clear hc1036
              refine pk0 (v := .int .i64 ((k : Nat) : Int)) h1035 rfl fun a1280 h1280 => ?_; clear h1035
              refine pk0 (v := .bool (decide (((k : Nat) : Int) < 60))) h1280 rfl fun a1281 h1281 => ?_; clear h1280
              refine pk0 (v := .bool (decide (((k : Nat) : Int) < 60))) h1281 rfl fun a1282 h1282 => ?_; clear h1281
              refine pl_nil ?_
              refine co_then ?_
              have hc1283 : (decide (((k : Nat) : Int) < 60)) = true := decide_eq_true (by omega)
              rw [hc1283] at h1282; clear hc1283
              refine co_true h1282 rfl ?_
              refine wp_skip ?_
              refine co_then ?_
              refine co_seq ?_
              refine wp_block ?_
              refine co_seq ?_
              refine co_reg ?_
              refine pk0 (v := .int .i64 2) h1282 rfl fun a1284 h1284 => ?_; clear h1282
              refine pk0 (v := pt N567 2) h1284 rfl fun a1285 h1285 => ?_; clear h1284
              refine pk (v := v680) h1285 rfl (rn_load1 rfl rfl Try.isAgg35 (hf990.cell rfl)) fun a1286 h1286 => ?_; clear h1285
              refine pk0 (v := .int .i64 ((k : Nat) : Int)) h1286 rfl fun a1287 h1287 => ?_; clear h1286
              obtain ⟨y1288, hy1288⟩ : ∃ z, ((prsH (RDs LL r) 2 4).map putP)[k]? = some z := ⟨_, List.getElem?_eq_getElem (by first | omega | (simp; done) | (simp; omega))⟩
              obtain ⟨py1288, hpy1288, hy1y1288, hy2y1288⟩ := map_at hy1288
              have hpmy1288 := prs_mem (List.mem_of_getElem? hpy1288)
              have hpny1288 : py1288.1 < 4 := hpmy1288.1
              have hpxy1288 : Hid (py1288.1 ≠ 2) := hpmy1288.2.1
              have hsgy1288 : SegP py1288.2 := HS.segP hRS (i := 2) (by decide) hpny1288 hpxy1288 _ hpmy1288.2.2; clear hpmy1288
              have hrdy1288 : rdSeg y1288.2 = (py1288.2, 0) := by rw [hy2y1288]; exact hsgy1288.read
              have hzy1288 := fun L => inT_e0 (L := L) hsgy1288.1
              have hszy1288 : y1288.2.size ≤ 9223372036854775807 := by rw [hy2y1288]; exact putG_sz hsgy1288
              have hyby1288 : 0 ≤ y1288.1 ∧ y1288.1 < 4 := by omega
              have hyxy1288 : y1288.1 ≠ (2 : Int) := fun h => hpxy1288 (by omega)
              refine pk (v := pt (blkOf v680) (offOf v680 + k * 2)) h1287 rfl (rn_index rfl rfl rfl Try.underlying35 Try.sizeOf51 (row_sl hf991 outE_len) (by omega) (by first | omega | (simp; done) | (simp; omega))) fun a1289 h1289 => ?_; clear h1287
              refine pk0 (v := pt (blkOf v680) (offOf v680 + k * 2)) h1289 rfl fun a1290 h1290 => ?_; clear h1289
              refine pk (v := .int .i64 y1288.1) h1290 rfl (rn_load1 rfl rfl Try.isAgg3 ((sl_at (row_sl hf991 outE_len) hy1288) 0 _ rfl)) fun a1291 h1291 => ?_; clear h1290
              refine pk0 (v := .int .i64 y1288.1) h1291 rfl fun a1292 h1292 => ?_; clear h1291
              refine pl_nil ?_
              refine co_then ?_
              refine co_seq ?_
              refine co_seq ?_
              refine co_reg ?_
              refine pk0 (v := .int .i64 y1288.1) h1292 rfl fun a1293 h1293 => ?_; clear h1292
              refine pk0 (v := .bool (decide (y1288.1 < 0))) h1293 rfl fun a1294 h1294 => ?_; clear h1293
              refine pk0 (v := .bool (decide (y1288.1 < 0))) h1294 rfl fun a1295 h1295 => ?_; clear h1294
              have hc1296 : (decide (y1288.1 < 0)) = false := decide_eq_false (by omega)
              rw [hc1296] at h1295; clear hc1296
              refine pk0 (v := .int .i64 y1288.1) h1295 rfl fun a1297 h1297 => ?_; clear h1295
              refine pk0 (v := .bool (decide (y1288.1 ≥ 4))) h1297 rfl fun a1298 h1298 => ?_; clear h1297
              refine pk0 (v := .bool (decide (y1288.1 ≥ 4))) h1298 rfl fun a1299 h1299 => ?_; clear h1298
              refine pk0 (v := .bool (decide (y1288.1 ≥ 4))) h1299 rfl fun a1300 h1300 => ?_; clear h1299
              have hc1301 : (decide (y1288.1 ≥ 4)) = false := decide_eq_false (by omega)
              rw [hc1301] at h1300; clear hc1301
              refine pk0 (v := .int .i64 y1288.1) h1300 rfl fun a1302 h1302 => ?_; clear h1300
              refine pk0 (v := .int .i64 2) h1302 rfl fun a1303 h1303 => ?_; clear h1302
              refine pk0 (v := .bool (y1288.1 == 2)) h1303 rfl fun a1304 h1304 => ?_; clear h1303
              refine pk0 (v := .bool (y1288.1 == 2)) h1304 rfl fun a1305 h1305 => ?_; clear h1304
              refine pl_nil ?_
              refine co_then ?_
              have hc1306 : (y1288.1 == 2) = false := by first | (simp; done) | (simp; omega) | exact beq_false_of_ne (by omega) | exact beq_iff_eq.2 (by omega)
              rw [hc1306] at h1305; clear hc1306
              refine co_false h1305 rfl ?_
              refine wp_skip ?_
              refine co_then ?_
              refine co_seq ?_
              refine dr_gen (fun x => Below w.heap.size w x ∧ Blk x N567 49 #[v593, v635, v680, v727] ∧ x.ownsRow w651.heap.size 51 2 v680 (((prsH (RDs LL r) 2 4).map putP).length) (((prsH (RDs LL r) 2 4).map putP).flatMap outE)) (by kernel_rfl) (fun w1307 hg1308 => ?_) (fun w1307 hg1308 => ?_)
              ·
               have hz1309 := hg1308.size
               have hB1310 := hb_new hB993 hg1308
               have hk1311 := hf990.kept hg1308 (by simp)
               have hr1312 := row_kept_new hf991 hg1308
               exact ⟨hB1310, hk1311, hr1312⟩
              have hz1313 := hg1308.size
              have hB1314 := hb_new hB993 hg1308
              have hk1315 := hf990.kept hg1308 (by simp)
              have hr1316 := row_kept_new hf991 hg1308
              refine dk0 0 (v := .int .i64 y1288.1) h1305 rfl rfl ⟨hB1314, hk1315, hr1316⟩ fun a1317 h1317 => ?_; clear h1305
              refine dk 1 (v := pt N4 py1288.1) h1317 rfl rfl ⟨hB1314, hk1315, hr1316⟩ (fun x hx => (rn_indexAtAny rfl rfl rfl (fun w => by rw [hy1y1288]; exact ixa_h4 N4 py1288.1 (by omega) w))) fun a1318 h1318 => ?_; clear h1317
              refine dk0 3 (v := .int .i64 2) h1318 rfl rfl ⟨hB1314, hk1315, hr1316⟩ fun a1319 h1319 => ?_; clear h1318
              refine dk0 4 (v := .int .i64 2) h1319 rfl rfl ⟨hB1314, hk1315, hr1316⟩ fun a1320 h1320 => ?_; clear h1319
              refine dk0 5 (v := pt N567 2) h1320 rfl rfl ⟨hB1314, hk1315, hr1316⟩ fun a1321 h1321 => ?_; clear h1320
              refine dk 6 (v := v680) h1321 rfl rfl ⟨hB1314, hk1315, hr1316⟩ (fun x hx => (rn_load1 rfl rfl Try.isAgg35 (hx.2.1.cell rfl))) fun a1322 h1322 => ?_; clear h1321
              refine dk0 7 (v := .int .i64 ((k : Nat) : Int)) h1322 rfl rfl ⟨hB1314, hk1315, hr1316⟩ fun a1323 h1323 => ?_; clear h1322
              refine dk 8 (v := pt (blkOf v680) (offOf v680 + k * 2)) h1323 rfl rfl ⟨hB1314, hk1315, hr1316⟩ (fun x hx => (rn_index rfl rfl rfl Try.underlying35 Try.sizeOf51 (row_sl hx.2.2 outE_len) (by omega) (by first | omega | (simp; done) | (simp; omega)))) fun a1324 h1324 => ?_; clear h1323
              refine dk0 9 (v := pt (blkOf v680) (offOf v680 + k * 2 + 1)) h1324 rfl rfl ⟨hB1314, hk1315, hr1316⟩ fun a1325 h1325 => ?_; clear h1324
              refine dk 10 (v := .string y1288.2) h1325 rfl rfl ⟨hB1314, hk1315, hr1316⟩ (fun x hx => (rn_load1 rfl rfl Try.isAgg9 ((sl_at (row_sl hx.2.2 outE_len) hy1288) 1 _ rfl))) fun a1326 h1326 => ?_; clear h1325
              refine dr_many [2] (by kernel_rfl) (by simp) ⟨?_, trivial⟩
              ·
               have hO1327 := HubsO.gr hf987 hg1308 (fun k e => by cases e)
               refine dr_opVal (i := 2) (v := pt (q py1288.1) 0) h1326 rfl rfl rfl rfl (by kernel_rfl) rfl (rn_load1 rfl rfl Try.isAgg23 (HubsO.cell hO1327 (by omega))) ⟨hB1314, hk1315, hr1316⟩ (fun a1328 h1328 => ?_); clear h1326
               have ho1331 := HubsO.ofS hO1327
               have hO1333 := LstO.gr hf988 hg1308 (fun k e => by cases e)
               have ho1332 := LstO.ofS hO1333
               have hO1335 := LstO.gr hf989 hg1308 (fun k e => by cases e)
               have ho1334 := LstO.ofS hO1335
               try clear hyxy1288
               refine d1 11 h1328 rfl rfl (op_call (args := #[pt (q py1288.1) 0, .int .i64 2, .string y1288.2]) (R := fun res xw => ∃ v : Value, ∃ S' : Nat → Prop, res = .tuple #[v, .int .i64 0] ∧ HubsO S' xw N4 q (Dn (RDs LL r) 2 (k + 1)) ∧ (xw.ownsRow w1307.heap.size 9 1 v (inT ((Dn (RDs LL r) 2 k) py1288.1 2) py1288.2).1.length ((inT ((Dn (RDs LL r) 2 k) py1288.1 2) py1288.2).1.flatMap strE)) ∧ (∀ k, (Value.ownBlock v) = some k → ¬ S' k) ∧ Grew SP2 S' w1307 xw) rfl rfl rfl (by kernel_rfl) (by kernel_rfl) (Try.call13 _ _) (hubsIn (i := 2) w1307 hpny1288 ⟨by decide, Ne.symm hpxy1288⟩ hO1327 y1288.2 (by omega) py1288.2 hrdy1288) (by rintro e x ⟨v, S', h0, h1, h2⟩; rw [hzy1288] at h0; rw [Dn_step hpy1288] at h1; exact ⟨_, h0, v, S', rfl, h1, h2⟩)) ?_ ?_; clear h1328
               ·
                rintro _ w1330 ⟨v1336, S1337, rfl, hO1338, hq1340, hq1341, hx1339⟩
                have hr1342 := row_kept_new hf992 hg1308
                have hlo1344 : ∀ q, S1337 q → w.heap.size ≤ q := hx1339.lo hlo1011 (by omega)
                have hB1343 := hbL hB1314 hlo1011 hx1339.but
                have hz1345 := hB1343.size
                have hz1346 := hx1339.but.size
                have hl11347 := inT_atm ((Dn (RDs LL r) 2 k) py1288.1 2) py1288.2
                have hk1348 := Blk.butS hk1315 hx1339.but ho1026
                have hr1349 := own_butS hr1316 hx1339.but ho1019
                exact ⟨hB1343, hk1348, hr1349⟩
               rintro _ w1330 a1329 ⟨v1336, S1337, rfl, hO1338, hq1340, hq1341, hx1339⟩ h1329
               have hr1342 := row_kept_new hf992 hg1308
               have hlo1344 : ∀ q, S1337 q → w.heap.size ≤ q := hx1339.lo hlo1011 (by omega)
               have hB1343 := hbL hB1314 hlo1011 hx1339.but
               have hz1345 := hB1343.size
               have hz1346 := hx1339.but.size
               have hl11347 := inT_atm ((Dn (RDs LL r) 2 k) py1288.1 2) py1288.2
               have hk1348 := Blk.butS hk1315 hx1339.but ho1026
               have hr1349 := own_butS hr1316 hx1339.but ho1019
               refine dk0 12 (v := .tuple #[v1336, .int .i64 0]) h1329 rfl rfl ⟨hB1343, hk1348, hr1349⟩ fun a1350 h1350 => ?_; clear h1329
               refine dk0 13 (v := v1336) h1350 rfl rfl ⟨hB1343, hk1348, hr1349⟩ fun a1351 h1351 => ?_; clear h1350
               refine dk0 14 (v := .int .i64 0) h1351 rfl rfl ⟨hB1343, hk1348, hr1349⟩ fun a1352 h1352 => ?_; clear h1351
               refine dk0 15 (v := v1336) h1352 rfl rfl ⟨hB1343, hk1348, hr1349⟩ fun a1353 h1353 => ?_; clear h1352
               refine dk0 16 (v := .int .i64 0) h1353 rfl rfl ⟨hB1343, hk1348, hr1349⟩ fun a1354 h1354 => ?_; clear h1353
               refine dr_done (by kernel_rfl) ?_
               refine co_then ?_
               refine co_seq ?_
               refine co_seq ?_
               refine co_reg ?_
               refine pk0 (v := .int .i64 0) h1354 rfl fun a1355 h1355 => ?_; clear h1354
               refine pk0 (v := .bool ((0 : Int) != 0)) h1355 rfl fun a1356 h1356 => ?_; clear h1355
               refine pl_nil ?_
               refine co_then ?_
               have hc1357 : ((0 : Int) != 0) = false := by first | (simp; done) | (simp; omega) | exact beq_false_of_ne (by omega) | exact beq_iff_eq.2 (by omega)
               rw [hc1357] at h1356; clear hc1357
               refine co_false h1356 rfl ?_
               refine wp_skip ?_
               refine co_then ?_
               refine dr_gen (fun x => Below w.heap.size w x) (by kernel_rfl) (fun w1358 hg1359 => ?_) (fun w1358 hg1359 => ?_)
               ·
                have hz1360 := hg1359.size
                have hB1361 := hb_new hB1343 hg1359
                exact hB1361
               have hz1362 := hg1359.size
               have hB1363 := hb_new hB1343 hg1359
               refine dk0 0 (v := .int .i64 2) h1356 rfl rfl hB1363 fun a1364 h1364 => ?_; clear h1356
               refine dk0 1 (v := .int .i64 y1288.1) h1364 rfl rfl hB1363 fun a1365 h1365 => ?_; clear h1364
               refine dk0 2 (v := .int .i64 2) h1365 rfl rfl hB1363 fun a1366 h1366 => ?_; clear h1365
               refine dk0 3 (v := .int .i64 y1288.1) h1366 rfl rfl hB1363 fun a1367 h1367 => ?_; clear h1366
               refine dk0 4 (v := pt N225 8) h1367 rfl rfl hB1363 fun a1368 h1368 => ?_; clear h1367
               refine dk 5 (v := pt N225 (4 * 2 + py1288.1)) h1368 rfl rfl hB1363 (fun x hx => (rn_indexAtAny rfl rfl rfl (fun w => by rw [hy1y1288]; exact ixa_b4 N225 (4 * 2) py1288.1 (by omega) w))) fun a1369 h1369 => ?_; clear h1368
               refine dk0 7 (v := v1336) h1369 rfl rfl hB1363 fun a1370 h1370 => ?_; clear h1369
               refine dk0 9 (v := pt N225 8) h1370 rfl rfl hB1363 fun a1371 h1371 => ?_; clear h1370
               refine dr_many [6] (by kernel_rfl) (by simp) ⟨?_, trivial⟩
               ·
                have hO1374 := LstO.but hO1335 hx1339.but (ap_symm hap1018)
                have hO1375 := LstO.gr hO1374 hg1359 (fun k e => by cases e)
                have hO1379 := LstO.but hO1333 hx1339.but (ap_symm hap1017)
                have hO1380 := LstO.gr hO1379 hg1359 (fun k e => by cases e)
                have hO1382 := HubsO.gr hO1338 hg1359 (fun k e => by cases e)
                have hk1385 := hk1348.kept hg1359 (by simp)
                have hr1387 := row_kept_new hr1349 hg1359
                have hr1389 := own_butS hr1342 hx1339.but ho1020
                have hr1390 := row_kept_new hr1389 hg1359
                have hr1392 := row_kept_new hq1340 hg1359
                obtain ⟨V1372, hQ1373⟩ := hO1375
                have hm1377 : ∀ k, (Value.ownBlock (V1372 (4 * 2 + py1288.1))) = some k → SQ2 k := fun k hk => (hQ1373.fp k).2 (.inr ⟨4 * 2 + py1288.1, by omega, hk⟩)
                have hr1376 := row_raise (hQ1373.row (4 * 2 + py1288.1) (by omega)) (fun k hk => hlo1015 k (hm1377 k hk))
                have hof1378 := LstO.ofS hO1380
                have hof1381 := HubsO.ofS hO1382
                have hof1383 := LstQ.ofS hQ1373
                have hbl1384 := Blk.lt hk1385
                have hrl1386 := fun k hk => (World.ownsRow.lt hr1387 k hk).2
                have hrl1388 := fun k hk => (World.ownsRow.lt hr1390 k hk).2
                have hrl1391 := fun k hk => (World.ownsRow.lt hr1392 k hk).2
                have hnn1393 : w.heap.size ≤ w1358.heap.size := by omega
                have hbd1394 : (flatL (Gn (RDs LL r) (GTs LL r) 2 k) (4 * 2 + py1288.1)).length ≤ 8 := by rw [flatL_at hpny1288]; exact Gn_len hRS (by decide) hpny1288
                refine dr_opVal (i := 6) (v := (V1372 (4 * 2 + py1288.1))) h1371 rfl rfl rfl rfl (by kernel_rfl) rfl (rn_load1 rfl rfl Try.isAgg37 (hQ1373.cell (by omega))) hB1363 (fun a1395 h1395 => ?_); clear h1371
                refine d1 8 h1395 rfl rfl (op_appendRow rfl w.heap.size 9 (z := .string (⟨#[]⟩)) (size := 1) (bytes := 16) Try.underlying37 (by kernel_rfl) rfl rfl rfl hr1376 rfl hr1392 (fm_one strE_one) (by first | omega | (simp only [List.length_nil, List.length_append, List.length_cons, List.length_take, List.length_drop]; omega)) (by first | omega | (simp only [List.length_nil, List.length_append, List.length_cons, List.length_take, List.length_drop]; omega)) (by omega)) ?_ ?_; clear h1395
                ·
                 rintro v1398 w1397 ⟨hr1399, hwt1401, hg1400⟩
                 have hr1399' : w1397.ownsRow w.heap.size 9 1 v1398 (((flatL (Gn (RDs LL r) (GTs LL r) 2 k) (4 * 2 + py1288.1)) ++ ((inT ((Dn (RDs LL r) 2 k) py1288.1 2) py1288.2).1)).length) (((flatL (Gn (RDs LL r) (GTs LL r) 2 k) (4 * 2 + py1288.1)) ++ ((inT ((Dn (RDs LL r) 2 k) py1288.1 2) py1288.2).1)).flatMap strE) := row_app hr1399; clear hr1399
                 have ho1403 := LstO.ofS hO1380
                 have ho1402 := offR_went (fun k hk h => (ap_symm hap1021) k (hm1377 k hk) h) ho1403 hwt1401
                 have ho1405 := HubsO.ofS hO1382
                 have ho1404 := offR_went (fun k hk h => (ap_symm (Grew.ap hx1339 (ap_symm (ap_symm hap1018)) (LstO.ofS hO1335))) k (hm1377 k hk) h) ho1405 hwt1401
                 have hz1406 := hg1400.size
                 have hB1407 := hb_row hB1363 hr1376 (by omega) hg1400
                 exact hB1407
                rintro v1398 w1397 a1396 ⟨hr1399, hwt1401, hg1400⟩ h1396
                have hr1399' : w1397.ownsRow w.heap.size 9 1 v1398 (((flatL (Gn (RDs LL r) (GTs LL r) 2 k) (4 * 2 + py1288.1)) ++ ((inT ((Dn (RDs LL r) 2 k) py1288.1 2) py1288.2).1)).length) (((flatL (Gn (RDs LL r) (GTs LL r) 2 k) (4 * 2 + py1288.1)) ++ ((inT ((Dn (RDs LL r) 2 k) py1288.1 2) py1288.2).1)).flatMap strE) := row_app hr1399; clear hr1399
                have ho1403 := LstO.ofS hO1380
                have ho1402 := offR_went (fun k hk h => (ap_symm hap1021) k (hm1377 k hk) h) ho1403 hwt1401
                have ho1405 := HubsO.ofS hO1382
                have ho1404 := offR_went (fun k hk h => (ap_symm (Grew.ap hx1339 (ap_symm (ap_symm hap1018)) (LstO.ofS hO1335))) k (hm1377 k hk) h) ho1405 hwt1401
                have hz1406 := hg1400.size
                have hB1407 := hb_row hB1363 hr1376 (by omega) hg1400
                refine dk 10 (v := pt N225 (4 * 2 + py1288.1)) h1396 rfl rfl hB1407 (fun x hx => (rn_indexAtAny rfl rfl rfl (fun w => by rw [hy1y1288]; exact ixa_b4 N225 (4 * 2) py1288.1 (by omega) w))) fun a1408 h1408 => ?_; clear h1396
                have hO1414 := LstQ.hole hQ1373 (by omega) hg1400
                refine d1D 11 h1408 rfl rfl (op_store1 (k := (4 * 2 + py1288.1)) rfl rfl rfl (row_one hr1399') Try.sizeOf37 (LstH.blk hO1414) (arr_blt (by omega))) ?_ ?_; clear h1408
                ·
                 rintro _ w1410 ⟨hk1411, hz1412, hg1413⟩
                 obtain ⟨S1415, hL1416, hsub1417⟩ := LstH.fill (u := v1398) (l := ((flatL (Gn (RDs LL r) (GTs LL r) 2 k) (4 * 2 + py1288.1)) ++ ((inT ((Dn (RDs LL r) 2 k) py1288.1 2) py1288.2).1))) hO1414 (by omega) hk1411 hg1413 (n0 := w1358.heap.size) (by omega) (row_lows hr1399' (Nat.zero_le _)) (went_le hwt1401 (by omega)) hof1383
                 have hbm1418 : SQ2 N225 := LstH.mem hO1414
                 have hz1419 := hg1413.size
                 have hO1420 : LstO S1415 w1410 N225 (flatL (Gn (RDs LL r) (GTs LL r) 2 (k + 1))) := LstO.congr hL1416 (flatL_up hpny1288 (Gn_step hpy1288))
                 have hlo1421 : ∀ q, S1415 q → w.heap.size ≤ q := lo_fill hsub1417 hlo1015 hnn1393
                 have hap1422 : ∀ q, S1415 q → SB q → False := ap_fill hsub1417 (ap_symm hap1021) hof1378
                 have hap1423 : ∀ q, S1415 q → S1337 q → False := ap_fill hsub1417 (ap_symm (Grew.ap hx1339 (ap_symm (ap_symm hap1018)) (LstO.ofS hO1335))) hof1381
                 have ho1424 : ¬ S1415 N567 := offb_fill hsub1417 ho1028 hbl1384
                 have ho1425 : ∀ k, (Value.ownBlock v680) = some k → ¬ S1415 k := offr_fill hsub1417 ho1024 hrl1386
                 have ho1426 : ∀ k, (Value.ownBlock v727) = some k → ¬ S1415 k := offr_fill hsub1417 ho1025 hrl1388
                 have ho1427 : ∀ k, (Value.ownBlock v1336) = some k → ¬ S1415 k := offr_fill hsub1417 (offR_row ho1334 hq1340 (Nat.le_refl _)) hrl1391
                 have hB1428 := hb_at hB1407 hg1413 (by omega)
                 exact hB1428
                rintro _ w1410 a1409 ⟨hk1411, hz1412, hg1413⟩ h1409
                obtain ⟨S1415, hL1416, hsub1417⟩ := LstH.fill (u := v1398) (l := ((flatL (Gn (RDs LL r) (GTs LL r) 2 k) (4 * 2 + py1288.1)) ++ ((inT ((Dn (RDs LL r) 2 k) py1288.1 2) py1288.2).1))) hO1414 (by omega) hk1411 hg1413 (n0 := w1358.heap.size) (by omega) (row_lows hr1399' (Nat.zero_le _)) (went_le hwt1401 (by omega)) hof1383
                have hbm1418 : SQ2 N225 := LstH.mem hO1414
                have hz1419 := hg1413.size
                have hO1420 : LstO S1415 w1410 N225 (flatL (Gn (RDs LL r) (GTs LL r) 2 (k + 1))) := LstO.congr hL1416 (flatL_up hpny1288 (Gn_step hpy1288))
                have hlo1421 : ∀ q, S1415 q → w.heap.size ≤ q := lo_fill hsub1417 hlo1015 hnn1393
                have hap1422 : ∀ q, S1415 q → SB q → False := ap_fill hsub1417 (ap_symm hap1021) hof1378
                have hap1423 : ∀ q, S1415 q → S1337 q → False := ap_fill hsub1417 (ap_symm (Grew.ap hx1339 (ap_symm (ap_symm hap1018)) (LstO.ofS hO1335))) hof1381
                have ho1424 : ¬ S1415 N567 := offb_fill hsub1417 ho1028 hbl1384
                have ho1425 : ∀ k, (Value.ownBlock v680) = some k → ¬ S1415 k := offr_fill hsub1417 ho1024 hrl1386
                have ho1426 : ∀ k, (Value.ownBlock v727) = some k → ¬ S1415 k := offr_fill hsub1417 ho1025 hrl1388
                have ho1427 : ∀ k, (Value.ownBlock v1336) = some k → ¬ S1415 k := offr_fill hsub1417 (offR_row ho1334 hq1340 (Nat.le_refl _)) hrl1391
                refine dr_done (by kernel_rfl) ?_
                refine co_blockN ?_
                refine co_then ?_
                refine co_reg ?_
                refine pk0 (v := .int .i64 ((k : Nat) : Int)) h1409 rfl fun a1428 h1428 => ?_; clear h1409
                refine pk (v := .int .i64 ((k + 1 : Nat) : Int)) h1428 rfl (rn_arith' rfl rfl rfl rfl rfl rfl (IntWalk.i64_in _ (by omega)) (by omega)) fun a1429 h1429 => ?_; clear h1428
                refine pk0 (v := .int .i64 ((k + 1 : Nat) : Int)) h1429 rfl fun a1430 h1430 => ?_; clear h1429
                refine pl_nil ?_
                refine co_then ?_
                refine ⟨(60 - (k + 1)), by omega, ?_⟩
                have hO1431 := HubsO.gr hO1382 hg1400 (fun k e => (fun k hk h => (ap_symm (Grew.ap hx1339 (ap_symm (ap_symm hap1018)) (LstO.ofS hO1335))) k (hm1377 k hk) h) k e)
                have hO1432 := HubsO.gr hO1431 hg1413 (fun k e => by cases e; exact (fun h => (ap_symm (Grew.ap hx1339 (ap_symm (ap_symm hap1018)) (LstO.ofS hO1335))) _ hbm1418 h))
                have hO1433 := LstO.gr hO1380 hg1400 (fun k e => (fun k hk h => (ap_symm hap1021) k (hm1377 k hk) h) k e)
                have hO1434 := LstO.gr hO1433 hg1413 (fun k e => by cases e; exact (fun h => (ap_symm hap1021) _ hbm1418 h))
                have hk1435 := hk1385.kept hg1400 (own_neT hr1376 hk1385 (by decide))
                have hk1436 := hk1435.kept hg1413 (by simp; omega)
                have hr1437 := row_kept_row hr1387 hr1376 hg1400 (by decide)
                have hr1438 := row_kept_at hr1437 hg1413 (row_ne_lt hr1437 (by omega))
                have hr1439 := row_kept_row hr1390 hr1376 hg1400 (by decide)
                have hr1440 := row_kept_at hr1439 hg1413 (row_ne_lt hr1439 (by omega))
                have hB1441 := hb_at hB1407 hg1413 (by omega)
                exact ⟨k + 1, S1337, S1415, h1430.sub ⟨rfl, rfl, rfl, rfl, rfl, rfl, rfl, rfl, trivial⟩, rfl, by omega, by exact hlo1344, by exact hlo1013, by exact hlo1421, by exact (ap_symm (ap_symm (Grew.ap hx1339 (ap_symm (ap_symm hap1017)) (LstO.ofS hO1333)))), by exact (ap_symm hap1423), by exact (ap_symm hap1422), by exact (Grew.offR hx1339 hr1316 ho1019), by exact ho1022, by exact ho1425, by exact (Grew.offR hx1339 hr1342 ho1020), by exact ho1023, by exact ho1426, by exact (Grew.off hx1339 ho1026 hk1315.lt), by exact ho1027, by exact ho1424, hO1432, hO1434, hO1420, hk1436, hr1438, hr1440, hB1441⟩
          ·
           rw [hc954] at h953
           have hp1442 : ((k : Nat) : Int) < ((((prsH (RDs LL r) 1 4).map putP).length : Nat) : Int) := of_decide_eq_true hc954
           clear hc954
           refine pk0 (v := .int .i64 ((k : Nat) : Int)) h953 rfl fun a1443 h1443 => ?_; clear h953
           refine pk0 (v := .bool (decide (((k : Nat) : Int) < 60))) h1443 rfl fun a1444 h1444 => ?_; clear h1443
           refine pk0 (v := .bool (decide (((k : Nat) : Int) < 60))) h1444 rfl fun a1445 h1445 => ?_; clear h1444
           refine pl_nil ?_
           refine co_then ?_
           have hc1446 : (decide (((k : Nat) : Int) < 60)) = true := decide_eq_true (by omega)
           rw [hc1446] at h1445; clear hc1446
           refine co_true h1445 rfl ?_
           refine wp_skip ?_
           refine co_then ?_
           refine co_seq ?_
           refine wp_block ?_
           refine co_seq ?_
           refine co_reg ?_
           refine pk0 (v := .int .i64 1) h1445 rfl fun a1447 h1447 => ?_; clear h1445
           refine pk0 (v := pt N567 1) h1447 rfl fun a1448 h1448 => ?_; clear h1447
           refine pk (v := v635) h1448 rfl (rn_load1 rfl rfl Try.isAgg35 (hf901.cell rfl)) fun a1449 h1449 => ?_; clear h1448
           refine pk0 (v := .int .i64 ((k : Nat) : Int)) h1449 rfl fun a1450 h1450 => ?_; clear h1449
           obtain ⟨y1451, hy1451⟩ : ∃ z, ((prsH (RDs LL r) 1 4).map putP)[k]? = some z := ⟨_, List.getElem?_eq_getElem (by first | omega | (simp; done) | (simp; omega))⟩
           obtain ⟨py1451, hpy1451, hy1y1451, hy2y1451⟩ := map_at hy1451
           have hpmy1451 := prs_mem (List.mem_of_getElem? hpy1451)
           have hpny1451 : py1451.1 < 4 := hpmy1451.1
           have hpxy1451 : Hid (py1451.1 ≠ 1) := hpmy1451.2.1
           have hsgy1451 : SegP py1451.2 := HS.segP hRS (i := 1) (by decide) hpny1451 hpxy1451 _ hpmy1451.2.2; clear hpmy1451
           have hrdy1451 : rdSeg y1451.2 = (py1451.2, 0) := by rw [hy2y1451]; exact hsgy1451.read
           have hzy1451 := fun L => inT_e0 (L := L) hsgy1451.1
           have hszy1451 : y1451.2.size ≤ 9223372036854775807 := by rw [hy2y1451]; exact putG_sz hsgy1451
           have hyby1451 : 0 ≤ y1451.1 ∧ y1451.1 < 4 := by omega
           have hyxy1451 : y1451.1 ≠ (1 : Int) := fun h => hpxy1451 (by omega)
           refine pk (v := pt (blkOf v635) (offOf v635 + k * 2)) h1450 rfl (rn_index rfl rfl rfl Try.underlying35 Try.sizeOf51 (row_sl hf902 outE_len) (by omega) (by first | omega | (simp; done) | (simp; omega))) fun a1452 h1452 => ?_; clear h1450
           refine pk0 (v := pt (blkOf v635) (offOf v635 + k * 2)) h1452 rfl fun a1453 h1453 => ?_; clear h1452
           refine pk (v := .int .i64 y1451.1) h1453 rfl (rn_load1 rfl rfl Try.isAgg3 ((sl_at (row_sl hf902 outE_len) hy1451) 0 _ rfl)) fun a1454 h1454 => ?_; clear h1453
           refine pk0 (v := .int .i64 y1451.1) h1454 rfl fun a1455 h1455 => ?_; clear h1454
           refine pl_nil ?_
           refine co_then ?_
           refine co_seq ?_
           refine co_seq ?_
           refine co_reg ?_
           refine pk0 (v := .int .i64 y1451.1) h1455 rfl fun a1456 h1456 => ?_; clear h1455
           refine pk0 (v := .bool (decide (y1451.1 < 0))) h1456 rfl fun a1457 h1457 => ?_; clear h1456
           refine pk0 (v := .bool (decide (y1451.1 < 0))) h1457 rfl fun a1458 h1458 => ?_; clear h1457
           have hc1459 : (decide (y1451.1 < 0)) = false := decide_eq_false (by omega)
           rw [hc1459] at h1458; clear hc1459
           refine pk0 (v := .int .i64 y1451.1) h1458 rfl fun a1460 h1460 => ?_; clear h1458
           refine pk0 (v := .bool (decide (y1451.1 ≥ 4))) h1460 rfl fun a1461 h1461 => ?_; clear h1460
           refine pk0 (v := .bool (decide (y1451.1 ≥ 4))) h1461 rfl fun a1462 h1462 => ?_; clear h1461
           refine pk0 (v := .bool (decide (y1451.1 ≥ 4))) h1462 rfl fun a1463 h1463 => ?_; clear h1462
           have hc1464 : (decide (y1451.1 ≥ 4)) = false := decide_eq_false (by omega)
           rw [hc1464] at h1463; clear hc1464
           refine pk0 (v := .int .i64 y1451.1) h1463 rfl fun a1465 h1465 => ?_; clear h1463
           refine pk0 (v := .int .i64 1) h1465 rfl fun a1466 h1466 => ?_; clear h1465
           refine pk0 (v := .bool (y1451.1 == 1)) h1466 rfl fun a1467 h1467 => ?_; clear h1466
           refine pk0 (v := .bool (y1451.1 == 1)) h1467 rfl fun a1468 h1468 => ?_; clear h1467
           refine pl_nil ?_
           refine co_then ?_
           have hc1469 : (y1451.1 == 1) = false := by first | (simp; done) | (simp; omega) | exact beq_false_of_ne (by omega) | exact beq_iff_eq.2 (by omega)
           rw [hc1469] at h1468; clear hc1469
           refine co_false h1468 rfl ?_
           refine wp_skip ?_
           refine co_then ?_
           refine co_seq ?_
           refine dr_gen (fun x => Below w.heap.size w x ∧ Blk x N567 49 #[v593, v635, v680, v727] ∧ x.ownsRow w608.heap.size 51 2 v635 (((prsH (RDs LL r) 1 4).map putP).length) (((prsH (RDs LL r) 1 4).map putP).flatMap outE)) (by kernel_rfl) (fun w1470 hg1471 => ?_) (fun w1470 hg1471 => ?_)
           ·
            have hz1472 := hg1471.size
            have hB1473 := hb_new hB905 hg1471
            have hk1474 := hf901.kept hg1471 (by simp)
            have hr1475 := row_kept_new hf902 hg1471
            exact ⟨hB1473, hk1474, hr1475⟩
           have hz1476 := hg1471.size
           have hB1477 := hb_new hB905 hg1471
           have hk1478 := hf901.kept hg1471 (by simp)
           have hr1479 := row_kept_new hf902 hg1471
           refine dk0 0 (v := .int .i64 y1451.1) h1468 rfl rfl ⟨hB1477, hk1478, hr1479⟩ fun a1480 h1480 => ?_; clear h1468
           refine dk 1 (v := pt N4 py1451.1) h1480 rfl rfl ⟨hB1477, hk1478, hr1479⟩ (fun x hx => (rn_indexAtAny rfl rfl rfl (fun w => by rw [hy1y1451]; exact ixa_h4 N4 py1451.1 (by omega) w))) fun a1481 h1481 => ?_; clear h1480
           refine dk0 3 (v := .int .i64 1) h1481 rfl rfl ⟨hB1477, hk1478, hr1479⟩ fun a1482 h1482 => ?_; clear h1481
           refine dk0 4 (v := .int .i64 1) h1482 rfl rfl ⟨hB1477, hk1478, hr1479⟩ fun a1483 h1483 => ?_; clear h1482
           refine dk0 5 (v := pt N567 1) h1483 rfl rfl ⟨hB1477, hk1478, hr1479⟩ fun a1484 h1484 => ?_; clear h1483
           refine dk 6 (v := v635) h1484 rfl rfl ⟨hB1477, hk1478, hr1479⟩ (fun x hx => (rn_load1 rfl rfl Try.isAgg35 (hx.2.1.cell rfl))) fun a1485 h1485 => ?_; clear h1484
           refine dk0 7 (v := .int .i64 ((k : Nat) : Int)) h1485 rfl rfl ⟨hB1477, hk1478, hr1479⟩ fun a1486 h1486 => ?_; clear h1485
           refine dk 8 (v := pt (blkOf v635) (offOf v635 + k * 2)) h1486 rfl rfl ⟨hB1477, hk1478, hr1479⟩ (fun x hx => (rn_index rfl rfl rfl Try.underlying35 Try.sizeOf51 (row_sl hx.2.2 outE_len) (by omega) (by first | omega | (simp; done) | (simp; omega)))) fun a1487 h1487 => ?_; clear h1486
           refine dk0 9 (v := pt (blkOf v635) (offOf v635 + k * 2 + 1)) h1487 rfl rfl ⟨hB1477, hk1478, hr1479⟩ fun a1488 h1488 => ?_; clear h1487
           refine dk 10 (v := .string y1451.2) h1488 rfl rfl ⟨hB1477, hk1478, hr1479⟩ (fun x hx => (rn_load1 rfl rfl Try.isAgg9 ((sl_at (row_sl hx.2.2 outE_len) hy1451) 1 _ rfl))) fun a1489 h1489 => ?_; clear h1488
           refine dr_many [2] (by kernel_rfl) (by simp) ⟨?_, trivial⟩
           ·
            have hO1490 := HubsO.gr hf898 hg1471 (fun k e => by cases e)
            refine dr_opVal (i := 2) (v := pt (q py1451.1) 0) h1489 rfl rfl rfl rfl (by kernel_rfl) rfl (rn_load1 rfl rfl Try.isAgg23 (HubsO.cell hO1490 (by omega))) ⟨hB1477, hk1478, hr1479⟩ (fun a1491 h1491 => ?_); clear h1489
            have ho1494 := HubsO.ofS hO1490
            have hO1496 := LstO.gr hf899 hg1471 (fun k e => by cases e)
            have ho1495 := LstO.ofS hO1496
            have hO1498 := LstO.gr hf900 hg1471 (fun k e => by cases e)
            have ho1497 := LstO.ofS hO1498
            try clear hyxy1451
            refine d1 11 h1491 rfl rfl (op_call (args := #[pt (q py1451.1) 0, .int .i64 1, .string y1451.2]) (R := fun res xw => ∃ v : Value, ∃ S' : Nat → Prop, res = .tuple #[v, .int .i64 0] ∧ HubsO S' xw N4 q (Dn (RDs LL r) 1 (k + 1)) ∧ (xw.ownsRow w1470.heap.size 9 1 v (inT ((Dn (RDs LL r) 1 k) py1451.1 1) py1451.2).1.length ((inT ((Dn (RDs LL r) 1 k) py1451.1 1) py1451.2).1.flatMap strE)) ∧ (∀ k, (Value.ownBlock v) = some k → ¬ S' k) ∧ Grew SP1 S' w1470 xw) rfl rfl rfl (by kernel_rfl) (by kernel_rfl) (Try.call13 _ _) (hubsIn (i := 1) w1470 hpny1451 ⟨by decide, Ne.symm hpxy1451⟩ hO1490 y1451.2 (by omega) py1451.2 hrdy1451) (by rintro e x ⟨v, S', h0, h1, h2⟩; rw [hzy1451] at h0; rw [Dn_step hpy1451] at h1; exact ⟨_, h0, v, S', rfl, h1, h2⟩)) ?_ ?_; clear h1491
            ·
             rintro _ w1493 ⟨v1499, S1500, rfl, hO1501, hq1503, hq1504, hx1502⟩
             have hr1505 := row_kept_new hf903 hg1471
             have hr1506 := row_kept_new hf904 hg1471
             have hlo1508 : ∀ q, S1500 q → w.heap.size ≤ q := hx1502.lo hlo926 (by omega)
             have hB1507 := hbL hB1477 hlo926 hx1502.but
             have hz1509 := hB1507.size
             have hz1510 := hx1502.but.size
             have hl11511 := inT_atm ((Dn (RDs LL r) 1 k) py1451.1 1) py1451.2
             have hk1512 := Blk.butS hk1478 hx1502.but ho944
             have hr1513 := own_butS hr1479 hx1502.but ho934
             exact ⟨hB1507, hk1512, hr1513⟩
            rintro _ w1493 a1492 ⟨v1499, S1500, rfl, hO1501, hq1503, hq1504, hx1502⟩ h1492
            have hr1505 := row_kept_new hf903 hg1471
            have hr1506 := row_kept_new hf904 hg1471
            have hlo1508 : ∀ q, S1500 q → w.heap.size ≤ q := hx1502.lo hlo926 (by omega)
            have hB1507 := hbL hB1477 hlo926 hx1502.but
            have hz1509 := hB1507.size
            have hz1510 := hx1502.but.size
            have hl11511 := inT_atm ((Dn (RDs LL r) 1 k) py1451.1 1) py1451.2
            have hk1512 := Blk.butS hk1478 hx1502.but ho944
            have hr1513 := own_butS hr1479 hx1502.but ho934
            refine dk0 12 (v := .tuple #[v1499, .int .i64 0]) h1492 rfl rfl ⟨hB1507, hk1512, hr1513⟩ fun a1514 h1514 => ?_; clear h1492
            refine dk0 13 (v := v1499) h1514 rfl rfl ⟨hB1507, hk1512, hr1513⟩ fun a1515 h1515 => ?_; clear h1514
            refine dk0 14 (v := .int .i64 0) h1515 rfl rfl ⟨hB1507, hk1512, hr1513⟩ fun a1516 h1516 => ?_; clear h1515
            refine dk0 15 (v := v1499) h1516 rfl rfl ⟨hB1507, hk1512, hr1513⟩ fun a1517 h1517 => ?_; clear h1516
            refine dk0 16 (v := .int .i64 0) h1517 rfl rfl ⟨hB1507, hk1512, hr1513⟩ fun a1518 h1518 => ?_; clear h1517
            refine dr_done (by kernel_rfl) ?_
            refine co_then ?_
            refine co_seq ?_
            refine co_seq ?_
            refine co_reg ?_
            refine pk0 (v := .int .i64 0) h1518 rfl fun a1519 h1519 => ?_; clear h1518
            refine pk0 (v := .bool ((0 : Int) != 0)) h1519 rfl fun a1520 h1520 => ?_; clear h1519
            refine pl_nil ?_
            refine co_then ?_
            have hc1521 : ((0 : Int) != 0) = false := by first | (simp; done) | (simp; omega) | exact beq_false_of_ne (by omega) | exact beq_iff_eq.2 (by omega)
            rw [hc1521] at h1520; clear hc1521
            refine co_false h1520 rfl ?_
            refine wp_skip ?_
            refine co_then ?_
            refine dr_gen (fun x => Below w.heap.size w x) (by kernel_rfl) (fun w1522 hg1523 => ?_) (fun w1522 hg1523 => ?_)
            ·
             have hz1524 := hg1523.size
             have hB1525 := hb_new hB1507 hg1523
             exact hB1525
            have hz1526 := hg1523.size
            have hB1527 := hb_new hB1507 hg1523
            refine dk0 0 (v := .int .i64 1) h1520 rfl rfl hB1527 fun a1528 h1528 => ?_; clear h1520
            refine dk0 1 (v := .int .i64 y1451.1) h1528 rfl rfl hB1527 fun a1529 h1529 => ?_; clear h1528
            refine dk0 2 (v := .int .i64 1) h1529 rfl rfl hB1527 fun a1530 h1530 => ?_; clear h1529
            refine dk0 3 (v := .int .i64 y1451.1) h1530 rfl rfl hB1527 fun a1531 h1531 => ?_; clear h1530
            refine dk0 4 (v := pt N225 4) h1531 rfl rfl hB1527 fun a1532 h1532 => ?_; clear h1531
            refine dk 5 (v := pt N225 (4 * 1 + py1451.1)) h1532 rfl rfl hB1527 (fun x hx => (rn_indexAtAny rfl rfl rfl (fun w => by rw [hy1y1451]; exact ixa_b4 N225 (4 * 1) py1451.1 (by omega) w))) fun a1533 h1533 => ?_; clear h1532
            refine dk0 7 (v := v1499) h1533 rfl rfl hB1527 fun a1534 h1534 => ?_; clear h1533
            refine dk0 9 (v := pt N225 4) h1534 rfl rfl hB1527 fun a1535 h1535 => ?_; clear h1534
            refine dr_many [6] (by kernel_rfl) (by simp) ⟨?_, trivial⟩
            ·
             have hO1538 := LstO.but hO1498 hx1502.but (ap_symm hap933)
             have hO1539 := LstO.gr hO1538 hg1523 (fun k e => by cases e)
             have hO1543 := LstO.but hO1496 hx1502.but (ap_symm hap932)
             have hO1544 := LstO.gr hO1543 hg1523 (fun k e => by cases e)
             have hO1546 := HubsO.gr hO1501 hg1523 (fun k e => by cases e)
             have hk1549 := hk1512.kept hg1523 (by simp)
             have hr1551 := row_kept_new hr1513 hg1523
             have hr1553 := own_butS hr1505 hx1502.but ho935
             have hr1554 := row_kept_new hr1553 hg1523
             have hr1556 := own_butS hr1506 hx1502.but ho936
             have hr1557 := row_kept_new hr1556 hg1523
             have hr1559 := row_kept_new hq1503 hg1523
             obtain ⟨V1536, hQ1537⟩ := hO1539
             have hm1541 : ∀ k, (Value.ownBlock (V1536 (4 * 1 + py1451.1))) = some k → SQ1 k := fun k hk => (hQ1537.fp k).2 (.inr ⟨4 * 1 + py1451.1, by omega, hk⟩)
             have hr1540 := row_raise (hQ1537.row (4 * 1 + py1451.1) (by omega)) (fun k hk => hlo930 k (hm1541 k hk))
             have hof1542 := LstO.ofS hO1544
             have hof1545 := HubsO.ofS hO1546
             have hof1547 := LstQ.ofS hQ1537
             have hbl1548 := Blk.lt hk1549
             have hrl1550 := fun k hk => (World.ownsRow.lt hr1551 k hk).2
             have hrl1552 := fun k hk => (World.ownsRow.lt hr1554 k hk).2
             have hrl1555 := fun k hk => (World.ownsRow.lt hr1557 k hk).2
             have hrl1558 := fun k hk => (World.ownsRow.lt hr1559 k hk).2
             have hnn1560 : w.heap.size ≤ w1522.heap.size := by omega
             have hbd1561 : (flatL (Gn (RDs LL r) (GTs LL r) 1 k) (4 * 1 + py1451.1)).length ≤ 8 := by rw [flatL_at hpny1451]; exact Gn_len hRS (by decide) hpny1451
             refine dr_opVal (i := 6) (v := (V1536 (4 * 1 + py1451.1))) h1535 rfl rfl rfl rfl (by kernel_rfl) rfl (rn_load1 rfl rfl Try.isAgg37 (hQ1537.cell (by omega))) hB1527 (fun a1562 h1562 => ?_); clear h1535
             refine d1 8 h1562 rfl rfl (op_appendRow rfl w.heap.size 9 (z := .string (⟨#[]⟩)) (size := 1) (bytes := 16) Try.underlying37 (by kernel_rfl) rfl rfl rfl hr1540 rfl hr1559 (fm_one strE_one) (by first | omega | (simp only [List.length_nil, List.length_append, List.length_cons, List.length_take, List.length_drop]; omega)) (by first | omega | (simp only [List.length_nil, List.length_append, List.length_cons, List.length_take, List.length_drop]; omega)) (by omega)) ?_ ?_; clear h1562
             ·
              rintro v1565 w1564 ⟨hr1566, hwt1568, hg1567⟩
              have hr1566' : w1564.ownsRow w.heap.size 9 1 v1565 (((flatL (Gn (RDs LL r) (GTs LL r) 1 k) (4 * 1 + py1451.1)) ++ ((inT ((Dn (RDs LL r) 1 k) py1451.1 1) py1451.2).1)).length) (((flatL (Gn (RDs LL r) (GTs LL r) 1 k) (4 * 1 + py1451.1)) ++ ((inT ((Dn (RDs LL r) 1 k) py1451.1 1) py1451.2).1)).flatMap strE) := row_app hr1566; clear hr1566
              have ho1570 := LstO.ofS hO1544
              have ho1569 := offR_went (fun k hk h => (ap_symm hap937) k (hm1541 k hk) h) ho1570 hwt1568
              have ho1572 := HubsO.ofS hO1546
              have ho1571 := offR_went (fun k hk h => (ap_symm (Grew.ap hx1502 (ap_symm (ap_symm hap933)) (LstO.ofS hO1498))) k (hm1541 k hk) h) ho1572 hwt1568
              have hz1573 := hg1567.size
              have hB1574 := hb_row hB1527 hr1540 (by omega) hg1567
              exact hB1574
             rintro v1565 w1564 a1563 ⟨hr1566, hwt1568, hg1567⟩ h1563
             have hr1566' : w1564.ownsRow w.heap.size 9 1 v1565 (((flatL (Gn (RDs LL r) (GTs LL r) 1 k) (4 * 1 + py1451.1)) ++ ((inT ((Dn (RDs LL r) 1 k) py1451.1 1) py1451.2).1)).length) (((flatL (Gn (RDs LL r) (GTs LL r) 1 k) (4 * 1 + py1451.1)) ++ ((inT ((Dn (RDs LL r) 1 k) py1451.1 1) py1451.2).1)).flatMap strE) := row_app hr1566; clear hr1566
             have ho1570 := LstO.ofS hO1544
             have ho1569 := offR_went (fun k hk h => (ap_symm hap937) k (hm1541 k hk) h) ho1570 hwt1568
             have ho1572 := HubsO.ofS hO1546
             have ho1571 := offR_went (fun k hk h => (ap_symm (Grew.ap hx1502 (ap_symm (ap_symm hap933)) (LstO.ofS hO1498))) k (hm1541 k hk) h) ho1572 hwt1568
             have hz1573 := hg1567.size
             have hB1574 := hb_row hB1527 hr1540 (by omega) hg1567
             refine dk 10 (v := pt N225 (4 * 1 + py1451.1)) h1563 rfl rfl hB1574 (fun x hx => (rn_indexAtAny rfl rfl rfl (fun w => by rw [hy1y1451]; exact ixa_b4 N225 (4 * 1) py1451.1 (by omega) w))) fun a1575 h1575 => ?_; clear h1563
             have hO1581 := LstQ.hole hQ1537 (by omega) hg1567
             refine d1D 11 h1575 rfl rfl (op_store1 (k := (4 * 1 + py1451.1)) rfl rfl rfl (row_one hr1566') Try.sizeOf37 (LstH.blk hO1581) (arr_blt (by omega))) ?_ ?_; clear h1575
             ·
              rintro _ w1577 ⟨hk1578, hz1579, hg1580⟩
              obtain ⟨S1582, hL1583, hsub1584⟩ := LstH.fill (u := v1565) (l := ((flatL (Gn (RDs LL r) (GTs LL r) 1 k) (4 * 1 + py1451.1)) ++ ((inT ((Dn (RDs LL r) 1 k) py1451.1 1) py1451.2).1))) hO1581 (by omega) hk1578 hg1580 (n0 := w1522.heap.size) (by omega) (row_lows hr1566' (Nat.zero_le _)) (went_le hwt1568 (by omega)) hof1547
              have hbm1585 : SQ1 N225 := LstH.mem hO1581
              have hz1586 := hg1580.size
              have hO1587 : LstO S1582 w1577 N225 (flatL (Gn (RDs LL r) (GTs LL r) 1 (k + 1))) := LstO.congr hL1583 (flatL_up hpny1451 (Gn_step hpy1451))
              have hlo1588 : ∀ q, S1582 q → w.heap.size ≤ q := lo_fill hsub1584 hlo930 hnn1560
              have hap1589 : ∀ q, S1582 q → SB q → False := ap_fill hsub1584 (ap_symm hap937) hof1542
              have hap1590 : ∀ q, S1582 q → S1500 q → False := ap_fill hsub1584 (ap_symm (Grew.ap hx1502 (ap_symm (ap_symm hap933)) (LstO.ofS hO1498))) hof1545
              have ho1591 : ¬ S1582 N567 := offb_fill hsub1584 ho946 hbl1548
              have ho1592 : ∀ k, (Value.ownBlock v635) = some k → ¬ S1582 k := offr_fill hsub1584 ho941 hrl1550
              have ho1593 : ∀ k, (Value.ownBlock v680) = some k → ¬ S1582 k := offr_fill hsub1584 ho942 hrl1552
              have ho1594 : ∀ k, (Value.ownBlock v727) = some k → ¬ S1582 k := offr_fill hsub1584 ho943 hrl1555
              have ho1595 : ∀ k, (Value.ownBlock v1499) = some k → ¬ S1582 k := offr_fill hsub1584 (offR_row ho1497 hq1503 (Nat.le_refl _)) hrl1558
              have hB1596 := hb_at hB1574 hg1580 (by omega)
              exact hB1596
             rintro _ w1577 a1576 ⟨hk1578, hz1579, hg1580⟩ h1576
             obtain ⟨S1582, hL1583, hsub1584⟩ := LstH.fill (u := v1565) (l := ((flatL (Gn (RDs LL r) (GTs LL r) 1 k) (4 * 1 + py1451.1)) ++ ((inT ((Dn (RDs LL r) 1 k) py1451.1 1) py1451.2).1))) hO1581 (by omega) hk1578 hg1580 (n0 := w1522.heap.size) (by omega) (row_lows hr1566' (Nat.zero_le _)) (went_le hwt1568 (by omega)) hof1547
             have hbm1585 : SQ1 N225 := LstH.mem hO1581
             have hz1586 := hg1580.size
             have hO1587 : LstO S1582 w1577 N225 (flatL (Gn (RDs LL r) (GTs LL r) 1 (k + 1))) := LstO.congr hL1583 (flatL_up hpny1451 (Gn_step hpy1451))
             have hlo1588 : ∀ q, S1582 q → w.heap.size ≤ q := lo_fill hsub1584 hlo930 hnn1560
             have hap1589 : ∀ q, S1582 q → SB q → False := ap_fill hsub1584 (ap_symm hap937) hof1542
             have hap1590 : ∀ q, S1582 q → S1500 q → False := ap_fill hsub1584 (ap_symm (Grew.ap hx1502 (ap_symm (ap_symm hap933)) (LstO.ofS hO1498))) hof1545
             have ho1591 : ¬ S1582 N567 := offb_fill hsub1584 ho946 hbl1548
             have ho1592 : ∀ k, (Value.ownBlock v635) = some k → ¬ S1582 k := offr_fill hsub1584 ho941 hrl1550
             have ho1593 : ∀ k, (Value.ownBlock v680) = some k → ¬ S1582 k := offr_fill hsub1584 ho942 hrl1552
             have ho1594 : ∀ k, (Value.ownBlock v727) = some k → ¬ S1582 k := offr_fill hsub1584 ho943 hrl1555
             have ho1595 : ∀ k, (Value.ownBlock v1499) = some k → ¬ S1582 k := offr_fill hsub1584 (offR_row ho1497 hq1503 (Nat.le_refl _)) hrl1558
             refine dr_done (by kernel_rfl) ?_
             refine co_blockN ?_
             refine co_then ?_
             refine co_reg ?_
             refine pk0 (v := .int .i64 ((k : Nat) : Int)) h1576 rfl fun a1596 h1596 => ?_; clear h1576
             refine pk (v := .int .i64 ((k + 1 : Nat) : Int)) h1596 rfl (rn_arith' rfl rfl rfl rfl rfl rfl (IntWalk.i64_in _ (by omega)) (by omega)) fun a1597 h1597 => ?_; clear h1596
             refine pk0 (v := .int .i64 ((k + 1 : Nat) : Int)) h1597 rfl fun a1598 h1598 => ?_; clear h1597
             refine pl_nil ?_
             refine co_then ?_
             refine ⟨(60 - (k + 1)), by omega, ?_⟩
             have hO1599 := HubsO.gr hO1546 hg1567 (fun k e => (fun k hk h => (ap_symm (Grew.ap hx1502 (ap_symm (ap_symm hap933)) (LstO.ofS hO1498))) k (hm1541 k hk) h) k e)
             have hO1600 := HubsO.gr hO1599 hg1580 (fun k e => by cases e; exact (fun h => (ap_symm (Grew.ap hx1502 (ap_symm (ap_symm hap933)) (LstO.ofS hO1498))) _ hbm1585 h))
             have hO1601 := LstO.gr hO1544 hg1567 (fun k e => (fun k hk h => (ap_symm hap937) k (hm1541 k hk) h) k e)
             have hO1602 := LstO.gr hO1601 hg1580 (fun k e => by cases e; exact (fun h => (ap_symm hap937) _ hbm1585 h))
             have hk1603 := hk1549.kept hg1567 (own_neT hr1540 hk1549 (by decide))
             have hk1604 := hk1603.kept hg1580 (by simp; omega)
             have hr1605 := row_kept_row hr1551 hr1540 hg1567 (by decide)
             have hr1606 := row_kept_at hr1605 hg1580 (row_ne_lt hr1605 (by omega))
             have hr1607 := row_kept_row hr1554 hr1540 hg1567 (by decide)
             have hr1608 := row_kept_at hr1607 hg1580 (row_ne_lt hr1607 (by omega))
             have hr1609 := row_kept_row hr1557 hr1540 hg1567 (by decide)
             have hr1610 := row_kept_at hr1609 hg1580 (row_ne_lt hr1609 (by omega))
             have hB1611 := hb_at hB1574 hg1580 (by omega)
             exact ⟨k + 1, S1500, S1582, h1598.sub ⟨rfl, rfl, rfl, rfl, rfl, rfl, rfl, rfl, trivial⟩, rfl, by omega, by exact hlo1508, by exact hlo928, by exact hlo1588, by exact (ap_symm (ap_symm (Grew.ap hx1502 (ap_symm (ap_symm hap932)) (LstO.ofS hO1496)))), by exact (ap_symm hap1590), by exact (ap_symm hap1589), by exact (Grew.offR hx1502 hr1479 ho934), by exact ho938, by exact ho1592, by exact (Grew.offR hx1502 hr1505 ho935), by exact ho939, by exact ho1593, by exact (Grew.offR hx1502 hr1506 ho936), by exact ho940, by exact ho1594, by exact (Grew.off hx1502 ho944 hk1478.lt), by exact ho945, by exact ho1591, hO1600, hO1602, hO1587, hk1604, hr1606, hr1608, hr1610, hB1611⟩
       ·
        rw [hc862] at h861
        have hp1612 : ((k : Nat) : Int) < ((((prsH (RDs LL r) 0 4).map putP).length : Nat) : Int) := of_decide_eq_true hc862
        clear hc862
        refine pk0 (v := .int .i64 ((k : Nat) : Int)) h861 rfl fun a1613 h1613 => ?_; clear h861
        refine pk0 (v := .bool (decide (((k : Nat) : Int) < 60))) h1613 rfl fun a1614 h1614 => ?_; clear h1613
        refine pk0 (v := .bool (decide (((k : Nat) : Int) < 60))) h1614 rfl fun a1615 h1615 => ?_; clear h1614
        refine pl_nil ?_
        refine co_then ?_
        have hc1616 : (decide (((k : Nat) : Int) < 60)) = true := decide_eq_true (by omega)
        rw [hc1616] at h1615; clear hc1616
        refine co_true h1615 rfl ?_
        refine wp_skip ?_
        refine co_then ?_
        refine co_seq ?_
        refine wp_block ?_
        refine co_seq ?_
        refine co_reg ?_
        refine pk0 (v := .int .i64 0) h1615 rfl fun a1617 h1617 => ?_; clear h1615
        refine pk0 (v := pt N567 0) h1617 rfl fun a1618 h1618 => ?_; clear h1617
        refine pk (v := v593) h1618 rfl (rn_load1 rfl rfl Try.isAgg35 (hf802.cell rfl)) fun a1619 h1619 => ?_; clear h1618
        refine pk0 (v := .int .i64 ((k : Nat) : Int)) h1619 rfl fun a1620 h1620 => ?_; clear h1619
        obtain ⟨y1621, hy1621⟩ : ∃ z, ((prsH (RDs LL r) 0 4).map putP)[k]? = some z := ⟨_, List.getElem?_eq_getElem (by first | omega | (simp; done) | (simp; omega))⟩
        obtain ⟨py1621, hpy1621, hy1y1621, hy2y1621⟩ := map_at hy1621
        have hpmy1621 := prs_mem (List.mem_of_getElem? hpy1621)
        have hpny1621 : py1621.1 < 4 := hpmy1621.1
        have hpxy1621 : Hid (py1621.1 ≠ 0) := hpmy1621.2.1
        have hsgy1621 : SegP py1621.2 := HS.segP hRS (i := 0) (by decide) hpny1621 hpxy1621 _ hpmy1621.2.2; clear hpmy1621
        have hrdy1621 : rdSeg y1621.2 = (py1621.2, 0) := by rw [hy2y1621]; exact hsgy1621.read
        have hzy1621 := fun L => inT_e0 (L := L) hsgy1621.1
        have hszy1621 : y1621.2.size ≤ 9223372036854775807 := by rw [hy2y1621]; exact putG_sz hsgy1621
        have hyby1621 : 0 ≤ y1621.1 ∧ y1621.1 < 4 := by omega
        have hyxy1621 : y1621.1 ≠ (0 : Int) := fun h => hpxy1621 (by omega)
        refine pk (v := pt (blkOf v593) (offOf v593 + k * 2)) h1620 rfl (rn_index rfl rfl rfl Try.underlying35 Try.sizeOf51 (row_sl hf803 outE_len) (by omega) (by first | omega | (simp; done) | (simp; omega))) fun a1622 h1622 => ?_; clear h1620
        refine pk0 (v := pt (blkOf v593) (offOf v593 + k * 2)) h1622 rfl fun a1623 h1623 => ?_; clear h1622
        refine pk (v := .int .i64 y1621.1) h1623 rfl (rn_load1 rfl rfl Try.isAgg3 ((sl_at (row_sl hf803 outE_len) hy1621) 0 _ rfl)) fun a1624 h1624 => ?_; clear h1623
        refine pk0 (v := .int .i64 y1621.1) h1624 rfl fun a1625 h1625 => ?_; clear h1624
        refine pl_nil ?_
        refine co_then ?_
        refine co_seq ?_
        refine co_seq ?_
        refine co_reg ?_
        refine pk0 (v := .int .i64 y1621.1) h1625 rfl fun a1626 h1626 => ?_; clear h1625
        refine pk0 (v := .bool (decide (y1621.1 < 0))) h1626 rfl fun a1627 h1627 => ?_; clear h1626
        refine pk0 (v := .bool (decide (y1621.1 < 0))) h1627 rfl fun a1628 h1628 => ?_; clear h1627
        have hc1629 : (decide (y1621.1 < 0)) = false := decide_eq_false (by omega)
        rw [hc1629] at h1628; clear hc1629
        refine pk0 (v := .int .i64 y1621.1) h1628 rfl fun a1630 h1630 => ?_; clear h1628
        refine pk0 (v := .bool (decide (y1621.1 ≥ 4))) h1630 rfl fun a1631 h1631 => ?_; clear h1630
        refine pk0 (v := .bool (decide (y1621.1 ≥ 4))) h1631 rfl fun a1632 h1632 => ?_; clear h1631
        refine pk0 (v := .bool (decide (y1621.1 ≥ 4))) h1632 rfl fun a1633 h1633 => ?_; clear h1632
        have hc1634 : (decide (y1621.1 ≥ 4)) = false := decide_eq_false (by omega)
        rw [hc1634] at h1633; clear hc1634
        refine pk0 (v := .int .i64 y1621.1) h1633 rfl fun a1635 h1635 => ?_; clear h1633
        refine pk0 (v := .int .i64 0) h1635 rfl fun a1636 h1636 => ?_; clear h1635
        refine pk0 (v := .bool (y1621.1 == 0)) h1636 rfl fun a1637 h1637 => ?_; clear h1636
        refine pk0 (v := .bool (y1621.1 == 0)) h1637 rfl fun a1638 h1638 => ?_; clear h1637
        refine pl_nil ?_
        refine co_then ?_
        have hc1639 : (y1621.1 == 0) = false := by first | (simp; done) | (simp; omega) | exact beq_false_of_ne (by omega) | exact beq_iff_eq.2 (by omega)
        rw [hc1639] at h1638; clear hc1639
        refine co_false h1638 rfl ?_
        refine wp_skip ?_
        refine co_then ?_
        refine co_seq ?_
        refine dr_gen (fun x => Below w.heap.size w x ∧ Blk x N567 49 #[v593, v635, v680, v727] ∧ x.ownsRow w566.heap.size 51 2 v593 (((prsH (RDs LL r) 0 4).map putP).length) (((prsH (RDs LL r) 0 4).map putP).flatMap outE)) (by kernel_rfl) (fun w1640 hg1641 => ?_) (fun w1640 hg1641 => ?_)
        ·
         have hz1642 := hg1641.size
         have hB1643 := hb_new hB807 hg1641
         have hk1644 := hf802.kept hg1641 (by simp)
         have hr1645 := row_kept_new hf803 hg1641
         exact ⟨hB1643, hk1644, hr1645⟩
        have hz1646 := hg1641.size
        have hB1647 := hb_new hB807 hg1641
        have hk1648 := hf802.kept hg1641 (by simp)
        have hr1649 := row_kept_new hf803 hg1641
        refine dk0 0 (v := .int .i64 y1621.1) h1638 rfl rfl ⟨hB1647, hk1648, hr1649⟩ fun a1650 h1650 => ?_; clear h1638
        refine dk 1 (v := pt N4 py1621.1) h1650 rfl rfl ⟨hB1647, hk1648, hr1649⟩ (fun x hx => (rn_indexAtAny rfl rfl rfl (fun w => by rw [hy1y1621]; exact ixa_h4 N4 py1621.1 (by omega) w))) fun a1651 h1651 => ?_; clear h1650
        refine dk0 3 (v := .int .i64 0) h1651 rfl rfl ⟨hB1647, hk1648, hr1649⟩ fun a1652 h1652 => ?_; clear h1651
        refine dk0 4 (v := .int .i64 0) h1652 rfl rfl ⟨hB1647, hk1648, hr1649⟩ fun a1653 h1653 => ?_; clear h1652
        refine dk0 5 (v := pt N567 0) h1653 rfl rfl ⟨hB1647, hk1648, hr1649⟩ fun a1654 h1654 => ?_; clear h1653
        refine dk 6 (v := v593) h1654 rfl rfl ⟨hB1647, hk1648, hr1649⟩ (fun x hx => (rn_load1 rfl rfl Try.isAgg35 (hx.2.1.cell rfl))) fun a1655 h1655 => ?_; clear h1654
        refine dk0 7 (v := .int .i64 ((k : Nat) : Int)) h1655 rfl rfl ⟨hB1647, hk1648, hr1649⟩ fun a1656 h1656 => ?_; clear h1655
        refine dk 8 (v := pt (blkOf v593) (offOf v593 + k * 2)) h1656 rfl rfl ⟨hB1647, hk1648, hr1649⟩ (fun x hx => (rn_index rfl rfl rfl Try.underlying35 Try.sizeOf51 (row_sl hx.2.2 outE_len) (by omega) (by first | omega | (simp; done) | (simp; omega)))) fun a1657 h1657 => ?_; clear h1656
        refine dk0 9 (v := pt (blkOf v593) (offOf v593 + k * 2 + 1)) h1657 rfl rfl ⟨hB1647, hk1648, hr1649⟩ fun a1658 h1658 => ?_; clear h1657
        refine dk 10 (v := .string y1621.2) h1658 rfl rfl ⟨hB1647, hk1648, hr1649⟩ (fun x hx => (rn_load1 rfl rfl Try.isAgg9 ((sl_at (row_sl hx.2.2 outE_len) hy1621) 1 _ rfl))) fun a1659 h1659 => ?_; clear h1658
        refine dr_many [2] (by kernel_rfl) (by simp) ⟨?_, trivial⟩
        ·
         have hO1660 := HubsO.gr hf799 hg1641 (fun k e => by cases e)
         refine dr_opVal (i := 2) (v := pt (q py1621.1) 0) h1659 rfl rfl rfl rfl (by kernel_rfl) rfl (rn_load1 rfl rfl Try.isAgg23 (HubsO.cell hO1660 (by omega))) ⟨hB1647, hk1648, hr1649⟩ (fun a1661 h1661 => ?_); clear h1659
         have ho1664 := HubsO.ofS hO1660
         have hO1666 := LstO.gr hf800 hg1641 (fun k e => by cases e)
         have ho1665 := LstO.ofS hO1666
         have hO1668 := LstO.gr hf801 hg1641 (fun k e => by cases e)
         have ho1667 := LstO.ofS hO1668
         try clear hyxy1621
         refine d1 11 h1661 rfl rfl (op_call (args := #[pt (q py1621.1) 0, .int .i64 0, .string y1621.2]) (R := fun res xw => ∃ v : Value, ∃ S' : Nat → Prop, res = .tuple #[v, .int .i64 0] ∧ HubsO S' xw N4 q (Dn (RDs LL r) 0 (k + 1)) ∧ (xw.ownsRow w1640.heap.size 9 1 v (inT ((Dn (RDs LL r) 0 k) py1621.1 0) py1621.2).1.length ((inT ((Dn (RDs LL r) 0 k) py1621.1 0) py1621.2).1.flatMap strE)) ∧ (∀ k, (Value.ownBlock v) = some k → ¬ S' k) ∧ Grew SP0 S' w1640 xw) rfl rfl rfl (by kernel_rfl) (by kernel_rfl) (Try.call13 _ _) (hubsIn (i := 0) w1640 hpny1621 ⟨by decide, Ne.symm hpxy1621⟩ hO1660 y1621.2 (by omega) py1621.2 hrdy1621) (by rintro e x ⟨v, S', h0, h1, h2⟩; rw [hzy1621] at h0; rw [Dn_step hpy1621] at h1; exact ⟨_, h0, v, S', rfl, h1, h2⟩)) ?_ ?_; clear h1661
         ·
          rintro _ w1663 ⟨v1669, S1670, rfl, hO1671, hq1673, hq1674, hx1672⟩
          have hr1675 := row_kept_new hf804 hg1641
          have hr1676 := row_kept_new hf805 hg1641
          have hr1677 := row_kept_new hf806 hg1641
          have hlo1679 : ∀ q, S1670 q → w.heap.size ≤ q := hx1672.lo hlo831 (by omega)
          have hB1678 := hbL hB1647 hlo831 hx1672.but
          have hz1680 := hB1678.size
          have hz1681 := hx1672.but.size
          have hl11682 := inT_atm ((Dn (RDs LL r) 0 k) py1621.1 0) py1621.2
          have hk1683 := Blk.butS hk1648 hx1672.but ho852
          have hr1684 := own_butS hr1649 hx1672.but ho839
          exact ⟨hB1678, hk1683, hr1684⟩
         rintro _ w1663 a1662 ⟨v1669, S1670, rfl, hO1671, hq1673, hq1674, hx1672⟩ h1662
         have hr1675 := row_kept_new hf804 hg1641
         have hr1676 := row_kept_new hf805 hg1641
         have hr1677 := row_kept_new hf806 hg1641
         have hlo1679 : ∀ q, S1670 q → w.heap.size ≤ q := hx1672.lo hlo831 (by omega)
         have hB1678 := hbL hB1647 hlo831 hx1672.but
         have hz1680 := hB1678.size
         have hz1681 := hx1672.but.size
         have hl11682 := inT_atm ((Dn (RDs LL r) 0 k) py1621.1 0) py1621.2
         have hk1683 := Blk.butS hk1648 hx1672.but ho852
         have hr1684 := own_butS hr1649 hx1672.but ho839
         refine dk0 12 (v := .tuple #[v1669, .int .i64 0]) h1662 rfl rfl ⟨hB1678, hk1683, hr1684⟩ fun a1685 h1685 => ?_; clear h1662
         refine dk0 13 (v := v1669) h1685 rfl rfl ⟨hB1678, hk1683, hr1684⟩ fun a1686 h1686 => ?_; clear h1685
         refine dk0 14 (v := .int .i64 0) h1686 rfl rfl ⟨hB1678, hk1683, hr1684⟩ fun a1687 h1687 => ?_; clear h1686
         refine dk0 15 (v := v1669) h1687 rfl rfl ⟨hB1678, hk1683, hr1684⟩ fun a1688 h1688 => ?_; clear h1687
         refine dk0 16 (v := .int .i64 0) h1688 rfl rfl ⟨hB1678, hk1683, hr1684⟩ fun a1689 h1689 => ?_; clear h1688
         refine dr_done (by kernel_rfl) ?_
         refine co_then ?_
         refine co_seq ?_
         refine co_seq ?_
         refine co_reg ?_
         refine pk0 (v := .int .i64 0) h1689 rfl fun a1690 h1690 => ?_; clear h1689
         refine pk0 (v := .bool ((0 : Int) != 0)) h1690 rfl fun a1691 h1691 => ?_; clear h1690
         refine pl_nil ?_
         refine co_then ?_
         have hc1692 : ((0 : Int) != 0) = false := by first | (simp; done) | (simp; omega) | exact beq_false_of_ne (by omega) | exact beq_iff_eq.2 (by omega)
         rw [hc1692] at h1691; clear hc1692
         refine co_false h1691 rfl ?_
         refine wp_skip ?_
         refine co_then ?_
         refine dr_gen (fun x => Below w.heap.size w x) (by kernel_rfl) (fun w1693 hg1694 => ?_) (fun w1693 hg1694 => ?_)
         ·
          have hz1695 := hg1694.size
          have hB1696 := hb_new hB1678 hg1694
          exact hB1696
         have hz1697 := hg1694.size
         have hB1698 := hb_new hB1678 hg1694
         refine dk0 0 (v := .int .i64 0) h1691 rfl rfl hB1698 fun a1699 h1699 => ?_; clear h1691
         refine dk0 1 (v := .int .i64 y1621.1) h1699 rfl rfl hB1698 fun a1700 h1700 => ?_; clear h1699
         refine dk0 2 (v := .int .i64 0) h1700 rfl rfl hB1698 fun a1701 h1701 => ?_; clear h1700
         refine dk0 3 (v := .int .i64 y1621.1) h1701 rfl rfl hB1698 fun a1702 h1702 => ?_; clear h1701
         refine dk0 4 (v := pt N225 0) h1702 rfl rfl hB1698 fun a1703 h1703 => ?_; clear h1702
         refine dk 5 (v := pt N225 (4 * 0 + py1621.1)) h1703 rfl rfl hB1698 (fun x hx => (rn_indexAtAny rfl rfl rfl (fun w => by rw [hy1y1621]; exact ixa_b4 N225 (4 * 0) py1621.1 (by omega) w))) fun a1704 h1704 => ?_; clear h1703
         refine dk0 7 (v := v1669) h1704 rfl rfl hB1698 fun a1705 h1705 => ?_; clear h1704
         refine dk0 9 (v := pt N225 0) h1705 rfl rfl hB1698 fun a1706 h1706 => ?_; clear h1705
         refine dr_many [6] (by kernel_rfl) (by simp) ⟨?_, trivial⟩
         ·
          have hO1709 := LstO.but hO1668 hx1672.but (ap_symm hap838)
          have hO1710 := LstO.gr hO1709 hg1694 (fun k e => by cases e)
          have hO1714 := LstO.but hO1666 hx1672.but (ap_symm hap837)
          have hO1715 := LstO.gr hO1714 hg1694 (fun k e => by cases e)
          have hO1717 := HubsO.gr hO1671 hg1694 (fun k e => by cases e)
          have hk1720 := hk1683.kept hg1694 (by simp)
          have hr1722 := row_kept_new hr1684 hg1694
          have hr1724 := own_butS hr1675 hx1672.but ho840
          have hr1725 := row_kept_new hr1724 hg1694
          have hr1727 := own_butS hr1676 hx1672.but ho841
          have hr1728 := row_kept_new hr1727 hg1694
          have hr1730 := own_butS hr1677 hx1672.but ho842
          have hr1731 := row_kept_new hr1730 hg1694
          have hr1733 := row_kept_new hq1673 hg1694
          obtain ⟨V1707, hQ1708⟩ := hO1710
          have hm1712 : ∀ k, (Value.ownBlock (V1707 (4 * 0 + py1621.1))) = some k → SQ0 k := fun k hk => (hQ1708.fp k).2 (.inr ⟨4 * 0 + py1621.1, by omega, hk⟩)
          have hr1711 := row_raise (hQ1708.row (4 * 0 + py1621.1) (by omega)) (fun k hk => hlo835 k (hm1712 k hk))
          have hof1713 := LstO.ofS hO1715
          have hof1716 := HubsO.ofS hO1717
          have hof1718 := LstQ.ofS hQ1708
          have hbl1719 := Blk.lt hk1720
          have hrl1721 := fun k hk => (World.ownsRow.lt hr1722 k hk).2
          have hrl1723 := fun k hk => (World.ownsRow.lt hr1725 k hk).2
          have hrl1726 := fun k hk => (World.ownsRow.lt hr1728 k hk).2
          have hrl1729 := fun k hk => (World.ownsRow.lt hr1731 k hk).2
          have hrl1732 := fun k hk => (World.ownsRow.lt hr1733 k hk).2
          have hnn1734 : w.heap.size ≤ w1693.heap.size := by omega
          have hbd1735 : (flatL (Gn (RDs LL r) (GTs LL r) 0 k) (4 * 0 + py1621.1)).length ≤ 8 := by rw [flatL_at hpny1621]; exact Gn_len hRS (by decide) hpny1621
          refine dr_opVal (i := 6) (v := (V1707 (4 * 0 + py1621.1))) h1706 rfl rfl rfl rfl (by kernel_rfl) rfl (rn_load1 rfl rfl Try.isAgg37 (hQ1708.cell (by omega))) hB1698 (fun a1736 h1736 => ?_); clear h1706
          refine d1 8 h1736 rfl rfl (op_appendRow rfl w.heap.size 9 (z := .string (⟨#[]⟩)) (size := 1) (bytes := 16) Try.underlying37 (by kernel_rfl) rfl rfl rfl hr1711 rfl hr1733 (fm_one strE_one) (by first | omega | (simp only [List.length_nil, List.length_append, List.length_cons, List.length_take, List.length_drop]; omega)) (by first | omega | (simp only [List.length_nil, List.length_append, List.length_cons, List.length_take, List.length_drop]; omega)) (by omega)) ?_ ?_; clear h1736
          ·
           rintro v1739 w1738 ⟨hr1740, hwt1742, hg1741⟩
           have hr1740' : w1738.ownsRow w.heap.size 9 1 v1739 (((flatL (Gn (RDs LL r) (GTs LL r) 0 k) (4 * 0 + py1621.1)) ++ ((inT ((Dn (RDs LL r) 0 k) py1621.1 0) py1621.2).1)).length) (((flatL (Gn (RDs LL r) (GTs LL r) 0 k) (4 * 0 + py1621.1)) ++ ((inT ((Dn (RDs LL r) 0 k) py1621.1 0) py1621.2).1)).flatMap strE) := row_app hr1740; clear hr1740
           have ho1744 := LstO.ofS hO1715
           have ho1743 := offR_went (fun k hk h => (ap_symm hap843) k (hm1712 k hk) h) ho1744 hwt1742
           have ho1746 := HubsO.ofS hO1717
           have ho1745 := offR_went (fun k hk h => (ap_symm (Grew.ap hx1672 (ap_symm (ap_symm hap838)) (LstO.ofS hO1668))) k (hm1712 k hk) h) ho1746 hwt1742
           have hz1747 := hg1741.size
           have hB1748 := hb_row hB1698 hr1711 (by omega) hg1741
           exact hB1748
          rintro v1739 w1738 a1737 ⟨hr1740, hwt1742, hg1741⟩ h1737
          have hr1740' : w1738.ownsRow w.heap.size 9 1 v1739 (((flatL (Gn (RDs LL r) (GTs LL r) 0 k) (4 * 0 + py1621.1)) ++ ((inT ((Dn (RDs LL r) 0 k) py1621.1 0) py1621.2).1)).length) (((flatL (Gn (RDs LL r) (GTs LL r) 0 k) (4 * 0 + py1621.1)) ++ ((inT ((Dn (RDs LL r) 0 k) py1621.1 0) py1621.2).1)).flatMap strE) := row_app hr1740; clear hr1740
          have ho1744 := LstO.ofS hO1715
          have ho1743 := offR_went (fun k hk h => (ap_symm hap843) k (hm1712 k hk) h) ho1744 hwt1742
          have ho1746 := HubsO.ofS hO1717
          have ho1745 := offR_went (fun k hk h => (ap_symm (Grew.ap hx1672 (ap_symm (ap_symm hap838)) (LstO.ofS hO1668))) k (hm1712 k hk) h) ho1746 hwt1742
          have hz1747 := hg1741.size
          have hB1748 := hb_row hB1698 hr1711 (by omega) hg1741
          refine dk 10 (v := pt N225 (4 * 0 + py1621.1)) h1737 rfl rfl hB1748 (fun x hx => (rn_indexAtAny rfl rfl rfl (fun w => by rw [hy1y1621]; exact ixa_b4 N225 (4 * 0) py1621.1 (by omega) w))) fun a1749 h1749 => ?_; clear h1737
          have hO1755 := LstQ.hole hQ1708 (by omega) hg1741
          refine d1D 11 h1749 rfl rfl (op_store1 (k := (4 * 0 + py1621.1)) rfl rfl rfl (row_one hr1740') Try.sizeOf37 (LstH.blk hO1755) (arr_blt (by omega))) ?_ ?_; clear h1749
          ·
           rintro _ w1751 ⟨hk1752, hz1753, hg1754⟩
           obtain ⟨S1756, hL1757, hsub1758⟩ := LstH.fill (u := v1739) (l := ((flatL (Gn (RDs LL r) (GTs LL r) 0 k) (4 * 0 + py1621.1)) ++ ((inT ((Dn (RDs LL r) 0 k) py1621.1 0) py1621.2).1))) hO1755 (by omega) hk1752 hg1754 (n0 := w1693.heap.size) (by omega) (row_lows hr1740' (Nat.zero_le _)) (went_le hwt1742 (by omega)) hof1718
           have hbm1759 : SQ0 N225 := LstH.mem hO1755
           have hz1760 := hg1754.size
           have hO1761 : LstO S1756 w1751 N225 (flatL (Gn (RDs LL r) (GTs LL r) 0 (k + 1))) := LstO.congr hL1757 (flatL_up hpny1621 (Gn_step hpy1621))
           have hlo1762 : ∀ q, S1756 q → w.heap.size ≤ q := lo_fill hsub1758 hlo835 hnn1734
           have hap1763 : ∀ q, S1756 q → SB q → False := ap_fill hsub1758 (ap_symm hap843) hof1713
           have hap1764 : ∀ q, S1756 q → S1670 q → False := ap_fill hsub1758 (ap_symm (Grew.ap hx1672 (ap_symm (ap_symm hap838)) (LstO.ofS hO1668))) hof1716
           have ho1765 : ¬ S1756 N567 := offb_fill hsub1758 ho854 hbl1719
           have ho1766 : ∀ k, (Value.ownBlock v593) = some k → ¬ S1756 k := offr_fill hsub1758 ho848 hrl1721
           have ho1767 : ∀ k, (Value.ownBlock v635) = some k → ¬ S1756 k := offr_fill hsub1758 ho849 hrl1723
           have ho1768 : ∀ k, (Value.ownBlock v680) = some k → ¬ S1756 k := offr_fill hsub1758 ho850 hrl1726
           have ho1769 : ∀ k, (Value.ownBlock v727) = some k → ¬ S1756 k := offr_fill hsub1758 ho851 hrl1729
           have ho1770 : ∀ k, (Value.ownBlock v1669) = some k → ¬ S1756 k := offr_fill hsub1758 (offR_row ho1667 hq1673 (Nat.le_refl _)) hrl1732
           have hB1771 := hb_at hB1748 hg1754 (by omega)
           exact hB1771
          rintro _ w1751 a1750 ⟨hk1752, hz1753, hg1754⟩ h1750
          obtain ⟨S1756, hL1757, hsub1758⟩ := LstH.fill (u := v1739) (l := ((flatL (Gn (RDs LL r) (GTs LL r) 0 k) (4 * 0 + py1621.1)) ++ ((inT ((Dn (RDs LL r) 0 k) py1621.1 0) py1621.2).1))) hO1755 (by omega) hk1752 hg1754 (n0 := w1693.heap.size) (by omega) (row_lows hr1740' (Nat.zero_le _)) (went_le hwt1742 (by omega)) hof1718
          have hbm1759 : SQ0 N225 := LstH.mem hO1755
          have hz1760 := hg1754.size
          have hO1761 : LstO S1756 w1751 N225 (flatL (Gn (RDs LL r) (GTs LL r) 0 (k + 1))) := LstO.congr hL1757 (flatL_up hpny1621 (Gn_step hpy1621))
          have hlo1762 : ∀ q, S1756 q → w.heap.size ≤ q := lo_fill hsub1758 hlo835 hnn1734
          have hap1763 : ∀ q, S1756 q → SB q → False := ap_fill hsub1758 (ap_symm hap843) hof1713
          have hap1764 : ∀ q, S1756 q → S1670 q → False := ap_fill hsub1758 (ap_symm (Grew.ap hx1672 (ap_symm (ap_symm hap838)) (LstO.ofS hO1668))) hof1716
          have ho1765 : ¬ S1756 N567 := offb_fill hsub1758 ho854 hbl1719
          have ho1766 : ∀ k, (Value.ownBlock v593) = some k → ¬ S1756 k := offr_fill hsub1758 ho848 hrl1721
          have ho1767 : ∀ k, (Value.ownBlock v635) = some k → ¬ S1756 k := offr_fill hsub1758 ho849 hrl1723
          have ho1768 : ∀ k, (Value.ownBlock v680) = some k → ¬ S1756 k := offr_fill hsub1758 ho850 hrl1726
          have ho1769 : ∀ k, (Value.ownBlock v727) = some k → ¬ S1756 k := offr_fill hsub1758 ho851 hrl1729
          have ho1770 : ∀ k, (Value.ownBlock v1669) = some k → ¬ S1756 k := offr_fill hsub1758 (offR_row ho1667 hq1673 (Nat.le_refl _)) hrl1732
          refine dr_done (by kernel_rfl) ?_
          refine co_blockN ?_
          refine co_then ?_
          refine co_reg ?_
          refine pk0 (v := .int .i64 ((k : Nat) : Int)) h1750 rfl fun a1771 h1771 => ?_; clear h1750
          refine pk (v := .int .i64 ((k + 1 : Nat) : Int)) h1771 rfl (rn_arith' rfl rfl rfl rfl rfl rfl (IntWalk.i64_in _ (by omega)) (by omega)) fun a1772 h1772 => ?_; clear h1771
          refine pk0 (v := .int .i64 ((k + 1 : Nat) : Int)) h1772 rfl fun a1773 h1773 => ?_; clear h1772
          refine pl_nil ?_
          refine co_then ?_
          refine ⟨(60 - (k + 1)), by omega, ?_⟩
          have hO1774 := HubsO.gr hO1717 hg1741 (fun k e => (fun k hk h => (ap_symm (Grew.ap hx1672 (ap_symm (ap_symm hap838)) (LstO.ofS hO1668))) k (hm1712 k hk) h) k e)
          have hO1775 := HubsO.gr hO1774 hg1754 (fun k e => by cases e; exact (fun h => (ap_symm (Grew.ap hx1672 (ap_symm (ap_symm hap838)) (LstO.ofS hO1668))) _ hbm1759 h))
          have hO1776 := LstO.gr hO1715 hg1741 (fun k e => (fun k hk h => (ap_symm hap843) k (hm1712 k hk) h) k e)
          have hO1777 := LstO.gr hO1776 hg1754 (fun k e => by cases e; exact (fun h => (ap_symm hap843) _ hbm1759 h))
          have hk1778 := hk1720.kept hg1741 (own_neT hr1711 hk1720 (by decide))
          have hk1779 := hk1778.kept hg1754 (by simp; omega)
          have hr1780 := row_kept_row hr1722 hr1711 hg1741 (by decide)
          have hr1781 := row_kept_at hr1780 hg1754 (row_ne_lt hr1780 (by omega))
          have hr1782 := row_kept_row hr1725 hr1711 hg1741 (by decide)
          have hr1783 := row_kept_at hr1782 hg1754 (row_ne_lt hr1782 (by omega))
          have hr1784 := row_kept_row hr1728 hr1711 hg1741 (by decide)
          have hr1785 := row_kept_at hr1784 hg1754 (row_ne_lt hr1784 (by omega))
          have hr1786 := row_kept_row hr1731 hr1711 hg1741 (by decide)
          have hr1787 := row_kept_at hr1786 hg1754 (row_ne_lt hr1786 (by omega))
          have hB1788 := hb_at hB1748 hg1754 (by omega)
          exact ⟨k + 1, S1670, S1756, h1773.sub ⟨rfl, rfl, rfl, rfl, rfl, rfl, rfl, rfl, trivial⟩, rfl, by omega, by exact hlo1679, by exact hlo833, by exact hlo1762, by exact (ap_symm (ap_symm (Grew.ap hx1672 (ap_symm (ap_symm hap837)) (LstO.ofS hO1666)))), by exact (ap_symm hap1764), by exact (ap_symm hap1763), by exact (Grew.offR hx1672 hr1649 ho839), by exact ho844, by exact ho1766, by exact (Grew.offR hx1672 hr1675 ho840), by exact ho845, by exact ho1767, by exact (Grew.offR hx1672 hr1676 ho841), by exact ho846, by exact ho1768, by exact (Grew.offR hx1672 hr1677 ho842), by exact ho847, by exact ho1769, by exact (Grew.off hx1672 ho852 hk1648.lt), by exact ho853, by exact ho1765, hO1775, hO1777, hO1761, hk1779, hr1781, hr1783, hr1785, hr1787, hB1788⟩
 rintro a1789 w1790 ⟨R8, G8, SE8, SB8, SF8, h1789, hi1791, hi1792, hi1793, hi1794, hi1795, hi1796, hi1797, hf1798, hf1799, hf1800, hB1801⟩
 have hz1802 := hB1801.size
 have hge1803 : w.heap.size ≤ N4 := by omega
 have hge1804 : w.heap.size ≤ N216 := by omega
 have hge1805 : w.heap.size ≤ N225 := by omega
 have hne1806 : N4 < N216 := by omega
 have hne1807 : N216 < N225 := by omega
 first | clear hz1802 hlt524 hlt522 hlt520 hz518 hz512 hz230 hN228 hz229 hz221 hN219 hz220 | (try clear hz1802; try clear hlt524; try clear hlt522; try clear hlt520; try clear hz518; try clear hz512; try clear hz230; try clear hN228; try clear hz229; try clear hz221; try clear hN219; try clear hz220)
 first | clear hlt213 hz212 hz9 hN7 hz8 | (try clear hlt213; try clear hz212; try clear hz9; try clear hN7; try clear hz8)
 have hz1808 := hB1801.size
 have hlo1809 : ∀ q, SE8 q → w.heap.size ≤ q := by assumption
 have hlt1810 := HubsO.lt hf1798
 have hlo1811 : ∀ q, SB8 q → w.heap.size ≤ q := by assumption
 have hlt1812 := LstO.lt hf1799
 have hlo1813 : ∀ q, SF8 q → w.heap.size ≤ q := by assumption
 have hlt1814 := LstO.lt hf1800
 have hap1815 : ∀ q, SE8 q → SB8 q → False := by assumption
 have hap1816 : ∀ q, SE8 q → SF8 q → False := by assumption
 have hap1817 : ∀ q, SB8 q → SF8 q → False := by assumption
 have hF8 : ∀ i k, i < 4 → k < 4 → G8 i k = sn i k ∧ (i ≠ k → (R8 i k).q = []) := by assumption
 refine co_seq ?_
 refine co_seq ?_
 refine co_reg ?_
 refine pk0 (v := .int .i64 0) h1789 rfl fun a1818 h1818 => ?_; clear h1789
 refine pl_nil ?_
 refine co_then ?_
 refine wp_block ?_
 have h1819 : Slots 195 [(3, pt N4 0), (7, pt N216 0), (8, pt N225 0), (19, .int .i64 0)] _ := h1818.sub ⟨rfl, rfl, rfl, rfl, trivial⟩; clear h1818
 refine co_loop (fun mm a x => ∃ (i6 : Nat), Slots 195 [(3, pt N4 0), (7, pt N216 0), (8, pt N225 0), (19, .int .i64 ((i6 : Nat) : Int))] a ∧ mm = 4 - i6 ∧ (i6 ≤ 4) ∧ (∀ q, SE8 q → w.heap.size ≤ q) ∧ (∀ q, SB8 q → w.heap.size ≤ q) ∧ (∀ q, SF8 q → w.heap.size ≤ q) ∧ (∀ q, SE8 q → SB8 q → False) ∧ (∀ q, SE8 q → SF8 q → False) ∧ (∀ q, SB8 q → SF8 q → False) ∧ HubsO SE8 x N4 q R8 ∧ LstO SB8 x N216 (flatL sn) ∧ LstO SF8 x N225 (flatL G8) ∧ Below w.heap.size w x) (4 - 0) ?_ ?_
 · exact ⟨0, h1819.sub ⟨rfl, rfl, rfl, (slot_eq rfl (congrArg (Value.int .i64) (by first | rfl | omega))), trivial⟩, rfl, by omega, by exact hlo1809, by exact hlo1811, by exact hlo1813, by exact hap1815, by exact hap1816, by exact hap1817, hf1798, hf1799, hf1800, hB1801⟩
 · rintro k1820 a1821 w1822 ⟨i6, h1821, rfl, hi1823, hi1824, hi1825, hi1826, hi1827, hi1828, hi1829, hf1830, hf1831, hf1832, hB1833⟩
   have hz1834 := hB1833.size
   have hlo1835 : ∀ q, SE8 q → w.heap.size ≤ q := by assumption
   have hlt1836 := HubsO.lt hf1830
   have hlo1837 : ∀ q, SB8 q → w.heap.size ≤ q := by assumption
   have hlt1838 := LstO.lt hf1831
   have hlo1839 : ∀ q, SF8 q → w.heap.size ≤ q := by assumption
   have hlt1840 := LstO.lt hf1832
   have hap1841 : ∀ q, SE8 q → SB8 q → False := by assumption
   have hap1842 : ∀ q, SE8 q → SF8 q → False := by assumption
   have hap1843 : ∀ q, SB8 q → SF8 q → False := by assumption
   refine co_seq ?_
   refine co_seq ?_
   refine co_reg ?_
   refine pk0 (v := .int .i64 ((i6 : Nat) : Int)) h1821 rfl fun a1844 h1844 => ?_; clear h1821
   refine pk0 (v := .bool (decide (((i6 : Nat) : Int) < 4))) h1844 rfl fun a1845 h1845 => ?_; clear h1844
   refine pl_nil ?_
   refine co_then ?_
   cases hc1846 : (decide (((i6 : Nat) : Int) < 4))
   ·
    rw [hc1846] at h1845
    have hp1847 : ¬ (((i6 : Nat) : Int) < 4) := of_decide_eq_false hc1846
    clear hc1846
    refine co_false h1845 rfl ?_
    refine wp_exit ?_
    refine co_thenX ?_
    refine co_thenX ?_
    refine co_blockX ?_
    refine co_then ?_
    refine co_seq ?_
    refine co_reg ?_
    refine pw h1845 rfl (op_call (args := #[]) (R := fun res xw => res = .bool true ∧ Below w1822.heap.size w1822 xw) rfl rfl rfl (by kernel_rfl) (by kernel_rfl) (Try.call18 _ _) (awake23 w1822) (by rintro e x ⟨rfl, h⟩; exact ⟨_, rfl, rfl, h⟩)) ?_; clear h1845
    rintro _ w1849 a1848 ⟨rfl, hb1850⟩ h1848
    have hz1851 := hb1850.size
    have ho1852 := HubsO.ofS hf1830
    have ho1853 := LstO.ofS hf1831
    have ho1854 := LstO.ofS hf1832
    refine pk0 (v := .bool true) h1848 rfl fun a1855 h1855 => ?_; clear h1848
    refine pl_nil ?_
    refine co_then ?_
    refine wp_ret ?_
    refine co_ret1 h1855 rfl rfl ?_
    have hB1856 := hb_call hB1833 hb1850
    exact ⟨rfl, hB1856⟩
   ·
    rw [hc1846] at h1845
    have hp1857 : ((i6 : Nat) : Int) < 4 := of_decide_eq_true hc1846
    clear hc1846
    refine co_true h1845 rfl ?_
    refine wp_skip ?_
    refine co_then ?_
    refine co_seq ?_
    refine wp_block ?_
    refine co_seq ?_
    refine co_reg ?_
    refine pk0 (v := .int .i64 0) h1845 rfl fun a1858 h1858 => ?_; clear h1845
    refine pl_nil ?_
    refine co_then ?_
    refine wp_block ?_
    have h1859 : Slots 195 [(3, pt N4 0), (7, pt N216 0), (8, pt N225 0), (19, .int .i64 ((i6 : Nat) : Int)), (20, .int .i64 0)] _ := h1858.sub ⟨rfl, rfl, rfl, rfl, rfl, trivial⟩; clear h1858
    refine co_loop (fun mm a x => ∃ (i7 : Nat), Slots 195 [(3, pt N4 0), (7, pt N216 0), (8, pt N225 0), (19, .int .i64 ((i6 : Nat) : Int)), (20, .int .i64 ((i7 : Nat) : Int))] a ∧ mm = 4 - i7 ∧ (i7 ≤ 4) ∧ (∀ q, SE8 q → w.heap.size ≤ q) ∧ (∀ q, SB8 q → w.heap.size ≤ q) ∧ (∀ q, SF8 q → w.heap.size ≤ q) ∧ (∀ q, SE8 q → SB8 q → False) ∧ (∀ q, SE8 q → SF8 q → False) ∧ (∀ q, SB8 q → SF8 q → False) ∧ HubsO SE8 x N4 q R8 ∧ LstO SB8 x N216 (flatL sn) ∧ LstO SF8 x N225 (flatL G8) ∧ Below w.heap.size w x) (4 - 0) ?_ ?_
    · exact ⟨0, h1859.sub ⟨rfl, rfl, rfl, rfl, (slot_eq rfl (congrArg (Value.int .i64) (by first | rfl | omega))), trivial⟩, rfl, by omega, by exact hlo1835, by exact hlo1837, by exact hlo1839, by exact hap1841, by exact hap1842, by exact hap1843, hf1830, hf1831, hf1832, hB1833⟩
    · rintro k1860 a1861 w1862 ⟨i7, h1861, rfl, hi1863, hi1864, hi1865, hi1866, hi1867, hi1868, hi1869, hf1870, hf1871, hf1872, hB1873⟩
      have hz1874 := hB1873.size
      have hlo1875 : ∀ q, SE8 q → w.heap.size ≤ q := by assumption
      have hlt1876 := HubsO.lt hf1870
      have hlo1877 : ∀ q, SB8 q → w.heap.size ≤ q := by assumption
      have hlt1878 := LstO.lt hf1871
      have hlo1879 : ∀ q, SF8 q → w.heap.size ≤ q := by assumption
      have hlt1880 := LstO.lt hf1872
      have hap1881 : ∀ q, SE8 q → SB8 q → False := by assumption
      have hap1882 : ∀ q, SE8 q → SF8 q → False := by assumption
      have hap1883 : ∀ q, SB8 q → SF8 q → False := by assumption
      refine co_seq ?_
      refine co_seq ?_
      refine co_reg ?_
      refine pk0 (v := .int .i64 ((i7 : Nat) : Int)) h1861 rfl fun a1884 h1884 => ?_; clear h1861
      refine pk0 (v := .bool (decide (((i7 : Nat) : Int) < 4))) h1884 rfl fun a1885 h1885 => ?_; clear h1884
      refine pl_nil ?_
      refine co_then ?_
      cases hc1886 : (decide (((i7 : Nat) : Int) < 4))
      ·
       rw [hc1886] at h1885
       have hp1887 : ¬ (((i7 : Nat) : Int) < 4) := of_decide_eq_false hc1886
       clear hc1886
       refine co_false h1885 rfl ?_
       refine wp_exit ?_
       refine co_thenX ?_
       refine co_thenX ?_
       refine co_blockX ?_
       refine co_blockN ?_
       refine co_then ?_
       refine co_reg ?_
       refine pk0 (v := .int .i64 ((i6 : Nat) : Int)) h1885 rfl fun a1888 h1888 => ?_; clear h1885
       refine pk (v := .int .i64 ((i6 + 1 : Nat) : Int)) h1888 rfl (rn_arith' rfl rfl rfl rfl rfl rfl (IntWalk.i64_in _ (by omega)) (by omega)) fun a1889 h1889 => ?_; clear h1888
       refine pk0 (v := .int .i64 ((i6 + 1 : Nat) : Int)) h1889 rfl fun a1890 h1890 => ?_; clear h1889
       refine pl_nil ?_
       refine co_then ?_
       refine ⟨(4 - (i6 + 1)), by omega, ?_⟩
       exact ⟨i6 + 1, h1890.sub ⟨rfl, rfl, rfl, rfl, trivial⟩, rfl, by omega, by exact hlo1875, by exact hlo1877, by exact hlo1879, by exact hap1881, by exact hap1882, by exact hap1883, hf1870, hf1871, hf1872, hB1873⟩
      ·
       rw [hc1886] at h1885
       have hp1891 : ((i7 : Nat) : Int) < 4 := of_decide_eq_true hc1886
       clear hc1886
       refine co_true h1885 rfl ?_
       refine wp_skip ?_
       refine co_then ?_
       refine co_seq ?_
       refine wp_block ?_
       refine co_seq ?_
       refine dr_gen (fun x => Below w.heap.size w x) (by kernel_rfl) (fun w1892 hg1893 => ?_) (fun w1892 hg1893 => ?_)
       ·
        have hz1894 := hg1893.size
        have hB1895 := hb_new hB1873 hg1893
        exact hB1895
       have hz1896 := hg1893.size
       have hB1897 := hb_new hB1873 hg1893
       refine dk0 0 (v := .int .i64 ((i6 : Nat) : Int)) h1885 rfl rfl hB1897 fun a1898 h1898 => ?_; clear h1885
       refine dk0 1 (v := .int .i64 ((i7 : Nat) : Int)) h1898 rfl rfl hB1897 fun a1899 h1899 => ?_; clear h1898
       refine dk 2 (v := pt N216 (4 * i6)) h1899 rfl rfl hB1897 (fun x hx => (rn_indexAtAny rfl rfl rfl (ixa_a4 N216 i6 (by omega)))) fun a1900 h1900 => ?_; clear h1899
       refine dk 3 (v := pt N216 (4 * i6 + i7)) h1900 rfl rfl hB1897 (fun x hx => (rn_indexAtAny rfl rfl rfl (ixa_b4 N216 (4 * i6) i7 (by omega)))) fun a1901 h1901 => ?_; clear h1900
       refine dk0 5 (v := .int .i64 ((i6 : Nat) : Int)) h1901 rfl rfl hB1897 fun a1902 h1902 => ?_; clear h1901
       refine dk0 6 (v := .int .i64 ((i7 : Nat) : Int)) h1902 rfl rfl hB1897 fun a1903 h1903 => ?_; clear h1902
       refine dk 7 (v := pt N225 (4 * i6)) h1903 rfl rfl hB1897 (fun x hx => (rn_indexAtAny rfl rfl rfl (ixa_a4 N225 i6 (by omega)))) fun a1904 h1904 => ?_; clear h1903
       refine dk 8 (v := pt N225 (4 * i6 + i7)) h1904 rfl rfl hB1897 (fun x hx => (rn_indexAtAny rfl rfl rfl (ixa_b4 N225 (4 * i6) i7 (by omega)))) fun a1905 h1905 => ?_; clear h1904
       refine dr_many [4, 9] (by kernel_rfl) (by simp) ⟨?_, ?_, trivial⟩
       ·
        have hO1908 := LstO.gr hf1871 hg1893 (fun k e => by cases e)
        have hO1912 := HubsO.gr hf1870 hg1893 (fun k e => by cases e)
        have hO1914 := LstO.gr hf1872 hg1893 (fun k e => by cases e)
        obtain ⟨V1906, hQ1907⟩ := hO1908
        have hm1910 : ∀ k, (Value.ownBlock (V1906 (4 * i6 + i7))) = some k → SB8 k := fun k hk => (hQ1907.fp k).2 (.inr ⟨4 * i6 + i7, by omega, hk⟩)
        have hr1909 := row_raise (hQ1907.row (4 * i6 + i7) (by omega)) (fun k hk => hlo1877 k (hm1910 k hk))
        have hof1911 := HubsO.ofS hO1912
        have hof1913 := LstO.ofS hO1914
        have hof1915 := LstQ.ofS hQ1907
        have hnn1916 : w.heap.size ≤ w1892.heap.size := by omega
        refine dr_opVal (i := 4) (v := (V1906 (4 * i6 + i7))) h1905 rfl rfl rfl rfl (by kernel_rfl) rfl (rn_load1 rfl rfl Try.isAgg37 (hQ1907.cell (by omega))) hB1897 (fun a1917 h1917 => ?_); clear h1905
        refine dr_many [9] (by kernel_rfl) (by simp) ⟨?_, trivial⟩
        ·
         obtain ⟨V1918, hQ1919⟩ := hO1914
         have hm1921 : ∀ k, (Value.ownBlock (V1918 (4 * i6 + i7))) = some k → SF8 k := fun k hk => (hQ1919.fp k).2 (.inr ⟨4 * i6 + i7, by omega, hk⟩)
         have hr1920 := row_raise (hQ1919.row (4 * i6 + i7) (by omega)) (fun k hk => hlo1879 k (hm1921 k hk))
         have hof1922 := HubsO.ofS hO1912
         have hof1923 := LstQ.ofS hQ1907
         have hof1924 := LstQ.ofS hQ1919
         have hrl1925 := fun k hk => (World.ownsRow.lt hr1909 k hk).2
         have hnn1926 : w.heap.size ≤ w1892.heap.size := by omega
         refine dr_opVal (i := 9) (v := (V1918 (4 * i6 + i7))) h1917 rfl rfl rfl rfl (by kernel_rfl) rfl (rn_load1 rfl rfl Try.isAgg37 (hQ1919.cell (by omega))) hB1897 (fun a1927 h1927 => ?_); clear h1917
         have hee1931 : (flatL G8 (4 * i6 + i7)) = (flatL sn (4 * i6 + i7)) := by rw [flatL_at (by omega), flatL_at (by omega)]; exact (hF8 _ _ (by omega) (by omega)).1
         refine d1 10 h1927 rfl rfl (op_call (args := #[(V1906 (4 * i6 + i7)), (V1918 (4 * i6 + i7))]) (R := fun res xw => res = .bool true ∧ Below w1892.heap.size w1892 xw) rfl rfl rfl (by kernel_rfl) (by kernel_rfl) (Try.call15 _ _) (same_anyL ((V1906 (4 * i6 + i7))) ((V1918 (4 * i6 + i7))) (flatL sn (4 * i6 + i7)) w1892 (row_sl hr1909 strE_len) (hee1931 ▸ row_sl hr1920 strE_len)) (by rintro e x ⟨rfl, h⟩; exact ⟨_, rfl, rfl, h⟩)) ?_ ?_; clear h1927
         ·
          rintro _ w1929 ⟨rfl, hb1930⟩
          have hz1932 := hb1930.size
          have ho1933 := HubsO.ofS hO1912
          have ho1934 := LstQ.ofS hQ1907
          have ho1935 := LstQ.ofS hQ1919
          have hB1936 := hb_call hB1897 hb1930
          exact hB1936
         rintro _ w1929 a1928 ⟨rfl, hb1930⟩ h1928
         have hz1932 := hb1930.size
         have ho1933 := HubsO.ofS hO1912
         have ho1934 := LstQ.ofS hQ1907
         have ho1935 := LstQ.ofS hQ1919
         have hB1936 := hb_call hB1897 hb1930
         refine dk0 11 (v := .bool false) h1928 rfl rfl hB1936 fun a1937 h1937 => ?_; clear h1928
         refine dk0 12 (v := .bool false) h1937 rfl rfl hB1936 fun a1938 h1938 => ?_; clear h1937
         refine dk0 13 (v := .int .i64 ((i6 : Nat) : Int)) h1938 rfl rfl hB1936 fun a1939 h1939 => ?_; clear h1938
         refine dk 14 (v := pt N4 i6) h1939 rfl rfl hB1936 (fun x hx => (rn_indexAtAny rfl rfl rfl (ixa_h4 N4 i6 (by omega)))) fun a1940 h1940 => ?_; clear h1939
         refine dk0 16 (v := .int .i64 ((i7 : Nat) : Int)) h1940 rfl rfl hB1936 fun a1941 h1941 => ?_; clear h1940
         refine dr_many [15] (by kernel_rfl) (by simp) ⟨?_, trivial⟩
         ·
          have hO1942 := HubsO.gr hO1912 (below_grown hb1930) (fun k e => by cases e)
          refine dr_opVal (i := 15) (v := pt (q i6) 0) h1941 rfl rfl rfl rfl (by kernel_rfl) rfl (rn_load1 rfl rfl Try.isAgg23 (HubsO.cell hO1942 (by omega))) hB1936 (fun a1943 h1943 => ?_); clear h1941
          refine d1 17 h1943 rfl rfl (op_call (args := #[pt (q i6) 0, .int .i64 ((i7 : Nat) : Int)]) (R := fun res xw => res = .int .i64 0 ∧ Below w1929.heap.size w1929 xw) rfl rfl rfl (by kernel_rfl) (by kernel_rfl) (Try.call16 _ _) (hubsWait w1929 (by omega) (by omega) hO1942 (hF8 _ _ (by omega) (by omega)).2) (by rintro e x ⟨rfl, h⟩; exact ⟨_, rfl, rfl, h⟩)) ?_ ?_; clear h1943
          ·
           rintro _ w1945 ⟨rfl, hb1946⟩
           have hz1947 := hb1946.size
           have ho1948 := HubsO.ofS hO1942
           have hO1950 := LstQ.gr hQ1907 (below_grown hb1930) (fun k e => by cases e)
           have ho1949 := LstQ.ofS hO1950
           have hO1952 := LstQ.gr hQ1919 (below_grown hb1930) (fun k e => by cases e)
           have ho1951 := LstQ.ofS hO1952
           have hB1953 := hb_call hB1936 hb1946
           exact hB1953
          rintro _ w1945 a1944 ⟨rfl, hb1946⟩ h1944
          have hz1947 := hb1946.size
          have ho1948 := HubsO.ofS hO1942
          have hO1950 := LstQ.gr hQ1907 (below_grown hb1930) (fun k e => by cases e)
          have ho1949 := LstQ.ofS hO1950
          have hO1952 := LstQ.gr hQ1919 (below_grown hb1930) (fun k e => by cases e)
          have ho1951 := LstQ.ofS hO1952
          have hB1953 := hb_call hB1936 hb1946
          refine dk0 18 (v := .bool ((0 : Int) != 0)) h1944 rfl rfl hB1953 fun a1954 h1954 => ?_; clear h1944
          refine dk0 19 (v := .bool ((0 : Int) != 0)) h1954 rfl rfl hB1953 fun a1955 h1955 => ?_; clear h1954
          refine dr_done (by kernel_rfl) ?_
          refine co_then ?_
          have hc1956 : ((0 : Int) != 0) = false := by first | (simp; done) | (simp; omega) | exact beq_false_of_ne (by omega) | exact beq_iff_eq.2 (by omega)
          rw [hc1956] at h1955; clear hc1956
          refine co_false h1955 rfl ?_
          refine wp_skip ?_
          refine co_blockN ?_
          refine co_then ?_
          refine co_reg ?_
          refine pk0 (v := .int .i64 ((i7 : Nat) : Int)) h1955 rfl fun a1957 h1957 => ?_; clear h1955
          refine pk (v := .int .i64 ((i7 + 1 : Nat) : Int)) h1957 rfl (rn_arith' rfl rfl rfl rfl rfl rfl (IntWalk.i64_in _ (by omega)) (by omega)) fun a1958 h1958 => ?_; clear h1957
          refine pk0 (v := .int .i64 ((i7 + 1 : Nat) : Int)) h1958 rfl fun a1959 h1959 => ?_; clear h1958
          refine pl_nil ?_
          refine co_then ?_
          refine ⟨(4 - (i7 + 1)), by omega, ?_⟩
          have hO1960 := HubsO.gr hO1942 (below_grown hb1946) (fun k e => by cases e)
          have hO1961 := LstQ.gr hO1950 (below_grown hb1946) (fun k e => by cases e)
          have hO1962 := LstQ.gr hO1952 (below_grown hb1946) (fun k e => by cases e)
          exact ⟨i7 + 1, h1959.sub ⟨rfl, rfl, rfl, rfl, rfl, trivial⟩, rfl, by omega, by exact hlo1875, by exact hlo1877, by exact hlo1879, by exact hap1881, by exact hap1882, by exact hap1883, hO1960, ⟨_, hO1961⟩, ⟨_, hO1962⟩, hB1953⟩
       ·
        have hO1965 := LstO.gr hf1872 hg1893 (fun k e => by cases e)
        have hO1969 := HubsO.gr hf1870 hg1893 (fun k e => by cases e)
        have hO1971 := LstO.gr hf1871 hg1893 (fun k e => by cases e)
        obtain ⟨V1963, hQ1964⟩ := hO1965
        have hm1967 : ∀ k, (Value.ownBlock (V1963 (4 * i6 + i7))) = some k → SF8 k := fun k hk => (hQ1964.fp k).2 (.inr ⟨4 * i6 + i7, by omega, hk⟩)
        have hr1966 := row_raise (hQ1964.row (4 * i6 + i7) (by omega)) (fun k hk => hlo1879 k (hm1967 k hk))
        have hof1968 := HubsO.ofS hO1969
        have hof1970 := LstO.ofS hO1971
        have hof1972 := LstQ.ofS hQ1964
        have hnn1973 : w.heap.size ≤ w1892.heap.size := by omega
        refine dr_opVal (i := 9) (v := (V1963 (4 * i6 + i7))) h1905 rfl rfl rfl rfl (by kernel_rfl) rfl (rn_load1 rfl rfl Try.isAgg37 (hQ1964.cell (by omega))) hB1897 (fun a1974 h1974 => ?_); clear h1905
        refine dr_many [4] (by kernel_rfl) (by simp) ⟨?_, trivial⟩
        ·
         obtain ⟨V1975, hQ1976⟩ := hO1971
         have hm1978 : ∀ k, (Value.ownBlock (V1975 (4 * i6 + i7))) = some k → SB8 k := fun k hk => (hQ1976.fp k).2 (.inr ⟨4 * i6 + i7, by omega, hk⟩)
         have hr1977 := row_raise (hQ1976.row (4 * i6 + i7) (by omega)) (fun k hk => hlo1877 k (hm1978 k hk))
         have hof1979 := HubsO.ofS hO1969
         have hof1980 := LstQ.ofS hQ1964
         have hof1981 := LstQ.ofS hQ1976
         have hrl1982 := fun k hk => (World.ownsRow.lt hr1966 k hk).2
         have hnn1983 : w.heap.size ≤ w1892.heap.size := by omega
         refine dr_opVal (i := 4) (v := (V1975 (4 * i6 + i7))) h1974 rfl rfl rfl rfl (by kernel_rfl) rfl (rn_load1 rfl rfl Try.isAgg37 (hQ1976.cell (by omega))) hB1897 (fun a1984 h1984 => ?_); clear h1974
         have hee1988 : (flatL G8 (4 * i6 + i7)) = (flatL sn (4 * i6 + i7)) := by rw [flatL_at (by omega), flatL_at (by omega)]; exact (hF8 _ _ (by omega) (by omega)).1
         refine d1 10 h1984 rfl rfl (op_call (args := #[(V1975 (4 * i6 + i7)), (V1963 (4 * i6 + i7))]) (R := fun res xw => res = .bool true ∧ Below w1892.heap.size w1892 xw) rfl rfl rfl (by kernel_rfl) (by kernel_rfl) (Try.call15 _ _) (same_anyL ((V1975 (4 * i6 + i7))) ((V1963 (4 * i6 + i7))) (flatL sn (4 * i6 + i7)) w1892 (row_sl hr1977 strE_len) (hee1988 ▸ row_sl hr1966 strE_len)) (by rintro e x ⟨rfl, h⟩; exact ⟨_, rfl, rfl, h⟩)) ?_ ?_; clear h1984
         ·
          rintro _ w1986 ⟨rfl, hb1987⟩
          have hz1989 := hb1987.size
          have ho1990 := HubsO.ofS hO1969
          have ho1991 := LstQ.ofS hQ1964
          have ho1992 := LstQ.ofS hQ1976
          have hB1993 := hb_call hB1897 hb1987
          exact hB1993
         rintro _ w1986 a1985 ⟨rfl, hb1987⟩ h1985
         have hz1989 := hb1987.size
         have ho1990 := HubsO.ofS hO1969
         have ho1991 := LstQ.ofS hQ1964
         have ho1992 := LstQ.ofS hQ1976
         have hB1993 := hb_call hB1897 hb1987
         refine dk0 11 (v := .bool false) h1985 rfl rfl hB1993 fun a1994 h1994 => ?_; clear h1985
         refine dk0 12 (v := .bool false) h1994 rfl rfl hB1993 fun a1995 h1995 => ?_; clear h1994
         refine dk0 13 (v := .int .i64 ((i6 : Nat) : Int)) h1995 rfl rfl hB1993 fun a1996 h1996 => ?_; clear h1995
         refine dk 14 (v := pt N4 i6) h1996 rfl rfl hB1993 (fun x hx => (rn_indexAtAny rfl rfl rfl (ixa_h4 N4 i6 (by omega)))) fun a1997 h1997 => ?_; clear h1996
         refine dk0 16 (v := .int .i64 ((i7 : Nat) : Int)) h1997 rfl rfl hB1993 fun a1998 h1998 => ?_; clear h1997
         refine dr_many [15] (by kernel_rfl) (by simp) ⟨?_, trivial⟩
         ·
          have hO1999 := HubsO.gr hO1969 (below_grown hb1987) (fun k e => by cases e)
          refine dr_opVal (i := 15) (v := pt (q i6) 0) h1998 rfl rfl rfl rfl (by kernel_rfl) rfl (rn_load1 rfl rfl Try.isAgg23 (HubsO.cell hO1999 (by omega))) hB1993 (fun a2000 h2000 => ?_); clear h1998
          refine d1 17 h2000 rfl rfl (op_call (args := #[pt (q i6) 0, .int .i64 ((i7 : Nat) : Int)]) (R := fun res xw => res = .int .i64 0 ∧ Below w1986.heap.size w1986 xw) rfl rfl rfl (by kernel_rfl) (by kernel_rfl) (Try.call16 _ _) (hubsWait w1986 (by omega) (by omega) hO1999 (hF8 _ _ (by omega) (by omega)).2) (by rintro e x ⟨rfl, h⟩; exact ⟨_, rfl, rfl, h⟩)) ?_ ?_; clear h2000
          ·
           rintro _ w2002 ⟨rfl, hb2003⟩
           have hz2004 := hb2003.size
           have ho2005 := HubsO.ofS hO1999
           have hO2007 := LstQ.gr hQ1964 (below_grown hb1987) (fun k e => by cases e)
           have ho2006 := LstQ.ofS hO2007
           have hO2009 := LstQ.gr hQ1976 (below_grown hb1987) (fun k e => by cases e)
           have ho2008 := LstQ.ofS hO2009
           have hB2010 := hb_call hB1993 hb2003
           exact hB2010
          rintro _ w2002 a2001 ⟨rfl, hb2003⟩ h2001
          have hz2004 := hb2003.size
          have ho2005 := HubsO.ofS hO1999
          have hO2007 := LstQ.gr hQ1964 (below_grown hb1987) (fun k e => by cases e)
          have ho2006 := LstQ.ofS hO2007
          have hO2009 := LstQ.gr hQ1976 (below_grown hb1987) (fun k e => by cases e)
          have ho2008 := LstQ.ofS hO2009
          have hB2010 := hb_call hB1993 hb2003
          refine dk0 18 (v := .bool ((0 : Int) != 0)) h2001 rfl rfl hB2010 fun a2011 h2011 => ?_; clear h2001
          refine dk0 19 (v := .bool ((0 : Int) != 0)) h2011 rfl rfl hB2010 fun a2012 h2012 => ?_; clear h2011
          refine dr_done (by kernel_rfl) ?_
          refine co_then ?_
          have hc2013 : ((0 : Int) != 0) = false := by first | (simp; done) | (simp; omega) | exact beq_false_of_ne (by omega) | exact beq_iff_eq.2 (by omega)
          rw [hc2013] at h2012; clear hc2013
          refine co_false h2012 rfl ?_
          refine wp_skip ?_
          refine co_blockN ?_
          refine co_then ?_
          refine co_reg ?_
          refine pk0 (v := .int .i64 ((i7 : Nat) : Int)) h2012 rfl fun a2014 h2014 => ?_; clear h2012
          refine pk (v := .int .i64 ((i7 + 1 : Nat) : Int)) h2014 rfl (rn_arith' rfl rfl rfl rfl rfl rfl (IntWalk.i64_in _ (by omega)) (by omega)) fun a2015 h2015 => ?_; clear h2014
          refine pk0 (v := .int .i64 ((i7 + 1 : Nat) : Int)) h2015 rfl fun a2016 h2016 => ?_; clear h2015
          refine pl_nil ?_
          refine co_then ?_
          refine ⟨(4 - (i7 + 1)), by omega, ?_⟩
          have hO2017 := HubsO.gr hO1999 (below_grown hb2003) (fun k e => by cases e)
          have hO2018 := LstQ.gr hO2009 (below_grown hb2003) (fun k e => by cases e)
          have hO2019 := LstQ.gr hO2007 (below_grown hb2003) (fun k e => by cases e)
          exact ⟨i7 + 1, h2016.sub ⟨rfl, rfl, rfl, rfl, rfl, trivial⟩, rfl, by omega, by exact hlo1875, by exact hlo1877, by exact hlo1879, by exact hap1881, by exact hap1882, by exact hap1883, hO2017, ⟨_, hO2018⟩, ⟨_, hO2019⟩, hB2010⟩
end Go.Proofs.Ytpcbgkmnjmiigaa
