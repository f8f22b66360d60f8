/- Put together: PrN, PrO, PrP, PrQ, PrS. Conditions: as each says. -/
import Derived.Test.YthmljllgfigebaaLo4
/- catenalaw22: step, a case (anew). Conditions: none. -/
namespace Go.Proofs.Ythmljllgfigebaa
open Go.RowKit Go.PlainAid
set_option linter.unusedVariables false
set_option linter.unusedSimpArgs false

set_option maxRecDepth 100000 in
set_option maxHeartbeats 6400000 in
theorem step_anew0 (S : Nat → Prop) (b : Nat) (P : PrT) (K : Int) (n : Int) (g : Bool) (w : World) (hP : PrO S w b P) (hst : StepH P) (hn : 0 ≤ n ∧ n ≤ 255) (hK : 6 < K ∨ K < 0) (hn2 : n.tmod 2 = 0) :
    Calls Try.prog 49 #[pt b 0, .agg #[.int .i64 K, .int .u8 n, .bool g]] w fun e w' => ∃ (P' : PrT) (S' : Nat → Prop), e = .returned (.tuple #[]) ∧ StepR K P P' ∧ PrO S' w' b P' ∧ Grew S S' w w' ∧ But (S) w w' := by
 have hlW := hst.lW
 have hlT := hst.lT
 obtain ⟨q1, q2⟩ := hst.bt
 obtain ⟨q3, q4⟩ := hst.st
 obtain ⟨i0, hi0⟩ : ∃ i0 : Nat, 0 < P.W.length → n.tmod (P.W.length : Nat) = (i0 : Nat) ∧ i0 < P.W.length := ⟨(n.tmod (P.W.length : Nat)).toNat, fun h => by have e1 := Int.tmod_nonneg (P.W.length : Int) hn.1; have e2 := Int.tmod_lt_of_pos n (show (0 : Int) < (P.W.length : Nat) by omega); omega⟩
 have hB0 := But.refl (S) w
 obtain ⟨NA, NB, SA, SB, wv, tv, hQ⟩ := hP
 have hBk : Blk w b 95 #[pt NA 0, pt NB 0, .int .i64 P.b0, .int .i64 P.b1, wv, tv, .int .i64 P.s0, .int .i64 P.s1, .int .i64 P.t0, .int .i64 P.t1, .bool true] := hQ.blk
 have hl_b := hBk.lt
 have hSb : S b ∨ w.heap.size ≤ b := .inl ((hQ.fp b).2 (.inl rfl))
 have hinA : ∀ q, SA q → S q ∨ w.heap.size ≤ q := fun q h => .inl ((hQ.fp q).2 (.inr (.inl h)))
 have hinB : ∀ q, SB q → S q ∨ w.heap.size ≤ q := fun q h => .inl ((hQ.fp q).2 (.inr (.inr (.inl h))))
 have hinw : InS S w.heap.size wv := InS.of (fun i hi => (hQ.fp i).2 (.inr (.inr (.inr (.inl hi)))))
 have hint : InS S w.heap.size tv := InS.of (fun i hi => (hQ.fp i).2 (.inr (.inr (.inr (.inr hi)))))
 have hW0 := hQ.way
 have hT0 := hQ.to
 refine co_enter (n := 192) Try.func49 rfl rfl rfl [(0, pt b 0), (1, .agg #[.int .i64 K, .int .u8 n, .bool g])] rfl (fun a h0 => ?_)
 refine co_seq ?_
 refine co_reg ?_
 refine pw h0 rfl (op_new (v := fun N => pt N 0) (T := 90) (cs := #[.int .i64 K, .int .u8 n, .bool g]) (by kernel_rfl) (by kernel_rfl) (by kernel_rfl)) ?_; clear h0
 rintro _ w2 a1 ⟨N3, rfl, hN6, hz7, hk5, hg4⟩ h1
 have ha8 := row_fresh hW0 hN6
 have hu9 := row_under hW0 hN6
 have ha10 := row_fresh hT0 hN6
 have hu11 := row_under hT0 hN6
 have hz12 := hg4.size
 have ho13 := off_new (LkP.ofS hQ.hA) hN6
 have ho14 := off_new (LkP.ofS hQ.hB) hN6
 try dsimp only at h1
 refine pl_nil ?_
 refine co_then ?_
 refine co_seq ?_
 refine co_reg ?_
 refine pk0 (v := pt N3 1) h1 rfl fun a15 h15 => ?_; clear h1
 refine pk (v := .int .u8 n) h15 rfl (rn_load1 rfl rfl Try.isAgg5 (hk5.cell rfl)) fun a16 h16 => ?_; clear h15
 refine pk (v := .int .i64 n) h16 rfl (rn_conv rfl rfl Try.underlying5 Try.underlying3 (IntWalk.i64_in _ (by omega))) fun a17 h17 => ?_; clear h16
 refine pk (v := .int .i64 0) h17 rfl (rn_remP rfl rfl rfl (by decide) rfl hn2) fun a18 h18 => ?_; clear h17
 refine pk0 (v := .int .i64 0) h18 rfl fun a19 h19 => ?_; clear h18
 refine pl_nil ?_
 refine co_then ?_
 refine co_seq ?_
 refine co_reg ?_
 refine pk0 (v := .int .i64 0) h19 rfl fun a20 h20 => ?_; clear h19
 refine pl_nil ?_
 refine co_then ?_
 refine co_seq ?_
 refine co_seq ?_
 refine co_reg ?_
 refine pk0 (v := pt b 0) h20 rfl fun a21 h21 => ?_; clear h20
 refine pk0 (v := pt b 0) h21 rfl fun a22 h22 => ?_; clear h21
 refine pk0 (v := pt b 4) h22 rfl fun a23 h23 => ?_; clear h22
 have hk24 := hBk.kept hg4 (by simp)
 refine pk (v := wv) h23 rfl (rn_load1 rfl rfl Try.isAgg67 (hk24.cell rfl)) fun a25 h25 => ?_; clear h23
 have hr26 := row_kept_new hW0 hg4
 refine pk (v := .int .i64 ((P.W.length : Nat) : Int)) h25 rfl (rn_lenOwn rfl rfl Try.underlying67 hr26) fun a27 h27 => ?_; clear h25
 refine pk0 (v := .bool (decide (((P.W.length : Nat) : Int) > 0))) h27 rfl fun a28 h28 => ?_; clear h27
 refine pl_nil ?_
 refine co_then ?_
 have hB30 := fbU_new hB0 hg4
 cases hc29 : (decide (((P.W.length : Nat) : Int) > 0))
 ·
  rw [hc29] at h28
  have hp31 : ¬ (((P.W.length : Nat) : Int) > 0) := of_decide_eq_false hc29
  clear hc29
  refine co_false h28 rfl ?_
  refine wp_skip ?_
  refine co_then ?_
  refine wp_block ?_
  refine co_seq ?_
  refine co_reg ?_
  refine pk0 (v := pt N3 0) h28 rfl fun a32 h32 => ?_; clear h28
  refine pk (v := .int .i64 K) h32 rfl (rn_load1 rfl rfl Try.isAgg3 (hk5.cell rfl)) fun a33 h33 => ?_; clear h32
  refine pk0 (v := .bool (K == 0)) h33 rfl fun a34 h34 => ?_; clear h33
  refine pk0 (v := .bool (K == 0)) h34 rfl fun a35 h35 => ?_; clear h34
  have hc36 : (K == 0) = false := by first | (simp; done) | (simp; omega) | exact beq_false_of_ne (by omega) | exact beq_iff_eq.2 (by omega)
  rw [hc36] at h35; clear hc36
  refine pk0 (v := pt N3 0) h35 rfl fun a37 h37 => ?_; clear h35
  refine pk (v := .int .i64 K) h37 rfl (rn_load1 rfl rfl Try.isAgg3 (hk5.cell rfl)) fun a38 h38 => ?_; clear h37
  refine pk0 (v := .bool (K == 1)) h38 rfl fun a39 h39 => ?_; clear h38
  refine pk0 (v := .bool (K == 1)) h39 rfl fun a40 h40 => ?_; clear h39
  refine pk0 (v := .bool (K == 1)) h40 rfl fun a41 h41 => ?_; clear h40
  refine pl_nil ?_
  refine co_then ?_
  have hc42 : (K == 1) = false := by first | (simp; done) | (simp; omega) | exact beq_false_of_ne (by omega) | exact beq_iff_eq.2 (by omega)
  rw [hc42] at h41; clear hc42
  refine co_false h41 rfl ?_
  refine co_seq ?_
  refine co_reg ?_
  refine pk0 (v := pt N3 0) h41 rfl fun a43 h43 => ?_; clear h41
  refine pk (v := .int .i64 K) h43 rfl (rn_load1 rfl rfl Try.isAgg3 (hk5.cell rfl)) fun a44 h44 => ?_; clear h43
  refine pk0 (v := .bool (K == 2)) h44 rfl fun a45 h45 => ?_; clear h44
  refine pk0 (v := .bool (K == 2)) h45 rfl fun a46 h46 => ?_; clear h45
  refine pl_nil ?_
  refine co_then ?_
  have hc47 : (K == 2) = false := by first | (simp; done) | (simp; omega) | exact beq_false_of_ne (by omega) | exact beq_iff_eq.2 (by omega)
  rw [hc47] at h46; clear hc47
  refine co_false h46 rfl ?_
  refine co_seq ?_
  refine co_reg ?_
  refine pk0 (v := pt N3 0) h46 rfl fun a48 h48 => ?_; clear h46
  refine pk (v := .int .i64 K) h48 rfl (rn_load1 rfl rfl Try.isAgg3 (hk5.cell rfl)) fun a49 h49 => ?_; clear h48
  refine pk0 (v := .bool (decide (K > 6))) h49 rfl fun a50 h50 => ?_; clear h49
  refine pk0 (v := .bool (decide (K > 6))) h50 rfl fun a51 h51 => ?_; clear h50
  cases hc52 : (decide (K > 6))
  ·
   rw [hc52] at h51
   have hp53 : ¬ (K > 6) := of_decide_eq_false hc52
   clear hc52
   refine pk0 (v := pt N3 0) h51 rfl fun a54 h54 => ?_; clear h51
   refine pk (v := .int .i64 K) h54 rfl (rn_load1 rfl rfl Try.isAgg3 (hk5.cell rfl)) fun a55 h55 => ?_; clear h54
   refine pk0 (v := .bool (decide (K < 0))) h55 rfl fun a56 h56 => ?_; clear h55
   refine pk0 (v := .bool (decide (K < 0))) h56 rfl fun a57 h57 => ?_; clear h56
   refine pk0 (v := .bool (decide (K < 0))) h57 rfl fun a58 h58 => ?_; clear h57
   refine pl_nil ?_
   refine co_then ?_
   have hc59 : (decide (K < 0)) = true := decide_eq_true (by omega)
   rw [hc59] at h58; clear hc59
   refine co_true h58 rfl ?_
   refine co_seq ?_
   refine dr_gen (fun x => But (S) w x) (by kernel_rfl) (fun w60 hg61 => ?_) (fun w60 hg61 => ?_)
   ·
    have hz62 := hg61.size
    have hB63 := fbU_new hB30 hg61
    exact hB63
   have hz64 := hg61.size
   have hB65 := fbU_new hB30 hg61
   refine dk0 0 (v := pt b 0) h58 rfl rfl hB65 fun a66 h66 => ?_; clear h58
   refine dk0 1 (v := .int .i64 0) h66 rfl rfl hB65 fun a67 h67 => ?_; clear h66
   refine dk0 2 (v := pt b 0) h67 rfl rfl hB65 fun a68 h68 => ?_; clear h67
   refine dk0 3 (v := pt b 2) h68 rfl rfl hB65 fun a69 h69 => ?_; clear h68
   refine dk0 4 (v := pt b 2) h69 rfl rfl hB65 fun a70 h70 => ?_; clear h69
   refine dk0 7 (v := pt b 0) h70 rfl rfl hB65 fun a71 h71 => ?_; clear h70
   refine dk0 8 (v := pt b 2) h71 rfl rfl hB65 fun a72 h72 => ?_; clear h71
   refine dr_many [5] (by kernel_rfl) (by simp) ⟨?_, trivial⟩
   ·
    have hk73 := hk24.kept hg61 (by simp)
    refine dr_opVal (i := 5) (v := .int .i64 P.b0) h72 rfl rfl rfl rfl (by kernel_rfl) rfl (rn_load1 rfl rfl Try.isAgg3 (hk73.cell rfl)) hB65 (fun a74 h74 => ?_); clear h72
    refine dk 6 (v := .int .i64 (P.b0 + 1)) h74 rfl rfl hB65 (fun x hx => (rn_arith rfl rfl rfl rfl rfl rfl (IntWalk.i64_in _ (by omega)))) fun a75 h75 => ?_; clear h74
    refine dk0 9 (v := pt b 2) h75 rfl rfl hB65 fun a76 h76 => ?_; clear h75
    refine d1D 10 h76 rfl rfl (op_store1 rfl rfl rfl rfl Try.sizeOf3 hk73 rfl) ?_ ?_; clear h76
    ·
     rintro _ w78 ⟨hk79, hz80, hg81⟩
     have hk79' : Blk w78 b 95 #[pt NA 0, pt NB 0, .int .i64 (P.b0 + 1), .int .i64 P.b1, wv, tv, .int .i64 P.s0, .int .i64 P.s1, .int .i64 P.t0, .int .i64 P.t1, .bool true] := hk79; clear hk79
     have hz82 := hg81.size
     have hB83 := fbU_at hB65 hg81 (fun hlt => by rcases hSb with hq | hq; exact hq; omega)
     exact hB83
    rintro _ w78 a77 ⟨hk79, hz80, hg81⟩ h77
    have hk79' : Blk w78 b 95 #[pt NA 0, pt NB 0, .int .i64 (P.b0 + 1), .int .i64 P.b1, wv, tv, .int .i64 P.s0, .int .i64 P.s1, .int .i64 P.t0, .int .i64 P.t1, .bool true] := hk79; clear hk79
    have hz82 := hg81.size
    refine dr_done (by kernel_rfl) ?_
    refine co_then ?_
    refine co_seq ?_
    refine co_reg ?_
    refine pk0 (v := pt b 0) h77 rfl fun a83 h83 => ?_; clear h77
    refine pk0 (v := .int .i64 0) h83 rfl fun a84 h84 => ?_; clear h83
    refine pk0 (v := pt b 0) h84 rfl fun a85 h85 => ?_; clear h84
    refine pk0 (v := pt b 2) h85 rfl fun a86 h86 => ?_; clear h85
    refine pk0 (v := pt b 2) h86 rfl fun a87 h87 => ?_; clear h86
    refine pk (v := .int .i64 (P.b0 + 1)) h87 rfl (rn_load1 rfl rfl Try.isAgg3 (hk79'.cell rfl)) fun a88 h88 => ?_; clear h87
    have hO92 := LkP.gr hQ.hA hg4 (fun k e => by cases e)
    have hO93 := LkP.gr hO92 hg61 (fun k e => by cases e)
    have hO94 := LkP.gr hO93 hg81 (fun k e => by cases e; exact hQ.nA)
    have ho91 := LkP.ofS hO94
    have hO96 := LkP.gr hQ.hB hg4 (fun k e => by cases e)
    have hO97 := LkP.gr hO96 hg61 (fun k e => by cases e)
    have hO98 := LkP.gr hO97 hg81 (fun k e => by cases e; exact hQ.nB)
    have ho95 := LkP.ofS hO98
    refine pw h88 rfl (op_call (args := #[.int .i64 (P.b0 + 1)]) (R := fun res xw => ∃ (N : Nat) (S : Nat → Prop), res = .tuple #[pt N 0, .int .i64 0] ∧ LkP S xw N (newLn (P.b0 + 1)) ∧ (∀ q, S q → w78.heap.size ≤ q) ∧ Below w78.heap.size w78 xw) rfl rfl rfl (by kernel_rfl) (by kernel_rfl) (Try.call32 _ _) (nPNew (P.b0 + 1) w78 (by omega)) (by rintro e x ⟨N, S, rfl, h⟩; exact ⟨_, rfl, N, S, rfl, h⟩)) ?_; clear h88
    rintro _ w90 a89 ⟨N99, S100, rfl, hO101, hlo102, hb103⟩ h89
    have hz105 := hb103.size
    have ho106 := LkP.ofS hO94
    have ho107 := LkP.ofS hO98
    have hlo108 : ∀ q, S100 q → w.heap.size ≤ q := fun q hq => by have := hlo102 q hq; omega
    have ho109 := off_lo (N := N3) hlo102 (by omega)
    have ho110 := off_lo (N := b) hlo102 (by omega)
    have hin111 : ∀ q, S100 q → S q ∨ w.heap.size ≤ q := fun q h => .inr (hlo108 q h)
    refine pk0 (v := .tuple #[pt N99 0, .int .i64 0]) h89 rfl fun a112 h112 => ?_; clear h89
    refine pk0 (v := pt N99 0) h112 rfl fun a113 h113 => ?_; clear h112
    refine pk0 (v := .int .i64 0) h113 rfl fun a114 h114 => ?_; clear h113
    refine pk0 (v := pt N99 0) h114 rfl fun a115 h115 => ?_; clear h114
    refine pk0 (v := .int .i64 0) h115 rfl fun a116 h116 => ?_; clear h115
    refine pl_nil ?_
    refine co_then ?_
    refine co_seq ?_
    refine co_reg ?_
    refine pk0 (v := pt b 0) h116 rfl fun a117 h117 => ?_; clear h116
    refine pk0 (v := pt b 0) h117 rfl fun a118 h118 => ?_; clear h117
    refine pk0 (v := pt b 0) h118 rfl fun a119 h119 => ?_; clear h118
    refine pk0 (v := pt b 10) h119 rfl fun a120 h120 => ?_; clear h119
    have hk121 := hk79'.below hb103
    refine pk (v := .bool true) h120 rfl (rn_load1 rfl rfl Try.isAgg4 (hk121.cell rfl)) fun a122 h122 => ?_; clear h120
    refine pk0 (v := .bool true) h122 rfl fun a123 h123 => ?_; clear h122
    refine pk0 (v := .int .i64 0) h123 rfl fun a124 h124 => ?_; clear h123
    refine pk0 (v := .bool ((0 : Int) == 0)) h124 rfl fun a125 h125 => ?_; clear h124
    refine pk0 (v := .bool ((0 : Int) == 0)) h125 rfl fun a126 h126 => ?_; clear h125
    refine pk0 (v := .bool ((0 : Int) == 0)) h126 rfl fun a127 h127 => ?_; clear h126
    have hc128 : ((0 : Int) == 0) = true := by first | (simp; done) | (simp; omega) | exact beq_false_of_ne (by omega) | exact beq_iff_eq.2 (by omega)
    rw [hc128] at h127; clear hc128
    refine pk0 (v := pt N99 0) h127 rfl fun a129 h129 => ?_; clear h127
    refine pk0 (v := .bool true) h129 rfl fun a130 h130 => ?_; clear h129
    refine pk0 (v := .bool true) h130 rfl fun a131 h131 => ?_; clear h130
    refine pk0 (v := pt b 0) h131 rfl fun a132 h132 => ?_; clear h131
    refine pk0 (v := pt b 10) h132 rfl fun a133 h133 => ?_; clear h132
    refine pwD h133 rfl (op_store1 rfl rfl rfl rfl Try.sizeOf4 hk121 rfl) ?_; clear h133
    rintro _ w135 a134 ⟨hk136, hz137, hg138⟩ h134
    have hk136' : Blk w135 b 95 #[pt NA 0, pt NB 0, .int .i64 (P.b0 + 1), .int .i64 P.b1, wv, tv, .int .i64 P.s0, .int .i64 P.s1, .int .i64 P.t0, .int .i64 P.t1, .bool true] := hk136; clear hk136
    have hz139 := hg138.size
    refine pl_nil ?_
    refine co_then ?_
    refine co_seq ?_
    refine co_seq ?_
    refine co_reg ?_
    refine pk0 (v := pt b 0) h134 rfl fun a140 h140 => ?_; clear h134
    refine pk0 (v := pt b 0) h140 rfl fun a141 h141 => ?_; clear h140
    refine pk0 (v := pt b 10) h141 rfl fun a142 h142 => ?_; clear h141
    refine pk (v := .bool true) h142 rfl (rn_load1 rfl rfl Try.isAgg4 (hk136'.cell rfl)) fun a143 h143 => ?_; clear h142
    refine pl_nil ?_
    refine co_then ?_
    refine co_true h143 rfl ?_
    refine co_reg ?_
    refine pk0 (v := pt b 0) h143 rfl fun a144 h144 => ?_; clear h143
    refine pk0 (v := .int .i64 0) h144 rfl fun a145 h145 => ?_; clear h144
    refine pk0 (v := pt N99 0) h145 rfl fun a146 h146 => ?_; clear h145
    refine pk0 (v := pt b 0) h146 rfl fun a147 h147 => ?_; clear h146
    refine pk0 (v := pt b 0) h147 rfl fun a148 h148 => ?_; clear h147
    refine pk0 (v := pt b 0) h148 rfl fun a149 h149 => ?_; clear h148
    refine pwD h149 rfl (op_store1 rfl rfl rfl rfl Try.sizeOf53 hk136' rfl) ?_; clear h149
    rintro _ w151 a150 ⟨hk152, hz153, hg154⟩ h150
    have hk152' : Blk w151 b 95 #[pt N99 0, pt NB 0, .int .i64 (P.b0 + 1), .int .i64 P.b1, wv, tv, .int .i64 P.s0, .int .i64 P.s1, .int .i64 P.t0, .int .i64 P.t1, .bool true] := hk152; clear hk152
    have hz155 := hg154.size
    refine pl_nil ?_
    refine co_then ?_
    refine co_reg ?_
    refine pk0 (v := pt b 0) h150 rfl fun a156 h156 => ?_; clear h150
    refine pk0 (v := .int .i64 0) h156 rfl fun a157 h157 => ?_; clear h156
    refine pk0 (v := pt b 0) h157 rfl fun a158 h158 => ?_; clear h157
    refine pk0 (v := pt b 8) h158 rfl fun a159 h159 => ?_; clear h158
    refine pk0 (v := pt b 8) h159 rfl fun a160 h160 => ?_; clear h159
    refine pwD h160 rfl (op_store1 rfl rfl rfl rfl Try.sizeOf3 hk152' rfl) ?_; clear h160
    rintro _ w162 a161 ⟨hk163, hz164, hg165⟩ h161
    have hk163' : Blk w162 b 95 #[pt N99 0, pt NB 0, .int .i64 (P.b0 + 1), .int .i64 P.b1, wv, tv, .int .i64 P.s0, .int .i64 P.s1, .int .i64 0, .int .i64 P.t1, .bool true] := hk163; clear hk163
    have hz166 := hg165.size
    refine pl_nil ?_
    refine co_blockN ?_
    refine co_ret0n h161 rfl ?_
    have hO167 := LkP.gr hO101 hg138 (fun k e => by cases e; exact ho110)
    have hO168 := LkP.gr hO167 hg154 (fun k e => by cases e; exact ho110)
    have hO169 := LkP.gr hO168 hg165 (fun k e => by cases e; exact ho110)
    have hO170 := LkP.gr hO98 (below_grown hb103) (fun k e => by cases e)
    have hO171 := LkP.gr hO170 hg138 (fun k e => by cases e; exact hQ.nB)
    have hO172 := LkP.gr hO171 hg154 (fun k e => by cases e; exact hQ.nB)
    have hO173 := LkP.gr hO172 hg165 (fun k e => by cases e; exact hQ.nB)
    have hr174 := row_kept_new hr26 hg61
    have hr175 := row_kept_at hr174 hg81 (own_neT hr174 hk73 (by decide))
    have hr176 := row_kept_new hr175 (below_grown hb103)
    have hr177 := row_kept_at hr176 hg138 (own_neT hr176 hk121 (by decide))
    have hr178 := row_kept_at hr177 hg154 (own_neT hr177 hk136' (by decide))
    have hr179 := row_kept_at hr178 hg165 (own_neT hr178 hk152' (by decide))
    have hr180 := row_kept_new hT0 hg4
    have hr181 := row_kept_new hr180 hg61
    have hr182 := row_kept_at hr181 hg81 (own_neT hr181 hk73 (by decide))
    have hr183 := row_kept_new hr182 (below_grown hb103)
    have hr184 := row_kept_at hr183 hg138 (own_neT hr183 hk121 (by decide))
    have hr185 := row_kept_at hr184 hg154 (own_neT hr184 hk136' (by decide))
    have hr186 := row_kept_at hr185 hg165 (own_neT hr185 hk152' (by decide))
    have hB187 := fbU_at hB65 hg81 (fun hlt => by rcases hSb with hq | hq; exact hq; omega)
    have hB188 := fbU_call hB187 hb103
    have hB189 := fbU_at hB188 hg138 (fun hlt => by rcases hSb with hq | hq; exact hq; omega)
    have hB190 := fbU_at hB189 hg154 (fun hlt => by rcases hSb with hq | hq; exact hq; omega)
    have hB191 := fbU_at hB190 hg165 (fun hlt => by rcases hSb with hq | hq; exact hq; omega)
    obtain ⟨S9, h1, h2⟩ := PrO.fin (P := { P with A := newLn (P.b0 + 1), b0 := P.b0 + 1, t0 := 0 }) (NA := N99) (NB := NB) (wv := wv) (tv := tv) (w := w) hk163' hO169 hO173 hr179 hr186 (ap_symm (fun q h1 h2 => by have e1 := ho95 q h1; have e2 := hlo102 q h2; omega)) ho110 hQ.nB (offR_lo hlo108 (fun i hi => (hW0.lt i hi).2)) hQ.wB (offR_lo hlo108 (fun i hi => (hT0.lt i hi).2)) hQ.tB hSb hin111 hinB hinw hint hB191
    have hEq : anewP P 0 = { P with A := newLn (P.b0 + 1), b0 := P.b0 + 1, t0 := 0 } := by unfold anewP; rw [if_pos rfl]
    exact ⟨anewP P 0, S9, rfl, StepR.anew _ (by decide) hK, by rw [hEq]; exact h1, h2, hB191⟩
  ·
   rw [hc52] at h51
   have hp192 : K > 6 := of_decide_eq_true hc52
   clear hc52
   refine psk h51 rfl fun a193 h193 => ?_; clear h51
   refine psk h193 rfl fun a194 h194 => ?_; clear h193
   refine psk h194 rfl fun a195 h195 => ?_; clear h194
   refine pk0 (v := .bool true) h195 rfl fun a196 h196 => ?_; clear h195
   refine pk0 (v := .bool true) h196 rfl fun a197 h197 => ?_; clear h196
   refine pl_nil ?_
   refine co_then ?_
   refine co_true h197 rfl ?_
   refine co_seq ?_
   refine dr_gen (fun x => But (S) w x) (by kernel_rfl) (fun w198 hg199 => ?_) (fun w198 hg199 => ?_)
   ·
    have hz200 := hg199.size
    have hB201 := fbU_new hB30 hg199
    exact hB201
   have hz202 := hg199.size
   have hB203 := fbU_new hB30 hg199
   refine dk0 0 (v := pt b 0) h197 rfl rfl hB203 fun a204 h204 => ?_; clear h197
   refine dk0 1 (v := .int .i64 0) h204 rfl rfl hB203 fun a205 h205 => ?_; clear h204
   refine dk0 2 (v := pt b 0) h205 rfl rfl hB203 fun a206 h206 => ?_; clear h205
   refine dk0 3 (v := pt b 2) h206 rfl rfl hB203 fun a207 h207 => ?_; clear h206
   refine dk0 4 (v := pt b 2) h207 rfl rfl hB203 fun a208 h208 => ?_; clear h207
   refine dk0 7 (v := pt b 0) h208 rfl rfl hB203 fun a209 h209 => ?_; clear h208
   refine dk0 8 (v := pt b 2) h209 rfl rfl hB203 fun a210 h210 => ?_; clear h209
   refine dr_many [5] (by kernel_rfl) (by simp) ⟨?_, trivial⟩
   ·
    have hk211 := hk24.kept hg199 (by simp)
    refine dr_opVal (i := 5) (v := .int .i64 P.b0) h210 rfl rfl rfl rfl (by kernel_rfl) rfl (rn_load1 rfl rfl Try.isAgg3 (hk211.cell rfl)) hB203 (fun a212 h212 => ?_); clear h210
    refine dk 6 (v := .int .i64 (P.b0 + 1)) h212 rfl rfl hB203 (fun x hx => (rn_arith rfl rfl rfl rfl rfl rfl (IntWalk.i64_in _ (by omega)))) fun a213 h213 => ?_; clear h212
    refine dk0 9 (v := pt b 2) h213 rfl rfl hB203 fun a214 h214 => ?_; clear h213
    refine d1D 10 h214 rfl rfl (op_store1 rfl rfl rfl rfl Try.sizeOf3 hk211 rfl) ?_ ?_; clear h214
    ·
     rintro _ w216 ⟨hk217, hz218, hg219⟩
     have hk217' : Blk w216 b 95 #[pt NA 0, pt NB 0, .int .i64 (P.b0 + 1), .int .i64 P.b1, wv, tv, .int .i64 P.s0, .int .i64 P.s1, .int .i64 P.t0, .int .i64 P.t1, .bool true] := hk217; clear hk217
     have hz220 := hg219.size
     have hB221 := fbU_at hB203 hg219 (fun hlt => by rcases hSb with hq | hq; exact hq; omega)
     exact hB221
    rintro _ w216 a215 ⟨hk217, hz218, hg219⟩ h215
    have hk217' : Blk w216 b 95 #[pt NA 0, pt NB 0, .int .i64 (P.b0 + 1), .int .i64 P.b1, wv, tv, .int .i64 P.s0, .int .i64 P.s1, .int .i64 P.t0, .int .i64 P.t1, .bool true] := hk217; clear hk217
    have hz220 := hg219.size
    refine dr_done (by kernel_rfl) ?_
    refine co_then ?_
    refine co_seq ?_
    refine co_reg ?_
    refine pk0 (v := pt b 0) h215 rfl fun a221 h221 => ?_; clear h215
    refine pk0 (v := .int .i64 0) h221 rfl fun a222 h222 => ?_; clear h221
    refine pk0 (v := pt b 0) h222 rfl fun a223 h223 => ?_; clear h222
    refine pk0 (v := pt b 2) h223 rfl fun a224 h224 => ?_; clear h223
    refine pk0 (v := pt b 2) h224 rfl fun a225 h225 => ?_; clear h224
    refine pk (v := .int .i64 (P.b0 + 1)) h225 rfl (rn_load1 rfl rfl Try.isAgg3 (hk217'.cell rfl)) fun a226 h226 => ?_; clear h225
    have hO230 := LkP.gr hQ.hA hg4 (fun k e => by cases e)
    have hO231 := LkP.gr hO230 hg199 (fun k e => by cases e)
    have hO232 := LkP.gr hO231 hg219 (fun k e => by cases e; exact hQ.nA)
    have ho229 := LkP.ofS hO232
    have hO234 := LkP.gr hQ.hB hg4 (fun k e => by cases e)
    have hO235 := LkP.gr hO234 hg199 (fun k e => by cases e)
    have hO236 := LkP.gr hO235 hg219 (fun k e => by cases e; exact hQ.nB)
    have ho233 := LkP.ofS hO236
    refine pw h226 rfl (op_call (args := #[.int .i64 (P.b0 + 1)]) (R := fun res xw => ∃ (N : Nat) (S : Nat → Prop), res = .tuple #[pt N 0, .int .i64 0] ∧ LkP S xw N (newLn (P.b0 + 1)) ∧ (∀ q, S q → w216.heap.size ≤ q) ∧ Below w216.heap.size w216 xw) rfl rfl rfl (by kernel_rfl) (by kernel_rfl) (Try.call32 _ _) (nPNew (P.b0 + 1) w216 (by omega)) (by rintro e x ⟨N, S, rfl, h⟩; exact ⟨_, rfl, N, S, rfl, h⟩)) ?_; clear h226
    rintro _ w228 a227 ⟨N237, S238, rfl, hO239, hlo240, hb241⟩ h227
    have hz243 := hb241.size
    have ho244 := LkP.ofS hO232
    have ho245 := LkP.ofS hO236
    have hlo246 : ∀ q, S238 q → w.heap.size ≤ q := fun q hq => by have := hlo240 q hq; omega
    have ho247 := off_lo (N := N3) hlo240 (by omega)
    have ho248 := off_lo (N := b) hlo240 (by omega)
    have hin249 : ∀ q, S238 q → S q ∨ w.heap.size ≤ q := fun q h => .inr (hlo246 q h)
    refine pk0 (v := .tuple #[pt N237 0, .int .i64 0]) h227 rfl fun a250 h250 => ?_; clear h227
    refine pk0 (v := pt N237 0) h250 rfl fun a251 h251 => ?_; clear h250
    refine pk0 (v := .int .i64 0) h251 rfl fun a252 h252 => ?_; clear h251
    refine pk0 (v := pt N237 0) h252 rfl fun a253 h253 => ?_; clear h252
    refine pk0 (v := .int .i64 0) h253 rfl fun a254 h254 => ?_; clear h253
    refine pl_nil ?_
    refine co_then ?_
    refine co_seq ?_
    refine co_reg ?_
    refine pk0 (v := pt b 0) h254 rfl fun a255 h255 => ?_; clear h254
    refine pk0 (v := pt b 0) h255 rfl fun a256 h256 => ?_; clear h255
    refine pk0 (v := pt b 0) h256 rfl fun a257 h257 => ?_; clear h256
    refine pk0 (v := pt b 10) h257 rfl fun a258 h258 => ?_; clear h257
    have hk259 := hk217'.below hb241
    refine pk (v := .bool true) h258 rfl (rn_load1 rfl rfl Try.isAgg4 (hk259.cell rfl)) fun a260 h260 => ?_; clear h258
    refine pk0 (v := .bool true) h260 rfl fun a261 h261 => ?_; clear h260
    refine pk0 (v := .int .i64 0) h261 rfl fun a262 h262 => ?_; clear h261
    refine pk0 (v := .bool ((0 : Int) == 0)) h262 rfl fun a263 h263 => ?_; clear h262
    refine pk0 (v := .bool ((0 : Int) == 0)) h263 rfl fun a264 h264 => ?_; clear h263
    refine pk0 (v := .bool ((0 : Int) == 0)) h264 rfl fun a265 h265 => ?_; clear h264
    have hc266 : ((0 : Int) == 0) = true := by first | (simp; done) | (simp; omega) | exact beq_false_of_ne (by omega) | exact beq_iff_eq.2 (by omega)
    rw [hc266] at h265; clear hc266
    refine pk0 (v := pt N237 0) h265 rfl fun a267 h267 => ?_; clear h265
    refine pk0 (v := .bool true) h267 rfl fun a268 h268 => ?_; clear h267
    refine pk0 (v := .bool true) h268 rfl fun a269 h269 => ?_; clear h268
    refine pk0 (v := pt b 0) h269 rfl fun a270 h270 => ?_; clear h269
    refine pk0 (v := pt b 10) h270 rfl fun a271 h271 => ?_; clear h270
    refine pwD h271 rfl (op_store1 rfl rfl rfl rfl Try.sizeOf4 hk259 rfl) ?_; clear h271
    rintro _ w273 a272 ⟨hk274, hz275, hg276⟩ h272
    have hk274' : Blk w273 b 95 #[pt NA 0, pt NB 0, .int .i64 (P.b0 + 1), .int .i64 P.b1, wv, tv, .int .i64 P.s0, .int .i64 P.s1, .int .i64 P.t0, .int .i64 P.t1, .bool true] := hk274; clear hk274
    have hz277 := hg276.size
    refine pl_nil ?_
    refine co_then ?_
    refine co_seq ?_
    refine co_seq ?_
    refine co_reg ?_
    refine pk0 (v := pt b 0) h272 rfl fun a278 h278 => ?_; clear h272
    refine pk0 (v := pt b 0) h278 rfl fun a279 h279 => ?_; clear h278
    refine pk0 (v := pt b 10) h279 rfl fun a280 h280 => ?_; clear h279
    refine pk (v := .bool true) h280 rfl (rn_load1 rfl rfl Try.isAgg4 (hk274'.cell rfl)) fun a281 h281 => ?_; clear h280
    refine pl_nil ?_
    refine co_then ?_
    refine co_true h281 rfl ?_
    refine co_reg ?_
    refine pk0 (v := pt b 0) h281 rfl fun a282 h282 => ?_; clear h281
    refine pk0 (v := .int .i64 0) h282 rfl fun a283 h283 => ?_; clear h282
    refine pk0 (v := pt N237 0) h283 rfl fun a284 h284 => ?_; clear h283
    refine pk0 (v := pt b 0) h284 rfl fun a285 h285 => ?_; clear h284
    refine pk0 (v := pt b 0) h285 rfl fun a286 h286 => ?_; clear h285
    refine pk0 (v := pt b 0) h286 rfl fun a287 h287 => ?_; clear h286
    refine pwD h287 rfl (op_store1 rfl rfl rfl rfl Try.sizeOf53 hk274' rfl) ?_; clear h287
    rintro _ w289 a288 ⟨hk290, hz291, hg292⟩ h288
    have hk290' : Blk w289 b 95 #[pt N237 0, pt NB 0, .int .i64 (P.b0 + 1), .int .i64 P.b1, wv, tv, .int .i64 P.s0, .int .i64 P.s1, .int .i64 P.t0, .int .i64 P.t1, .bool true] := hk290; clear hk290
    have hz293 := hg292.size
    refine pl_nil ?_
    refine co_then ?_
    refine co_reg ?_
    refine pk0 (v := pt b 0) h288 rfl fun a294 h294 => ?_; clear h288
    refine pk0 (v := .int .i64 0) h294 rfl fun a295 h295 => ?_; clear h294
    refine pk0 (v := pt b 0) h295 rfl fun a296 h296 => ?_; clear h295
    refine pk0 (v := pt b 8) h296 rfl fun a297 h297 => ?_; clear h296
    refine pk0 (v := pt b 8) h297 rfl fun a298 h298 => ?_; clear h297
    refine pwD h298 rfl (op_store1 rfl rfl rfl rfl Try.sizeOf3 hk290' rfl) ?_; clear h298
    rintro _ w300 a299 ⟨hk301, hz302, hg303⟩ h299
    have hk301' : Blk w300 b 95 #[pt N237 0, pt NB 0, .int .i64 (P.b0 + 1), .int .i64 P.b1, wv, tv, .int .i64 P.s0, .int .i64 P.s1, .int .i64 0, .int .i64 P.t1, .bool true] := hk301; clear hk301
    have hz304 := hg303.size
    refine pl_nil ?_
    refine co_blockN ?_
    refine co_ret0n h299 rfl ?_
    have hO305 := LkP.gr hO239 hg276 (fun k e => by cases e; exact ho248)
    have hO306 := LkP.gr hO305 hg292 (fun k e => by cases e; exact ho248)
    have hO307 := LkP.gr hO306 hg303 (fun k e => by cases e; exact ho248)
    have hO308 := LkP.gr hO236 (below_grown hb241) (fun k e => by cases e)
    have hO309 := LkP.gr hO308 hg276 (fun k e => by cases e; exact hQ.nB)
    have hO310 := LkP.gr hO309 hg292 (fun k e => by cases e; exact hQ.nB)
    have hO311 := LkP.gr hO310 hg303 (fun k e => by cases e; exact hQ.nB)
    have hr312 := row_kept_new hr26 hg199
    have hr313 := row_kept_at hr312 hg219 (own_neT hr312 hk211 (by decide))
    have hr314 := row_kept_new hr313 (below_grown hb241)
    have hr315 := row_kept_at hr314 hg276 (own_neT hr314 hk259 (by decide))
    have hr316 := row_kept_at hr315 hg292 (own_neT hr315 hk274' (by decide))
    have hr317 := row_kept_at hr316 hg303 (own_neT hr316 hk290' (by decide))
    have hr318 := row_kept_new hT0 hg4
    have hr319 := row_kept_new hr318 hg199
    have hr320 := row_kept_at hr319 hg219 (own_neT hr319 hk211 (by decide))
    have hr321 := row_kept_new hr320 (below_grown hb241)
    have hr322 := row_kept_at hr321 hg276 (own_neT hr321 hk259 (by decide))
    have hr323 := row_kept_at hr322 hg292 (own_neT hr322 hk274' (by decide))
    have hr324 := row_kept_at hr323 hg303 (own_neT hr323 hk290' (by decide))
    have hB325 := fbU_at hB203 hg219 (fun hlt => by rcases hSb with hq | hq; exact hq; omega)
    have hB326 := fbU_call hB325 hb241
    have hB327 := fbU_at hB326 hg276 (fun hlt => by rcases hSb with hq | hq; exact hq; omega)
    have hB328 := fbU_at hB327 hg292 (fun hlt => by rcases hSb with hq | hq; exact hq; omega)
    have hB329 := fbU_at hB328 hg303 (fun hlt => by rcases hSb with hq | hq; exact hq; omega)
    obtain ⟨S9, h1, h2⟩ := PrO.fin (P := { P with A := newLn (P.b0 + 1), b0 := P.b0 + 1, t0 := 0 }) (NA := N237) (NB := NB) (wv := wv) (tv := tv) (w := w) hk301' hO307 hO311 hr317 hr324 (ap_symm (fun q h1 h2 => by have e1 := ho233 q h1; have e2 := hlo240 q h2; omega)) ho248 hQ.nB (offR_lo hlo246 (fun i hi => (hW0.lt i hi).2)) hQ.wB (offR_lo hlo246 (fun i hi => (hT0.lt i hi).2)) hQ.tB hSb hin249 hinB hinw hint hB329
    have hEq : anewP P 0 = { P with A := newLn (P.b0 + 1), b0 := P.b0 + 1, t0 := 0 } := by unfold anewP; rw [if_pos rfl]
    exact ⟨anewP P 0, S9, rfl, StepR.anew _ (by decide) hK, by rw [hEq]; exact h1, h2, hB329⟩
 ·
  rw [hc29] at h28
  have hp330 : ((P.W.length : Nat) : Int) > 0 := of_decide_eq_true hc29
  clear hc29
  refine co_true h28 rfl ?_
  refine dr_eq (by kernel_rfl) (fun w331 hg332 => ?_)
  have hz333 := hg332.size
  refine dk0 0 (v := pt N3 1) h28 rfl rfl rfl fun a334 h334 => ?_; clear h28
  have hk335 := hk5.kept hg332 (by simp)
  refine dk 1 (v := .int .u8 n) h334 rfl rfl rfl (fun x hx => by subst hx; exact (rn_load1 rfl rfl Try.isAgg5 (hk335.cell rfl))) fun a336 h336 => ?_; clear h334
  refine dk 2 (v := .int .i64 n) h336 rfl rfl rfl (fun x hx => by subst hx; exact (rn_conv rfl rfl Try.underlying5 Try.underlying3 (IntWalk.i64_in _ (by omega)))) fun a337 h337 => ?_; clear h336
  refine dk0 3 (v := pt b 0) h337 rfl rfl rfl fun a338 h338 => ?_; clear h337
  refine dk0 4 (v := pt b 0) h338 rfl rfl rfl fun a339 h339 => ?_; clear h338
  refine dk0 5 (v := pt b 4) h339 rfl rfl rfl fun a340 h340 => ?_; clear h339
  have hk341 := hk24.kept hg332 (by simp)
  refine dk 6 (v := wv) h340 rfl rfl rfl (fun x hx => by subst hx; exact (rn_load1 rfl rfl Try.isAgg67 (hk341.cell rfl))) fun a342 h342 => ?_; clear h340
  have hr343 := row_kept_new hr26 hg332
  refine dk 7 (v := .int .i64 ((P.W.length : Nat) : Int)) h342 rfl rfl rfl (fun x hx => by subst hx; exact (rn_lenOwn rfl rfl Try.underlying67 hr343)) fun a344 h344 => ?_; clear h342
  have hi1 := (hi0 (by omega)).2
  refine dk 8 (v := .int .i64 ((i0 : Nat) : Int)) h344 rfl rfl rfl (fun x hx => by subst hx; exact (rn_remP rfl rfl rfl (by omega) rfl (hi0 (by omega)).1)) fun a345 h345 => ?_; clear h344
  refine dk0 9 (v := .int .i64 ((i0 : Nat) : Int)) h345 rfl rfl rfl fun a346 h346 => ?_; clear h345
  refine dr_done (by kernel_rfl) ?_
  refine co_then ?_
  refine wp_block ?_
  refine co_seq ?_
  refine co_reg ?_
  refine pk0 (v := pt N3 0) h346 rfl fun a347 h347 => ?_; clear h346
  refine pk (v := .int .i64 K) h347 rfl (rn_load1 rfl rfl Try.isAgg3 (hk335.cell rfl)) fun a348 h348 => ?_; clear h347
  refine pk0 (v := .bool (K == 0)) h348 rfl fun a349 h349 => ?_; clear h348
  refine pk0 (v := .bool (K == 0)) h349 rfl fun a350 h350 => ?_; clear h349
  have hc351 : (K == 0) = false := by first | (simp; done) | (simp; omega) | exact beq_false_of_ne (by omega) | exact beq_iff_eq.2 (by omega)
  rw [hc351] at h350; clear hc351
  refine pk0 (v := pt N3 0) h350 rfl fun a352 h352 => ?_; clear h350
  refine pk (v := .int .i64 K) h352 rfl (rn_load1 rfl rfl Try.isAgg3 (hk335.cell rfl)) fun a353 h353 => ?_; clear h352
  refine pk0 (v := .bool (K == 1)) h353 rfl fun a354 h354 => ?_; clear h353
  refine pk0 (v := .bool (K == 1)) h354 rfl fun a355 h355 => ?_; clear h354
  refine pk0 (v := .bool (K == 1)) h355 rfl fun a356 h356 => ?_; clear h355
  refine pl_nil ?_
  refine co_then ?_
  have hc357 : (K == 1) = false := by first | (simp; done) | (simp; omega) | exact beq_false_of_ne (by omega) | exact beq_iff_eq.2 (by omega)
  rw [hc357] at h356; clear hc357
  refine co_false h356 rfl ?_
  refine co_seq ?_
  refine co_reg ?_
  refine pk0 (v := pt N3 0) h356 rfl fun a358 h358 => ?_; clear h356
  refine pk (v := .int .i64 K) h358 rfl (rn_load1 rfl rfl Try.isAgg3 (hk335.cell rfl)) fun a359 h359 => ?_; clear h358
  refine pk0 (v := .bool (K == 2)) h359 rfl fun a360 h360 => ?_; clear h359
  refine pk0 (v := .bool (K == 2)) h360 rfl fun a361 h361 => ?_; clear h360
  refine pl_nil ?_
  refine co_then ?_
  have hc362 : (K == 2) = false := by first | (simp; done) | (simp; omega) | exact beq_false_of_ne (by omega) | exact beq_iff_eq.2 (by omega)
  rw [hc362] at h361; clear hc362
  refine co_false h361 rfl ?_
  refine co_seq ?_
  refine co_reg ?_
  refine pk0 (v := pt N3 0) h361 rfl fun a363 h363 => ?_; clear h361
  refine pk (v := .int .i64 K) h363 rfl (rn_load1 rfl rfl Try.isAgg3 (hk335.cell rfl)) fun a364 h364 => ?_; clear h363
  refine pk0 (v := .bool (decide (K > 6))) h364 rfl fun a365 h365 => ?_; clear h364
  refine pk0 (v := .bool (decide (K > 6))) h365 rfl fun a366 h366 => ?_; clear h365
  have hB368 := fbU_new hB30 hg332
  have hO369 := LkP.gr hQ.hA hg4 (fun k e => by cases e)
  have hO370 := LkP.gr hO369 hg332 (fun k e => by cases e)
  have hO371 := LkP.gr hQ.hB hg4 (fun k e => by cases e)
  have hO372 := LkP.gr hO371 hg332 (fun k e => by cases e)
  have hr373 := row_kept_new hT0 hg4
  have hr374 := row_kept_new hr373 hg332
  cases hc367 : (decide (K > 6))
  ·
   rw [hc367] at h366
   have hp375 : ¬ (K > 6) := of_decide_eq_false hc367
   clear hc367
   refine pk0 (v := pt N3 0) h366 rfl fun a376 h376 => ?_; clear h366
   refine pk (v := .int .i64 K) h376 rfl (rn_load1 rfl rfl Try.isAgg3 (hk335.cell rfl)) fun a377 h377 => ?_; clear h376
   refine pk0 (v := .bool (decide (K < 0))) h377 rfl fun a378 h378 => ?_; clear h377
   refine pk0 (v := .bool (decide (K < 0))) h378 rfl fun a379 h379 => ?_; clear h378
   refine pk0 (v := .bool (decide (K < 0))) h379 rfl fun a380 h380 => ?_; clear h379
   refine pl_nil ?_
   refine co_then ?_
   have hc381 : (decide (K < 0)) = true := decide_eq_true (by omega)
   rw [hc381] at h380; clear hc381
   refine co_true h380 rfl ?_
   refine co_seq ?_
   refine dr_gen (fun x => But (S) w x) (by kernel_rfl) (fun w382 hg383 => ?_) (fun w382 hg383 => ?_)
   ·
    have hz384 := hg383.size
    have hB385 := fbU_new hB368 hg383
    exact hB385
   have hz386 := hg383.size
   have hB387 := fbU_new hB368 hg383
   refine dk0 0 (v := pt b 0) h380 rfl rfl hB387 fun a388 h388 => ?_; clear h380
   refine dk0 1 (v := .int .i64 0) h388 rfl rfl hB387 fun a389 h389 => ?_; clear h388
   refine dk0 2 (v := pt b 0) h389 rfl rfl hB387 fun a390 h390 => ?_; clear h389
   refine dk0 3 (v := pt b 2) h390 rfl rfl hB387 fun a391 h391 => ?_; clear h390
   refine dk0 4 (v := pt b 2) h391 rfl rfl hB387 fun a392 h392 => ?_; clear h391
   refine dk0 7 (v := pt b 0) h392 rfl rfl hB387 fun a393 h393 => ?_; clear h392
   refine dk0 8 (v := pt b 2) h393 rfl rfl hB387 fun a394 h394 => ?_; clear h393
   refine dr_many [5] (by kernel_rfl) (by simp) ⟨?_, trivial⟩
   ·
    have hk395 := hk341.kept hg383 (by simp)
    refine dr_opVal (i := 5) (v := .int .i64 P.b0) h394 rfl rfl rfl rfl (by kernel_rfl) rfl (rn_load1 rfl rfl Try.isAgg3 (hk395.cell rfl)) hB387 (fun a396 h396 => ?_); clear h394
    refine dk 6 (v := .int .i64 (P.b0 + 1)) h396 rfl rfl hB387 (fun x hx => (rn_arith rfl rfl rfl rfl rfl rfl (IntWalk.i64_in _ (by omega)))) fun a397 h397 => ?_; clear h396
    refine dk0 9 (v := pt b 2) h397 rfl rfl hB387 fun a398 h398 => ?_; clear h397
    refine d1D 10 h398 rfl rfl (op_store1 rfl rfl rfl rfl Try.sizeOf3 hk395 rfl) ?_ ?_; clear h398
    ·
     rintro _ w400 ⟨hk401, hz402, hg403⟩
     have hk401' : Blk w400 b 95 #[pt NA 0, pt NB 0, .int .i64 (P.b0 + 1), .int .i64 P.b1, wv, tv, .int .i64 P.s0, .int .i64 P.s1, .int .i64 P.t0, .int .i64 P.t1, .bool true] := hk401; clear hk401
     have hz404 := hg403.size
     have hB405 := fbU_at hB387 hg403 (fun hlt => by rcases hSb with hq | hq; exact hq; omega)
     exact hB405
    rintro _ w400 a399 ⟨hk401, hz402, hg403⟩ h399
    have hk401' : Blk w400 b 95 #[pt NA 0, pt NB 0, .int .i64 (P.b0 + 1), .int .i64 P.b1, wv, tv, .int .i64 P.s0, .int .i64 P.s1, .int .i64 P.t0, .int .i64 P.t1, .bool true] := hk401; clear hk401
    have hz404 := hg403.size
    refine dr_done (by kernel_rfl) ?_
    refine co_then ?_
    refine co_seq ?_
    refine co_reg ?_
    refine pk0 (v := pt b 0) h399 rfl fun a405 h405 => ?_; clear h399
    refine pk0 (v := .int .i64 0) h405 rfl fun a406 h406 => ?_; clear h405
    refine pk0 (v := pt b 0) h406 rfl fun a407 h407 => ?_; clear h406
    refine pk0 (v := pt b 2) h407 rfl fun a408 h408 => ?_; clear h407
    refine pk0 (v := pt b 2) h408 rfl fun a409 h409 => ?_; clear h408
    refine pk (v := .int .i64 (P.b0 + 1)) h409 rfl (rn_load1 rfl rfl Try.isAgg3 (hk401'.cell rfl)) fun a410 h410 => ?_; clear h409
    have hO414 := LkP.gr hO370 hg383 (fun k e => by cases e)
    have hO415 := LkP.gr hO414 hg403 (fun k e => by cases e; exact hQ.nA)
    have ho413 := LkP.ofS hO415
    have hO417 := LkP.gr hO372 hg383 (fun k e => by cases e)
    have hO418 := LkP.gr hO417 hg403 (fun k e => by cases e; exact hQ.nB)
    have ho416 := LkP.ofS hO418
    refine pw h410 rfl (op_call (args := #[.int .i64 (P.b0 + 1)]) (R := fun res xw => ∃ (N : Nat) (S : Nat → Prop), res = .tuple #[pt N 0, .int .i64 0] ∧ LkP S xw N (newLn (P.b0 + 1)) ∧ (∀ q, S q → w400.heap.size ≤ q) ∧ Below w400.heap.size w400 xw) rfl rfl rfl (by kernel_rfl) (by kernel_rfl) (Try.call32 _ _) (nPNew (P.b0 + 1) w400 (by omega)) (by rintro e x ⟨N, S, rfl, h⟩; exact ⟨_, rfl, N, S, rfl, h⟩)) ?_; clear h410
    rintro _ w412 a411 ⟨N419, S420, rfl, hO421, hlo422, hb423⟩ h411
    have hz425 := hb423.size
    have ho426 := LkP.ofS hO415
    have ho427 := LkP.ofS hO418
    have hlo428 : ∀ q, S420 q → w.heap.size ≤ q := fun q hq => by have := hlo422 q hq; omega
    have ho429 := off_lo (N := N3) hlo422 (by omega)
    have ho430 := off_lo (N := b) hlo422 (by omega)
    have hin431 : ∀ q, S420 q → S q ∨ w.heap.size ≤ q := fun q h => .inr (hlo428 q h)
    refine pk0 (v := .tuple #[pt N419 0, .int .i64 0]) h411 rfl fun a432 h432 => ?_; clear h411
    refine pk0 (v := pt N419 0) h432 rfl fun a433 h433 => ?_; clear h432
    refine pk0 (v := .int .i64 0) h433 rfl fun a434 h434 => ?_; clear h433
    refine pk0 (v := pt N419 0) h434 rfl fun a435 h435 => ?_; clear h434
    refine pk0 (v := .int .i64 0) h435 rfl fun a436 h436 => ?_; clear h435
    refine pl_nil ?_
    refine co_then ?_
    refine co_seq ?_
    refine co_reg ?_
    refine pk0 (v := pt b 0) h436 rfl fun a437 h437 => ?_; clear h436
    refine pk0 (v := pt b 0) h437 rfl fun a438 h438 => ?_; clear h437
    refine pk0 (v := pt b 0) h438 rfl fun a439 h439 => ?_; clear h438
    refine pk0 (v := pt b 10) h439 rfl fun a440 h440 => ?_; clear h439
    have hk441 := hk401'.below hb423
    refine pk (v := .bool true) h440 rfl (rn_load1 rfl rfl Try.isAgg4 (hk441.cell rfl)) fun a442 h442 => ?_; clear h440
    refine pk0 (v := .bool true) h442 rfl fun a443 h443 => ?_; clear h442
    refine pk0 (v := .int .i64 0) h443 rfl fun a444 h444 => ?_; clear h443
    refine pk0 (v := .bool ((0 : Int) == 0)) h444 rfl fun a445 h445 => ?_; clear h444
    refine pk0 (v := .bool ((0 : Int) == 0)) h445 rfl fun a446 h446 => ?_; clear h445
    refine pk0 (v := .bool ((0 : Int) == 0)) h446 rfl fun a447 h447 => ?_; clear h446
    have hc448 : ((0 : Int) == 0) = true := by first | (simp; done) | (simp; omega) | exact beq_false_of_ne (by omega) | exact beq_iff_eq.2 (by omega)
    rw [hc448] at h447; clear hc448
    refine pk0 (v := pt N419 0) h447 rfl fun a449 h449 => ?_; clear h447
    refine pk0 (v := .bool true) h449 rfl fun a450 h450 => ?_; clear h449
    refine pk0 (v := .bool true) h450 rfl fun a451 h451 => ?_; clear h450
    refine pk0 (v := pt b 0) h451 rfl fun a452 h452 => ?_; clear h451
    refine pk0 (v := pt b 10) h452 rfl fun a453 h453 => ?_; clear h452
    refine pwD h453 rfl (op_store1 rfl rfl rfl rfl Try.sizeOf4 hk441 rfl) ?_; clear h453
    rintro _ w455 a454 ⟨hk456, hz457, hg458⟩ h454
    have hk456' : Blk w455 b 95 #[pt NA 0, pt NB 0, .int .i64 (P.b0 + 1), .int .i64 P.b1, wv, tv, .int .i64 P.s0, .int .i64 P.s1, .int .i64 P.t0, .int .i64 P.t1, .bool true] := hk456; clear hk456
    have hz459 := hg458.size
    refine pl_nil ?_
    refine co_then ?_
    refine co_seq ?_
    refine co_seq ?_
    refine co_reg ?_
    refine pk0 (v := pt b 0) h454 rfl fun a460 h460 => ?_; clear h454
    refine pk0 (v := pt b 0) h460 rfl fun a461 h461 => ?_; clear h460
    refine pk0 (v := pt b 10) h461 rfl fun a462 h462 => ?_; clear h461
    refine pk (v := .bool true) h462 rfl (rn_load1 rfl rfl Try.isAgg4 (hk456'.cell rfl)) fun a463 h463 => ?_; clear h462
    refine pl_nil ?_
    refine co_then ?_
    refine co_true h463 rfl ?_
    refine co_reg ?_
    refine pk0 (v := pt b 0) h463 rfl fun a464 h464 => ?_; clear h463
    refine pk0 (v := .int .i64 0) h464 rfl fun a465 h465 => ?_; clear h464
    refine pk0 (v := pt N419 0) h465 rfl fun a466 h466 => ?_; clear h465
    refine pk0 (v := pt b 0) h466 rfl fun a467 h467 => ?_; clear h466
    refine pk0 (v := pt b 0) h467 rfl fun a468 h468 => ?_; clear h467
    refine pk0 (v := pt b 0) h468 rfl fun a469 h469 => ?_; clear h468
    refine pwD h469 rfl (op_store1 rfl rfl rfl rfl Try.sizeOf53 hk456' rfl) ?_; clear h469
    rintro _ w471 a470 ⟨hk472, hz473, hg474⟩ h470
    have hk472' : Blk w471 b 95 #[pt N419 0, pt NB 0, .int .i64 (P.b0 + 1), .int .i64 P.b1, wv, tv, .int .i64 P.s0, .int .i64 P.s1, .int .i64 P.t0, .int .i64 P.t1, .bool true] := hk472; clear hk472
    have hz475 := hg474.size
    refine pl_nil ?_
    refine co_then ?_
    refine co_reg ?_
    refine pk0 (v := pt b 0) h470 rfl fun a476 h476 => ?_; clear h470
    refine pk0 (v := .int .i64 0) h476 rfl fun a477 h477 => ?_; clear h476
    refine pk0 (v := pt b 0) h477 rfl fun a478 h478 => ?_; clear h477
    refine pk0 (v := pt b 8) h478 rfl fun a479 h479 => ?_; clear h478
    refine pk0 (v := pt b 8) h479 rfl fun a480 h480 => ?_; clear h479
    refine pwD h480 rfl (op_store1 rfl rfl rfl rfl Try.sizeOf3 hk472' rfl) ?_; clear h480
    rintro _ w482 a481 ⟨hk483, hz484, hg485⟩ h481
    have hk483' : Blk w482 b 95 #[pt N419 0, pt NB 0, .int .i64 (P.b0 + 1), .int .i64 P.b1, wv, tv, .int .i64 P.s0, .int .i64 P.s1, .int .i64 0, .int .i64 P.t1, .bool true] := hk483; clear hk483
    have hz486 := hg485.size
    refine pl_nil ?_
    refine co_blockN ?_
    refine co_ret0n h481 rfl ?_
    have hO487 := LkP.gr hO421 hg458 (fun k e => by cases e; exact ho430)
    have hO488 := LkP.gr hO487 hg474 (fun k e => by cases e; exact ho430)
    have hO489 := LkP.gr hO488 hg485 (fun k e => by cases e; exact ho430)
    have hO490 := LkP.gr hO418 (below_grown hb423) (fun k e => by cases e)
    have hO491 := LkP.gr hO490 hg458 (fun k e => by cases e; exact hQ.nB)
    have hO492 := LkP.gr hO491 hg474 (fun k e => by cases e; exact hQ.nB)
    have hO493 := LkP.gr hO492 hg485 (fun k e => by cases e; exact hQ.nB)
    have hr494 := row_kept_new hr343 hg383
    have hr495 := row_kept_at hr494 hg403 (own_neT hr494 hk395 (by decide))
    have hr496 := row_kept_new hr495 (below_grown hb423)
    have hr497 := row_kept_at hr496 hg458 (own_neT hr496 hk441 (by decide))
    have hr498 := row_kept_at hr497 hg474 (own_neT hr497 hk456' (by decide))
    have hr499 := row_kept_at hr498 hg485 (own_neT hr498 hk472' (by decide))
    have hr500 := row_kept_new hr374 hg383
    have hr501 := row_kept_at hr500 hg403 (own_neT hr500 hk395 (by decide))
    have hr502 := row_kept_new hr501 (below_grown hb423)
    have hr503 := row_kept_at hr502 hg458 (own_neT hr502 hk441 (by decide))
    have hr504 := row_kept_at hr503 hg474 (own_neT hr503 hk456' (by decide))
    have hr505 := row_kept_at hr504 hg485 (own_neT hr504 hk472' (by decide))
    have hB506 := fbU_at hB387 hg403 (fun hlt => by rcases hSb with hq | hq; exact hq; omega)
    have hB507 := fbU_call hB506 hb423
    have hB508 := fbU_at hB507 hg458 (fun hlt => by rcases hSb with hq | hq; exact hq; omega)
    have hB509 := fbU_at hB508 hg474 (fun hlt => by rcases hSb with hq | hq; exact hq; omega)
    have hB510 := fbU_at hB509 hg485 (fun hlt => by rcases hSb with hq | hq; exact hq; omega)
    obtain ⟨S9, h1, h2⟩ := PrO.fin (P := { P with A := newLn (P.b0 + 1), b0 := P.b0 + 1, t0 := 0 }) (NA := N419) (NB := NB) (wv := wv) (tv := tv) (w := w) hk483' hO489 hO493 hr499 hr505 (ap_symm (fun q h1 h2 => by have e1 := ho416 q h1; have e2 := hlo422 q h2; omega)) ho430 hQ.nB (offR_lo hlo428 (fun i hi => (hW0.lt i hi).2)) hQ.wB (offR_lo hlo428 (fun i hi => (hT0.lt i hi).2)) hQ.tB hSb hin431 hinB hinw hint hB510
    have hEq : anewP P 0 = { P with A := newLn (P.b0 + 1), b0 := P.b0 + 1, t0 := 0 } := by unfold anewP; rw [if_pos rfl]
    exact ⟨anewP P 0, S9, rfl, StepR.anew _ (by decide) hK, by rw [hEq]; exact h1, h2, hB510⟩
  ·
   rw [hc367] at h366
   have hp511 : K > 6 := of_decide_eq_true hc367
   clear hc367
   refine psk h366 rfl fun a512 h512 => ?_; clear h366
   refine psk h512 rfl fun a513 h513 => ?_; clear h512
   refine psk h513 rfl fun a514 h514 => ?_; clear h513
   refine pk0 (v := .bool true) h514 rfl fun a515 h515 => ?_; clear h514
   refine pk0 (v := .bool true) h515 rfl fun a516 h516 => ?_; clear h515
   refine pl_nil ?_
   refine co_then ?_
   refine co_true h516 rfl ?_
   refine co_seq ?_
   refine dr_gen (fun x => But (S) w x) (by kernel_rfl) (fun w517 hg518 => ?_) (fun w517 hg518 => ?_)
   ·
    have hz519 := hg518.size
    have hB520 := fbU_new hB368 hg518
    exact hB520
   have hz521 := hg518.size
   have hB522 := fbU_new hB368 hg518
   refine dk0 0 (v := pt b 0) h516 rfl rfl hB522 fun a523 h523 => ?_; clear h516
   refine dk0 1 (v := .int .i64 0) h523 rfl rfl hB522 fun a524 h524 => ?_; clear h523
   refine dk0 2 (v := pt b 0) h524 rfl rfl hB522 fun a525 h525 => ?_; clear h524
   refine dk0 3 (v := pt b 2) h525 rfl rfl hB522 fun a526 h526 => ?_; clear h525
   refine dk0 4 (v := pt b 2) h526 rfl rfl hB522 fun a527 h527 => ?_; clear h526
   refine dk0 7 (v := pt b 0) h527 rfl rfl hB522 fun a528 h528 => ?_; clear h527
   refine dk0 8 (v := pt b 2) h528 rfl rfl hB522 fun a529 h529 => ?_; clear h528
   refine dr_many [5] (by kernel_rfl) (by simp) ⟨?_, trivial⟩
   ·
    have hk530 := hk341.kept hg518 (by simp)
    refine dr_opVal (i := 5) (v := .int .i64 P.b0) h529 rfl rfl rfl rfl (by kernel_rfl) rfl (rn_load1 rfl rfl Try.isAgg3 (hk530.cell rfl)) hB522 (fun a531 h531 => ?_); clear h529
    refine dk 6 (v := .int .i64 (P.b0 + 1)) h531 rfl rfl hB522 (fun x hx => (rn_arith rfl rfl rfl rfl rfl rfl (IntWalk.i64_in _ (by omega)))) fun a532 h532 => ?_; clear h531
    refine dk0 9 (v := pt b 2) h532 rfl rfl hB522 fun a533 h533 => ?_; clear h532
    refine d1D 10 h533 rfl rfl (op_store1 rfl rfl rfl rfl Try.sizeOf3 hk530 rfl) ?_ ?_; clear h533
    ·
     rintro _ w535 ⟨hk536, hz537, hg538⟩
     have hk536' : Blk w535 b 95 #[pt NA 0, pt NB 0, .int .i64 (P.b0 + 1), .int .i64 P.b1, wv, tv, .int .i64 P.s0, .int .i64 P.s1, .int .i64 P.t0, .int .i64 P.t1, .bool true] := hk536; clear hk536
     have hz539 := hg538.size
     have hB540 := fbU_at hB522 hg538 (fun hlt => by rcases hSb with hq | hq; exact hq; omega)
     exact hB540
    rintro _ w535 a534 ⟨hk536, hz537, hg538⟩ h534
    have hk536' : Blk w535 b 95 #[pt NA 0, pt NB 0, .int .i64 (P.b0 + 1), .int .i64 P.b1, wv, tv, .int .i64 P.s0, .int .i64 P.s1, .int .i64 P.t0, .int .i64 P.t1, .bool true] := hk536; clear hk536
    have hz539 := hg538.size
    refine dr_done (by kernel_rfl) ?_
    refine co_then ?_
    refine co_seq ?_
    refine co_reg ?_
    refine pk0 (v := pt b 0) h534 rfl fun a540 h540 => ?_; clear h534
    refine pk0 (v := .int .i64 0) h540 rfl fun a541 h541 => ?_; clear h540
    refine pk0 (v := pt b 0) h541 rfl fun a542 h542 => ?_; clear h541
    refine pk0 (v := pt b 2) h542 rfl fun a543 h543 => ?_; clear h542
    refine pk0 (v := pt b 2) h543 rfl fun a544 h544 => ?_; clear h543
    refine pk (v := .int .i64 (P.b0 + 1)) h544 rfl (rn_load1 rfl rfl Try.isAgg3 (hk536'.cell rfl)) fun a545 h545 => ?_; clear h544
    have hO549 := LkP.gr hO370 hg518 (fun k e => by cases e)
    have hO550 := LkP.gr hO549 hg538 (fun k e => by cases e; exact hQ.nA)
    have ho548 := LkP.ofS hO550
    have hO552 := LkP.gr hO372 hg518 (fun k e => by cases e)
    have hO553 := LkP.gr hO552 hg538 (fun k e => by cases e; exact hQ.nB)
    have ho551 := LkP.ofS hO553
    refine pw h545 rfl (op_call (args := #[.int .i64 (P.b0 + 1)]) (R := fun res xw => ∃ (N : Nat) (S : Nat → Prop), res = .tuple #[pt N 0, .int .i64 0] ∧ LkP S xw N (newLn (P.b0 + 1)) ∧ (∀ q, S q → w535.heap.size ≤ q) ∧ Below w535.heap.size w535 xw) rfl rfl rfl (by kernel_rfl) (by kernel_rfl) (Try.call32 _ _) (nPNew (P.b0 + 1) w535 (by omega)) (by rintro e x ⟨N, S, rfl, h⟩; exact ⟨_, rfl, N, S, rfl, h⟩)) ?_; clear h545
    rintro _ w547 a546 ⟨N554, S555, rfl, hO556, hlo557, hb558⟩ h546
    have hz560 := hb558.size
    have ho561 := LkP.ofS hO550
    have ho562 := LkP.ofS hO553
    have hlo563 : ∀ q, S555 q → w.heap.size ≤ q := fun q hq => by have := hlo557 q hq; omega
    have ho564 := off_lo (N := N3) hlo557 (by omega)
    have ho565 := off_lo (N := b) hlo557 (by omega)
    have hin566 : ∀ q, S555 q → S q ∨ w.heap.size ≤ q := fun q h => .inr (hlo563 q h)
    refine pk0 (v := .tuple #[pt N554 0, .int .i64 0]) h546 rfl fun a567 h567 => ?_; clear h546
    refine pk0 (v := pt N554 0) h567 rfl fun a568 h568 => ?_; clear h567
    refine pk0 (v := .int .i64 0) h568 rfl fun a569 h569 => ?_; clear h568
    refine pk0 (v := pt N554 0) h569 rfl fun a570 h570 => ?_; clear h569
    refine pk0 (v := .int .i64 0) h570 rfl fun a571 h571 => ?_; clear h570
    refine pl_nil ?_
    refine co_then ?_
    refine co_seq ?_
    refine co_reg ?_
    refine pk0 (v := pt b 0) h571 rfl fun a572 h572 => ?_; clear h571
    refine pk0 (v := pt b 0) h572 rfl fun a573 h573 => ?_; clear h572
    refine pk0 (v := pt b 0) h573 rfl fun a574 h574 => ?_; clear h573
    refine pk0 (v := pt b 10) h574 rfl fun a575 h575 => ?_; clear h574
    have hk576 := hk536'.below hb558
    refine pk (v := .bool true) h575 rfl (rn_load1 rfl rfl Try.isAgg4 (hk576.cell rfl)) fun a577 h577 => ?_; clear h575
    refine pk0 (v := .bool true) h577 rfl fun a578 h578 => ?_; clear h577
    refine pk0 (v := .int .i64 0) h578 rfl fun a579 h579 => ?_; clear h578
    refine pk0 (v := .bool ((0 : Int) == 0)) h579 rfl fun a580 h580 => ?_; clear h579
    refine pk0 (v := .bool ((0 : Int) == 0)) h580 rfl fun a581 h581 => ?_; clear h580
    refine pk0 (v := .bool ((0 : Int) == 0)) h581 rfl fun a582 h582 => ?_; clear h581
    have hc583 : ((0 : Int) == 0) = true := by first | (simp; done) | (simp; omega) | exact beq_false_of_ne (by omega) | exact beq_iff_eq.2 (by omega)
    rw [hc583] at h582; clear hc583
    refine pk0 (v := pt N554 0) h582 rfl fun a584 h584 => ?_; clear h582
    refine pk0 (v := .bool true) h584 rfl fun a585 h585 => ?_; clear h584
    refine pk0 (v := .bool true) h585 rfl fun a586 h586 => ?_; clear h585
    refine pk0 (v := pt b 0) h586 rfl fun a587 h587 => ?_; clear h586
    refine pk0 (v := pt b 10) h587 rfl fun a588 h588 => ?_; clear h587
    refine pwD h588 rfl (op_store1 rfl rfl rfl rfl Try.sizeOf4 hk576 rfl) ?_; clear h588
    rintro _ w590 a589 ⟨hk591, hz592, hg593⟩ h589
    have hk591' : Blk w590 b 95 #[pt NA 0, pt NB 0, .int .i64 (P.b0 + 1), .int .i64 P.b1, wv, tv, .int .i64 P.s0, .int .i64 P.s1, .int .i64 P.t0, .int .i64 P.t1, .bool true] := hk591; clear hk591
    have hz594 := hg593.size
    refine pl_nil ?_
    refine co_then ?_
    refine co_seq ?_
    refine co_seq ?_
    refine co_reg ?_
    refine pk0 (v := pt b 0) h589 rfl fun a595 h595 => ?_; clear h589
    refine pk0 (v := pt b 0) h595 rfl fun a596 h596 => ?_; clear h595
    refine pk0 (v := pt b 10) h596 rfl fun a597 h597 => ?_; clear h596
    refine pk (v := .bool true) h597 rfl (rn_load1 rfl rfl Try.isAgg4 (hk591'.cell rfl)) fun a598 h598 => ?_; clear h597
    refine pl_nil ?_
    refine co_then ?_
    refine co_true h598 rfl ?_
    refine co_reg ?_
    refine pk0 (v := pt b 0) h598 rfl fun a599 h599 => ?_; clear h598
    refine pk0 (v := .int .i64 0) h599 rfl fun a600 h600 => ?_; clear h599
    refine pk0 (v := pt N554 0) h600 rfl fun a601 h601 => ?_; clear h600
    refine pk0 (v := pt b 0) h601 rfl fun a602 h602 => ?_; clear h601
    refine pk0 (v := pt b 0) h602 rfl fun a603 h603 => ?_; clear h602
    refine pk0 (v := pt b 0) h603 rfl fun a604 h604 => ?_; clear h603
    refine pwD h604 rfl (op_store1 rfl rfl rfl rfl Try.sizeOf53 hk591' rfl) ?_; clear h604
    rintro _ w606 a605 ⟨hk607, hz608, hg609⟩ h605
    have hk607' : Blk w606 b 95 #[pt N554 0, pt NB 0, .int .i64 (P.b0 + 1), .int .i64 P.b1, wv, tv, .int .i64 P.s0, .int .i64 P.s1, .int .i64 P.t0, .int .i64 P.t1, .bool true] := hk607; clear hk607
    have hz610 := hg609.size
    refine pl_nil ?_
    refine co_then ?_
    refine co_reg ?_
    refine pk0 (v := pt b 0) h605 rfl fun a611 h611 => ?_; clear h605
    refine pk0 (v := .int .i64 0) h611 rfl fun a612 h612 => ?_; clear h611
    refine pk0 (v := pt b 0) h612 rfl fun a613 h613 => ?_; clear h612
    refine pk0 (v := pt b 8) h613 rfl fun a614 h614 => ?_; clear h613
    refine pk0 (v := pt b 8) h614 rfl fun a615 h615 => ?_; clear h614
    refine pwD h615 rfl (op_store1 rfl rfl rfl rfl Try.sizeOf3 hk607' rfl) ?_; clear h615
    rintro _ w617 a616 ⟨hk618, hz619, hg620⟩ h616
    have hk618' : Blk w617 b 95 #[pt N554 0, pt NB 0, .int .i64 (P.b0 + 1), .int .i64 P.b1, wv, tv, .int .i64 P.s0, .int .i64 P.s1, .int .i64 0, .int .i64 P.t1, .bool true] := hk618; clear hk618
    have hz621 := hg620.size
    refine pl_nil ?_
    refine co_blockN ?_
    refine co_ret0n h616 rfl ?_
    have hO622 := LkP.gr hO556 hg593 (fun k e => by cases e; exact ho565)
    have hO623 := LkP.gr hO622 hg609 (fun k e => by cases e; exact ho565)
    have hO624 := LkP.gr hO623 hg620 (fun k e => by cases e; exact ho565)
    have hO625 := LkP.gr hO553 (below_grown hb558) (fun k e => by cases e)
    have hO626 := LkP.gr hO625 hg593 (fun k e => by cases e; exact hQ.nB)
    have hO627 := LkP.gr hO626 hg609 (fun k e => by cases e; exact hQ.nB)
    have hO628 := LkP.gr hO627 hg620 (fun k e => by cases e; exact hQ.nB)
    have hr629 := row_kept_new hr343 hg518
    have hr630 := row_kept_at hr629 hg538 (own_neT hr629 hk530 (by decide))
    have hr631 := row_kept_new hr630 (below_grown hb558)
    have hr632 := row_kept_at hr631 hg593 (own_neT hr631 hk576 (by decide))
    have hr633 := row_kept_at hr632 hg609 (own_neT hr632 hk591' (by decide))
    have hr634 := row_kept_at hr633 hg620 (own_neT hr633 hk607' (by decide))
    have hr635 := row_kept_new hr374 hg518
    have hr636 := row_kept_at hr635 hg538 (own_neT hr635 hk530 (by decide))
    have hr637 := row_kept_new hr636 (below_grown hb558)
    have hr638 := row_kept_at hr637 hg593 (own_neT hr637 hk576 (by decide))
    have hr639 := row_kept_at hr638 hg609 (own_neT hr638 hk591' (by decide))
    have hr640 := row_kept_at hr639 hg620 (own_neT hr639 hk607' (by decide))
    have hB641 := fbU_at hB522 hg538 (fun hlt => by rcases hSb with hq | hq; exact hq; omega)
    have hB642 := fbU_call hB641 hb558
    have hB643 := fbU_at hB642 hg593 (fun hlt => by rcases hSb with hq | hq; exact hq; omega)
    have hB644 := fbU_at hB643 hg609 (fun hlt => by rcases hSb with hq | hq; exact hq; omega)
    have hB645 := fbU_at hB644 hg620 (fun hlt => by rcases hSb with hq | hq; exact hq; omega)
    obtain ⟨S9, h1, h2⟩ := PrO.fin (P := { P with A := newLn (P.b0 + 1), b0 := P.b0 + 1, t0 := 0 }) (NA := N554) (NB := NB) (wv := wv) (tv := tv) (w := w) hk618' hO624 hO628 hr634 hr640 (ap_symm (fun q h1 h2 => by have e1 := ho551 q h1; have e2 := hlo557 q h2; omega)) ho565 hQ.nB (offR_lo hlo563 (fun i hi => (hW0.lt i hi).2)) hQ.wB (offR_lo hlo563 (fun i hi => (hT0.lt i hi).2)) hQ.tB hSb hin566 hinB hinw hint hB645
    have hEq : anewP P 0 = { P with A := newLn (P.b0 + 1), b0 := P.b0 + 1, t0 := 0 } := by unfold anewP; rw [if_pos rfl]
    exact ⟨anewP P 0, S9, rfl, StepR.anew _ (by decide) hK, by rw [hEq]; exact h1, h2, hB645⟩
end Go.Proofs.Ythmljllgfigebaa

/- catenalaw22: step, a case (anew). Conditions: none. -/
namespace Go.Proofs.Ythmljllgfigebaa
open Go.RowKit Go.PlainAid
set_option linter.unusedVariables false
set_option linter.unusedSimpArgs false

set_option maxRecDepth 100000 in
set_option maxHeartbeats 6400000 in
theorem step_anew1 (S : Nat → Prop) (b : Nat) (P : PrT) (K : Int) (n : Int) (g : Bool) (w : World) (hP : PrO S w b P) (hst : StepH P) (hn : 0 ≤ n ∧ n ≤ 255) (hK : 6 < K ∨ K < 0) (hn2 : n.tmod 2 = 1) :
    Calls Try.prog 49 #[pt b 0, .agg #[.int .i64 K, .int .u8 n, .bool g]] w fun e w' => ∃ (P' : PrT) (S' : Nat → Prop), e = .returned (.tuple #[]) ∧ StepR K P P' ∧ PrO S' w' b P' ∧ Grew S S' w w' ∧ But (S) w w' := by
 have hlW := hst.lW
 have hlT := hst.lT
 obtain ⟨q1, q2⟩ := hst.bt
 obtain ⟨q3, q4⟩ := hst.st
 obtain ⟨i0, hi0⟩ : ∃ i0 : Nat, 0 < P.W.length → n.tmod (P.W.length : Nat) = (i0 : Nat) ∧ i0 < P.W.length := ⟨(n.tmod (P.W.length : Nat)).toNat, fun h => by have e1 := Int.tmod_nonneg (P.W.length : Int) hn.1; have e2 := Int.tmod_lt_of_pos n (show (0 : Int) < (P.W.length : Nat) by omega); omega⟩
 have hB0 := But.refl (S) w
 obtain ⟨NA, NB, SA, SB, wv, tv, hQ⟩ := hP
 have hBk : Blk w b 95 #[pt NA 0, pt NB 0, .int .i64 P.b0, .int .i64 P.b1, wv, tv, .int .i64 P.s0, .int .i64 P.s1, .int .i64 P.t0, .int .i64 P.t1, .bool true] := hQ.blk
 have hl_b := hBk.lt
 have hSb : S b ∨ w.heap.size ≤ b := .inl ((hQ.fp b).2 (.inl rfl))
 have hinA : ∀ q, SA q → S q ∨ w.heap.size ≤ q := fun q h => .inl ((hQ.fp q).2 (.inr (.inl h)))
 have hinB : ∀ q, SB q → S q ∨ w.heap.size ≤ q := fun q h => .inl ((hQ.fp q).2 (.inr (.inr (.inl h))))
 have hinw : InS S w.heap.size wv := InS.of (fun i hi => (hQ.fp i).2 (.inr (.inr (.inr (.inl hi)))))
 have hint : InS S w.heap.size tv := InS.of (fun i hi => (hQ.fp i).2 (.inr (.inr (.inr (.inr hi)))))
 have hW0 := hQ.way
 have hT0 := hQ.to
 refine co_enter (n := 192) Try.func49 rfl rfl rfl [(0, pt b 0), (1, .agg #[.int .i64 K, .int .u8 n, .bool g])] rfl (fun a h0 => ?_)
 refine co_seq ?_
 refine co_reg ?_
 refine pw h0 rfl (op_new (v := fun N => pt N 0) (T := 90) (cs := #[.int .i64 K, .int .u8 n, .bool g]) (by kernel_rfl) (by kernel_rfl) (by kernel_rfl)) ?_; clear h0
 rintro _ w2 a1 ⟨N3, rfl, hN6, hz7, hk5, hg4⟩ h1
 have ha8 := row_fresh hW0 hN6
 have hu9 := row_under hW0 hN6
 have ha10 := row_fresh hT0 hN6
 have hu11 := row_under hT0 hN6
 have hz12 := hg4.size
 have ho13 := off_new (LkP.ofS hQ.hA) hN6
 have ho14 := off_new (LkP.ofS hQ.hB) hN6
 try dsimp only at h1
 refine pl_nil ?_
 refine co_then ?_
 refine co_seq ?_
 refine co_reg ?_
 refine pk0 (v := pt N3 1) h1 rfl fun a15 h15 => ?_; clear h1
 refine pk (v := .int .u8 n) h15 rfl (rn_load1 rfl rfl Try.isAgg5 (hk5.cell rfl)) fun a16 h16 => ?_; clear h15
 refine pk (v := .int .i64 n) h16 rfl (rn_conv rfl rfl Try.underlying5 Try.underlying3 (IntWalk.i64_in _ (by omega))) fun a17 h17 => ?_; clear h16
 refine pk (v := .int .i64 1) h17 rfl (rn_remP rfl rfl rfl (by decide) rfl hn2) fun a18 h18 => ?_; clear h17
 refine pk0 (v := .int .i64 1) h18 rfl fun a19 h19 => ?_; clear h18
 refine pl_nil ?_
 refine co_then ?_
 refine co_seq ?_
 refine co_reg ?_
 refine pk0 (v := .int .i64 0) h19 rfl fun a20 h20 => ?_; clear h19
 refine pl_nil ?_
 refine co_then ?_
 refine co_seq ?_
 refine co_seq ?_
 refine co_reg ?_
 refine pk0 (v := pt b 0) h20 rfl fun a21 h21 => ?_; clear h20
 refine pk0 (v := pt b 0) h21 rfl fun a22 h22 => ?_; clear h21
 refine pk0 (v := pt b 4) h22 rfl fun a23 h23 => ?_; clear h22
 have hk24 := hBk.kept hg4 (by simp)
 refine pk (v := wv) h23 rfl (rn_load1 rfl rfl Try.isAgg67 (hk24.cell rfl)) fun a25 h25 => ?_; clear h23
 have hr26 := row_kept_new hW0 hg4
 refine pk (v := .int .i64 ((P.W.length : Nat) : Int)) h25 rfl (rn_lenOwn rfl rfl Try.underlying67 hr26) fun a27 h27 => ?_; clear h25
 refine pk0 (v := .bool (decide (((P.W.length : Nat) : Int) > 0))) h27 rfl fun a28 h28 => ?_; clear h27
 refine pl_nil ?_
 refine co_then ?_
 have hB30 := fbU_new hB0 hg4
 cases hc29 : (decide (((P.W.length : Nat) : Int) > 0))
 ·
  rw [hc29] at h28
  have hp31 : ¬ (((P.W.length : Nat) : Int) > 0) := of_decide_eq_false hc29
  clear hc29
  refine co_false h28 rfl ?_
  refine wp_skip ?_
  refine co_then ?_
  refine wp_block ?_
  refine co_seq ?_
  refine co_reg ?_
  refine pk0 (v := pt N3 0) h28 rfl fun a32 h32 => ?_; clear h28
  refine pk (v := .int .i64 K) h32 rfl (rn_load1 rfl rfl Try.isAgg3 (hk5.cell rfl)) fun a33 h33 => ?_; clear h32
  refine pk0 (v := .bool (K == 0)) h33 rfl fun a34 h34 => ?_; clear h33
  refine pk0 (v := .bool (K == 0)) h34 rfl fun a35 h35 => ?_; clear h34
  have hc36 : (K == 0) = false := by first | (simp; done) | (simp; omega) | exact beq_false_of_ne (by omega) | exact beq_iff_eq.2 (by omega)
  rw [hc36] at h35; clear hc36
  refine pk0 (v := pt N3 0) h35 rfl fun a37 h37 => ?_; clear h35
  refine pk (v := .int .i64 K) h37 rfl (rn_load1 rfl rfl Try.isAgg3 (hk5.cell rfl)) fun a38 h38 => ?_; clear h37
  refine pk0 (v := .bool (K == 1)) h38 rfl fun a39 h39 => ?_; clear h38
  refine pk0 (v := .bool (K == 1)) h39 rfl fun a40 h40 => ?_; clear h39
  refine pk0 (v := .bool (K == 1)) h40 rfl fun a41 h41 => ?_; clear h40
  refine pl_nil ?_
  refine co_then ?_
  have hc42 : (K == 1) = false := by first | (simp; done) | (simp; omega) | exact beq_false_of_ne (by omega) | exact beq_iff_eq.2 (by omega)
  rw [hc42] at h41; clear hc42
  refine co_false h41 rfl ?_
  refine co_seq ?_
  refine co_reg ?_
  refine pk0 (v := pt N3 0) h41 rfl fun a43 h43 => ?_; clear h41
  refine pk (v := .int .i64 K) h43 rfl (rn_load1 rfl rfl Try.isAgg3 (hk5.cell rfl)) fun a44 h44 => ?_; clear h43
  refine pk0 (v := .bool (K == 2)) h44 rfl fun a45 h45 => ?_; clear h44
  refine pk0 (v := .bool (K == 2)) h45 rfl fun a46 h46 => ?_; clear h45
  refine pl_nil ?_
  refine co_then ?_
  have hc47 : (K == 2) = false := by first | (simp; done) | (simp; omega) | exact beq_false_of_ne (by omega) | exact beq_iff_eq.2 (by omega)
  rw [hc47] at h46; clear hc47
  refine co_false h46 rfl ?_
  refine co_seq ?_
  refine co_reg ?_
  refine pk0 (v := pt N3 0) h46 rfl fun a48 h48 => ?_; clear h46
  refine pk (v := .int .i64 K) h48 rfl (rn_load1 rfl rfl Try.isAgg3 (hk5.cell rfl)) fun a49 h49 => ?_; clear h48
  refine pk0 (v := .bool (decide (K > 6))) h49 rfl fun a50 h50 => ?_; clear h49
  refine pk0 (v := .bool (decide (K > 6))) h50 rfl fun a51 h51 => ?_; clear h50
  cases hc52 : (decide (K > 6))
  ·
   rw [hc52] at h51
   have hp53 : ¬ (K > 6) := of_decide_eq_false hc52
   clear hc52
   refine pk0 (v := pt N3 0) h51 rfl fun a54 h54 => ?_; clear h51
   refine pk (v := .int .i64 K) h54 rfl (rn_load1 rfl rfl Try.isAgg3 (hk5.cell rfl)) fun a55 h55 => ?_; clear h54
   refine pk0 (v := .bool (decide (K < 0))) h55 rfl fun a56 h56 => ?_; clear h55
   refine pk0 (v := .bool (decide (K < 0))) h56 rfl fun a57 h57 => ?_; clear h56
   refine pk0 (v := .bool (decide (K < 0))) h57 rfl fun a58 h58 => ?_; clear h57
   refine pl_nil ?_
   refine co_then ?_
   have hc59 : (decide (K < 0)) = true := decide_eq_true (by omega)
   rw [hc59] at h58; clear hc59
   refine co_true h58 rfl ?_
   refine co_seq ?_
   refine dr_gen (fun x => But (S) w x) (by kernel_rfl) (fun w60 hg61 => ?_) (fun w60 hg61 => ?_)
   ·
    have hz62 := hg61.size
    have hB63 := fbU_new hB30 hg61
    exact hB63
   have hz64 := hg61.size
   have hB65 := fbU_new hB30 hg61
   refine dk0 0 (v := pt b 0) h58 rfl rfl hB65 fun a66 h66 => ?_; clear h58
   refine dk0 1 (v := .int .i64 1) h66 rfl rfl hB65 fun a67 h67 => ?_; clear h66
   refine dk0 2 (v := pt b 0) h67 rfl rfl hB65 fun a68 h68 => ?_; clear h67
   refine dk0 3 (v := pt b 2) h68 rfl rfl hB65 fun a69 h69 => ?_; clear h68
   refine dk0 4 (v := pt b 3) h69 rfl rfl hB65 fun a70 h70 => ?_; clear h69
   refine dk0 7 (v := pt b 0) h70 rfl rfl hB65 fun a71 h71 => ?_; clear h70
   refine dk0 8 (v := pt b 2) h71 rfl rfl hB65 fun a72 h72 => ?_; clear h71
   refine dr_many [5] (by kernel_rfl) (by simp) ⟨?_, trivial⟩
   ·
    have hk73 := hk24.kept hg61 (by simp)
    refine dr_opVal (i := 5) (v := .int .i64 P.b1) h72 rfl rfl rfl rfl (by kernel_rfl) rfl (rn_load1 rfl rfl Try.isAgg3 (hk73.cell rfl)) hB65 (fun a74 h74 => ?_); clear h72
    refine dk 6 (v := .int .i64 (P.b1 + 1)) h74 rfl rfl hB65 (fun x hx => (rn_arith rfl rfl rfl rfl rfl rfl (IntWalk.i64_in _ (by omega)))) fun a75 h75 => ?_; clear h74
    refine dk0 9 (v := pt b 3) h75 rfl rfl hB65 fun a76 h76 => ?_; clear h75
    refine d1D 10 h76 rfl rfl (op_store1 rfl rfl rfl rfl Try.sizeOf3 hk73 rfl) ?_ ?_; clear h76
    ·
     rintro _ w78 ⟨hk79, hz80, hg81⟩
     have hk79' : Blk w78 b 95 #[pt NA 0, pt NB 0, .int .i64 P.b0, .int .i64 (P.b1 + 1), wv, tv, .int .i64 P.s0, .int .i64 P.s1, .int .i64 P.t0, .int .i64 P.t1, .bool true] := hk79; clear hk79
     have hz82 := hg81.size
     have hB83 := fbU_at hB65 hg81 (fun hlt => by rcases hSb with hq | hq; exact hq; omega)
     exact hB83
    rintro _ w78 a77 ⟨hk79, hz80, hg81⟩ h77
    have hk79' : Blk w78 b 95 #[pt NA 0, pt NB 0, .int .i64 P.b0, .int .i64 (P.b1 + 1), wv, tv, .int .i64 P.s0, .int .i64 P.s1, .int .i64 P.t0, .int .i64 P.t1, .bool true] := hk79; clear hk79
    have hz82 := hg81.size
    refine dr_done (by kernel_rfl) ?_
    refine co_then ?_
    refine co_seq ?_
    refine co_reg ?_
    refine pk0 (v := pt b 0) h77 rfl fun a83 h83 => ?_; clear h77
    refine pk0 (v := .int .i64 1) h83 rfl fun a84 h84 => ?_; clear h83
    refine pk0 (v := pt b 0) h84 rfl fun a85 h85 => ?_; clear h84
    refine pk0 (v := pt b 2) h85 rfl fun a86 h86 => ?_; clear h85
    refine pk0 (v := pt b 3) h86 rfl fun a87 h87 => ?_; clear h86
    refine pk (v := .int .i64 (P.b1 + 1)) h87 rfl (rn_load1 rfl rfl Try.isAgg3 (hk79'.cell rfl)) fun a88 h88 => ?_; clear h87
    have hO92 := LkP.gr hQ.hA hg4 (fun k e => by cases e)
    have hO93 := LkP.gr hO92 hg61 (fun k e => by cases e)
    have hO94 := LkP.gr hO93 hg81 (fun k e => by cases e; exact hQ.nA)
    have ho91 := LkP.ofS hO94
    have hO96 := LkP.gr hQ.hB hg4 (fun k e => by cases e)
    have hO97 := LkP.gr hO96 hg61 (fun k e => by cases e)
    have hO98 := LkP.gr hO97 hg81 (fun k e => by cases e; exact hQ.nB)
    have ho95 := LkP.ofS hO98
    refine pw h88 rfl (op_call (args := #[.int .i64 (P.b1 + 1)]) (R := fun res xw => ∃ (N : Nat) (S : Nat → Prop), res = .tuple #[pt N 0, .int .i64 0] ∧ LkP S xw N (newLn (P.b1 + 1)) ∧ (∀ q, S q → w78.heap.size ≤ q) ∧ Below w78.heap.size w78 xw) rfl rfl rfl (by kernel_rfl) (by kernel_rfl) (Try.call32 _ _) (nPNew (P.b1 + 1) w78 (by omega)) (by rintro e x ⟨N, S, rfl, h⟩; exact ⟨_, rfl, N, S, rfl, h⟩)) ?_; clear h88
    rintro _ w90 a89 ⟨N99, S100, rfl, hO101, hlo102, hb103⟩ h89
    have hz105 := hb103.size
    have ho106 := LkP.ofS hO94
    have ho107 := LkP.ofS hO98
    have hlo108 : ∀ q, S100 q → w.heap.size ≤ q := fun q hq => by have := hlo102 q hq; omega
    have ho109 := off_lo (N := N3) hlo102 (by omega)
    have ho110 := off_lo (N := b) hlo102 (by omega)
    have hin111 : ∀ q, S100 q → S q ∨ w.heap.size ≤ q := fun q h => .inr (hlo108 q h)
    refine pk0 (v := .tuple #[pt N99 0, .int .i64 0]) h89 rfl fun a112 h112 => ?_; clear h89
    refine pk0 (v := pt N99 0) h112 rfl fun a113 h113 => ?_; clear h112
    refine pk0 (v := .int .i64 0) h113 rfl fun a114 h114 => ?_; clear h113
    refine pk0 (v := pt N99 0) h114 rfl fun a115 h115 => ?_; clear h114
    refine pk0 (v := .int .i64 0) h115 rfl fun a116 h116 => ?_; clear h115
    refine pl_nil ?_
    refine co_then ?_
    refine co_seq ?_
    refine co_reg ?_
    refine pk0 (v := pt b 0) h116 rfl fun a117 h117 => ?_; clear h116
    refine pk0 (v := pt b 0) h117 rfl fun a118 h118 => ?_; clear h117
    refine pk0 (v := pt b 0) h118 rfl fun a119 h119 => ?_; clear h118
    refine pk0 (v := pt b 10) h119 rfl fun a120 h120 => ?_; clear h119
    have hk121 := hk79'.below hb103
    refine pk (v := .bool true) h120 rfl (rn_load1 rfl rfl Try.isAgg4 (hk121.cell rfl)) fun a122 h122 => ?_; clear h120
    refine pk0 (v := .bool true) h122 rfl fun a123 h123 => ?_; clear h122
    refine pk0 (v := .int .i64 0) h123 rfl fun a124 h124 => ?_; clear h123
    refine pk0 (v := .bool ((0 : Int) == 0)) h124 rfl fun a125 h125 => ?_; clear h124
    refine pk0 (v := .bool ((0 : Int) == 0)) h125 rfl fun a126 h126 => ?_; clear h125
    refine pk0 (v := .bool ((0 : Int) == 0)) h126 rfl fun a127 h127 => ?_; clear h126
    have hc128 : ((0 : Int) == 0) = true := by first | (simp; done) | (simp; omega) | exact beq_false_of_ne (by omega) | exact beq_iff_eq.2 (by omega)
    rw [hc128] at h127; clear hc128
    refine pk0 (v := pt N99 0) h127 rfl fun a129 h129 => ?_; clear h127
    refine pk0 (v := .bool true) h129 rfl fun a130 h130 => ?_; clear h129
    refine pk0 (v := .bool true) h130 rfl fun a131 h131 => ?_; clear h130
    refine pk0 (v := pt b 0) h131 rfl fun a132 h132 => ?_; clear h131
    refine pk0 (v := pt b 10) h132 rfl fun a133 h133 => ?_; clear h132
    refine pwD h133 rfl (op_store1 rfl rfl rfl rfl Try.sizeOf4 hk121 rfl) ?_; clear h133
    rintro _ w135 a134 ⟨hk136, hz137, hg138⟩ h134
    have hk136' : Blk w135 b 95 #[pt NA 0, pt NB 0, .int .i64 P.b0, .int .i64 (P.b1 + 1), wv, tv, .int .i64 P.s0, .int .i64 P.s1, .int .i64 P.t0, .int .i64 P.t1, .bool true] := hk136; clear hk136
    have hz139 := hg138.size
    refine pl_nil ?_
    refine co_then ?_
    refine co_seq ?_
    refine co_seq ?_
    refine co_reg ?_
    refine pk0 (v := pt b 0) h134 rfl fun a140 h140 => ?_; clear h134
    refine pk0 (v := pt b 0) h140 rfl fun a141 h141 => ?_; clear h140
    refine pk0 (v := pt b 10) h141 rfl fun a142 h142 => ?_; clear h141
    refine pk (v := .bool true) h142 rfl (rn_load1 rfl rfl Try.isAgg4 (hk136'.cell rfl)) fun a143 h143 => ?_; clear h142
    refine pl_nil ?_
    refine co_then ?_
    refine co_true h143 rfl ?_
    refine co_reg ?_
    refine pk0 (v := pt b 0) h143 rfl fun a144 h144 => ?_; clear h143
    refine pk0 (v := .int .i64 1) h144 rfl fun a145 h145 => ?_; clear h144
    refine pk0 (v := pt N99 0) h145 rfl fun a146 h146 => ?_; clear h145
    refine pk0 (v := pt b 0) h146 rfl fun a147 h147 => ?_; clear h146
    refine pk0 (v := pt b 0) h147 rfl fun a148 h148 => ?_; clear h147
    refine pk0 (v := pt b 1) h148 rfl fun a149 h149 => ?_; clear h148
    refine pwD h149 rfl (op_store1 rfl rfl rfl rfl Try.sizeOf53 hk136' rfl) ?_; clear h149
    rintro _ w151 a150 ⟨hk152, hz153, hg154⟩ h150
    have hk152' : Blk w151 b 95 #[pt NA 0, pt N99 0, .int .i64 P.b0, .int .i64 (P.b1 + 1), wv, tv, .int .i64 P.s0, .int .i64 P.s1, .int .i64 P.t0, .int .i64 P.t1, .bool true] := hk152; clear hk152
    have hz155 := hg154.size
    refine pl_nil ?_
    refine co_then ?_
    refine co_reg ?_
    refine pk0 (v := pt b 0) h150 rfl fun a156 h156 => ?_; clear h150
    refine pk0 (v := .int .i64 1) h156 rfl fun a157 h157 => ?_; clear h156
    refine pk0 (v := pt b 0) h157 rfl fun a158 h158 => ?_; clear h157
    refine pk0 (v := pt b 8) h158 rfl fun a159 h159 => ?_; clear h158
    refine pk0 (v := pt b 9) h159 rfl fun a160 h160 => ?_; clear h159
    refine pwD h160 rfl (op_store1 rfl rfl rfl rfl Try.sizeOf3 hk152' rfl) ?_; clear h160
    rintro _ w162 a161 ⟨hk163, hz164, hg165⟩ h161
    have hk163' : Blk w162 b 95 #[pt NA 0, pt N99 0, .int .i64 P.b0, .int .i64 (P.b1 + 1), wv, tv, .int .i64 P.s0, .int .i64 P.s1, .int .i64 P.t0, .int .i64 0, .bool true] := hk163; clear hk163
    have hz166 := hg165.size
    refine pl_nil ?_
    refine co_blockN ?_
    refine co_ret0n h161 rfl ?_
    have hO167 := LkP.gr hO94 (below_grown hb103) (fun k e => by cases e)
    have hO168 := LkP.gr hO167 hg138 (fun k e => by cases e; exact hQ.nA)
    have hO169 := LkP.gr hO168 hg154 (fun k e => by cases e; exact hQ.nA)
    have hO170 := LkP.gr hO169 hg165 (fun k e => by cases e; exact hQ.nA)
    have hO171 := LkP.gr hO101 hg138 (fun k e => by cases e; exact ho110)
    have hO172 := LkP.gr hO171 hg154 (fun k e => by cases e; exact ho110)
    have hO173 := LkP.gr hO172 hg165 (fun k e => by cases e; exact ho110)
    have hr174 := row_kept_new hr26 hg61
    have hr175 := row_kept_at hr174 hg81 (own_neT hr174 hk73 (by decide))
    have hr176 := row_kept_new hr175 (below_grown hb103)
    have hr177 := row_kept_at hr176 hg138 (own_neT hr176 hk121 (by decide))
    have hr178 := row_kept_at hr177 hg154 (own_neT hr177 hk136' (by decide))
    have hr179 := row_kept_at hr178 hg165 (own_neT hr178 hk152' (by decide))
    have hr180 := row_kept_new hT0 hg4
    have hr181 := row_kept_new hr180 hg61
    have hr182 := row_kept_at hr181 hg81 (own_neT hr181 hk73 (by decide))
    have hr183 := row_kept_new hr182 (below_grown hb103)
    have hr184 := row_kept_at hr183 hg138 (own_neT hr183 hk121 (by decide))
    have hr185 := row_kept_at hr184 hg154 (own_neT hr184 hk136' (by decide))
    have hr186 := row_kept_at hr185 hg165 (own_neT hr185 hk152' (by decide))
    have hB187 := fbU_at hB65 hg81 (fun hlt => by rcases hSb with hq | hq; exact hq; omega)
    have hB188 := fbU_call hB187 hb103
    have hB189 := fbU_at hB188 hg138 (fun hlt => by rcases hSb with hq | hq; exact hq; omega)
    have hB190 := fbU_at hB189 hg154 (fun hlt => by rcases hSb with hq | hq; exact hq; omega)
    have hB191 := fbU_at hB190 hg165 (fun hlt => by rcases hSb with hq | hq; exact hq; omega)
    obtain ⟨S9, h1, h2⟩ := PrO.fin (P := { P with B := newLn (P.b1 + 1), b1 := P.b1 + 1, t1 := 0 }) (NA := NA) (NB := N99) (wv := wv) (tv := tv) (w := w) hk163' hO170 hO173 hr179 hr186 (fun q h1 h2 => by have e1 := ho91 q h1; have e2 := hlo102 q h2; omega) hQ.nA ho110 hQ.wA (offR_lo hlo108 (fun i hi => (hW0.lt i hi).2)) hQ.tA (offR_lo hlo108 (fun i hi => (hT0.lt i hi).2)) hSb hinA hin111 hinw hint hB191
    have hEq : anewP P 1 = { P with B := newLn (P.b1 + 1), b1 := P.b1 + 1, t1 := 0 } := by unfold anewP; rw [if_neg (by decide)]
    exact ⟨anewP P 1, S9, rfl, StepR.anew _ (by decide) hK, by rw [hEq]; exact h1, h2, hB191⟩
  ·
   rw [hc52] at h51
   have hp192 : K > 6 := of_decide_eq_true hc52
   clear hc52
   refine psk h51 rfl fun a193 h193 => ?_; clear h51
   refine psk h193 rfl fun a194 h194 => ?_; clear h193
   refine psk h194 rfl fun a195 h195 => ?_; clear h194
   refine pk0 (v := .bool true) h195 rfl fun a196 h196 => ?_; clear h195
   refine pk0 (v := .bool true) h196 rfl fun a197 h197 => ?_; clear h196
   refine pl_nil ?_
   refine co_then ?_
   refine co_true h197 rfl ?_
   refine co_seq ?_
   refine dr_gen (fun x => But (S) w x) (by kernel_rfl) (fun w198 hg199 => ?_) (fun w198 hg199 => ?_)
   ·
    have hz200 := hg199.size
    have hB201 := fbU_new hB30 hg199
    exact hB201
   have hz202 := hg199.size
   have hB203 := fbU_new hB30 hg199
   refine dk0 0 (v := pt b 0) h197 rfl rfl hB203 fun a204 h204 => ?_; clear h197
   refine dk0 1 (v := .int .i64 1) h204 rfl rfl hB203 fun a205 h205 => ?_; clear h204
   refine dk0 2 (v := pt b 0) h205 rfl rfl hB203 fun a206 h206 => ?_; clear h205
   refine dk0 3 (v := pt b 2) h206 rfl rfl hB203 fun a207 h207 => ?_; clear h206
   refine dk0 4 (v := pt b 3) h207 rfl rfl hB203 fun a208 h208 => ?_; clear h207
   refine dk0 7 (v := pt b 0) h208 rfl rfl hB203 fun a209 h209 => ?_; clear h208
   refine dk0 8 (v := pt b 2) h209 rfl rfl hB203 fun a210 h210 => ?_; clear h209
   refine dr_many [5] (by kernel_rfl) (by simp) ⟨?_, trivial⟩
   ·
    have hk211 := hk24.kept hg199 (by simp)
    refine dr_opVal (i := 5) (v := .int .i64 P.b1) h210 rfl rfl rfl rfl (by kernel_rfl) rfl (rn_load1 rfl rfl Try.isAgg3 (hk211.cell rfl)) hB203 (fun a212 h212 => ?_); clear h210
    refine dk 6 (v := .int .i64 (P.b1 + 1)) h212 rfl rfl hB203 (fun x hx => (rn_arith rfl rfl rfl rfl rfl rfl (IntWalk.i64_in _ (by omega)))) fun a213 h213 => ?_; clear h212
    refine dk0 9 (v := pt b 3) h213 rfl rfl hB203 fun a214 h214 => ?_; clear h213
    refine d1D 10 h214 rfl rfl (op_store1 rfl rfl rfl rfl Try.sizeOf3 hk211 rfl) ?_ ?_; clear h214
    ·
     rintro _ w216 ⟨hk217, hz218, hg219⟩
     have hk217' : Blk w216 b 95 #[pt NA 0, pt NB 0, .int .i64 P.b0, .int .i64 (P.b1 + 1), wv, tv, .int .i64 P.s0, .int .i64 P.s1, .int .i64 P.t0, .int .i64 P.t1, .bool true] := hk217; clear hk217
     have hz220 := hg219.size
     have hB221 := fbU_at hB203 hg219 (fun hlt => by rcases hSb with hq | hq; exact hq; omega)
     exact hB221
    rintro _ w216 a215 ⟨hk217, hz218, hg219⟩ h215
    have hk217' : Blk w216 b 95 #[pt NA 0, pt NB 0, .int .i64 P.b0, .int .i64 (P.b1 + 1), wv, tv, .int .i64 P.s0, .int .i64 P.s1, .int .i64 P.t0, .int .i64 P.t1, .bool true] := hk217; clear hk217
    have hz220 := hg219.size
    refine dr_done (by kernel_rfl) ?_
    refine co_then ?_
    refine co_seq ?_
    refine co_reg ?_
    refine pk0 (v := pt b 0) h215 rfl fun a221 h221 => ?_; clear h215
    refine pk0 (v := .int .i64 1) h221 rfl fun a222 h222 => ?_; clear h221
    refine pk0 (v := pt b 0) h222 rfl fun a223 h223 => ?_; clear h222
    refine pk0 (v := pt b 2) h223 rfl fun a224 h224 => ?_; clear h223
    refine pk0 (v := pt b 3) h224 rfl fun a225 h225 => ?_; clear h224
    refine pk (v := .int .i64 (P.b1 + 1)) h225 rfl (rn_load1 rfl rfl Try.isAgg3 (hk217'.cell rfl)) fun a226 h226 => ?_; clear h225
    have hO230 := LkP.gr hQ.hA hg4 (fun k e => by cases e)
    have hO231 := LkP.gr hO230 hg199 (fun k e => by cases e)
    have hO232 := LkP.gr hO231 hg219 (fun k e => by cases e; exact hQ.nA)
    have ho229 := LkP.ofS hO232
    have hO234 := LkP.gr hQ.hB hg4 (fun k e => by cases e)
    have hO235 := LkP.gr hO234 hg199 (fun k e => by cases e)
    have hO236 := LkP.gr hO235 hg219 (fun k e => by cases e; exact hQ.nB)
    have ho233 := LkP.ofS hO236
    refine pw h226 rfl (op_call (args := #[.int .i64 (P.b1 + 1)]) (R := fun res xw => ∃ (N : Nat) (S : Nat → Prop), res = .tuple #[pt N 0, .int .i64 0] ∧ LkP S xw N (newLn (P.b1 + 1)) ∧ (∀ q, S q → w216.heap.size ≤ q) ∧ Below w216.heap.size w216 xw) rfl rfl rfl (by kernel_rfl) (by kernel_rfl) (Try.call32 _ _) (nPNew (P.b1 + 1) w216 (by omega)) (by rintro e x ⟨N, S, rfl, h⟩; exact ⟨_, rfl, N, S, rfl, h⟩)) ?_; clear h226
    rintro _ w228 a227 ⟨N237, S238, rfl, hO239, hlo240, hb241⟩ h227
    have hz243 := hb241.size
    have ho244 := LkP.ofS hO232
    have ho245 := LkP.ofS hO236
    have hlo246 : ∀ q, S238 q → w.heap.size ≤ q := fun q hq => by have := hlo240 q hq; omega
    have ho247 := off_lo (N := N3) hlo240 (by omega)
    have ho248 := off_lo (N := b) hlo240 (by omega)
    have hin249 : ∀ q, S238 q → S q ∨ w.heap.size ≤ q := fun q h => .inr (hlo246 q h)
    refine pk0 (v := .tuple #[pt N237 0, .int .i64 0]) h227 rfl fun a250 h250 => ?_; clear h227
    refine pk0 (v := pt N237 0) h250 rfl fun a251 h251 => ?_; clear h250
    refine pk0 (v := .int .i64 0) h251 rfl fun a252 h252 => ?_; clear h251
    refine pk0 (v := pt N237 0) h252 rfl fun a253 h253 => ?_; clear h252
    refine pk0 (v := .int .i64 0) h253 rfl fun a254 h254 => ?_; clear h253
    refine pl_nil ?_
    refine co_then ?_
    refine co_seq ?_
    refine co_reg ?_
    refine pk0 (v := pt b 0) h254 rfl fun a255 h255 => ?_; clear h254
    refine pk0 (v := pt b 0) h255 rfl fun a256 h256 => ?_; clear h255
    refine pk0 (v := pt b 0) h256 rfl fun a257 h257 => ?_; clear h256
    refine pk0 (v := pt b 10) h257 rfl fun a258 h258 => ?_; clear h257
    have hk259 := hk217'.below hb241
    refine pk (v := .bool true) h258 rfl (rn_load1 rfl rfl Try.isAgg4 (hk259.cell rfl)) fun a260 h260 => ?_; clear h258
    refine pk0 (v := .bool true) h260 rfl fun a261 h261 => ?_; clear h260
    refine pk0 (v := .int .i64 0) h261 rfl fun a262 h262 => ?_; clear h261
    refine pk0 (v := .bool ((0 : Int) == 0)) h262 rfl fun a263 h263 => ?_; clear h262
    refine pk0 (v := .bool ((0 : Int) == 0)) h263 rfl fun a264 h264 => ?_; clear h263
    refine pk0 (v := .bool ((0 : Int) == 0)) h264 rfl fun a265 h265 => ?_; clear h264
    have hc266 : ((0 : Int) == 0) = true := by first | (simp; done) | (simp; omega) | exact beq_false_of_ne (by omega) | exact beq_iff_eq.2 (by omega)
    rw [hc266] at h265; clear hc266
    refine pk0 (v := pt N237 0) h265 rfl fun a267 h267 => ?_; clear h265
    refine pk0 (v := .bool true) h267 rfl fun a268 h268 => ?_; clear h267
    refine pk0 (v := .bool true) h268 rfl fun a269 h269 => ?_; clear h268
    refine pk0 (v := pt b 0) h269 rfl fun a270 h270 => ?_; clear h269
    refine pk0 (v := pt b 10) h270 rfl fun a271 h271 => ?_; clear h270
    refine pwD h271 rfl (op_store1 rfl rfl rfl rfl Try.sizeOf4 hk259 rfl) ?_; clear h271
    rintro _ w273 a272 ⟨hk274, hz275, hg276⟩ h272
    have hk274' : Blk w273 b 95 #[pt NA 0, pt NB 0, .int .i64 P.b0, .int .i64 (P.b1 + 1), wv, tv, .int .i64 P.s0, .int .i64 P.s1, .int .i64 P.t0, .int .i64 P.t1, .bool true] := hk274; clear hk274
    have hz277 := hg276.size
    refine pl_nil ?_
    refine co_then ?_
    refine co_seq ?_
    refine co_seq ?_
    refine co_reg ?_
    refine pk0 (v := pt b 0) h272 rfl fun a278 h278 => ?_; clear h272
    refine pk0 (v := pt b 0) h278 rfl fun a279 h279 => ?_; clear h278
    refine pk0 (v := pt b 10) h279 rfl fun a280 h280 => ?_; clear h279
    refine pk (v := .bool true) h280 rfl (rn_load1 rfl rfl Try.isAgg4 (hk274'.cell rfl)) fun a281 h281 => ?_; clear h280
    refine pl_nil ?_
    refine co_then ?_
    refine co_true h281 rfl ?_
    refine co_reg ?_
    refine pk0 (v := pt b 0) h281 rfl fun a282 h282 => ?_; clear h281
    refine pk0 (v := .int .i64 1) h282 rfl fun a283 h283 => ?_; clear h282
    refine pk0 (v := pt N237 0) h283 rfl fun a284 h284 => ?_; clear h283
    refine pk0 (v := pt b 0) h284 rfl fun a285 h285 => ?_; clear h284
    refine pk0 (v := pt b 0) h285 rfl fun a286 h286 => ?_; clear h285
    refine pk0 (v := pt b 1) h286 rfl fun a287 h287 => ?_; clear h286
    refine pwD h287 rfl (op_store1 rfl rfl rfl rfl Try.sizeOf53 hk274' rfl) ?_; clear h287
    rintro _ w289 a288 ⟨hk290, hz291, hg292⟩ h288
    have hk290' : Blk w289 b 95 #[pt NA 0, pt N237 0, .int .i64 P.b0, .int .i64 (P.b1 + 1), wv, tv, .int .i64 P.s0, .int .i64 P.s1, .int .i64 P.t0, .int .i64 P.t1, .bool true] := hk290; clear hk290
    have hz293 := hg292.size
    refine pl_nil ?_
    refine co_then ?_
    refine co_reg ?_
    refine pk0 (v := pt b 0) h288 rfl fun a294 h294 => ?_; clear h288
    refine pk0 (v := .int .i64 1) h294 rfl fun a295 h295 => ?_; clear h294
    refine pk0 (v := pt b 0) h295 rfl fun a296 h296 => ?_; clear h295
    refine pk0 (v := pt b 8) h296 rfl fun a297 h297 => ?_; clear h296
    refine pk0 (v := pt b 9) h297 rfl fun a298 h298 => ?_; clear h297
    refine pwD h298 rfl (op_store1 rfl rfl rfl rfl Try.sizeOf3 hk290' rfl) ?_; clear h298
    rintro _ w300 a299 ⟨hk301, hz302, hg303⟩ h299
    have hk301' : Blk w300 b 95 #[pt NA 0, pt N237 0, .int .i64 P.b0, .int .i64 (P.b1 + 1), wv, tv, .int .i64 P.s0, .int .i64 P.s1, .int .i64 P.t0, .int .i64 0, .bool true] := hk301; clear hk301
    have hz304 := hg303.size
    refine pl_nil ?_
    refine co_blockN ?_
    refine co_ret0n h299 rfl ?_
    have hO305 := LkP.gr hO232 (below_grown hb241) (fun k e => by cases e)
    have hO306 := LkP.gr hO305 hg276 (fun k e => by cases e; exact hQ.nA)
    have hO307 := LkP.gr hO306 hg292 (fun k e => by cases e; exact hQ.nA)
    have hO308 := LkP.gr hO307 hg303 (fun k e => by cases e; exact hQ.nA)
    have hO309 := LkP.gr hO239 hg276 (fun k e => by cases e; exact ho248)
    have hO310 := LkP.gr hO309 hg292 (fun k e => by cases e; exact ho248)
    have hO311 := LkP.gr hO310 hg303 (fun k e => by cases e; exact ho248)
    have hr312 := row_kept_new hr26 hg199
    have hr313 := row_kept_at hr312 hg219 (own_neT hr312 hk211 (by decide))
    have hr314 := row_kept_new hr313 (below_grown hb241)
    have hr315 := row_kept_at hr314 hg276 (own_neT hr314 hk259 (by decide))
    have hr316 := row_kept_at hr315 hg292 (own_neT hr315 hk274' (by decide))
    have hr317 := row_kept_at hr316 hg303 (own_neT hr316 hk290' (by decide))
    have hr318 := row_kept_new hT0 hg4
    have hr319 := row_kept_new hr318 hg199
    have hr320 := row_kept_at hr319 hg219 (own_neT hr319 hk211 (by decide))
    have hr321 := row_kept_new hr320 (below_grown hb241)
    have hr322 := row_kept_at hr321 hg276 (own_neT hr321 hk259 (by decide))
    have hr323 := row_kept_at hr322 hg292 (own_neT hr322 hk274' (by decide))
    have hr324 := row_kept_at hr323 hg303 (own_neT hr323 hk290' (by decide))
    have hB325 := fbU_at hB203 hg219 (fun hlt => by rcases hSb with hq | hq; exact hq; omega)
    have hB326 := fbU_call hB325 hb241
    have hB327 := fbU_at hB326 hg276 (fun hlt => by rcases hSb with hq | hq; exact hq; omega)
    have hB328 := fbU_at hB327 hg292 (fun hlt => by rcases hSb with hq | hq; exact hq; omega)
    have hB329 := fbU_at hB328 hg303 (fun hlt => by rcases hSb with hq | hq; exact hq; omega)
    obtain ⟨S9, h1, h2⟩ := PrO.fin (P := { P with B := newLn (P.b1 + 1), b1 := P.b1 + 1, t1 := 0 }) (NA := NA) (NB := N237) (wv := wv) (tv := tv) (w := w) hk301' hO308 hO311 hr317 hr324 (fun q h1 h2 => by have e1 := ho229 q h1; have e2 := hlo240 q h2; omega) hQ.nA ho248 hQ.wA (offR_lo hlo246 (fun i hi => (hW0.lt i hi).2)) hQ.tA (offR_lo hlo246 (fun i hi => (hT0.lt i hi).2)) hSb hinA hin249 hinw hint hB329
    have hEq : anewP P 1 = { P with B := newLn (P.b1 + 1), b1 := P.b1 + 1, t1 := 0 } := by unfold anewP; rw [if_neg (by decide)]
    exact ⟨anewP P 1, S9, rfl, StepR.anew _ (by decide) hK, by rw [hEq]; exact h1, h2, hB329⟩
 ·
  rw [hc29] at h28
  have hp330 : ((P.W.length : Nat) : Int) > 0 := of_decide_eq_true hc29
  clear hc29
  refine co_true h28 rfl ?_
  refine dr_eq (by kernel_rfl) (fun w331 hg332 => ?_)
  have hz333 := hg332.size
  refine dk0 0 (v := pt N3 1) h28 rfl rfl rfl fun a334 h334 => ?_; clear h28
  have hk335 := hk5.kept hg332 (by simp)
  refine dk 1 (v := .int .u8 n) h334 rfl rfl rfl (fun x hx => by subst hx; exact (rn_load1 rfl rfl Try.isAgg5 (hk335.cell rfl))) fun a336 h336 => ?_; clear h334
  refine dk 2 (v := .int .i64 n) h336 rfl rfl rfl (fun x hx => by subst hx; exact (rn_conv rfl rfl Try.underlying5 Try.underlying3 (IntWalk.i64_in _ (by omega)))) fun a337 h337 => ?_; clear h336
  refine dk0 3 (v := pt b 0) h337 rfl rfl rfl fun a338 h338 => ?_; clear h337
  refine dk0 4 (v := pt b 0) h338 rfl rfl rfl fun a339 h339 => ?_; clear h338
  refine dk0 5 (v := pt b 4) h339 rfl rfl rfl fun a340 h340 => ?_; clear h339
  have hk341 := hk24.kept hg332 (by simp)
  refine dk 6 (v := wv) h340 rfl rfl rfl (fun x hx => by subst hx; exact (rn_load1 rfl rfl Try.isAgg67 (hk341.cell rfl))) fun a342 h342 => ?_; clear h340
  have hr343 := row_kept_new hr26 hg332
  refine dk 7 (v := .int .i64 ((P.W.length : Nat) : Int)) h342 rfl rfl rfl (fun x hx => by subst hx; exact (rn_lenOwn rfl rfl Try.underlying67 hr343)) fun a344 h344 => ?_; clear h342
  have hi1 := (hi0 (by omega)).2
  refine dk 8 (v := .int .i64 ((i0 : Nat) : Int)) h344 rfl rfl rfl (fun x hx => by subst hx; exact (rn_remP rfl rfl rfl (by omega) rfl (hi0 (by omega)).1)) fun a345 h345 => ?_; clear h344
  refine dk0 9 (v := .int .i64 ((i0 : Nat) : Int)) h345 rfl rfl rfl fun a346 h346 => ?_; clear h345
  refine dr_done (by kernel_rfl) ?_
  refine co_then ?_
  refine wp_block ?_
  refine co_seq ?_
  refine co_reg ?_
  refine pk0 (v := pt N3 0) h346 rfl fun a347 h347 => ?_; clear h346
  refine pk (v := .int .i64 K) h347 rfl (rn_load1 rfl rfl Try.isAgg3 (hk335.cell rfl)) fun a348 h348 => ?_; clear h347
  refine pk0 (v := .bool (K == 0)) h348 rfl fun a349 h349 => ?_; clear h348
  refine pk0 (v := .bool (K == 0)) h349 rfl fun a350 h350 => ?_; clear h349
  have hc351 : (K == 0) = false := by first | (simp; done) | (simp; omega) | exact beq_false_of_ne (by omega) | exact beq_iff_eq.2 (by omega)
  rw [hc351] at h350; clear hc351
  refine pk0 (v := pt N3 0) h350 rfl fun a352 h352 => ?_; clear h350
  refine pk (v := .int .i64 K) h352 rfl (rn_load1 rfl rfl Try.isAgg3 (hk335.cell rfl)) fun a353 h353 => ?_; clear h352
  refine pk0 (v := .bool (K == 1)) h353 rfl fun a354 h354 => ?_; clear h353
  refine pk0 (v := .bool (K == 1)) h354 rfl fun a355 h355 => ?_; clear h354
  refine pk0 (v := .bool (K == 1)) h355 rfl fun a356 h356 => ?_; clear h355
  refine pl_nil ?_
  refine co_then ?_
  have hc357 : (K == 1) = false := by first | (simp; done) | (simp; omega) | exact beq_false_of_ne (by omega) | exact beq_iff_eq.2 (by omega)
  rw [hc357] at h356; clear hc357
  refine co_false h356 rfl ?_
  refine co_seq ?_
  refine co_reg ?_
  refine pk0 (v := pt N3 0) h356 rfl fun a358 h358 => ?_; clear h356
  refine pk (v := .int .i64 K) h358 rfl (rn_load1 rfl rfl Try.isAgg3 (hk335.cell rfl)) fun a359 h359 => ?_; clear h358
  refine pk0 (v := .bool (K == 2)) h359 rfl fun a360 h360 => ?_; clear h359
  refine pk0 (v := .bool (K == 2)) h360 rfl fun a361 h361 => ?_; clear h360
  refine pl_nil ?_
  refine co_then ?_
  have hc362 : (K == 2) = false := by first | (simp; done) | (simp; omega) | exact beq_false_of_ne (by omega) | exact beq_iff_eq.2 (by omega)
  rw [hc362] at h361; clear hc362
  refine co_false h361 rfl ?_
  refine co_seq ?_
  refine co_reg ?_
  refine pk0 (v := pt N3 0) h361 rfl fun a363 h363 => ?_; clear h361
  refine pk (v := .int .i64 K) h363 rfl (rn_load1 rfl rfl Try.isAgg3 (hk335.cell rfl)) fun a364 h364 => ?_; clear h363
  refine pk0 (v := .bool (decide (K > 6))) h364 rfl fun a365 h365 => ?_; clear h364
  refine pk0 (v := .bool (decide (K > 6))) h365 rfl fun a366 h366 => ?_; clear h365
  have hB368 := fbU_new hB30 hg332
  have hO369 := LkP.gr hQ.hA hg4 (fun k e => by cases e)
  have hO370 := LkP.gr hO369 hg332 (fun k e => by cases e)
  have hO371 := LkP.gr hQ.hB hg4 (fun k e => by cases e)
  have hO372 := LkP.gr hO371 hg332 (fun k e => by cases e)
  have hr373 := row_kept_new hT0 hg4
  have hr374 := row_kept_new hr373 hg332
  cases hc367 : (decide (K > 6))
  ·
   rw [hc367] at h366
   have hp375 : ¬ (K > 6) := of_decide_eq_false hc367
   clear hc367
   refine pk0 (v := pt N3 0) h366 rfl fun a376 h376 => ?_; clear h366
   refine pk (v := .int .i64 K) h376 rfl (rn_load1 rfl rfl Try.isAgg3 (hk335.cell rfl)) fun a377 h377 => ?_; clear h376
   refine pk0 (v := .bool (decide (K < 0))) h377 rfl fun a378 h378 => ?_; clear h377
   refine pk0 (v := .bool (decide (K < 0))) h378 rfl fun a379 h379 => ?_; clear h378
   refine pk0 (v := .bool (decide (K < 0))) h379 rfl fun a380 h380 => ?_; clear h379
   refine pl_nil ?_
   refine co_then ?_
   have hc381 : (decide (K < 0)) = true := decide_eq_true (by omega)
   rw [hc381] at h380; clear hc381
   refine co_true h380 rfl ?_
   refine co_seq ?_
   refine dr_gen (fun x => But (S) w x) (by kernel_rfl) (fun w382 hg383 => ?_) (fun w382 hg383 => ?_)
   ·
    have hz384 := hg383.size
    have hB385 := fbU_new hB368 hg383
    exact hB385
   have hz386 := hg383.size
   have hB387 := fbU_new hB368 hg383
   refine dk0 0 (v := pt b 0) h380 rfl rfl hB387 fun a388 h388 => ?_; clear h380
   refine dk0 1 (v := .int .i64 1) h388 rfl rfl hB387 fun a389 h389 => ?_; clear h388
   refine dk0 2 (v := pt b 0) h389 rfl rfl hB387 fun a390 h390 => ?_; clear h389
   refine dk0 3 (v := pt b 2) h390 rfl rfl hB387 fun a391 h391 => ?_; clear h390
   refine dk0 4 (v := pt b 3) h391 rfl rfl hB387 fun a392 h392 => ?_; clear h391
   refine dk0 7 (v := pt b 0) h392 rfl rfl hB387 fun a393 h393 => ?_; clear h392
   refine dk0 8 (v := pt b 2) h393 rfl rfl hB387 fun a394 h394 => ?_; clear h393
   refine dr_many [5] (by kernel_rfl) (by simp) ⟨?_, trivial⟩
   ·
    have hk395 := hk341.kept hg383 (by simp)
    refine dr_opVal (i := 5) (v := .int .i64 P.b1) h394 rfl rfl rfl rfl (by kernel_rfl) rfl (rn_load1 rfl rfl Try.isAgg3 (hk395.cell rfl)) hB387 (fun a396 h396 => ?_); clear h394
    refine dk 6 (v := .int .i64 (P.b1 + 1)) h396 rfl rfl hB387 (fun x hx => (rn_arith rfl rfl rfl rfl rfl rfl (IntWalk.i64_in _ (by omega)))) fun a397 h397 => ?_; clear h396
    refine dk0 9 (v := pt b 3) h397 rfl rfl hB387 fun a398 h398 => ?_; clear h397
    refine d1D 10 h398 rfl rfl (op_store1 rfl rfl rfl rfl Try.sizeOf3 hk395 rfl) ?_ ?_; clear h398
    ·
     rintro _ w400 ⟨hk401, hz402, hg403⟩
     have hk401' : Blk w400 b 95 #[pt NA 0, pt NB 0, .int .i64 P.b0, .int .i64 (P.b1 + 1), wv, tv, .int .i64 P.s0, .int .i64 P.s1, .int .i64 P.t0, .int .i64 P.t1, .bool true] := hk401; clear hk401
     have hz404 := hg403.size
     have hB405 := fbU_at hB387 hg403 (fun hlt => by rcases hSb with hq | hq; exact hq; omega)
     exact hB405
    rintro _ w400 a399 ⟨hk401, hz402, hg403⟩ h399
    have hk401' : Blk w400 b 95 #[pt NA 0, pt NB 0, .int .i64 P.b0, .int .i64 (P.b1 + 1), wv, tv, .int .i64 P.s0, .int .i64 P.s1, .int .i64 P.t0, .int .i64 P.t1, .bool true] := hk401; clear hk401
    have hz404 := hg403.size
    refine dr_done (by kernel_rfl) ?_
    refine co_then ?_
    refine co_seq ?_
    refine co_reg ?_
    refine pk0 (v := pt b 0) h399 rfl fun a405 h405 => ?_; clear h399
    refine pk0 (v := .int .i64 1) h405 rfl fun a406 h406 => ?_; clear h405
    refine pk0 (v := pt b 0) h406 rfl fun a407 h407 => ?_; clear h406
    refine pk0 (v := pt b 2) h407 rfl fun a408 h408 => ?_; clear h407
    refine pk0 (v := pt b 3) h408 rfl fun a409 h409 => ?_; clear h408
    refine pk (v := .int .i64 (P.b1 + 1)) h409 rfl (rn_load1 rfl rfl Try.isAgg3 (hk401'.cell rfl)) fun a410 h410 => ?_; clear h409
    have hO414 := LkP.gr hO370 hg383 (fun k e => by cases e)
    have hO415 := LkP.gr hO414 hg403 (fun k e => by cases e; exact hQ.nA)
    have ho413 := LkP.ofS hO415
    have hO417 := LkP.gr hO372 hg383 (fun k e => by cases e)
    have hO418 := LkP.gr hO417 hg403 (fun k e => by cases e; exact hQ.nB)
    have ho416 := LkP.ofS hO418
    refine pw h410 rfl (op_call (args := #[.int .i64 (P.b1 + 1)]) (R := fun res xw => ∃ (N : Nat) (S : Nat → Prop), res = .tuple #[pt N 0, .int .i64 0] ∧ LkP S xw N (newLn (P.b1 + 1)) ∧ (∀ q, S q → w400.heap.size ≤ q) ∧ Below w400.heap.size w400 xw) rfl rfl rfl (by kernel_rfl) (by kernel_rfl) (Try.call32 _ _) (nPNew (P.b1 + 1) w400 (by omega)) (by rintro e x ⟨N, S, rfl, h⟩; exact ⟨_, rfl, N, S, rfl, h⟩)) ?_; clear h410
    rintro _ w412 a411 ⟨N419, S420, rfl, hO421, hlo422, hb423⟩ h411
    have hz425 := hb423.size
    have ho426 := LkP.ofS hO415
    have ho427 := LkP.ofS hO418
    have hlo428 : ∀ q, S420 q → w.heap.size ≤ q := fun q hq => by have := hlo422 q hq; omega
    have ho429 := off_lo (N := N3) hlo422 (by omega)
    have ho430 := off_lo (N := b) hlo422 (by omega)
    have hin431 : ∀ q, S420 q → S q ∨ w.heap.size ≤ q := fun q h => .inr (hlo428 q h)
    refine pk0 (v := .tuple #[pt N419 0, .int .i64 0]) h411 rfl fun a432 h432 => ?_; clear h411
    refine pk0 (v := pt N419 0) h432 rfl fun a433 h433 => ?_; clear h432
    refine pk0 (v := .int .i64 0) h433 rfl fun a434 h434 => ?_; clear h433
    refine pk0 (v := pt N419 0) h434 rfl fun a435 h435 => ?_; clear h434
    refine pk0 (v := .int .i64 0) h435 rfl fun a436 h436 => ?_; clear h435
    refine pl_nil ?_
    refine co_then ?_
    refine co_seq ?_
    refine co_reg ?_
    refine pk0 (v := pt b 0) h436 rfl fun a437 h437 => ?_; clear h436
    refine pk0 (v := pt b 0) h437 rfl fun a438 h438 => ?_; clear h437
    refine pk0 (v := pt b 0) h438 rfl fun a439 h439 => ?_; clear h438
    refine pk0 (v := pt b 10) h439 rfl fun a440 h440 => ?_; clear h439
    have hk441 := hk401'.below hb423
    refine pk (v := .bool true) h440 rfl (rn_load1 rfl rfl Try.isAgg4 (hk441.cell rfl)) fun a442 h442 => ?_; clear h440
    refine pk0 (v := .bool true) h442 rfl fun a443 h443 => ?_; clear h442
    refine pk0 (v := .int .i64 0) h443 rfl fun a444 h444 => ?_; clear h443
    refine pk0 (v := .bool ((0 : Int) == 0)) h444 rfl fun a445 h445 => ?_; clear h444
    refine pk0 (v := .bool ((0 : Int) == 0)) h445 rfl fun a446 h446 => ?_; clear h445
    refine pk0 (v := .bool ((0 : Int) == 0)) h446 rfl fun a447 h447 => ?_; clear h446
    have hc448 : ((0 : Int) == 0) = true := by first | (simp; done) | (simp; omega) | exact beq_false_of_ne (by omega) | exact beq_iff_eq.2 (by omega)
    rw [hc448] at h447; clear hc448
    refine pk0 (v := pt N419 0) h447 rfl fun a449 h449 => ?_; clear h447
    refine pk0 (v := .bool true) h449 rfl fun a450 h450 => ?_; clear h449
    refine pk0 (v := .bool true) h450 rfl fun a451 h451 => ?_; clear h450
    refine pk0 (v := pt b 0) h451 rfl fun a452 h452 => ?_; clear h451
    refine pk0 (v := pt b 10) h452 rfl fun a453 h453 => ?_; clear h452
    refine pwD h453 rfl (op_store1 rfl rfl rfl rfl Try.sizeOf4 hk441 rfl) ?_; clear h453
    rintro _ w455 a454 ⟨hk456, hz457, hg458⟩ h454
    have hk456' : Blk w455 b 95 #[pt NA 0, pt NB 0, .int .i64 P.b0, .int .i64 (P.b1 + 1), wv, tv, .int .i64 P.s0, .int .i64 P.s1, .int .i64 P.t0, .int .i64 P.t1, .bool true] := hk456; clear hk456
    have hz459 := hg458.size
    refine pl_nil ?_
    refine co_then ?_
    refine co_seq ?_
    refine co_seq ?_
    refine co_reg ?_
    refine pk0 (v := pt b 0) h454 rfl fun a460 h460 => ?_; clear h454
    refine pk0 (v := pt b 0) h460 rfl fun a461 h461 => ?_; clear h460
    refine pk0 (v := pt b 10) h461 rfl fun a462 h462 => ?_; clear h461
    refine pk (v := .bool true) h462 rfl (rn_load1 rfl rfl Try.isAgg4 (hk456'.cell rfl)) fun a463 h463 => ?_; clear h462
    refine pl_nil ?_
    refine co_then ?_
    refine co_true h463 rfl ?_
    refine co_reg ?_
    refine pk0 (v := pt b 0) h463 rfl fun a464 h464 => ?_; clear h463
    refine pk0 (v := .int .i64 1) h464 rfl fun a465 h465 => ?_; clear h464
    refine pk0 (v := pt N419 0) h465 rfl fun a466 h466 => ?_; clear h465
    refine pk0 (v := pt b 0) h466 rfl fun a467 h467 => ?_; clear h466
    refine pk0 (v := pt b 0) h467 rfl fun a468 h468 => ?_; clear h467
    refine pk0 (v := pt b 1) h468 rfl fun a469 h469 => ?_; clear h468
    refine pwD h469 rfl (op_store1 rfl rfl rfl rfl Try.sizeOf53 hk456' rfl) ?_; clear h469
    rintro _ w471 a470 ⟨hk472, hz473, hg474⟩ h470
    have hk472' : Blk w471 b 95 #[pt NA 0, pt N419 0, .int .i64 P.b0, .int .i64 (P.b1 + 1), wv, tv, .int .i64 P.s0, .int .i64 P.s1, .int .i64 P.t0, .int .i64 P.t1, .bool true] := hk472; clear hk472
    have hz475 := hg474.size
    refine pl_nil ?_
    refine co_then ?_
    refine co_reg ?_
    refine pk0 (v := pt b 0) h470 rfl fun a476 h476 => ?_; clear h470
    refine pk0 (v := .int .i64 1) h476 rfl fun a477 h477 => ?_; clear h476
    refine pk0 (v := pt b 0) h477 rfl fun a478 h478 => ?_; clear h477
    refine pk0 (v := pt b 8) h478 rfl fun a479 h479 => ?_; clear h478
    refine pk0 (v := pt b 9) h479 rfl fun a480 h480 => ?_; clear h479
    refine pwD h480 rfl (op_store1 rfl rfl rfl rfl Try.sizeOf3 hk472' rfl) ?_; clear h480
    rintro _ w482 a481 ⟨hk483, hz484, hg485⟩ h481
    have hk483' : Blk w482 b 95 #[pt NA 0, pt N419 0, .int .i64 P.b0, .int .i64 (P.b1 + 1), wv, tv, .int .i64 P.s0, .int .i64 P.s1, .int .i64 P.t0, .int .i64 0, .bool true] := hk483; clear hk483
    have hz486 := hg485.size
    refine pl_nil ?_
    refine co_blockN ?_
    refine co_ret0n h481 rfl ?_
    have hO487 := LkP.gr hO415 (below_grown hb423) (fun k e => by cases e)
    have hO488 := LkP.gr hO487 hg458 (fun k e => by cases e; exact hQ.nA)
    have hO489 := LkP.gr hO488 hg474 (fun k e => by cases e; exact hQ.nA)
    have hO490 := LkP.gr hO489 hg485 (fun k e => by cases e; exact hQ.nA)
    have hO491 := LkP.gr hO421 hg458 (fun k e => by cases e; exact ho430)
    have hO492 := LkP.gr hO491 hg474 (fun k e => by cases e; exact ho430)
    have hO493 := LkP.gr hO492 hg485 (fun k e => by cases e; exact ho430)
    have hr494 := row_kept_new hr343 hg383
    have hr495 := row_kept_at hr494 hg403 (own_neT hr494 hk395 (by decide))
    have hr496 := row_kept_new hr495 (below_grown hb423)
    have hr497 := row_kept_at hr496 hg458 (own_neT hr496 hk441 (by decide))
    have hr498 := row_kept_at hr497 hg474 (own_neT hr497 hk456' (by decide))
    have hr499 := row_kept_at hr498 hg485 (own_neT hr498 hk472' (by decide))
    have hr500 := row_kept_new hr374 hg383
    have hr501 := row_kept_at hr500 hg403 (own_neT hr500 hk395 (by decide))
    have hr502 := row_kept_new hr501 (below_grown hb423)
    have hr503 := row_kept_at hr502 hg458 (own_neT hr502 hk441 (by decide))
    have hr504 := row_kept_at hr503 hg474 (own_neT hr503 hk456' (by decide))
    have hr505 := row_kept_at hr504 hg485 (own_neT hr504 hk472' (by decide))
    have hB506 := fbU_at hB387 hg403 (fun hlt => by rcases hSb with hq | hq; exact hq; omega)
    have hB507 := fbU_call hB506 hb423
    have hB508 := fbU_at hB507 hg458 (fun hlt => by rcases hSb with hq | hq; exact hq; omega)
    have hB509 := fbU_at hB508 hg474 (fun hlt => by rcases hSb with hq | hq; exact hq; omega)
    have hB510 := fbU_at hB509 hg485 (fun hlt => by rcases hSb with hq | hq; exact hq; omega)
    obtain ⟨S9, h1, h2⟩ := PrO.fin (P := { P with B := newLn (P.b1 + 1), b1 := P.b1 + 1, t1 := 0 }) (NA := NA) (NB := N419) (wv := wv) (tv := tv) (w := w) hk483' hO490 hO493 hr499 hr505 (fun q h1 h2 => by have e1 := ho413 q h1; have e2 := hlo422 q h2; omega) hQ.nA ho430 hQ.wA (offR_lo hlo428 (fun i hi => (hW0.lt i hi).2)) hQ.tA (offR_lo hlo428 (fun i hi => (hT0.lt i hi).2)) hSb hinA hin431 hinw hint hB510
    have hEq : anewP P 1 = { P with B := newLn (P.b1 + 1), b1 := P.b1 + 1, t1 := 0 } := by unfold anewP; rw [if_neg (by decide)]
    exact ⟨anewP P 1, S9, rfl, StepR.anew _ (by decide) hK, by rw [hEq]; exact h1, h2, hB510⟩
  ·
   rw [hc367] at h366
   have hp511 : K > 6 := of_decide_eq_true hc367
   clear hc367
   refine psk h366 rfl fun a512 h512 => ?_; clear h366
   refine psk h512 rfl fun a513 h513 => ?_; clear h512
   refine psk h513 rfl fun a514 h514 => ?_; clear h513
   refine pk0 (v := .bool true) h514 rfl fun a515 h515 => ?_; clear h514
   refine pk0 (v := .bool true) h515 rfl fun a516 h516 => ?_; clear h515
   refine pl_nil ?_
   refine co_then ?_
   refine co_true h516 rfl ?_
   refine co_seq ?_
   refine dr_gen (fun x => But (S) w x) (by kernel_rfl) (fun w517 hg518 => ?_) (fun w517 hg518 => ?_)
   ·
    have hz519 := hg518.size
    have hB520 := fbU_new hB368 hg518
    exact hB520
   have hz521 := hg518.size
   have hB522 := fbU_new hB368 hg518
   refine dk0 0 (v := pt b 0) h516 rfl rfl hB522 fun a523 h523 => ?_; clear h516
   refine dk0 1 (v := .int .i64 1) h523 rfl rfl hB522 fun a524 h524 => ?_; clear h523
   refine dk0 2 (v := pt b 0) h524 rfl rfl hB522 fun a525 h525 => ?_; clear h524
   refine dk0 3 (v := pt b 2) h525 rfl rfl hB522 fun a526 h526 => ?_; clear h525
   refine dk0 4 (v := pt b 3) h526 rfl rfl hB522 fun a527 h527 => ?_; clear h526
   refine dk0 7 (v := pt b 0) h527 rfl rfl hB522 fun a528 h528 => ?_; clear h527
   refine dk0 8 (v := pt b 2) h528 rfl rfl hB522 fun a529 h529 => ?_; clear h528
   refine dr_many [5] (by kernel_rfl) (by simp) ⟨?_, trivial⟩
   ·
    have hk530 := hk341.kept hg518 (by simp)
    refine dr_opVal (i := 5) (v := .int .i64 P.b1) h529 rfl rfl rfl rfl (by kernel_rfl) rfl (rn_load1 rfl rfl Try.isAgg3 (hk530.cell rfl)) hB522 (fun a531 h531 => ?_); clear h529
    refine dk 6 (v := .int .i64 (P.b1 + 1)) h531 rfl rfl hB522 (fun x hx => (rn_arith rfl rfl rfl rfl rfl rfl (IntWalk.i64_in _ (by omega)))) fun a532 h532 => ?_; clear h531
    refine dk0 9 (v := pt b 3) h532 rfl rfl hB522 fun a533 h533 => ?_; clear h532
    refine d1D 10 h533 rfl rfl (op_store1 rfl rfl rfl rfl Try.sizeOf3 hk530 rfl) ?_ ?_; clear h533
    ·
     rintro _ w535 ⟨hk536, hz537, hg538⟩
     have hk536' : Blk w535 b 95 #[pt NA 0, pt NB 0, .int .i64 P.b0, .int .i64 (P.b1 + 1), wv, tv, .int .i64 P.s0, .int .i64 P.s1, .int .i64 P.t0, .int .i64 P.t1, .bool true] := hk536; clear hk536
     have hz539 := hg538.size
     have hB540 := fbU_at hB522 hg538 (fun hlt => by rcases hSb with hq | hq; exact hq; omega)
     exact hB540
    rintro _ w535 a534 ⟨hk536, hz537, hg538⟩ h534
    have hk536' : Blk w535 b 95 #[pt NA 0, pt NB 0, .int .i64 P.b0, .int .i64 (P.b1 + 1), wv, tv, .int .i64 P.s0, .int .i64 P.s1, .int .i64 P.t0, .int .i64 P.t1, .bool true] := hk536; clear hk536
    have hz539 := hg538.size
    refine dr_done (by kernel_rfl) ?_
    refine co_then ?_
    refine co_seq ?_
    refine co_reg ?_
    refine pk0 (v := pt b 0) h534 rfl fun a540 h540 => ?_; clear h534
    refine pk0 (v := .int .i64 1) h540 rfl fun a541 h541 => ?_; clear h540
    refine pk0 (v := pt b 0) h541 rfl fun a542 h542 => ?_; clear h541
    refine pk0 (v := pt b 2) h542 rfl fun a543 h543 => ?_; clear h542
    refine pk0 (v := pt b 3) h543 rfl fun a544 h544 => ?_; clear h543
    refine pk (v := .int .i64 (P.b1 + 1)) h544 rfl (rn_load1 rfl rfl Try.isAgg3 (hk536'.cell rfl)) fun a545 h545 => ?_; clear h544
    have hO549 := LkP.gr hO370 hg518 (fun k e => by cases e)
    have hO550 := LkP.gr hO549 hg538 (fun k e => by cases e; exact hQ.nA)
    have ho548 := LkP.ofS hO550
    have hO552 := LkP.gr hO372 hg518 (fun k e => by cases e)
    have hO553 := LkP.gr hO552 hg538 (fun k e => by cases e; exact hQ.nB)
    have ho551 := LkP.ofS hO553
    refine pw h545 rfl (op_call (args := #[.int .i64 (P.b1 + 1)]) (R := fun res xw => ∃ (N : Nat) (S : Nat → Prop), res = .tuple #[pt N 0, .int .i64 0] ∧ LkP S xw N (newLn (P.b1 + 1)) ∧ (∀ q, S q → w535.heap.size ≤ q) ∧ Below w535.heap.size w535 xw) rfl rfl rfl (by kernel_rfl) (by kernel_rfl) (Try.call32 _ _) (nPNew (P.b1 + 1) w535 (by omega)) (by rintro e x ⟨N, S, rfl, h⟩; exact ⟨_, rfl, N, S, rfl, h⟩)) ?_; clear h545
    rintro _ w547 a546 ⟨N554, S555, rfl, hO556, hlo557, hb558⟩ h546
    have hz560 := hb558.size
    have ho561 := LkP.ofS hO550
    have ho562 := LkP.ofS hO553
    have hlo563 : ∀ q, S555 q → w.heap.size ≤ q := fun q hq => by have := hlo557 q hq; omega
    have ho564 := off_lo (N := N3) hlo557 (by omega)
    have ho565 := off_lo (N := b) hlo557 (by omega)
    have hin566 : ∀ q, S555 q → S q ∨ w.heap.size ≤ q := fun q h => .inr (hlo563 q h)
    refine pk0 (v := .tuple #[pt N554 0, .int .i64 0]) h546 rfl fun a567 h567 => ?_; clear h546
    refine pk0 (v := pt N554 0) h567 rfl fun a568 h568 => ?_; clear h567
    refine pk0 (v := .int .i64 0) h568 rfl fun a569 h569 => ?_; clear h568
    refine pk0 (v := pt N554 0) h569 rfl fun a570 h570 => ?_; clear h569
    refine pk0 (v := .int .i64 0) h570 rfl fun a571 h571 => ?_; clear h570
    refine pl_nil ?_
    refine co_then ?_
    refine co_seq ?_
    refine co_reg ?_
    refine pk0 (v := pt b 0) h571 rfl fun a572 h572 => ?_; clear h571
    refine pk0 (v := pt b 0) h572 rfl fun a573 h573 => ?_; clear h572
    refine pk0 (v := pt b 0) h573 rfl fun a574 h574 => ?_; clear h573
    refine pk0 (v := pt b 10) h574 rfl fun a575 h575 => ?_; clear h574
    have hk576 := hk536'.below hb558
    refine pk (v := .bool true) h575 rfl (rn_load1 rfl rfl Try.isAgg4 (hk576.cell rfl)) fun a577 h577 => ?_; clear h575
    refine pk0 (v := .bool true) h577 rfl fun a578 h578 => ?_; clear h577
    refine pk0 (v := .int .i64 0) h578 rfl fun a579 h579 => ?_; clear h578
    refine pk0 (v := .bool ((0 : Int) == 0)) h579 rfl fun a580 h580 => ?_; clear h579
    refine pk0 (v := .bool ((0 : Int) == 0)) h580 rfl fun a581 h581 => ?_; clear h580
    refine pk0 (v := .bool ((0 : Int) == 0)) h581 rfl fun a582 h582 => ?_; clear h581
    have hc583 : ((0 : Int) == 0) = true := by first | (simp; done) | (simp; omega) | exact beq_false_of_ne (by omega) | exact beq_iff_eq.2 (by omega)
    rw [hc583] at h582; clear hc583
    refine pk0 (v := pt N554 0) h582 rfl fun a584 h584 => ?_; clear h582
    refine pk0 (v := .bool true) h584 rfl fun a585 h585 => ?_; clear h584
    refine pk0 (v := .bool true) h585 rfl fun a586 h586 => ?_; clear h585
    refine pk0 (v := pt b 0) h586 rfl fun a587 h587 => ?_; clear h586
    refine pk0 (v := pt b 10) h587 rfl fun a588 h588 => ?_; clear h587
    refine pwD h588 rfl (op_store1 rfl rfl rfl rfl Try.sizeOf4 hk576 rfl) ?_; clear h588
    rintro _ w590 a589 ⟨hk591, hz592, hg593⟩ h589
    have hk591' : Blk w590 b 95 #[pt NA 0, pt NB 0, .int .i64 P.b0, .int .i64 (P.b1 + 1), wv, tv, .int .i64 P.s0, .int .i64 P.s1, .int .i64 P.t0, .int .i64 P.t1, .bool true] := hk591; clear hk591
    have hz594 := hg593.size
    refine pl_nil ?_
    refine co_then ?_
    refine co_seq ?_
    refine co_seq ?_
    refine co_reg ?_
    refine pk0 (v := pt b 0) h589 rfl fun a595 h595 => ?_; clear h589
    refine pk0 (v := pt b 0) h595 rfl fun a596 h596 => ?_; clear h595
    refine pk0 (v := pt b 10) h596 rfl fun a597 h597 => ?_; clear h596
    refine pk (v := .bool true) h597 rfl (rn_load1 rfl rfl Try.isAgg4 (hk591'.cell rfl)) fun a598 h598 => ?_; clear h597
    refine pl_nil ?_
    refine co_then ?_
    refine co_true h598 rfl ?_
    refine co_reg ?_
    refine pk0 (v := pt b 0) h598 rfl fun a599 h599 => ?_; clear h598
    refine pk0 (v := .int .i64 1) h599 rfl fun a600 h600 => ?_; clear h599
    refine pk0 (v := pt N554 0) h600 rfl fun a601 h601 => ?_; clear h600
    refine pk0 (v := pt b 0) h601 rfl fun a602 h602 => ?_; clear h601
    refine pk0 (v := pt b 0) h602 rfl fun a603 h603 => ?_; clear h602
    refine pk0 (v := pt b 1) h603 rfl fun a604 h604 => ?_; clear h603
    refine pwD h604 rfl (op_store1 rfl rfl rfl rfl Try.sizeOf53 hk591' rfl) ?_; clear h604
    rintro _ w606 a605 ⟨hk607, hz608, hg609⟩ h605
    have hk607' : Blk w606 b 95 #[pt NA 0, pt N554 0, .int .i64 P.b0, .int .i64 (P.b1 + 1), wv, tv, .int .i64 P.s0, .int .i64 P.s1, .int .i64 P.t0, .int .i64 P.t1, .bool true] := hk607; clear hk607
    have hz610 := hg609.size
    refine pl_nil ?_
    refine co_then ?_
    refine co_reg ?_
    refine pk0 (v := pt b 0) h605 rfl fun a611 h611 => ?_; clear h605
    refine pk0 (v := .int .i64 1) h611 rfl fun a612 h612 => ?_; clear h611
    refine pk0 (v := pt b 0) h612 rfl fun a613 h613 => ?_; clear h612
    refine pk0 (v := pt b 8) h613 rfl fun a614 h614 => ?_; clear h613
    refine pk0 (v := pt b 9) h614 rfl fun a615 h615 => ?_; clear h614
    refine pwD h615 rfl (op_store1 rfl rfl rfl rfl Try.sizeOf3 hk607' rfl) ?_; clear h615
    rintro _ w617 a616 ⟨hk618, hz619, hg620⟩ h616
    have hk618' : Blk w617 b 95 #[pt NA 0, pt N554 0, .int .i64 P.b0, .int .i64 (P.b1 + 1), wv, tv, .int .i64 P.s0, .int .i64 P.s1, .int .i64 P.t0, .int .i64 0, .bool true] := hk618; clear hk618
    have hz621 := hg620.size
    refine pl_nil ?_
    refine co_blockN ?_
    refine co_ret0n h616 rfl ?_
    have hO622 := LkP.gr hO550 (below_grown hb558) (fun k e => by cases e)
    have hO623 := LkP.gr hO622 hg593 (fun k e => by cases e; exact hQ.nA)
    have hO624 := LkP.gr hO623 hg609 (fun k e => by cases e; exact hQ.nA)
    have hO625 := LkP.gr hO624 hg620 (fun k e => by cases e; exact hQ.nA)
    have hO626 := LkP.gr hO556 hg593 (fun k e => by cases e; exact ho565)
    have hO627 := LkP.gr hO626 hg609 (fun k e => by cases e; exact ho565)
    have hO628 := LkP.gr hO627 hg620 (fun k e => by cases e; exact ho565)
    have hr629 := row_kept_new hr343 hg518
    have hr630 := row_kept_at hr629 hg538 (own_neT hr629 hk530 (by decide))
    have hr631 := row_kept_new hr630 (below_grown hb558)
    have hr632 := row_kept_at hr631 hg593 (own_neT hr631 hk576 (by decide))
    have hr633 := row_kept_at hr632 hg609 (own_neT hr632 hk591' (by decide))
    have hr634 := row_kept_at hr633 hg620 (own_neT hr633 hk607' (by decide))
    have hr635 := row_kept_new hr374 hg518
    have hr636 := row_kept_at hr635 hg538 (own_neT hr635 hk530 (by decide))
    have hr637 := row_kept_new hr636 (below_grown hb558)
    have hr638 := row_kept_at hr637 hg593 (own_neT hr637 hk576 (by decide))
    have hr639 := row_kept_at hr638 hg609 (own_neT hr638 hk591' (by decide))
    have hr640 := row_kept_at hr639 hg620 (own_neT hr639 hk607' (by decide))
    have hB641 := fbU_at hB522 hg538 (fun hlt => by rcases hSb with hq | hq; exact hq; omega)
    have hB642 := fbU_call hB641 hb558
    have hB643 := fbU_at hB642 hg593 (fun hlt => by rcases hSb with hq | hq; exact hq; omega)
    have hB644 := fbU_at hB643 hg609 (fun hlt => by rcases hSb with hq | hq; exact hq; omega)
    have hB645 := fbU_at hB644 hg620 (fun hlt => by rcases hSb with hq | hq; exact hq; omega)
    obtain ⟨S9, h1, h2⟩ := PrO.fin (P := { P with B := newLn (P.b1 + 1), b1 := P.b1 + 1, t1 := 0 }) (NA := NA) (NB := N554) (wv := wv) (tv := tv) (w := w) hk618' hO625 hO628 hr634 hr640 (fun q h1 h2 => by have e1 := ho548 q h1; have e2 := hlo557 q h2; omega) hQ.nA ho565 hQ.wA (offR_lo hlo563 (fun i hi => (hW0.lt i hi).2)) hQ.tA (offR_lo hlo563 (fun i hi => (hT0.lt i hi).2)) hSb hinA hin566 hinw hint hB645
    have hEq : anewP P 1 = { P with B := newLn (P.b1 + 1), b1 := P.b1 + 1, t1 := 0 } := by unfold anewP; rw [if_neg (by decide)]
    exact ⟨anewP P 1, S9, rfl, StepR.anew _ (by decide) hK, by rw [hEq]; exact h1, h2, hB645⟩
end Go.Proofs.Ythmljllgfigebaa

/- catenalaw22: step, a case (none). Conditions: none. -/
namespace Go.Proofs.Ythmljllgfigebaa
open Go.RowKit Go.PlainAid
set_option linter.unusedVariables false
set_option linter.unusedSimpArgs false

set_option maxRecDepth 100000 in
set_option maxHeartbeats 6400000 in
theorem step_none (S : Nat → Prop) (b : Nat) (P : PrT) (K : Int) (n : Int) (g : Bool) (w : World) (hP : PrO S w b P) (hst : StepH P) (hn : 0 ≤ n ∧ n ≤ 255) (hK : (3 ≤ K ∧ K ≤ 6) ∧ P.W.length = 0) :
    Calls Try.prog 49 #[pt b 0, .agg #[.int .i64 K, .int .u8 n, .bool g]] w fun e w' => ∃ (P' : PrT) (S' : Nat → Prop), e = .returned (.tuple #[]) ∧ StepR K P P' ∧ PrO S' w' b P' ∧ Grew S S' w w' ∧ But (S) w w' := by
 have hlW := hst.lW
 have hlT := hst.lT
 obtain ⟨q1, q2⟩ := hst.bt
 obtain ⟨q3, q4⟩ := hst.st
 obtain ⟨i0, hi0⟩ : ∃ i0 : Nat, 0 < P.W.length → n.tmod (P.W.length : Nat) = (i0 : Nat) ∧ i0 < P.W.length := ⟨(n.tmod (P.W.length : Nat)).toNat, fun h => by have e1 := Int.tmod_nonneg (P.W.length : Int) hn.1; have e2 := Int.tmod_lt_of_pos n (show (0 : Int) < (P.W.length : Nat) by omega); omega⟩
 have hB0 := But.refl (S) w
 obtain ⟨NA, NB, SA, SB, wv, tv, hQ⟩ := hP
 have hinS : ∀ k, S k → S k ∨ w.heap.size ≤ k := fun k hk => .inl hk
 have hl_b := (PrQ.blk hQ).lt
 refine co_enter (n := 192) Try.func49 rfl rfl rfl [(0, pt b 0), (1, .agg #[.int .i64 K, .int .u8 n, .bool g])] rfl (fun a h0 => ?_)
 refine co_seq ?_
 refine co_reg ?_
 refine pw h0 rfl (op_new (v := fun N => pt N 0) (T := 90) (cs := #[.int .i64 K, .int .u8 n, .bool g]) (by kernel_rfl) (by kernel_rfl) (by kernel_rfl)) ?_; clear h0
 rintro _ w2 a1 ⟨N3, rfl, hN6, hz7, hk5, hg4⟩ h1
 have hz8 := hg4.size
 have ho9 := off_new (PrQ.ofS hQ) hN6
 try dsimp only at h1
 refine pl_nil ?_
 refine co_then ?_
 refine co_seq ?_
 refine co_reg ?_
 refine pk0 (v := pt N3 1) h1 rfl fun a10 h10 => ?_; clear h1
 refine pk (v := .int .u8 n) h10 rfl (rn_load1 rfl rfl Try.isAgg5 (hk5.cell rfl)) fun a11 h11 => ?_; clear h10
 refine pk (v := .int .i64 n) h11 rfl (rn_conv rfl rfl Try.underlying5 Try.underlying3 (IntWalk.i64_in _ (by omega))) fun a12 h12 => ?_; clear h11
 refine pk (v := .int .i64 (n.tmod 2)) h12 rfl (rn_remP rfl rfl rfl (by decide) rfl rfl) fun a13 h13 => ?_; clear h12
 refine pk0 (v := .int .i64 (n.tmod 2)) h13 rfl fun a14 h14 => ?_; clear h13
 refine pl_nil ?_
 refine co_then ?_
 refine co_seq ?_
 refine co_reg ?_
 refine pk0 (v := .int .i64 0) h14 rfl fun a15 h15 => ?_; clear h14
 refine pl_nil ?_
 refine co_then ?_
 refine co_seq ?_
 refine co_seq ?_
 refine co_reg ?_
 refine pk0 (v := pt b 0) h15 rfl fun a16 h16 => ?_; clear h15
 refine pk0 (v := pt b 0) h16 rfl fun a17 h17 => ?_; clear h16
 refine pk0 (v := pt b 4) h17 rfl fun a18 h18 => ?_; clear h17
 have hO19 := PrQ.gr hQ hg4 (fun k e => by cases e)
 refine pk (v := wv) h18 rfl (rn_load1 rfl rfl Try.isAgg67 (PrQ.cell4 hO19)) fun a20 h20 => ?_; clear h18
 refine pk (v := .int .i64 ((P.W.length : Nat) : Int)) h20 rfl (rn_len rfl rfl Try.underlying67 (PrQ.sl hO19)) fun a21 h21 => ?_; clear h20
 refine pk0 (v := .bool (decide (((P.W.length : Nat) : Int) > 0))) h21 rfl fun a22 h22 => ?_; clear h21
 refine pl_nil ?_
 refine co_then ?_
 have hc23 : (decide (((P.W.length : Nat) : Int) > 0)) = false := decide_eq_false (by omega)
 rw [hc23] at h22; clear hc23
 refine co_false h22 rfl ?_
 refine wp_skip ?_
 refine co_then ?_
 refine wp_block ?_
 refine co_seq ?_
 refine co_reg ?_
 refine pk0 (v := pt N3 0) h22 rfl fun a24 h24 => ?_; clear h22
 refine pk (v := .int .i64 K) h24 rfl (rn_load1 rfl rfl Try.isAgg3 (hk5.cell rfl)) fun a25 h25 => ?_; clear h24
 refine pk0 (v := .bool (K == 0)) h25 rfl fun a26 h26 => ?_; clear h25
 refine pk0 (v := .bool (K == 0)) h26 rfl fun a27 h27 => ?_; clear h26
 have hc28 : (K == 0) = false := by first | (simp; done) | (simp; omega) | exact beq_false_of_ne (by omega) | exact beq_iff_eq.2 (by omega)
 rw [hc28] at h27; clear hc28
 refine pk0 (v := pt N3 0) h27 rfl fun a29 h29 => ?_; clear h27
 refine pk (v := .int .i64 K) h29 rfl (rn_load1 rfl rfl Try.isAgg3 (hk5.cell rfl)) fun a30 h30 => ?_; clear h29
 refine pk0 (v := .bool (K == 1)) h30 rfl fun a31 h31 => ?_; clear h30
 refine pk0 (v := .bool (K == 1)) h31 rfl fun a32 h32 => ?_; clear h31
 refine pk0 (v := .bool (K == 1)) h32 rfl fun a33 h33 => ?_; clear h32
 refine pl_nil ?_
 refine co_then ?_
 have hc34 : (K == 1) = false := by first | (simp; done) | (simp; omega) | exact beq_false_of_ne (by omega) | exact beq_iff_eq.2 (by omega)
 rw [hc34] at h33; clear hc34
 refine co_false h33 rfl ?_
 refine co_seq ?_
 refine co_reg ?_
 refine pk0 (v := pt N3 0) h33 rfl fun a35 h35 => ?_; clear h33
 refine pk (v := .int .i64 K) h35 rfl (rn_load1 rfl rfl Try.isAgg3 (hk5.cell rfl)) fun a36 h36 => ?_; clear h35
 refine pk0 (v := .bool (K == 2)) h36 rfl fun a37 h37 => ?_; clear h36
 refine pk0 (v := .bool (K == 2)) h37 rfl fun a38 h38 => ?_; clear h37
 refine pl_nil ?_
 refine co_then ?_
 have hc39 : (K == 2) = false := by first | (simp; done) | (simp; omega) | exact beq_false_of_ne (by omega) | exact beq_iff_eq.2 (by omega)
 rw [hc39] at h38; clear hc39
 refine co_false h38 rfl ?_
 refine co_seq ?_
 refine co_reg ?_
 refine pk0 (v := pt N3 0) h38 rfl fun a40 h40 => ?_; clear h38
 refine pk (v := .int .i64 K) h40 rfl (rn_load1 rfl rfl Try.isAgg3 (hk5.cell rfl)) fun a41 h41 => ?_; clear h40
 refine pk0 (v := .bool (decide (K > 6))) h41 rfl fun a42 h42 => ?_; clear h41
 refine pk0 (v := .bool (decide (K > 6))) h42 rfl fun a43 h43 => ?_; clear h42
 have hc44 : (decide (K > 6)) = false := decide_eq_false (by omega)
 rw [hc44] at h43; clear hc44
 refine pk0 (v := pt N3 0) h43 rfl fun a45 h45 => ?_; clear h43
 refine pk (v := .int .i64 K) h45 rfl (rn_load1 rfl rfl Try.isAgg3 (hk5.cell rfl)) fun a46 h46 => ?_; clear h45
 refine pk0 (v := .bool (decide (K < 0))) h46 rfl fun a47 h47 => ?_; clear h46
 refine pk0 (v := .bool (decide (K < 0))) h47 rfl fun a48 h48 => ?_; clear h47
 refine pk0 (v := .bool (decide (K < 0))) h48 rfl fun a49 h49 => ?_; clear h48
 refine pl_nil ?_
 refine co_then ?_
 have hc50 : (decide (K < 0)) = false := decide_eq_false (by omega)
 rw [hc50] at h49; clear hc50
 refine co_false h49 rfl ?_
 refine co_seq ?_
 refine co_reg ?_
 refine pk0 (v := pt b 0) h49 rfl fun a51 h51 => ?_; clear h49
 refine pk0 (v := pt b 0) h51 rfl fun a52 h52 => ?_; clear h51
 refine pk0 (v := pt b 4) h52 rfl fun a53 h53 => ?_; clear h52
 refine pk (v := wv) h53 rfl (rn_load1 rfl rfl Try.isAgg67 (PrQ.cell4 hO19)) fun a54 h54 => ?_; clear h53
 refine pk (v := .int .i64 ((P.W.length : Nat) : Int)) h54 rfl (rn_len rfl rfl Try.underlying67 (PrQ.sl hO19)) fun a55 h55 => ?_; clear h54
 refine pk0 (v := .bool (((P.W.length : Nat) : Int) == 0)) h55 rfl fun a56 h56 => ?_; clear h55
 refine pk0 (v := .bool (((P.W.length : Nat) : Int) == 0)) h56 rfl fun a57 h57 => ?_; clear h56
 refine pl_nil ?_
 refine co_then ?_
 have hc58 : (((P.W.length : Nat) : Int) == 0) = true := by first | (simp; done) | (simp; omega) | exact beq_false_of_ne (by omega) | exact beq_iff_eq.2 (by omega)
 rw [hc58] at h57; clear hc58
 refine co_true h57 rfl ?_
 refine wp_ret ?_
 refine co_blockR ?_
 refine co_ret0 h57 rfl ?_
 have hB59 := fbU_new hB0 hg4
 exact ⟨_, S, rfl, StepR.none, (PrQ.o hO19), ⟨hinS, hB59⟩, hB59⟩
end Go.Proofs.Ythmljllgfigebaa

/- catenalaw22: step, a case (gone). Conditions: none. -/
namespace Go.Proofs.Ythmljllgfigebaa
open Go.RowKit Go.PlainAid
set_option linter.unusedVariables false
set_option linter.unusedSimpArgs false

set_option maxRecDepth 100000 in
set_option maxHeartbeats 6400000 in
theorem step_gone (S : Nat → Prop) (b : Nat) (P : PrT) (K : Int) (n : Int) (g : Bool) (w : World) (hP : PrO S w b P) (hst : StepH P) (hn : 0 ≤ n ∧ n ≤ 255) (hK : K = 5 ∧ 0 < P.W.length) :
    Calls Try.prog 49 #[pt b 0, .agg #[.int .i64 K, .int .u8 n, .bool g]] w fun e w' => ∃ (P' : PrT) (S' : Nat → Prop), e = .returned (.tuple #[]) ∧ StepR K P P' ∧ PrO S' w' b P' ∧ Grew S S' w w' ∧ But (S) w w' := by
 have hlW := hst.lW
 have hlT := hst.lT
 obtain ⟨q1, q2⟩ := hst.bt
 obtain ⟨q3, q4⟩ := hst.st
 obtain ⟨i0, hi0⟩ : ∃ i0 : Nat, 0 < P.W.length → n.tmod (P.W.length : Nat) = (i0 : Nat) ∧ i0 < P.W.length := ⟨(n.tmod (P.W.length : Nat)).toNat, fun h => by have e1 := Int.tmod_nonneg (P.W.length : Int) hn.1; have e2 := Int.tmod_lt_of_pos n (show (0 : Int) < (P.W.length : Nat) by omega); omega⟩
 have hB0 := But.refl (S) w
 obtain ⟨NA, NB, SA, SB, wv, tv, hQ⟩ := hP
 have hinS : ∀ k, S k → S k ∨ w.heap.size ≤ k := fun k hk => .inl hk
 have hl_b := (PrQ.blk hQ).lt
 refine co_enter (n := 192) Try.func49 rfl rfl rfl [(0, pt b 0), (1, .agg #[.int .i64 K, .int .u8 n, .bool g])] rfl (fun a h0 => ?_)
 refine co_seq ?_
 refine co_reg ?_
 refine pw h0 rfl (op_new (v := fun N => pt N 0) (T := 90) (cs := #[.int .i64 K, .int .u8 n, .bool g]) (by kernel_rfl) (by kernel_rfl) (by kernel_rfl)) ?_; clear h0
 rintro _ w2 a1 ⟨N3, rfl, hN6, hz7, hk5, hg4⟩ h1
 have hz8 := hg4.size
 have ho9 := off_new (PrQ.ofS hQ) hN6
 try dsimp only at h1
 refine pl_nil ?_
 refine co_then ?_
 refine co_seq ?_
 refine co_reg ?_
 refine pk0 (v := pt N3 1) h1 rfl fun a10 h10 => ?_; clear h1
 refine pk (v := .int .u8 n) h10 rfl (rn_load1 rfl rfl Try.isAgg5 (hk5.cell rfl)) fun a11 h11 => ?_; clear h10
 refine pk (v := .int .i64 n) h11 rfl (rn_conv rfl rfl Try.underlying5 Try.underlying3 (IntWalk.i64_in _ (by omega))) fun a12 h12 => ?_; clear h11
 refine pk (v := .int .i64 (n.tmod 2)) h12 rfl (rn_remP rfl rfl rfl (by decide) rfl rfl) fun a13 h13 => ?_; clear h12
 refine pk0 (v := .int .i64 (n.tmod 2)) h13 rfl fun a14 h14 => ?_; clear h13
 refine pl_nil ?_
 refine co_then ?_
 refine co_seq ?_
 refine co_reg ?_
 refine pk0 (v := .int .i64 0) h14 rfl fun a15 h15 => ?_; clear h14
 refine pl_nil ?_
 refine co_then ?_
 refine co_seq ?_
 refine co_seq ?_
 refine co_reg ?_
 refine pk0 (v := pt b 0) h15 rfl fun a16 h16 => ?_; clear h15
 refine pk0 (v := pt b 0) h16 rfl fun a17 h17 => ?_; clear h16
 refine pk0 (v := pt b 4) h17 rfl fun a18 h18 => ?_; clear h17
 have hO19 := PrQ.gr hQ hg4 (fun k e => by cases e)
 refine pk (v := wv) h18 rfl (rn_load1 rfl rfl Try.isAgg67 (PrQ.cell4 hO19)) fun a20 h20 => ?_; clear h18
 refine pk (v := .int .i64 ((P.W.length : Nat) : Int)) h20 rfl (rn_len rfl rfl Try.underlying67 (PrQ.sl hO19)) fun a21 h21 => ?_; clear h20
 refine pk0 (v := .bool (decide (((P.W.length : Nat) : Int) > 0))) h21 rfl fun a22 h22 => ?_; clear h21
 refine pl_nil ?_
 refine co_then ?_
 have hc23 : (decide (((P.W.length : Nat) : Int) > 0)) = true := decide_eq_true (by omega)
 rw [hc23] at h22; clear hc23
 refine co_true h22 rfl ?_
 refine dr_eq (by kernel_rfl) (fun w24 hg25 => ?_)
 have hz26 := hg25.size
 refine dk0 0 (v := pt N3 1) h22 rfl rfl rfl fun a27 h27 => ?_; clear h22
 have hk28 := hk5.kept hg25 (by simp)
 refine dk 1 (v := .int .u8 n) h27 rfl rfl rfl (fun x hx => by subst hx; exact (rn_load1 rfl rfl Try.isAgg5 (hk28.cell rfl))) fun a29 h29 => ?_; clear h27
 refine dk 2 (v := .int .i64 n) h29 rfl rfl rfl (fun x hx => by subst hx; exact (rn_conv rfl rfl Try.underlying5 Try.underlying3 (IntWalk.i64_in _ (by omega)))) fun a30 h30 => ?_; clear h29
 refine dk0 3 (v := pt b 0) h30 rfl rfl rfl fun a31 h31 => ?_; clear h30
 refine dk0 4 (v := pt b 0) h31 rfl rfl rfl fun a32 h32 => ?_; clear h31
 refine dk0 5 (v := pt b 4) h32 rfl rfl rfl fun a33 h33 => ?_; clear h32
 have hO34 := PrQ.gr hO19 hg25 (fun k e => by cases e)
 refine dk 6 (v := wv) h33 rfl rfl rfl (fun x hx => by subst hx; exact (rn_load1 rfl rfl Try.isAgg67 (PrQ.cell4 hO34))) fun a35 h35 => ?_; clear h33
 refine dk 7 (v := .int .i64 ((P.W.length : Nat) : Int)) h35 rfl rfl rfl (fun x hx => by subst hx; exact (rn_len rfl rfl Try.underlying67 (PrQ.sl hO34))) fun a36 h36 => ?_; clear h35
 have hi1 := (hi0 (by omega)).2
 refine dk 8 (v := .int .i64 ((i0 : Nat) : Int)) h36 rfl rfl rfl (fun x hx => by subst hx; exact (rn_remP rfl rfl rfl (by omega) rfl (hi0 (by omega)).1)) fun a37 h37 => ?_; clear h36
 refine dk0 9 (v := .int .i64 ((i0 : Nat) : Int)) h37 rfl rfl rfl fun a38 h38 => ?_; clear h37
 refine dr_done (by kernel_rfl) ?_
 refine co_then ?_
 refine wp_block ?_
 refine co_seq ?_
 refine co_reg ?_
 refine pk0 (v := pt N3 0) h38 rfl fun a39 h39 => ?_; clear h38
 refine pk (v := .int .i64 K) h39 rfl (rn_load1 rfl rfl Try.isAgg3 (hk28.cell rfl)) fun a40 h40 => ?_; clear h39
 refine pk0 (v := .bool (K == 0)) h40 rfl fun a41 h41 => ?_; clear h40
 refine pk0 (v := .bool (K == 0)) h41 rfl fun a42 h42 => ?_; clear h41
 have hc43 : (K == 0) = false := by first | (simp; done) | (simp; omega) | exact beq_false_of_ne (by omega) | exact beq_iff_eq.2 (by omega)
 rw [hc43] at h42; clear hc43
 refine pk0 (v := pt N3 0) h42 rfl fun a44 h44 => ?_; clear h42
 refine pk (v := .int .i64 K) h44 rfl (rn_load1 rfl rfl Try.isAgg3 (hk28.cell rfl)) fun a45 h45 => ?_; clear h44
 refine pk0 (v := .bool (K == 1)) h45 rfl fun a46 h46 => ?_; clear h45
 refine pk0 (v := .bool (K == 1)) h46 rfl fun a47 h47 => ?_; clear h46
 refine pk0 (v := .bool (K == 1)) h47 rfl fun a48 h48 => ?_; clear h47
 refine pl_nil ?_
 refine co_then ?_
 have hc49 : (K == 1) = false := by first | (simp; done) | (simp; omega) | exact beq_false_of_ne (by omega) | exact beq_iff_eq.2 (by omega)
 rw [hc49] at h48; clear hc49
 refine co_false h48 rfl ?_
 refine co_seq ?_
 refine co_reg ?_
 refine pk0 (v := pt N3 0) h48 rfl fun a50 h50 => ?_; clear h48
 refine pk (v := .int .i64 K) h50 rfl (rn_load1 rfl rfl Try.isAgg3 (hk28.cell rfl)) fun a51 h51 => ?_; clear h50
 refine pk0 (v := .bool (K == 2)) h51 rfl fun a52 h52 => ?_; clear h51
 refine pk0 (v := .bool (K == 2)) h52 rfl fun a53 h53 => ?_; clear h52
 refine pl_nil ?_
 refine co_then ?_
 have hc54 : (K == 2) = false := by first | (simp; done) | (simp; omega) | exact beq_false_of_ne (by omega) | exact beq_iff_eq.2 (by omega)
 rw [hc54] at h53; clear hc54
 refine co_false h53 rfl ?_
 refine co_seq ?_
 refine co_reg ?_
 refine pk0 (v := pt N3 0) h53 rfl fun a55 h55 => ?_; clear h53
 refine pk (v := .int .i64 K) h55 rfl (rn_load1 rfl rfl Try.isAgg3 (hk28.cell rfl)) fun a56 h56 => ?_; clear h55
 refine pk0 (v := .bool (decide (K > 6))) h56 rfl fun a57 h57 => ?_; clear h56
 refine pk0 (v := .bool (decide (K > 6))) h57 rfl fun a58 h58 => ?_; clear h57
 have hc59 : (decide (K > 6)) = false := decide_eq_false (by omega)
 rw [hc59] at h58; clear hc59
 refine pk0 (v := pt N3 0) h58 rfl fun a60 h60 => ?_; clear h58
 refine pk (v := .int .i64 K) h60 rfl (rn_load1 rfl rfl Try.isAgg3 (hk28.cell rfl)) fun a61 h61 => ?_; clear h60
 refine pk0 (v := .bool (decide (K < 0))) h61 rfl fun a62 h62 => ?_; clear h61
 refine pk0 (v := .bool (decide (K < 0))) h62 rfl fun a63 h63 => ?_; clear h62
 refine pk0 (v := .bool (decide (K < 0))) h63 rfl fun a64 h64 => ?_; clear h63
 refine pl_nil ?_
 refine co_then ?_
 have hc65 : (decide (K < 0)) = false := decide_eq_false (by omega)
 rw [hc65] at h64; clear hc65
 refine co_false h64 rfl ?_
 refine co_seq ?_
 refine co_reg ?_
 refine pk0 (v := pt b 0) h64 rfl fun a66 h66 => ?_; clear h64
 refine pk0 (v := pt b 0) h66 rfl fun a67 h67 => ?_; clear h66
 refine pk0 (v := pt b 4) h67 rfl fun a68 h68 => ?_; clear h67
 refine pk (v := wv) h68 rfl (rn_load1 rfl rfl Try.isAgg67 (PrQ.cell4 hO34)) fun a69 h69 => ?_; clear h68
 refine pk (v := .int .i64 ((P.W.length : Nat) : Int)) h69 rfl (rn_len rfl rfl Try.underlying67 (PrQ.sl hO34)) fun a70 h70 => ?_; clear h69
 refine pk0 (v := .bool (((P.W.length : Nat) : Int) == 0)) h70 rfl fun a71 h71 => ?_; clear h70
 refine pk0 (v := .bool (((P.W.length : Nat) : Int) == 0)) h71 rfl fun a72 h72 => ?_; clear h71
 refine pl_nil ?_
 refine co_then ?_
 have hc73 : (((P.W.length : Nat) : Int) == 0) = false := by first | (simp; done) | (simp; omega) | exact beq_false_of_ne (by omega) | exact beq_iff_eq.2 (by omega)
 rw [hc73] at h72; clear hc73
 refine co_false h72 rfl ?_
 refine co_seq ?_
 refine co_reg ?_
 refine pk0 (v := pt N3 0) h72 rfl fun a74 h74 => ?_; clear h72
 refine pk (v := .int .i64 K) h74 rfl (rn_load1 rfl rfl Try.isAgg3 (hk28.cell rfl)) fun a75 h75 => ?_; clear h74
 refine pk0 (v := .bool (K == 5)) h75 rfl fun a76 h76 => ?_; clear h75
 refine pk0 (v := .bool (K == 5)) h76 rfl fun a77 h77 => ?_; clear h76
 refine pl_nil ?_
 refine co_then ?_
 have hc78 : (K == 5) = true := by first | (simp; done) | (simp; omega) | exact beq_false_of_ne (by omega) | exact beq_iff_eq.2 (by omega)
 rw [hc78] at h77; clear hc78
 refine co_true h77 rfl ?_
 refine co_reg ?_
 refine pk0 (v := pt b 0) h77 rfl fun a79 h79 => ?_; clear h77
 refine pk0 (v := .int .i64 ((i0 : Nat) : Int)) h79 rfl fun a80 h80 => ?_; clear h79
 have ho83 := PrQ.ofS hO34
 have hB84 := fbU_new hB0 hg4
 have hB85 := fbU_new hB84 hg25
 refine pw h80 rfl (op_call (args := #[pt b 0, .int .i64 ((i0 : Nat) : Int)]) (R := fun res xw => ∃ S' : Nat → Prop, res = .tuple #[] ∧ PrO S' xw b (goneP P i0) ∧ Grew S S' w24 xw) rfl rfl rfl (by kernel_rfl) (by kernel_rfl) (Try.call97 _ _) (prGone_any S b P i0 w24 (PrQ.o hO34) hlW hlT (by omega)) (by rintro e x ⟨S', h0, h1, h2, _⟩; exact ⟨_, h0, S', rfl, h1, h2⟩)) ?_; clear h80
 rintro _ w82 a81 ⟨S86, rfl, hO87, hx88⟩ h81
 have hB89 := fbU_foot hB85 hx88.but (fun i hi hq => by rcases hinS i hq with k | k; exact k; omega)
 have hz90 := hB89.size
 have hz91 := hx88.but.size
 have hin92 : ∀ q, S86 q → S q ∨ w.heap.size ≤ q := fun q hq => by rcases hx88.sub q hq with k | k; exact hinS q k; exact .inr (by omega)
 refine pl_nil ?_
 refine co_blockN ?_
 refine co_ret0n h81 rfl ?_
 exact ⟨_, S86, rfl, (StepR.gone _ (by omega)), hO87, ⟨hin92, hB89⟩, hB89⟩
end Go.Proofs.Ythmljllgfigebaa

/- catenalaw22: step, a case (come). Conditions: none. -/
namespace Go.Proofs.Ythmljllgfigebaa
open Go.RowKit Go.PlainAid
set_option linter.unusedVariables false
set_option linter.unusedSimpArgs false

set_option maxRecDepth 100000 in
set_option maxHeartbeats 6400000 in
theorem step_come (S : Nat → Prop) (b : Nat) (P : PrT) (K : Int) (n : Int) (g : Bool) (w : World) (hP : PrO S w b P) (hst : StepH P) (hn : 0 ≤ n ∧ n ≤ 255) (hK : (K = 3 ∨ K = 4) ∧ 0 < P.W.length) :
    Calls Try.prog 49 #[pt b 0, .agg #[.int .i64 K, .int .u8 n, .bool g]] w fun e w' => ∃ (P' : PrT) (S' : Nat → Prop), e = .returned (.tuple #[]) ∧ StepR K P P' ∧ PrO S' w' b P' ∧ Grew S S' w w' ∧ But (S) w w' := by
 have hlW := hst.lW
 have hlT := hst.lT
 obtain ⟨q1, q2⟩ := hst.bt
 obtain ⟨q3, q4⟩ := hst.st
 obtain ⟨i0, hi0⟩ : ∃ i0 : Nat, 0 < P.W.length → n.tmod (P.W.length : Nat) = (i0 : Nat) ∧ i0 < P.W.length := ⟨(n.tmod (P.W.length : Nat)).toNat, fun h => by have e1 := Int.tmod_nonneg (P.W.length : Int) hn.1; have e2 := Int.tmod_lt_of_pos n (show (0 : Int) < (P.W.length : Nat) by omega); omega⟩
 have hB0 := But.refl (S) w
 obtain ⟨NA, NB, SA, SB, wv, tv, hQ⟩ := hP
 have hinS : ∀ k, S k → S k ∨ w.heap.size ≤ k := fun k hk => .inl hk
 have hl_b := (PrQ.blk hQ).lt
 refine co_enter (n := 192) Try.func49 rfl rfl rfl [(0, pt b 0), (1, .agg #[.int .i64 K, .int .u8 n, .bool g])] rfl (fun a h0 => ?_)
 refine co_seq ?_
 refine co_reg ?_
 refine pw h0 rfl (op_new (v := fun N => pt N 0) (T := 90) (cs := #[.int .i64 K, .int .u8 n, .bool g]) (by kernel_rfl) (by kernel_rfl) (by kernel_rfl)) ?_; clear h0
 rintro _ w2 a1 ⟨N3, rfl, hN6, hz7, hk5, hg4⟩ h1
 have hz8 := hg4.size
 have ho9 := off_new (PrQ.ofS hQ) hN6
 try dsimp only at h1
 refine pl_nil ?_
 refine co_then ?_
 refine co_seq ?_
 refine co_reg ?_
 refine pk0 (v := pt N3 1) h1 rfl fun a10 h10 => ?_; clear h1
 refine pk (v := .int .u8 n) h10 rfl (rn_load1 rfl rfl Try.isAgg5 (hk5.cell rfl)) fun a11 h11 => ?_; clear h10
 refine pk (v := .int .i64 n) h11 rfl (rn_conv rfl rfl Try.underlying5 Try.underlying3 (IntWalk.i64_in _ (by omega))) fun a12 h12 => ?_; clear h11
 refine pk (v := .int .i64 (n.tmod 2)) h12 rfl (rn_remP rfl rfl rfl (by decide) rfl rfl) fun a13 h13 => ?_; clear h12
 refine pk0 (v := .int .i64 (n.tmod 2)) h13 rfl fun a14 h14 => ?_; clear h13
 refine pl_nil ?_
 refine co_then ?_
 refine co_seq ?_
 refine co_reg ?_
 refine pk0 (v := .int .i64 0) h14 rfl fun a15 h15 => ?_; clear h14
 refine pl_nil ?_
 refine co_then ?_
 refine co_seq ?_
 refine co_seq ?_
 refine co_reg ?_
 refine pk0 (v := pt b 0) h15 rfl fun a16 h16 => ?_; clear h15
 refine pk0 (v := pt b 0) h16 rfl fun a17 h17 => ?_; clear h16
 refine pk0 (v := pt b 4) h17 rfl fun a18 h18 => ?_; clear h17
 have hO19 := PrQ.gr hQ hg4 (fun k e => by cases e)
 refine pk (v := wv) h18 rfl (rn_load1 rfl rfl Try.isAgg67 (PrQ.cell4 hO19)) fun a20 h20 => ?_; clear h18
 refine pk (v := .int .i64 ((P.W.length : Nat) : Int)) h20 rfl (rn_len rfl rfl Try.underlying67 (PrQ.sl hO19)) fun a21 h21 => ?_; clear h20
 refine pk0 (v := .bool (decide (((P.W.length : Nat) : Int) > 0))) h21 rfl fun a22 h22 => ?_; clear h21
 refine pl_nil ?_
 refine co_then ?_
 have hc23 : (decide (((P.W.length : Nat) : Int) > 0)) = true := decide_eq_true (by omega)
 rw [hc23] at h22; clear hc23
 refine co_true h22 rfl ?_
 refine dr_eq (by kernel_rfl) (fun w24 hg25 => ?_)
 have hz26 := hg25.size
 refine dk0 0 (v := pt N3 1) h22 rfl rfl rfl fun a27 h27 => ?_; clear h22
 have hk28 := hk5.kept hg25 (by simp)
 refine dk 1 (v := .int .u8 n) h27 rfl rfl rfl (fun x hx => by subst hx; exact (rn_load1 rfl rfl Try.isAgg5 (hk28.cell rfl))) fun a29 h29 => ?_; clear h27
 refine dk 2 (v := .int .i64 n) h29 rfl rfl rfl (fun x hx => by subst hx; exact (rn_conv rfl rfl Try.underlying5 Try.underlying3 (IntWalk.i64_in _ (by omega)))) fun a30 h30 => ?_; clear h29
 refine dk0 3 (v := pt b 0) h30 rfl rfl rfl fun a31 h31 => ?_; clear h30
 refine dk0 4 (v := pt b 0) h31 rfl rfl rfl fun a32 h32 => ?_; clear h31
 refine dk0 5 (v := pt b 4) h32 rfl rfl rfl fun a33 h33 => ?_; clear h32
 have hO34 := PrQ.gr hO19 hg25 (fun k e => by cases e)
 refine dk 6 (v := wv) h33 rfl rfl rfl (fun x hx => by subst hx; exact (rn_load1 rfl rfl Try.isAgg67 (PrQ.cell4 hO34))) fun a35 h35 => ?_; clear h33
 refine dk 7 (v := .int .i64 ((P.W.length : Nat) : Int)) h35 rfl rfl rfl (fun x hx => by subst hx; exact (rn_len rfl rfl Try.underlying67 (PrQ.sl hO34))) fun a36 h36 => ?_; clear h35
 have hi1 := (hi0 (by omega)).2
 refine dk 8 (v := .int .i64 ((i0 : Nat) : Int)) h36 rfl rfl rfl (fun x hx => by subst hx; exact (rn_remP rfl rfl rfl (by omega) rfl (hi0 (by omega)).1)) fun a37 h37 => ?_; clear h36
 refine dk0 9 (v := .int .i64 ((i0 : Nat) : Int)) h37 rfl rfl rfl fun a38 h38 => ?_; clear h37
 refine dr_done (by kernel_rfl) ?_
 refine co_then ?_
 refine wp_block ?_
 refine co_seq ?_
 refine co_reg ?_
 refine pk0 (v := pt N3 0) h38 rfl fun a39 h39 => ?_; clear h38
 refine pk (v := .int .i64 K) h39 rfl (rn_load1 rfl rfl Try.isAgg3 (hk28.cell rfl)) fun a40 h40 => ?_; clear h39
 refine pk0 (v := .bool (K == 0)) h40 rfl fun a41 h41 => ?_; clear h40
 refine pk0 (v := .bool (K == 0)) h41 rfl fun a42 h42 => ?_; clear h41
 have hc43 : (K == 0) = false := by first | (simp; done) | (simp; omega) | exact beq_false_of_ne (by omega) | exact beq_iff_eq.2 (by omega)
 rw [hc43] at h42; clear hc43
 refine pk0 (v := pt N3 0) h42 rfl fun a44 h44 => ?_; clear h42
 refine pk (v := .int .i64 K) h44 rfl (rn_load1 rfl rfl Try.isAgg3 (hk28.cell rfl)) fun a45 h45 => ?_; clear h44
 refine pk0 (v := .bool (K == 1)) h45 rfl fun a46 h46 => ?_; clear h45
 refine pk0 (v := .bool (K == 1)) h46 rfl fun a47 h47 => ?_; clear h46
 refine pk0 (v := .bool (K == 1)) h47 rfl fun a48 h48 => ?_; clear h47
 refine pl_nil ?_
 refine co_then ?_
 have hc49 : (K == 1) = false := by first | (simp; done) | (simp; omega) | exact beq_false_of_ne (by omega) | exact beq_iff_eq.2 (by omega)
 rw [hc49] at h48; clear hc49
 refine co_false h48 rfl ?_
 refine co_seq ?_
 refine co_reg ?_
 refine pk0 (v := pt N3 0) h48 rfl fun a50 h50 => ?_; clear h48
 refine pk (v := .int .i64 K) h50 rfl (rn_load1 rfl rfl Try.isAgg3 (hk28.cell rfl)) fun a51 h51 => ?_; clear h50
 refine pk0 (v := .bool (K == 2)) h51 rfl fun a52 h52 => ?_; clear h51
 refine pk0 (v := .bool (K == 2)) h52 rfl fun a53 h53 => ?_; clear h52
 refine pl_nil ?_
 refine co_then ?_
 have hc54 : (K == 2) = false := by first | (simp; done) | (simp; omega) | exact beq_false_of_ne (by omega) | exact beq_iff_eq.2 (by omega)
 rw [hc54] at h53; clear hc54
 refine co_false h53 rfl ?_
 refine co_seq ?_
 refine co_reg ?_
 refine pk0 (v := pt N3 0) h53 rfl fun a55 h55 => ?_; clear h53
 refine pk (v := .int .i64 K) h55 rfl (rn_load1 rfl rfl Try.isAgg3 (hk28.cell rfl)) fun a56 h56 => ?_; clear h55
 refine pk0 (v := .bool (decide (K > 6))) h56 rfl fun a57 h57 => ?_; clear h56
 refine pk0 (v := .bool (decide (K > 6))) h57 rfl fun a58 h58 => ?_; clear h57
 have hc59 : (decide (K > 6)) = false := decide_eq_false (by omega)
 rw [hc59] at h58; clear hc59
 refine pk0 (v := pt N3 0) h58 rfl fun a60 h60 => ?_; clear h58
 refine pk (v := .int .i64 K) h60 rfl (rn_load1 rfl rfl Try.isAgg3 (hk28.cell rfl)) fun a61 h61 => ?_; clear h60
 refine pk0 (v := .bool (decide (K < 0))) h61 rfl fun a62 h62 => ?_; clear h61
 refine pk0 (v := .bool (decide (K < 0))) h62 rfl fun a63 h63 => ?_; clear h62
 refine pk0 (v := .bool (decide (K < 0))) h63 rfl fun a64 h64 => ?_; clear h63
 refine pl_nil ?_
 refine co_then ?_
 have hc65 : (decide (K < 0)) = false := decide_eq_false (by omega)
 rw [hc65] at h64; clear hc65
 refine co_false h64 rfl ?_
 refine co_seq ?_
 refine co_reg ?_
 refine pk0 (v := pt b 0) h64 rfl fun a66 h66 => ?_; clear h64
 refine pk0 (v := pt b 0) h66 rfl fun a67 h67 => ?_; clear h66
 refine pk0 (v := pt b 4) h67 rfl fun a68 h68 => ?_; clear h67
 refine pk (v := wv) h68 rfl (rn_load1 rfl rfl Try.isAgg67 (PrQ.cell4 hO34)) fun a69 h69 => ?_; clear h68
 refine pk (v := .int .i64 ((P.W.length : Nat) : Int)) h69 rfl (rn_len rfl rfl Try.underlying67 (PrQ.sl hO34)) fun a70 h70 => ?_; clear h69
 refine pk0 (v := .bool (((P.W.length : Nat) : Int) == 0)) h70 rfl fun a71 h71 => ?_; clear h70
 refine pk0 (v := .bool (((P.W.length : Nat) : Int) == 0)) h71 rfl fun a72 h72 => ?_; clear h71
 refine pl_nil ?_
 refine co_then ?_
 have hc73 : (((P.W.length : Nat) : Int) == 0) = false := by first | (simp; done) | (simp; omega) | exact beq_false_of_ne (by omega) | exact beq_iff_eq.2 (by omega)
 rw [hc73] at h72; clear hc73
 refine co_false h72 rfl ?_
 refine co_seq ?_
 refine co_reg ?_
 refine pk0 (v := pt N3 0) h72 rfl fun a74 h74 => ?_; clear h72
 refine pk (v := .int .i64 K) h74 rfl (rn_load1 rfl rfl Try.isAgg3 (hk28.cell rfl)) fun a75 h75 => ?_; clear h74
 refine pk0 (v := .bool (K == 5)) h75 rfl fun a76 h76 => ?_; clear h75
 refine pk0 (v := .bool (K == 5)) h76 rfl fun a77 h77 => ?_; clear h76
 refine pl_nil ?_
 refine co_then ?_
 have hc78 : (K == 5) = false := by first | (simp; done) | (simp; omega) | exact beq_false_of_ne (by omega) | exact beq_iff_eq.2 (by omega)
 rw [hc78] at h77; clear hc78
 refine co_false h77 rfl ?_
 refine co_seq ?_
 refine co_reg ?_
 refine pk0 (v := pt N3 0) h77 rfl fun a79 h79 => ?_; clear h77
 refine pk (v := .int .i64 K) h79 rfl (rn_load1 rfl rfl Try.isAgg3 (hk28.cell rfl)) fun a80 h80 => ?_; clear h79
 refine pk0 (v := .bool (K == 6)) h80 rfl fun a81 h81 => ?_; clear h80
 refine pk0 (v := .bool (K == 6)) h81 rfl fun a82 h82 => ?_; clear h81
 refine pl_nil ?_
 refine co_then ?_
 have hc83 : (K == 6) = false := by first | (simp; done) | (simp; omega) | exact beq_false_of_ne (by omega) | exact beq_iff_eq.2 (by omega)
 rw [hc83] at h82; clear hc83
 refine co_false h82 rfl ?_
 refine co_seq ?_
 refine co_reg ?_
 refine pk0 (v := pt b 0) h82 rfl fun a84 h84 => ?_; clear h82
 refine pk0 (v := .int .i64 ((i0 : Nat) : Int)) h84 rfl fun a85 h85 => ?_; clear h84
 have ho88 := PrQ.ofS hO34
 obtain ⟨y0, hy0⟩ : ∃ z, P.W[i0]? = some z := ⟨_, List.getElem?_eq_getElem (by omega)⟩
 obtain ⟨d0, hd0⟩ : ∃ z, P.T[i0]? = some z := ⟨_, List.getElem?_eq_getElem (by omega)⟩
 obtain ⟨hcm0, hcm1⟩ := hst.cm i0 y0 d0 hy0 hd0
 have hsd0 := hst.sd d0 (List.mem_of_getElem? hd0)
 have hB89 := fbU_new hB0 hg4
 have hB90 := fbU_new hB89 hg25
 refine pw h85 rfl (op_call (args := #[pt b 0, .int .i64 ((i0 : Nat) : Int)]) (R := fun res xw => ∃ S' : Nat → Prop, res = .tuple #[] ∧ PrO S' xw b (comeP P d0 y0) ∧ Grew S S' w24 xw) rfl rfl rfl (by kernel_rfl) (by kernel_rfl) (Try.call51 _ _) (prCome_any S b P i0 d0 y0 w24 (PrQ.o hO34) hlW hlT (by omega) hd0 hy0 hcm0 hcm1 hsd0) (by rintro e x ⟨S', h0, h1, h2, _⟩; exact ⟨_, h0, S', rfl, h1, h2⟩)) ?_; clear h85
 rintro _ w87 a86 ⟨S91, rfl, hO92, hx93⟩ h86
 have hB94 := fbU_foot hB90 hx93.but (fun i hi hq => by rcases hinS i hq with k | k; exact k; omega)
 have hz95 := hB94.size
 have hz96 := hx93.but.size
 have hin97 : ∀ q, S91 q → S q ∨ w.heap.size ≤ q := fun q hq => by rcases hx93.sub q hq with k | k; exact hinS q k; exact .inr (by omega)
 have hcW : (comeP P d0 y0).W.length ≤ 200 := by unfold comeP; split <;> exact hlW
 have hcT : (comeP P d0 y0).T.length = (comeP P d0 y0).W.length := by unfold comeP; split <;> exact hlT
 have hcI : i0 < (comeP P d0 y0).W.length := by unfold comeP; split <;> exact (hi0 (by omega)).2
 refine pl_nil ?_
 refine co_then ?_
 refine co_reg ?_
 refine pk0 (v := pt b 0) h86 rfl fun a98 h98 => ?_; clear h86
 refine pk0 (v := .int .i64 ((i0 : Nat) : Int)) h98 rfl fun a99 h99 => ?_; clear h98
 have ho102 := PrO.ofS hO92
 refine pw h99 rfl (op_call (args := #[pt b 0, .int .i64 ((i0 : Nat) : Int)]) (R := fun res xw => ∃ S' : Nat → Prop, res = .tuple #[] ∧ PrO S' xw b (goneP (comeP P d0 y0) i0) ∧ Grew S91 S' w87 xw) rfl rfl rfl (by kernel_rfl) (by kernel_rfl) (Try.call97 _ _) (prGone_any S91 b (comeP P d0 y0) i0 w87 hO92 hcW hcT hcI) (by rintro e x ⟨S', h0, h1, h2, _⟩; exact ⟨_, h0, S', rfl, h1, h2⟩)) ?_; clear h99
 rintro _ w101 a100 ⟨S103, rfl, hO104, hx105⟩ h100
 have hk106 := Blk.butS hk28 hx93.but ho9
 have hB107 := fbU_foot hB94 hx105.but (fun i hi hq => by rcases hin97 i hq with k | k; exact k; omega)
 have hz108 := hB107.size
 have hz109 := hx105.but.size
 have hin110 : ∀ q, S103 q → S q ∨ w.heap.size ≤ q := fun q hq => by rcases hx105.sub q hq with k | k; exact hin97 q k; exact .inr (by omega)
 refine pl_nil ?_
 refine co_blockN ?_
 refine co_ret0n h100 rfl ?_
 exact ⟨_, S103, rfl, (StepR.come _ _ _ hy0 hd0 (by omega)), hO104, ⟨hin110, hB107⟩, hB107⟩
end Go.Proofs.Ythmljllgfigebaa
