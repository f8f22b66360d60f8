/- catenalaw22: step, a case (dup). Conditions: none. -/
import Derived.Test.YthmljllgfigebaaLo4
namespace Go.Proofs.Ythmljllgfigebaa
open Go.RowKit Go.PlainAid
set_option linter.unusedVariables false
set_option linter.unusedSimpArgs false

set_option maxRecDepth 100000 in
set_option maxHeartbeats 6400000 in
theorem step_dup (S : Nat → Prop) (b : Nat) (P : PrT) (K : Int) (n : Int) (g : Bool) (w : World) (hP : PrO S w b P) (hst : StepH P) (hn : 0 ≤ n ∧ n ≤ 255) (hK : K = 6 ∧ 0 < P.W.length) :
    Calls Try.prog 49 #[pt b 0, .agg #[.int .i64 K, .int .u8 n, .bool g]] w fun e w' => ∃ (P' : PrT) (S' : Nat → Prop), e = .returned (.tuple #[]) ∧ StepR K P P' ∧ PrO S' w' b P' ∧ Grew S S' w w' ∧ But (S) w w' := by
 have hlW := hst.lW
 have hlT := hst.lT
 obtain ⟨q1, q2⟩ := hst.bt
 obtain ⟨q3, q4⟩ := hst.st
 obtain ⟨i0, hi0⟩ : ∃ i0 : Nat, 0 < P.W.length → n.tmod (P.W.length : Nat) = (i0 : Nat) ∧ i0 < P.W.length := ⟨(n.tmod (P.W.length : Nat)).toNat, fun h => by have e1 := Int.tmod_nonneg (P.W.length : Int) hn.1; have e2 := Int.tmod_lt_of_pos n (show (0 : Int) < (P.W.length : Nat) by omega); omega⟩
 have hB0 := But.refl (S) w
 obtain ⟨NA, NB, SA, SB, wv, tv, hQ⟩ := hP
 have hBk : Blk w b 95 #[pt NA 0, pt NB 0, .int .i64 P.b0, .int .i64 P.b1, wv, tv, .int .i64 P.s0, .int .i64 P.s1, .int .i64 P.t0, .int .i64 P.t1, .bool true] := hQ.blk
 have hl_b := hBk.lt
 have hSb : S b ∨ w.heap.size ≤ b := .inl ((hQ.fp b).2 (.inl rfl))
 have hinA : ∀ q, SA q → S q ∨ w.heap.size ≤ q := fun q h => .inl ((hQ.fp q).2 (.inr (.inl h)))
 have hinB : ∀ q, SB q → S q ∨ w.heap.size ≤ q := fun q h => .inl ((hQ.fp q).2 (.inr (.inr (.inl h))))
 have hinw : InS S w.heap.size wv := InS.of (fun i hi => (hQ.fp i).2 (.inr (.inr (.inr (.inl hi)))))
 have hint : InS S w.heap.size tv := InS.of (fun i hi => (hQ.fp i).2 (.inr (.inr (.inr (.inr hi)))))
 have hW0 := hQ.way
 have hT0 := hQ.to
 refine co_enter (n := 192) Try.func49 rfl rfl rfl [(0, pt b 0), (1, .agg #[.int .i64 K, .int .u8 n, .bool g])] rfl (fun a h0 => ?_)
 refine co_seq ?_
 refine co_reg ?_
 refine pw h0 rfl (op_new (v := fun N => pt N 0) (T := 90) (cs := #[.int .i64 K, .int .u8 n, .bool g]) (by kernel_rfl) (by kernel_rfl) (by kernel_rfl)) ?_; clear h0
 rintro _ w2 a1 ⟨N3, rfl, hN6, hz7, hk5, hg4⟩ h1
 have ha8 := row_fresh hW0 hN6
 have hu9 := row_under hW0 hN6
 have ha10 := row_fresh hT0 hN6
 have hu11 := row_under hT0 hN6
 have hz12 := hg4.size
 have ho13 := off_new (LkP.ofS hQ.hA) hN6
 have ho14 := off_new (LkP.ofS hQ.hB) hN6
 try dsimp only at h1
 refine pl_nil ?_
 refine co_then ?_
 refine co_seq ?_
 refine co_reg ?_
 refine pk0 (v := pt N3 1) h1 rfl fun a15 h15 => ?_; clear h1
 refine pk (v := .int .u8 n) h15 rfl (rn_load1 rfl rfl Try.isAgg5 (hk5.cell rfl)) fun a16 h16 => ?_; clear h15
 refine pk (v := .int .i64 n) h16 rfl (rn_conv rfl rfl Try.underlying5 Try.underlying3 (IntWalk.i64_in _ (by omega))) fun a17 h17 => ?_; clear h16
 refine pk (v := .int .i64 (n.tmod 2)) h17 rfl (rn_remP rfl rfl rfl (by decide) rfl rfl) fun a18 h18 => ?_; clear h17
 refine pk0 (v := .int .i64 (n.tmod 2)) h18 rfl fun a19 h19 => ?_; clear h18
 refine pl_nil ?_
 refine co_then ?_
 refine co_seq ?_
 refine co_reg ?_
 refine pk0 (v := .int .i64 0) h19 rfl fun a20 h20 => ?_; clear h19
 refine pl_nil ?_
 refine co_then ?_
 refine co_seq ?_
 refine co_seq ?_
 refine co_reg ?_
 refine pk0 (v := pt b 0) h20 rfl fun a21 h21 => ?_; clear h20
 refine pk0 (v := pt b 0) h21 rfl fun a22 h22 => ?_; clear h21
 refine pk0 (v := pt b 4) h22 rfl fun a23 h23 => ?_; clear h22
 have hk24 := hBk.kept hg4 (by simp)
 refine pk (v := wv) h23 rfl (rn_load1 rfl rfl Try.isAgg67 (hk24.cell rfl)) fun a25 h25 => ?_; clear h23
 have hr26 := row_kept_new hW0 hg4
 refine pk (v := .int .i64 ((P.W.length : Nat) : Int)) h25 rfl (rn_lenOwn rfl rfl Try.underlying67 hr26) fun a27 h27 => ?_; clear h25
 refine pk0 (v := .bool (decide (((P.W.length : Nat) : Int) > 0))) h27 rfl fun a28 h28 => ?_; clear h27
 refine pl_nil ?_
 refine co_then ?_
 have hc29 : (decide (((P.W.length : Nat) : Int) > 0)) = true := decide_eq_true (by omega)
 rw [hc29] at h28; clear hc29
 refine co_true h28 rfl ?_
 refine dr_eq (by kernel_rfl) (fun w30 hg31 => ?_)
 have hz32 := hg31.size
 refine dk0 0 (v := pt N3 1) h28 rfl rfl rfl fun a33 h33 => ?_; clear h28
 have hk34 := hk5.kept hg31 (by simp)
 refine dk 1 (v := .int .u8 n) h33 rfl rfl rfl (fun x hx => by subst hx; exact (rn_load1 rfl rfl Try.isAgg5 (hk34.cell rfl))) fun a35 h35 => ?_; clear h33
 refine dk 2 (v := .int .i64 n) h35 rfl rfl rfl (fun x hx => by subst hx; exact (rn_conv rfl rfl Try.underlying5 Try.underlying3 (IntWalk.i64_in _ (by omega)))) fun a36 h36 => ?_; clear h35
 refine dk0 3 (v := pt b 0) h36 rfl rfl rfl fun a37 h37 => ?_; clear h36
 refine dk0 4 (v := pt b 0) h37 rfl rfl rfl fun a38 h38 => ?_; clear h37
 refine dk0 5 (v := pt b 4) h38 rfl rfl rfl fun a39 h39 => ?_; clear h38
 have hk40 := hk24.kept hg31 (by simp)
 refine dk 6 (v := wv) h39 rfl rfl rfl (fun x hx => by subst hx; exact (rn_load1 rfl rfl Try.isAgg67 (hk40.cell rfl))) fun a41 h41 => ?_; clear h39
 have hr42 := row_kept_new hr26 hg31
 refine dk 7 (v := .int .i64 ((P.W.length : Nat) : Int)) h41 rfl rfl rfl (fun x hx => by subst hx; exact (rn_lenOwn rfl rfl Try.underlying67 hr42)) fun a43 h43 => ?_; clear h41
 have hi1 := (hi0 (by omega)).2
 refine dk 8 (v := .int .i64 ((i0 : Nat) : Int)) h43 rfl rfl rfl (fun x hx => by subst hx; exact (rn_remP rfl rfl rfl (by omega) rfl (hi0 (by omega)).1)) fun a44 h44 => ?_; clear h43
 refine dk0 9 (v := .int .i64 ((i0 : Nat) : Int)) h44 rfl rfl rfl fun a45 h45 => ?_; clear h44
 refine dr_done (by kernel_rfl) ?_
 refine co_then ?_
 refine wp_block ?_
 refine co_seq ?_
 refine co_reg ?_
 refine pk0 (v := pt N3 0) h45 rfl fun a46 h46 => ?_; clear h45
 refine pk (v := .int .i64 K) h46 rfl (rn_load1 rfl rfl Try.isAgg3 (hk34.cell rfl)) fun a47 h47 => ?_; clear h46
 refine pk0 (v := .bool (K == 0)) h47 rfl fun a48 h48 => ?_; clear h47
 refine pk0 (v := .bool (K == 0)) h48 rfl fun a49 h49 => ?_; clear h48
 have hc50 : (K == 0) = false := by first | (simp; done) | (simp; omega) | exact beq_false_of_ne (by omega) | exact beq_iff_eq.2 (by omega)
 rw [hc50] at h49; clear hc50
 refine pk0 (v := pt N3 0) h49 rfl fun a51 h51 => ?_; clear h49
 refine pk (v := .int .i64 K) h51 rfl (rn_load1 rfl rfl Try.isAgg3 (hk34.cell rfl)) fun a52 h52 => ?_; clear h51
 refine pk0 (v := .bool (K == 1)) h52 rfl fun a53 h53 => ?_; clear h52
 refine pk0 (v := .bool (K == 1)) h53 rfl fun a54 h54 => ?_; clear h53
 refine pk0 (v := .bool (K == 1)) h54 rfl fun a55 h55 => ?_; clear h54
 refine pl_nil ?_
 refine co_then ?_
 have hc56 : (K == 1) = false := by first | (simp; done) | (simp; omega) | exact beq_false_of_ne (by omega) | exact beq_iff_eq.2 (by omega)
 rw [hc56] at h55; clear hc56
 refine co_false h55 rfl ?_
 refine co_seq ?_
 refine co_reg ?_
 refine pk0 (v := pt N3 0) h55 rfl fun a57 h57 => ?_; clear h55
 refine pk (v := .int .i64 K) h57 rfl (rn_load1 rfl rfl Try.isAgg3 (hk34.cell rfl)) fun a58 h58 => ?_; clear h57
 refine pk0 (v := .bool (K == 2)) h58 rfl fun a59 h59 => ?_; clear h58
 refine pk0 (v := .bool (K == 2)) h59 rfl fun a60 h60 => ?_; clear h59
 refine pl_nil ?_
 refine co_then ?_
 have hc61 : (K == 2) = false := by first | (simp; done) | (simp; omega) | exact beq_false_of_ne (by omega) | exact beq_iff_eq.2 (by omega)
 rw [hc61] at h60; clear hc61
 refine co_false h60 rfl ?_
 refine co_seq ?_
 refine co_reg ?_
 refine pk0 (v := pt N3 0) h60 rfl fun a62 h62 => ?_; clear h60
 refine pk (v := .int .i64 K) h62 rfl (rn_load1 rfl rfl Try.isAgg3 (hk34.cell rfl)) fun a63 h63 => ?_; clear h62
 refine pk0 (v := .bool (decide (K > 6))) h63 rfl fun a64 h64 => ?_; clear h63
 refine pk0 (v := .bool (decide (K > 6))) h64 rfl fun a65 h65 => ?_; clear h64
 have hc66 : (decide (K > 6)) = false := decide_eq_false (by omega)
 rw [hc66] at h65; clear hc66
 refine pk0 (v := pt N3 0) h65 rfl fun a67 h67 => ?_; clear h65
 refine pk (v := .int .i64 K) h67 rfl (rn_load1 rfl rfl Try.isAgg3 (hk34.cell rfl)) fun a68 h68 => ?_; clear h67
 refine pk0 (v := .bool (decide (K < 0))) h68 rfl fun a69 h69 => ?_; clear h68
 refine pk0 (v := .bool (decide (K < 0))) h69 rfl fun a70 h70 => ?_; clear h69
 refine pk0 (v := .bool (decide (K < 0))) h70 rfl fun a71 h71 => ?_; clear h70
 refine pl_nil ?_
 refine co_then ?_
 have hc72 : (decide (K < 0)) = false := decide_eq_false (by omega)
 rw [hc72] at h71; clear hc72
 refine co_false h71 rfl ?_
 refine co_seq ?_
 refine co_reg ?_
 refine pk0 (v := pt b 0) h71 rfl fun a73 h73 => ?_; clear h71
 refine pk0 (v := pt b 0) h73 rfl fun a74 h74 => ?_; clear h73
 refine pk0 (v := pt b 4) h74 rfl fun a75 h75 => ?_; clear h74
 refine pk (v := wv) h75 rfl (rn_load1 rfl rfl Try.isAgg67 (hk40.cell rfl)) fun a76 h76 => ?_; clear h75
 refine pk (v := .int .i64 ((P.W.length : Nat) : Int)) h76 rfl (rn_lenOwn rfl rfl Try.underlying67 hr42) fun a77 h77 => ?_; clear h76
 refine pk0 (v := .bool (((P.W.length : Nat) : Int) == 0)) h77 rfl fun a78 h78 => ?_; clear h77
 refine pk0 (v := .bool (((P.W.length : Nat) : Int) == 0)) h78 rfl fun a79 h79 => ?_; clear h78
 refine pl_nil ?_
 refine co_then ?_
 have hc80 : (((P.W.length : Nat) : Int) == 0) = false := by first | (simp; done) | (simp; omega) | exact beq_false_of_ne (by omega) | exact beq_iff_eq.2 (by omega)
 rw [hc80] at h79; clear hc80
 refine co_false h79 rfl ?_
 refine co_seq ?_
 refine co_reg ?_
 refine pk0 (v := pt N3 0) h79 rfl fun a81 h81 => ?_; clear h79
 refine pk (v := .int .i64 K) h81 rfl (rn_load1 rfl rfl Try.isAgg3 (hk34.cell rfl)) fun a82 h82 => ?_; clear h81
 refine pk0 (v := .bool (K == 5)) h82 rfl fun a83 h83 => ?_; clear h82
 refine pk0 (v := .bool (K == 5)) h83 rfl fun a84 h84 => ?_; clear h83
 refine pl_nil ?_
 refine co_then ?_
 have hc85 : (K == 5) = false := by first | (simp; done) | (simp; omega) | exact beq_false_of_ne (by omega) | exact beq_iff_eq.2 (by omega)
 rw [hc85] at h84; clear hc85
 refine co_false h84 rfl ?_
 refine co_seq ?_
 refine co_reg ?_
 refine pk0 (v := pt N3 0) h84 rfl fun a86 h86 => ?_; clear h84
 refine pk (v := .int .i64 K) h86 rfl (rn_load1 rfl rfl Try.isAgg3 (hk34.cell rfl)) fun a87 h87 => ?_; clear h86
 refine pk0 (v := .bool (K == 6)) h87 rfl fun a88 h88 => ?_; clear h87
 refine pk0 (v := .bool (K == 6)) h88 rfl fun a89 h89 => ?_; clear h88
 refine pl_nil ?_
 refine co_then ?_
 have hc90 : (K == 6) = true := by first | (simp; done) | (simp; omega) | exact beq_false_of_ne (by omega) | exact beq_iff_eq.2 (by omega)
 rw [hc90] at h89; clear hc90
 refine co_true h89 rfl ?_
 refine co_seq ?_
 refine co_reg ?_
 refine pk0 (v := pt b 0) h89 rfl fun a91 h91 => ?_; clear h89
 refine pk0 (v := pt b 0) h91 rfl fun a92 h92 => ?_; clear h91
 refine pk0 (v := pt b 4) h92 rfl fun a93 h93 => ?_; clear h92
 refine pk (v := wv) h93 rfl (rn_load1 rfl rfl Try.isAgg67 (hk40.cell rfl)) fun a94 h94 => ?_; clear h93
 refine pk (v := .int .i64 ((P.W.length : Nat) : Int)) h94 rfl (rn_lenOwn rfl rfl Try.underlying67 hr42) fun a95 h95 => ?_; clear h94
 refine pk0 (v := .bool (decide (((P.W.length : Nat) : Int) < 200))) h95 rfl fun a96 h96 => ?_; clear h95
 refine pl_nil ?_
 refine co_then ?_
 have hB98 := fbU_new hB0 hg4
 have hB99 := fbU_new hB98 hg31
 have hO100 := LkP.gr hQ.hA hg4 (fun k e => by cases e)
 have hO101 := LkP.gr hO100 hg31 (fun k e => by cases e)
 have hO102 := LkP.gr hQ.hB hg4 (fun k e => by cases e)
 have hO103 := LkP.gr hO102 hg31 (fun k e => by cases e)
 have hr104 := row_kept_new hT0 hg4
 have hr105 := row_kept_new hr104 hg31
 cases hc97 : (decide (((P.W.length : Nat) : Int) < 200))
 ·
  rw [hc97] at h96
  have hp106 : ¬ (((P.W.length : Nat) : Int) < 200) := of_decide_eq_false hc97
  clear hc97
  refine co_false h96 rfl ?_
  refine wp_skip ?_
  refine co_blockN ?_
  refine co_ret0n h96 rfl ?_
  obtain ⟨S9, h1, h2⟩ := PrO.fin (P := P) (NA := NA) (NB := NB) (wv := wv) (tv := tv) (w := w) hk40 hO101 hO103 hr42 hr105 hQ.ap hQ.nA hQ.nB hQ.wA hQ.wB hQ.tA hQ.tB hSb hinA hinB hinw hint hB99
  exact ⟨P, S9, rfl, StepR.none, h1, h2, hB99⟩
 ·
  rw [hc97] at h96
  have hp107 : ((P.W.length : Nat) : Int) < 200 := of_decide_eq_true hc97
  clear hc97
  refine co_true h96 rfl ?_
  refine co_cut (fun a x => ∃ (wk : Value) (y9 : SegT), Slots 192 [(0, pt b 0), (3, pt N3 0), (4, .int .i64 (n.tmod 2)), (5, .int .i64 ((i0 : Nat) : Int))] a ∧ (P.W[i0]? = some y9) ∧ (∀ i, Value.ownBlock wk = some i → ¬ SA i) ∧ (∀ i, Value.ownBlock wk = some i → ¬ SB i) ∧ (InS S w.heap.size wk) ∧ Blk x b 95 #[pt NA 0, pt NB 0, .int .i64 P.b0, .int .i64 P.b1, wk, tv, .int .i64 P.s0, .int .i64 P.s1, .int .i64 P.t0, .int .i64 P.t1, .bool true] ∧ LkP SA x NA P.A ∧ LkP SB x NB P.B ∧ x.ownsRow 0 61 8 wk (P.W ++ [y9]).length ((P.W ++ [y9]).flatMap segE) ∧ x.ownsRow 0 3 1 tv P.T.length (P.T.flatMap (intE .i64)) ∧ But (S) w x) ?_ ?_
  ·
   refine dr_gen (fun x => But (S) w x) (by kernel_rfl) (fun w108 hg109 => ?_) (fun w108 hg109 => ?_)
   ·
    have hz110 := hg109.size
    have hB111 := fbU_new hB99 hg109
    exact hB111
   have hz112 := hg109.size
   have hB113 := fbU_new hB99 hg109
   refine dk0 0 (v := pt b 0) h96 rfl rfl hB113 fun a114 h114 => ?_; clear h96
   refine dk0 1 (v := pt b 0) h114 rfl rfl hB113 fun a115 h115 => ?_; clear h114
   refine dk0 2 (v := pt b 0) h115 rfl rfl hB113 fun a116 h116 => ?_; clear h115
   refine dk0 3 (v := pt b 4) h116 rfl rfl hB113 fun a117 h117 => ?_; clear h116
   refine dk0 5 (v := pt b 0) h117 rfl rfl hB113 fun a118 h118 => ?_; clear h117
   refine dk0 6 (v := pt b 0) h118 rfl rfl hB113 fun a119 h119 => ?_; clear h118
   refine dk0 7 (v := pt b 4) h119 rfl rfl hB113 fun a120 h120 => ?_; clear h119
   refine dk0 9 (v := .int .i64 ((i0 : Nat) : Int)) h120 rfl rfl hB113 fun a121 h121 => ?_; clear h120
   refine dr_many [4, 8] (by kernel_rfl) (by simp) ⟨?_, ?_, trivial⟩
   ·
    have hk122 := hk40.kept hg109 (by simp)
    refine dr_opVal (i := 4) (v := wv) h121 rfl rfl rfl rfl (by kernel_rfl) rfl (rn_load1 rfl rfl Try.isAgg67 (hk122.cell rfl)) hB113 (fun a123 h123 => ?_); clear h121
    refine dr_many [8] (by kernel_rfl) (by simp) ⟨?_, trivial⟩
    ·
     refine dr_opVal (i := 8) (v := wv) h123 rfl rfl rfl rfl (by kernel_rfl) rfl (rn_load1 rfl rfl Try.isAgg67 (hk122.cell rfl)) hB113 (fun a124 h124 => ?_); clear h123
     refine dr_many [10] (by kernel_rfl) (by simp) ⟨?_, trivial⟩
     ·
      have hr126 := row_kept_new hr42 hg109
      obtain ⟨y125, hy125⟩ : ∃ z, P.W[i0]? = some z := ⟨_, List.getElem?_eq_getElem (by first | omega | (simp; done) | (simp; omega))⟩
      refine dr_opVal (i := 10) (v := pt (blkOf wv) (offOf wv + i0 * 8)) h124 rfl rfl rfl rfl (by kernel_rfl) rfl (rn_index rfl rfl rfl Try.underlying67 Try.sizeOf61 (row_sl hr126 segE_len) (by omega) (by first | omega | (simp; done) | (simp; omega))) hB113 (fun a127 h127 => ?_); clear h124
      refine dr_many [11] (by kernel_rfl) (by simp) ⟨?_, trivial⟩
      ·
       refine dr_opVal (i := 11) (v := .agg #[.int .i64 y125.boot, .int .i64 y125.stream, .int .i64 y125.seq, .int .i64 y125.ab, .int .i64 y125.ast, .int .i64 y125.asq, .bool y125.has, .string y125.body]) h127 rfl rfl rfl rfl (by kernel_rfl) rfl (rn_loadN rfl rfl Try.underlying61 rfl (by kernel_rfl) (sl_at (row_sl hr126 segE_len) hy125)) hB113 (fun a128 h128 => ?_); clear h127
       refine d1 12 h128 rfl rfl (op_new (v := fun N => .slice (some ⟨N, 0, none⟩) 1 1) (T := 61) (cs := #[.int .i64 y125.boot, .int .i64 y125.stream, .int .i64 y125.seq, .int .i64 y125.ab, .int .i64 y125.ast, .int .i64 y125.asq, .bool y125.has, .string y125.body]) (by kernel_rfl) (by kernel_rfl) (by kernel_rfl)) ?_ ?_; clear h128
       ·
        rintro _ w130 ⟨N131, rfl, hN134, hz135, hk133, hg132⟩
        have ha136 := row_fresh hr126 hN134
        have hu137 := row_under hr126 hN134
        have hr139 := row_kept_new hr105 hg109
        have ha138 := row_fresh hr139 hN134
        have hu140 := row_under hr139 hN134
        have hz141 := hg132.size
        have hO143 := LkP.gr hO101 hg109 (fun k e => by cases e)
        have ho142 := off_new (LkP.ofS hO143) hN134
        have hO145 := LkP.gr hO103 hg109 (fun k e => by cases e)
        have ho144 := off_new (LkP.ofS hO145) hN134
        have hB146 := fbU_new hB113 hg132
        exact hB146
       rintro _ w130 a129 ⟨N131, rfl, hN134, hz135, hk133, hg132⟩ h129
       have ha136 := row_fresh hr126 hN134
       have hu137 := row_under hr126 hN134
       have hr139 := row_kept_new hr105 hg109
       have ha138 := row_fresh hr139 hN134
       have hu140 := row_under hr139 hN134
       have hz141 := hg132.size
       have hO143 := LkP.gr hO101 hg109 (fun k e => by cases e)
       have ho142 := off_new (LkP.ofS hO143) hN134
       have hO145 := LkP.gr hO103 hg109 (fun k e => by cases e)
       have ho144 := off_new (LkP.ofS hO145) hN134
       try dsimp only at h129
       have hB146 := fbU_new hB113 hg132
       have hr153 := row_kept_new hr126 hg132
       refine d1 13 h129 rfl rfl (op_appendF rfl 0 61 (z := .agg #[.int .i64 0, .int .i64 0, .int .i64 0, .int .i64 0, .int .i64 0, .int .i64 0, .bool false, .string (⟨#[]⟩)]) (size := 8) (bytes := 72) Try.underlying67 (by kernel_rfl) rfl rfl rfl hr153 rfl hk133 rfl (by kernel_rfl) (by first | omega | (simp only [List.length_nil, List.length_append, List.length_cons, List.length_take, List.length_drop]; omega)) (by first | omega | (simp only [List.length_nil, List.length_append, List.length_cons, List.length_take, List.length_drop]; omega)) (by omega)) ?_ ?_; clear h129
       ·
        rintro v149 w148 ⟨hr150, hwt152, hg151⟩
        have hr150' : w148.ownsRow 0 61 8 v149 ((P.W ++ [(SegT.mk y125.boot y125.stream y125.seq y125.ab y125.ast y125.asq y125.has y125.body)]).length) ((P.W ++ [(SegT.mk y125.boot y125.stream y125.seq y125.ab y125.ast y125.asq y125.has y125.body)]).flatMap segE) := row_push (y := (SegT.mk y125.boot y125.stream y125.seq y125.ab y125.ast y125.asq y125.has y125.body)) hr150 rfl rfl; clear hr150
        have hk156 := hk34.kept hg109 (by simp)
        have hk157 := hk156.kept hg132 (by simp)
        have hO158 := LkP.gr hO143 hg132 (fun k e => by cases e)
        have ho155 := LkP.ofS hO158
        have ho154 := offR_went hQ.wA ho155 hwt152
        have hO161 := LkP.gr hO145 hg132 (fun k e => by cases e)
        have ho160 := LkP.ofS hO161
        have ho159 := offR_went hQ.wB ho160 hwt152
        have hz162 := hg151.size
        have hB163 := fbU_row hB146 hinw hg151
        exact hB163
       rintro v149 w148 a147 ⟨hr150, hwt152, hg151⟩ h147
       have hr150' : w148.ownsRow 0 61 8 v149 ((P.W ++ [(SegT.mk y125.boot y125.stream y125.seq y125.ab y125.ast y125.asq y125.has y125.body)]).length) ((P.W ++ [(SegT.mk y125.boot y125.stream y125.seq y125.ab y125.ast y125.asq y125.has y125.body)]).flatMap segE) := row_push (y := (SegT.mk y125.boot y125.stream y125.seq y125.ab y125.ast y125.asq y125.has y125.body)) hr150 rfl rfl; clear hr150
       have hk156 := hk34.kept hg109 (by simp)
       have hk157 := hk156.kept hg132 (by simp)
       have hO158 := LkP.gr hO143 hg132 (fun k e => by cases e)
       have ho155 := LkP.ofS hO158
       have ho154 := offR_went hQ.wA ho155 hwt152
       have hO161 := LkP.gr hO145 hg132 (fun k e => by cases e)
       have ho160 := LkP.ofS hO161
       have ho159 := offR_went hQ.wB ho160 hwt152
       have hz162 := hg151.size
       have hB163 := fbU_row hB146 hinw hg151
       refine dk0 14 (v := pt b 0) h147 rfl rfl hB163 fun a164 h164 => ?_; clear h147
       refine dk0 15 (v := pt b 4) h164 rfl rfl hB163 fun a165 h165 => ?_; clear h164
       have hk171 := hk122.kept hg132 (by simp)
       have hk172 := hk171.kept hg151 (own_neT hr153 hk171 (by decide))
       refine d1D 16 h165 rfl rfl (op_store1 rfl rfl rfl (row_one hr150') Try.sizeOf67 hk172 rfl) ?_ ?_; clear h165
       ·
        rintro _ w167 ⟨hk168, hz169, hg170⟩
        have hk168' : Blk w167 b 95 #[pt NA 0, pt NB 0, .int .i64 P.b0, .int .i64 P.b1, v149, tv, .int .i64 P.s0, .int .i64 P.s1, .int .i64 P.t0, .int .i64 P.t1, .bool true] := hk168; clear hk168
        have hz173 := hg170.size
        have hB174 := fbU_at hB163 hg170 (fun hlt => by rcases hSb with hq | hq; exact hq; omega)
        exact hB174
       rintro _ w167 a166 ⟨hk168, hz169, hg170⟩ h166
       have hk168' : Blk w167 b 95 #[pt NA 0, pt NB 0, .int .i64 P.b0, .int .i64 P.b1, v149, tv, .int .i64 P.s0, .int .i64 P.s1, .int .i64 P.t0, .int .i64 P.t1, .bool true] := hk168; clear hk168
       have hz173 := hg170.size
       refine dr_done (by kernel_rfl) ?_
       refine co_then ?_
       have hO174 := LkP.gr hO158 hg151 (fun k e => hQ.wA k e)
       have hO175 := LkP.gr hO174 hg170 (fun k e => by cases e; exact hQ.nA)
       have hO176 := LkP.gr hO161 hg151 (fun k e => hQ.wB k e)
       have hO177 := LkP.gr hO176 hg170 (fun k e => by cases e; exact hQ.nB)
       have hr178 := row_kept_at hr150' hg170 (own_neT hr150' hk172 (by decide))
       have hr179 := row_kept_new hr139 hg132
       have hr180 := row_kept_row hr179 hr153 hg151 (by decide)
       have hr181 := row_kept_at hr180 hg170 (own_neT hr180 hk172 (by decide))
       have hB182 := fbU_at hB163 hg170 (fun hlt => by rcases hSb with hq | hq; exact hq; omega)
       exact ⟨v149, y125, h166.sub ⟨rfl, rfl, rfl, rfl, trivial⟩, by exact hy125, by exact ho154, by exact ho159, by exact (hinw.went hwt152 (by omega)), hk168', hO175, hO177, (row_eq hr178 (rfl)), hr181, hB182⟩
   ·
    have hk183 := hk40.kept hg109 (by simp)
    refine dr_opVal (i := 8) (v := wv) h121 rfl rfl rfl rfl (by kernel_rfl) rfl (rn_load1 rfl rfl Try.isAgg67 (hk183.cell rfl)) hB113 (fun a184 h184 => ?_); clear h121
    refine dr_many [4, 10] (by kernel_rfl) (by simp) ⟨?_, ?_, trivial⟩
    ·
     refine dr_opVal (i := 4) (v := wv) h184 rfl rfl rfl rfl (by kernel_rfl) rfl (rn_load1 rfl rfl Try.isAgg67 (hk183.cell rfl)) hB113 (fun a185 h185 => ?_); clear h184
     refine dr_many [10] (by kernel_rfl) (by simp) ⟨?_, trivial⟩
     ·
      have hr187 := row_kept_new hr42 hg109
      obtain ⟨y186, hy186⟩ : ∃ z, P.W[i0]? = some z := ⟨_, List.getElem?_eq_getElem (by first | omega | (simp; done) | (simp; omega))⟩
      refine dr_opVal (i := 10) (v := pt (blkOf wv) (offOf wv + i0 * 8)) h185 rfl rfl rfl rfl (by kernel_rfl) rfl (rn_index rfl rfl rfl Try.underlying67 Try.sizeOf61 (row_sl hr187 segE_len) (by omega) (by first | omega | (simp; done) | (simp; omega))) hB113 (fun a188 h188 => ?_); clear h185
      refine dr_many [11] (by kernel_rfl) (by simp) ⟨?_, trivial⟩
      ·
       refine dr_opVal (i := 11) (v := .agg #[.int .i64 y186.boot, .int .i64 y186.stream, .int .i64 y186.seq, .int .i64 y186.ab, .int .i64 y186.ast, .int .i64 y186.asq, .bool y186.has, .string y186.body]) h188 rfl rfl rfl rfl (by kernel_rfl) rfl (rn_loadN rfl rfl Try.underlying61 rfl (by kernel_rfl) (sl_at (row_sl hr187 segE_len) hy186)) hB113 (fun a189 h189 => ?_); clear h188
       refine d1 12 h189 rfl rfl (op_new (v := fun N => .slice (some ⟨N, 0, none⟩) 1 1) (T := 61) (cs := #[.int .i64 y186.boot, .int .i64 y186.stream, .int .i64 y186.seq, .int .i64 y186.ab, .int .i64 y186.ast, .int .i64 y186.asq, .bool y186.has, .string y186.body]) (by kernel_rfl) (by kernel_rfl) (by kernel_rfl)) ?_ ?_; clear h189
       ·
        rintro _ w191 ⟨N192, rfl, hN195, hz196, hk194, hg193⟩
        have ha197 := row_fresh hr187 hN195
        have hu198 := row_under hr187 hN195
        have hr200 := row_kept_new hr105 hg109
        have ha199 := row_fresh hr200 hN195
        have hu201 := row_under hr200 hN195
        have hz202 := hg193.size
        have hO204 := LkP.gr hO101 hg109 (fun k e => by cases e)
        have ho203 := off_new (LkP.ofS hO204) hN195
        have hO206 := LkP.gr hO103 hg109 (fun k e => by cases e)
        have ho205 := off_new (LkP.ofS hO206) hN195
        have hB207 := fbU_new hB113 hg193
        exact hB207
       rintro _ w191 a190 ⟨N192, rfl, hN195, hz196, hk194, hg193⟩ h190
       have ha197 := row_fresh hr187 hN195
       have hu198 := row_under hr187 hN195
       have hr200 := row_kept_new hr105 hg109
       have ha199 := row_fresh hr200 hN195
       have hu201 := row_under hr200 hN195
       have hz202 := hg193.size
       have hO204 := LkP.gr hO101 hg109 (fun k e => by cases e)
       have ho203 := off_new (LkP.ofS hO204) hN195
       have hO206 := LkP.gr hO103 hg109 (fun k e => by cases e)
       have ho205 := off_new (LkP.ofS hO206) hN195
       try dsimp only at h190
       have hB207 := fbU_new hB113 hg193
       have hr214 := row_kept_new hr187 hg193
       refine d1 13 h190 rfl rfl (op_appendF rfl 0 61 (z := .agg #[.int .i64 0, .int .i64 0, .int .i64 0, .int .i64 0, .int .i64 0, .int .i64 0, .bool false, .string (⟨#[]⟩)]) (size := 8) (bytes := 72) Try.underlying67 (by kernel_rfl) rfl rfl rfl hr214 rfl hk194 rfl (by kernel_rfl) (by first | omega | (simp only [List.length_nil, List.length_append, List.length_cons, List.length_take, List.length_drop]; omega)) (by first | omega | (simp only [List.length_nil, List.length_append, List.length_cons, List.length_take, List.length_drop]; omega)) (by omega)) ?_ ?_; clear h190
       ·
        rintro v210 w209 ⟨hr211, hwt213, hg212⟩
        have hr211' : w209.ownsRow 0 61 8 v210 ((P.W ++ [(SegT.mk y186.boot y186.stream y186.seq y186.ab y186.ast y186.asq y186.has y186.body)]).length) ((P.W ++ [(SegT.mk y186.boot y186.stream y186.seq y186.ab y186.ast y186.asq y186.has y186.body)]).flatMap segE) := row_push (y := (SegT.mk y186.boot y186.stream y186.seq y186.ab y186.ast y186.asq y186.has y186.body)) hr211 rfl rfl; clear hr211
        have hk217 := hk34.kept hg109 (by simp)
        have hk218 := hk217.kept hg193 (by simp)
        have hO219 := LkP.gr hO204 hg193 (fun k e => by cases e)
        have ho216 := LkP.ofS hO219
        have ho215 := offR_went hQ.wA ho216 hwt213
        have hO222 := LkP.gr hO206 hg193 (fun k e => by cases e)
        have ho221 := LkP.ofS hO222
        have ho220 := offR_went hQ.wB ho221 hwt213
        have hz223 := hg212.size
        have hB224 := fbU_row hB207 hinw hg212
        exact hB224
       rintro v210 w209 a208 ⟨hr211, hwt213, hg212⟩ h208
       have hr211' : w209.ownsRow 0 61 8 v210 ((P.W ++ [(SegT.mk y186.boot y186.stream y186.seq y186.ab y186.ast y186.asq y186.has y186.body)]).length) ((P.W ++ [(SegT.mk y186.boot y186.stream y186.seq y186.ab y186.ast y186.asq y186.has y186.body)]).flatMap segE) := row_push (y := (SegT.mk y186.boot y186.stream y186.seq y186.ab y186.ast y186.asq y186.has y186.body)) hr211 rfl rfl; clear hr211
       have hk217 := hk34.kept hg109 (by simp)
       have hk218 := hk217.kept hg193 (by simp)
       have hO219 := LkP.gr hO204 hg193 (fun k e => by cases e)
       have ho216 := LkP.ofS hO219
       have ho215 := offR_went hQ.wA ho216 hwt213
       have hO222 := LkP.gr hO206 hg193 (fun k e => by cases e)
       have ho221 := LkP.ofS hO222
       have ho220 := offR_went hQ.wB ho221 hwt213
       have hz223 := hg212.size
       have hB224 := fbU_row hB207 hinw hg212
       refine dk0 14 (v := pt b 0) h208 rfl rfl hB224 fun a225 h225 => ?_; clear h208
       refine dk0 15 (v := pt b 4) h225 rfl rfl hB224 fun a226 h226 => ?_; clear h225
       have hk232 := hk183.kept hg193 (by simp)
       have hk233 := hk232.kept hg212 (own_neT hr214 hk232 (by decide))
       refine d1D 16 h226 rfl rfl (op_store1 rfl rfl rfl (row_one hr211') Try.sizeOf67 hk233 rfl) ?_ ?_; clear h226
       ·
        rintro _ w228 ⟨hk229, hz230, hg231⟩
        have hk229' : Blk w228 b 95 #[pt NA 0, pt NB 0, .int .i64 P.b0, .int .i64 P.b1, v210, tv, .int .i64 P.s0, .int .i64 P.s1, .int .i64 P.t0, .int .i64 P.t1, .bool true] := hk229; clear hk229
        have hz234 := hg231.size
        have hB235 := fbU_at hB224 hg231 (fun hlt => by rcases hSb with hq | hq; exact hq; omega)
        exact hB235
       rintro _ w228 a227 ⟨hk229, hz230, hg231⟩ h227
       have hk229' : Blk w228 b 95 #[pt NA 0, pt NB 0, .int .i64 P.b0, .int .i64 P.b1, v210, tv, .int .i64 P.s0, .int .i64 P.s1, .int .i64 P.t0, .int .i64 P.t1, .bool true] := hk229; clear hk229
       have hz234 := hg231.size
       refine dr_done (by kernel_rfl) ?_
       refine co_then ?_
       have hO235 := LkP.gr hO219 hg212 (fun k e => hQ.wA k e)
       have hO236 := LkP.gr hO235 hg231 (fun k e => by cases e; exact hQ.nA)
       have hO237 := LkP.gr hO222 hg212 (fun k e => hQ.wB k e)
       have hO238 := LkP.gr hO237 hg231 (fun k e => by cases e; exact hQ.nB)
       have hr239 := row_kept_at hr211' hg231 (own_neT hr211' hk233 (by decide))
       have hr240 := row_kept_new hr200 hg193
       have hr241 := row_kept_row hr240 hr214 hg212 (by decide)
       have hr242 := row_kept_at hr241 hg231 (own_neT hr241 hk233 (by decide))
       have hB243 := fbU_at hB224 hg231 (fun hlt => by rcases hSb with hq | hq; exact hq; omega)
       exact ⟨v210, y186, h227.sub ⟨rfl, rfl, rfl, rfl, trivial⟩, by exact hy186, by exact ho215, by exact ho220, by exact (hinw.went hwt213 (by omega)), hk229', hO236, hO238, (row_eq hr239 (rfl)), hr242, hB243⟩
    ·
     have hr245 := row_kept_new hr42 hg109
     obtain ⟨y244, hy244⟩ : ∃ z, P.W[i0]? = some z := ⟨_, List.getElem?_eq_getElem (by first | omega | (simp; done) | (simp; omega))⟩
     refine dr_opVal (i := 10) (v := pt (blkOf wv) (offOf wv + i0 * 8)) h184 rfl rfl rfl rfl (by kernel_rfl) rfl (rn_index rfl rfl rfl Try.underlying67 Try.sizeOf61 (row_sl hr245 segE_len) (by omega) (by first | omega | (simp; done) | (simp; omega))) hB113 (fun a246 h246 => ?_); clear h184
     refine dr_many [4, 11] (by kernel_rfl) (by simp) ⟨?_, ?_, trivial⟩
     ·
      refine dr_opVal (i := 4) (v := wv) h246 rfl rfl rfl rfl (by kernel_rfl) rfl (rn_load1 rfl rfl Try.isAgg67 (hk183.cell rfl)) hB113 (fun a247 h247 => ?_); clear h246
      refine dr_many [11] (by kernel_rfl) (by simp) ⟨?_, trivial⟩
      ·
       refine dr_opVal (i := 11) (v := .agg #[.int .i64 y244.boot, .int .i64 y244.stream, .int .i64 y244.seq, .int .i64 y244.ab, .int .i64 y244.ast, .int .i64 y244.asq, .bool y244.has, .string y244.body]) h247 rfl rfl rfl rfl (by kernel_rfl) rfl (rn_loadN rfl rfl Try.underlying61 rfl (by kernel_rfl) (sl_at (row_sl hr245 segE_len) hy244)) hB113 (fun a248 h248 => ?_); clear h247
       refine d1 12 h248 rfl rfl (op_new (v := fun N => .slice (some ⟨N, 0, none⟩) 1 1) (T := 61) (cs := #[.int .i64 y244.boot, .int .i64 y244.stream, .int .i64 y244.seq, .int .i64 y244.ab, .int .i64 y244.ast, .int .i64 y244.asq, .bool y244.has, .string y244.body]) (by kernel_rfl) (by kernel_rfl) (by kernel_rfl)) ?_ ?_; clear h248
       ·
        rintro _ w250 ⟨N251, rfl, hN254, hz255, hk253, hg252⟩
        have ha256 := row_fresh hr245 hN254
        have hu257 := row_under hr245 hN254
        have hr259 := row_kept_new hr105 hg109
        have ha258 := row_fresh hr259 hN254
        have hu260 := row_under hr259 hN254
        have hz261 := hg252.size
        have hO263 := LkP.gr hO101 hg109 (fun k e => by cases e)
        have ho262 := off_new (LkP.ofS hO263) hN254
        have hO265 := LkP.gr hO103 hg109 (fun k e => by cases e)
        have ho264 := off_new (LkP.ofS hO265) hN254
        have hB266 := fbU_new hB113 hg252
        exact hB266
       rintro _ w250 a249 ⟨N251, rfl, hN254, hz255, hk253, hg252⟩ h249
       have ha256 := row_fresh hr245 hN254
       have hu257 := row_under hr245 hN254
       have hr259 := row_kept_new hr105 hg109
       have ha258 := row_fresh hr259 hN254
       have hu260 := row_under hr259 hN254
       have hz261 := hg252.size
       have hO263 := LkP.gr hO101 hg109 (fun k e => by cases e)
       have ho262 := off_new (LkP.ofS hO263) hN254
       have hO265 := LkP.gr hO103 hg109 (fun k e => by cases e)
       have ho264 := off_new (LkP.ofS hO265) hN254
       try dsimp only at h249
       have hB266 := fbU_new hB113 hg252
       have hr273 := row_kept_new hr245 hg252
       refine d1 13 h249 rfl rfl (op_appendF rfl 0 61 (z := .agg #[.int .i64 0, .int .i64 0, .int .i64 0, .int .i64 0, .int .i64 0, .int .i64 0, .bool false, .string (⟨#[]⟩)]) (size := 8) (bytes := 72) Try.underlying67 (by kernel_rfl) rfl rfl rfl hr273 rfl hk253 rfl (by kernel_rfl) (by first | omega | (simp only [List.length_nil, List.length_append, List.length_cons, List.length_take, List.length_drop]; omega)) (by first | omega | (simp only [List.length_nil, List.length_append, List.length_cons, List.length_take, List.length_drop]; omega)) (by omega)) ?_ ?_; clear h249
       ·
        rintro v269 w268 ⟨hr270, hwt272, hg271⟩
        have hr270' : w268.ownsRow 0 61 8 v269 ((P.W ++ [(SegT.mk y244.boot y244.stream y244.seq y244.ab y244.ast y244.asq y244.has y244.body)]).length) ((P.W ++ [(SegT.mk y244.boot y244.stream y244.seq y244.ab y244.ast y244.asq y244.has y244.body)]).flatMap segE) := row_push (y := (SegT.mk y244.boot y244.stream y244.seq y244.ab y244.ast y244.asq y244.has y244.body)) hr270 rfl rfl; clear hr270
        have hk276 := hk34.kept hg109 (by simp)
        have hk277 := hk276.kept hg252 (by simp)
        have hO278 := LkP.gr hO263 hg252 (fun k e => by cases e)
        have ho275 := LkP.ofS hO278
        have ho274 := offR_went hQ.wA ho275 hwt272
        have hO281 := LkP.gr hO265 hg252 (fun k e => by cases e)
        have ho280 := LkP.ofS hO281
        have ho279 := offR_went hQ.wB ho280 hwt272
        have hz282 := hg271.size
        have hB283 := fbU_row hB266 hinw hg271
        exact hB283
       rintro v269 w268 a267 ⟨hr270, hwt272, hg271⟩ h267
       have hr270' : w268.ownsRow 0 61 8 v269 ((P.W ++ [(SegT.mk y244.boot y244.stream y244.seq y244.ab y244.ast y244.asq y244.has y244.body)]).length) ((P.W ++ [(SegT.mk y244.boot y244.stream y244.seq y244.ab y244.ast y244.asq y244.has y244.body)]).flatMap segE) := row_push (y := (SegT.mk y244.boot y244.stream y244.seq y244.ab y244.ast y244.asq y244.has y244.body)) hr270 rfl rfl; clear hr270
       have hk276 := hk34.kept hg109 (by simp)
       have hk277 := hk276.kept hg252 (by simp)
       have hO278 := LkP.gr hO263 hg252 (fun k e => by cases e)
       have ho275 := LkP.ofS hO278
       have ho274 := offR_went hQ.wA ho275 hwt272
       have hO281 := LkP.gr hO265 hg252 (fun k e => by cases e)
       have ho280 := LkP.ofS hO281
       have ho279 := offR_went hQ.wB ho280 hwt272
       have hz282 := hg271.size
       have hB283 := fbU_row hB266 hinw hg271
       refine dk0 14 (v := pt b 0) h267 rfl rfl hB283 fun a284 h284 => ?_; clear h267
       refine dk0 15 (v := pt b 4) h284 rfl rfl hB283 fun a285 h285 => ?_; clear h284
       have hk291 := hk183.kept hg252 (by simp)
       have hk292 := hk291.kept hg271 (own_neT hr273 hk291 (by decide))
       refine d1D 16 h285 rfl rfl (op_store1 rfl rfl rfl (row_one hr270') Try.sizeOf67 hk292 rfl) ?_ ?_; clear h285
       ·
        rintro _ w287 ⟨hk288, hz289, hg290⟩
        have hk288' : Blk w287 b 95 #[pt NA 0, pt NB 0, .int .i64 P.b0, .int .i64 P.b1, v269, tv, .int .i64 P.s0, .int .i64 P.s1, .int .i64 P.t0, .int .i64 P.t1, .bool true] := hk288; clear hk288
        have hz293 := hg290.size
        have hB294 := fbU_at hB283 hg290 (fun hlt => by rcases hSb with hq | hq; exact hq; omega)
        exact hB294
       rintro _ w287 a286 ⟨hk288, hz289, hg290⟩ h286
       have hk288' : Blk w287 b 95 #[pt NA 0, pt NB 0, .int .i64 P.b0, .int .i64 P.b1, v269, tv, .int .i64 P.s0, .int .i64 P.s1, .int .i64 P.t0, .int .i64 P.t1, .bool true] := hk288; clear hk288
       have hz293 := hg290.size
       refine dr_done (by kernel_rfl) ?_
       refine co_then ?_
       have hO294 := LkP.gr hO278 hg271 (fun k e => hQ.wA k e)
       have hO295 := LkP.gr hO294 hg290 (fun k e => by cases e; exact hQ.nA)
       have hO296 := LkP.gr hO281 hg271 (fun k e => hQ.wB k e)
       have hO297 := LkP.gr hO296 hg290 (fun k e => by cases e; exact hQ.nB)
       have hr298 := row_kept_at hr270' hg290 (own_neT hr270' hk292 (by decide))
       have hr299 := row_kept_new hr259 hg252
       have hr300 := row_kept_row hr299 hr273 hg271 (by decide)
       have hr301 := row_kept_at hr300 hg290 (own_neT hr300 hk292 (by decide))
       have hB302 := fbU_at hB283 hg290 (fun hlt => by rcases hSb with hq | hq; exact hq; omega)
       exact ⟨v269, y244, h286.sub ⟨rfl, rfl, rfl, rfl, trivial⟩, by exact hy244, by exact ho274, by exact ho279, by exact (hinw.went hwt272 (by omega)), hk288', hO295, hO297, (row_eq hr298 (rfl)), hr301, hB302⟩
     ·
      refine dr_opVal (i := 11) (v := .agg #[.int .i64 y244.boot, .int .i64 y244.stream, .int .i64 y244.seq, .int .i64 y244.ab, .int .i64 y244.ast, .int .i64 y244.asq, .bool y244.has, .string y244.body]) h246 rfl rfl rfl rfl (by kernel_rfl) rfl (rn_loadN rfl rfl Try.underlying61 rfl (by kernel_rfl) (sl_at (row_sl hr245 segE_len) hy244)) hB113 (fun a303 h303 => ?_); clear h246
      refine dr_many [4, 12] (by kernel_rfl) (by simp) ⟨?_, ?_, trivial⟩
      ·
       refine dr_opVal (i := 4) (v := wv) h303 rfl rfl rfl rfl (by kernel_rfl) rfl (rn_load1 rfl rfl Try.isAgg67 (hk183.cell rfl)) hB113 (fun a304 h304 => ?_); clear h303
       refine d1 12 h304 rfl rfl (op_new (v := fun N => .slice (some ⟨N, 0, none⟩) 1 1) (T := 61) (cs := #[.int .i64 y244.boot, .int .i64 y244.stream, .int .i64 y244.seq, .int .i64 y244.ab, .int .i64 y244.ast, .int .i64 y244.asq, .bool y244.has, .string y244.body]) (by kernel_rfl) (by kernel_rfl) (by kernel_rfl)) ?_ ?_; clear h304
       ·
        rintro _ w306 ⟨N307, rfl, hN310, hz311, hk309, hg308⟩
        have ha312 := row_fresh hr245 hN310
        have hu313 := row_under hr245 hN310
        have hr315 := row_kept_new hr105 hg109
        have ha314 := row_fresh hr315 hN310
        have hu316 := row_under hr315 hN310
        have hz317 := hg308.size
        have hO319 := LkP.gr hO101 hg109 (fun k e => by cases e)
        have ho318 := off_new (LkP.ofS hO319) hN310
        have hO321 := LkP.gr hO103 hg109 (fun k e => by cases e)
        have ho320 := off_new (LkP.ofS hO321) hN310
        have hB322 := fbU_new hB113 hg308
        exact hB322
       rintro _ w306 a305 ⟨N307, rfl, hN310, hz311, hk309, hg308⟩ h305
       have ha312 := row_fresh hr245 hN310
       have hu313 := row_under hr245 hN310
       have hr315 := row_kept_new hr105 hg109
       have ha314 := row_fresh hr315 hN310
       have hu316 := row_under hr315 hN310
       have hz317 := hg308.size
       have hO319 := LkP.gr hO101 hg109 (fun k e => by cases e)
       have ho318 := off_new (LkP.ofS hO319) hN310
       have hO321 := LkP.gr hO103 hg109 (fun k e => by cases e)
       have ho320 := off_new (LkP.ofS hO321) hN310
       try dsimp only at h305
       have hB322 := fbU_new hB113 hg308
       have hr329 := row_kept_new hr245 hg308
       refine d1 13 h305 rfl rfl (op_appendF rfl 0 61 (z := .agg #[.int .i64 0, .int .i64 0, .int .i64 0, .int .i64 0, .int .i64 0, .int .i64 0, .bool false, .string (⟨#[]⟩)]) (size := 8) (bytes := 72) Try.underlying67 (by kernel_rfl) rfl rfl rfl hr329 rfl hk309 rfl (by kernel_rfl) (by first | omega | (simp only [List.length_nil, List.length_append, List.length_cons, List.length_take, List.length_drop]; omega)) (by first | omega | (simp only [List.length_nil, List.length_append, List.length_cons, List.length_take, List.length_drop]; omega)) (by omega)) ?_ ?_; clear h305
       ·
        rintro v325 w324 ⟨hr326, hwt328, hg327⟩
        have hr326' : w324.ownsRow 0 61 8 v325 ((P.W ++ [(SegT.mk y244.boot y244.stream y244.seq y244.ab y244.ast y244.asq y244.has y244.body)]).length) ((P.W ++ [(SegT.mk y244.boot y244.stream y244.seq y244.ab y244.ast y244.asq y244.has y244.body)]).flatMap segE) := row_push (y := (SegT.mk y244.boot y244.stream y244.seq y244.ab y244.ast y244.asq y244.has y244.body)) hr326 rfl rfl; clear hr326
        have hk332 := hk34.kept hg109 (by simp)
        have hk333 := hk332.kept hg308 (by simp)
        have hO334 := LkP.gr hO319 hg308 (fun k e => by cases e)
        have ho331 := LkP.ofS hO334
        have ho330 := offR_went hQ.wA ho331 hwt328
        have hO337 := LkP.gr hO321 hg308 (fun k e => by cases e)
        have ho336 := LkP.ofS hO337
        have ho335 := offR_went hQ.wB ho336 hwt328
        have hz338 := hg327.size
        have hB339 := fbU_row hB322 hinw hg327
        exact hB339
       rintro v325 w324 a323 ⟨hr326, hwt328, hg327⟩ h323
       have hr326' : w324.ownsRow 0 61 8 v325 ((P.W ++ [(SegT.mk y244.boot y244.stream y244.seq y244.ab y244.ast y244.asq y244.has y244.body)]).length) ((P.W ++ [(SegT.mk y244.boot y244.stream y244.seq y244.ab y244.ast y244.asq y244.has y244.body)]).flatMap segE) := row_push (y := (SegT.mk y244.boot y244.stream y244.seq y244.ab y244.ast y244.asq y244.has y244.body)) hr326 rfl rfl; clear hr326
       have hk332 := hk34.kept hg109 (by simp)
       have hk333 := hk332.kept hg308 (by simp)
       have hO334 := LkP.gr hO319 hg308 (fun k e => by cases e)
       have ho331 := LkP.ofS hO334
       have ho330 := offR_went hQ.wA ho331 hwt328
       have hO337 := LkP.gr hO321 hg308 (fun k e => by cases e)
       have ho336 := LkP.ofS hO337
       have ho335 := offR_went hQ.wB ho336 hwt328
       have hz338 := hg327.size
       have hB339 := fbU_row hB322 hinw hg327
       refine dk0 14 (v := pt b 0) h323 rfl rfl hB339 fun a340 h340 => ?_; clear h323
       refine dk0 15 (v := pt b 4) h340 rfl rfl hB339 fun a341 h341 => ?_; clear h340
       have hk347 := hk183.kept hg308 (by simp)
       have hk348 := hk347.kept hg327 (own_neT hr329 hk347 (by decide))
       refine d1D 16 h341 rfl rfl (op_store1 rfl rfl rfl (row_one hr326') Try.sizeOf67 hk348 rfl) ?_ ?_; clear h341
       ·
        rintro _ w343 ⟨hk344, hz345, hg346⟩
        have hk344' : Blk w343 b 95 #[pt NA 0, pt NB 0, .int .i64 P.b0, .int .i64 P.b1, v325, tv, .int .i64 P.s0, .int .i64 P.s1, .int .i64 P.t0, .int .i64 P.t1, .bool true] := hk344; clear hk344
        have hz349 := hg346.size
        have hB350 := fbU_at hB339 hg346 (fun hlt => by rcases hSb with hq | hq; exact hq; omega)
        exact hB350
       rintro _ w343 a342 ⟨hk344, hz345, hg346⟩ h342
       have hk344' : Blk w343 b 95 #[pt NA 0, pt NB 0, .int .i64 P.b0, .int .i64 P.b1, v325, tv, .int .i64 P.s0, .int .i64 P.s1, .int .i64 P.t0, .int .i64 P.t1, .bool true] := hk344; clear hk344
       have hz349 := hg346.size
       refine dr_done (by kernel_rfl) ?_
       refine co_then ?_
       have hO350 := LkP.gr hO334 hg327 (fun k e => hQ.wA k e)
       have hO351 := LkP.gr hO350 hg346 (fun k e => by cases e; exact hQ.nA)
       have hO352 := LkP.gr hO337 hg327 (fun k e => hQ.wB k e)
       have hO353 := LkP.gr hO352 hg346 (fun k e => by cases e; exact hQ.nB)
       have hr354 := row_kept_at hr326' hg346 (own_neT hr326' hk348 (by decide))
       have hr355 := row_kept_new hr315 hg308
       have hr356 := row_kept_row hr355 hr329 hg327 (by decide)
       have hr357 := row_kept_at hr356 hg346 (own_neT hr356 hk348 (by decide))
       have hB358 := fbU_at hB339 hg346 (fun hlt => by rcases hSb with hq | hq; exact hq; omega)
       exact ⟨v325, y244, h342.sub ⟨rfl, rfl, rfl, rfl, trivial⟩, by exact hy244, by exact ho330, by exact ho335, by exact (hinw.went hwt328 (by omega)), hk344', hO351, hO353, (row_eq hr354 (rfl)), hr357, hB358⟩
      ·
       refine dr_op (i := 12) h303 rfl rfl rfl rfl (op_new (v := fun N => .slice (some ⟨N, 0, none⟩) 1 1) (T := 61) (cs := #[.int .i64 y244.boot, .int .i64 y244.stream, .int .i64 y244.seq, .int .i64 y244.ab, .int .i64 y244.ast, .int .i64 y244.asq, .bool y244.has, .string y244.body]) (by kernel_rfl) (by kernel_rfl) (by kernel_rfl)) ?_ ?_; clear h303
       ·
        rintro _ w360 ⟨N361, rfl, hN364, hz365, hk363, hg362⟩
        have ha366 := row_fresh hr245 hN364
        have hu367 := row_under hr245 hN364
        have hr369 := row_kept_new hr105 hg109
        have ha368 := row_fresh hr369 hN364
        have hu370 := row_under hr369 hN364
        have hz371 := hg362.size
        have hO373 := LkP.gr hO101 hg109 (fun k e => by cases e)
        have ho372 := off_new (LkP.ofS hO373) hN364
        have hO375 := LkP.gr hO103 hg109 (fun k e => by cases e)
        have ho374 := off_new (LkP.ofS hO375) hN364
        have hB376 := fbU_new hB113 hg362
        exact hB376
       rintro _ w360 a359 ⟨N361, rfl, hN364, hz365, hk363, hg362⟩ h359
       have ha366 := row_fresh hr245 hN364
       have hu367 := row_under hr245 hN364
       have hr369 := row_kept_new hr105 hg109
       have ha368 := row_fresh hr369 hN364
       have hu370 := row_under hr369 hN364
       have hz371 := hg362.size
       have hO373 := LkP.gr hO101 hg109 (fun k e => by cases e)
       have ho372 := off_new (LkP.ofS hO373) hN364
       have hO375 := LkP.gr hO103 hg109 (fun k e => by cases e)
       have ho374 := off_new (LkP.ofS hO375) hN364
       try dsimp only at h359
       have hB376 := fbU_new hB113 hg362
       refine dr_many [4] (by kernel_rfl) (by simp) ⟨?_, trivial⟩
       ·
        have hk377 := hk183.kept hg362 (by simp)
        refine dr_opVal (i := 4) (v := wv) h359 rfl rfl rfl rfl (by kernel_rfl) rfl (rn_load1 rfl rfl Try.isAgg67 (hk377.cell rfl)) hB376 (fun a378 h378 => ?_); clear h359
        have hr385 := row_kept_new hr245 hg362
        refine d1 13 h378 rfl rfl (op_appendF rfl 0 61 (z := .agg #[.int .i64 0, .int .i64 0, .int .i64 0, .int .i64 0, .int .i64 0, .int .i64 0, .bool false, .string (⟨#[]⟩)]) (size := 8) (bytes := 72) Try.underlying67 (by kernel_rfl) rfl rfl rfl hr385 rfl hk363 rfl (by kernel_rfl) (by first | omega | (simp only [List.length_nil, List.length_append, List.length_cons, List.length_take, List.length_drop]; omega)) (by first | omega | (simp only [List.length_nil, List.length_append, List.length_cons, List.length_take, List.length_drop]; omega)) (by omega)) ?_ ?_; clear h378
        ·
         rintro v381 w380 ⟨hr382, hwt384, hg383⟩
         have hr382' : w380.ownsRow 0 61 8 v381 ((P.W ++ [(SegT.mk y244.boot y244.stream y244.seq y244.ab y244.ast y244.asq y244.has y244.body)]).length) ((P.W ++ [(SegT.mk y244.boot y244.stream y244.seq y244.ab y244.ast y244.asq y244.has y244.body)]).flatMap segE) := row_push (y := (SegT.mk y244.boot y244.stream y244.seq y244.ab y244.ast y244.asq y244.has y244.body)) hr382 rfl rfl; clear hr382
         have hk388 := hk34.kept hg109 (by simp)
         have hk389 := hk388.kept hg362 (by simp)
         have hO390 := LkP.gr hO373 hg362 (fun k e => by cases e)
         have ho387 := LkP.ofS hO390
         have ho386 := offR_went hQ.wA ho387 hwt384
         have hO393 := LkP.gr hO375 hg362 (fun k e => by cases e)
         have ho392 := LkP.ofS hO393
         have ho391 := offR_went hQ.wB ho392 hwt384
         have hz394 := hg383.size
         have hB395 := fbU_row hB376 hinw hg383
         exact hB395
        rintro v381 w380 a379 ⟨hr382, hwt384, hg383⟩ h379
        have hr382' : w380.ownsRow 0 61 8 v381 ((P.W ++ [(SegT.mk y244.boot y244.stream y244.seq y244.ab y244.ast y244.asq y244.has y244.body)]).length) ((P.W ++ [(SegT.mk y244.boot y244.stream y244.seq y244.ab y244.ast y244.asq y244.has y244.body)]).flatMap segE) := row_push (y := (SegT.mk y244.boot y244.stream y244.seq y244.ab y244.ast y244.asq y244.has y244.body)) hr382 rfl rfl; clear hr382
        have hk388 := hk34.kept hg109 (by simp)
        have hk389 := hk388.kept hg362 (by simp)
        have hO390 := LkP.gr hO373 hg362 (fun k e => by cases e)
        have ho387 := LkP.ofS hO390
        have ho386 := offR_went hQ.wA ho387 hwt384
        have hO393 := LkP.gr hO375 hg362 (fun k e => by cases e)
        have ho392 := LkP.ofS hO393
        have ho391 := offR_went hQ.wB ho392 hwt384
        have hz394 := hg383.size
        have hB395 := fbU_row hB376 hinw hg383
        refine dk0 14 (v := pt b 0) h379 rfl rfl hB395 fun a396 h396 => ?_; clear h379
        refine dk0 15 (v := pt b 4) h396 rfl rfl hB395 fun a397 h397 => ?_; clear h396
        have hk403 := hk377.kept hg383 (own_neT hr385 hk377 (by decide))
        refine d1D 16 h397 rfl rfl (op_store1 rfl rfl rfl (row_one hr382') Try.sizeOf67 hk403 rfl) ?_ ?_; clear h397
        ·
         rintro _ w399 ⟨hk400, hz401, hg402⟩
         have hk400' : Blk w399 b 95 #[pt NA 0, pt NB 0, .int .i64 P.b0, .int .i64 P.b1, v381, tv, .int .i64 P.s0, .int .i64 P.s1, .int .i64 P.t0, .int .i64 P.t1, .bool true] := hk400; clear hk400
         have hz404 := hg402.size
         have hB405 := fbU_at hB395 hg402 (fun hlt => by rcases hSb with hq | hq; exact hq; omega)
         exact hB405
        rintro _ w399 a398 ⟨hk400, hz401, hg402⟩ h398
        have hk400' : Blk w399 b 95 #[pt NA 0, pt NB 0, .int .i64 P.b0, .int .i64 P.b1, v381, tv, .int .i64 P.s0, .int .i64 P.s1, .int .i64 P.t0, .int .i64 P.t1, .bool true] := hk400; clear hk400
        have hz404 := hg402.size
        refine dr_done (by kernel_rfl) ?_
        refine co_then ?_
        have hO405 := LkP.gr hO390 hg383 (fun k e => hQ.wA k e)
        have hO406 := LkP.gr hO405 hg402 (fun k e => by cases e; exact hQ.nA)
        have hO407 := LkP.gr hO393 hg383 (fun k e => hQ.wB k e)
        have hO408 := LkP.gr hO407 hg402 (fun k e => by cases e; exact hQ.nB)
        have hr409 := row_kept_at hr382' hg402 (own_neT hr382' hk403 (by decide))
        have hr410 := row_kept_new hr369 hg362
        have hr411 := row_kept_row hr410 hr385 hg383 (by decide)
        have hr412 := row_kept_at hr411 hg402 (own_neT hr411 hk403 (by decide))
        have hB413 := fbU_at hB395 hg402 (fun hlt => by rcases hSb with hq | hq; exact hq; omega)
        exact ⟨v381, y244, h398.sub ⟨rfl, rfl, rfl, rfl, trivial⟩, by exact hy244, by exact ho386, by exact ho391, by exact (hinw.went hwt384 (by omega)), hk400', hO406, hO408, (row_eq hr409 (rfl)), hr412, hB413⟩
  rintro a414 w415 ⟨wk, y9, h414, hi416, hi417, hi418, hi419, hf420, hf421, hf422, hf423, hf424, hB425⟩
  have hz426 := hB425.size
  have hl427 := hf420.lt
  refine dr_gen (fun x => But (S) w x) (by kernel_rfl) (fun w428 hg429 => ?_) (fun w428 hg429 => ?_)
  ·
   have hz430 := hg429.size
   have hB431 := fbU_new hB425 hg429
   exact hB431
  have hz432 := hg429.size
  have hB433 := fbU_new hB425 hg429
  refine dk0 0 (v := pt b 0) h414 rfl rfl hB433 fun a434 h434 => ?_; clear h414
  refine dk0 1 (v := pt b 0) h434 rfl rfl hB433 fun a435 h435 => ?_; clear h434
  refine dk0 2 (v := pt b 0) h435 rfl rfl hB433 fun a436 h436 => ?_; clear h435
  refine dk0 3 (v := pt b 5) h436 rfl rfl hB433 fun a437 h437 => ?_; clear h436
  refine dk0 5 (v := pt b 0) h437 rfl rfl hB433 fun a438 h438 => ?_; clear h437
  refine dk0 6 (v := pt b 0) h438 rfl rfl hB433 fun a439 h439 => ?_; clear h438
  refine dk0 7 (v := pt b 5) h439 rfl rfl hB433 fun a440 h440 => ?_; clear h439
  refine dk0 9 (v := .int .i64 ((i0 : Nat) : Int)) h440 rfl rfl hB433 fun a441 h441 => ?_; clear h440
  refine dr_many [4, 8] (by kernel_rfl) (by simp) ⟨?_, ?_, trivial⟩
  ·
   have hk442 := hf420.kept hg429 (by simp)
   refine dr_opVal (i := 4) (v := tv) h441 rfl rfl rfl rfl (by kernel_rfl) rfl (rn_load1 rfl rfl Try.isAgg93 (hk442.cell rfl)) hB433 (fun a443 h443 => ?_); clear h441
   refine dr_many [8] (by kernel_rfl) (by simp) ⟨?_, trivial⟩
   ·
    refine dr_opVal (i := 8) (v := tv) h443 rfl rfl rfl rfl (by kernel_rfl) rfl (rn_load1 rfl rfl Try.isAgg93 (hk442.cell rfl)) hB433 (fun a444 h444 => ?_); clear h443
    refine dr_many [10] (by kernel_rfl) (by simp) ⟨?_, trivial⟩
    ·
     have hr446 := row_kept_new hf424 hg429
     obtain ⟨y445, hy445⟩ : ∃ z, P.T[i0]? = some z := ⟨_, List.getElem?_eq_getElem (by first | omega | (simp; done) | (simp; omega))⟩
     refine dr_opVal (i := 10) (v := pt (blkOf tv) (offOf tv + i0 * 1)) h444 rfl rfl rfl rfl (by kernel_rfl) rfl (rn_index rfl rfl rfl Try.underlying93 Try.sizeOf3 (row_sl hr446 intE_lenL) (by omega) (by first | omega | (simp; done) | (simp; omega))) hB433 (fun a447 h447 => ?_); clear h444
     refine dr_many [11] (by kernel_rfl) (by simp) ⟨?_, trivial⟩
     ·
      refine dr_opVal (i := 11) (v := .int .i64 y445) h447 rfl rfl rfl rfl (by kernel_rfl) rfl (rn_load1 rfl rfl Try.isAgg3 ((sl_at (row_sl hr446 intE_lenL) hy445) 0 _ rfl)) hB433 (fun a448 h448 => ?_); clear h447
      refine d1 12 h448 rfl rfl (op_new (v := fun N => .slice (some ⟨N, 0, none⟩) 1 1) (T := 3) (cs := #[.int .i64 y445]) (by kernel_rfl) (by kernel_rfl) (by kernel_rfl)) ?_ ?_; clear h448
      ·
       rintro _ w450 ⟨N451, rfl, hN454, hz455, hk453, hg452⟩
       have hr457 := row_kept_new hf423 hg429
       have ha456 := row_fresh hr457 hN454
       have hu458 := row_under hr457 hN454
       have ha459 := row_fresh hr446 hN454
       have hu460 := row_under hr446 hN454
       have hz461 := hg452.size
       have hO463 := LkP.gr hf421 hg429 (fun k e => by cases e)
       have ho462 := off_new (LkP.ofS hO463) hN454
       have hO465 := LkP.gr hf422 hg429 (fun k e => by cases e)
       have ho464 := off_new (LkP.ofS hO465) hN454
       have hB466 := fbU_new hB433 hg452
       exact hB466
      rintro _ w450 a449 ⟨N451, rfl, hN454, hz455, hk453, hg452⟩ h449
      have hr457 := row_kept_new hf423 hg429
      have ha456 := row_fresh hr457 hN454
      have hu458 := row_under hr457 hN454
      have ha459 := row_fresh hr446 hN454
      have hu460 := row_under hr446 hN454
      have hz461 := hg452.size
      have hO463 := LkP.gr hf421 hg429 (fun k e => by cases e)
      have ho462 := off_new (LkP.ofS hO463) hN454
      have hO465 := LkP.gr hf422 hg429 (fun k e => by cases e)
      have ho464 := off_new (LkP.ofS hO465) hN454
      try dsimp only at h449
      have hB466 := fbU_new hB433 hg452
      have hr473 := row_kept_new hr446 hg452
      refine d1 13 h449 rfl rfl (op_appendF rfl 0 3 (z := .int .i64 0) (size := 1) (bytes := 8) Try.underlying93 (by kernel_rfl) rfl rfl rfl hr473 rfl hk453 rfl (by kernel_rfl) (by first | omega | (simp only [List.length_nil, List.length_append, List.length_cons, List.length_take, List.length_drop]; omega)) (by first | omega | (simp only [List.length_nil, List.length_append, List.length_cons, List.length_take, List.length_drop]; omega)) (by omega)) ?_ ?_; clear h449
      ·
       rintro v469 w468 ⟨hr470, hwt472, hg471⟩
       have hr470' : w468.ownsRow 0 3 1 v469 ((P.T ++ [y445]).length) ((P.T ++ [y445]).flatMap (intE .i64)) := row_push (y := y445) hr470 rfl rfl; clear hr470
       have hO476 := LkP.gr hO463 hg452 (fun k e => by cases e)
       have ho475 := LkP.ofS hO476
       have ho474 := offR_went hQ.tA ho475 hwt472
       have hO479 := LkP.gr hO465 hg452 (fun k e => by cases e)
       have ho478 := LkP.ofS hO479
       have ho477 := offR_went hQ.tB ho478 hwt472
       have hz480 := hg471.size
       have hB481 := fbU_row hB466 hint hg471
       exact hB481
      rintro v469 w468 a467 ⟨hr470, hwt472, hg471⟩ h467
      have hr470' : w468.ownsRow 0 3 1 v469 ((P.T ++ [y445]).length) ((P.T ++ [y445]).flatMap (intE .i64)) := row_push (y := y445) hr470 rfl rfl; clear hr470
      have hO476 := LkP.gr hO463 hg452 (fun k e => by cases e)
      have ho475 := LkP.ofS hO476
      have ho474 := offR_went hQ.tA ho475 hwt472
      have hO479 := LkP.gr hO465 hg452 (fun k e => by cases e)
      have ho478 := LkP.ofS hO479
      have ho477 := offR_went hQ.tB ho478 hwt472
      have hz480 := hg471.size
      have hB481 := fbU_row hB466 hint hg471
      refine dk0 14 (v := pt b 0) h467 rfl rfl hB481 fun a482 h482 => ?_; clear h467
      refine dk0 15 (v := pt b 5) h482 rfl rfl hB481 fun a483 h483 => ?_; clear h482
      have hk489 := hk442.kept hg452 (by simp)
      have hk490 := hk489.kept hg471 (own_neT hr473 hk489 (by decide))
      refine d1D 16 h483 rfl rfl (op_store1 rfl rfl rfl (row_one hr470') Try.sizeOf93 hk490 rfl) ?_ ?_; clear h483
      ·
       rintro _ w485 ⟨hk486, hz487, hg488⟩
       have hk486' : Blk w485 b 95 #[pt NA 0, pt NB 0, .int .i64 P.b0, .int .i64 P.b1, wk, v469, .int .i64 P.s0, .int .i64 P.s1, .int .i64 P.t0, .int .i64 P.t1, .bool true] := hk486; clear hk486
       have hz491 := hg488.size
       have hB492 := fbU_at hB481 hg488 (fun hlt => by rcases hSb with hq | hq; exact hq; omega)
       exact hB492
      rintro _ w485 a484 ⟨hk486, hz487, hg488⟩ h484
      have hk486' : Blk w485 b 95 #[pt NA 0, pt NB 0, .int .i64 P.b0, .int .i64 P.b1, wk, v469, .int .i64 P.s0, .int .i64 P.s1, .int .i64 P.t0, .int .i64 P.t1, .bool true] := hk486; clear hk486
      have hz491 := hg488.size
      refine dr_done (by kernel_rfl) ?_
      refine co_blockN ?_
      refine co_ret0n h484 rfl ?_
      have hO492 := LkP.gr hO476 hg471 (fun k e => hQ.tA k e)
      have hO493 := LkP.gr hO492 hg488 (fun k e => by cases e; exact hQ.nA)
      have hO494 := LkP.gr hO479 hg471 (fun k e => hQ.tB k e)
      have hO495 := LkP.gr hO494 hg488 (fun k e => by cases e; exact hQ.nB)
      have hr496 := row_kept_new hr457 hg452
      have hr497 := row_kept_row hr496 hr473 hg471 (by decide)
      have hr498 := row_kept_at hr497 hg488 (own_neT hr497 hk490 (by decide))
      have hr499 := row_kept_at hr470' hg488 (own_neT hr470' hk490 (by decide))
      have hB500 := fbU_at hB481 hg488 (fun hlt => by rcases hSb with hq | hq; exact hq; omega)
      obtain ⟨S9, h1, h2⟩ := PrO.fin (P := (dupP P y9 y445)) (NA := NA) (NB := NB) (wv := wk) (tv := v469) (w := w) hk486' hO493 hO495 hr498 hr499 hQ.ap hQ.nA hQ.nB hi417 hi418 ho474 ho477 hSb hinA hinB hi419 (hint.went hwt472 (by omega)) hB500
      exact ⟨_, S9, rfl, StepR.dup _ _ _ (by omega) hi416 hy445, h1, h2, hB500⟩
  ·
   have hk501 := hf420.kept hg429 (by simp)
   refine dr_opVal (i := 8) (v := tv) h441 rfl rfl rfl rfl (by kernel_rfl) rfl (rn_load1 rfl rfl Try.isAgg93 (hk501.cell rfl)) hB433 (fun a502 h502 => ?_); clear h441
   refine dr_many [4, 10] (by kernel_rfl) (by simp) ⟨?_, ?_, trivial⟩
   ·
    refine dr_opVal (i := 4) (v := tv) h502 rfl rfl rfl rfl (by kernel_rfl) rfl (rn_load1 rfl rfl Try.isAgg93 (hk501.cell rfl)) hB433 (fun a503 h503 => ?_); clear h502
    refine dr_many [10] (by kernel_rfl) (by simp) ⟨?_, trivial⟩
    ·
     have hr505 := row_kept_new hf424 hg429
     obtain ⟨y504, hy504⟩ : ∃ z, P.T[i0]? = some z := ⟨_, List.getElem?_eq_getElem (by first | omega | (simp; done) | (simp; omega))⟩
     refine dr_opVal (i := 10) (v := pt (blkOf tv) (offOf tv + i0 * 1)) h503 rfl rfl rfl rfl (by kernel_rfl) rfl (rn_index rfl rfl rfl Try.underlying93 Try.sizeOf3 (row_sl hr505 intE_lenL) (by omega) (by first | omega | (simp; done) | (simp; omega))) hB433 (fun a506 h506 => ?_); clear h503
     refine dr_many [11] (by kernel_rfl) (by simp) ⟨?_, trivial⟩
     ·
      refine dr_opVal (i := 11) (v := .int .i64 y504) h506 rfl rfl rfl rfl (by kernel_rfl) rfl (rn_load1 rfl rfl Try.isAgg3 ((sl_at (row_sl hr505 intE_lenL) hy504) 0 _ rfl)) hB433 (fun a507 h507 => ?_); clear h506
      refine d1 12 h507 rfl rfl (op_new (v := fun N => .slice (some ⟨N, 0, none⟩) 1 1) (T := 3) (cs := #[.int .i64 y504]) (by kernel_rfl) (by kernel_rfl) (by kernel_rfl)) ?_ ?_; clear h507
      ·
       rintro _ w509 ⟨N510, rfl, hN513, hz514, hk512, hg511⟩
       have hr516 := row_kept_new hf423 hg429
       have ha515 := row_fresh hr516 hN513
       have hu517 := row_under hr516 hN513
       have ha518 := row_fresh hr505 hN513
       have hu519 := row_under hr505 hN513
       have hz520 := hg511.size
       have hO522 := LkP.gr hf421 hg429 (fun k e => by cases e)
       have ho521 := off_new (LkP.ofS hO522) hN513
       have hO524 := LkP.gr hf422 hg429 (fun k e => by cases e)
       have ho523 := off_new (LkP.ofS hO524) hN513
       have hB525 := fbU_new hB433 hg511
       exact hB525
      rintro _ w509 a508 ⟨N510, rfl, hN513, hz514, hk512, hg511⟩ h508
      have hr516 := row_kept_new hf423 hg429
      have ha515 := row_fresh hr516 hN513
      have hu517 := row_under hr516 hN513
      have ha518 := row_fresh hr505 hN513
      have hu519 := row_under hr505 hN513
      have hz520 := hg511.size
      have hO522 := LkP.gr hf421 hg429 (fun k e => by cases e)
      have ho521 := off_new (LkP.ofS hO522) hN513
      have hO524 := LkP.gr hf422 hg429 (fun k e => by cases e)
      have ho523 := off_new (LkP.ofS hO524) hN513
      try dsimp only at h508
      have hB525 := fbU_new hB433 hg511
      have hr532 := row_kept_new hr505 hg511
      refine d1 13 h508 rfl rfl (op_appendF rfl 0 3 (z := .int .i64 0) (size := 1) (bytes := 8) Try.underlying93 (by kernel_rfl) rfl rfl rfl hr532 rfl hk512 rfl (by kernel_rfl) (by first | omega | (simp only [List.length_nil, List.length_append, List.length_cons, List.length_take, List.length_drop]; omega)) (by first | omega | (simp only [List.length_nil, List.length_append, List.length_cons, List.length_take, List.length_drop]; omega)) (by omega)) ?_ ?_; clear h508
      ·
       rintro v528 w527 ⟨hr529, hwt531, hg530⟩
       have hr529' : w527.ownsRow 0 3 1 v528 ((P.T ++ [y504]).length) ((P.T ++ [y504]).flatMap (intE .i64)) := row_push (y := y504) hr529 rfl rfl; clear hr529
       have hO535 := LkP.gr hO522 hg511 (fun k e => by cases e)
       have ho534 := LkP.ofS hO535
       have ho533 := offR_went hQ.tA ho534 hwt531
       have hO538 := LkP.gr hO524 hg511 (fun k e => by cases e)
       have ho537 := LkP.ofS hO538
       have ho536 := offR_went hQ.tB ho537 hwt531
       have hz539 := hg530.size
       have hB540 := fbU_row hB525 hint hg530
       exact hB540
      rintro v528 w527 a526 ⟨hr529, hwt531, hg530⟩ h526
      have hr529' : w527.ownsRow 0 3 1 v528 ((P.T ++ [y504]).length) ((P.T ++ [y504]).flatMap (intE .i64)) := row_push (y := y504) hr529 rfl rfl; clear hr529
      have hO535 := LkP.gr hO522 hg511 (fun k e => by cases e)
      have ho534 := LkP.ofS hO535
      have ho533 := offR_went hQ.tA ho534 hwt531
      have hO538 := LkP.gr hO524 hg511 (fun k e => by cases e)
      have ho537 := LkP.ofS hO538
      have ho536 := offR_went hQ.tB ho537 hwt531
      have hz539 := hg530.size
      have hB540 := fbU_row hB525 hint hg530
      refine dk0 14 (v := pt b 0) h526 rfl rfl hB540 fun a541 h541 => ?_; clear h526
      refine dk0 15 (v := pt b 5) h541 rfl rfl hB540 fun a542 h542 => ?_; clear h541
      have hk548 := hk501.kept hg511 (by simp)
      have hk549 := hk548.kept hg530 (own_neT hr532 hk548 (by decide))
      refine d1D 16 h542 rfl rfl (op_store1 rfl rfl rfl (row_one hr529') Try.sizeOf93 hk549 rfl) ?_ ?_; clear h542
      ·
       rintro _ w544 ⟨hk545, hz546, hg547⟩
       have hk545' : Blk w544 b 95 #[pt NA 0, pt NB 0, .int .i64 P.b0, .int .i64 P.b1, wk, v528, .int .i64 P.s0, .int .i64 P.s1, .int .i64 P.t0, .int .i64 P.t1, .bool true] := hk545; clear hk545
       have hz550 := hg547.size
       have hB551 := fbU_at hB540 hg547 (fun hlt => by rcases hSb with hq | hq; exact hq; omega)
       exact hB551
      rintro _ w544 a543 ⟨hk545, hz546, hg547⟩ h543
      have hk545' : Blk w544 b 95 #[pt NA 0, pt NB 0, .int .i64 P.b0, .int .i64 P.b1, wk, v528, .int .i64 P.s0, .int .i64 P.s1, .int .i64 P.t0, .int .i64 P.t1, .bool true] := hk545; clear hk545
      have hz550 := hg547.size
      refine dr_done (by kernel_rfl) ?_
      refine co_blockN ?_
      refine co_ret0n h543 rfl ?_
      have hO551 := LkP.gr hO535 hg530 (fun k e => hQ.tA k e)
      have hO552 := LkP.gr hO551 hg547 (fun k e => by cases e; exact hQ.nA)
      have hO553 := LkP.gr hO538 hg530 (fun k e => hQ.tB k e)
      have hO554 := LkP.gr hO553 hg547 (fun k e => by cases e; exact hQ.nB)
      have hr555 := row_kept_new hr516 hg511
      have hr556 := row_kept_row hr555 hr532 hg530 (by decide)
      have hr557 := row_kept_at hr556 hg547 (own_neT hr556 hk549 (by decide))
      have hr558 := row_kept_at hr529' hg547 (own_neT hr529' hk549 (by decide))
      have hB559 := fbU_at hB540 hg547 (fun hlt => by rcases hSb with hq | hq; exact hq; omega)
      obtain ⟨S9, h1, h2⟩ := PrO.fin (P := (dupP P y9 y504)) (NA := NA) (NB := NB) (wv := wk) (tv := v528) (w := w) hk545' hO552 hO554 hr557 hr558 hQ.ap hQ.nA hQ.nB hi417 hi418 ho533 ho536 hSb hinA hinB hi419 (hint.went hwt531 (by omega)) hB559
      exact ⟨_, S9, rfl, StepR.dup _ _ _ (by omega) hi416 hy504, h1, h2, hB559⟩
   ·
    have hr561 := row_kept_new hf424 hg429
    obtain ⟨y560, hy560⟩ : ∃ z, P.T[i0]? = some z := ⟨_, List.getElem?_eq_getElem (by first | omega | (simp; done) | (simp; omega))⟩
    refine dr_opVal (i := 10) (v := pt (blkOf tv) (offOf tv + i0 * 1)) h502 rfl rfl rfl rfl (by kernel_rfl) rfl (rn_index rfl rfl rfl Try.underlying93 Try.sizeOf3 (row_sl hr561 intE_lenL) (by omega) (by first | omega | (simp; done) | (simp; omega))) hB433 (fun a562 h562 => ?_); clear h502
    refine dr_many [4, 11] (by kernel_rfl) (by simp) ⟨?_, ?_, trivial⟩
    ·
     refine dr_opVal (i := 4) (v := tv) h562 rfl rfl rfl rfl (by kernel_rfl) rfl (rn_load1 rfl rfl Try.isAgg93 (hk501.cell rfl)) hB433 (fun a563 h563 => ?_); clear h562
     refine dr_many [11] (by kernel_rfl) (by simp) ⟨?_, trivial⟩
     ·
      refine dr_opVal (i := 11) (v := .int .i64 y560) h563 rfl rfl rfl rfl (by kernel_rfl) rfl (rn_load1 rfl rfl Try.isAgg3 ((sl_at (row_sl hr561 intE_lenL) hy560) 0 _ rfl)) hB433 (fun a564 h564 => ?_); clear h563
      refine d1 12 h564 rfl rfl (op_new (v := fun N => .slice (some ⟨N, 0, none⟩) 1 1) (T := 3) (cs := #[.int .i64 y560]) (by kernel_rfl) (by kernel_rfl) (by kernel_rfl)) ?_ ?_; clear h564
      ·
       rintro _ w566 ⟨N567, rfl, hN570, hz571, hk569, hg568⟩
       have hr573 := row_kept_new hf423 hg429
       have ha572 := row_fresh hr573 hN570
       have hu574 := row_under hr573 hN570
       have ha575 := row_fresh hr561 hN570
       have hu576 := row_under hr561 hN570
       have hz577 := hg568.size
       have hO579 := LkP.gr hf421 hg429 (fun k e => by cases e)
       have ho578 := off_new (LkP.ofS hO579) hN570
       have hO581 := LkP.gr hf422 hg429 (fun k e => by cases e)
       have ho580 := off_new (LkP.ofS hO581) hN570
       have hB582 := fbU_new hB433 hg568
       exact hB582
      rintro _ w566 a565 ⟨N567, rfl, hN570, hz571, hk569, hg568⟩ h565
      have hr573 := row_kept_new hf423 hg429
      have ha572 := row_fresh hr573 hN570
      have hu574 := row_under hr573 hN570
      have ha575 := row_fresh hr561 hN570
      have hu576 := row_under hr561 hN570
      have hz577 := hg568.size
      have hO579 := LkP.gr hf421 hg429 (fun k e => by cases e)
      have ho578 := off_new (LkP.ofS hO579) hN570
      have hO581 := LkP.gr hf422 hg429 (fun k e => by cases e)
      have ho580 := off_new (LkP.ofS hO581) hN570
      try dsimp only at h565
      have hB582 := fbU_new hB433 hg568
      have hr589 := row_kept_new hr561 hg568
      refine d1 13 h565 rfl rfl (op_appendF rfl 0 3 (z := .int .i64 0) (size := 1) (bytes := 8) Try.underlying93 (by kernel_rfl) rfl rfl rfl hr589 rfl hk569 rfl (by kernel_rfl) (by first | omega | (simp only [List.length_nil, List.length_append, List.length_cons, List.length_take, List.length_drop]; omega)) (by first | omega | (simp only [List.length_nil, List.length_append, List.length_cons, List.length_take, List.length_drop]; omega)) (by omega)) ?_ ?_; clear h565
      ·
       rintro v585 w584 ⟨hr586, hwt588, hg587⟩
       have hr586' : w584.ownsRow 0 3 1 v585 ((P.T ++ [y560]).length) ((P.T ++ [y560]).flatMap (intE .i64)) := row_push (y := y560) hr586 rfl rfl; clear hr586
       have hO592 := LkP.gr hO579 hg568 (fun k e => by cases e)
       have ho591 := LkP.ofS hO592
       have ho590 := offR_went hQ.tA ho591 hwt588
       have hO595 := LkP.gr hO581 hg568 (fun k e => by cases e)
       have ho594 := LkP.ofS hO595
       have ho593 := offR_went hQ.tB ho594 hwt588
       have hz596 := hg587.size
       have hB597 := fbU_row hB582 hint hg587
       exact hB597
      rintro v585 w584 a583 ⟨hr586, hwt588, hg587⟩ h583
      have hr586' : w584.ownsRow 0 3 1 v585 ((P.T ++ [y560]).length) ((P.T ++ [y560]).flatMap (intE .i64)) := row_push (y := y560) hr586 rfl rfl; clear hr586
      have hO592 := LkP.gr hO579 hg568 (fun k e => by cases e)
      have ho591 := LkP.ofS hO592
      have ho590 := offR_went hQ.tA ho591 hwt588
      have hO595 := LkP.gr hO581 hg568 (fun k e => by cases e)
      have ho594 := LkP.ofS hO595
      have ho593 := offR_went hQ.tB ho594 hwt588
      have hz596 := hg587.size
      have hB597 := fbU_row hB582 hint hg587
      refine dk0 14 (v := pt b 0) h583 rfl rfl hB597 fun a598 h598 => ?_; clear h583
      refine dk0 15 (v := pt b 5) h598 rfl rfl hB597 fun a599 h599 => ?_; clear h598
      have hk605 := hk501.kept hg568 (by simp)
      have hk606 := hk605.kept hg587 (own_neT hr589 hk605 (by decide))
      refine d1D 16 h599 rfl rfl (op_store1 rfl rfl rfl (row_one hr586') Try.sizeOf93 hk606 rfl) ?_ ?_; clear h599
      ·
       rintro _ w601 ⟨hk602, hz603, hg604⟩
       have hk602' : Blk w601 b 95 #[pt NA 0, pt NB 0, .int .i64 P.b0, .int .i64 P.b1, wk, v585, .int .i64 P.s0, .int .i64 P.s1, .int .i64 P.t0, .int .i64 P.t1, .bool true] := hk602; clear hk602
       have hz607 := hg604.size
       have hB608 := fbU_at hB597 hg604 (fun hlt => by rcases hSb with hq | hq; exact hq; omega)
       exact hB608
      rintro _ w601 a600 ⟨hk602, hz603, hg604⟩ h600
      have hk602' : Blk w601 b 95 #[pt NA 0, pt NB 0, .int .i64 P.b0, .int .i64 P.b1, wk, v585, .int .i64 P.s0, .int .i64 P.s1, .int .i64 P.t0, .int .i64 P.t1, .bool true] := hk602; clear hk602
      have hz607 := hg604.size
      refine dr_done (by kernel_rfl) ?_
      refine co_blockN ?_
      refine co_ret0n h600 rfl ?_
      have hO608 := LkP.gr hO592 hg587 (fun k e => hQ.tA k e)
      have hO609 := LkP.gr hO608 hg604 (fun k e => by cases e; exact hQ.nA)
      have hO610 := LkP.gr hO595 hg587 (fun k e => hQ.tB k e)
      have hO611 := LkP.gr hO610 hg604 (fun k e => by cases e; exact hQ.nB)
      have hr612 := row_kept_new hr573 hg568
      have hr613 := row_kept_row hr612 hr589 hg587 (by decide)
      have hr614 := row_kept_at hr613 hg604 (own_neT hr613 hk606 (by decide))
      have hr615 := row_kept_at hr586' hg604 (own_neT hr586' hk606 (by decide))
      have hB616 := fbU_at hB597 hg604 (fun hlt => by rcases hSb with hq | hq; exact hq; omega)
      obtain ⟨S9, h1, h2⟩ := PrO.fin (P := (dupP P y9 y560)) (NA := NA) (NB := NB) (wv := wk) (tv := v585) (w := w) hk602' hO609 hO611 hr614 hr615 hQ.ap hQ.nA hQ.nB hi417 hi418 ho590 ho593 hSb hinA hinB hi419 (hint.went hwt588 (by omega)) hB616
      exact ⟨_, S9, rfl, StepR.dup _ _ _ (by omega) hi416 hy560, h1, h2, hB616⟩
    ·
     refine dr_opVal (i := 11) (v := .int .i64 y560) h562 rfl rfl rfl rfl (by kernel_rfl) rfl (rn_load1 rfl rfl Try.isAgg3 ((sl_at (row_sl hr561 intE_lenL) hy560) 0 _ rfl)) hB433 (fun a617 h617 => ?_); clear h562
     refine dr_many [4, 12] (by kernel_rfl) (by simp) ⟨?_, ?_, trivial⟩
     ·
      refine dr_opVal (i := 4) (v := tv) h617 rfl rfl rfl rfl (by kernel_rfl) rfl (rn_load1 rfl rfl Try.isAgg93 (hk501.cell rfl)) hB433 (fun a618 h618 => ?_); clear h617
      refine d1 12 h618 rfl rfl (op_new (v := fun N => .slice (some ⟨N, 0, none⟩) 1 1) (T := 3) (cs := #[.int .i64 y560]) (by kernel_rfl) (by kernel_rfl) (by kernel_rfl)) ?_ ?_; clear h618
      ·
       rintro _ w620 ⟨N621, rfl, hN624, hz625, hk623, hg622⟩
       have hr627 := row_kept_new hf423 hg429
       have ha626 := row_fresh hr627 hN624
       have hu628 := row_under hr627 hN624
       have ha629 := row_fresh hr561 hN624
       have hu630 := row_under hr561 hN624
       have hz631 := hg622.size
       have hO633 := LkP.gr hf421 hg429 (fun k e => by cases e)
       have ho632 := off_new (LkP.ofS hO633) hN624
       have hO635 := LkP.gr hf422 hg429 (fun k e => by cases e)
       have ho634 := off_new (LkP.ofS hO635) hN624
       have hB636 := fbU_new hB433 hg622
       exact hB636
      rintro _ w620 a619 ⟨N621, rfl, hN624, hz625, hk623, hg622⟩ h619
      have hr627 := row_kept_new hf423 hg429
      have ha626 := row_fresh hr627 hN624
      have hu628 := row_under hr627 hN624
      have ha629 := row_fresh hr561 hN624
      have hu630 := row_under hr561 hN624
      have hz631 := hg622.size
      have hO633 := LkP.gr hf421 hg429 (fun k e => by cases e)
      have ho632 := off_new (LkP.ofS hO633) hN624
      have hO635 := LkP.gr hf422 hg429 (fun k e => by cases e)
      have ho634 := off_new (LkP.ofS hO635) hN624
      try dsimp only at h619
      have hB636 := fbU_new hB433 hg622
      have hr643 := row_kept_new hr561 hg622
      refine d1 13 h619 rfl rfl (op_appendF rfl 0 3 (z := .int .i64 0) (size := 1) (bytes := 8) Try.underlying93 (by kernel_rfl) rfl rfl rfl hr643 rfl hk623 rfl (by kernel_rfl) (by first | omega | (simp only [List.length_nil, List.length_append, List.length_cons, List.length_take, List.length_drop]; omega)) (by first | omega | (simp only [List.length_nil, List.length_append, List.length_cons, List.length_take, List.length_drop]; omega)) (by omega)) ?_ ?_; clear h619
      ·
       rintro v639 w638 ⟨hr640, hwt642, hg641⟩
       have hr640' : w638.ownsRow 0 3 1 v639 ((P.T ++ [y560]).length) ((P.T ++ [y560]).flatMap (intE .i64)) := row_push (y := y560) hr640 rfl rfl; clear hr640
       have hO646 := LkP.gr hO633 hg622 (fun k e => by cases e)
       have ho645 := LkP.ofS hO646
       have ho644 := offR_went hQ.tA ho645 hwt642
       have hO649 := LkP.gr hO635 hg622 (fun k e => by cases e)
       have ho648 := LkP.ofS hO649
       have ho647 := offR_went hQ.tB ho648 hwt642
       have hz650 := hg641.size
       have hB651 := fbU_row hB636 hint hg641
       exact hB651
      rintro v639 w638 a637 ⟨hr640, hwt642, hg641⟩ h637
      have hr640' : w638.ownsRow 0 3 1 v639 ((P.T ++ [y560]).length) ((P.T ++ [y560]).flatMap (intE .i64)) := row_push (y := y560) hr640 rfl rfl; clear hr640
      have hO646 := LkP.gr hO633 hg622 (fun k e => by cases e)
      have ho645 := LkP.ofS hO646
      have ho644 := offR_went hQ.tA ho645 hwt642
      have hO649 := LkP.gr hO635 hg622 (fun k e => by cases e)
      have ho648 := LkP.ofS hO649
      have ho647 := offR_went hQ.tB ho648 hwt642
      have hz650 := hg641.size
      have hB651 := fbU_row hB636 hint hg641
      refine dk0 14 (v := pt b 0) h637 rfl rfl hB651 fun a652 h652 => ?_; clear h637
      refine dk0 15 (v := pt b 5) h652 rfl rfl hB651 fun a653 h653 => ?_; clear h652
      have hk659 := hk501.kept hg622 (by simp)
      have hk660 := hk659.kept hg641 (own_neT hr643 hk659 (by decide))
      refine d1D 16 h653 rfl rfl (op_store1 rfl rfl rfl (row_one hr640') Try.sizeOf93 hk660 rfl) ?_ ?_; clear h653
      ·
       rintro _ w655 ⟨hk656, hz657, hg658⟩
       have hk656' : Blk w655 b 95 #[pt NA 0, pt NB 0, .int .i64 P.b0, .int .i64 P.b1, wk, v639, .int .i64 P.s0, .int .i64 P.s1, .int .i64 P.t0, .int .i64 P.t1, .bool true] := hk656; clear hk656
       have hz661 := hg658.size
       have hB662 := fbU_at hB651 hg658 (fun hlt => by rcases hSb with hq | hq; exact hq; omega)
       exact hB662
      rintro _ w655 a654 ⟨hk656, hz657, hg658⟩ h654
      have hk656' : Blk w655 b 95 #[pt NA 0, pt NB 0, .int .i64 P.b0, .int .i64 P.b1, wk, v639, .int .i64 P.s0, .int .i64 P.s1, .int .i64 P.t0, .int .i64 P.t1, .bool true] := hk656; clear hk656
      have hz661 := hg658.size
      refine dr_done (by kernel_rfl) ?_
      refine co_blockN ?_
      refine co_ret0n h654 rfl ?_
      have hO662 := LkP.gr hO646 hg641 (fun k e => hQ.tA k e)
      have hO663 := LkP.gr hO662 hg658 (fun k e => by cases e; exact hQ.nA)
      have hO664 := LkP.gr hO649 hg641 (fun k e => hQ.tB k e)
      have hO665 := LkP.gr hO664 hg658 (fun k e => by cases e; exact hQ.nB)
      have hr666 := row_kept_new hr627 hg622
      have hr667 := row_kept_row hr666 hr643 hg641 (by decide)
      have hr668 := row_kept_at hr667 hg658 (own_neT hr667 hk660 (by decide))
      have hr669 := row_kept_at hr640' hg658 (own_neT hr640' hk660 (by decide))
      have hB670 := fbU_at hB651 hg658 (fun hlt => by rcases hSb with hq | hq; exact hq; omega)
      obtain ⟨S9, h1, h2⟩ := PrO.fin (P := (dupP P y9 y560)) (NA := NA) (NB := NB) (wv := wk) (tv := v639) (w := w) hk656' hO663 hO665 hr668 hr669 hQ.ap hQ.nA hQ.nB hi417 hi418 ho644 ho647 hSb hinA hinB hi419 (hint.went hwt642 (by omega)) hB670
      exact ⟨_, S9, rfl, StepR.dup _ _ _ (by omega) hi416 hy560, h1, h2, hB670⟩
     ·
      refine dr_op (i := 12) h617 rfl rfl rfl rfl (op_new (v := fun N => .slice (some ⟨N, 0, none⟩) 1 1) (T := 3) (cs := #[.int .i64 y560]) (by kernel_rfl) (by kernel_rfl) (by kernel_rfl)) ?_ ?_; clear h617
      ·
       rintro _ w672 ⟨N673, rfl, hN676, hz677, hk675, hg674⟩
       have hr679 := row_kept_new hf423 hg429
       have ha678 := row_fresh hr679 hN676
       have hu680 := row_under hr679 hN676
       have ha681 := row_fresh hr561 hN676
       have hu682 := row_under hr561 hN676
       have hz683 := hg674.size
       have hO685 := LkP.gr hf421 hg429 (fun k e => by cases e)
       have ho684 := off_new (LkP.ofS hO685) hN676
       have hO687 := LkP.gr hf422 hg429 (fun k e => by cases e)
       have ho686 := off_new (LkP.ofS hO687) hN676
       have hB688 := fbU_new hB433 hg674
       exact hB688
      rintro _ w672 a671 ⟨N673, rfl, hN676, hz677, hk675, hg674⟩ h671
      have hr679 := row_kept_new hf423 hg429
      have ha678 := row_fresh hr679 hN676
      have hu680 := row_under hr679 hN676
      have ha681 := row_fresh hr561 hN676
      have hu682 := row_under hr561 hN676
      have hz683 := hg674.size
      have hO685 := LkP.gr hf421 hg429 (fun k e => by cases e)
      have ho684 := off_new (LkP.ofS hO685) hN676
      have hO687 := LkP.gr hf422 hg429 (fun k e => by cases e)
      have ho686 := off_new (LkP.ofS hO687) hN676
      try dsimp only at h671
      have hB688 := fbU_new hB433 hg674
      refine dr_many [4] (by kernel_rfl) (by simp) ⟨?_, trivial⟩
      ·
       have hk689 := hk501.kept hg674 (by simp)
       refine dr_opVal (i := 4) (v := tv) h671 rfl rfl rfl rfl (by kernel_rfl) rfl (rn_load1 rfl rfl Try.isAgg93 (hk689.cell rfl)) hB688 (fun a690 h690 => ?_); clear h671
       have hr697 := row_kept_new hr561 hg674
       refine d1 13 h690 rfl rfl (op_appendF rfl 0 3 (z := .int .i64 0) (size := 1) (bytes := 8) Try.underlying93 (by kernel_rfl) rfl rfl rfl hr697 rfl hk675 rfl (by kernel_rfl) (by first | omega | (simp only [List.length_nil, List.length_append, List.length_cons, List.length_take, List.length_drop]; omega)) (by first | omega | (simp only [List.length_nil, List.length_append, List.length_cons, List.length_take, List.length_drop]; omega)) (by omega)) ?_ ?_; clear h690
       ·
        rintro v693 w692 ⟨hr694, hwt696, hg695⟩
        have hr694' : w692.ownsRow 0 3 1 v693 ((P.T ++ [y560]).length) ((P.T ++ [y560]).flatMap (intE .i64)) := row_push (y := y560) hr694 rfl rfl; clear hr694
        have hO700 := LkP.gr hO685 hg674 (fun k e => by cases e)
        have ho699 := LkP.ofS hO700
        have ho698 := offR_went hQ.tA ho699 hwt696
        have hO703 := LkP.gr hO687 hg674 (fun k e => by cases e)
        have ho702 := LkP.ofS hO703
        have ho701 := offR_went hQ.tB ho702 hwt696
        have hz704 := hg695.size
        have hB705 := fbU_row hB688 hint hg695
        exact hB705
       rintro v693 w692 a691 ⟨hr694, hwt696, hg695⟩ h691
       have hr694' : w692.ownsRow 0 3 1 v693 ((P.T ++ [y560]).length) ((P.T ++ [y560]).flatMap (intE .i64)) := row_push (y := y560) hr694 rfl rfl; clear hr694
       have hO700 := LkP.gr hO685 hg674 (fun k e => by cases e)
       have ho699 := LkP.ofS hO700
       have ho698 := offR_went hQ.tA ho699 hwt696
       have hO703 := LkP.gr hO687 hg674 (fun k e => by cases e)
       have ho702 := LkP.ofS hO703
       have ho701 := offR_went hQ.tB ho702 hwt696
       have hz704 := hg695.size
       have hB705 := fbU_row hB688 hint hg695
       refine dk0 14 (v := pt b 0) h691 rfl rfl hB705 fun a706 h706 => ?_; clear h691
       refine dk0 15 (v := pt b 5) h706 rfl rfl hB705 fun a707 h707 => ?_; clear h706
       have hk713 := hk689.kept hg695 (own_neT hr697 hk689 (by decide))
       refine d1D 16 h707 rfl rfl (op_store1 rfl rfl rfl (row_one hr694') Try.sizeOf93 hk713 rfl) ?_ ?_; clear h707
       ·
        rintro _ w709 ⟨hk710, hz711, hg712⟩
        have hk710' : Blk w709 b 95 #[pt NA 0, pt NB 0, .int .i64 P.b0, .int .i64 P.b1, wk, v693, .int .i64 P.s0, .int .i64 P.s1, .int .i64 P.t0, .int .i64 P.t1, .bool true] := hk710; clear hk710
        have hz714 := hg712.size
        have hB715 := fbU_at hB705 hg712 (fun hlt => by rcases hSb with hq | hq; exact hq; omega)
        exact hB715
       rintro _ w709 a708 ⟨hk710, hz711, hg712⟩ h708
       have hk710' : Blk w709 b 95 #[pt NA 0, pt NB 0, .int .i64 P.b0, .int .i64 P.b1, wk, v693, .int .i64 P.s0, .int .i64 P.s1, .int .i64 P.t0, .int .i64 P.t1, .bool true] := hk710; clear hk710
       have hz714 := hg712.size
       refine dr_done (by kernel_rfl) ?_
       refine co_blockN ?_
       refine co_ret0n h708 rfl ?_
       have hO715 := LkP.gr hO700 hg695 (fun k e => hQ.tA k e)
       have hO716 := LkP.gr hO715 hg712 (fun k e => by cases e; exact hQ.nA)
       have hO717 := LkP.gr hO703 hg695 (fun k e => hQ.tB k e)
       have hO718 := LkP.gr hO717 hg712 (fun k e => by cases e; exact hQ.nB)
       have hr719 := row_kept_new hr679 hg674
       have hr720 := row_kept_row hr719 hr697 hg695 (by decide)
       have hr721 := row_kept_at hr720 hg712 (own_neT hr720 hk713 (by decide))
       have hr722 := row_kept_at hr694' hg712 (own_neT hr694' hk713 (by decide))
       have hB723 := fbU_at hB705 hg712 (fun hlt => by rcases hSb with hq | hq; exact hq; omega)
       obtain ⟨S9, h1, h2⟩ := PrO.fin (P := (dupP P y9 y560)) (NA := NA) (NB := NB) (wv := wk) (tv := v693) (w := w) hk710' hO716 hO718 hr721 hr722 hQ.ap hQ.nA hQ.nB hi417 hi418 ho698 ho701 hSb hinA hinB hi419 (hint.went hwt696 (by omega)) hB723
       exact ⟨_, S9, rfl, StepR.dup _ _ _ (by omega) hi416 hy560, h1, h2, hB723⟩
end Go.Proofs.Ythmljllgfigebaa
