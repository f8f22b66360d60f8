/- Put together: PrJ, PrK, PrL, PrM. Conditions: as each says. -/
import Derived.Test.YthmljllgfigebaaLo4
/- catenalaw22: step, a case (send). Conditions: none. -/
namespace Go.Proofs.Ythmljllgfigebaa
open Go.RowKit Go.PlainAid
set_option linter.unusedVariables false
set_option linter.unusedSimpArgs false

set_option maxRecDepth 100000 in
set_option maxHeartbeats 6400000 in
theorem step_send0 (S : Nat → Prop) (b : Nat) (P : PrT) (K : Int) (n : Int) (g : Bool) (w : World) (hP : PrO S w b P) (hst : StepH P) (hn : 0 ≤ n ∧ n ≤ 255) (hK : K = 0 ∨ K = 1) (hn2 : n.tmod 2 = 0) :
    Calls Try.prog 49 #[pt b 0, .agg #[.int .i64 K, .int .u8 n, .bool g]] w fun e w' => ∃ (P' : PrT) (S' : Nat → Prop), e = .returned (.tuple #[]) ∧ StepR K P P' ∧ PrO S' w' b P' ∧ Grew S S' w w' ∧ But (S) w w' := by
 have hlW := hst.lW
 have hlT := hst.lT
 obtain ⟨q1, q2⟩ := hst.bt
 obtain ⟨q3, q4⟩ := hst.st
 obtain ⟨i0, hi0⟩ : ∃ i0 : Nat, 0 < P.W.length → n.tmod (P.W.length : Nat) = (i0 : Nat) ∧ i0 < P.W.length := ⟨(n.tmod (P.W.length : Nat)).toNat, fun h => by have e1 := Int.tmod_nonneg (P.W.length : Int) hn.1; have e2 := Int.tmod_lt_of_pos n (show (0 : Int) < (P.W.length : Nat) by omega); omega⟩
 have hB0 := But.refl (S) w
 obtain ⟨NA, NB, SA, SB, wv, tv, hQ⟩ := hP
 have hBk : Blk w b 95 #[pt NA 0, pt NB 0, .int .i64 P.b0, .int .i64 P.b1, wv, tv, .int .i64 P.s0, .int .i64 P.s1, .int .i64 P.t0, .int .i64 P.t1, .bool true] := hQ.blk
 have hl_b := hBk.lt
 have hSb : S b ∨ w.heap.size ≤ b := .inl ((hQ.fp b).2 (.inl rfl))
 have hinA : ∀ q, SA q → S q ∨ w.heap.size ≤ q := fun q h => .inl ((hQ.fp q).2 (.inr (.inl h)))
 have hinB : ∀ q, SB q → S q ∨ w.heap.size ≤ q := fun q h => .inl ((hQ.fp q).2 (.inr (.inr (.inl h))))
 have hinw : InS S w.heap.size wv := InS.of (fun i hi => (hQ.fp i).2 (.inr (.inr (.inr (.inl hi)))))
 have hint : InS S w.heap.size tv := InS.of (fun i hi => (hQ.fp i).2 (.inr (.inr (.inr (.inr hi)))))
 have hW0 := hQ.way
 have hT0 := hQ.to
 refine co_enter (n := 192) Try.func49 rfl rfl rfl [(0, pt b 0), (1, .agg #[.int .i64 K, .int .u8 n, .bool g])] rfl (fun a h0 => ?_)
 refine co_seq ?_
 refine co_reg ?_
 refine pw h0 rfl (op_new (v := fun N => pt N 0) (T := 90) (cs := #[.int .i64 K, .int .u8 n, .bool g]) (by kernel_rfl) (by kernel_rfl) (by kernel_rfl)) ?_; clear h0
 rintro _ w2 a1 ⟨N3, rfl, hN6, hz7, hk5, hg4⟩ h1
 have ha8 := row_fresh hW0 hN6
 have hu9 := row_under hW0 hN6
 have ha10 := row_fresh hT0 hN6
 have hu11 := row_under hT0 hN6
 have hz12 := hg4.size
 have ho13 := off_new (LkP.ofS hQ.hA) hN6
 have ho14 := off_new (LkP.ofS hQ.hB) hN6
 try dsimp only at h1
 refine pl_nil ?_
 refine co_then ?_
 refine co_seq ?_
 refine co_reg ?_
 refine pk0 (v := pt N3 1) h1 rfl fun a15 h15 => ?_; clear h1
 refine pk (v := .int .u8 n) h15 rfl (rn_load1 rfl rfl Try.isAgg5 (hk5.cell rfl)) fun a16 h16 => ?_; clear h15
 refine pk (v := .int .i64 n) h16 rfl (rn_conv rfl rfl Try.underlying5 Try.underlying3 (IntWalk.i64_in _ (by omega))) fun a17 h17 => ?_; clear h16
 refine pk (v := .int .i64 0) h17 rfl (rn_remP rfl rfl rfl (by decide) rfl hn2) fun a18 h18 => ?_; clear h17
 refine pk0 (v := .int .i64 0) h18 rfl fun a19 h19 => ?_; clear h18
 refine pl_nil ?_
 refine co_then ?_
 refine co_seq ?_
 refine co_reg ?_
 refine pk0 (v := .int .i64 0) h19 rfl fun a20 h20 => ?_; clear h19
 refine pl_nil ?_
 refine co_then ?_
 refine co_seq ?_
 refine co_seq ?_
 refine co_reg ?_
 refine pk0 (v := pt b 0) h20 rfl fun a21 h21 => ?_; clear h20
 refine pk0 (v := pt b 0) h21 rfl fun a22 h22 => ?_; clear h21
 refine pk0 (v := pt b 4) h22 rfl fun a23 h23 => ?_; clear h22
 have hk24 := hBk.kept hg4 (by simp)
 refine pk (v := wv) h23 rfl (rn_load1 rfl rfl Try.isAgg67 (hk24.cell rfl)) fun a25 h25 => ?_; clear h23
 have hr26 := row_kept_new hW0 hg4
 refine pk (v := .int .i64 ((P.W.length : Nat) : Int)) h25 rfl (rn_lenOwn rfl rfl Try.underlying67 hr26) fun a27 h27 => ?_; clear h25
 refine pk0 (v := .bool (decide (((P.W.length : Nat) : Int) > 0))) h27 rfl fun a28 h28 => ?_; clear h27
 refine pl_nil ?_
 refine co_then ?_
 have hB30 := fbU_new hB0 hg4
 cases hc29 : (decide (((P.W.length : Nat) : Int) > 0))
 ·
  rw [hc29] at h28
  have hp31 : ¬ (((P.W.length : Nat) : Int) > 0) := of_decide_eq_false hc29
  clear hc29
  refine co_false h28 rfl ?_
  refine wp_skip ?_
  refine co_then ?_
  refine wp_block ?_
  refine co_seq ?_
  refine co_reg ?_
  refine pk0 (v := pt N3 0) h28 rfl fun a32 h32 => ?_; clear h28
  refine pk (v := .int .i64 K) h32 rfl (rn_load1 rfl rfl Try.isAgg3 (hk5.cell rfl)) fun a33 h33 => ?_; clear h32
  refine pk0 (v := .bool (K == 0)) h33 rfl fun a34 h34 => ?_; clear h33
  refine pk0 (v := .bool (K == 0)) h34 rfl fun a35 h35 => ?_; clear h34
  cases hc36 : (K == 0)
  ·
   rw [hc36] at h35
   have hp37 : ¬ (K = 0) := by first | simpa using hc36 | simpa [and_assoc] using hc36
   clear hc36
   refine pk0 (v := pt N3 0) h35 rfl fun a38 h38 => ?_; clear h35
   refine pk (v := .int .i64 K) h38 rfl (rn_load1 rfl rfl Try.isAgg3 (hk5.cell rfl)) fun a39 h39 => ?_; clear h38
   refine pk0 (v := .bool (K == 1)) h39 rfl fun a40 h40 => ?_; clear h39
   refine pk0 (v := .bool (K == 1)) h40 rfl fun a41 h41 => ?_; clear h40
   refine pk0 (v := .bool (K == 1)) h41 rfl fun a42 h42 => ?_; clear h41
   refine pl_nil ?_
   refine co_then ?_
   have hc43 : (K == 1) = true := by first | (simp; done) | (simp; omega) | exact beq_false_of_ne (by omega) | exact beq_iff_eq.2 (by omega)
   rw [hc43] at h42; clear hc43
   refine co_true h42 rfl ?_
   refine co_seq ?_
   refine dr_gen (fun x => But (S) w x ∧ Blk x b 95 #[pt NA 0, pt NB 0, .int .i64 P.b0, .int .i64 P.b1, wv, tv, .int .i64 P.s0, .int .i64 P.s1, .int .i64 P.t0, .int .i64 P.t1, .bool true]) (by kernel_rfl) (fun w44 hg45 => ?_) (fun w44 hg45 => ?_)
   ·
    have hz46 := hg45.size
    have hB47 := fbU_new hB30 hg45
    have hk48 := hk24.kept hg45 (by simp)
    exact ⟨hB47, hk48⟩
   have hz49 := hg45.size
   have hB50 := fbU_new hB30 hg45
   have hk51 := hk24.kept hg45 (by simp)
   refine dk0 0 (v := pt b 0) h42 rfl rfl ⟨hB50, hk51⟩ fun a52 h52 => ?_; clear h42
   refine dk0 1 (v := .int .i64 0) h52 rfl rfl ⟨hB50, hk51⟩ fun a53 h53 => ?_; clear h52
   refine dk0 2 (v := pt b 0) h53 rfl rfl ⟨hB50, hk51⟩ fun a54 h54 => ?_; clear h53
   refine dk0 3 (v := pt b 0) h54 rfl rfl ⟨hB50, hk51⟩ fun a55 h55 => ?_; clear h54
   refine dk0 4 (v := pt b 0) h55 rfl rfl ⟨hB50, hk51⟩ fun a56 h56 => ?_; clear h55
   refine dk 5 (v := pt NA 0) h56 rfl rfl ⟨hB50, hk51⟩ (fun x hx => (rn_load1 rfl rfl Try.isAgg53 (hx.2.cell rfl))) fun a57 h57 => ?_; clear h56
   refine dk0 6 (v := pt b 0) h57 rfl rfl ⟨hB50, hk51⟩ fun a58 h58 => ?_; clear h57
   refine dk0 7 (v := .int .i64 0) h58 rfl rfl ⟨hB50, hk51⟩ fun a59 h59 => ?_; clear h58
   refine dk0 8 (v := pt b 0) h59 rfl rfl ⟨hB50, hk51⟩ fun a60 h60 => ?_; clear h59
   refine dk0 9 (v := pt b 6) h60 rfl rfl ⟨hB50, hk51⟩ fun a61 h61 => ?_; clear h60
   refine dk0 10 (v := pt b 6) h61 rfl rfl ⟨hB50, hk51⟩ fun a62 h62 => ?_; clear h61
   refine dk 11 (v := .int .i64 P.s0) h62 rfl rfl ⟨hB50, hk51⟩ (fun x hx => (rn_load1 rfl rfl Try.isAgg3 (hx.2.cell rfl))) fun a63 h63 => ?_; clear h62
   refine dk 12 (v := .int .i64 (P.s0 + 1)) h63 rfl rfl ⟨hB50, hk51⟩ (fun x hx => (rn_arith rfl rfl rfl rfl rfl rfl (IntWalk.i64_in _ (by omega)))) fun a64 h64 => ?_; clear h63
   have hO67 := LkP.gr hQ.hA hg4 (fun k e => by cases e)
   have hO68 := LkP.gr hO67 hg45 (fun k e => by cases e)
   have hO69 := LkP.gr hQ.hB hg4 (fun k e => by cases e)
   have hO70 := LkP.gr hO69 hg45 (fun k e => by cases e)
   have hr71 := row_kept_new hT0 hg4
   have hr72 := row_kept_new hr71 hg45
   refine d1 13 h64 rfl rfl (op_call (args := #[.int .i64 (P.s0 + 1)]) (R := fun res xw => res = .string (numT (P.s0 + 1)) ∧ Below w44.heap.size w44 xw) rfl rfl rfl (by kernel_rfl) (by kernel_rfl) (Try.call96 _ _) (number_any (P.s0 + 1) w44 (by omega)) (by rintro e x ⟨rfl, h⟩; exact ⟨_, rfl, rfl, h⟩)) ?_ ?_; clear h64
   ·
    rintro _ w66 ⟨rfl, hb73⟩
    have hz74 := hb73.size
    have ho75 := LkP.ofS hO68
    have ho76 := LkP.ofS hO70
    have hB77 := fbU_call hB50 hb73
    have hk78 := hk51.below hb73
    exact ⟨hB77, hk78⟩
   rintro _ w66 a65 ⟨rfl, hb73⟩ h65
   have hz74 := hb73.size
   have ho75 := LkP.ofS hO68
   have ho76 := LkP.ofS hO70
   have hB77 := fbU_call hB50 hb73
   have hk78 := hk51.below hb73
   have hO82 := LkP.gr hO68 (below_grown hb73) (fun k e => by cases e)
   have ho81 := LkP.ofS hO82
   have hO84 := LkP.gr hO70 (below_grown hb73) (fun k e => by cases e)
   have ho83 := LkP.ofS hO84
   have hr85 := row_kept_new hr26 hg45
   have hr86 := row_kept_new hr85 (below_grown hb73)
   have hk87 := hk5.kept hg45 (by simp)
   have hk88 := hk87.below hb73
   refine d1 14 h65 rfl rfl (op_call (args := #[pt NA 0, .string (numT (P.s0 + 1))]) (R := fun res xw => ∃ S' : Nat → Prop, res = .int .i64 ((sendT P.A ((numT (P.s0 + 1)) : ByteArray)).1) ∧ LkP S' xw NA ((sendT P.A ((numT (P.s0 + 1)) : ByteArray)).2) ∧ Grew SA S' w66 xw) rfl rfl rfl (by kernel_rfl) (by kernel_rfl) (Try.call34 _ _) (kSend w66 ((numT (P.s0 + 1)) : ByteArray) hO82) (by rintro e x ⟨S', h0, h⟩; exact ⟨_, h0, S', rfl, h⟩)) ?_ ?_; clear h65
   ·
    rintro _ w80 ⟨S89, rfl, hO90, hx91⟩
    have hr92 := row_kept_new hr72 (below_grown hb73)
    have hB93 := fbU_foot hB77 hx91.but (fun i hi hq => by rcases hinA i hq with k | k; exact k; omega)
    have hz94 := hB93.size
    have hz95 := hx91.but.size
    have hin96 : ∀ q, S89 q → S q ∨ w.heap.size ≤ q := fun q hq => by rcases hx91.sub q hq with k | k; exact hinA q k; exact .inr (by omega)
    have hk97 := Blk.butS hk78 hx91.but hQ.nA
    exact ⟨hB93, hk97⟩
   rintro _ w80 a79 ⟨S89, rfl, hO90, hx91⟩ h79
   have hr92 := row_kept_new hr72 (below_grown hb73)
   have hB93 := fbU_foot hB77 hx91.but (fun i hi hq => by rcases hinA i hq with k | k; exact k; omega)
   have hz94 := hB93.size
   have hz95 := hx91.but.size
   have hin96 : ∀ q, S89 q → S q ∨ w.heap.size ≤ q := fun q hq => by rcases hx91.sub q hq with k | k; exact hinA q k; exact .inr (by omega)
   have hk97 := Blk.butS hk78 hx91.but hQ.nA
   refine dk0 15 (v := .bool ((sendT P.A ((numT (P.s0 + 1)) : ByteArray)).1 == 0)) h79 rfl rfl ⟨hB93, hk97⟩ fun a98 h98 => ?_; clear h79
   refine dr_done (by kernel_rfl) ?_
   refine co_then ?_
   cases hc99 : ((sendT P.A ((numT (P.s0 + 1)) : ByteArray)).1 == 0)
   ·
    rw [hc99] at h98
    have hp100 : ¬ ((sendT P.A ((numT (P.s0 + 1)) : ByteArray)).1 = 0) := by first | simpa using hc99 | simpa [and_assoc] using hc99
    clear hc99
    refine co_false h98 rfl ?_
    refine wp_skip ?_
    refine co_blockN ?_
    refine co_ret0n h98 rfl ?_
    have hO101 := LkP.but hO84 hx91.but (ap_symm hQ.ap)
    have hr102 := own_butS hr86 hx91.but hQ.wA
    have hr103 := own_butS hr92 hx91.but hQ.tA
    obtain ⟨S9, h1, h2⟩ := PrO.fin (P := { P with A := (sendT P.A (numT (P.s0 + 1))).2, s0 := P.s0 }) (NA := NA) (NB := NB) (wv := wv) (tv := tv) (w := w) hk97 hO90 hO101 hr102 hr103 (ap_symm (ap_symm (Grew.ap hx91 (ap_symm (ap_symm hQ.ap)) (LkP.ofS hO84)))) (Grew.off hx91 hQ.nA hk78.lt) hQ.nB (Grew.offR hx91 hr86 hQ.wA) hQ.wB (Grew.offR hx91 hr92 hQ.tA) hQ.tB hSb hin96 hinB hinw hint hB93
    have hEq : sendP P 0 = { P with A := (sendT P.A (numT (P.s0 + 1))).2, s0 := P.s0 } := by unfold sendP; rw [if_pos rfl, if_neg (by omega)]
    exact ⟨sendP P 0, S9, rfl, StepR.send _ (by decide), by rw [hEq]; exact h1, h2, hB93⟩
   ·
    rw [hc99] at h98
    have hp104 : (sendT P.A ((numT (P.s0 + 1)) : ByteArray)).1 = 0 := by first | simpa using hc99 | simpa [and_assoc] using hc99
    clear hc99
    refine co_true h98 rfl ?_
    refine dr_gen (fun x => But (S) w x) (by kernel_rfl) (fun w105 hg106 => ?_) (fun w105 hg106 => ?_)
    ·
     have hz107 := hg106.size
     have hB108 := fbU_new hB93 hg106
     exact hB108
    have hz109 := hg106.size
    have hB110 := fbU_new hB93 hg106
    refine dk0 0 (v := pt b 0) h98 rfl rfl hB110 fun a111 h111 => ?_; clear h98
    refine dk0 1 (v := .int .i64 0) h111 rfl rfl hB110 fun a112 h112 => ?_; clear h111
    refine dk0 2 (v := pt b 0) h112 rfl rfl hB110 fun a113 h113 => ?_; clear h112
    refine dk0 3 (v := pt b 6) h113 rfl rfl hB110 fun a114 h114 => ?_; clear h113
    refine dk0 4 (v := pt b 6) h114 rfl rfl hB110 fun a115 h115 => ?_; clear h114
    refine dk0 7 (v := pt b 0) h115 rfl rfl hB110 fun a116 h116 => ?_; clear h115
    refine dk0 8 (v := pt b 6) h116 rfl rfl hB110 fun a117 h117 => ?_; clear h116
    refine dr_many [5] (by kernel_rfl) (by simp) ⟨?_, trivial⟩
    ·
     have hk118 := hk97.kept hg106 (by simp)
     refine dr_opVal (i := 5) (v := .int .i64 P.s0) h117 rfl rfl rfl rfl (by kernel_rfl) rfl (rn_load1 rfl rfl Try.isAgg3 (hk118.cell rfl)) hB110 (fun a119 h119 => ?_); clear h117
     refine dk 6 (v := .int .i64 (P.s0 + 1)) h119 rfl rfl hB110 (fun x hx => (rn_arith rfl rfl rfl rfl rfl rfl (IntWalk.i64_in _ (by omega)))) fun a120 h120 => ?_; clear h119
     refine dk0 9 (v := pt b 6) h120 rfl rfl hB110 fun a121 h121 => ?_; clear h120
     refine d1D 10 h121 rfl rfl (op_store1 rfl rfl rfl rfl Try.sizeOf3 hk118 rfl) ?_ ?_; clear h121
     ·
      rintro _ w123 ⟨hk124, hz125, hg126⟩
      have hk124' : Blk w123 b 95 #[pt NA 0, pt NB 0, .int .i64 P.b0, .int .i64 P.b1, wv, tv, .int .i64 (P.s0 + 1), .int .i64 P.s1, .int .i64 P.t0, .int .i64 P.t1, .bool true] := hk124; clear hk124
      have hz127 := hg126.size
      have hB128 := fbU_at hB110 hg126 (fun hlt => by rcases hSb with hq | hq; exact hq; omega)
      exact hB128
     rintro _ w123 a122 ⟨hk124, hz125, hg126⟩ h122
     have hk124' : Blk w123 b 95 #[pt NA 0, pt NB 0, .int .i64 P.b0, .int .i64 P.b1, wv, tv, .int .i64 (P.s0 + 1), .int .i64 P.s1, .int .i64 P.t0, .int .i64 P.t1, .bool true] := hk124; clear hk124
     have hz127 := hg126.size
     refine dr_done (by kernel_rfl) ?_
     refine co_blockN ?_
     refine co_ret0n h122 rfl ?_
     have hO128 := LkP.gr hO90 hg106 (fun k e => by cases e)
     have hO129 := LkP.gr hO128 hg126 (fun k e => by cases e; exact (Grew.off hx91 hQ.nA hk78.lt))
     have hO130 := LkP.but hO84 hx91.but (ap_symm hQ.ap)
     have hO131 := LkP.gr hO130 hg106 (fun k e => by cases e)
     have hO132 := LkP.gr hO131 hg126 (fun k e => by cases e; exact hQ.nB)
     have hr133 := own_butS hr86 hx91.but hQ.wA
     have hr134 := row_kept_new hr133 hg106
     have hr135 := row_kept_at hr134 hg126 (own_neT hr134 hk118 (by decide))
     have hr136 := own_butS hr92 hx91.but hQ.tA
     have hr137 := row_kept_new hr136 hg106
     have hr138 := row_kept_at hr137 hg126 (own_neT hr137 hk118 (by decide))
     have hB139 := fbU_at hB110 hg126 (fun hlt => by rcases hSb with hq | hq; exact hq; omega)
     obtain ⟨S9, h1, h2⟩ := PrO.fin (P := { P with A := (sendT P.A (numT (P.s0 + 1))).2, s0 := P.s0 + 1 }) (NA := NA) (NB := NB) (wv := wv) (tv := tv) (w := w) hk124' hO129 hO132 hr135 hr138 (ap_symm (ap_symm (Grew.ap hx91 (ap_symm (ap_symm hQ.ap)) (LkP.ofS hO84)))) (Grew.off hx91 hQ.nA hk78.lt) hQ.nB (Grew.offR hx91 hr86 hQ.wA) hQ.wB (Grew.offR hx91 hr92 hQ.tA) hQ.tB hSb hin96 hinB hinw hint hB139
     have hEq : sendP P 0 = { P with A := (sendT P.A (numT (P.s0 + 1))).2, s0 := P.s0 + 1 } := by unfold sendP; rw [if_pos rfl, if_pos (by omega)]
     exact ⟨sendP P 0, S9, rfl, StepR.send _ (by decide), by rw [hEq]; exact h1, h2, hB139⟩
  ·
   rw [hc36] at h35
   have hp140 : K = 0 := by first | simpa using hc36 | simpa [and_assoc] using hc36
   clear hc36
   refine psk h35 rfl fun a141 h141 => ?_; clear h35
   refine psk h141 rfl fun a142 h142 => ?_; clear h141
   refine psk h142 rfl fun a143 h143 => ?_; clear h142
   refine pk0 (v := .bool true) h143 rfl fun a144 h144 => ?_; clear h143
   refine pk0 (v := .bool true) h144 rfl fun a145 h145 => ?_; clear h144
   refine pl_nil ?_
   refine co_then ?_
   refine co_true h145 rfl ?_
   refine co_seq ?_
   refine dr_gen (fun x => But (S) w x ∧ Blk x b 95 #[pt NA 0, pt NB 0, .int .i64 P.b0, .int .i64 P.b1, wv, tv, .int .i64 P.s0, .int .i64 P.s1, .int .i64 P.t0, .int .i64 P.t1, .bool true]) (by kernel_rfl) (fun w146 hg147 => ?_) (fun w146 hg147 => ?_)
   ·
    have hz148 := hg147.size
    have hB149 := fbU_new hB30 hg147
    have hk150 := hk24.kept hg147 (by simp)
    exact ⟨hB149, hk150⟩
   have hz151 := hg147.size
   have hB152 := fbU_new hB30 hg147
   have hk153 := hk24.kept hg147 (by simp)
   refine dk0 0 (v := pt b 0) h145 rfl rfl ⟨hB152, hk153⟩ fun a154 h154 => ?_; clear h145
   refine dk0 1 (v := .int .i64 0) h154 rfl rfl ⟨hB152, hk153⟩ fun a155 h155 => ?_; clear h154
   refine dk0 2 (v := pt b 0) h155 rfl rfl ⟨hB152, hk153⟩ fun a156 h156 => ?_; clear h155
   refine dk0 3 (v := pt b 0) h156 rfl rfl ⟨hB152, hk153⟩ fun a157 h157 => ?_; clear h156
   refine dk0 4 (v := pt b 0) h157 rfl rfl ⟨hB152, hk153⟩ fun a158 h158 => ?_; clear h157
   refine dk 5 (v := pt NA 0) h158 rfl rfl ⟨hB152, hk153⟩ (fun x hx => (rn_load1 rfl rfl Try.isAgg53 (hx.2.cell rfl))) fun a159 h159 => ?_; clear h158
   refine dk0 6 (v := pt b 0) h159 rfl rfl ⟨hB152, hk153⟩ fun a160 h160 => ?_; clear h159
   refine dk0 7 (v := .int .i64 0) h160 rfl rfl ⟨hB152, hk153⟩ fun a161 h161 => ?_; clear h160
   refine dk0 8 (v := pt b 0) h161 rfl rfl ⟨hB152, hk153⟩ fun a162 h162 => ?_; clear h161
   refine dk0 9 (v := pt b 6) h162 rfl rfl ⟨hB152, hk153⟩ fun a163 h163 => ?_; clear h162
   refine dk0 10 (v := pt b 6) h163 rfl rfl ⟨hB152, hk153⟩ fun a164 h164 => ?_; clear h163
   refine dk 11 (v := .int .i64 P.s0) h164 rfl rfl ⟨hB152, hk153⟩ (fun x hx => (rn_load1 rfl rfl Try.isAgg3 (hx.2.cell rfl))) fun a165 h165 => ?_; clear h164
   refine dk 12 (v := .int .i64 (P.s0 + 1)) h165 rfl rfl ⟨hB152, hk153⟩ (fun x hx => (rn_arith rfl rfl rfl rfl rfl rfl (IntWalk.i64_in _ (by omega)))) fun a166 h166 => ?_; clear h165
   have hO169 := LkP.gr hQ.hA hg4 (fun k e => by cases e)
   have hO170 := LkP.gr hO169 hg147 (fun k e => by cases e)
   have hO171 := LkP.gr hQ.hB hg4 (fun k e => by cases e)
   have hO172 := LkP.gr hO171 hg147 (fun k e => by cases e)
   have hr173 := row_kept_new hT0 hg4
   have hr174 := row_kept_new hr173 hg147
   refine d1 13 h166 rfl rfl (op_call (args := #[.int .i64 (P.s0 + 1)]) (R := fun res xw => res = .string (numT (P.s0 + 1)) ∧ Below w146.heap.size w146 xw) rfl rfl rfl (by kernel_rfl) (by kernel_rfl) (Try.call96 _ _) (number_any (P.s0 + 1) w146 (by omega)) (by rintro e x ⟨rfl, h⟩; exact ⟨_, rfl, rfl, h⟩)) ?_ ?_; clear h166
   ·
    rintro _ w168 ⟨rfl, hb175⟩
    have hz176 := hb175.size
    have ho177 := LkP.ofS hO170
    have ho178 := LkP.ofS hO172
    have hB179 := fbU_call hB152 hb175
    have hk180 := hk153.below hb175
    exact ⟨hB179, hk180⟩
   rintro _ w168 a167 ⟨rfl, hb175⟩ h167
   have hz176 := hb175.size
   have ho177 := LkP.ofS hO170
   have ho178 := LkP.ofS hO172
   have hB179 := fbU_call hB152 hb175
   have hk180 := hk153.below hb175
   have hO184 := LkP.gr hO170 (below_grown hb175) (fun k e => by cases e)
   have ho183 := LkP.ofS hO184
   have hO186 := LkP.gr hO172 (below_grown hb175) (fun k e => by cases e)
   have ho185 := LkP.ofS hO186
   have hr187 := row_kept_new hr26 hg147
   have hr188 := row_kept_new hr187 (below_grown hb175)
   have hk189 := hk5.kept hg147 (by simp)
   have hk190 := hk189.below hb175
   refine d1 14 h167 rfl rfl (op_call (args := #[pt NA 0, .string (numT (P.s0 + 1))]) (R := fun res xw => ∃ S' : Nat → Prop, res = .int .i64 ((sendT P.A ((numT (P.s0 + 1)) : ByteArray)).1) ∧ LkP S' xw NA ((sendT P.A ((numT (P.s0 + 1)) : ByteArray)).2) ∧ Grew SA S' w168 xw) rfl rfl rfl (by kernel_rfl) (by kernel_rfl) (Try.call34 _ _) (kSend w168 ((numT (P.s0 + 1)) : ByteArray) hO184) (by rintro e x ⟨S', h0, h⟩; exact ⟨_, h0, S', rfl, h⟩)) ?_ ?_; clear h167
   ·
    rintro _ w182 ⟨S191, rfl, hO192, hx193⟩
    have hr194 := row_kept_new hr174 (below_grown hb175)
    have hB195 := fbU_foot hB179 hx193.but (fun i hi hq => by rcases hinA i hq with k | k; exact k; omega)
    have hz196 := hB195.size
    have hz197 := hx193.but.size
    have hin198 : ∀ q, S191 q → S q ∨ w.heap.size ≤ q := fun q hq => by rcases hx193.sub q hq with k | k; exact hinA q k; exact .inr (by omega)
    have hk199 := Blk.butS hk180 hx193.but hQ.nA
    exact ⟨hB195, hk199⟩
   rintro _ w182 a181 ⟨S191, rfl, hO192, hx193⟩ h181
   have hr194 := row_kept_new hr174 (below_grown hb175)
   have hB195 := fbU_foot hB179 hx193.but (fun i hi hq => by rcases hinA i hq with k | k; exact k; omega)
   have hz196 := hB195.size
   have hz197 := hx193.but.size
   have hin198 : ∀ q, S191 q → S q ∨ w.heap.size ≤ q := fun q hq => by rcases hx193.sub q hq with k | k; exact hinA q k; exact .inr (by omega)
   have hk199 := Blk.butS hk180 hx193.but hQ.nA
   refine dk0 15 (v := .bool ((sendT P.A ((numT (P.s0 + 1)) : ByteArray)).1 == 0)) h181 rfl rfl ⟨hB195, hk199⟩ fun a200 h200 => ?_; clear h181
   refine dr_done (by kernel_rfl) ?_
   refine co_then ?_
   cases hc201 : ((sendT P.A ((numT (P.s0 + 1)) : ByteArray)).1 == 0)
   ·
    rw [hc201] at h200
    have hp202 : ¬ ((sendT P.A ((numT (P.s0 + 1)) : ByteArray)).1 = 0) := by first | simpa using hc201 | simpa [and_assoc] using hc201
    clear hc201
    refine co_false h200 rfl ?_
    refine wp_skip ?_
    refine co_blockN ?_
    refine co_ret0n h200 rfl ?_
    have hO203 := LkP.but hO186 hx193.but (ap_symm hQ.ap)
    have hr204 := own_butS hr188 hx193.but hQ.wA
    have hr205 := own_butS hr194 hx193.but hQ.tA
    obtain ⟨S9, h1, h2⟩ := PrO.fin (P := { P with A := (sendT P.A (numT (P.s0 + 1))).2, s0 := P.s0 }) (NA := NA) (NB := NB) (wv := wv) (tv := tv) (w := w) hk199 hO192 hO203 hr204 hr205 (ap_symm (ap_symm (Grew.ap hx193 (ap_symm (ap_symm hQ.ap)) (LkP.ofS hO186)))) (Grew.off hx193 hQ.nA hk180.lt) hQ.nB (Grew.offR hx193 hr188 hQ.wA) hQ.wB (Grew.offR hx193 hr194 hQ.tA) hQ.tB hSb hin198 hinB hinw hint hB195
    have hEq : sendP P 0 = { P with A := (sendT P.A (numT (P.s0 + 1))).2, s0 := P.s0 } := by unfold sendP; rw [if_pos rfl, if_neg (by omega)]
    exact ⟨sendP P 0, S9, rfl, StepR.send _ (by decide), by rw [hEq]; exact h1, h2, hB195⟩
   ·
    rw [hc201] at h200
    have hp206 : (sendT P.A ((numT (P.s0 + 1)) : ByteArray)).1 = 0 := by first | simpa using hc201 | simpa [and_assoc] using hc201
    clear hc201
    refine co_true h200 rfl ?_
    refine dr_gen (fun x => But (S) w x) (by kernel_rfl) (fun w207 hg208 => ?_) (fun w207 hg208 => ?_)
    ·
     have hz209 := hg208.size
     have hB210 := fbU_new hB195 hg208
     exact hB210
    have hz211 := hg208.size
    have hB212 := fbU_new hB195 hg208
    refine dk0 0 (v := pt b 0) h200 rfl rfl hB212 fun a213 h213 => ?_; clear h200
    refine dk0 1 (v := .int .i64 0) h213 rfl rfl hB212 fun a214 h214 => ?_; clear h213
    refine dk0 2 (v := pt b 0) h214 rfl rfl hB212 fun a215 h215 => ?_; clear h214
    refine dk0 3 (v := pt b 6) h215 rfl rfl hB212 fun a216 h216 => ?_; clear h215
    refine dk0 4 (v := pt b 6) h216 rfl rfl hB212 fun a217 h217 => ?_; clear h216
    refine dk0 7 (v := pt b 0) h217 rfl rfl hB212 fun a218 h218 => ?_; clear h217
    refine dk0 8 (v := pt b 6) h218 rfl rfl hB212 fun a219 h219 => ?_; clear h218
    refine dr_many [5] (by kernel_rfl) (by simp) ⟨?_, trivial⟩
    ·
     have hk220 := hk199.kept hg208 (by simp)
     refine dr_opVal (i := 5) (v := .int .i64 P.s0) h219 rfl rfl rfl rfl (by kernel_rfl) rfl (rn_load1 rfl rfl Try.isAgg3 (hk220.cell rfl)) hB212 (fun a221 h221 => ?_); clear h219
     refine dk 6 (v := .int .i64 (P.s0 + 1)) h221 rfl rfl hB212 (fun x hx => (rn_arith rfl rfl rfl rfl rfl rfl (IntWalk.i64_in _ (by omega)))) fun a222 h222 => ?_; clear h221
     refine dk0 9 (v := pt b 6) h222 rfl rfl hB212 fun a223 h223 => ?_; clear h222
     refine d1D 10 h223 rfl rfl (op_store1 rfl rfl rfl rfl Try.sizeOf3 hk220 rfl) ?_ ?_; clear h223
     ·
      rintro _ w225 ⟨hk226, hz227, hg228⟩
      have hk226' : Blk w225 b 95 #[pt NA 0, pt NB 0, .int .i64 P.b0, .int .i64 P.b1, wv, tv, .int .i64 (P.s0 + 1), .int .i64 P.s1, .int .i64 P.t0, .int .i64 P.t1, .bool true] := hk226; clear hk226
      have hz229 := hg228.size
      have hB230 := fbU_at hB212 hg228 (fun hlt => by rcases hSb with hq | hq; exact hq; omega)
      exact hB230
     rintro _ w225 a224 ⟨hk226, hz227, hg228⟩ h224
     have hk226' : Blk w225 b 95 #[pt NA 0, pt NB 0, .int .i64 P.b0, .int .i64 P.b1, wv, tv, .int .i64 (P.s0 + 1), .int .i64 P.s1, .int .i64 P.t0, .int .i64 P.t1, .bool true] := hk226; clear hk226
     have hz229 := hg228.size
     refine dr_done (by kernel_rfl) ?_
     refine co_blockN ?_
     refine co_ret0n h224 rfl ?_
     have hO230 := LkP.gr hO192 hg208 (fun k e => by cases e)
     have hO231 := LkP.gr hO230 hg228 (fun k e => by cases e; exact (Grew.off hx193 hQ.nA hk180.lt))
     have hO232 := LkP.but hO186 hx193.but (ap_symm hQ.ap)
     have hO233 := LkP.gr hO232 hg208 (fun k e => by cases e)
     have hO234 := LkP.gr hO233 hg228 (fun k e => by cases e; exact hQ.nB)
     have hr235 := own_butS hr188 hx193.but hQ.wA
     have hr236 := row_kept_new hr235 hg208
     have hr237 := row_kept_at hr236 hg228 (own_neT hr236 hk220 (by decide))
     have hr238 := own_butS hr194 hx193.but hQ.tA
     have hr239 := row_kept_new hr238 hg208
     have hr240 := row_kept_at hr239 hg228 (own_neT hr239 hk220 (by decide))
     have hB241 := fbU_at hB212 hg228 (fun hlt => by rcases hSb with hq | hq; exact hq; omega)
     obtain ⟨S9, h1, h2⟩ := PrO.fin (P := { P with A := (sendT P.A (numT (P.s0 + 1))).2, s0 := P.s0 + 1 }) (NA := NA) (NB := NB) (wv := wv) (tv := tv) (w := w) hk226' hO231 hO234 hr237 hr240 (ap_symm (ap_symm (Grew.ap hx193 (ap_symm (ap_symm hQ.ap)) (LkP.ofS hO186)))) (Grew.off hx193 hQ.nA hk180.lt) hQ.nB (Grew.offR hx193 hr188 hQ.wA) hQ.wB (Grew.offR hx193 hr194 hQ.tA) hQ.tB hSb hin198 hinB hinw hint hB241
     have hEq : sendP P 0 = { P with A := (sendT P.A (numT (P.s0 + 1))).2, s0 := P.s0 + 1 } := by unfold sendP; rw [if_pos rfl, if_pos (by omega)]
     exact ⟨sendP P 0, S9, rfl, StepR.send _ (by decide), by rw [hEq]; exact h1, h2, hB241⟩
 ·
  rw [hc29] at h28
  have hp242 : ((P.W.length : Nat) : Int) > 0 := of_decide_eq_true hc29
  clear hc29
  refine co_true h28 rfl ?_
  refine dr_eq (by kernel_rfl) (fun w243 hg244 => ?_)
  have hz245 := hg244.size
  refine dk0 0 (v := pt N3 1) h28 rfl rfl rfl fun a246 h246 => ?_; clear h28
  have hk247 := hk5.kept hg244 (by simp)
  refine dk 1 (v := .int .u8 n) h246 rfl rfl rfl (fun x hx => by subst hx; exact (rn_load1 rfl rfl Try.isAgg5 (hk247.cell rfl))) fun a248 h248 => ?_; clear h246
  refine dk 2 (v := .int .i64 n) h248 rfl rfl rfl (fun x hx => by subst hx; exact (rn_conv rfl rfl Try.underlying5 Try.underlying3 (IntWalk.i64_in _ (by omega)))) fun a249 h249 => ?_; clear h248
  refine dk0 3 (v := pt b 0) h249 rfl rfl rfl fun a250 h250 => ?_; clear h249
  refine dk0 4 (v := pt b 0) h250 rfl rfl rfl fun a251 h251 => ?_; clear h250
  refine dk0 5 (v := pt b 4) h251 rfl rfl rfl fun a252 h252 => ?_; clear h251
  have hk253 := hk24.kept hg244 (by simp)
  refine dk 6 (v := wv) h252 rfl rfl rfl (fun x hx => by subst hx; exact (rn_load1 rfl rfl Try.isAgg67 (hk253.cell rfl))) fun a254 h254 => ?_; clear h252
  have hr255 := row_kept_new hr26 hg244
  refine dk 7 (v := .int .i64 ((P.W.length : Nat) : Int)) h254 rfl rfl rfl (fun x hx => by subst hx; exact (rn_lenOwn rfl rfl Try.underlying67 hr255)) fun a256 h256 => ?_; clear h254
  have hi1 := (hi0 (by omega)).2
  refine dk 8 (v := .int .i64 ((i0 : Nat) : Int)) h256 rfl rfl rfl (fun x hx => by subst hx; exact (rn_remP rfl rfl rfl (by omega) rfl (hi0 (by omega)).1)) fun a257 h257 => ?_; clear h256
  refine dk0 9 (v := .int .i64 ((i0 : Nat) : Int)) h257 rfl rfl rfl fun a258 h258 => ?_; clear h257
  refine dr_done (by kernel_rfl) ?_
  refine co_then ?_
  refine wp_block ?_
  refine co_seq ?_
  refine co_reg ?_
  refine pk0 (v := pt N3 0) h258 rfl fun a259 h259 => ?_; clear h258
  refine pk (v := .int .i64 K) h259 rfl (rn_load1 rfl rfl Try.isAgg3 (hk247.cell rfl)) fun a260 h260 => ?_; clear h259
  refine pk0 (v := .bool (K == 0)) h260 rfl fun a261 h261 => ?_; clear h260
  refine pk0 (v := .bool (K == 0)) h261 rfl fun a262 h262 => ?_; clear h261
  have hB264 := fbU_new hB30 hg244
  have hO265 := LkP.gr hQ.hA hg4 (fun k e => by cases e)
  have hO266 := LkP.gr hO265 hg244 (fun k e => by cases e)
  have hO267 := LkP.gr hQ.hB hg4 (fun k e => by cases e)
  have hO268 := LkP.gr hO267 hg244 (fun k e => by cases e)
  have hr269 := row_kept_new hT0 hg4
  have hr270 := row_kept_new hr269 hg244
  cases hc263 : (K == 0)
  ·
   rw [hc263] at h262
   have hp271 : ¬ (K = 0) := by first | simpa using hc263 | simpa [and_assoc] using hc263
   clear hc263
   refine pk0 (v := pt N3 0) h262 rfl fun a272 h272 => ?_; clear h262
   refine pk (v := .int .i64 K) h272 rfl (rn_load1 rfl rfl Try.isAgg3 (hk247.cell rfl)) fun a273 h273 => ?_; clear h272
   refine pk0 (v := .bool (K == 1)) h273 rfl fun a274 h274 => ?_; clear h273
   refine pk0 (v := .bool (K == 1)) h274 rfl fun a275 h275 => ?_; clear h274
   refine pk0 (v := .bool (K == 1)) h275 rfl fun a276 h276 => ?_; clear h275
   refine pl_nil ?_
   refine co_then ?_
   have hc277 : (K == 1) = true := by first | (simp; done) | (simp; omega) | exact beq_false_of_ne (by omega) | exact beq_iff_eq.2 (by omega)
   rw [hc277] at h276; clear hc277
   refine co_true h276 rfl ?_
   refine co_seq ?_
   refine dr_gen (fun x => But (S) w x ∧ Blk x b 95 #[pt NA 0, pt NB 0, .int .i64 P.b0, .int .i64 P.b1, wv, tv, .int .i64 P.s0, .int .i64 P.s1, .int .i64 P.t0, .int .i64 P.t1, .bool true]) (by kernel_rfl) (fun w278 hg279 => ?_) (fun w278 hg279 => ?_)
   ·
    have hz280 := hg279.size
    have hB281 := fbU_new hB264 hg279
    have hk282 := hk253.kept hg279 (by simp)
    exact ⟨hB281, hk282⟩
   have hz283 := hg279.size
   have hB284 := fbU_new hB264 hg279
   have hk285 := hk253.kept hg279 (by simp)
   refine dk0 0 (v := pt b 0) h276 rfl rfl ⟨hB284, hk285⟩ fun a286 h286 => ?_; clear h276
   refine dk0 1 (v := .int .i64 0) h286 rfl rfl ⟨hB284, hk285⟩ fun a287 h287 => ?_; clear h286
   refine dk0 2 (v := pt b 0) h287 rfl rfl ⟨hB284, hk285⟩ fun a288 h288 => ?_; clear h287
   refine dk0 3 (v := pt b 0) h288 rfl rfl ⟨hB284, hk285⟩ fun a289 h289 => ?_; clear h288
   refine dk0 4 (v := pt b 0) h289 rfl rfl ⟨hB284, hk285⟩ fun a290 h290 => ?_; clear h289
   refine dk 5 (v := pt NA 0) h290 rfl rfl ⟨hB284, hk285⟩ (fun x hx => (rn_load1 rfl rfl Try.isAgg53 (hx.2.cell rfl))) fun a291 h291 => ?_; clear h290
   refine dk0 6 (v := pt b 0) h291 rfl rfl ⟨hB284, hk285⟩ fun a292 h292 => ?_; clear h291
   refine dk0 7 (v := .int .i64 0) h292 rfl rfl ⟨hB284, hk285⟩ fun a293 h293 => ?_; clear h292
   refine dk0 8 (v := pt b 0) h293 rfl rfl ⟨hB284, hk285⟩ fun a294 h294 => ?_; clear h293
   refine dk0 9 (v := pt b 6) h294 rfl rfl ⟨hB284, hk285⟩ fun a295 h295 => ?_; clear h294
   refine dk0 10 (v := pt b 6) h295 rfl rfl ⟨hB284, hk285⟩ fun a296 h296 => ?_; clear h295
   refine dk 11 (v := .int .i64 P.s0) h296 rfl rfl ⟨hB284, hk285⟩ (fun x hx => (rn_load1 rfl rfl Try.isAgg3 (hx.2.cell rfl))) fun a297 h297 => ?_; clear h296
   refine dk 12 (v := .int .i64 (P.s0 + 1)) h297 rfl rfl ⟨hB284, hk285⟩ (fun x hx => (rn_arith rfl rfl rfl rfl rfl rfl (IntWalk.i64_in _ (by omega)))) fun a298 h298 => ?_; clear h297
   refine d1 13 h298 rfl rfl (op_call (args := #[.int .i64 (P.s0 + 1)]) (R := fun res xw => res = .string (numT (P.s0 + 1)) ∧ Below w278.heap.size w278 xw) rfl rfl rfl (by kernel_rfl) (by kernel_rfl) (Try.call96 _ _) (number_any (P.s0 + 1) w278 (by omega)) (by rintro e x ⟨rfl, h⟩; exact ⟨_, rfl, rfl, h⟩)) ?_ ?_; clear h298
   ·
    rintro _ w300 ⟨rfl, hb301⟩
    have hz302 := hb301.size
    have hO304 := LkP.gr hO266 hg279 (fun k e => by cases e)
    have ho303 := LkP.ofS hO304
    have hO306 := LkP.gr hO268 hg279 (fun k e => by cases e)
    have ho305 := LkP.ofS hO306
    have hB307 := fbU_call hB284 hb301
    have hk308 := hk285.below hb301
    exact ⟨hB307, hk308⟩
   rintro _ w300 a299 ⟨rfl, hb301⟩ h299
   have hz302 := hb301.size
   have hO304 := LkP.gr hO266 hg279 (fun k e => by cases e)
   have ho303 := LkP.ofS hO304
   have hO306 := LkP.gr hO268 hg279 (fun k e => by cases e)
   have ho305 := LkP.ofS hO306
   have hB307 := fbU_call hB284 hb301
   have hk308 := hk285.below hb301
   have hO312 := LkP.gr hO304 (below_grown hb301) (fun k e => by cases e)
   have ho311 := LkP.ofS hO312
   have hO314 := LkP.gr hO306 (below_grown hb301) (fun k e => by cases e)
   have ho313 := LkP.ofS hO314
   have hr315 := row_kept_new hr255 hg279
   have hr316 := row_kept_new hr315 (below_grown hb301)
   have hr317 := row_kept_new hr270 hg279
   have hr318 := row_kept_new hr317 (below_grown hb301)
   have hk319 := hk247.kept hg279 (by simp)
   have hk320 := hk319.below hb301
   refine d1 14 h299 rfl rfl (op_call (args := #[pt NA 0, .string (numT (P.s0 + 1))]) (R := fun res xw => ∃ S' : Nat → Prop, res = .int .i64 ((sendT P.A ((numT (P.s0 + 1)) : ByteArray)).1) ∧ LkP S' xw NA ((sendT P.A ((numT (P.s0 + 1)) : ByteArray)).2) ∧ Grew SA S' w300 xw) rfl rfl rfl (by kernel_rfl) (by kernel_rfl) (Try.call34 _ _) (kSend w300 ((numT (P.s0 + 1)) : ByteArray) hO312) (by rintro e x ⟨S', h0, h⟩; exact ⟨_, h0, S', rfl, h⟩)) ?_ ?_; clear h299
   ·
    rintro _ w310 ⟨S321, rfl, hO322, hx323⟩
    have hB324 := fbU_foot hB307 hx323.but (fun i hi hq => by rcases hinA i hq with k | k; exact k; omega)
    have hz325 := hB324.size
    have hz326 := hx323.but.size
    have hin327 : ∀ q, S321 q → S q ∨ w.heap.size ≤ q := fun q hq => by rcases hx323.sub q hq with k | k; exact hinA q k; exact .inr (by omega)
    have hk328 := Blk.butS hk308 hx323.but hQ.nA
    exact ⟨hB324, hk328⟩
   rintro _ w310 a309 ⟨S321, rfl, hO322, hx323⟩ h309
   have hB324 := fbU_foot hB307 hx323.but (fun i hi hq => by rcases hinA i hq with k | k; exact k; omega)
   have hz325 := hB324.size
   have hz326 := hx323.but.size
   have hin327 : ∀ q, S321 q → S q ∨ w.heap.size ≤ q := fun q hq => by rcases hx323.sub q hq with k | k; exact hinA q k; exact .inr (by omega)
   have hk328 := Blk.butS hk308 hx323.but hQ.nA
   refine dk0 15 (v := .bool ((sendT P.A ((numT (P.s0 + 1)) : ByteArray)).1 == 0)) h309 rfl rfl ⟨hB324, hk328⟩ fun a329 h329 => ?_; clear h309
   refine dr_done (by kernel_rfl) ?_
   refine co_then ?_
   cases hc330 : ((sendT P.A ((numT (P.s0 + 1)) : ByteArray)).1 == 0)
   ·
    rw [hc330] at h329
    have hp331 : ¬ ((sendT P.A ((numT (P.s0 + 1)) : ByteArray)).1 = 0) := by first | simpa using hc330 | simpa [and_assoc] using hc330
    clear hc330
    refine co_false h329 rfl ?_
    refine wp_skip ?_
    refine co_blockN ?_
    refine co_ret0n h329 rfl ?_
    have hO332 := LkP.but hO314 hx323.but (ap_symm hQ.ap)
    have hr333 := own_butS hr316 hx323.but hQ.wA
    have hr334 := own_butS hr318 hx323.but hQ.tA
    obtain ⟨S9, h1, h2⟩ := PrO.fin (P := { P with A := (sendT P.A (numT (P.s0 + 1))).2, s0 := P.s0 }) (NA := NA) (NB := NB) (wv := wv) (tv := tv) (w := w) hk328 hO322 hO332 hr333 hr334 (ap_symm (ap_symm (Grew.ap hx323 (ap_symm (ap_symm hQ.ap)) (LkP.ofS hO314)))) (Grew.off hx323 hQ.nA hk308.lt) hQ.nB (Grew.offR hx323 hr316 hQ.wA) hQ.wB (Grew.offR hx323 hr318 hQ.tA) hQ.tB hSb hin327 hinB hinw hint hB324
    have hEq : sendP P 0 = { P with A := (sendT P.A (numT (P.s0 + 1))).2, s0 := P.s0 } := by unfold sendP; rw [if_pos rfl, if_neg (by omega)]
    exact ⟨sendP P 0, S9, rfl, StepR.send _ (by decide), by rw [hEq]; exact h1, h2, hB324⟩
   ·
    rw [hc330] at h329
    have hp335 : (sendT P.A ((numT (P.s0 + 1)) : ByteArray)).1 = 0 := by first | simpa using hc330 | simpa [and_assoc] using hc330
    clear hc330
    refine co_true h329 rfl ?_
    refine dr_gen (fun x => But (S) w x) (by kernel_rfl) (fun w336 hg337 => ?_) (fun w336 hg337 => ?_)
    ·
     have hz338 := hg337.size
     have hB339 := fbU_new hB324 hg337
     exact hB339
    have hz340 := hg337.size
    have hB341 := fbU_new hB324 hg337
    refine dk0 0 (v := pt b 0) h329 rfl rfl hB341 fun a342 h342 => ?_; clear h329
    refine dk0 1 (v := .int .i64 0) h342 rfl rfl hB341 fun a343 h343 => ?_; clear h342
    refine dk0 2 (v := pt b 0) h343 rfl rfl hB341 fun a344 h344 => ?_; clear h343
    refine dk0 3 (v := pt b 6) h344 rfl rfl hB341 fun a345 h345 => ?_; clear h344
    refine dk0 4 (v := pt b 6) h345 rfl rfl hB341 fun a346 h346 => ?_; clear h345
    refine dk0 7 (v := pt b 0) h346 rfl rfl hB341 fun a347 h347 => ?_; clear h346
    refine dk0 8 (v := pt b 6) h347 rfl rfl hB341 fun a348 h348 => ?_; clear h347
    refine dr_many [5] (by kernel_rfl) (by simp) ⟨?_, trivial⟩
    ·
     have hk349 := hk328.kept hg337 (by simp)
     refine dr_opVal (i := 5) (v := .int .i64 P.s0) h348 rfl rfl rfl rfl (by kernel_rfl) rfl (rn_load1 rfl rfl Try.isAgg3 (hk349.cell rfl)) hB341 (fun a350 h350 => ?_); clear h348
     refine dk 6 (v := .int .i64 (P.s0 + 1)) h350 rfl rfl hB341 (fun x hx => (rn_arith rfl rfl rfl rfl rfl rfl (IntWalk.i64_in _ (by omega)))) fun a351 h351 => ?_; clear h350
     refine dk0 9 (v := pt b 6) h351 rfl rfl hB341 fun a352 h352 => ?_; clear h351
     refine d1D 10 h352 rfl rfl (op_store1 rfl rfl rfl rfl Try.sizeOf3 hk349 rfl) ?_ ?_; clear h352
     ·
      rintro _ w354 ⟨hk355, hz356, hg357⟩
      have hk355' : Blk w354 b 95 #[pt NA 0, pt NB 0, .int .i64 P.b0, .int .i64 P.b1, wv, tv, .int .i64 (P.s0 + 1), .int .i64 P.s1, .int .i64 P.t0, .int .i64 P.t1, .bool true] := hk355; clear hk355
      have hz358 := hg357.size
      have hB359 := fbU_at hB341 hg357 (fun hlt => by rcases hSb with hq | hq; exact hq; omega)
      exact hB359
     rintro _ w354 a353 ⟨hk355, hz356, hg357⟩ h353
     have hk355' : Blk w354 b 95 #[pt NA 0, pt NB 0, .int .i64 P.b0, .int .i64 P.b1, wv, tv, .int .i64 (P.s0 + 1), .int .i64 P.s1, .int .i64 P.t0, .int .i64 P.t1, .bool true] := hk355; clear hk355
     have hz358 := hg357.size
     refine dr_done (by kernel_rfl) ?_
     refine co_blockN ?_
     refine co_ret0n h353 rfl ?_
     have hO359 := LkP.gr hO322 hg337 (fun k e => by cases e)
     have hO360 := LkP.gr hO359 hg357 (fun k e => by cases e; exact (Grew.off hx323 hQ.nA hk308.lt))
     have hO361 := LkP.but hO314 hx323.but (ap_symm hQ.ap)
     have hO362 := LkP.gr hO361 hg337 (fun k e => by cases e)
     have hO363 := LkP.gr hO362 hg357 (fun k e => by cases e; exact hQ.nB)
     have hr364 := own_butS hr316 hx323.but hQ.wA
     have hr365 := row_kept_new hr364 hg337
     have hr366 := row_kept_at hr365 hg357 (own_neT hr365 hk349 (by decide))
     have hr367 := own_butS hr318 hx323.but hQ.tA
     have hr368 := row_kept_new hr367 hg337
     have hr369 := row_kept_at hr368 hg357 (own_neT hr368 hk349 (by decide))
     have hB370 := fbU_at hB341 hg357 (fun hlt => by rcases hSb with hq | hq; exact hq; omega)
     obtain ⟨S9, h1, h2⟩ := PrO.fin (P := { P with A := (sendT P.A (numT (P.s0 + 1))).2, s0 := P.s0 + 1 }) (NA := NA) (NB := NB) (wv := wv) (tv := tv) (w := w) hk355' hO360 hO363 hr366 hr369 (ap_symm (ap_symm (Grew.ap hx323 (ap_symm (ap_symm hQ.ap)) (LkP.ofS hO314)))) (Grew.off hx323 hQ.nA hk308.lt) hQ.nB (Grew.offR hx323 hr316 hQ.wA) hQ.wB (Grew.offR hx323 hr318 hQ.tA) hQ.tB hSb hin327 hinB hinw hint hB370
     have hEq : sendP P 0 = { P with A := (sendT P.A (numT (P.s0 + 1))).2, s0 := P.s0 + 1 } := by unfold sendP; rw [if_pos rfl, if_pos (by omega)]
     exact ⟨sendP P 0, S9, rfl, StepR.send _ (by decide), by rw [hEq]; exact h1, h2, hB370⟩
  ·
   rw [hc263] at h262
   have hp371 : K = 0 := by first | simpa using hc263 | simpa [and_assoc] using hc263
   clear hc263
   refine psk h262 rfl fun a372 h372 => ?_; clear h262
   refine psk h372 rfl fun a373 h373 => ?_; clear h372
   refine psk h373 rfl fun a374 h374 => ?_; clear h373
   refine pk0 (v := .bool true) h374 rfl fun a375 h375 => ?_; clear h374
   refine pk0 (v := .bool true) h375 rfl fun a376 h376 => ?_; clear h375
   refine pl_nil ?_
   refine co_then ?_
   refine co_true h376 rfl ?_
   refine co_seq ?_
   refine dr_gen (fun x => But (S) w x ∧ Blk x b 95 #[pt NA 0, pt NB 0, .int .i64 P.b0, .int .i64 P.b1, wv, tv, .int .i64 P.s0, .int .i64 P.s1, .int .i64 P.t0, .int .i64 P.t1, .bool true]) (by kernel_rfl) (fun w377 hg378 => ?_) (fun w377 hg378 => ?_)
   ·
    have hz379 := hg378.size
    have hB380 := fbU_new hB264 hg378
    have hk381 := hk253.kept hg378 (by simp)
    exact ⟨hB380, hk381⟩
   have hz382 := hg378.size
   have hB383 := fbU_new hB264 hg378
   have hk384 := hk253.kept hg378 (by simp)
   refine dk0 0 (v := pt b 0) h376 rfl rfl ⟨hB383, hk384⟩ fun a385 h385 => ?_; clear h376
   refine dk0 1 (v := .int .i64 0) h385 rfl rfl ⟨hB383, hk384⟩ fun a386 h386 => ?_; clear h385
   refine dk0 2 (v := pt b 0) h386 rfl rfl ⟨hB383, hk384⟩ fun a387 h387 => ?_; clear h386
   refine dk0 3 (v := pt b 0) h387 rfl rfl ⟨hB383, hk384⟩ fun a388 h388 => ?_; clear h387
   refine dk0 4 (v := pt b 0) h388 rfl rfl ⟨hB383, hk384⟩ fun a389 h389 => ?_; clear h388
   refine dk 5 (v := pt NA 0) h389 rfl rfl ⟨hB383, hk384⟩ (fun x hx => (rn_load1 rfl rfl Try.isAgg53 (hx.2.cell rfl))) fun a390 h390 => ?_; clear h389
   refine dk0 6 (v := pt b 0) h390 rfl rfl ⟨hB383, hk384⟩ fun a391 h391 => ?_; clear h390
   refine dk0 7 (v := .int .i64 0) h391 rfl rfl ⟨hB383, hk384⟩ fun a392 h392 => ?_; clear h391
   refine dk0 8 (v := pt b 0) h392 rfl rfl ⟨hB383, hk384⟩ fun a393 h393 => ?_; clear h392
   refine dk0 9 (v := pt b 6) h393 rfl rfl ⟨hB383, hk384⟩ fun a394 h394 => ?_; clear h393
   refine dk0 10 (v := pt b 6) h394 rfl rfl ⟨hB383, hk384⟩ fun a395 h395 => ?_; clear h394
   refine dk 11 (v := .int .i64 P.s0) h395 rfl rfl ⟨hB383, hk384⟩ (fun x hx => (rn_load1 rfl rfl Try.isAgg3 (hx.2.cell rfl))) fun a396 h396 => ?_; clear h395
   refine dk 12 (v := .int .i64 (P.s0 + 1)) h396 rfl rfl ⟨hB383, hk384⟩ (fun x hx => (rn_arith rfl rfl rfl rfl rfl rfl (IntWalk.i64_in _ (by omega)))) fun a397 h397 => ?_; clear h396
   refine d1 13 h397 rfl rfl (op_call (args := #[.int .i64 (P.s0 + 1)]) (R := fun res xw => res = .string (numT (P.s0 + 1)) ∧ Below w377.heap.size w377 xw) rfl rfl rfl (by kernel_rfl) (by kernel_rfl) (Try.call96 _ _) (number_any (P.s0 + 1) w377 (by omega)) (by rintro e x ⟨rfl, h⟩; exact ⟨_, rfl, rfl, h⟩)) ?_ ?_; clear h397
   ·
    rintro _ w399 ⟨rfl, hb400⟩
    have hz401 := hb400.size
    have hO403 := LkP.gr hO266 hg378 (fun k e => by cases e)
    have ho402 := LkP.ofS hO403
    have hO405 := LkP.gr hO268 hg378 (fun k e => by cases e)
    have ho404 := LkP.ofS hO405
    have hB406 := fbU_call hB383 hb400
    have hk407 := hk384.below hb400
    exact ⟨hB406, hk407⟩
   rintro _ w399 a398 ⟨rfl, hb400⟩ h398
   have hz401 := hb400.size
   have hO403 := LkP.gr hO266 hg378 (fun k e => by cases e)
   have ho402 := LkP.ofS hO403
   have hO405 := LkP.gr hO268 hg378 (fun k e => by cases e)
   have ho404 := LkP.ofS hO405
   have hB406 := fbU_call hB383 hb400
   have hk407 := hk384.below hb400
   have hO411 := LkP.gr hO403 (below_grown hb400) (fun k e => by cases e)
   have ho410 := LkP.ofS hO411
   have hO413 := LkP.gr hO405 (below_grown hb400) (fun k e => by cases e)
   have ho412 := LkP.ofS hO413
   have hr414 := row_kept_new hr255 hg378
   have hr415 := row_kept_new hr414 (below_grown hb400)
   have hr416 := row_kept_new hr270 hg378
   have hr417 := row_kept_new hr416 (below_grown hb400)
   have hk418 := hk247.kept hg378 (by simp)
   have hk419 := hk418.below hb400
   refine d1 14 h398 rfl rfl (op_call (args := #[pt NA 0, .string (numT (P.s0 + 1))]) (R := fun res xw => ∃ S' : Nat → Prop, res = .int .i64 ((sendT P.A ((numT (P.s0 + 1)) : ByteArray)).1) ∧ LkP S' xw NA ((sendT P.A ((numT (P.s0 + 1)) : ByteArray)).2) ∧ Grew SA S' w399 xw) rfl rfl rfl (by kernel_rfl) (by kernel_rfl) (Try.call34 _ _) (kSend w399 ((numT (P.s0 + 1)) : ByteArray) hO411) (by rintro e x ⟨S', h0, h⟩; exact ⟨_, h0, S', rfl, h⟩)) ?_ ?_; clear h398
   ·
    rintro _ w409 ⟨S420, rfl, hO421, hx422⟩
    have hB423 := fbU_foot hB406 hx422.but (fun i hi hq => by rcases hinA i hq with k | k; exact k; omega)
    have hz424 := hB423.size
    have hz425 := hx422.but.size
    have hin426 : ∀ q, S420 q → S q ∨ w.heap.size ≤ q := fun q hq => by rcases hx422.sub q hq with k | k; exact hinA q k; exact .inr (by omega)
    have hk427 := Blk.butS hk407 hx422.but hQ.nA
    exact ⟨hB423, hk427⟩
   rintro _ w409 a408 ⟨S420, rfl, hO421, hx422⟩ h408
   have hB423 := fbU_foot hB406 hx422.but (fun i hi hq => by rcases hinA i hq with k | k; exact k; omega)
   have hz424 := hB423.size
   have hz425 := hx422.but.size
   have hin426 : ∀ q, S420 q → S q ∨ w.heap.size ≤ q := fun q hq => by rcases hx422.sub q hq with k | k; exact hinA q k; exact .inr (by omega)
   have hk427 := Blk.butS hk407 hx422.but hQ.nA
   refine dk0 15 (v := .bool ((sendT P.A ((numT (P.s0 + 1)) : ByteArray)).1 == 0)) h408 rfl rfl ⟨hB423, hk427⟩ fun a428 h428 => ?_; clear h408
   refine dr_done (by kernel_rfl) ?_
   refine co_then ?_
   cases hc429 : ((sendT P.A ((numT (P.s0 + 1)) : ByteArray)).1 == 0)
   ·
    rw [hc429] at h428
    have hp430 : ¬ ((sendT P.A ((numT (P.s0 + 1)) : ByteArray)).1 = 0) := by first | simpa using hc429 | simpa [and_assoc] using hc429
    clear hc429
    refine co_false h428 rfl ?_
    refine wp_skip ?_
    refine co_blockN ?_
    refine co_ret0n h428 rfl ?_
    have hO431 := LkP.but hO413 hx422.but (ap_symm hQ.ap)
    have hr432 := own_butS hr415 hx422.but hQ.wA
    have hr433 := own_butS hr417 hx422.but hQ.tA
    obtain ⟨S9, h1, h2⟩ := PrO.fin (P := { P with A := (sendT P.A (numT (P.s0 + 1))).2, s0 := P.s0 }) (NA := NA) (NB := NB) (wv := wv) (tv := tv) (w := w) hk427 hO421 hO431 hr432 hr433 (ap_symm (ap_symm (Grew.ap hx422 (ap_symm (ap_symm hQ.ap)) (LkP.ofS hO413)))) (Grew.off hx422 hQ.nA hk407.lt) hQ.nB (Grew.offR hx422 hr415 hQ.wA) hQ.wB (Grew.offR hx422 hr417 hQ.tA) hQ.tB hSb hin426 hinB hinw hint hB423
    have hEq : sendP P 0 = { P with A := (sendT P.A (numT (P.s0 + 1))).2, s0 := P.s0 } := by unfold sendP; rw [if_pos rfl, if_neg (by omega)]
    exact ⟨sendP P 0, S9, rfl, StepR.send _ (by decide), by rw [hEq]; exact h1, h2, hB423⟩
   ·
    rw [hc429] at h428
    have hp434 : (sendT P.A ((numT (P.s0 + 1)) : ByteArray)).1 = 0 := by first | simpa using hc429 | simpa [and_assoc] using hc429
    clear hc429
    refine co_true h428 rfl ?_
    refine dr_gen (fun x => But (S) w x) (by kernel_rfl) (fun w435 hg436 => ?_) (fun w435 hg436 => ?_)
    ·
     have hz437 := hg436.size
     have hB438 := fbU_new hB423 hg436
     exact hB438
    have hz439 := hg436.size
    have hB440 := fbU_new hB423 hg436
    refine dk0 0 (v := pt b 0) h428 rfl rfl hB440 fun a441 h441 => ?_; clear h428
    refine dk0 1 (v := .int .i64 0) h441 rfl rfl hB440 fun a442 h442 => ?_; clear h441
    refine dk0 2 (v := pt b 0) h442 rfl rfl hB440 fun a443 h443 => ?_; clear h442
    refine dk0 3 (v := pt b 6) h443 rfl rfl hB440 fun a444 h444 => ?_; clear h443
    refine dk0 4 (v := pt b 6) h444 rfl rfl hB440 fun a445 h445 => ?_; clear h444
    refine dk0 7 (v := pt b 0) h445 rfl rfl hB440 fun a446 h446 => ?_; clear h445
    refine dk0 8 (v := pt b 6) h446 rfl rfl hB440 fun a447 h447 => ?_; clear h446
    refine dr_many [5] (by kernel_rfl) (by simp) ⟨?_, trivial⟩
    ·
     have hk448 := hk427.kept hg436 (by simp)
     refine dr_opVal (i := 5) (v := .int .i64 P.s0) h447 rfl rfl rfl rfl (by kernel_rfl) rfl (rn_load1 rfl rfl Try.isAgg3 (hk448.cell rfl)) hB440 (fun a449 h449 => ?_); clear h447
     refine dk 6 (v := .int .i64 (P.s0 + 1)) h449 rfl rfl hB440 (fun x hx => (rn_arith rfl rfl rfl rfl rfl rfl (IntWalk.i64_in _ (by omega)))) fun a450 h450 => ?_; clear h449
     refine dk0 9 (v := pt b 6) h450 rfl rfl hB440 fun a451 h451 => ?_; clear h450
     refine d1D 10 h451 rfl rfl (op_store1 rfl rfl rfl rfl Try.sizeOf3 hk448 rfl) ?_ ?_; clear h451
     ·
      rintro _ w453 ⟨hk454, hz455, hg456⟩
      have hk454' : Blk w453 b 95 #[pt NA 0, pt NB 0, .int .i64 P.b0, .int .i64 P.b1, wv, tv, .int .i64 (P.s0 + 1), .int .i64 P.s1, .int .i64 P.t0, .int .i64 P.t1, .bool true] := hk454; clear hk454
      have hz457 := hg456.size
      have hB458 := fbU_at hB440 hg456 (fun hlt => by rcases hSb with hq | hq; exact hq; omega)
      exact hB458
     rintro _ w453 a452 ⟨hk454, hz455, hg456⟩ h452
     have hk454' : Blk w453 b 95 #[pt NA 0, pt NB 0, .int .i64 P.b0, .int .i64 P.b1, wv, tv, .int .i64 (P.s0 + 1), .int .i64 P.s1, .int .i64 P.t0, .int .i64 P.t1, .bool true] := hk454; clear hk454
     have hz457 := hg456.size
     refine dr_done (by kernel_rfl) ?_
     refine co_blockN ?_
     refine co_ret0n h452 rfl ?_
     have hO458 := LkP.gr hO421 hg436 (fun k e => by cases e)
     have hO459 := LkP.gr hO458 hg456 (fun k e => by cases e; exact (Grew.off hx422 hQ.nA hk407.lt))
     have hO460 := LkP.but hO413 hx422.but (ap_symm hQ.ap)
     have hO461 := LkP.gr hO460 hg436 (fun k e => by cases e)
     have hO462 := LkP.gr hO461 hg456 (fun k e => by cases e; exact hQ.nB)
     have hr463 := own_butS hr415 hx422.but hQ.wA
     have hr464 := row_kept_new hr463 hg436
     have hr465 := row_kept_at hr464 hg456 (own_neT hr464 hk448 (by decide))
     have hr466 := own_butS hr417 hx422.but hQ.tA
     have hr467 := row_kept_new hr466 hg436
     have hr468 := row_kept_at hr467 hg456 (own_neT hr467 hk448 (by decide))
     have hB469 := fbU_at hB440 hg456 (fun hlt => by rcases hSb with hq | hq; exact hq; omega)
     obtain ⟨S9, h1, h2⟩ := PrO.fin (P := { P with A := (sendT P.A (numT (P.s0 + 1))).2, s0 := P.s0 + 1 }) (NA := NA) (NB := NB) (wv := wv) (tv := tv) (w := w) hk454' hO459 hO462 hr465 hr468 (ap_symm (ap_symm (Grew.ap hx422 (ap_symm (ap_symm hQ.ap)) (LkP.ofS hO413)))) (Grew.off hx422 hQ.nA hk407.lt) hQ.nB (Grew.offR hx422 hr415 hQ.wA) hQ.wB (Grew.offR hx422 hr417 hQ.tA) hQ.tB hSb hin426 hinB hinw hint hB469
     have hEq : sendP P 0 = { P with A := (sendT P.A (numT (P.s0 + 1))).2, s0 := P.s0 + 1 } := by unfold sendP; rw [if_pos rfl, if_pos (by omega)]
     exact ⟨sendP P 0, S9, rfl, StepR.send _ (by decide), by rw [hEq]; exact h1, h2, hB469⟩
end Go.Proofs.Ythmljllgfigebaa

/- catenalaw22: step, a case (send). Conditions: none. -/
namespace Go.Proofs.Ythmljllgfigebaa
open Go.RowKit Go.PlainAid
set_option linter.unusedVariables false
set_option linter.unusedSimpArgs false

set_option maxRecDepth 100000 in
set_option maxHeartbeats 6400000 in
theorem step_send1 (S : Nat → Prop) (b : Nat) (P : PrT) (K : Int) (n : Int) (g : Bool) (w : World) (hP : PrO S w b P) (hst : StepH P) (hn : 0 ≤ n ∧ n ≤ 255) (hK : K = 0 ∨ K = 1) (hn2 : n.tmod 2 = 1) :
    Calls Try.prog 49 #[pt b 0, .agg #[.int .i64 K, .int .u8 n, .bool g]] w fun e w' => ∃ (P' : PrT) (S' : Nat → Prop), e = .returned (.tuple #[]) ∧ StepR K P P' ∧ PrO S' w' b P' ∧ Grew S S' w w' ∧ But (S) w w' := by
 have hlW := hst.lW
 have hlT := hst.lT
 obtain ⟨q1, q2⟩ := hst.bt
 obtain ⟨q3, q4⟩ := hst.st
 obtain ⟨i0, hi0⟩ : ∃ i0 : Nat, 0 < P.W.length → n.tmod (P.W.length : Nat) = (i0 : Nat) ∧ i0 < P.W.length := ⟨(n.tmod (P.W.length : Nat)).toNat, fun h => by have e1 := Int.tmod_nonneg (P.W.length : Int) hn.1; have e2 := Int.tmod_lt_of_pos n (show (0 : Int) < (P.W.length : Nat) by omega); omega⟩
 have hB0 := But.refl (S) w
 obtain ⟨NA, NB, SA, SB, wv, tv, hQ⟩ := hP
 have hBk : Blk w b 95 #[pt NA 0, pt NB 0, .int .i64 P.b0, .int .i64 P.b1, wv, tv, .int .i64 P.s0, .int .i64 P.s1, .int .i64 P.t0, .int .i64 P.t1, .bool true] := hQ.blk
 have hl_b := hBk.lt
 have hSb : S b ∨ w.heap.size ≤ b := .inl ((hQ.fp b).2 (.inl rfl))
 have hinA : ∀ q, SA q → S q ∨ w.heap.size ≤ q := fun q h => .inl ((hQ.fp q).2 (.inr (.inl h)))
 have hinB : ∀ q, SB q → S q ∨ w.heap.size ≤ q := fun q h => .inl ((hQ.fp q).2 (.inr (.inr (.inl h))))
 have hinw : InS S w.heap.size wv := InS.of (fun i hi => (hQ.fp i).2 (.inr (.inr (.inr (.inl hi)))))
 have hint : InS S w.heap.size tv := InS.of (fun i hi => (hQ.fp i).2 (.inr (.inr (.inr (.inr hi)))))
 have hW0 := hQ.way
 have hT0 := hQ.to
 refine co_enter (n := 192) Try.func49 rfl rfl rfl [(0, pt b 0), (1, .agg #[.int .i64 K, .int .u8 n, .bool g])] rfl (fun a h0 => ?_)
 refine co_seq ?_
 refine co_reg ?_
 refine pw h0 rfl (op_new (v := fun N => pt N 0) (T := 90) (cs := #[.int .i64 K, .int .u8 n, .bool g]) (by kernel_rfl) (by kernel_rfl) (by kernel_rfl)) ?_; clear h0
 rintro _ w2 a1 ⟨N3, rfl, hN6, hz7, hk5, hg4⟩ h1
 have ha8 := row_fresh hW0 hN6
 have hu9 := row_under hW0 hN6
 have ha10 := row_fresh hT0 hN6
 have hu11 := row_under hT0 hN6
 have hz12 := hg4.size
 have ho13 := off_new (LkP.ofS hQ.hA) hN6
 have ho14 := off_new (LkP.ofS hQ.hB) hN6
 try dsimp only at h1
 refine pl_nil ?_
 refine co_then ?_
 refine co_seq ?_
 refine co_reg ?_
 refine pk0 (v := pt N3 1) h1 rfl fun a15 h15 => ?_; clear h1
 refine pk (v := .int .u8 n) h15 rfl (rn_load1 rfl rfl Try.isAgg5 (hk5.cell rfl)) fun a16 h16 => ?_; clear h15
 refine pk (v := .int .i64 n) h16 rfl (rn_conv rfl rfl Try.underlying5 Try.underlying3 (IntWalk.i64_in _ (by omega))) fun a17 h17 => ?_; clear h16
 refine pk (v := .int .i64 1) h17 rfl (rn_remP rfl rfl rfl (by decide) rfl hn2) fun a18 h18 => ?_; clear h17
 refine pk0 (v := .int .i64 1) h18 rfl fun a19 h19 => ?_; clear h18
 refine pl_nil ?_
 refine co_then ?_
 refine co_seq ?_
 refine co_reg ?_
 refine pk0 (v := .int .i64 0) h19 rfl fun a20 h20 => ?_; clear h19
 refine pl_nil ?_
 refine co_then ?_
 refine co_seq ?_
 refine co_seq ?_
 refine co_reg ?_
 refine pk0 (v := pt b 0) h20 rfl fun a21 h21 => ?_; clear h20
 refine pk0 (v := pt b 0) h21 rfl fun a22 h22 => ?_; clear h21
 refine pk0 (v := pt b 4) h22 rfl fun a23 h23 => ?_; clear h22
 have hk24 := hBk.kept hg4 (by simp)
 refine pk (v := wv) h23 rfl (rn_load1 rfl rfl Try.isAgg67 (hk24.cell rfl)) fun a25 h25 => ?_; clear h23
 have hr26 := row_kept_new hW0 hg4
 refine pk (v := .int .i64 ((P.W.length : Nat) : Int)) h25 rfl (rn_lenOwn rfl rfl Try.underlying67 hr26) fun a27 h27 => ?_; clear h25
 refine pk0 (v := .bool (decide (((P.W.length : Nat) : Int) > 0))) h27 rfl fun a28 h28 => ?_; clear h27
 refine pl_nil ?_
 refine co_then ?_
 have hB30 := fbU_new hB0 hg4
 cases hc29 : (decide (((P.W.length : Nat) : Int) > 0))
 ·
  rw [hc29] at h28
  have hp31 : ¬ (((P.W.length : Nat) : Int) > 0) := of_decide_eq_false hc29
  clear hc29
  refine co_false h28 rfl ?_
  refine wp_skip ?_
  refine co_then ?_
  refine wp_block ?_
  refine co_seq ?_
  refine co_reg ?_
  refine pk0 (v := pt N3 0) h28 rfl fun a32 h32 => ?_; clear h28
  refine pk (v := .int .i64 K) h32 rfl (rn_load1 rfl rfl Try.isAgg3 (hk5.cell rfl)) fun a33 h33 => ?_; clear h32
  refine pk0 (v := .bool (K == 0)) h33 rfl fun a34 h34 => ?_; clear h33
  refine pk0 (v := .bool (K == 0)) h34 rfl fun a35 h35 => ?_; clear h34
  cases hc36 : (K == 0)
  ·
   rw [hc36] at h35
   have hp37 : ¬ (K = 0) := by first | simpa using hc36 | simpa [and_assoc] using hc36
   clear hc36
   refine pk0 (v := pt N3 0) h35 rfl fun a38 h38 => ?_; clear h35
   refine pk (v := .int .i64 K) h38 rfl (rn_load1 rfl rfl Try.isAgg3 (hk5.cell rfl)) fun a39 h39 => ?_; clear h38
   refine pk0 (v := .bool (K == 1)) h39 rfl fun a40 h40 => ?_; clear h39
   refine pk0 (v := .bool (K == 1)) h40 rfl fun a41 h41 => ?_; clear h40
   refine pk0 (v := .bool (K == 1)) h41 rfl fun a42 h42 => ?_; clear h41
   refine pl_nil ?_
   refine co_then ?_
   have hc43 : (K == 1) = true := by first | (simp; done) | (simp; omega) | exact beq_false_of_ne (by omega) | exact beq_iff_eq.2 (by omega)
   rw [hc43] at h42; clear hc43
   refine co_true h42 rfl ?_
   refine co_seq ?_
   refine dr_gen (fun x => But (S) w x ∧ Blk x b 95 #[pt NA 0, pt NB 0, .int .i64 P.b0, .int .i64 P.b1, wv, tv, .int .i64 P.s0, .int .i64 P.s1, .int .i64 P.t0, .int .i64 P.t1, .bool true]) (by kernel_rfl) (fun w44 hg45 => ?_) (fun w44 hg45 => ?_)
   ·
    have hz46 := hg45.size
    have hB47 := fbU_new hB30 hg45
    have hk48 := hk24.kept hg45 (by simp)
    exact ⟨hB47, hk48⟩
   have hz49 := hg45.size
   have hB50 := fbU_new hB30 hg45
   have hk51 := hk24.kept hg45 (by simp)
   refine dk0 0 (v := pt b 0) h42 rfl rfl ⟨hB50, hk51⟩ fun a52 h52 => ?_; clear h42
   refine dk0 1 (v := .int .i64 1) h52 rfl rfl ⟨hB50, hk51⟩ fun a53 h53 => ?_; clear h52
   refine dk0 2 (v := pt b 0) h53 rfl rfl ⟨hB50, hk51⟩ fun a54 h54 => ?_; clear h53
   refine dk0 3 (v := pt b 0) h54 rfl rfl ⟨hB50, hk51⟩ fun a55 h55 => ?_; clear h54
   refine dk0 4 (v := pt b 1) h55 rfl rfl ⟨hB50, hk51⟩ fun a56 h56 => ?_; clear h55
   refine dk 5 (v := pt NB 0) h56 rfl rfl ⟨hB50, hk51⟩ (fun x hx => (rn_load1 rfl rfl Try.isAgg53 (hx.2.cell rfl))) fun a57 h57 => ?_; clear h56
   refine dk0 6 (v := pt b 0) h57 rfl rfl ⟨hB50, hk51⟩ fun a58 h58 => ?_; clear h57
   refine dk0 7 (v := .int .i64 1) h58 rfl rfl ⟨hB50, hk51⟩ fun a59 h59 => ?_; clear h58
   refine dk0 8 (v := pt b 0) h59 rfl rfl ⟨hB50, hk51⟩ fun a60 h60 => ?_; clear h59
   refine dk0 9 (v := pt b 6) h60 rfl rfl ⟨hB50, hk51⟩ fun a61 h61 => ?_; clear h60
   refine dk0 10 (v := pt b 7) h61 rfl rfl ⟨hB50, hk51⟩ fun a62 h62 => ?_; clear h61
   refine dk 11 (v := .int .i64 P.s1) h62 rfl rfl ⟨hB50, hk51⟩ (fun x hx => (rn_load1 rfl rfl Try.isAgg3 (hx.2.cell rfl))) fun a63 h63 => ?_; clear h62
   refine dk 12 (v := .int .i64 (P.s1 + 1)) h63 rfl rfl ⟨hB50, hk51⟩ (fun x hx => (rn_arith rfl rfl rfl rfl rfl rfl (IntWalk.i64_in _ (by omega)))) fun a64 h64 => ?_; clear h63
   have hO67 := LkP.gr hQ.hA hg4 (fun k e => by cases e)
   have hO68 := LkP.gr hO67 hg45 (fun k e => by cases e)
   have hO69 := LkP.gr hQ.hB hg4 (fun k e => by cases e)
   have hO70 := LkP.gr hO69 hg45 (fun k e => by cases e)
   have hr71 := row_kept_new hT0 hg4
   have hr72 := row_kept_new hr71 hg45
   refine d1 13 h64 rfl rfl (op_call (args := #[.int .i64 (P.s1 + 1)]) (R := fun res xw => res = .string (numT (P.s1 + 1)) ∧ Below w44.heap.size w44 xw) rfl rfl rfl (by kernel_rfl) (by kernel_rfl) (Try.call96 _ _) (number_any (P.s1 + 1) w44 (by omega)) (by rintro e x ⟨rfl, h⟩; exact ⟨_, rfl, rfl, h⟩)) ?_ ?_; clear h64
   ·
    rintro _ w66 ⟨rfl, hb73⟩
    have hz74 := hb73.size
    have ho75 := LkP.ofS hO68
    have ho76 := LkP.ofS hO70
    have hB77 := fbU_call hB50 hb73
    have hk78 := hk51.below hb73
    exact ⟨hB77, hk78⟩
   rintro _ w66 a65 ⟨rfl, hb73⟩ h65
   have hz74 := hb73.size
   have ho75 := LkP.ofS hO68
   have ho76 := LkP.ofS hO70
   have hB77 := fbU_call hB50 hb73
   have hk78 := hk51.below hb73
   have hO82 := LkP.gr hO68 (below_grown hb73) (fun k e => by cases e)
   have ho81 := LkP.ofS hO82
   have hO84 := LkP.gr hO70 (below_grown hb73) (fun k e => by cases e)
   have ho83 := LkP.ofS hO84
   have hr85 := row_kept_new hr26 hg45
   have hr86 := row_kept_new hr85 (below_grown hb73)
   have hk87 := hk5.kept hg45 (by simp)
   have hk88 := hk87.below hb73
   refine d1 14 h65 rfl rfl (op_call (args := #[pt NB 0, .string (numT (P.s1 + 1))]) (R := fun res xw => ∃ S' : Nat → Prop, res = .int .i64 ((sendT P.B ((numT (P.s1 + 1)) : ByteArray)).1) ∧ LkP S' xw NB ((sendT P.B ((numT (P.s1 + 1)) : ByteArray)).2) ∧ Grew SB S' w66 xw) rfl rfl rfl (by kernel_rfl) (by kernel_rfl) (Try.call34 _ _) (kSend w66 ((numT (P.s1 + 1)) : ByteArray) hO84) (by rintro e x ⟨S', h0, h⟩; exact ⟨_, h0, S', rfl, h⟩)) ?_ ?_; clear h65
   ·
    rintro _ w80 ⟨S89, rfl, hO90, hx91⟩
    have hr92 := row_kept_new hr72 (below_grown hb73)
    have hB93 := fbU_foot hB77 hx91.but (fun i hi hq => by rcases hinB i hq with k | k; exact k; omega)
    have hz94 := hB93.size
    have hz95 := hx91.but.size
    have hin96 : ∀ q, S89 q → S q ∨ w.heap.size ≤ q := fun q hq => by rcases hx91.sub q hq with k | k; exact hinB q k; exact .inr (by omega)
    have hk97 := Blk.butS hk78 hx91.but hQ.nB
    exact ⟨hB93, hk97⟩
   rintro _ w80 a79 ⟨S89, rfl, hO90, hx91⟩ h79
   have hr92 := row_kept_new hr72 (below_grown hb73)
   have hB93 := fbU_foot hB77 hx91.but (fun i hi hq => by rcases hinB i hq with k | k; exact k; omega)
   have hz94 := hB93.size
   have hz95 := hx91.but.size
   have hin96 : ∀ q, S89 q → S q ∨ w.heap.size ≤ q := fun q hq => by rcases hx91.sub q hq with k | k; exact hinB q k; exact .inr (by omega)
   have hk97 := Blk.butS hk78 hx91.but hQ.nB
   refine dk0 15 (v := .bool ((sendT P.B ((numT (P.s1 + 1)) : ByteArray)).1 == 0)) h79 rfl rfl ⟨hB93, hk97⟩ fun a98 h98 => ?_; clear h79
   refine dr_done (by kernel_rfl) ?_
   refine co_then ?_
   cases hc99 : ((sendT P.B ((numT (P.s1 + 1)) : ByteArray)).1 == 0)
   ·
    rw [hc99] at h98
    have hp100 : ¬ ((sendT P.B ((numT (P.s1 + 1)) : ByteArray)).1 = 0) := by first | simpa using hc99 | simpa [and_assoc] using hc99
    clear hc99
    refine co_false h98 rfl ?_
    refine wp_skip ?_
    refine co_blockN ?_
    refine co_ret0n h98 rfl ?_
    have hO101 := LkP.but hO82 hx91.but hQ.ap
    have hr102 := own_butS hr86 hx91.but hQ.wB
    have hr103 := own_butS hr92 hx91.but hQ.tB
    obtain ⟨S9, h1, h2⟩ := PrO.fin (P := { P with B := (sendT P.B (numT (P.s1 + 1))).2, s1 := P.s1 }) (NA := NA) (NB := NB) (wv := wv) (tv := tv) (w := w) hk97 hO101 hO90 hr102 hr103 (ap_symm (Grew.ap hx91 (ap_symm hQ.ap) (LkP.ofS hO82))) hQ.nA (Grew.off hx91 hQ.nB hk78.lt) hQ.wA (Grew.offR hx91 hr86 hQ.wB) hQ.tA (Grew.offR hx91 hr92 hQ.tB) hSb hinA hin96 hinw hint hB93
    have hEq : sendP P 1 = { P with B := (sendT P.B (numT (P.s1 + 1))).2, s1 := P.s1 } := by unfold sendP; rw [if_neg (by decide), if_neg (by omega)]
    exact ⟨sendP P 1, S9, rfl, StepR.send _ (by decide), by rw [hEq]; exact h1, h2, hB93⟩
   ·
    rw [hc99] at h98
    have hp104 : (sendT P.B ((numT (P.s1 + 1)) : ByteArray)).1 = 0 := by first | simpa using hc99 | simpa [and_assoc] using hc99
    clear hc99
    refine co_true h98 rfl ?_
    refine dr_gen (fun x => But (S) w x) (by kernel_rfl) (fun w105 hg106 => ?_) (fun w105 hg106 => ?_)
    ·
     have hz107 := hg106.size
     have hB108 := fbU_new hB93 hg106
     exact hB108
    have hz109 := hg106.size
    have hB110 := fbU_new hB93 hg106
    refine dk0 0 (v := pt b 0) h98 rfl rfl hB110 fun a111 h111 => ?_; clear h98
    refine dk0 1 (v := .int .i64 1) h111 rfl rfl hB110 fun a112 h112 => ?_; clear h111
    refine dk0 2 (v := pt b 0) h112 rfl rfl hB110 fun a113 h113 => ?_; clear h112
    refine dk0 3 (v := pt b 6) h113 rfl rfl hB110 fun a114 h114 => ?_; clear h113
    refine dk0 4 (v := pt b 7) h114 rfl rfl hB110 fun a115 h115 => ?_; clear h114
    refine dk0 7 (v := pt b 0) h115 rfl rfl hB110 fun a116 h116 => ?_; clear h115
    refine dk0 8 (v := pt b 6) h116 rfl rfl hB110 fun a117 h117 => ?_; clear h116
    refine dr_many [5] (by kernel_rfl) (by simp) ⟨?_, trivial⟩
    ·
     have hk118 := hk97.kept hg106 (by simp)
     refine dr_opVal (i := 5) (v := .int .i64 P.s1) h117 rfl rfl rfl rfl (by kernel_rfl) rfl (rn_load1 rfl rfl Try.isAgg3 (hk118.cell rfl)) hB110 (fun a119 h119 => ?_); clear h117
     refine dk 6 (v := .int .i64 (P.s1 + 1)) h119 rfl rfl hB110 (fun x hx => (rn_arith rfl rfl rfl rfl rfl rfl (IntWalk.i64_in _ (by omega)))) fun a120 h120 => ?_; clear h119
     refine dk0 9 (v := pt b 7) h120 rfl rfl hB110 fun a121 h121 => ?_; clear h120
     refine d1D 10 h121 rfl rfl (op_store1 rfl rfl rfl rfl Try.sizeOf3 hk118 rfl) ?_ ?_; clear h121
     ·
      rintro _ w123 ⟨hk124, hz125, hg126⟩
      have hk124' : Blk w123 b 95 #[pt NA 0, pt NB 0, .int .i64 P.b0, .int .i64 P.b1, wv, tv, .int .i64 P.s0, .int .i64 (P.s1 + 1), .int .i64 P.t0, .int .i64 P.t1, .bool true] := hk124; clear hk124
      have hz127 := hg126.size
      have hB128 := fbU_at hB110 hg126 (fun hlt => by rcases hSb with hq | hq; exact hq; omega)
      exact hB128
     rintro _ w123 a122 ⟨hk124, hz125, hg126⟩ h122
     have hk124' : Blk w123 b 95 #[pt NA 0, pt NB 0, .int .i64 P.b0, .int .i64 P.b1, wv, tv, .int .i64 P.s0, .int .i64 (P.s1 + 1), .int .i64 P.t0, .int .i64 P.t1, .bool true] := hk124; clear hk124
     have hz127 := hg126.size
     refine dr_done (by kernel_rfl) ?_
     refine co_blockN ?_
     refine co_ret0n h122 rfl ?_
     have hO128 := LkP.but hO82 hx91.but hQ.ap
     have hO129 := LkP.gr hO128 hg106 (fun k e => by cases e)
     have hO130 := LkP.gr hO129 hg126 (fun k e => by cases e; exact hQ.nA)
     have hO131 := LkP.gr hO90 hg106 (fun k e => by cases e)
     have hO132 := LkP.gr hO131 hg126 (fun k e => by cases e; exact (Grew.off hx91 hQ.nB hk78.lt))
     have hr133 := own_butS hr86 hx91.but hQ.wB
     have hr134 := row_kept_new hr133 hg106
     have hr135 := row_kept_at hr134 hg126 (own_neT hr134 hk118 (by decide))
     have hr136 := own_butS hr92 hx91.but hQ.tB
     have hr137 := row_kept_new hr136 hg106
     have hr138 := row_kept_at hr137 hg126 (own_neT hr137 hk118 (by decide))
     have hB139 := fbU_at hB110 hg126 (fun hlt => by rcases hSb with hq | hq; exact hq; omega)
     obtain ⟨S9, h1, h2⟩ := PrO.fin (P := { P with B := (sendT P.B (numT (P.s1 + 1))).2, s1 := P.s1 + 1 }) (NA := NA) (NB := NB) (wv := wv) (tv := tv) (w := w) hk124' hO130 hO132 hr135 hr138 (ap_symm (Grew.ap hx91 (ap_symm hQ.ap) (LkP.ofS hO82))) hQ.nA (Grew.off hx91 hQ.nB hk78.lt) hQ.wA (Grew.offR hx91 hr86 hQ.wB) hQ.tA (Grew.offR hx91 hr92 hQ.tB) hSb hinA hin96 hinw hint hB139
     have hEq : sendP P 1 = { P with B := (sendT P.B (numT (P.s1 + 1))).2, s1 := P.s1 + 1 } := by unfold sendP; rw [if_neg (by decide), if_pos (by omega)]
     exact ⟨sendP P 1, S9, rfl, StepR.send _ (by decide), by rw [hEq]; exact h1, h2, hB139⟩
  ·
   rw [hc36] at h35
   have hp140 : K = 0 := by first | simpa using hc36 | simpa [and_assoc] using hc36
   clear hc36
   refine psk h35 rfl fun a141 h141 => ?_; clear h35
   refine psk h141 rfl fun a142 h142 => ?_; clear h141
   refine psk h142 rfl fun a143 h143 => ?_; clear h142
   refine pk0 (v := .bool true) h143 rfl fun a144 h144 => ?_; clear h143
   refine pk0 (v := .bool true) h144 rfl fun a145 h145 => ?_; clear h144
   refine pl_nil ?_
   refine co_then ?_
   refine co_true h145 rfl ?_
   refine co_seq ?_
   refine dr_gen (fun x => But (S) w x ∧ Blk x b 95 #[pt NA 0, pt NB 0, .int .i64 P.b0, .int .i64 P.b1, wv, tv, .int .i64 P.s0, .int .i64 P.s1, .int .i64 P.t0, .int .i64 P.t1, .bool true]) (by kernel_rfl) (fun w146 hg147 => ?_) (fun w146 hg147 => ?_)
   ·
    have hz148 := hg147.size
    have hB149 := fbU_new hB30 hg147
    have hk150 := hk24.kept hg147 (by simp)
    exact ⟨hB149, hk150⟩
   have hz151 := hg147.size
   have hB152 := fbU_new hB30 hg147
   have hk153 := hk24.kept hg147 (by simp)
   refine dk0 0 (v := pt b 0) h145 rfl rfl ⟨hB152, hk153⟩ fun a154 h154 => ?_; clear h145
   refine dk0 1 (v := .int .i64 1) h154 rfl rfl ⟨hB152, hk153⟩ fun a155 h155 => ?_; clear h154
   refine dk0 2 (v := pt b 0) h155 rfl rfl ⟨hB152, hk153⟩ fun a156 h156 => ?_; clear h155
   refine dk0 3 (v := pt b 0) h156 rfl rfl ⟨hB152, hk153⟩ fun a157 h157 => ?_; clear h156
   refine dk0 4 (v := pt b 1) h157 rfl rfl ⟨hB152, hk153⟩ fun a158 h158 => ?_; clear h157
   refine dk 5 (v := pt NB 0) h158 rfl rfl ⟨hB152, hk153⟩ (fun x hx => (rn_load1 rfl rfl Try.isAgg53 (hx.2.cell rfl))) fun a159 h159 => ?_; clear h158
   refine dk0 6 (v := pt b 0) h159 rfl rfl ⟨hB152, hk153⟩ fun a160 h160 => ?_; clear h159
   refine dk0 7 (v := .int .i64 1) h160 rfl rfl ⟨hB152, hk153⟩ fun a161 h161 => ?_; clear h160
   refine dk0 8 (v := pt b 0) h161 rfl rfl ⟨hB152, hk153⟩ fun a162 h162 => ?_; clear h161
   refine dk0 9 (v := pt b 6) h162 rfl rfl ⟨hB152, hk153⟩ fun a163 h163 => ?_; clear h162
   refine dk0 10 (v := pt b 7) h163 rfl rfl ⟨hB152, hk153⟩ fun a164 h164 => ?_; clear h163
   refine dk 11 (v := .int .i64 P.s1) h164 rfl rfl ⟨hB152, hk153⟩ (fun x hx => (rn_load1 rfl rfl Try.isAgg3 (hx.2.cell rfl))) fun a165 h165 => ?_; clear h164
   refine dk 12 (v := .int .i64 (P.s1 + 1)) h165 rfl rfl ⟨hB152, hk153⟩ (fun x hx => (rn_arith rfl rfl rfl rfl rfl rfl (IntWalk.i64_in _ (by omega)))) fun a166 h166 => ?_; clear h165
   have hO169 := LkP.gr hQ.hA hg4 (fun k e => by cases e)
   have hO170 := LkP.gr hO169 hg147 (fun k e => by cases e)
   have hO171 := LkP.gr hQ.hB hg4 (fun k e => by cases e)
   have hO172 := LkP.gr hO171 hg147 (fun k e => by cases e)
   have hr173 := row_kept_new hT0 hg4
   have hr174 := row_kept_new hr173 hg147
   refine d1 13 h166 rfl rfl (op_call (args := #[.int .i64 (P.s1 + 1)]) (R := fun res xw => res = .string (numT (P.s1 + 1)) ∧ Below w146.heap.size w146 xw) rfl rfl rfl (by kernel_rfl) (by kernel_rfl) (Try.call96 _ _) (number_any (P.s1 + 1) w146 (by omega)) (by rintro e x ⟨rfl, h⟩; exact ⟨_, rfl, rfl, h⟩)) ?_ ?_; clear h166
   ·
    rintro _ w168 ⟨rfl, hb175⟩
    have hz176 := hb175.size
    have ho177 := LkP.ofS hO170
    have ho178 := LkP.ofS hO172
    have hB179 := fbU_call hB152 hb175
    have hk180 := hk153.below hb175
    exact ⟨hB179, hk180⟩
   rintro _ w168 a167 ⟨rfl, hb175⟩ h167
   have hz176 := hb175.size
   have ho177 := LkP.ofS hO170
   have ho178 := LkP.ofS hO172
   have hB179 := fbU_call hB152 hb175
   have hk180 := hk153.below hb175
   have hO184 := LkP.gr hO170 (below_grown hb175) (fun k e => by cases e)
   have ho183 := LkP.ofS hO184
   have hO186 := LkP.gr hO172 (below_grown hb175) (fun k e => by cases e)
   have ho185 := LkP.ofS hO186
   have hr187 := row_kept_new hr26 hg147
   have hr188 := row_kept_new hr187 (below_grown hb175)
   have hk189 := hk5.kept hg147 (by simp)
   have hk190 := hk189.below hb175
   refine d1 14 h167 rfl rfl (op_call (args := #[pt NB 0, .string (numT (P.s1 + 1))]) (R := fun res xw => ∃ S' : Nat → Prop, res = .int .i64 ((sendT P.B ((numT (P.s1 + 1)) : ByteArray)).1) ∧ LkP S' xw NB ((sendT P.B ((numT (P.s1 + 1)) : ByteArray)).2) ∧ Grew SB S' w168 xw) rfl rfl rfl (by kernel_rfl) (by kernel_rfl) (Try.call34 _ _) (kSend w168 ((numT (P.s1 + 1)) : ByteArray) hO186) (by rintro e x ⟨S', h0, h⟩; exact ⟨_, h0, S', rfl, h⟩)) ?_ ?_; clear h167
   ·
    rintro _ w182 ⟨S191, rfl, hO192, hx193⟩
    have hr194 := row_kept_new hr174 (below_grown hb175)
    have hB195 := fbU_foot hB179 hx193.but (fun i hi hq => by rcases hinB i hq with k | k; exact k; omega)
    have hz196 := hB195.size
    have hz197 := hx193.but.size
    have hin198 : ∀ q, S191 q → S q ∨ w.heap.size ≤ q := fun q hq => by rcases hx193.sub q hq with k | k; exact hinB q k; exact .inr (by omega)
    have hk199 := Blk.butS hk180 hx193.but hQ.nB
    exact ⟨hB195, hk199⟩
   rintro _ w182 a181 ⟨S191, rfl, hO192, hx193⟩ h181
   have hr194 := row_kept_new hr174 (below_grown hb175)
   have hB195 := fbU_foot hB179 hx193.but (fun i hi hq => by rcases hinB i hq with k | k; exact k; omega)
   have hz196 := hB195.size
   have hz197 := hx193.but.size
   have hin198 : ∀ q, S191 q → S q ∨ w.heap.size ≤ q := fun q hq => by rcases hx193.sub q hq with k | k; exact hinB q k; exact .inr (by omega)
   have hk199 := Blk.butS hk180 hx193.but hQ.nB
   refine dk0 15 (v := .bool ((sendT P.B ((numT (P.s1 + 1)) : ByteArray)).1 == 0)) h181 rfl rfl ⟨hB195, hk199⟩ fun a200 h200 => ?_; clear h181
   refine dr_done (by kernel_rfl) ?_
   refine co_then ?_
   cases hc201 : ((sendT P.B ((numT (P.s1 + 1)) : ByteArray)).1 == 0)
   ·
    rw [hc201] at h200
    have hp202 : ¬ ((sendT P.B ((numT (P.s1 + 1)) : ByteArray)).1 = 0) := by first | simpa using hc201 | simpa [and_assoc] using hc201
    clear hc201
    refine co_false h200 rfl ?_
    refine wp_skip ?_
    refine co_blockN ?_
    refine co_ret0n h200 rfl ?_
    have hO203 := LkP.but hO184 hx193.but hQ.ap
    have hr204 := own_butS hr188 hx193.but hQ.wB
    have hr205 := own_butS hr194 hx193.but hQ.tB
    obtain ⟨S9, h1, h2⟩ := PrO.fin (P := { P with B := (sendT P.B (numT (P.s1 + 1))).2, s1 := P.s1 }) (NA := NA) (NB := NB) (wv := wv) (tv := tv) (w := w) hk199 hO203 hO192 hr204 hr205 (ap_symm (Grew.ap hx193 (ap_symm hQ.ap) (LkP.ofS hO184))) hQ.nA (Grew.off hx193 hQ.nB hk180.lt) hQ.wA (Grew.offR hx193 hr188 hQ.wB) hQ.tA (Grew.offR hx193 hr194 hQ.tB) hSb hinA hin198 hinw hint hB195
    have hEq : sendP P 1 = { P with B := (sendT P.B (numT (P.s1 + 1))).2, s1 := P.s1 } := by unfold sendP; rw [if_neg (by decide), if_neg (by omega)]
    exact ⟨sendP P 1, S9, rfl, StepR.send _ (by decide), by rw [hEq]; exact h1, h2, hB195⟩
   ·
    rw [hc201] at h200
    have hp206 : (sendT P.B ((numT (P.s1 + 1)) : ByteArray)).1 = 0 := by first | simpa using hc201 | simpa [and_assoc] using hc201
    clear hc201
    refine co_true h200 rfl ?_
    refine dr_gen (fun x => But (S) w x) (by kernel_rfl) (fun w207 hg208 => ?_) (fun w207 hg208 => ?_)
    ·
     have hz209 := hg208.size
     have hB210 := fbU_new hB195 hg208
     exact hB210
    have hz211 := hg208.size
    have hB212 := fbU_new hB195 hg208
    refine dk0 0 (v := pt b 0) h200 rfl rfl hB212 fun a213 h213 => ?_; clear h200
    refine dk0 1 (v := .int .i64 1) h213 rfl rfl hB212 fun a214 h214 => ?_; clear h213
    refine dk0 2 (v := pt b 0) h214 rfl rfl hB212 fun a215 h215 => ?_; clear h214
    refine dk0 3 (v := pt b 6) h215 rfl rfl hB212 fun a216 h216 => ?_; clear h215
    refine dk0 4 (v := pt b 7) h216 rfl rfl hB212 fun a217 h217 => ?_; clear h216
    refine dk0 7 (v := pt b 0) h217 rfl rfl hB212 fun a218 h218 => ?_; clear h217
    refine dk0 8 (v := pt b 6) h218 rfl rfl hB212 fun a219 h219 => ?_; clear h218
    refine dr_many [5] (by kernel_rfl) (by simp) ⟨?_, trivial⟩
    ·
     have hk220 := hk199.kept hg208 (by simp)
     refine dr_opVal (i := 5) (v := .int .i64 P.s1) h219 rfl rfl rfl rfl (by kernel_rfl) rfl (rn_load1 rfl rfl Try.isAgg3 (hk220.cell rfl)) hB212 (fun a221 h221 => ?_); clear h219
     refine dk 6 (v := .int .i64 (P.s1 + 1)) h221 rfl rfl hB212 (fun x hx => (rn_arith rfl rfl rfl rfl rfl rfl (IntWalk.i64_in _ (by omega)))) fun a222 h222 => ?_; clear h221
     refine dk0 9 (v := pt b 7) h222 rfl rfl hB212 fun a223 h223 => ?_; clear h222
     refine d1D 10 h223 rfl rfl (op_store1 rfl rfl rfl rfl Try.sizeOf3 hk220 rfl) ?_ ?_; clear h223
     ·
      rintro _ w225 ⟨hk226, hz227, hg228⟩
      have hk226' : Blk w225 b 95 #[pt NA 0, pt NB 0, .int .i64 P.b0, .int .i64 P.b1, wv, tv, .int .i64 P.s0, .int .i64 (P.s1 + 1), .int .i64 P.t0, .int .i64 P.t1, .bool true] := hk226; clear hk226
      have hz229 := hg228.size
      have hB230 := fbU_at hB212 hg228 (fun hlt => by rcases hSb with hq | hq; exact hq; omega)
      exact hB230
     rintro _ w225 a224 ⟨hk226, hz227, hg228⟩ h224
     have hk226' : Blk w225 b 95 #[pt NA 0, pt NB 0, .int .i64 P.b0, .int .i64 P.b1, wv, tv, .int .i64 P.s0, .int .i64 (P.s1 + 1), .int .i64 P.t0, .int .i64 P.t1, .bool true] := hk226; clear hk226
     have hz229 := hg228.size
     refine dr_done (by kernel_rfl) ?_
     refine co_blockN ?_
     refine co_ret0n h224 rfl ?_
     have hO230 := LkP.but hO184 hx193.but hQ.ap
     have hO231 := LkP.gr hO230 hg208 (fun k e => by cases e)
     have hO232 := LkP.gr hO231 hg228 (fun k e => by cases e; exact hQ.nA)
     have hO233 := LkP.gr hO192 hg208 (fun k e => by cases e)
     have hO234 := LkP.gr hO233 hg228 (fun k e => by cases e; exact (Grew.off hx193 hQ.nB hk180.lt))
     have hr235 := own_butS hr188 hx193.but hQ.wB
     have hr236 := row_kept_new hr235 hg208
     have hr237 := row_kept_at hr236 hg228 (own_neT hr236 hk220 (by decide))
     have hr238 := own_butS hr194 hx193.but hQ.tB
     have hr239 := row_kept_new hr238 hg208
     have hr240 := row_kept_at hr239 hg228 (own_neT hr239 hk220 (by decide))
     have hB241 := fbU_at hB212 hg228 (fun hlt => by rcases hSb with hq | hq; exact hq; omega)
     obtain ⟨S9, h1, h2⟩ := PrO.fin (P := { P with B := (sendT P.B (numT (P.s1 + 1))).2, s1 := P.s1 + 1 }) (NA := NA) (NB := NB) (wv := wv) (tv := tv) (w := w) hk226' hO232 hO234 hr237 hr240 (ap_symm (Grew.ap hx193 (ap_symm hQ.ap) (LkP.ofS hO184))) hQ.nA (Grew.off hx193 hQ.nB hk180.lt) hQ.wA (Grew.offR hx193 hr188 hQ.wB) hQ.tA (Grew.offR hx193 hr194 hQ.tB) hSb hinA hin198 hinw hint hB241
     have hEq : sendP P 1 = { P with B := (sendT P.B (numT (P.s1 + 1))).2, s1 := P.s1 + 1 } := by unfold sendP; rw [if_neg (by decide), if_pos (by omega)]
     exact ⟨sendP P 1, S9, rfl, StepR.send _ (by decide), by rw [hEq]; exact h1, h2, hB241⟩
 ·
  rw [hc29] at h28
  have hp242 : ((P.W.length : Nat) : Int) > 0 := of_decide_eq_true hc29
  clear hc29
  refine co_true h28 rfl ?_
  refine dr_eq (by kernel_rfl) (fun w243 hg244 => ?_)
  have hz245 := hg244.size
  refine dk0 0 (v := pt N3 1) h28 rfl rfl rfl fun a246 h246 => ?_; clear h28
  have hk247 := hk5.kept hg244 (by simp)
  refine dk 1 (v := .int .u8 n) h246 rfl rfl rfl (fun x hx => by subst hx; exact (rn_load1 rfl rfl Try.isAgg5 (hk247.cell rfl))) fun a248 h248 => ?_; clear h246
  refine dk 2 (v := .int .i64 n) h248 rfl rfl rfl (fun x hx => by subst hx; exact (rn_conv rfl rfl Try.underlying5 Try.underlying3 (IntWalk.i64_in _ (by omega)))) fun a249 h249 => ?_; clear h248
  refine dk0 3 (v := pt b 0) h249 rfl rfl rfl fun a250 h250 => ?_; clear h249
  refine dk0 4 (v := pt b 0) h250 rfl rfl rfl fun a251 h251 => ?_; clear h250
  refine dk0 5 (v := pt b 4) h251 rfl rfl rfl fun a252 h252 => ?_; clear h251
  have hk253 := hk24.kept hg244 (by simp)
  refine dk 6 (v := wv) h252 rfl rfl rfl (fun x hx => by subst hx; exact (rn_load1 rfl rfl Try.isAgg67 (hk253.cell rfl))) fun a254 h254 => ?_; clear h252
  have hr255 := row_kept_new hr26 hg244
  refine dk 7 (v := .int .i64 ((P.W.length : Nat) : Int)) h254 rfl rfl rfl (fun x hx => by subst hx; exact (rn_lenOwn rfl rfl Try.underlying67 hr255)) fun a256 h256 => ?_; clear h254
  have hi1 := (hi0 (by omega)).2
  refine dk 8 (v := .int .i64 ((i0 : Nat) : Int)) h256 rfl rfl rfl (fun x hx => by subst hx; exact (rn_remP rfl rfl rfl (by omega) rfl (hi0 (by omega)).1)) fun a257 h257 => ?_; clear h256
  refine dk0 9 (v := .int .i64 ((i0 : Nat) : Int)) h257 rfl rfl rfl fun a258 h258 => ?_; clear h257
  refine dr_done (by kernel_rfl) ?_
  refine co_then ?_
  refine wp_block ?_
  refine co_seq ?_
  refine co_reg ?_
  refine pk0 (v := pt N3 0) h258 rfl fun a259 h259 => ?_; clear h258
  refine pk (v := .int .i64 K) h259 rfl (rn_load1 rfl rfl Try.isAgg3 (hk247.cell rfl)) fun a260 h260 => ?_; clear h259
  refine pk0 (v := .bool (K == 0)) h260 rfl fun a261 h261 => ?_; clear h260
  refine pk0 (v := .bool (K == 0)) h261 rfl fun a262 h262 => ?_; clear h261
  have hB264 := fbU_new hB30 hg244
  have hO265 := LkP.gr hQ.hA hg4 (fun k e => by cases e)
  have hO266 := LkP.gr hO265 hg244 (fun k e => by cases e)
  have hO267 := LkP.gr hQ.hB hg4 (fun k e => by cases e)
  have hO268 := LkP.gr hO267 hg244 (fun k e => by cases e)
  have hr269 := row_kept_new hT0 hg4
  have hr270 := row_kept_new hr269 hg244
  cases hc263 : (K == 0)
  ·
   rw [hc263] at h262
   have hp271 : ¬ (K = 0) := by first | simpa using hc263 | simpa [and_assoc] using hc263
   clear hc263
   refine pk0 (v := pt N3 0) h262 rfl fun a272 h272 => ?_; clear h262
   refine pk (v := .int .i64 K) h272 rfl (rn_load1 rfl rfl Try.isAgg3 (hk247.cell rfl)) fun a273 h273 => ?_; clear h272
   refine pk0 (v := .bool (K == 1)) h273 rfl fun a274 h274 => ?_; clear h273
   refine pk0 (v := .bool (K == 1)) h274 rfl fun a275 h275 => ?_; clear h274
   refine pk0 (v := .bool (K == 1)) h275 rfl fun a276 h276 => ?_; clear h275
   refine pl_nil ?_
   refine co_then ?_
   have hc277 : (K == 1) = true := by first | (simp; done) | (simp; omega) | exact beq_false_of_ne (by omega) | exact beq_iff_eq.2 (by omega)
   rw [hc277] at h276; clear hc277
   refine co_true h276 rfl ?_
   refine co_seq ?_
   refine dr_gen (fun x => But (S) w x ∧ Blk x b 95 #[pt NA 0, pt NB 0, .int .i64 P.b0, .int .i64 P.b1, wv, tv, .int .i64 P.s0, .int .i64 P.s1, .int .i64 P.t0, .int .i64 P.t1, .bool true]) (by kernel_rfl) (fun w278 hg279 => ?_) (fun w278 hg279 => ?_)
   ·
    have hz280 := hg279.size
    have hB281 := fbU_new hB264 hg279
    have hk282 := hk253.kept hg279 (by simp)
    exact ⟨hB281, hk282⟩
   have hz283 := hg279.size
   have hB284 := fbU_new hB264 hg279
   have hk285 := hk253.kept hg279 (by simp)
   refine dk0 0 (v := pt b 0) h276 rfl rfl ⟨hB284, hk285⟩ fun a286 h286 => ?_; clear h276
   refine dk0 1 (v := .int .i64 1) h286 rfl rfl ⟨hB284, hk285⟩ fun a287 h287 => ?_; clear h286
   refine dk0 2 (v := pt b 0) h287 rfl rfl ⟨hB284, hk285⟩ fun a288 h288 => ?_; clear h287
   refine dk0 3 (v := pt b 0) h288 rfl rfl ⟨hB284, hk285⟩ fun a289 h289 => ?_; clear h288
   refine dk0 4 (v := pt b 1) h289 rfl rfl ⟨hB284, hk285⟩ fun a290 h290 => ?_; clear h289
   refine dk 5 (v := pt NB 0) h290 rfl rfl ⟨hB284, hk285⟩ (fun x hx => (rn_load1 rfl rfl Try.isAgg53 (hx.2.cell rfl))) fun a291 h291 => ?_; clear h290
   refine dk0 6 (v := pt b 0) h291 rfl rfl ⟨hB284, hk285⟩ fun a292 h292 => ?_; clear h291
   refine dk0 7 (v := .int .i64 1) h292 rfl rfl ⟨hB284, hk285⟩ fun a293 h293 => ?_; clear h292
   refine dk0 8 (v := pt b 0) h293 rfl rfl ⟨hB284, hk285⟩ fun a294 h294 => ?_; clear h293
   refine dk0 9 (v := pt b 6) h294 rfl rfl ⟨hB284, hk285⟩ fun a295 h295 => ?_; clear h294
   refine dk0 10 (v := pt b 7) h295 rfl rfl ⟨hB284, hk285⟩ fun a296 h296 => ?_; clear h295
   refine dk 11 (v := .int .i64 P.s1) h296 rfl rfl ⟨hB284, hk285⟩ (fun x hx => (rn_load1 rfl rfl Try.isAgg3 (hx.2.cell rfl))) fun a297 h297 => ?_; clear h296
   refine dk 12 (v := .int .i64 (P.s1 + 1)) h297 rfl rfl ⟨hB284, hk285⟩ (fun x hx => (rn_arith rfl rfl rfl rfl rfl rfl (IntWalk.i64_in _ (by omega)))) fun a298 h298 => ?_; clear h297
   refine d1 13 h298 rfl rfl (op_call (args := #[.int .i64 (P.s1 + 1)]) (R := fun res xw => res = .string (numT (P.s1 + 1)) ∧ Below w278.heap.size w278 xw) rfl rfl rfl (by kernel_rfl) (by kernel_rfl) (Try.call96 _ _) (number_any (P.s1 + 1) w278 (by omega)) (by rintro e x ⟨rfl, h⟩; exact ⟨_, rfl, rfl, h⟩)) ?_ ?_; clear h298
   ·
    rintro _ w300 ⟨rfl, hb301⟩
    have hz302 := hb301.size
    have hO304 := LkP.gr hO266 hg279 (fun k e => by cases e)
    have ho303 := LkP.ofS hO304
    have hO306 := LkP.gr hO268 hg279 (fun k e => by cases e)
    have ho305 := LkP.ofS hO306
    have hB307 := fbU_call hB284 hb301
    have hk308 := hk285.below hb301
    exact ⟨hB307, hk308⟩
   rintro _ w300 a299 ⟨rfl, hb301⟩ h299
   have hz302 := hb301.size
   have hO304 := LkP.gr hO266 hg279 (fun k e => by cases e)
   have ho303 := LkP.ofS hO304
   have hO306 := LkP.gr hO268 hg279 (fun k e => by cases e)
   have ho305 := LkP.ofS hO306
   have hB307 := fbU_call hB284 hb301
   have hk308 := hk285.below hb301
   have hO312 := LkP.gr hO304 (below_grown hb301) (fun k e => by cases e)
   have ho311 := LkP.ofS hO312
   have hO314 := LkP.gr hO306 (below_grown hb301) (fun k e => by cases e)
   have ho313 := LkP.ofS hO314
   have hr315 := row_kept_new hr255 hg279
   have hr316 := row_kept_new hr315 (below_grown hb301)
   have hr317 := row_kept_new hr270 hg279
   have hr318 := row_kept_new hr317 (below_grown hb301)
   have hk319 := hk247.kept hg279 (by simp)
   have hk320 := hk319.below hb301
   refine d1 14 h299 rfl rfl (op_call (args := #[pt NB 0, .string (numT (P.s1 + 1))]) (R := fun res xw => ∃ S' : Nat → Prop, res = .int .i64 ((sendT P.B ((numT (P.s1 + 1)) : ByteArray)).1) ∧ LkP S' xw NB ((sendT P.B ((numT (P.s1 + 1)) : ByteArray)).2) ∧ Grew SB S' w300 xw) rfl rfl rfl (by kernel_rfl) (by kernel_rfl) (Try.call34 _ _) (kSend w300 ((numT (P.s1 + 1)) : ByteArray) hO314) (by rintro e x ⟨S', h0, h⟩; exact ⟨_, h0, S', rfl, h⟩)) ?_ ?_; clear h299
   ·
    rintro _ w310 ⟨S321, rfl, hO322, hx323⟩
    have hB324 := fbU_foot hB307 hx323.but (fun i hi hq => by rcases hinB i hq with k | k; exact k; omega)
    have hz325 := hB324.size
    have hz326 := hx323.but.size
    have hin327 : ∀ q, S321 q → S q ∨ w.heap.size ≤ q := fun q hq => by rcases hx323.sub q hq with k | k; exact hinB q k; exact .inr (by omega)
    have hk328 := Blk.butS hk308 hx323.but hQ.nB
    exact ⟨hB324, hk328⟩
   rintro _ w310 a309 ⟨S321, rfl, hO322, hx323⟩ h309
   have hB324 := fbU_foot hB307 hx323.but (fun i hi hq => by rcases hinB i hq with k | k; exact k; omega)
   have hz325 := hB324.size
   have hz326 := hx323.but.size
   have hin327 : ∀ q, S321 q → S q ∨ w.heap.size ≤ q := fun q hq => by rcases hx323.sub q hq with k | k; exact hinB q k; exact .inr (by omega)
   have hk328 := Blk.butS hk308 hx323.but hQ.nB
   refine dk0 15 (v := .bool ((sendT P.B ((numT (P.s1 + 1)) : ByteArray)).1 == 0)) h309 rfl rfl ⟨hB324, hk328⟩ fun a329 h329 => ?_; clear h309
   refine dr_done (by kernel_rfl) ?_
   refine co_then ?_
   cases hc330 : ((sendT P.B ((numT (P.s1 + 1)) : ByteArray)).1 == 0)
   ·
    rw [hc330] at h329
    have hp331 : ¬ ((sendT P.B ((numT (P.s1 + 1)) : ByteArray)).1 = 0) := by first | simpa using hc330 | simpa [and_assoc] using hc330
    clear hc330
    refine co_false h329 rfl ?_
    refine wp_skip ?_
    refine co_blockN ?_
    refine co_ret0n h329 rfl ?_
    have hO332 := LkP.but hO312 hx323.but hQ.ap
    have hr333 := own_butS hr316 hx323.but hQ.wB
    have hr334 := own_butS hr318 hx323.but hQ.tB
    obtain ⟨S9, h1, h2⟩ := PrO.fin (P := { P with B := (sendT P.B (numT (P.s1 + 1))).2, s1 := P.s1 }) (NA := NA) (NB := NB) (wv := wv) (tv := tv) (w := w) hk328 hO332 hO322 hr333 hr334 (ap_symm (Grew.ap hx323 (ap_symm hQ.ap) (LkP.ofS hO312))) hQ.nA (Grew.off hx323 hQ.nB hk308.lt) hQ.wA (Grew.offR hx323 hr316 hQ.wB) hQ.tA (Grew.offR hx323 hr318 hQ.tB) hSb hinA hin327 hinw hint hB324
    have hEq : sendP P 1 = { P with B := (sendT P.B (numT (P.s1 + 1))).2, s1 := P.s1 } := by unfold sendP; rw [if_neg (by decide), if_neg (by omega)]
    exact ⟨sendP P 1, S9, rfl, StepR.send _ (by decide), by rw [hEq]; exact h1, h2, hB324⟩
   ·
    rw [hc330] at h329
    have hp335 : (sendT P.B ((numT (P.s1 + 1)) : ByteArray)).1 = 0 := by first | simpa using hc330 | simpa [and_assoc] using hc330
    clear hc330
    refine co_true h329 rfl ?_
    refine dr_gen (fun x => But (S) w x) (by kernel_rfl) (fun w336 hg337 => ?_) (fun w336 hg337 => ?_)
    ·
     have hz338 := hg337.size
     have hB339 := fbU_new hB324 hg337
     exact hB339
    have hz340 := hg337.size
    have hB341 := fbU_new hB324 hg337
    refine dk0 0 (v := pt b 0) h329 rfl rfl hB341 fun a342 h342 => ?_; clear h329
    refine dk0 1 (v := .int .i64 1) h342 rfl rfl hB341 fun a343 h343 => ?_; clear h342
    refine dk0 2 (v := pt b 0) h343 rfl rfl hB341 fun a344 h344 => ?_; clear h343
    refine dk0 3 (v := pt b 6) h344 rfl rfl hB341 fun a345 h345 => ?_; clear h344
    refine dk0 4 (v := pt b 7) h345 rfl rfl hB341 fun a346 h346 => ?_; clear h345
    refine dk0 7 (v := pt b 0) h346 rfl rfl hB341 fun a347 h347 => ?_; clear h346
    refine dk0 8 (v := pt b 6) h347 rfl rfl hB341 fun a348 h348 => ?_; clear h347
    refine dr_many [5] (by kernel_rfl) (by simp) ⟨?_, trivial⟩
    ·
     have hk349 := hk328.kept hg337 (by simp)
     refine dr_opVal (i := 5) (v := .int .i64 P.s1) h348 rfl rfl rfl rfl (by kernel_rfl) rfl (rn_load1 rfl rfl Try.isAgg3 (hk349.cell rfl)) hB341 (fun a350 h350 => ?_); clear h348
     refine dk 6 (v := .int .i64 (P.s1 + 1)) h350 rfl rfl hB341 (fun x hx => (rn_arith rfl rfl rfl rfl rfl rfl (IntWalk.i64_in _ (by omega)))) fun a351 h351 => ?_; clear h350
     refine dk0 9 (v := pt b 7) h351 rfl rfl hB341 fun a352 h352 => ?_; clear h351
     refine d1D 10 h352 rfl rfl (op_store1 rfl rfl rfl rfl Try.sizeOf3 hk349 rfl) ?_ ?_; clear h352
     ·
      rintro _ w354 ⟨hk355, hz356, hg357⟩
      have hk355' : Blk w354 b 95 #[pt NA 0, pt NB 0, .int .i64 P.b0, .int .i64 P.b1, wv, tv, .int .i64 P.s0, .int .i64 (P.s1 + 1), .int .i64 P.t0, .int .i64 P.t1, .bool true] := hk355; clear hk355
      have hz358 := hg357.size
      have hB359 := fbU_at hB341 hg357 (fun hlt => by rcases hSb with hq | hq; exact hq; omega)
      exact hB359
     rintro _ w354 a353 ⟨hk355, hz356, hg357⟩ h353
     have hk355' : Blk w354 b 95 #[pt NA 0, pt NB 0, .int .i64 P.b0, .int .i64 P.b1, wv, tv, .int .i64 P.s0, .int .i64 (P.s1 + 1), .int .i64 P.t0, .int .i64 P.t1, .bool true] := hk355; clear hk355
     have hz358 := hg357.size
     refine dr_done (by kernel_rfl) ?_
     refine co_blockN ?_
     refine co_ret0n h353 rfl ?_
     have hO359 := LkP.but hO312 hx323.but hQ.ap
     have hO360 := LkP.gr hO359 hg337 (fun k e => by cases e)
     have hO361 := LkP.gr hO360 hg357 (fun k e => by cases e; exact hQ.nA)
     have hO362 := LkP.gr hO322 hg337 (fun k e => by cases e)
     have hO363 := LkP.gr hO362 hg357 (fun k e => by cases e; exact (Grew.off hx323 hQ.nB hk308.lt))
     have hr364 := own_butS hr316 hx323.but hQ.wB
     have hr365 := row_kept_new hr364 hg337
     have hr366 := row_kept_at hr365 hg357 (own_neT hr365 hk349 (by decide))
     have hr367 := own_butS hr318 hx323.but hQ.tB
     have hr368 := row_kept_new hr367 hg337
     have hr369 := row_kept_at hr368 hg357 (own_neT hr368 hk349 (by decide))
     have hB370 := fbU_at hB341 hg357 (fun hlt => by rcases hSb with hq | hq; exact hq; omega)
     obtain ⟨S9, h1, h2⟩ := PrO.fin (P := { P with B := (sendT P.B (numT (P.s1 + 1))).2, s1 := P.s1 + 1 }) (NA := NA) (NB := NB) (wv := wv) (tv := tv) (w := w) hk355' hO361 hO363 hr366 hr369 (ap_symm (Grew.ap hx323 (ap_symm hQ.ap) (LkP.ofS hO312))) hQ.nA (Grew.off hx323 hQ.nB hk308.lt) hQ.wA (Grew.offR hx323 hr316 hQ.wB) hQ.tA (Grew.offR hx323 hr318 hQ.tB) hSb hinA hin327 hinw hint hB370
     have hEq : sendP P 1 = { P with B := (sendT P.B (numT (P.s1 + 1))).2, s1 := P.s1 + 1 } := by unfold sendP; rw [if_neg (by decide), if_pos (by omega)]
     exact ⟨sendP P 1, S9, rfl, StepR.send _ (by decide), by rw [hEq]; exact h1, h2, hB370⟩
  ·
   rw [hc263] at h262
   have hp371 : K = 0 := by first | simpa using hc263 | simpa [and_assoc] using hc263
   clear hc263
   refine psk h262 rfl fun a372 h372 => ?_; clear h262
   refine psk h372 rfl fun a373 h373 => ?_; clear h372
   refine psk h373 rfl fun a374 h374 => ?_; clear h373
   refine pk0 (v := .bool true) h374 rfl fun a375 h375 => ?_; clear h374
   refine pk0 (v := .bool true) h375 rfl fun a376 h376 => ?_; clear h375
   refine pl_nil ?_
   refine co_then ?_
   refine co_true h376 rfl ?_
   refine co_seq ?_
   refine dr_gen (fun x => But (S) w x ∧ Blk x b 95 #[pt NA 0, pt NB 0, .int .i64 P.b0, .int .i64 P.b1, wv, tv, .int .i64 P.s0, .int .i64 P.s1, .int .i64 P.t0, .int .i64 P.t1, .bool true]) (by kernel_rfl) (fun w377 hg378 => ?_) (fun w377 hg378 => ?_)
   ·
    have hz379 := hg378.size
    have hB380 := fbU_new hB264 hg378
    have hk381 := hk253.kept hg378 (by simp)
    exact ⟨hB380, hk381⟩
   have hz382 := hg378.size
   have hB383 := fbU_new hB264 hg378
   have hk384 := hk253.kept hg378 (by simp)
   refine dk0 0 (v := pt b 0) h376 rfl rfl ⟨hB383, hk384⟩ fun a385 h385 => ?_; clear h376
   refine dk0 1 (v := .int .i64 1) h385 rfl rfl ⟨hB383, hk384⟩ fun a386 h386 => ?_; clear h385
   refine dk0 2 (v := pt b 0) h386 rfl rfl ⟨hB383, hk384⟩ fun a387 h387 => ?_; clear h386
   refine dk0 3 (v := pt b 0) h387 rfl rfl ⟨hB383, hk384⟩ fun a388 h388 => ?_; clear h387
   refine dk0 4 (v := pt b 1) h388 rfl rfl ⟨hB383, hk384⟩ fun a389 h389 => ?_; clear h388
   refine dk 5 (v := pt NB 0) h389 rfl rfl ⟨hB383, hk384⟩ (fun x hx => (rn_load1 rfl rfl Try.isAgg53 (hx.2.cell rfl))) fun a390 h390 => ?_; clear h389
   refine dk0 6 (v := pt b 0) h390 rfl rfl ⟨hB383, hk384⟩ fun a391 h391 => ?_; clear h390
   refine dk0 7 (v := .int .i64 1) h391 rfl rfl ⟨hB383, hk384⟩ fun a392 h392 => ?_; clear h391
   refine dk0 8 (v := pt b 0) h392 rfl rfl ⟨hB383, hk384⟩ fun a393 h393 => ?_; clear h392
   refine dk0 9 (v := pt b 6) h393 rfl rfl ⟨hB383, hk384⟩ fun a394 h394 => ?_; clear h393
   refine dk0 10 (v := pt b 7) h394 rfl rfl ⟨hB383, hk384⟩ fun a395 h395 => ?_; clear h394
   refine dk 11 (v := .int .i64 P.s1) h395 rfl rfl ⟨hB383, hk384⟩ (fun x hx => (rn_load1 rfl rfl Try.isAgg3 (hx.2.cell rfl))) fun a396 h396 => ?_; clear h395
   refine dk 12 (v := .int .i64 (P.s1 + 1)) h396 rfl rfl ⟨hB383, hk384⟩ (fun x hx => (rn_arith rfl rfl rfl rfl rfl rfl (IntWalk.i64_in _ (by omega)))) fun a397 h397 => ?_; clear h396
   refine d1 13 h397 rfl rfl (op_call (args := #[.int .i64 (P.s1 + 1)]) (R := fun res xw => res = .string (numT (P.s1 + 1)) ∧ Below w377.heap.size w377 xw) rfl rfl rfl (by kernel_rfl) (by kernel_rfl) (Try.call96 _ _) (number_any (P.s1 + 1) w377 (by omega)) (by rintro e x ⟨rfl, h⟩; exact ⟨_, rfl, rfl, h⟩)) ?_ ?_; clear h397
   ·
    rintro _ w399 ⟨rfl, hb400⟩
    have hz401 := hb400.size
    have hO403 := LkP.gr hO266 hg378 (fun k e => by cases e)
    have ho402 := LkP.ofS hO403
    have hO405 := LkP.gr hO268 hg378 (fun k e => by cases e)
    have ho404 := LkP.ofS hO405
    have hB406 := fbU_call hB383 hb400
    have hk407 := hk384.below hb400
    exact ⟨hB406, hk407⟩
   rintro _ w399 a398 ⟨rfl, hb400⟩ h398
   have hz401 := hb400.size
   have hO403 := LkP.gr hO266 hg378 (fun k e => by cases e)
   have ho402 := LkP.ofS hO403
   have hO405 := LkP.gr hO268 hg378 (fun k e => by cases e)
   have ho404 := LkP.ofS hO405
   have hB406 := fbU_call hB383 hb400
   have hk407 := hk384.below hb400
   have hO411 := LkP.gr hO403 (below_grown hb400) (fun k e => by cases e)
   have ho410 := LkP.ofS hO411
   have hO413 := LkP.gr hO405 (below_grown hb400) (fun k e => by cases e)
   have ho412 := LkP.ofS hO413
   have hr414 := row_kept_new hr255 hg378
   have hr415 := row_kept_new hr414 (below_grown hb400)
   have hr416 := row_kept_new hr270 hg378
   have hr417 := row_kept_new hr416 (below_grown hb400)
   have hk418 := hk247.kept hg378 (by simp)
   have hk419 := hk418.below hb400
   refine d1 14 h398 rfl rfl (op_call (args := #[pt NB 0, .string (numT (P.s1 + 1))]) (R := fun res xw => ∃ S' : Nat → Prop, res = .int .i64 ((sendT P.B ((numT (P.s1 + 1)) : ByteArray)).1) ∧ LkP S' xw NB ((sendT P.B ((numT (P.s1 + 1)) : ByteArray)).2) ∧ Grew SB S' w399 xw) rfl rfl rfl (by kernel_rfl) (by kernel_rfl) (Try.call34 _ _) (kSend w399 ((numT (P.s1 + 1)) : ByteArray) hO413) (by rintro e x ⟨S', h0, h⟩; exact ⟨_, h0, S', rfl, h⟩)) ?_ ?_; clear h398
   ·
    rintro _ w409 ⟨S420, rfl, hO421, hx422⟩
    have hB423 := fbU_foot hB406 hx422.but (fun i hi hq => by rcases hinB i hq with k | k; exact k; omega)
    have hz424 := hB423.size
    have hz425 := hx422.but.size
    have hin426 : ∀ q, S420 q → S q ∨ w.heap.size ≤ q := fun q hq => by rcases hx422.sub q hq with k | k; exact hinB q k; exact .inr (by omega)
    have hk427 := Blk.butS hk407 hx422.but hQ.nB
    exact ⟨hB423, hk427⟩
   rintro _ w409 a408 ⟨S420, rfl, hO421, hx422⟩ h408
   have hB423 := fbU_foot hB406 hx422.but (fun i hi hq => by rcases hinB i hq with k | k; exact k; omega)
   have hz424 := hB423.size
   have hz425 := hx422.but.size
   have hin426 : ∀ q, S420 q → S q ∨ w.heap.size ≤ q := fun q hq => by rcases hx422.sub q hq with k | k; exact hinB q k; exact .inr (by omega)
   have hk427 := Blk.butS hk407 hx422.but hQ.nB
   refine dk0 15 (v := .bool ((sendT P.B ((numT (P.s1 + 1)) : ByteArray)).1 == 0)) h408 rfl rfl ⟨hB423, hk427⟩ fun a428 h428 => ?_; clear h408
   refine dr_done (by kernel_rfl) ?_
   refine co_then ?_
   cases hc429 : ((sendT P.B ((numT (P.s1 + 1)) : ByteArray)).1 == 0)
   ·
    rw [hc429] at h428
    have hp430 : ¬ ((sendT P.B ((numT (P.s1 + 1)) : ByteArray)).1 = 0) := by first | simpa using hc429 | simpa [and_assoc] using hc429
    clear hc429
    refine co_false h428 rfl ?_
    refine wp_skip ?_
    refine co_blockN ?_
    refine co_ret0n h428 rfl ?_
    have hO431 := LkP.but hO411 hx422.but hQ.ap
    have hr432 := own_butS hr415 hx422.but hQ.wB
    have hr433 := own_butS hr417 hx422.but hQ.tB
    obtain ⟨S9, h1, h2⟩ := PrO.fin (P := { P with B := (sendT P.B (numT (P.s1 + 1))).2, s1 := P.s1 }) (NA := NA) (NB := NB) (wv := wv) (tv := tv) (w := w) hk427 hO431 hO421 hr432 hr433 (ap_symm (Grew.ap hx422 (ap_symm hQ.ap) (LkP.ofS hO411))) hQ.nA (Grew.off hx422 hQ.nB hk407.lt) hQ.wA (Grew.offR hx422 hr415 hQ.wB) hQ.tA (Grew.offR hx422 hr417 hQ.tB) hSb hinA hin426 hinw hint hB423
    have hEq : sendP P 1 = { P with B := (sendT P.B (numT (P.s1 + 1))).2, s1 := P.s1 } := by unfold sendP; rw [if_neg (by decide), if_neg (by omega)]
    exact ⟨sendP P 1, S9, rfl, StepR.send _ (by decide), by rw [hEq]; exact h1, h2, hB423⟩
   ·
    rw [hc429] at h428
    have hp434 : (sendT P.B ((numT (P.s1 + 1)) : ByteArray)).1 = 0 := by first | simpa using hc429 | simpa [and_assoc] using hc429
    clear hc429
    refine co_true h428 rfl ?_
    refine dr_gen (fun x => But (S) w x) (by kernel_rfl) (fun w435 hg436 => ?_) (fun w435 hg436 => ?_)
    ·
     have hz437 := hg436.size
     have hB438 := fbU_new hB423 hg436
     exact hB438
    have hz439 := hg436.size
    have hB440 := fbU_new hB423 hg436
    refine dk0 0 (v := pt b 0) h428 rfl rfl hB440 fun a441 h441 => ?_; clear h428
    refine dk0 1 (v := .int .i64 1) h441 rfl rfl hB440 fun a442 h442 => ?_; clear h441
    refine dk0 2 (v := pt b 0) h442 rfl rfl hB440 fun a443 h443 => ?_; clear h442
    refine dk0 3 (v := pt b 6) h443 rfl rfl hB440 fun a444 h444 => ?_; clear h443
    refine dk0 4 (v := pt b 7) h444 rfl rfl hB440 fun a445 h445 => ?_; clear h444
    refine dk0 7 (v := pt b 0) h445 rfl rfl hB440 fun a446 h446 => ?_; clear h445
    refine dk0 8 (v := pt b 6) h446 rfl rfl hB440 fun a447 h447 => ?_; clear h446
    refine dr_many [5] (by kernel_rfl) (by simp) ⟨?_, trivial⟩
    ·
     have hk448 := hk427.kept hg436 (by simp)
     refine dr_opVal (i := 5) (v := .int .i64 P.s1) h447 rfl rfl rfl rfl (by kernel_rfl) rfl (rn_load1 rfl rfl Try.isAgg3 (hk448.cell rfl)) hB440 (fun a449 h449 => ?_); clear h447
     refine dk 6 (v := .int .i64 (P.s1 + 1)) h449 rfl rfl hB440 (fun x hx => (rn_arith rfl rfl rfl rfl rfl rfl (IntWalk.i64_in _ (by omega)))) fun a450 h450 => ?_; clear h449
     refine dk0 9 (v := pt b 7) h450 rfl rfl hB440 fun a451 h451 => ?_; clear h450
     refine d1D 10 h451 rfl rfl (op_store1 rfl rfl rfl rfl Try.sizeOf3 hk448 rfl) ?_ ?_; clear h451
     ·
      rintro _ w453 ⟨hk454, hz455, hg456⟩
      have hk454' : Blk w453 b 95 #[pt NA 0, pt NB 0, .int .i64 P.b0, .int .i64 P.b1, wv, tv, .int .i64 P.s0, .int .i64 (P.s1 + 1), .int .i64 P.t0, .int .i64 P.t1, .bool true] := hk454; clear hk454
      have hz457 := hg456.size
      have hB458 := fbU_at hB440 hg456 (fun hlt => by rcases hSb with hq | hq; exact hq; omega)
      exact hB458
     rintro _ w453 a452 ⟨hk454, hz455, hg456⟩ h452
     have hk454' : Blk w453 b 95 #[pt NA 0, pt NB 0, .int .i64 P.b0, .int .i64 P.b1, wv, tv, .int .i64 P.s0, .int .i64 (P.s1 + 1), .int .i64 P.t0, .int .i64 P.t1, .bool true] := hk454; clear hk454
     have hz457 := hg456.size
     refine dr_done (by kernel_rfl) ?_
     refine co_blockN ?_
     refine co_ret0n h452 rfl ?_
     have hO458 := LkP.but hO411 hx422.but hQ.ap
     have hO459 := LkP.gr hO458 hg436 (fun k e => by cases e)
     have hO460 := LkP.gr hO459 hg456 (fun k e => by cases e; exact hQ.nA)
     have hO461 := LkP.gr hO421 hg436 (fun k e => by cases e)
     have hO462 := LkP.gr hO461 hg456 (fun k e => by cases e; exact (Grew.off hx422 hQ.nB hk407.lt))
     have hr463 := own_butS hr415 hx422.but hQ.wB
     have hr464 := row_kept_new hr463 hg436
     have hr465 := row_kept_at hr464 hg456 (own_neT hr464 hk448 (by decide))
     have hr466 := own_butS hr417 hx422.but hQ.tB
     have hr467 := row_kept_new hr466 hg436
     have hr468 := row_kept_at hr467 hg456 (own_neT hr467 hk448 (by decide))
     have hB469 := fbU_at hB440 hg456 (fun hlt => by rcases hSb with hq | hq; exact hq; omega)
     obtain ⟨S9, h1, h2⟩ := PrO.fin (P := { P with B := (sendT P.B (numT (P.s1 + 1))).2, s1 := P.s1 + 1 }) (NA := NA) (NB := NB) (wv := wv) (tv := tv) (w := w) hk454' hO460 hO462 hr465 hr468 (ap_symm (Grew.ap hx422 (ap_symm hQ.ap) (LkP.ofS hO411))) hQ.nA (Grew.off hx422 hQ.nB hk407.lt) hQ.wA (Grew.offR hx422 hr415 hQ.wB) hQ.tA (Grew.offR hx422 hr417 hQ.tB) hSb hinA hin426 hinw hint hB469
     have hEq : sendP P 1 = { P with B := (sendT P.B (numT (P.s1 + 1))).2, s1 := P.s1 + 1 } := by unfold sendP; rw [if_neg (by decide), if_pos (by omega)]
     exact ⟨sendP P 1, S9, rfl, StepR.send _ (by decide), by rw [hEq]; exact h1, h2, hB469⟩
end Go.Proofs.Ythmljllgfigebaa

/- catenalaw22: step, a case (out). Conditions: none. -/
namespace Go.Proofs.Ythmljllgfigebaa
open Go.RowKit Go.PlainAid
set_option linter.unusedVariables false
set_option linter.unusedSimpArgs false

set_option maxRecDepth 100000 in
set_option maxHeartbeats 6400000 in
theorem step_out0 (S : Nat → Prop) (b : Nat) (P : PrT) (K : Int) (n : Int) (g : Bool) (w : World) (hP : PrO S w b P) (hst : StepH P) (hn : 0 ≤ n ∧ n ≤ 255) (hK : K = 2) (hn2 : n.tmod 2 = 0) :
    Calls Try.prog 49 #[pt b 0, .agg #[.int .i64 K, .int .u8 n, .bool g]] w fun e w' => ∃ (P' : PrT) (S' : Nat → Prop), e = .returned (.tuple #[]) ∧ StepR K P P' ∧ PrO S' w' b P' ∧ Grew S S' w w' ∧ But (S) w w' := by
 have hlW := hst.lW
 have hlT := hst.lT
 obtain ⟨q1, q2⟩ := hst.bt
 obtain ⟨q3, q4⟩ := hst.st
 obtain ⟨i0, hi0⟩ : ∃ i0 : Nat, 0 < P.W.length → n.tmod (P.W.length : Nat) = (i0 : Nat) ∧ i0 < P.W.length := ⟨(n.tmod (P.W.length : Nat)).toNat, fun h => by have e1 := Int.tmod_nonneg (P.W.length : Int) hn.1; have e2 := Int.tmod_lt_of_pos n (show (0 : Int) < (P.W.length : Nat) by omega); omega⟩
 have hB0 := But.refl (S) w
 obtain ⟨NA, NB, SA, SB, wv, tv, hQ⟩ := hP
 have hinS : ∀ k, S k → S k ∨ w.heap.size ≤ k := fun k hk => .inl hk
 have hl_b := (PrQ.blk hQ).lt
 refine co_enter (n := 192) Try.func49 rfl rfl rfl [(0, pt b 0), (1, .agg #[.int .i64 K, .int .u8 n, .bool g])] rfl (fun a h0 => ?_)
 refine co_seq ?_
 refine co_reg ?_
 refine pw h0 rfl (op_new (v := fun N => pt N 0) (T := 90) (cs := #[.int .i64 K, .int .u8 n, .bool g]) (by kernel_rfl) (by kernel_rfl) (by kernel_rfl)) ?_; clear h0
 rintro _ w2 a1 ⟨N3, rfl, hN6, hz7, hk5, hg4⟩ h1
 have hz8 := hg4.size
 have ho9 := off_new (PrQ.ofS hQ) hN6
 try dsimp only at h1
 refine pl_nil ?_
 refine co_then ?_
 refine co_seq ?_
 refine co_reg ?_
 refine pk0 (v := pt N3 1) h1 rfl fun a10 h10 => ?_; clear h1
 refine pk (v := .int .u8 n) h10 rfl (rn_load1 rfl rfl Try.isAgg5 (hk5.cell rfl)) fun a11 h11 => ?_; clear h10
 refine pk (v := .int .i64 n) h11 rfl (rn_conv rfl rfl Try.underlying5 Try.underlying3 (IntWalk.i64_in _ (by omega))) fun a12 h12 => ?_; clear h11
 refine pk (v := .int .i64 0) h12 rfl (rn_remP rfl rfl rfl (by decide) rfl hn2) fun a13 h13 => ?_; clear h12
 refine pk0 (v := .int .i64 0) h13 rfl fun a14 h14 => ?_; clear h13
 refine pl_nil ?_
 refine co_then ?_
 refine co_seq ?_
 refine co_reg ?_
 refine pk0 (v := .int .i64 0) h14 rfl fun a15 h15 => ?_; clear h14
 refine pl_nil ?_
 refine co_then ?_
 refine co_seq ?_
 refine co_seq ?_
 refine co_reg ?_
 refine pk0 (v := pt b 0) h15 rfl fun a16 h16 => ?_; clear h15
 refine pk0 (v := pt b 0) h16 rfl fun a17 h17 => ?_; clear h16
 refine pk0 (v := pt b 4) h17 rfl fun a18 h18 => ?_; clear h17
 have hO19 := PrQ.gr hQ hg4 (fun k e => by cases e)
 refine pk (v := wv) h18 rfl (rn_load1 rfl rfl Try.isAgg67 (PrQ.cell4 hO19)) fun a20 h20 => ?_; clear h18
 refine pk (v := .int .i64 ((P.W.length : Nat) : Int)) h20 rfl (rn_len rfl rfl Try.underlying67 (PrQ.sl hO19)) fun a21 h21 => ?_; clear h20
 refine pk0 (v := .bool (decide (((P.W.length : Nat) : Int) > 0))) h21 rfl fun a22 h22 => ?_; clear h21
 refine pl_nil ?_
 refine co_then ?_
 have hB24 := fbU_new hB0 hg4
 cases hc23 : (decide (((P.W.length : Nat) : Int) > 0))
 ·
  rw [hc23] at h22
  have hp25 : ¬ (((P.W.length : Nat) : Int) > 0) := of_decide_eq_false hc23
  clear hc23
  refine co_false h22 rfl ?_
  refine wp_skip ?_
  refine co_then ?_
  refine wp_block ?_
  refine co_seq ?_
  refine co_reg ?_
  refine pk0 (v := pt N3 0) h22 rfl fun a26 h26 => ?_; clear h22
  refine pk (v := .int .i64 K) h26 rfl (rn_load1 rfl rfl Try.isAgg3 (hk5.cell rfl)) fun a27 h27 => ?_; clear h26
  refine pk0 (v := .bool (K == 0)) h27 rfl fun a28 h28 => ?_; clear h27
  refine pk0 (v := .bool (K == 0)) h28 rfl fun a29 h29 => ?_; clear h28
  have hc30 : (K == 0) = false := by first | (simp; done) | (simp; omega) | exact beq_false_of_ne (by omega) | exact beq_iff_eq.2 (by omega)
  rw [hc30] at h29; clear hc30
  refine pk0 (v := pt N3 0) h29 rfl fun a31 h31 => ?_; clear h29
  refine pk (v := .int .i64 K) h31 rfl (rn_load1 rfl rfl Try.isAgg3 (hk5.cell rfl)) fun a32 h32 => ?_; clear h31
  refine pk0 (v := .bool (K == 1)) h32 rfl fun a33 h33 => ?_; clear h32
  refine pk0 (v := .bool (K == 1)) h33 rfl fun a34 h34 => ?_; clear h33
  refine pk0 (v := .bool (K == 1)) h34 rfl fun a35 h35 => ?_; clear h34
  refine pl_nil ?_
  refine co_then ?_
  have hc36 : (K == 1) = false := by first | (simp; done) | (simp; omega) | exact beq_false_of_ne (by omega) | exact beq_iff_eq.2 (by omega)
  rw [hc36] at h35; clear hc36
  refine co_false h35 rfl ?_
  refine co_seq ?_
  refine co_reg ?_
  refine pk0 (v := pt N3 0) h35 rfl fun a37 h37 => ?_; clear h35
  refine pk (v := .int .i64 K) h37 rfl (rn_load1 rfl rfl Try.isAgg3 (hk5.cell rfl)) fun a38 h38 => ?_; clear h37
  refine pk0 (v := .bool (K == 2)) h38 rfl fun a39 h39 => ?_; clear h38
  refine pk0 (v := .bool (K == 2)) h39 rfl fun a40 h40 => ?_; clear h39
  refine pl_nil ?_
  refine co_then ?_
  have hc41 : (K == 2) = true := by first | (simp; done) | (simp; omega) | exact beq_false_of_ne (by omega) | exact beq_iff_eq.2 (by omega)
  rw [hc41] at h40; clear hc41
  refine co_true h40 rfl ?_
  refine co_reg ?_
  refine pk0 (v := pt b 0) h40 rfl fun a42 h42 => ?_; clear h40
  refine pk0 (v := .int .i64 0) h42 rfl fun a43 h43 => ?_; clear h42
  refine pk0 (v := pt N3 2) h43 rfl fun a44 h44 => ?_; clear h43
  refine pk (v := .bool g) h44 rfl (rn_load1 rfl rfl Try.isAgg4 (hk5.cell rfl)) fun a45 h45 => ?_; clear h44
  have ho48 := PrQ.ofS hO19
  refine pw h45 rfl (op_call (args := #[pt b 0, .int .i64 0, .bool g]) (R := fun res xw => ∃ k : Nat, ∃ S' : Nat → Prop, res = .tuple #[] ∧ PrO S' xw b (outP P 0 g k) ∧ (k ≤ (if (0 : Int) = 0 then outT (P).A g else outT (P).B g).length) ∧ ((outP P 0 g k).W.length ≤ 200) ∧ Grew S S' w2 xw) rfl rfl rfl (by kernel_rfl) (by kernel_rfl) (Try.call50 _ _) (prOut_any S b P 0 g w2 (PrQ.o hO19) hlW hlT (by decide)) (by rintro e x ⟨k, S', h0, h1, h2, h3, h4, _⟩; exact ⟨_, h0, k, S', rfl, h3, h1, h2, h4⟩)) ?_; clear h45
  rintro _ w47 a46 ⟨k49, S50, rfl, hO51, hq53, hq54, hx52⟩ h46
  have hB55 := fbU_foot hB24 hx52.but (fun i hi hq => by rcases hinS i hq with k | k; exact k; omega)
  have hz56 := hB55.size
  have hz57 := hx52.but.size
  have hin58 : ∀ q, S50 q → S q ∨ w.heap.size ≤ q := fun q hq => by rcases hx52.sub q hq with k | k; exact hinS q k; exact .inr (by omega)
  refine pl_nil ?_
  refine co_blockN ?_
  refine co_ret0n h46 rfl ?_
  exact ⟨_, S50, rfl, (StepR.out _ _ k49 (by decide) hq54 hq53), hO51, ⟨hin58, hB55⟩, hB55⟩
 ·
  rw [hc23] at h22
  have hp59 : ((P.W.length : Nat) : Int) > 0 := of_decide_eq_true hc23
  clear hc23
  refine co_true h22 rfl ?_
  refine dr_eq (by kernel_rfl) (fun w60 hg61 => ?_)
  have hz62 := hg61.size
  refine dk0 0 (v := pt N3 1) h22 rfl rfl rfl fun a63 h63 => ?_; clear h22
  have hk64 := hk5.kept hg61 (by simp)
  refine dk 1 (v := .int .u8 n) h63 rfl rfl rfl (fun x hx => by subst hx; exact (rn_load1 rfl rfl Try.isAgg5 (hk64.cell rfl))) fun a65 h65 => ?_; clear h63
  refine dk 2 (v := .int .i64 n) h65 rfl rfl rfl (fun x hx => by subst hx; exact (rn_conv rfl rfl Try.underlying5 Try.underlying3 (IntWalk.i64_in _ (by omega)))) fun a66 h66 => ?_; clear h65
  refine dk0 3 (v := pt b 0) h66 rfl rfl rfl fun a67 h67 => ?_; clear h66
  refine dk0 4 (v := pt b 0) h67 rfl rfl rfl fun a68 h68 => ?_; clear h67
  refine dk0 5 (v := pt b 4) h68 rfl rfl rfl fun a69 h69 => ?_; clear h68
  have hO70 := PrQ.gr hO19 hg61 (fun k e => by cases e)
  refine dk 6 (v := wv) h69 rfl rfl rfl (fun x hx => by subst hx; exact (rn_load1 rfl rfl Try.isAgg67 (PrQ.cell4 hO70))) fun a71 h71 => ?_; clear h69
  refine dk 7 (v := .int .i64 ((P.W.length : Nat) : Int)) h71 rfl rfl rfl (fun x hx => by subst hx; exact (rn_len rfl rfl Try.underlying67 (PrQ.sl hO70))) fun a72 h72 => ?_; clear h71
  have hi1 := (hi0 (by omega)).2
  refine dk 8 (v := .int .i64 ((i0 : Nat) : Int)) h72 rfl rfl rfl (fun x hx => by subst hx; exact (rn_remP rfl rfl rfl (by omega) rfl (hi0 (by omega)).1)) fun a73 h73 => ?_; clear h72
  refine dk0 9 (v := .int .i64 ((i0 : Nat) : Int)) h73 rfl rfl rfl fun a74 h74 => ?_; clear h73
  refine dr_done (by kernel_rfl) ?_
  refine co_then ?_
  refine wp_block ?_
  refine co_seq ?_
  refine co_reg ?_
  refine pk0 (v := pt N3 0) h74 rfl fun a75 h75 => ?_; clear h74
  refine pk (v := .int .i64 K) h75 rfl (rn_load1 rfl rfl Try.isAgg3 (hk64.cell rfl)) fun a76 h76 => ?_; clear h75
  refine pk0 (v := .bool (K == 0)) h76 rfl fun a77 h77 => ?_; clear h76
  refine pk0 (v := .bool (K == 0)) h77 rfl fun a78 h78 => ?_; clear h77
  have hc79 : (K == 0) = false := by first | (simp; done) | (simp; omega) | exact beq_false_of_ne (by omega) | exact beq_iff_eq.2 (by omega)
  rw [hc79] at h78; clear hc79
  refine pk0 (v := pt N3 0) h78 rfl fun a80 h80 => ?_; clear h78
  refine pk (v := .int .i64 K) h80 rfl (rn_load1 rfl rfl Try.isAgg3 (hk64.cell rfl)) fun a81 h81 => ?_; clear h80
  refine pk0 (v := .bool (K == 1)) h81 rfl fun a82 h82 => ?_; clear h81
  refine pk0 (v := .bool (K == 1)) h82 rfl fun a83 h83 => ?_; clear h82
  refine pk0 (v := .bool (K == 1)) h83 rfl fun a84 h84 => ?_; clear h83
  refine pl_nil ?_
  refine co_then ?_
  have hc85 : (K == 1) = false := by first | (simp; done) | (simp; omega) | exact beq_false_of_ne (by omega) | exact beq_iff_eq.2 (by omega)
  rw [hc85] at h84; clear hc85
  refine co_false h84 rfl ?_
  refine co_seq ?_
  refine co_reg ?_
  refine pk0 (v := pt N3 0) h84 rfl fun a86 h86 => ?_; clear h84
  refine pk (v := .int .i64 K) h86 rfl (rn_load1 rfl rfl Try.isAgg3 (hk64.cell rfl)) fun a87 h87 => ?_; clear h86
  refine pk0 (v := .bool (K == 2)) h87 rfl fun a88 h88 => ?_; clear h87
  refine pk0 (v := .bool (K == 2)) h88 rfl fun a89 h89 => ?_; clear h88
  refine pl_nil ?_
  refine co_then ?_
  have hc90 : (K == 2) = true := by first | (simp; done) | (simp; omega) | exact beq_false_of_ne (by omega) | exact beq_iff_eq.2 (by omega)
  rw [hc90] at h89; clear hc90
  refine co_true h89 rfl ?_
  refine co_reg ?_
  refine pk0 (v := pt b 0) h89 rfl fun a91 h91 => ?_; clear h89
  refine pk0 (v := .int .i64 0) h91 rfl fun a92 h92 => ?_; clear h91
  refine pk0 (v := pt N3 2) h92 rfl fun a93 h93 => ?_; clear h92
  refine pk (v := .bool g) h93 rfl (rn_load1 rfl rfl Try.isAgg4 (hk64.cell rfl)) fun a94 h94 => ?_; clear h93
  have ho97 := PrQ.ofS hO70
  have hB98 := fbU_new hB24 hg61
  refine pw h94 rfl (op_call (args := #[pt b 0, .int .i64 0, .bool g]) (R := fun res xw => ∃ k : Nat, ∃ S' : Nat → Prop, res = .tuple #[] ∧ PrO S' xw b (outP P 0 g k) ∧ (k ≤ (if (0 : Int) = 0 then outT (P).A g else outT (P).B g).length) ∧ ((outP P 0 g k).W.length ≤ 200) ∧ Grew S S' w60 xw) rfl rfl rfl (by kernel_rfl) (by kernel_rfl) (Try.call50 _ _) (prOut_any S b P 0 g w60 (PrQ.o hO70) hlW hlT (by decide)) (by rintro e x ⟨k, S', h0, h1, h2, h3, h4, _⟩; exact ⟨_, h0, k, S', rfl, h3, h1, h2, h4⟩)) ?_; clear h94
  rintro _ w96 a95 ⟨k99, S100, rfl, hO101, hq103, hq104, hx102⟩ h95
  have hB105 := fbU_foot hB98 hx102.but (fun i hi hq => by rcases hinS i hq with k | k; exact k; omega)
  have hz106 := hB105.size
  have hz107 := hx102.but.size
  have hin108 : ∀ q, S100 q → S q ∨ w.heap.size ≤ q := fun q hq => by rcases hx102.sub q hq with k | k; exact hinS q k; exact .inr (by omega)
  refine pl_nil ?_
  refine co_blockN ?_
  refine co_ret0n h95 rfl ?_
  exact ⟨_, S100, rfl, (StepR.out _ _ k99 (by decide) hq104 hq103), hO101, ⟨hin108, hB105⟩, hB105⟩
end Go.Proofs.Ythmljllgfigebaa

/- catenalaw22: step, a case (out). Conditions: none. -/
namespace Go.Proofs.Ythmljllgfigebaa
open Go.RowKit Go.PlainAid
set_option linter.unusedVariables false
set_option linter.unusedSimpArgs false

set_option maxRecDepth 100000 in
set_option maxHeartbeats 6400000 in
theorem step_out1 (S : Nat → Prop) (b : Nat) (P : PrT) (K : Int) (n : Int) (g : Bool) (w : World) (hP : PrO S w b P) (hst : StepH P) (hn : 0 ≤ n ∧ n ≤ 255) (hK : K = 2) (hn2 : n.tmod 2 = 1) :
    Calls Try.prog 49 #[pt b 0, .agg #[.int .i64 K, .int .u8 n, .bool g]] w fun e w' => ∃ (P' : PrT) (S' : Nat → Prop), e = .returned (.tuple #[]) ∧ StepR K P P' ∧ PrO S' w' b P' ∧ Grew S S' w w' ∧ But (S) w w' := by
 have hlW := hst.lW
 have hlT := hst.lT
 obtain ⟨q1, q2⟩ := hst.bt
 obtain ⟨q3, q4⟩ := hst.st
 obtain ⟨i0, hi0⟩ : ∃ i0 : Nat, 0 < P.W.length → n.tmod (P.W.length : Nat) = (i0 : Nat) ∧ i0 < P.W.length := ⟨(n.tmod (P.W.length : Nat)).toNat, fun h => by have e1 := Int.tmod_nonneg (P.W.length : Int) hn.1; have e2 := Int.tmod_lt_of_pos n (show (0 : Int) < (P.W.length : Nat) by omega); omega⟩
 have hB0 := But.refl (S) w
 obtain ⟨NA, NB, SA, SB, wv, tv, hQ⟩ := hP
 have hinS : ∀ k, S k → S k ∨ w.heap.size ≤ k := fun k hk => .inl hk
 have hl_b := (PrQ.blk hQ).lt
 refine co_enter (n := 192) Try.func49 rfl rfl rfl [(0, pt b 0), (1, .agg #[.int .i64 K, .int .u8 n, .bool g])] rfl (fun a h0 => ?_)
 refine co_seq ?_
 refine co_reg ?_
 refine pw h0 rfl (op_new (v := fun N => pt N 0) (T := 90) (cs := #[.int .i64 K, .int .u8 n, .bool g]) (by kernel_rfl) (by kernel_rfl) (by kernel_rfl)) ?_; clear h0
 rintro _ w2 a1 ⟨N3, rfl, hN6, hz7, hk5, hg4⟩ h1
 have hz8 := hg4.size
 have ho9 := off_new (PrQ.ofS hQ) hN6
 try dsimp only at h1
 refine pl_nil ?_
 refine co_then ?_
 refine co_seq ?_
 refine co_reg ?_
 refine pk0 (v := pt N3 1) h1 rfl fun a10 h10 => ?_; clear h1
 refine pk (v := .int .u8 n) h10 rfl (rn_load1 rfl rfl Try.isAgg5 (hk5.cell rfl)) fun a11 h11 => ?_; clear h10
 refine pk (v := .int .i64 n) h11 rfl (rn_conv rfl rfl Try.underlying5 Try.underlying3 (IntWalk.i64_in _ (by omega))) fun a12 h12 => ?_; clear h11
 refine pk (v := .int .i64 1) h12 rfl (rn_remP rfl rfl rfl (by decide) rfl hn2) fun a13 h13 => ?_; clear h12
 refine pk0 (v := .int .i64 1) h13 rfl fun a14 h14 => ?_; clear h13
 refine pl_nil ?_
 refine co_then ?_
 refine co_seq ?_
 refine co_reg ?_
 refine pk0 (v := .int .i64 0) h14 rfl fun a15 h15 => ?_; clear h14
 refine pl_nil ?_
 refine co_then ?_
 refine co_seq ?_
 refine co_seq ?_
 refine co_reg ?_
 refine pk0 (v := pt b 0) h15 rfl fun a16 h16 => ?_; clear h15
 refine pk0 (v := pt b 0) h16 rfl fun a17 h17 => ?_; clear h16
 refine pk0 (v := pt b 4) h17 rfl fun a18 h18 => ?_; clear h17
 have hO19 := PrQ.gr hQ hg4 (fun k e => by cases e)
 refine pk (v := wv) h18 rfl (rn_load1 rfl rfl Try.isAgg67 (PrQ.cell4 hO19)) fun a20 h20 => ?_; clear h18
 refine pk (v := .int .i64 ((P.W.length : Nat) : Int)) h20 rfl (rn_len rfl rfl Try.underlying67 (PrQ.sl hO19)) fun a21 h21 => ?_; clear h20
 refine pk0 (v := .bool (decide (((P.W.length : Nat) : Int) > 0))) h21 rfl fun a22 h22 => ?_; clear h21
 refine pl_nil ?_
 refine co_then ?_
 have hB24 := fbU_new hB0 hg4
 cases hc23 : (decide (((P.W.length : Nat) : Int) > 0))
 ·
  rw [hc23] at h22
  have hp25 : ¬ (((P.W.length : Nat) : Int) > 0) := of_decide_eq_false hc23
  clear hc23
  refine co_false h22 rfl ?_
  refine wp_skip ?_
  refine co_then ?_
  refine wp_block ?_
  refine co_seq ?_
  refine co_reg ?_
  refine pk0 (v := pt N3 0) h22 rfl fun a26 h26 => ?_; clear h22
  refine pk (v := .int .i64 K) h26 rfl (rn_load1 rfl rfl Try.isAgg3 (hk5.cell rfl)) fun a27 h27 => ?_; clear h26
  refine pk0 (v := .bool (K == 0)) h27 rfl fun a28 h28 => ?_; clear h27
  refine pk0 (v := .bool (K == 0)) h28 rfl fun a29 h29 => ?_; clear h28
  have hc30 : (K == 0) = false := by first | (simp; done) | (simp; omega) | exact beq_false_of_ne (by omega) | exact beq_iff_eq.2 (by omega)
  rw [hc30] at h29; clear hc30
  refine pk0 (v := pt N3 0) h29 rfl fun a31 h31 => ?_; clear h29
  refine pk (v := .int .i64 K) h31 rfl (rn_load1 rfl rfl Try.isAgg3 (hk5.cell rfl)) fun a32 h32 => ?_; clear h31
  refine pk0 (v := .bool (K == 1)) h32 rfl fun a33 h33 => ?_; clear h32
  refine pk0 (v := .bool (K == 1)) h33 rfl fun a34 h34 => ?_; clear h33
  refine pk0 (v := .bool (K == 1)) h34 rfl fun a35 h35 => ?_; clear h34
  refine pl_nil ?_
  refine co_then ?_
  have hc36 : (K == 1) = false := by first | (simp; done) | (simp; omega) | exact beq_false_of_ne (by omega) | exact beq_iff_eq.2 (by omega)
  rw [hc36] at h35; clear hc36
  refine co_false h35 rfl ?_
  refine co_seq ?_
  refine co_reg ?_
  refine pk0 (v := pt N3 0) h35 rfl fun a37 h37 => ?_; clear h35
  refine pk (v := .int .i64 K) h37 rfl (rn_load1 rfl rfl Try.isAgg3 (hk5.cell rfl)) fun a38 h38 => ?_; clear h37
  refine pk0 (v := .bool (K == 2)) h38 rfl fun a39 h39 => ?_; clear h38
  refine pk0 (v := .bool (K == 2)) h39 rfl fun a40 h40 => ?_; clear h39
  refine pl_nil ?_
  refine co_then ?_
  have hc41 : (K == 2) = true := by first | (simp; done) | (simp; omega) | exact beq_false_of_ne (by omega) | exact beq_iff_eq.2 (by omega)
  rw [hc41] at h40; clear hc41
  refine co_true h40 rfl ?_
  refine co_reg ?_
  refine pk0 (v := pt b 0) h40 rfl fun a42 h42 => ?_; clear h40
  refine pk0 (v := .int .i64 1) h42 rfl fun a43 h43 => ?_; clear h42
  refine pk0 (v := pt N3 2) h43 rfl fun a44 h44 => ?_; clear h43
  refine pk (v := .bool g) h44 rfl (rn_load1 rfl rfl Try.isAgg4 (hk5.cell rfl)) fun a45 h45 => ?_; clear h44
  have ho48 := PrQ.ofS hO19
  refine pw h45 rfl (op_call (args := #[pt b 0, .int .i64 1, .bool g]) (R := fun res xw => ∃ k : Nat, ∃ S' : Nat → Prop, res = .tuple #[] ∧ PrO S' xw b (outP P 1 g k) ∧ (k ≤ (if (1 : Int) = 0 then outT (P).A g else outT (P).B g).length) ∧ ((outP P 1 g k).W.length ≤ 200) ∧ Grew S S' w2 xw) rfl rfl rfl (by kernel_rfl) (by kernel_rfl) (Try.call50 _ _) (prOut_any S b P 1 g w2 (PrQ.o hO19) hlW hlT (by decide)) (by rintro e x ⟨k, S', h0, h1, h2, h3, h4, _⟩; exact ⟨_, h0, k, S', rfl, h3, h1, h2, h4⟩)) ?_; clear h45
  rintro _ w47 a46 ⟨k49, S50, rfl, hO51, hq53, hq54, hx52⟩ h46
  have hB55 := fbU_foot hB24 hx52.but (fun i hi hq => by rcases hinS i hq with k | k; exact k; omega)
  have hz56 := hB55.size
  have hz57 := hx52.but.size
  have hin58 : ∀ q, S50 q → S q ∨ w.heap.size ≤ q := fun q hq => by rcases hx52.sub q hq with k | k; exact hinS q k; exact .inr (by omega)
  refine pl_nil ?_
  refine co_blockN ?_
  refine co_ret0n h46 rfl ?_
  exact ⟨_, S50, rfl, (StepR.out _ _ k49 (by decide) hq54 hq53), hO51, ⟨hin58, hB55⟩, hB55⟩
 ·
  rw [hc23] at h22
  have hp59 : ((P.W.length : Nat) : Int) > 0 := of_decide_eq_true hc23
  clear hc23
  refine co_true h22 rfl ?_
  refine dr_eq (by kernel_rfl) (fun w60 hg61 => ?_)
  have hz62 := hg61.size
  refine dk0 0 (v := pt N3 1) h22 rfl rfl rfl fun a63 h63 => ?_; clear h22
  have hk64 := hk5.kept hg61 (by simp)
  refine dk 1 (v := .int .u8 n) h63 rfl rfl rfl (fun x hx => by subst hx; exact (rn_load1 rfl rfl Try.isAgg5 (hk64.cell rfl))) fun a65 h65 => ?_; clear h63
  refine dk 2 (v := .int .i64 n) h65 rfl rfl rfl (fun x hx => by subst hx; exact (rn_conv rfl rfl Try.underlying5 Try.underlying3 (IntWalk.i64_in _ (by omega)))) fun a66 h66 => ?_; clear h65
  refine dk0 3 (v := pt b 0) h66 rfl rfl rfl fun a67 h67 => ?_; clear h66
  refine dk0 4 (v := pt b 0) h67 rfl rfl rfl fun a68 h68 => ?_; clear h67
  refine dk0 5 (v := pt b 4) h68 rfl rfl rfl fun a69 h69 => ?_; clear h68
  have hO70 := PrQ.gr hO19 hg61 (fun k e => by cases e)
  refine dk 6 (v := wv) h69 rfl rfl rfl (fun x hx => by subst hx; exact (rn_load1 rfl rfl Try.isAgg67 (PrQ.cell4 hO70))) fun a71 h71 => ?_; clear h69
  refine dk 7 (v := .int .i64 ((P.W.length : Nat) : Int)) h71 rfl rfl rfl (fun x hx => by subst hx; exact (rn_len rfl rfl Try.underlying67 (PrQ.sl hO70))) fun a72 h72 => ?_; clear h71
  have hi1 := (hi0 (by omega)).2
  refine dk 8 (v := .int .i64 ((i0 : Nat) : Int)) h72 rfl rfl rfl (fun x hx => by subst hx; exact (rn_remP rfl rfl rfl (by omega) rfl (hi0 (by omega)).1)) fun a73 h73 => ?_; clear h72
  refine dk0 9 (v := .int .i64 ((i0 : Nat) : Int)) h73 rfl rfl rfl fun a74 h74 => ?_; clear h73
  refine dr_done (by kernel_rfl) ?_
  refine co_then ?_
  refine wp_block ?_
  refine co_seq ?_
  refine co_reg ?_
  refine pk0 (v := pt N3 0) h74 rfl fun a75 h75 => ?_; clear h74
  refine pk (v := .int .i64 K) h75 rfl (rn_load1 rfl rfl Try.isAgg3 (hk64.cell rfl)) fun a76 h76 => ?_; clear h75
  refine pk0 (v := .bool (K == 0)) h76 rfl fun a77 h77 => ?_; clear h76
  refine pk0 (v := .bool (K == 0)) h77 rfl fun a78 h78 => ?_; clear h77
  have hc79 : (K == 0) = false := by first | (simp; done) | (simp; omega) | exact beq_false_of_ne (by omega) | exact beq_iff_eq.2 (by omega)
  rw [hc79] at h78; clear hc79
  refine pk0 (v := pt N3 0) h78 rfl fun a80 h80 => ?_; clear h78
  refine pk (v := .int .i64 K) h80 rfl (rn_load1 rfl rfl Try.isAgg3 (hk64.cell rfl)) fun a81 h81 => ?_; clear h80
  refine pk0 (v := .bool (K == 1)) h81 rfl fun a82 h82 => ?_; clear h81
  refine pk0 (v := .bool (K == 1)) h82 rfl fun a83 h83 => ?_; clear h82
  refine pk0 (v := .bool (K == 1)) h83 rfl fun a84 h84 => ?_; clear h83
  refine pl_nil ?_
  refine co_then ?_
  have hc85 : (K == 1) = false := by first | (simp; done) | (simp; omega) | exact beq_false_of_ne (by omega) | exact beq_iff_eq.2 (by omega)
  rw [hc85] at h84; clear hc85
  refine co_false h84 rfl ?_
  refine co_seq ?_
  refine co_reg ?_
  refine pk0 (v := pt N3 0) h84 rfl fun a86 h86 => ?_; clear h84
  refine pk (v := .int .i64 K) h86 rfl (rn_load1 rfl rfl Try.isAgg3 (hk64.cell rfl)) fun a87 h87 => ?_; clear h86
  refine pk0 (v := .bool (K == 2)) h87 rfl fun a88 h88 => ?_; clear h87
  refine pk0 (v := .bool (K == 2)) h88 rfl fun a89 h89 => ?_; clear h88
  refine pl_nil ?_
  refine co_then ?_
  have hc90 : (K == 2) = true := by first | (simp; done) | (simp; omega) | exact beq_false_of_ne (by omega) | exact beq_iff_eq.2 (by omega)
  rw [hc90] at h89; clear hc90
  refine co_true h89 rfl ?_
  refine co_reg ?_
  refine pk0 (v := pt b 0) h89 rfl fun a91 h91 => ?_; clear h89
  refine pk0 (v := .int .i64 1) h91 rfl fun a92 h92 => ?_; clear h91
  refine pk0 (v := pt N3 2) h92 rfl fun a93 h93 => ?_; clear h92
  refine pk (v := .bool g) h93 rfl (rn_load1 rfl rfl Try.isAgg4 (hk64.cell rfl)) fun a94 h94 => ?_; clear h93
  have ho97 := PrQ.ofS hO70
  have hB98 := fbU_new hB24 hg61
  refine pw h94 rfl (op_call (args := #[pt b 0, .int .i64 1, .bool g]) (R := fun res xw => ∃ k : Nat, ∃ S' : Nat → Prop, res = .tuple #[] ∧ PrO S' xw b (outP P 1 g k) ∧ (k ≤ (if (1 : Int) = 0 then outT (P).A g else outT (P).B g).length) ∧ ((outP P 1 g k).W.length ≤ 200) ∧ Grew S S' w60 xw) rfl rfl rfl (by kernel_rfl) (by kernel_rfl) (Try.call50 _ _) (prOut_any S b P 1 g w60 (PrQ.o hO70) hlW hlT (by decide)) (by rintro e x ⟨k, S', h0, h1, h2, h3, h4, _⟩; exact ⟨_, h0, k, S', rfl, h3, h1, h2, h4⟩)) ?_; clear h94
  rintro _ w96 a95 ⟨k99, S100, rfl, hO101, hq103, hq104, hx102⟩ h95
  have hB105 := fbU_foot hB98 hx102.but (fun i hi hq => by rcases hinS i hq with k | k; exact k; omega)
  have hz106 := hB105.size
  have hz107 := hx102.but.size
  have hin108 : ∀ q, S100 q → S q ∨ w.heap.size ≤ q := fun q hq => by rcases hx102.sub q hq with k | k; exact hinS q k; exact .inr (by omega)
  refine pl_nil ?_
  refine co_blockN ?_
  refine co_ret0n h95 rfl ?_
  exact ⟨_, S100, rfl, (StepR.out _ _ k99 (by decide) hq104 hq103), hO101, ⟨hin108, hB105⟩, hB105⟩
end Go.Proofs.Ythmljllgfigebaa
