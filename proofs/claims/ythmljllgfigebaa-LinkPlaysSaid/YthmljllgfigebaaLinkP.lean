/- catenalaw22: LinkPlays. Conditions: none. -/
import Derived.Test.YthmljllgfigebaaLinkO
import Derived.Test.YthmljllgfigebaaGo
namespace Go.Proofs.Ythmljllgfigebaa
open Go.RowKit Go.PlainAid
set_option linter.unusedVariables false

set_option maxRecDepth 100000 in
set_option maxHeartbeats 6400000 in
theorem linkPlays_law (boot : Int) (v : Value) (l : List LActT) (w : World) (hs : SliceOf lactE 11 w v l) (hok : ∀ z ∈ l, LActOk z) :
    Calls Try.prog 7 #[.int .i64 boot, v] w fun e w' => e = .returned (.bool true) ∧ Below w.heap.size w w' := by
 have hB0 := Below.refl w.heap.size w
 have hl_hs := sl_len hs
 by_cases hbt : 1 ≤ boot ∧ boot ≤ 1073741824
 · skip
   refine co_enter (n := 139) Try.func7 rfl rfl rfl [(0, .int .i64 boot), (1, v)] rfl (fun a h0 => ?_)
   refine co_seq ?_
   refine co_reg ?_
   refine pk0 (v := .bool false) h0 rfl fun a1 h1 => ?_; clear h0
   refine pl_nil ?_
   refine co_then ?_
   refine co_seq ?_
   refine co_reg ?_
   refine pk0 (v := .int .i64 boot) h1 rfl fun a2 h2 => ?_; clear h1
   refine pw h2 rfl (op_call (args := #[.int .i64 boot]) (R := fun res xw => ∃ (N : Nat) (S : Nat → Prop), res = .tuple #[pt N 0, .int .i64 0] ∧ LkP S xw N (newLn boot) ∧ (∀ q, S q → w.heap.size ≤ q) ∧ Below w.heap.size w xw) rfl rfl rfl (by kernel_rfl) (by kernel_rfl) (Try.call32 _ _) (nPNew boot w (by omega)) (by rintro e x ⟨N, S, rfl, h⟩; exact ⟨_, rfl, N, S, rfl, h⟩)) ?_; clear h2
   rintro _ w4 a3 ⟨N5, S6, rfl, hO7, hlo8, hb9⟩ h3
   have hz11 := hb9.size
   have hlo12 : ∀ q, S6 q → w.heap.size ≤ q := fun q hq => by have := hlo8 q hq; omega
   refine pk0 (v := .tuple #[pt N5 0, .int .i64 0]) h3 rfl fun a13 h13 => ?_; clear h3
   refine pk0 (v := pt N5 0) h13 rfl fun a14 h14 => ?_; clear h13
   refine pk0 (v := .int .i64 0) h14 rfl fun a15 h15 => ?_; clear h14
   refine pk0 (v := pt N5 0) h15 rfl fun a16 h16 => ?_; clear h15
   refine pk0 (v := .int .i64 0) h16 rfl fun a17 h17 => ?_; clear h16
   refine pl_nil ?_
   refine co_then ?_
   refine co_seq ?_
   refine co_reg ?_
   refine pk0 (v := .int .i64 boot) h17 rfl fun a18 h18 => ?_; clear h17
   have ho21 := LkP.ofS hO7
   refine pw h18 rfl (op_call (args := #[.int .i64 boot]) (R := fun res xw => ∃ (N : Nat) (S : Nat → Prop) (u : Value), res = .tuple #[pt N 0, .int .i64 0] ∧ LkR S xw N u (newLn boot) ∧ (∀ q, S q → w4.heap.size ≤ q) ∧ Below w4.heap.size w4 xw) rfl rfl rfl (by kernel_rfl) (by kernel_rfl) (Try.call33 _ _) (nRNew boot w4 (by omega)) (by rintro e x ⟨N, S, u, rfl, h⟩; exact ⟨_, rfl, N, S, u, rfl, h⟩)) ?_; clear h18
   rintro _ w20 a19 ⟨N22, S23, u27, rfl, hO24, hlo25, hb26⟩ h19
   have hz28 := hb26.size
   have ho29 := LkP.ofS hO7
   have hlo30 : ∀ q, S23 q → w.heap.size ≤ q := fun q hq => by have := hlo25 q hq; omega
   refine pk0 (v := .tuple #[pt N22 0, .int .i64 0]) h19 rfl fun a31 h31 => ?_; clear h19
   refine pk0 (v := pt N22 0) h31 rfl fun a32 h32 => ?_; clear h31
   refine pk0 (v := .int .i64 0) h32 rfl fun a33 h33 => ?_; clear h32
   refine pk0 (v := pt N22 0) h33 rfl fun a34 h34 => ?_; clear h33
   refine pk0 (v := .int .i64 0) h34 rfl fun a35 h35 => ?_; clear h34
   refine pl_nil ?_
   refine co_then ?_
   refine co_seq ?_
   refine co_seq ?_
   refine co_reg ?_
   refine pk0 (v := .int .i64 0) h35 rfl fun a36 h36 => ?_; clear h35
   refine pk0 (v := .int .i64 0) h36 rfl fun a37 h37 => ?_; clear h36
   refine pk0 (v := .bool ((0 : Int) != 0)) h37 rfl fun a38 h38 => ?_; clear h37
   refine pk0 (v := .bool ((0 : Int) != 0)) h38 rfl fun a39 h39 => ?_; clear h38
   have hc40 : ((0 : Int) != 0) = false := by first | (simp; done) | (simp; omega) | exact beq_false_of_ne (by omega) | exact beq_iff_eq.2 (by omega)
   rw [hc40] at h39; clear hc40
   refine pk0 (v := pt N5 0) h39 rfl fun a41 h41 => ?_; clear h39
   refine pk0 (v := .bool false) h41 rfl fun a42 h42 => ?_; clear h41
   refine pk0 (v := pt N22 0) h42 rfl fun a43 h43 => ?_; clear h42
   refine pk0 (v := .bool false) h43 rfl fun a44 h44 => ?_; clear h43
   refine pk0 (v := .bool false) h44 rfl fun a45 h45 => ?_; clear h44
   refine pk0 (v := .bool false) h45 rfl fun a46 h46 => ?_; clear h45
   refine pl_nil ?_
   refine co_then ?_
   refine co_false h46 rfl ?_
   refine wp_skip ?_
   refine co_then ?_
   refine co_seq ?_
   refine co_seq ?_
   refine co_reg ?_
   refine pk0 (v := .int .i64 0) h46 rfl fun a47 h47 => ?_; clear h46
   refine pl_nil ?_
   refine co_then ?_
   refine wp_block ?_
   have hll := hlo12
   have hmm := hlo30
   have haa : ∀ q, S6 q → S23 q → False := (fun q h1 h2 => by have e1 := ho21 q h1; have e2 := hlo25 q h2; omega)
   have h48 : Slots 139 [(0, .int .i64 boot), (1, v), (5, pt N5 0), (7, pt N22 0), (9, .int .i64 0)] _ := h47.sub ⟨rfl, rfl, rfl, rfl, rfl, trivial⟩; clear h47
   refine co_loop (fun mm a x => ∃ (i : Nat) (SA : Nat → Prop) (SB : Nat → Prop) (u : Value) (L : LnT), Slots 139 [(0, .int .i64 boot), (1, v), (5, pt N5 0), (7, pt N22 0), (9, .int .i64 ((i : Nat) : Int))] a ∧ mm = l.length - i ∧ (i ≤ l.length) ∧ (i ≤ 40) ∧ (∀ q, SA q → w.heap.size ≤ q) ∧ (∀ q, SB q → w.heap.size ≤ q) ∧ (∀ q, SA q → SB q → False) ∧ LkP SA x N5 L ∧ LkR SB x N22 u L ∧ Below w.heap.size w x) (l.length - 0) ?_ ?_
   have hO49 := LkP.gr hO7 (below_grown hb26) (fun k e => by cases e)
   have hB50 := hb_call hB0 hb9
   have hB51 := hb_call hB50 hb26
   · exact ⟨0, S6, S23, u27, (newLn boot), h48.sub ⟨rfl, rfl, rfl, rfl, (slot_eq rfl (congrArg (Value.int .i64) (by first | rfl | omega))), trivial⟩, rfl, by omega, by omega, by exact hll, by exact hmm, by exact haa, hO49, hO24, hB51⟩
   · rintro k52 a53 w54 ⟨i, SA, SB, u, L, h53, rfl, hi55, hi56, hi57, hi58, hi59, hf60, hf61, hB62⟩
     have hz63 := hB62.size
     have hg64 : ∀ q, SA q → w.heap.size ≤ q := by assumption
     have hg65 : ∀ q, SB q → w.heap.size ≤ q := by assumption
     have hg66 : ∀ q, SA q → SB q → False := by assumption
     refine co_seq ?_
     refine co_seq ?_
     refine co_reg ?_
     refine pk0 (v := .int .i64 ((i : Nat) : Int)) h53 rfl fun a67 h67 => ?_; clear h53
     refine pk0 (v := v) h67 rfl fun a68 h68 => ?_; clear h67
     refine pk (v := .int .i64 ((l.length : Nat) : Int)) h68 rfl (rn_len rfl rfl Try.underlying52 (hs.below hB62)) fun a69 h69 => ?_; clear h68
     refine pk0 (v := .bool (decide (((i : Nat) : Int) < ((l.length : Nat) : Int)))) h69 rfl fun a70 h70 => ?_; clear h69
     refine pk0 (v := .bool (decide (((i : Nat) : Int) < ((l.length : Nat) : Int)))) h70 rfl fun a71 h71 => ?_; clear h70
     cases hc72 : (decide (((i : Nat) : Int) < ((l.length : Nat) : Int)))
     ·
      rw [hc72] at h71
      have hp73 : ¬ (((i : Nat) : Int) < ((l.length : Nat) : Int)) := of_decide_eq_false hc72
      clear hc72
      refine psk h71 rfl fun a74 h74 => ?_; clear h71
      refine psk h74 rfl fun a75 h75 => ?_; clear h74
      refine pk0 (v := .bool false) h75 rfl fun a76 h76 => ?_; clear h75
      refine pk0 (v := .bool false) h76 rfl fun a77 h77 => ?_; clear h76
      refine psk h77 rfl fun a78 h78 => ?_; clear h77
      refine psk h78 rfl fun a79 h79 => ?_; clear h78
      refine pk0 (v := .bool false) h79 rfl fun a80 h80 => ?_; clear h79
      refine pl_nil ?_
      refine co_then ?_
      refine co_false h80 rfl ?_
      refine wp_exit ?_
      refine co_thenX ?_
      refine co_thenX ?_
      refine co_blockX ?_
      refine co_then ?_
      refine co_seq ?_
      refine co_reg ?_
      refine pw h80 rfl (op_call (args := #[]) (R := fun res xw => res = .bool true ∧ Below w54.heap.size w54 xw) rfl rfl rfl (by kernel_rfl) (by kernel_rfl) (Try.call43 _ _) (awake22 w54) (by rintro e x ⟨rfl, h⟩; exact ⟨_, rfl, rfl, h⟩)) ?_; clear h80
      rintro _ w82 a81 ⟨rfl, hb83⟩ h81
      have hz84 := hb83.size
      have ho85 := LkP.ofS hf60
      have ho86 := LkR.ofS hf61
      refine pk0 (v := .bool true) h81 rfl fun a87 h87 => ?_; clear h81
      refine pl_nil ?_
      refine co_then ?_
      refine wp_ret ?_
      refine co_ret1 h87 rfl rfl ?_
      have hB88 := hb_call hB62 hb83
      exact ⟨rfl, hB88⟩
     ·
      rw [hc72] at h71
      have hp89 : ((i : Nat) : Int) < ((l.length : Nat) : Int) := of_decide_eq_true hc72
      clear hc72
      refine pk0 (v := .int .i64 ((i : Nat) : Int)) h71 rfl fun a90 h90 => ?_; clear h71
      refine pk0 (v := .bool (decide (((i : Nat) : Int) < 40))) h90 rfl fun a91 h91 => ?_; clear h90
      refine pk0 (v := .bool (decide (((i : Nat) : Int) < 40))) h91 rfl fun a92 h92 => ?_; clear h91
      refine pk0 (v := .bool (decide (((i : Nat) : Int) < 40))) h92 rfl fun a93 h93 => ?_; clear h92
      cases hc94 : (decide (((i : Nat) : Int) < 40))
      ·
       rw [hc94] at h93
       have hp95 : ¬ (((i : Nat) : Int) < 40) := of_decide_eq_false hc94
       clear hc94
       refine psk h93 rfl fun a96 h96 => ?_; clear h93
       refine psk h96 rfl fun a97 h97 => ?_; clear h96
       refine pk0 (v := .bool false) h97 rfl fun a98 h98 => ?_; clear h97
       refine pl_nil ?_
       refine co_then ?_
       refine co_false h98 rfl ?_
       refine wp_exit ?_
       refine co_thenX ?_
       refine co_thenX ?_
       refine co_blockX ?_
       refine co_then ?_
       refine co_seq ?_
       refine co_reg ?_
       refine pw h98 rfl (op_call (args := #[]) (R := fun res xw => res = .bool true ∧ Below w54.heap.size w54 xw) rfl rfl rfl (by kernel_rfl) (by kernel_rfl) (Try.call43 _ _) (awake22 w54) (by rintro e x ⟨rfl, h⟩; exact ⟨_, rfl, rfl, h⟩)) ?_; clear h98
       rintro _ w100 a99 ⟨rfl, hb101⟩ h99
       have hz102 := hb101.size
       have ho103 := LkP.ofS hf60
       have ho104 := LkR.ofS hf61
       refine pk0 (v := .bool true) h99 rfl fun a105 h105 => ?_; clear h99
       refine pl_nil ?_
       refine co_then ?_
       refine wp_ret ?_
       refine co_ret1 h105 rfl rfl ?_
       have hB106 := hb_call hB62 hb101
       exact ⟨rfl, hB106⟩
      ·
       rw [hc94] at h93
       have hp107 : ((i : Nat) : Int) < 40 := of_decide_eq_true hc94
       clear hc94
       refine pk0 (v := pt N22 0) h93 rfl fun a108 h108 => ?_; clear h93
       refine pk0 (v := .bool true) h108 rfl fun a109 h109 => ?_; clear h108
       refine pk0 (v := .bool true) h109 rfl fun a110 h110 => ?_; clear h109
       refine pl_nil ?_
       refine co_then ?_
       refine co_true h110 rfl ?_
       refine wp_skip ?_
       refine co_then ?_
       refine co_seq ?_
       refine wp_block ?_
       refine co_seq ?_
       refine co_reg ?_
       refine pk0 (v := .bool true) h110 rfl fun a111 h111 => ?_; clear h110
       refine pl_nil ?_
       refine co_then ?_
       refine co_cut (fun a x => ∃ (S8 : Nat → Prop) (S9 : Nat → Prop) (u9 : Value) (L9 : LnT), Slots 139 [(0, .int .i64 boot), (1, v), (5, pt N5 0), (7, pt N22 0), (9, .int .i64 ((i : Nat) : Int)), (10, .bool true)] a ∧ (∀ q, S8 q → w.heap.size ≤ q) ∧ (∀ q, S9 q → w.heap.size ≤ q) ∧ (∀ q, S8 q → S9 q → False) ∧ LkP S8 x N5 L9 ∧ LkR S9 x N22 u9 L9 ∧ Below w.heap.size w x) ?_ ?_
       ·
        refine co_seq ?_
        refine co_reg ?_
        refine pk0 (v := v) h111 rfl fun a112 h112 => ?_; clear h111
        refine pk0 (v := .int .i64 ((i : Nat) : Int)) h112 rfl fun a113 h113 => ?_; clear h112
        obtain ⟨y114, hy114⟩ : ∃ z, l[i]? = some z := ⟨_, List.getElem?_eq_getElem (by first | omega | (simp; done) | (simp; omega))⟩
        have oky114 := hok _ (List.mem_of_getElem? hy114)
        refine pk (v := pt (blkOf v) (offOf v + i * 11)) h113 rfl (rn_index rfl rfl rfl Try.underlying52 Try.sizeOf63 (hs.below hB62) (by omega) (by first | omega | (simp; done) | (simp; omega))) fun a115 h115 => ?_; clear h113
        refine pk0 (v := pt (blkOf v) (offOf v + i * 11)) h115 rfl fun a116 h116 => ?_; clear h115
        refine pk (v := .int .i64 y114.c) h116 rfl (rn_load1 rfl rfl Try.isAgg3 ((sl_at (hs.below hB62) hy114) 0 _ rfl)) fun a117 h117 => ?_; clear h116
        refine pl_nil ?_
        refine co_then ?_
        refine wp_block ?_
        refine co_seq ?_
        refine co_reg ?_
        refine pk0 (v := .bool (y114.c == 0)) h117 rfl fun a118 h118 => ?_; clear h117
        refine pk0 (v := .bool (y114.c == 0)) h118 rfl fun a119 h119 => ?_; clear h118
        refine pl_nil ?_
        refine co_then ?_
        cases hc120 : (y114.c == 0)
        ·
         rw [hc120] at h119
         have hp121 : ¬ (y114.c = 0) := by first | simpa using hc120 | simpa [and_assoc] using hc120
         clear hc120
         refine co_false h119 rfl ?_
         refine co_seq ?_
         refine co_seq ?_
         refine co_reg ?_
         refine pk0 (v := .bool (y114.c == 1)) h119 rfl fun a122 h122 => ?_; clear h119
         refine pk0 (v := .bool (y114.c == 1)) h122 rfl fun a123 h123 => ?_; clear h122
         refine pl_nil ?_
         refine co_then ?_
         cases hc124 : (y114.c == 1)
         ·
          rw [hc124] at h123
          have hp125 : ¬ (y114.c = 1) := by first | simpa using hc124 | simpa [and_assoc] using hc124
          clear hc124
          refine co_false h123 rfl ?_
          refine co_reg ?_
          refine pk0 (v := .bool (y114.c == 2)) h123 rfl fun a126 h126 => ?_; clear h123
          refine pk0 (v := .bool (y114.c == 2)) h126 rfl fun a127 h127 => ?_; clear h126
          refine pl_nil ?_
          refine co_then ?_
          cases hc128 : (y114.c == 2)
          ·
           rw [hc128] at h127
           have hp129 : ¬ (y114.c = 2) := by first | simpa using hc128 | simpa [and_assoc] using hc128
           clear hc128
           refine co_false h127 rfl ?_
           refine co_seq ?_
           refine co_reg ?_
           refine pk0 (v := pt N5 0) h127 rfl fun a130 h130 => ?_; clear h127
           refine pk0 (v := v) h130 rfl fun a131 h131 => ?_; clear h130
           refine pk0 (v := .int .i64 ((i : Nat) : Int)) h131 rfl fun a132 h132 => ?_; clear h131
           refine pk (v := pt (blkOf v) (offOf v + i * 11)) h132 rfl (rn_index rfl rfl rfl Try.underlying52 Try.sizeOf63 (hs.below hB62) (by omega) (by first | omega | (simp; done) | (simp; omega))) fun a133 h133 => ?_; clear h132
           refine pk0 (v := pt (blkOf v) (offOf v + i * 11 + 3)) h133 rfl fun a134 h134 => ?_; clear h133
           refine pk (v := .agg #[.int .i64 y114.g.boot, .int .i64 y114.g.stream, .int .i64 y114.g.seq, .int .i64 y114.g.ab, .int .i64 y114.g.ast, .int .i64 y114.g.asq, .bool y114.g.has, .string y114.g.body]) h134 rfl (rn_loadN rfl rfl Try.underlying61 rfl (by kernel_rfl) (range_part (sl_at (hs.below hB62) hy114) 3 _ (by rfl))) fun a135 h135 => ?_; clear h134
           have ho138 := LkP.ofS hf60
           have ho139 := LkR.ofS hf61
           refine pw h135 rfl (op_call (args := #[pt N5 0, .agg #[.int .i64 y114.g.boot, .int .i64 y114.g.stream, .int .i64 y114.g.seq, .int .i64 y114.g.ab, .int .i64 y114.g.ast, .int .i64 y114.g.asq, .bool y114.g.has, .string y114.g.body]]) (R := fun res xw => ∃ v : Value, ∃ S' : Nat → Prop, res = .tuple #[v, .int .i64 ((inT L y114.g).2.1)] ∧ LkP S' xw N5 ((inT L y114.g).2.2) ∧ (xw.ownsRow w54.heap.size 9 1 v (inT L y114.g).1.length ((inT L y114.g).1.flatMap strE)) ∧ (∀ i, v.ownBlock = some i → ¬ S' i) ∧ Grew SA S' w54 xw) rfl rfl rfl (by kernel_rfl) (by kernel_rfl) (Try.call39 _ _) (kIn w54 y114.g hf60) (by rintro e x ⟨v, S', h0, h⟩; exact ⟨_, h0, v, S', rfl, h⟩)) ?_; clear h135
           rintro _ w137 a136 ⟨v140, S141, rfl, hO142, hq144, hq145, hx143⟩ h136
           have hlo147 : ∀ q, S141 q → w.heap.size ≤ q := hx143.lo hg64 (by omega)
           have hB146 := hbL hB62 hg64 hx143.but
           have hz148 := hB146.size
           have hz149 := hx143.but.size
           have hl150 : (inT L y114.g).1.length ≤ 1 := by rcases inT_one L y114.g with h | h <;> rw [h] <;> simp
           refine pk0 (v := .tuple #[v140, .int .i64 ((inT L y114.g).2.1)]) h136 rfl fun a151 h151 => ?_; clear h136
           refine pk0 (v := v140) h151 rfl fun a152 h152 => ?_; clear h151
           refine pk0 (v := .int .i64 ((inT L y114.g).2.1)) h152 rfl fun a153 h153 => ?_; clear h152
           refine pk0 (v := v140) h153 rfl fun a154 h154 => ?_; clear h153
           refine pk0 (v := .int .i64 ((inT L y114.g).2.1)) h154 rfl fun a155 h155 => ?_; clear h154
           refine pl_nil ?_
           refine co_then ?_
           refine co_seq ?_
           refine co_reg ?_
           refine pk0 (v := pt N22 0) h155 rfl fun a156 h156 => ?_; clear h155
           refine pk0 (v := v) h156 rfl fun a157 h157 => ?_; clear h156
           refine pk0 (v := .int .i64 ((i : Nat) : Int)) h157 rfl fun a158 h158 => ?_; clear h157
           refine pk (v := pt (blkOf v) (offOf v + i * 11)) h158 rfl (rn_index rfl rfl rfl Try.underlying52 Try.sizeOf63 (hs.below hB146) (by omega) (by first | omega | (simp; done) | (simp; omega))) fun a159 h159 => ?_; clear h158
           refine pk0 (v := pt (blkOf v) (offOf v + i * 11 + 3)) h159 rfl fun a160 h160 => ?_; clear h159
           refine pk (v := .agg #[.int .i64 y114.g.boot, .int .i64 y114.g.stream, .int .i64 y114.g.seq, .int .i64 y114.g.ab, .int .i64 y114.g.ast, .int .i64 y114.g.asq, .bool y114.g.has, .string y114.g.body]) h160 rfl (rn_loadN rfl rfl Try.underlying61 rfl (by kernel_rfl) (range_part (sl_at (hs.below hB146) hy114) 3 _ (by rfl))) fun a161 h161 => ?_; clear h160
           have hO165 := LkR.but hf61 hx143.but (ap_symm hg66)
           have ho164 := LkR.ofS hO165
           have ho166 := LkP.ofS hO142
           refine pw h161 rfl (op_call (args := #[pt N22 0, .agg #[.int .i64 y114.g.boot, .int .i64 y114.g.stream, .int .i64 y114.g.seq, .int .i64 y114.g.ab, .int .i64 y114.g.ast, .int .i64 y114.g.asq, .bool y114.g.has, .string y114.g.body]]) (R := fun res xw => ∃ u' : Value, ∃ v : Value, ∃ S' : Nat → Prop, res = .tuple #[v, .int .i64 ((inT L y114.g).2.1)] ∧ LkR S' xw N22 u' ((inT L y114.g).2.2) ∧ (xw.ownsRow w137.heap.size 9 1 v (inT L y114.g).1.length ((inT L y114.g).1.flatMap strE)) ∧ (∀ i, v.ownBlock = some i → ¬ S' i) ∧ Grew SB S' w137 xw) rfl rfl rfl (by kernel_rfl) (by kernel_rfl) (Try.call40 _ _) (rIn w137 y114.g hO165) (by rintro e x ⟨u', v, S', h0, h⟩; exact ⟨_, h0, u', v, S', rfl, h⟩)) ?_; clear h161
           rintro _ w163 a162 ⟨u'167, v168, S169, rfl, hO170, hq172, hq173, hx171⟩ h162
           have hlo175 : ∀ q, S169 q → w.heap.size ≤ q := hx171.lo hg65 (by omega)
           have hB174 := hbL hB146 hg65 hx171.but
           have hz176 := hB174.size
           have hz177 := hx171.but.size
           have hl178 : (inT L y114.g).1.length ≤ 1 := by rcases inT_one L y114.g with h | h <;> rw [h] <;> simp
           refine pk0 (v := .tuple #[v168, .int .i64 ((inT L y114.g).2.1)]) h162 rfl fun a179 h179 => ?_; clear h162
           refine pk0 (v := v168) h179 rfl fun a180 h180 => ?_; clear h179
           refine pk0 (v := .int .i64 ((inT L y114.g).2.1)) h180 rfl fun a181 h181 => ?_; clear h180
           refine pk0 (v := v168) h181 rfl fun a182 h182 => ?_; clear h181
           refine pk0 (v := .int .i64 ((inT L y114.g).2.1)) h182 rfl fun a183 h183 => ?_; clear h182
           refine pl_nil ?_
           refine co_then ?_
           refine co_reg ?_
           refine pk0 (v := v140) h183 rfl fun a184 h184 => ?_; clear h183
           refine pk0 (v := v168) h184 rfl fun a185 h185 => ?_; clear h184
           have hr189 := own_butS hq144 hx171.but (offR_row ho139 hq144 (Nat.le_refl _))
           refine pw h185 rfl (op_call (args := #[v140, v168]) (R := fun res xw => res = .bool true ∧ Below w163.heap.size w163 xw) rfl rfl rfl (by kernel_rfl) (by kernel_rfl) (Try.call24 _ _) (same_anyL v140 v168 ((inT L y114.g).1) w163 (row_sl hr189 strE_len) (row_sl hq172 strE_len)) (by rintro e x ⟨rfl, h⟩; exact ⟨_, rfl, rfl, h⟩)) ?_; clear h185
           rintro _ w187 a186 ⟨rfl, hb188⟩ h186
           have hz190 := hb188.size
           have hO192 := LkP.but hO142 hx171.but (ap_symm (ap_symm (Grew.ap hx143 (ap_symm (ap_symm hg66)) (LkR.ofS hf61))))
           have ho191 := LkP.ofS hO192
           have ho193 := LkR.ofS hO170
           refine pk0 (v := .bool true) h186 rfl fun a194 h194 => ?_; clear h186
           refine pk0 (v := .int .i64 ((inT L y114.g).2.1)) h194 rfl fun a195 h195 => ?_; clear h194
           refine pk0 (v := .int .i64 ((inT L y114.g).2.1)) h195 rfl fun a196 h196 => ?_; clear h195
           refine pk0 (v := .bool ((inT L y114.g).2.1 == (inT L y114.g).2.1)) h196 rfl fun a197 h197 => ?_; clear h196
           refine pk0 (v := .bool ((inT L y114.g).2.1 == (inT L y114.g).2.1)) h197 rfl fun a198 h198 => ?_; clear h197
           refine pk0 (v := .bool ((inT L y114.g).2.1 == (inT L y114.g).2.1)) h198 rfl fun a199 h199 => ?_; clear h198
           refine pl_nil ?_
           refine co_blockN ?_
           refine co_then ?_
           have hc200 : ((inT L y114.g).2.1 == (inT L y114.g).2.1) = true := by first | exact beq_self_eq_true _ | exact bne_self_eq_false _ | (simp; done)
           rw [hc200] at h199; clear hc200
           have hO201 := LkP.gr hO192 (below_grown hb188) (fun k e => by cases e)
           have hO202 := LkR.gr hO170 (below_grown hb188) (fun k e => by cases e)
           have hB203 := hb_call hB174 hb188
           exact ⟨S141, S169, u'167, ((inT L y114.g).2.2), h199.sub ⟨rfl, rfl, rfl, rfl, rfl, rfl, trivial⟩, by exact hlo147, by exact hlo175, by exact (ap_symm (Grew.ap hx171 (ap_symm (ap_symm (ap_symm (Grew.ap hx143 (ap_symm (ap_symm hg66)) (LkR.ofS hf61))))) (LkP.ofS hO142))), hO201, hO202, hB203⟩
          ·
           rw [hc128] at h127
           have hp204 : y114.c = 2 := by first | simpa using hc128 | simpa [and_assoc] using hc128
           clear hc128
           refine co_true h127 rfl ?_
           refine dr_gen (fun x => Below w.heap.size w x) (by kernel_rfl) (fun w205 hg206 => ?_) (fun w205 hg206 => ?_)
           ·
            have hz207 := hg206.size
            have hB208 := hb_new hB62 hg206
            exact hB208
           have hz209 := hg206.size
           have hB210 := hb_new hB62 hg206
           refine dk0 0 (v := pt N5 0) h127 rfl rfl hB210 fun a211 h211 => ?_; clear h127
           refine dk0 1 (v := v) h211 rfl rfl hB210 fun a212 h212 => ?_; clear h211
           refine dk0 2 (v := .int .i64 ((i : Nat) : Int)) h212 rfl rfl hB210 fun a213 h213 => ?_; clear h212
           refine dk 3 (v := pt (blkOf v) (offOf v + i * 11)) h213 rfl rfl hB210 (fun x hx => (rn_index rfl rfl rfl Try.underlying52 Try.sizeOf63 (hs.below hx) (by omega) (by first | omega | (simp; done) | (simp; omega)))) fun a214 h214 => ?_; clear h213
           refine dk0 4 (v := pt (blkOf v) (offOf v + i * 11 + 2)) h214 rfl rfl hB210 fun a215 h215 => ?_; clear h214
           refine dk 5 (v := .bool y114.again) h215 rfl rfl hB210 (fun x hx => (rn_load1 rfl rfl Try.isAgg4 ((sl_at (hs.below hx) hy114) 2 _ rfl))) fun a216 h216 => ?_; clear h215
           refine dk0 7 (v := pt N22 0) h216 rfl rfl hB210 fun a217 h217 => ?_; clear h216
           refine dk0 8 (v := v) h217 rfl rfl hB210 fun a218 h218 => ?_; clear h217
           refine dk0 9 (v := .int .i64 ((i : Nat) : Int)) h218 rfl rfl hB210 fun a219 h219 => ?_; clear h218
           refine dk 10 (v := pt (blkOf v) (offOf v + i * 11)) h219 rfl rfl hB210 (fun x hx => (rn_index rfl rfl rfl Try.underlying52 Try.sizeOf63 (hs.below hx) (by omega) (by first | omega | (simp; done) | (simp; omega)))) fun a220 h220 => ?_; clear h219
           refine dk0 11 (v := pt (blkOf v) (offOf v + i * 11 + 2)) h220 rfl rfl hB210 fun a221 h221 => ?_; clear h220
           refine dk 12 (v := .bool y114.again) h221 rfl rfl hB210 (fun x hx => (rn_load1 rfl rfl Try.isAgg4 ((sl_at (hs.below hx) hy114) 2 _ rfl))) fun a222 h222 => ?_; clear h221
           have hO226 := LkP.gr hf60 hg206 (fun k e => by cases e)
           have ho225 := LkP.ofS hO226
           have hO228 := LkR.gr hf61 hg206 (fun k e => by cases e)
           have ho227 := LkR.ofS hO228
           refine d1 6 h222 rfl rfl (op_call (args := #[pt N5 0, .bool y114.again]) (R := fun res xw => ∃ v : Value, ∃ S' : Nat → Prop, res = v ∧ LkP S' xw N5 (outN L) ∧ (xw.ownsRow w205.heap.size 61 8 v (outT L y114.again).length ((outT L y114.again).flatMap segE)) ∧ (∀ q, S' q → q < w205.heap.size) ∧ Grew SA S' w205 xw) rfl rfl rfl (by kernel_rfl) (by kernel_rfl) (Try.call37 _ _) (kOut w205 y114.again hO226) (by rintro e x ⟨v, S', h0, h⟩; exact ⟨_, h0, v, S', rfl, h⟩)) ?_ ?_; clear h222
           ·
            rintro v229 w224 ⟨_, S230, rfl, hO231, hq233, hq234, hx232⟩
            have hlo236 : ∀ q, S230 q → w.heap.size ≤ q := hx232.lo hg64 (by omega)
            have hB235 := hbL hB210 hg64 hx232.but
            have hz237 := hB235.size
            have hz238 := hx232.but.size
            have hbody := outT_body hO226.ok y114.again
            have hl239 := outT_len L y114.again
            exact hB235
           rintro v229 w224 a223 ⟨_, S230, rfl, hO231, hq233, hq234, hx232⟩ h223
           have hlo236 : ∀ q, S230 q → w.heap.size ≤ q := hx232.lo hg64 (by omega)
           have hB235 := hbL hB210 hg64 hx232.but
           have hz237 := hB235.size
           have hz238 := hx232.but.size
           have hbody := outT_body hO226.ok y114.again
           have hl239 := outT_len L y114.again
           have hO243 := LkR.but hO228 hx232.but (ap_symm hg66)
           have ho242 := LkR.ofS hO243
           have ho244 := LkP.ofS hO231
           refine d1 13 h223 rfl rfl (op_call (args := #[pt N22 0, .bool y114.again]) (R := fun res xw => ∃ v : Value, ∃ S' : Nat → Prop, res = v ∧ LkR S' xw N22 u (outN L) ∧ (xw.ownsRow w224.heap.size 61 8 v (outT L y114.again).length ((outT L y114.again).flatMap segE)) ∧ (∀ q, S' q → q < w224.heap.size) ∧ Grew SB S' w224 xw) rfl rfl rfl (by kernel_rfl) (by kernel_rfl) (Try.call38 _ _) (rOut w224 y114.again hO243) (by rintro e x ⟨v, S', h0, h⟩; exact ⟨_, h0, v, S', rfl, h⟩)) ?_ ?_; clear h223
           ·
            rintro v245 w241 ⟨_, S246, rfl, hO247, hq249, hq250, hx248⟩
            have hlo252 : ∀ q, S246 q → w.heap.size ≤ q := hx248.lo hg65 (by omega)
            have hB251 := hbL hB235 hg65 hx248.but
            have hz253 := hB251.size
            have hz254 := hx248.but.size
            have hbody := outT_body hO243.ok y114.again
            have hl255 := outT_len L y114.again
            exact hB251
           rintro v245 w241 a240 ⟨_, S246, rfl, hO247, hq249, hq250, hx248⟩ h240
           have hlo252 : ∀ q, S246 q → w.heap.size ≤ q := hx248.lo hg65 (by omega)
           have hB251 := hbL hB235 hg65 hx248.but
           have hz253 := hB251.size
           have hz254 := hx248.but.size
           have hbody := outT_body hO243.ok y114.again
           have hl255 := outT_len L y114.again
           have hr259 := own_butS hq233 hx248.but (offR_row ho227 hq233 (Nat.le_refl _))
           refine d1 14 h240 rfl rfl (op_call (args := #[v229, v245]) (R := fun res xw => res = .bool true ∧ Below w241.heap.size w241 xw) rfl rfl rfl (by kernel_rfl) (by kernel_rfl) (Try.call36 _ _) (sameSegs_any v229 v245 (outT L y114.again) w241 (row_sl hr259 segE_len) (row_sl hq249 segE_len)) (by rintro e x ⟨rfl, h⟩; exact ⟨_, rfl, rfl, h⟩)) ?_ ?_; clear h240
           ·
            rintro _ w257 ⟨rfl, hb258⟩
            have hz260 := hb258.size
            have hO262 := LkP.but hO231 hx248.but (ap_symm (ap_symm (Grew.ap hx232 (ap_symm (ap_symm hg66)) (LkR.ofS hO228))))
            have ho261 := LkP.ofS hO262
            have ho263 := LkR.ofS hO247
            have hB264 := hb_call hB251 hb258
            exact hB264
           rintro _ w257 a256 ⟨rfl, hb258⟩ h256
           have hz260 := hb258.size
           have hO262 := LkP.but hO231 hx248.but (ap_symm (ap_symm (Grew.ap hx232 (ap_symm (ap_symm hg66)) (LkR.ofS hO228))))
           have ho261 := LkP.ofS hO262
           have ho263 := LkR.ofS hO247
           have hB264 := hb_call hB251 hb258
           refine dk0 15 (v := .bool true) h256 rfl rfl hB264 fun a265 h265 => ?_; clear h256
           refine dr_done (by kernel_rfl) ?_
           refine co_blockN ?_
           refine co_then ?_
           have hO266 := LkP.gr hO262 (below_grown hb258) (fun k e => by cases e)
           have hO267 := LkR.gr hO247 (below_grown hb258) (fun k e => by cases e)
           exact ⟨S230, S246, u, (outN L), h265.sub ⟨rfl, rfl, rfl, rfl, rfl, rfl, trivial⟩, by exact hlo236, by exact hlo252, by exact (ap_symm (Grew.ap hx248 (ap_symm (ap_symm (ap_symm (Grew.ap hx232 (ap_symm (ap_symm hg66)) (LkR.ofS hO228))))) (LkP.ofS hO231))), hO266, hO267, hB264⟩
         ·
          rw [hc124] at h123
          have hp268 : y114.c = 1 := by first | simpa using hc124 | simpa [and_assoc] using hc124
          clear hc124
          refine co_true h123 rfl ?_
          refine wp_skip ?_
          refine co_then ?_
          refine co_true h123 rfl ?_
          refine dr_gen (fun x => Below w.heap.size w x) (by kernel_rfl) (fun w269 hg270 => ?_) (fun w269 hg270 => ?_)
          ·
           have hz271 := hg270.size
           have hB272 := hb_new hB62 hg270
           exact hB272
          have hz273 := hg270.size
          have hB274 := hb_new hB62 hg270
          refine dk0 0 (v := pt N5 0) h123 rfl rfl hB274 fun a275 h275 => ?_; clear h123
          refine dk0 1 (v := v) h275 rfl rfl hB274 fun a276 h276 => ?_; clear h275
          refine dk0 2 (v := .int .i64 ((i : Nat) : Int)) h276 rfl rfl hB274 fun a277 h277 => ?_; clear h276
          refine dk 3 (v := pt (blkOf v) (offOf v + i * 11)) h277 rfl rfl hB274 (fun x hx => (rn_index rfl rfl rfl Try.underlying52 Try.sizeOf63 (hs.below hx) (by omega) (by first | omega | (simp; done) | (simp; omega)))) fun a278 h278 => ?_; clear h277
          refine dk0 4 (v := pt (blkOf v) (offOf v + i * 11 + 2)) h278 rfl rfl hB274 fun a279 h279 => ?_; clear h278
          refine dk 5 (v := .bool y114.again) h279 rfl rfl hB274 (fun x hx => (rn_load1 rfl rfl Try.isAgg4 ((sl_at (hs.below hx) hy114) 2 _ rfl))) fun a280 h280 => ?_; clear h279
          refine dk0 7 (v := pt N22 0) h280 rfl rfl hB274 fun a281 h281 => ?_; clear h280
          refine dk0 8 (v := v) h281 rfl rfl hB274 fun a282 h282 => ?_; clear h281
          refine dk0 9 (v := .int .i64 ((i : Nat) : Int)) h282 rfl rfl hB274 fun a283 h283 => ?_; clear h282
          refine dk 10 (v := pt (blkOf v) (offOf v + i * 11)) h283 rfl rfl hB274 (fun x hx => (rn_index rfl rfl rfl Try.underlying52 Try.sizeOf63 (hs.below hx) (by omega) (by first | omega | (simp; done) | (simp; omega)))) fun a284 h284 => ?_; clear h283
          refine dk0 11 (v := pt (blkOf v) (offOf v + i * 11 + 2)) h284 rfl rfl hB274 fun a285 h285 => ?_; clear h284
          refine dk 12 (v := .bool y114.again) h285 rfl rfl hB274 (fun x hx => (rn_load1 rfl rfl Try.isAgg4 ((sl_at (hs.below hx) hy114) 2 _ rfl))) fun a286 h286 => ?_; clear h285
          have hO290 := LkP.gr hf60 hg270 (fun k e => by cases e)
          have ho289 := LkP.ofS hO290
          have hO292 := LkR.gr hf61 hg270 (fun k e => by cases e)
          have ho291 := LkR.ofS hO292
          refine d1 6 h286 rfl rfl (op_call (args := #[pt N5 0, .bool y114.again]) (R := fun res xw => ∃ v : Value, ∃ S' : Nat → Prop, res = v ∧ LkP S' xw N5 (outN L) ∧ (xw.ownsRow w269.heap.size 61 8 v (outT L y114.again).length ((outT L y114.again).flatMap segE)) ∧ (∀ q, S' q → q < w269.heap.size) ∧ Grew SA S' w269 xw) rfl rfl rfl (by kernel_rfl) (by kernel_rfl) (Try.call37 _ _) (kOut w269 y114.again hO290) (by rintro e x ⟨v, S', h0, h⟩; exact ⟨_, h0, v, S', rfl, h⟩)) ?_ ?_; clear h286
          ·
           rintro v293 w288 ⟨_, S294, rfl, hO295, hq297, hq298, hx296⟩
           have hlo300 : ∀ q, S294 q → w.heap.size ≤ q := hx296.lo hg64 (by omega)
           have hB299 := hbL hB274 hg64 hx296.but
           have hz301 := hB299.size
           have hz302 := hx296.but.size
           have hbody := outT_body hO290.ok y114.again
           have hl303 := outT_len L y114.again
           exact hB299
          rintro v293 w288 a287 ⟨_, S294, rfl, hO295, hq297, hq298, hx296⟩ h287
          have hlo300 : ∀ q, S294 q → w.heap.size ≤ q := hx296.lo hg64 (by omega)
          have hB299 := hbL hB274 hg64 hx296.but
          have hz301 := hB299.size
          have hz302 := hx296.but.size
          have hbody := outT_body hO290.ok y114.again
          have hl303 := outT_len L y114.again
          have hO307 := LkR.but hO292 hx296.but (ap_symm hg66)
          have ho306 := LkR.ofS hO307
          have ho308 := LkP.ofS hO295
          refine d1 13 h287 rfl rfl (op_call (args := #[pt N22 0, .bool y114.again]) (R := fun res xw => ∃ v : Value, ∃ S' : Nat → Prop, res = v ∧ LkR S' xw N22 u (outN L) ∧ (xw.ownsRow w288.heap.size 61 8 v (outT L y114.again).length ((outT L y114.again).flatMap segE)) ∧ (∀ q, S' q → q < w288.heap.size) ∧ Grew SB S' w288 xw) rfl rfl rfl (by kernel_rfl) (by kernel_rfl) (Try.call38 _ _) (rOut w288 y114.again hO307) (by rintro e x ⟨v, S', h0, h⟩; exact ⟨_, h0, v, S', rfl, h⟩)) ?_ ?_; clear h287
          ·
           rintro v309 w305 ⟨_, S310, rfl, hO311, hq313, hq314, hx312⟩
           have hlo316 : ∀ q, S310 q → w.heap.size ≤ q := hx312.lo hg65 (by omega)
           have hB315 := hbL hB299 hg65 hx312.but
           have hz317 := hB315.size
           have hz318 := hx312.but.size
           have hbody := outT_body hO307.ok y114.again
           have hl319 := outT_len L y114.again
           exact hB315
          rintro v309 w305 a304 ⟨_, S310, rfl, hO311, hq313, hq314, hx312⟩ h304
          have hlo316 : ∀ q, S310 q → w.heap.size ≤ q := hx312.lo hg65 (by omega)
          have hB315 := hbL hB299 hg65 hx312.but
          have hz317 := hB315.size
          have hz318 := hx312.but.size
          have hbody := outT_body hO307.ok y114.again
          have hl319 := outT_len L y114.again
          have hr323 := own_butS hq297 hx312.but (offR_row ho291 hq297 (Nat.le_refl _))
          refine d1 14 h304 rfl rfl (op_call (args := #[v293, v309]) (R := fun res xw => res = .bool true ∧ Below w305.heap.size w305 xw) rfl rfl rfl (by kernel_rfl) (by kernel_rfl) (Try.call36 _ _) (sameSegs_any v293 v309 (outT L y114.again) w305 (row_sl hr323 segE_len) (row_sl hq313 segE_len)) (by rintro e x ⟨rfl, h⟩; exact ⟨_, rfl, rfl, h⟩)) ?_ ?_; clear h304
          ·
           rintro _ w321 ⟨rfl, hb322⟩
           have hz324 := hb322.size
           have hO326 := LkP.but hO295 hx312.but (ap_symm (ap_symm (Grew.ap hx296 (ap_symm (ap_symm hg66)) (LkR.ofS hO292))))
           have ho325 := LkP.ofS hO326
           have ho327 := LkR.ofS hO311
           have hB328 := hb_call hB315 hb322
           exact hB328
          rintro _ w321 a320 ⟨rfl, hb322⟩ h320
          have hz324 := hb322.size
          have hO326 := LkP.but hO295 hx312.but (ap_symm (ap_symm (Grew.ap hx296 (ap_symm (ap_symm hg66)) (LkR.ofS hO292))))
          have ho325 := LkP.ofS hO326
          have ho327 := LkR.ofS hO311
          have hB328 := hb_call hB315 hb322
          refine dk0 15 (v := .bool true) h320 rfl rfl hB328 fun a329 h329 => ?_; clear h320
          refine dr_done (by kernel_rfl) ?_
          refine co_blockN ?_
          refine co_then ?_
          have hO330 := LkP.gr hO326 (below_grown hb322) (fun k e => by cases e)
          have hO331 := LkR.gr hO311 (below_grown hb322) (fun k e => by cases e)
          exact ⟨S294, S310, u, (outN L), h329.sub ⟨rfl, rfl, rfl, rfl, rfl, rfl, trivial⟩, by exact hlo300, by exact hlo316, by exact (ap_symm (Grew.ap hx312 (ap_symm (ap_symm (ap_symm (Grew.ap hx296 (ap_symm (ap_symm hg66)) (LkR.ofS hO292))))) (LkP.ofS hO295))), hO330, hO331, hB328⟩
        ·
         rw [hc120] at h119
         have hp332 : y114.c = 0 := by first | simpa using hc120 | simpa [and_assoc] using hc120
         clear hc120
         refine co_true h119 rfl ?_
         refine dr_gen (fun x => Below w.heap.size w x) (by kernel_rfl) (fun w333 hg334 => ?_) (fun w333 hg334 => ?_)
         ·
          have hz335 := hg334.size
          have hB336 := hb_new hB62 hg334
          exact hB336
         have hz337 := hg334.size
         have hB338 := hb_new hB62 hg334
         refine dk0 0 (v := pt N5 0) h119 rfl rfl hB338 fun a339 h339 => ?_; clear h119
         refine dk0 1 (v := v) h339 rfl rfl hB338 fun a340 h340 => ?_; clear h339
         refine dk0 2 (v := .int .i64 ((i : Nat) : Int)) h340 rfl rfl hB338 fun a341 h341 => ?_; clear h340
         refine dk 3 (v := pt (blkOf v) (offOf v + i * 11)) h341 rfl rfl hB338 (fun x hx => (rn_index rfl rfl rfl Try.underlying52 Try.sizeOf63 (hs.below hx) (by omega) (by first | omega | (simp; done) | (simp; omega)))) fun a342 h342 => ?_; clear h341
         refine dk0 4 (v := pt (blkOf v) (offOf v + i * 11 + 1)) h342 rfl rfl hB338 fun a343 h343 => ?_; clear h342
         refine dk 5 (v := .string y114.s) h343 rfl rfl hB338 (fun x hx => (rn_load1 rfl rfl Try.isAgg9 ((sl_at (hs.below hx) hy114) 1 _ rfl))) fun a344 h344 => ?_; clear h343
         refine dk0 7 (v := pt N22 0) h344 rfl rfl hB338 fun a345 h345 => ?_; clear h344
         refine dk0 8 (v := v) h345 rfl rfl hB338 fun a346 h346 => ?_; clear h345
         refine dk0 9 (v := .int .i64 ((i : Nat) : Int)) h346 rfl rfl hB338 fun a347 h347 => ?_; clear h346
         refine dk 10 (v := pt (blkOf v) (offOf v + i * 11)) h347 rfl rfl hB338 (fun x hx => (rn_index rfl rfl rfl Try.underlying52 Try.sizeOf63 (hs.below hx) (by omega) (by first | omega | (simp; done) | (simp; omega)))) fun a348 h348 => ?_; clear h347
         refine dk0 11 (v := pt (blkOf v) (offOf v + i * 11 + 1)) h348 rfl rfl hB338 fun a349 h349 => ?_; clear h348
         refine dk 12 (v := .string y114.s) h349 rfl rfl hB338 (fun x hx => (rn_load1 rfl rfl Try.isAgg9 ((sl_at (hs.below hx) hy114) 1 _ rfl))) fun a350 h350 => ?_; clear h349
         have hO354 := LkP.gr hf60 hg334 (fun k e => by cases e)
         have ho353 := LkP.ofS hO354
         have hO356 := LkR.gr hf61 hg334 (fun k e => by cases e)
         have ho355 := LkR.ofS hO356
         refine d1 6 h350 rfl rfl (op_call (args := #[pt N5 0, .string y114.s]) (R := fun res xw => ∃ S' : Nat → Prop, res = .int .i64 ((sendT L y114.s).1) ∧ LkP S' xw N5 ((sendT L y114.s).2) ∧ Grew SA S' w333 xw) rfl rfl rfl (by kernel_rfl) (by kernel_rfl) (Try.call34 _ _) (kSend w333 y114.s hO354) (by rintro e x ⟨S', h0, h⟩; exact ⟨_, h0, S', rfl, h⟩)) ?_ ?_; clear h350
         ·
          rintro _ w352 ⟨S357, rfl, hO358, hx359⟩
          have hlo361 : ∀ q, S357 q → w.heap.size ≤ q := hx359.lo hg64 (by omega)
          have hB360 := hbL hB338 hg64 hx359.but
          have hz362 := hB360.size
          have hz363 := hx359.but.size
          exact hB360
         rintro _ w352 a351 ⟨S357, rfl, hO358, hx359⟩ h351
         have hlo361 : ∀ q, S357 q → w.heap.size ≤ q := hx359.lo hg64 (by omega)
         have hB360 := hbL hB338 hg64 hx359.but
         have hz362 := hB360.size
         have hz363 := hx359.but.size
         have hO367 := LkR.but hO356 hx359.but (ap_symm hg66)
         have ho366 := LkR.ofS hO367
         have ho368 := LkP.ofS hO358
         refine d1 13 h351 rfl rfl (op_call (args := #[pt N22 0, .string y114.s]) (R := fun res xw => ∃ u' : Value, ∃ S' : Nat → Prop, res = .int .i64 ((sendT L y114.s).1) ∧ LkR S' xw N22 u' ((sendT L y114.s).2) ∧ Grew SB S' w352 xw) rfl rfl rfl (by kernel_rfl) (by kernel_rfl) (Try.call35 _ _) (rSend w352 y114.s hO367) (by rintro e x ⟨u', S', h0, h⟩; exact ⟨_, h0, u', S', rfl, h⟩)) ?_ ?_; clear h351
         ·
          rintro _ w365 ⟨u'369, S370, rfl, hO371, hx372⟩
          have hlo374 : ∀ q, S370 q → w.heap.size ≤ q := hx372.lo hg65 (by omega)
          have hB373 := hbL hB360 hg65 hx372.but
          have hz375 := hB373.size
          have hz376 := hx372.but.size
          exact hB373
         rintro _ w365 a364 ⟨u'369, S370, rfl, hO371, hx372⟩ h364
         have hlo374 : ∀ q, S370 q → w.heap.size ≤ q := hx372.lo hg65 (by omega)
         have hB373 := hbL hB360 hg65 hx372.but
         have hz375 := hB373.size
         have hz376 := hx372.but.size
         refine dk0 14 (v := .bool ((sendT L y114.s).1 == (sendT L y114.s).1)) h364 rfl rfl hB373 fun a377 h377 => ?_; clear h364
         refine dk0 15 (v := .bool ((sendT L y114.s).1 == (sendT L y114.s).1)) h377 rfl rfl hB373 fun a378 h378 => ?_; clear h377
         refine dr_done (by kernel_rfl) ?_
         refine co_blockN ?_
         refine co_then ?_
         have hc379 : ((sendT L y114.s).1 == (sendT L y114.s).1) = true := by first | exact beq_self_eq_true _ | exact bne_self_eq_false _ | (simp; done)
         rw [hc379] at h378; clear hc379
         have hO380 := LkP.but hO358 hx372.but (ap_symm (ap_symm (Grew.ap hx359 (ap_symm (ap_symm hg66)) (LkR.ofS hO356))))
         exact ⟨S357, S370, u'369, ((sendT L y114.s).2), h378.sub ⟨rfl, rfl, rfl, rfl, rfl, rfl, trivial⟩, by exact hlo361, by exact hlo374, by exact (ap_symm (Grew.ap hx372 (ap_symm (ap_symm (ap_symm (Grew.ap hx359 (ap_symm (ap_symm hg66)) (LkR.ofS hO356))))) (LkP.ofS hO358))), hO380, hO371, hB373⟩
       rintro a381 w382 ⟨S8, S9, u9, L9, h381, hi383, hi384, hi385, hf386, hf387, hB388⟩
       have hz389 := hB388.size
       refine co_seq ?_
       refine dr_gen (fun x => Below w.heap.size w x) (by kernel_rfl) (fun w390 hg391 => ?_) (fun w390 hg391 => ?_)
       ·
        have hz392 := hg391.size
        have hB393 := hb_new hB388 hg391
        exact hB393
       have hz394 := hg391.size
       have hB395 := hb_new hB388 hg391
       refine dk0 0 (v := .bool true) h381 rfl rfl hB395 fun a396 h396 => ?_; clear h381
       refine dk0 1 (v := .bool false) h396 rfl rfl hB395 fun a397 h397 => ?_; clear h396
       refine dk0 2 (v := .bool false) h397 rfl rfl hB395 fun a398 h398 => ?_; clear h397
       refine dk0 3 (v := pt N5 0) h398 rfl rfl hB395 fun a399 h399 => ?_; clear h398
       refine dk0 5 (v := pt N22 0) h399 rfl rfl hB395 fun a400 h400 => ?_; clear h399
       refine dk0 6 (v := pt N22 0) h400 rfl rfl hB395 fun a401 h401 => ?_; clear h400
       refine dk0 7 (v := pt N22 3) h401 rfl rfl hB395 fun a402 h402 => ?_; clear h401
       refine dr_many [4, 8] (by kernel_rfl) (by simp) ⟨?_, ?_, trivial⟩
       ·
        have hO405 := LkP.gr hf386 hg391 (fun k e => by cases e)
        refine dr_op (i := 4) h402 rfl rfl rfl rfl (op_call (args := #[pt N5 0]) (R := fun res xw => res = .int .i64 ((L9.q.length : Nat) : Int) ∧ w390 = xw) rfl rfl rfl (by kernel_rfl) (by kernel_rfl) (Try.call41 _ _) (kWaiting w390 hO405) (by rintro e x ⟨rfl, rfl⟩; exact ⟨_, rfl, rfl, rfl⟩)) ?_ ?_; clear h402
        ·
         rintro _ _ ⟨rfl, rfl⟩
         exact hB395
        rintro _ _ a403 ⟨rfl, rfl⟩ h403
        refine dr_many [8] (by kernel_rfl) (by simp) ⟨?_, trivial⟩
        ·
         have hO406 := LkR.gr hf387 hg391 (fun k e => by cases e)
         refine dr_opVal (i := 8) (v := u9) h403 rfl rfl rfl rfl (by kernel_rfl) rfl (rn_load1 rfl rfl Try.isAgg38 ((LkR.blk hO406).cell rfl)) hB395 (fun a407 h407 => ?_); clear h403
         refine dr_many [9] (by kernel_rfl) (by simp) ⟨?_, trivial⟩
         ·
          refine dr_opVal (i := 9) (v := .int .i64 ((L9.q.length : Nat) : Int)) h407 rfl rfl rfl rfl (by kernel_rfl) rfl (rn_len rfl rfl Try.underlying38 (LkR.sl hO406)) hB395 (fun a408 h408 => ?_); clear h407
          refine dk0 10 (v := .bool (((L9.q.length : Nat) : Int) != ((L9.q.length : Nat) : Int))) h408 rfl rfl hB395 fun a409 h409 => ?_; clear h408
          refine dk0 11 (v := .bool (((L9.q.length : Nat) : Int) != ((L9.q.length : Nat) : Int))) h409 rfl rfl hB395 fun a410 h410 => ?_; clear h409
          refine dk0 12 (v := .bool (((L9.q.length : Nat) : Int) != ((L9.q.length : Nat) : Int))) h410 rfl rfl hB395 fun a411 h411 => ?_; clear h410
          have hc412 : (((L9.q.length : Nat) : Int) != ((L9.q.length : Nat) : Int)) = false := by first | exact beq_self_eq_true _ | exact bne_self_eq_false _ | (simp; done)
          rw [hc412] at h411; clear hc412
          refine dk0 13 (v := pt N5 0) h411 rfl rfl hB395 fun a413 h413 => ?_; clear h411
          refine dk0 15 (v := pt N22 0) h413 rfl rfl hB395 fun a414 h414 => ?_; clear h413
          refine dk0 16 (v := pt N22 0) h414 rfl rfl hB395 fun a415 h415 => ?_; clear h414
          refine dk0 17 (v := pt N22 5) h415 rfl rfl hB395 fun a416 h416 => ?_; clear h415
          refine dr_many [14, 18] (by kernel_rfl) (by simp) ⟨?_, ?_, trivial⟩
          ·
           refine dr_op (i := 14) h416 rfl rfl rfl rfl (op_call (args := #[pt N5 0]) (R := fun res xw => res = .int .i64 L9.peer ∧ w390 = xw) rfl rfl rfl (by kernel_rfl) (by kernel_rfl) (Try.call42 _ _) (kKnows w390 hO405) (by rintro e x ⟨rfl, rfl⟩; exact ⟨_, rfl, rfl, rfl⟩)) ?_ ?_; clear h416
           ·
            rintro _ _ ⟨rfl, rfl⟩
            exact hB395
           rintro _ _ a417 ⟨rfl, rfl⟩ h417
           refine dr_many [18] (by kernel_rfl) (by simp) ⟨?_, trivial⟩
           ·
            refine dr_opVal (i := 18) (v := .int .i64 L9.peer) h417 rfl rfl rfl rfl (by kernel_rfl) rfl (rn_load1 rfl rfl Try.isAgg3 ((LkR.blk hO406).cell rfl)) hB395 (fun a419 h419 => ?_); clear h417
            refine dk0 19 (v := .bool (L9.peer != L9.peer)) h419 rfl rfl hB395 fun a420 h420 => ?_; clear h419
            refine dk0 20 (v := .bool (L9.peer != L9.peer)) h420 rfl rfl hB395 fun a421 h421 => ?_; clear h420
            refine dr_done (by kernel_rfl) ?_
            refine co_then ?_
            have hc422 : (L9.peer != L9.peer) = false := by first | exact beq_self_eq_true _ | exact bne_self_eq_false _ | (simp; done)
            rw [hc422] at h421; clear hc422
            refine co_false h421 rfl ?_
            refine wp_skip ?_
            refine co_blockN ?_
            refine co_then ?_
            refine co_reg ?_
            refine pk0 (v := .int .i64 ((i : Nat) : Int)) h421 rfl fun a423 h423 => ?_; clear h421
            refine pk (v := .int .i64 ((i + 1 : Nat) : Int)) h423 rfl (rn_arith' rfl rfl rfl rfl rfl rfl (IntWalk.i64_in _ (by omega)) (by omega)) fun a424 h424 => ?_; clear h423
            refine pk0 (v := .int .i64 ((i + 1 : Nat) : Int)) h424 rfl fun a425 h425 => ?_; clear h424
            refine pl_nil ?_
            refine co_then ?_
            refine ⟨(l.length - (i + 1)), by omega, ?_⟩
            have hll := hi383
            have hmm := hi384
            have haa : ∀ q, S8 q → S9 q → False := hi385
            exact ⟨i + 1, S8, S9, u9, L9, h425.sub ⟨rfl, rfl, rfl, rfl, rfl, trivial⟩, rfl, by omega, by omega, by exact hll, by exact hmm, by exact haa, hO405, hO406, hB395⟩
          ·
           refine dr_opVal (i := 18) (v := .int .i64 L9.peer) h416 rfl rfl rfl rfl (by kernel_rfl) rfl (rn_load1 rfl rfl Try.isAgg3 ((LkR.blk hO406).cell rfl)) hB395 (fun a426 h426 => ?_); clear h416
           refine d1 14 h426 rfl rfl (op_call (args := #[pt N5 0]) (R := fun res xw => res = .int .i64 L9.peer ∧ w390 = xw) rfl rfl rfl (by kernel_rfl) (by kernel_rfl) (Try.call42 _ _) (kKnows w390 hO405) (by rintro e x ⟨rfl, rfl⟩; exact ⟨_, rfl, rfl, rfl⟩)) ?_ ?_; clear h426
           ·
            rintro _ _ ⟨rfl, rfl⟩
            exact hB395
           rintro _ _ a427 ⟨rfl, rfl⟩ h427
           refine dk0 19 (v := .bool (L9.peer != L9.peer)) h427 rfl rfl hB395 fun a429 h429 => ?_; clear h427
           refine dk0 20 (v := .bool (L9.peer != L9.peer)) h429 rfl rfl hB395 fun a430 h430 => ?_; clear h429
           refine dr_done (by kernel_rfl) ?_
           refine co_then ?_
           have hc431 : (L9.peer != L9.peer) = false := by first | exact beq_self_eq_true _ | exact bne_self_eq_false _ | (simp; done)
           rw [hc431] at h430; clear hc431
           refine co_false h430 rfl ?_
           refine wp_skip ?_
           refine co_blockN ?_
           refine co_then ?_
           refine co_reg ?_
           refine pk0 (v := .int .i64 ((i : Nat) : Int)) h430 rfl fun a432 h432 => ?_; clear h430
           refine pk (v := .int .i64 ((i + 1 : Nat) : Int)) h432 rfl (rn_arith' rfl rfl rfl rfl rfl rfl (IntWalk.i64_in _ (by omega)) (by omega)) fun a433 h433 => ?_; clear h432
           refine pk0 (v := .int .i64 ((i + 1 : Nat) : Int)) h433 rfl fun a434 h434 => ?_; clear h433
           refine pl_nil ?_
           refine co_then ?_
           refine ⟨(l.length - (i + 1)), by omega, ?_⟩
           have hll := hi383
           have hmm := hi384
           have haa : ∀ q, S8 q → S9 q → False := hi385
           exact ⟨i + 1, S8, S9, u9, L9, h434.sub ⟨rfl, rfl, rfl, rfl, rfl, trivial⟩, rfl, by omega, by omega, by exact hll, by exact hmm, by exact haa, hO405, hO406, hB395⟩
       ·
        have hO435 := LkR.gr hf387 hg391 (fun k e => by cases e)
        refine dr_opVal (i := 8) (v := u9) h402 rfl rfl rfl rfl (by kernel_rfl) rfl (rn_load1 rfl rfl Try.isAgg38 ((LkR.blk hO435).cell rfl)) hB395 (fun a436 h436 => ?_); clear h402
        refine dr_many [4, 9] (by kernel_rfl) (by simp) ⟨?_, ?_, trivial⟩
        ·
         have hO439 := LkP.gr hf386 hg391 (fun k e => by cases e)
         refine dr_op (i := 4) h436 rfl rfl rfl rfl (op_call (args := #[pt N5 0]) (R := fun res xw => res = .int .i64 ((L9.q.length : Nat) : Int) ∧ w390 = xw) rfl rfl rfl (by kernel_rfl) (by kernel_rfl) (Try.call41 _ _) (kWaiting w390 hO439) (by rintro e x ⟨rfl, rfl⟩; exact ⟨_, rfl, rfl, rfl⟩)) ?_ ?_; clear h436
         ·
          rintro _ _ ⟨rfl, rfl⟩
          exact hB395
         rintro _ _ a437 ⟨rfl, rfl⟩ h437
         refine dr_many [9] (by kernel_rfl) (by simp) ⟨?_, trivial⟩
         ·
          refine dr_opVal (i := 9) (v := .int .i64 ((L9.q.length : Nat) : Int)) h437 rfl rfl rfl rfl (by kernel_rfl) rfl (rn_len rfl rfl Try.underlying38 (LkR.sl hO435)) hB395 (fun a440 h440 => ?_); clear h437
          refine dk0 10 (v := .bool (((L9.q.length : Nat) : Int) != ((L9.q.length : Nat) : Int))) h440 rfl rfl hB395 fun a441 h441 => ?_; clear h440
          refine dk0 11 (v := .bool (((L9.q.length : Nat) : Int) != ((L9.q.length : Nat) : Int))) h441 rfl rfl hB395 fun a442 h442 => ?_; clear h441
          refine dk0 12 (v := .bool (((L9.q.length : Nat) : Int) != ((L9.q.length : Nat) : Int))) h442 rfl rfl hB395 fun a443 h443 => ?_; clear h442
          have hc444 : (((L9.q.length : Nat) : Int) != ((L9.q.length : Nat) : Int)) = false := by first | exact beq_self_eq_true _ | exact bne_self_eq_false _ | (simp; done)
          rw [hc444] at h443; clear hc444
          refine dk0 13 (v := pt N5 0) h443 rfl rfl hB395 fun a445 h445 => ?_; clear h443
          refine dk0 15 (v := pt N22 0) h445 rfl rfl hB395 fun a446 h446 => ?_; clear h445
          refine dk0 16 (v := pt N22 0) h446 rfl rfl hB395 fun a447 h447 => ?_; clear h446
          refine dk0 17 (v := pt N22 5) h447 rfl rfl hB395 fun a448 h448 => ?_; clear h447
          refine dr_many [14, 18] (by kernel_rfl) (by simp) ⟨?_, ?_, trivial⟩
          ·
           refine dr_op (i := 14) h448 rfl rfl rfl rfl (op_call (args := #[pt N5 0]) (R := fun res xw => res = .int .i64 L9.peer ∧ w390 = xw) rfl rfl rfl (by kernel_rfl) (by kernel_rfl) (Try.call42 _ _) (kKnows w390 hO439) (by rintro e x ⟨rfl, rfl⟩; exact ⟨_, rfl, rfl, rfl⟩)) ?_ ?_; clear h448
           ·
            rintro _ _ ⟨rfl, rfl⟩
            exact hB395
           rintro _ _ a449 ⟨rfl, rfl⟩ h449
           refine dr_many [18] (by kernel_rfl) (by simp) ⟨?_, trivial⟩
           ·
            refine dr_opVal (i := 18) (v := .int .i64 L9.peer) h449 rfl rfl rfl rfl (by kernel_rfl) rfl (rn_load1 rfl rfl Try.isAgg3 ((LkR.blk hO435).cell rfl)) hB395 (fun a451 h451 => ?_); clear h449
            refine dk0 19 (v := .bool (L9.peer != L9.peer)) h451 rfl rfl hB395 fun a452 h452 => ?_; clear h451
            refine dk0 20 (v := .bool (L9.peer != L9.peer)) h452 rfl rfl hB395 fun a453 h453 => ?_; clear h452
            refine dr_done (by kernel_rfl) ?_
            refine co_then ?_
            have hc454 : (L9.peer != L9.peer) = false := by first | exact beq_self_eq_true _ | exact bne_self_eq_false _ | (simp; done)
            rw [hc454] at h453; clear hc454
            refine co_false h453 rfl ?_
            refine wp_skip ?_
            refine co_blockN ?_
            refine co_then ?_
            refine co_reg ?_
            refine pk0 (v := .int .i64 ((i : Nat) : Int)) h453 rfl fun a455 h455 => ?_; clear h453
            refine pk (v := .int .i64 ((i + 1 : Nat) : Int)) h455 rfl (rn_arith' rfl rfl rfl rfl rfl rfl (IntWalk.i64_in _ (by omega)) (by omega)) fun a456 h456 => ?_; clear h455
            refine pk0 (v := .int .i64 ((i + 1 : Nat) : Int)) h456 rfl fun a457 h457 => ?_; clear h456
            refine pl_nil ?_
            refine co_then ?_
            refine ⟨(l.length - (i + 1)), by omega, ?_⟩
            have hll := hi383
            have hmm := hi384
            have haa : ∀ q, S8 q → S9 q → False := hi385
            exact ⟨i + 1, S8, S9, u9, L9, h457.sub ⟨rfl, rfl, rfl, rfl, rfl, trivial⟩, rfl, by omega, by omega, by exact hll, by exact hmm, by exact haa, hO439, hO435, hB395⟩
          ·
           refine dr_opVal (i := 18) (v := .int .i64 L9.peer) h448 rfl rfl rfl rfl (by kernel_rfl) rfl (rn_load1 rfl rfl Try.isAgg3 ((LkR.blk hO435).cell rfl)) hB395 (fun a458 h458 => ?_); clear h448
           refine d1 14 h458 rfl rfl (op_call (args := #[pt N5 0]) (R := fun res xw => res = .int .i64 L9.peer ∧ w390 = xw) rfl rfl rfl (by kernel_rfl) (by kernel_rfl) (Try.call42 _ _) (kKnows w390 hO439) (by rintro e x ⟨rfl, rfl⟩; exact ⟨_, rfl, rfl, rfl⟩)) ?_ ?_; clear h458
           ·
            rintro _ _ ⟨rfl, rfl⟩
            exact hB395
           rintro _ _ a459 ⟨rfl, rfl⟩ h459
           refine dk0 19 (v := .bool (L9.peer != L9.peer)) h459 rfl rfl hB395 fun a461 h461 => ?_; clear h459
           refine dk0 20 (v := .bool (L9.peer != L9.peer)) h461 rfl rfl hB395 fun a462 h462 => ?_; clear h461
           refine dr_done (by kernel_rfl) ?_
           refine co_then ?_
           have hc463 : (L9.peer != L9.peer) = false := by first | exact beq_self_eq_true _ | exact bne_self_eq_false _ | (simp; done)
           rw [hc463] at h462; clear hc463
           refine co_false h462 rfl ?_
           refine wp_skip ?_
           refine co_blockN ?_
           refine co_then ?_
           refine co_reg ?_
           refine pk0 (v := .int .i64 ((i : Nat) : Int)) h462 rfl fun a464 h464 => ?_; clear h462
           refine pk (v := .int .i64 ((i + 1 : Nat) : Int)) h464 rfl (rn_arith' rfl rfl rfl rfl rfl rfl (IntWalk.i64_in _ (by omega)) (by omega)) fun a465 h465 => ?_; clear h464
           refine pk0 (v := .int .i64 ((i + 1 : Nat) : Int)) h465 rfl fun a466 h466 => ?_; clear h465
           refine pl_nil ?_
           refine co_then ?_
           refine ⟨(l.length - (i + 1)), by omega, ?_⟩
           have hll := hi383
           have hmm := hi384
           have haa : ∀ q, S8 q → S9 q → False := hi385
           exact ⟨i + 1, S8, S9, u9, L9, h466.sub ⟨rfl, rfl, rfl, rfl, rfl, trivial⟩, rfl, by omega, by omega, by exact hll, by exact hmm, by exact haa, hO439, hO435, hB395⟩
        ·
         refine dr_opVal (i := 9) (v := .int .i64 ((L9.q.length : Nat) : Int)) h436 rfl rfl rfl rfl (by kernel_rfl) rfl (rn_len rfl rfl Try.underlying38 (LkR.sl hO435)) hB395 (fun a467 h467 => ?_); clear h436
         have hO470 := LkP.gr hf386 hg391 (fun k e => by cases e)
         refine d1 4 h467 rfl rfl (op_call (args := #[pt N5 0]) (R := fun res xw => res = .int .i64 ((L9.q.length : Nat) : Int) ∧ w390 = xw) rfl rfl rfl (by kernel_rfl) (by kernel_rfl) (Try.call41 _ _) (kWaiting w390 hO470) (by rintro e x ⟨rfl, rfl⟩; exact ⟨_, rfl, rfl, rfl⟩)) ?_ ?_; clear h467
         ·
          rintro _ _ ⟨rfl, rfl⟩
          exact hB395
         rintro _ _ a468 ⟨rfl, rfl⟩ h468
         refine dk0 10 (v := .bool (((L9.q.length : Nat) : Int) != ((L9.q.length : Nat) : Int))) h468 rfl rfl hB395 fun a471 h471 => ?_; clear h468
         refine dk0 11 (v := .bool (((L9.q.length : Nat) : Int) != ((L9.q.length : Nat) : Int))) h471 rfl rfl hB395 fun a472 h472 => ?_; clear h471
         refine dk0 12 (v := .bool (((L9.q.length : Nat) : Int) != ((L9.q.length : Nat) : Int))) h472 rfl rfl hB395 fun a473 h473 => ?_; clear h472
         have hc474 : (((L9.q.length : Nat) : Int) != ((L9.q.length : Nat) : Int)) = false := by first | exact beq_self_eq_true _ | exact bne_self_eq_false _ | (simp; done)
         rw [hc474] at h473; clear hc474
         refine dk0 13 (v := pt N5 0) h473 rfl rfl hB395 fun a475 h475 => ?_; clear h473
         refine dk0 15 (v := pt N22 0) h475 rfl rfl hB395 fun a476 h476 => ?_; clear h475
         refine dk0 16 (v := pt N22 0) h476 rfl rfl hB395 fun a477 h477 => ?_; clear h476
         refine dk0 17 (v := pt N22 5) h477 rfl rfl hB395 fun a478 h478 => ?_; clear h477
         refine dr_many [14, 18] (by kernel_rfl) (by simp) ⟨?_, ?_, trivial⟩
         ·
          refine dr_op (i := 14) h478 rfl rfl rfl rfl (op_call (args := #[pt N5 0]) (R := fun res xw => res = .int .i64 L9.peer ∧ w390 = xw) rfl rfl rfl (by kernel_rfl) (by kernel_rfl) (Try.call42 _ _) (kKnows w390 hO470) (by rintro e x ⟨rfl, rfl⟩; exact ⟨_, rfl, rfl, rfl⟩)) ?_ ?_; clear h478
          ·
           rintro _ _ ⟨rfl, rfl⟩
           exact hB395
          rintro _ _ a479 ⟨rfl, rfl⟩ h479
          refine dr_many [18] (by kernel_rfl) (by simp) ⟨?_, trivial⟩
          ·
           refine dr_opVal (i := 18) (v := .int .i64 L9.peer) h479 rfl rfl rfl rfl (by kernel_rfl) rfl (rn_load1 rfl rfl Try.isAgg3 ((LkR.blk hO435).cell rfl)) hB395 (fun a481 h481 => ?_); clear h479
           refine dk0 19 (v := .bool (L9.peer != L9.peer)) h481 rfl rfl hB395 fun a482 h482 => ?_; clear h481
           refine dk0 20 (v := .bool (L9.peer != L9.peer)) h482 rfl rfl hB395 fun a483 h483 => ?_; clear h482
           refine dr_done (by kernel_rfl) ?_
           refine co_then ?_
           have hc484 : (L9.peer != L9.peer) = false := by first | exact beq_self_eq_true _ | exact bne_self_eq_false _ | (simp; done)
           rw [hc484] at h483; clear hc484
           refine co_false h483 rfl ?_
           refine wp_skip ?_
           refine co_blockN ?_
           refine co_then ?_
           refine co_reg ?_
           refine pk0 (v := .int .i64 ((i : Nat) : Int)) h483 rfl fun a485 h485 => ?_; clear h483
           refine pk (v := .int .i64 ((i + 1 : Nat) : Int)) h485 rfl (rn_arith' rfl rfl rfl rfl rfl rfl (IntWalk.i64_in _ (by omega)) (by omega)) fun a486 h486 => ?_; clear h485
           refine pk0 (v := .int .i64 ((i + 1 : Nat) : Int)) h486 rfl fun a487 h487 => ?_; clear h486
           refine pl_nil ?_
           refine co_then ?_
           refine ⟨(l.length - (i + 1)), by omega, ?_⟩
           have hll := hi383
           have hmm := hi384
           have haa : ∀ q, S8 q → S9 q → False := hi385
           exact ⟨i + 1, S8, S9, u9, L9, h487.sub ⟨rfl, rfl, rfl, rfl, rfl, trivial⟩, rfl, by omega, by omega, by exact hll, by exact hmm, by exact haa, hO470, hO435, hB395⟩
         ·
          refine dr_opVal (i := 18) (v := .int .i64 L9.peer) h478 rfl rfl rfl rfl (by kernel_rfl) rfl (rn_load1 rfl rfl Try.isAgg3 ((LkR.blk hO435).cell rfl)) hB395 (fun a488 h488 => ?_); clear h478
          refine d1 14 h488 rfl rfl (op_call (args := #[pt N5 0]) (R := fun res xw => res = .int .i64 L9.peer ∧ w390 = xw) rfl rfl rfl (by kernel_rfl) (by kernel_rfl) (Try.call42 _ _) (kKnows w390 hO470) (by rintro e x ⟨rfl, rfl⟩; exact ⟨_, rfl, rfl, rfl⟩)) ?_ ?_; clear h488
          ·
           rintro _ _ ⟨rfl, rfl⟩
           exact hB395
          rintro _ _ a489 ⟨rfl, rfl⟩ h489
          refine dk0 19 (v := .bool (L9.peer != L9.peer)) h489 rfl rfl hB395 fun a491 h491 => ?_; clear h489
          refine dk0 20 (v := .bool (L9.peer != L9.peer)) h491 rfl rfl hB395 fun a492 h492 => ?_; clear h491
          refine dr_done (by kernel_rfl) ?_
          refine co_then ?_
          have hc493 : (L9.peer != L9.peer) = false := by first | exact beq_self_eq_true _ | exact bne_self_eq_false _ | (simp; done)
          rw [hc493] at h492; clear hc493
          refine co_false h492 rfl ?_
          refine wp_skip ?_
          refine co_blockN ?_
          refine co_then ?_
          refine co_reg ?_
          refine pk0 (v := .int .i64 ((i : Nat) : Int)) h492 rfl fun a494 h494 => ?_; clear h492
          refine pk (v := .int .i64 ((i + 1 : Nat) : Int)) h494 rfl (rn_arith' rfl rfl rfl rfl rfl rfl (IntWalk.i64_in _ (by omega)) (by omega)) fun a495 h495 => ?_; clear h494
          refine pk0 (v := .int .i64 ((i + 1 : Nat) : Int)) h495 rfl fun a496 h496 => ?_; clear h495
          refine pl_nil ?_
          refine co_then ?_
          refine ⟨(l.length - (i + 1)), by omega, ?_⟩
          have hll := hi383
          have hmm := hi384
          have haa : ∀ q, S8 q → S9 q → False := hi385
          exact ⟨i + 1, S8, S9, u9, L9, h496.sub ⟨rfl, rfl, rfl, rfl, rfl, trivial⟩, rfl, by omega, by omega, by exact hll, by exact hmm, by exact haa, hO470, hO435, hB395⟩
 · skip
   refine co_enter (n := 139) Try.func7 rfl rfl rfl [(0, .int .i64 boot), (1, v)] rfl (fun a h0 => ?_)
   refine co_seq ?_
   refine co_reg ?_
   refine pk0 (v := .bool false) h0 rfl fun a497 h497 => ?_; clear h0
   refine pl_nil ?_
   refine co_then ?_
   refine co_seq ?_
   refine co_reg ?_
   refine pk0 (v := .int .i64 boot) h497 rfl fun a498 h498 => ?_; clear h497
   refine pw h498 rfl (op_call (args := #[.int .i64 boot]) (R := fun res xw => res = .tuple #[.pointer none, .int .i64 1] ∧ w = xw) rfl rfl rfl (by kernel_rfl) (by kernel_rfl) (Try.call32 _ _) (lkNew_bad boot w (by omega)) (by rintro e x ⟨rfl, rfl⟩; exact ⟨_, rfl, rfl, rfl⟩)) ?_; clear h498
   rintro _ _ a499 ⟨rfl, rfl⟩ h499
   refine pk0 (v := .tuple #[.pointer none, .int .i64 1]) h499 rfl fun a501 h501 => ?_; clear h499
   refine pk0 (v := .pointer none) h501 rfl fun a502 h502 => ?_; clear h501
   refine pk0 (v := .int .i64 1) h502 rfl fun a503 h503 => ?_; clear h502
   refine pk0 (v := .pointer none) h503 rfl fun a504 h504 => ?_; clear h503
   refine pk0 (v := .int .i64 1) h504 rfl fun a505 h505 => ?_; clear h504
   refine pl_nil ?_
   refine co_then ?_
   refine co_seq ?_
   refine co_reg ?_
   refine pk0 (v := .int .i64 boot) h505 rfl fun a506 h506 => ?_; clear h505
   refine pw h506 rfl (op_call (args := #[.int .i64 boot]) (R := fun res xw => res = .tuple #[.pointer none, .int .i64 1] ∧ w = xw) rfl rfl rfl (by kernel_rfl) (by kernel_rfl) (Try.call33 _ _) (rlNew_bad boot w (by omega)) (by rintro e x ⟨rfl, rfl⟩; exact ⟨_, rfl, rfl, rfl⟩)) ?_; clear h506
   rintro _ _ a507 ⟨rfl, rfl⟩ h507
   refine pk0 (v := .tuple #[.pointer none, .int .i64 1]) h507 rfl fun a509 h509 => ?_; clear h507
   refine pk0 (v := .pointer none) h509 rfl fun a510 h510 => ?_; clear h509
   refine pk0 (v := .int .i64 1) h510 rfl fun a511 h511 => ?_; clear h510
   refine pk0 (v := .pointer none) h511 rfl fun a512 h512 => ?_; clear h511
   refine pk0 (v := .int .i64 1) h512 rfl fun a513 h513 => ?_; clear h512
   refine pl_nil ?_
   refine co_then ?_
   refine co_seq ?_
   refine co_seq ?_
   refine co_reg ?_
   refine pk0 (v := .int .i64 1) h513 rfl fun a514 h514 => ?_; clear h513
   refine pk0 (v := .int .i64 1) h514 rfl fun a515 h515 => ?_; clear h514
   refine pk0 (v := .bool ((1 : Int) != 1)) h515 rfl fun a516 h516 => ?_; clear h515
   refine pk0 (v := .bool ((1 : Int) != 1)) h516 rfl fun a517 h517 => ?_; clear h516
   have hc518 : ((1 : Int) != 1) = false := by first | (simp; done) | (simp; omega) | exact beq_false_of_ne (by omega) | exact beq_iff_eq.2 (by omega)
   rw [hc518] at h517; clear hc518
   refine pk0 (v := .pointer none) h517 rfl fun a519 h519 => ?_; clear h517
   refine pk0 (v := .bool true) h519 rfl fun a520 h520 => ?_; clear h519
   refine pk0 (v := .pointer none) h520 rfl fun a521 h521 => ?_; clear h520
   refine pk0 (v := .bool true) h521 rfl fun a522 h522 => ?_; clear h521
   refine pk0 (v := .bool false) h522 rfl fun a523 h523 => ?_; clear h522
   refine pk0 (v := .bool false) h523 rfl fun a524 h524 => ?_; clear h523
   refine pl_nil ?_
   refine co_then ?_
   refine co_false h524 rfl ?_
   refine wp_skip ?_
   refine co_then ?_
   refine co_seq ?_
   refine co_seq ?_
   refine co_reg ?_
   refine pk0 (v := .int .i64 0) h524 rfl fun a525 h525 => ?_; clear h524
   refine pl_nil ?_
   refine co_then ?_
   refine wp_block ?_
   have h526 : Slots 139 [(0, .int .i64 boot), (1, v), (5, .pointer none), (7, .pointer none), (9, .int .i64 0)] _ := h525.sub ⟨rfl, rfl, rfl, rfl, rfl, trivial⟩; clear h525
   refine co_loop (fun mm a x => Slots 139 [(0, .int .i64 boot), (1, v), (5, .pointer none), (7, .pointer none), (9, .int .i64 0)] a ∧ mm = 0 ∧ Below w.heap.size w x) (0) ?_ ?_
   · exact ⟨h526.sub ⟨rfl, rfl, rfl, rfl, rfl, trivial⟩, rfl, hB0⟩
   · rintro k527 a528 w529 ⟨h528, rfl, hB530⟩
     have hz531 := hB530.size
     refine co_seq ?_
     refine co_seq ?_
     refine co_reg ?_
     refine pk0 (v := .int .i64 0) h528 rfl fun a532 h532 => ?_; clear h528
     refine pk0 (v := v) h532 rfl fun a533 h533 => ?_; clear h532
     refine pk (v := .int .i64 ((l.length : Nat) : Int)) h533 rfl (rn_len rfl rfl Try.underlying52 (hs.below hB530)) fun a534 h534 => ?_; clear h533
     refine pk0 (v := .bool (decide (0 < ((l.length : Nat) : Int)))) h534 rfl fun a535 h535 => ?_; clear h534
     refine pk0 (v := .bool (decide (0 < ((l.length : Nat) : Int)))) h535 rfl fun a536 h536 => ?_; clear h535
     cases hc537 : (decide (0 < ((l.length : Nat) : Int)))
     ·
      rw [hc537] at h536
      have hp538 : ¬ (0 < ((l.length : Nat) : Int)) := of_decide_eq_false hc537
      clear hc537
      refine psk h536 rfl fun a539 h539 => ?_; clear h536
      refine psk h539 rfl fun a540 h540 => ?_; clear h539
      refine pk0 (v := .bool false) h540 rfl fun a541 h541 => ?_; clear h540
      refine pk0 (v := .bool false) h541 rfl fun a542 h542 => ?_; clear h541
      refine psk h542 rfl fun a543 h543 => ?_; clear h542
      refine psk h543 rfl fun a544 h544 => ?_; clear h543
      refine pk0 (v := .bool false) h544 rfl fun a545 h545 => ?_; clear h544
      refine pl_nil ?_
      refine co_then ?_
      refine co_false h545 rfl ?_
      refine wp_exit ?_
      refine co_thenX ?_
      refine co_thenX ?_
      refine co_blockX ?_
      refine co_then ?_
      refine co_seq ?_
      refine co_reg ?_
      refine pw h545 rfl (op_call (args := #[]) (R := fun res xw => res = .bool true ∧ Below w529.heap.size w529 xw) rfl rfl rfl (by kernel_rfl) (by kernel_rfl) (Try.call43 _ _) (awake22 w529) (by rintro e x ⟨rfl, h⟩; exact ⟨_, rfl, rfl, h⟩)) ?_; clear h545
      rintro _ w547 a546 ⟨rfl, hb548⟩ h546
      have hz549 := hb548.size
      refine pk0 (v := .bool true) h546 rfl fun a550 h550 => ?_; clear h546
      refine pl_nil ?_
      refine co_then ?_
      refine wp_ret ?_
      refine co_ret1 h550 rfl rfl ?_
      have hB551 := hb_call hB530 hb548
      exact ⟨rfl, hB551⟩
     ·
      rw [hc537] at h536
      have hp552 : 0 < ((l.length : Nat) : Int) := of_decide_eq_true hc537
      clear hc537
      refine pk0 (v := .int .i64 0) h536 rfl fun a553 h553 => ?_; clear h536
      refine pk0 (v := .bool (decide (0 < 40))) h553 rfl fun a554 h554 => ?_; clear h553
      refine pk0 (v := .bool (decide (0 < 40))) h554 rfl fun a555 h555 => ?_; clear h554
      refine pk0 (v := .bool (decide (0 < 40))) h555 rfl fun a556 h556 => ?_; clear h555
      have hc557 : (decide (0 < 40)) = true := decide_eq_true (by omega)
      rw [hc557] at h556; clear hc557
      refine pk0 (v := .pointer none) h556 rfl fun a558 h558 => ?_; clear h556
      refine pk0 (v := .bool false) h558 rfl fun a559 h559 => ?_; clear h558
      refine pk0 (v := .bool false) h559 rfl fun a560 h560 => ?_; clear h559
      refine pl_nil ?_
      refine co_then ?_
      refine co_false h560 rfl ?_
      refine wp_exit ?_
      refine co_thenX ?_
      refine co_thenX ?_
      refine co_blockX ?_
      refine co_then ?_
      refine co_seq ?_
      refine co_reg ?_
      refine pw h560 rfl (op_call (args := #[]) (R := fun res xw => res = .bool true ∧ Below w529.heap.size w529 xw) rfl rfl rfl (by kernel_rfl) (by kernel_rfl) (Try.call43 _ _) (awake22 w529) (by rintro e x ⟨rfl, h⟩; exact ⟨_, rfl, rfl, h⟩)) ?_; clear h560
      rintro _ w562 a561 ⟨rfl, hb563⟩ h561
      have hz564 := hb563.size
      refine pk0 (v := .bool true) h561 rfl fun a565 h565 => ?_; clear h561
      refine pl_nil ?_
      refine co_then ?_
      refine wp_ret ?_
      refine co_ret1 h565 rfl rfl ?_
      have hB566 := hb_call hB530 hb563
      exact ⟨rfl, hB566⟩
end Go.Proofs.Ythmljllgfigebaa
