/- catenalaw23: HubPlays. Conditions: none. -/
import Derived.Test.YthmljllgfigebaaHubJLb
import Derived.Test.YthmljllgfigebaaGoLb
namespace Go.Proofs.Ythmljllgfigebaa
open Go.RowKit Go.PlainAid
set_option linter.unusedVariables false

set_option maxRecDepth 100000 in
set_option maxHeartbeats 6400000 in
theorem hubPlays_law (self : Int) (boot : Int) (v : Value) (l : List HActT) (w : World) (hs : SliceOf hactE 4 w v l) (hok : ∀ z ∈ l, HActOk z) :
    Calls Try.prog 12 #[.int .i64 self, .int .i64 boot, v] w fun e w' => e = .returned (.bool true) ∧ Below w.heap.size w w' := by
 have hB0 := Below.refl w.heap.size w
 have hl_hs := sl_len hs
 by_cases hbt : (0 ≤ self ∧ self < 4) ∧ 1 ≤ boot ∧ boot ≤ 1073741824
 · skip
   refine co_enter (n := 161) Try.func12 rfl rfl rfl [(0, .int .i64 self), (1, .int .i64 boot), (2, v)] rfl (fun a h0 => ?_)
   refine co_seq ?_
   refine co_reg ?_
   refine pk0 (v := .bool false) h0 rfl fun a1 h1 => ?_; clear h0
   refine pl_nil ?_
   refine co_then ?_
   refine co_seq ?_
   refine co_reg ?_
   refine pk0 (v := .int .i64 self) h1 rfl fun a2 h2 => ?_; clear h1
   refine pk0 (v := .int .i64 boot) h2 rfl fun a3 h3 => ?_; clear h2
   refine pw h3 rfl (op_call (args := #[.int .i64 self, .int .i64 boot]) (R := fun res xw => ∃ (N : Nat) (S : Nat → Prop), res = .tuple #[pt N 0, .int .i64 0] ∧ HbP S xw N (newM self boot 4) ∧ (∀ q, S q → w.heap.size ≤ q) ∧ Below w.heap.size w xw) rfl rfl rfl (by kernel_rfl) (by kernel_rfl) (Try.call52 _ _) (pHNew self boot w (by omega) (by omega)) (by rintro e x ⟨N, S, rfl, h⟩; exact ⟨_, rfl, N, S, rfl, h⟩)) ?_; clear h3
   rintro _ w5 a4 ⟨N6, S7, rfl, hO8, hlo9, hb10⟩ h4
   have hz11 := hb10.size
   have hlo12 : ∀ q, S7 q → w.heap.size ≤ q := fun q hq => by have := hlo9 q hq; omega
   refine pk0 (v := .tuple #[pt N6 0, .int .i64 0]) h4 rfl fun a13 h13 => ?_; clear h4
   refine pk0 (v := pt N6 0) h13 rfl fun a14 h14 => ?_; clear h13
   refine pk0 (v := .int .i64 0) h14 rfl fun a15 h15 => ?_; clear h14
   refine pk0 (v := pt N6 0) h15 rfl fun a16 h16 => ?_; clear h15
   refine pk0 (v := .int .i64 0) h16 rfl fun a17 h17 => ?_; clear h16
   refine pl_nil ?_
   refine co_then ?_
   refine co_seq ?_
   refine co_reg ?_
   refine pk0 (v := .int .i64 self) h17 rfl fun a18 h18 => ?_; clear h17
   refine pk0 (v := .int .i64 boot) h18 rfl fun a19 h19 => ?_; clear h18
   have ho22 := HbP.ofS hO8
   refine pw h19 rfl (op_call (args := #[.int .i64 self, .int .i64 boot]) (R := fun res xw => ∃ (N : Nat) (S : Nat → Prop), res = .tuple #[pt N 0, .int .i64 0] ∧ HbR S xw N (newM self boot 4) ∧ (∀ q, S q → w5.heap.size ≤ q) ∧ Below w5.heap.size w5 xw) rfl rfl rfl (by kernel_rfl) (by kernel_rfl) (Try.call53 _ _) (rHNew self boot w5 (by omega) (by omega)) (by rintro e x ⟨N, S, rfl, h⟩; exact ⟨_, rfl, N, S, rfl, h⟩)) ?_; clear h19
   rintro _ w21 a20 ⟨N23, S24, rfl, hO25, hlo26, hb27⟩ h20
   have hz28 := hb27.size
   have ho29 := HbP.ofS hO8
   have hlo30 : ∀ q, S24 q → w.heap.size ≤ q := fun q hq => by have := hlo26 q hq; omega
   refine pk0 (v := .tuple #[pt N23 0, .int .i64 0]) h20 rfl fun a31 h31 => ?_; clear h20
   refine pk0 (v := pt N23 0) h31 rfl fun a32 h32 => ?_; clear h31
   refine pk0 (v := .int .i64 0) h32 rfl fun a33 h33 => ?_; clear h32
   refine pk0 (v := pt N23 0) h33 rfl fun a34 h34 => ?_; clear h33
   refine pk0 (v := .int .i64 0) h34 rfl fun a35 h35 => ?_; clear h34
   refine pl_nil ?_
   refine co_then ?_
   refine co_seq ?_
   refine co_seq ?_
   refine co_reg ?_
   refine pk0 (v := .int .i64 0) h35 rfl fun a36 h36 => ?_; clear h35
   refine pk0 (v := .int .i64 0) h36 rfl fun a37 h37 => ?_; clear h36
   refine pk0 (v := .bool ((0 : Int) != 0)) h37 rfl fun a38 h38 => ?_; clear h37
   refine pk0 (v := .bool ((0 : Int) != 0)) h38 rfl fun a39 h39 => ?_; clear h38
   have hc40 : ((0 : Int) != 0) = false := by first | (simp; done) | (simp; omega) | exact beq_false_of_ne (by omega) | exact beq_iff_eq.2 (by omega)
   rw [hc40] at h39; clear hc40
   refine pk0 (v := pt N6 0) h39 rfl fun a41 h41 => ?_; clear h39
   refine pk0 (v := .bool false) h41 rfl fun a42 h42 => ?_; clear h41
   refine pk0 (v := pt N23 0) h42 rfl fun a43 h43 => ?_; clear h42
   refine pk0 (v := .bool false) h43 rfl fun a44 h44 => ?_; clear h43
   refine pk0 (v := .bool false) h44 rfl fun a45 h45 => ?_; clear h44
   refine pk0 (v := .bool false) h45 rfl fun a46 h46 => ?_; clear h45
   refine pl_nil ?_
   refine co_then ?_
   refine co_false h46 rfl ?_
   refine wp_skip ?_
   refine co_then ?_
   refine co_seq ?_
   refine co_seq ?_
   refine co_reg ?_
   refine pk0 (v := .int .i64 0) h46 rfl fun a47 h47 => ?_; clear h46
   refine pl_nil ?_
   refine co_then ?_
   refine wp_block ?_
   have hll := hlo12
   have hmm := hlo30
   have haa : ∀ q, S7 q → S24 q → False := (fun q h1 h2 => by have e1 := ho22 q h1; have e2 := hlo26 q h2; omega)
   have h48 : Slots 161 [(0, .int .i64 self), (1, .int .i64 boot), (2, v), (7, pt N6 0), (9, pt N23 0), (11, .int .i64 0)] _ := h47.sub ⟨rfl, rfl, rfl, rfl, rfl, rfl, trivial⟩; clear h47
   refine co_loop (fun mm a x => ∃ (i : Nat) (SA : Nat → Prop) (SB : Nat → Prop) (M : Nat → Option LnT), Slots 161 [(0, .int .i64 self), (1, .int .i64 boot), (2, v), (7, pt N6 0), (9, pt N23 0), (11, .int .i64 ((i : Nat) : Int))] a ∧ mm = l.length - i ∧ (i ≤ l.length) ∧ (i ≤ 40) ∧ (∀ q, SA q → w.heap.size ≤ q) ∧ (∀ q, SB q → w.heap.size ≤ q) ∧ (∀ q, SA q → SB q → False) ∧ HbP SA x N6 M ∧ HbR SB x N23 M ∧ Below w.heap.size w x) (l.length - 0) ?_ ?_
   have hO49 := HbP.gr hO8 (below_grown hb27) (fun k e => by cases e)
   have hB50 := hb_call hB0 hb10
   have hB51 := hb_call hB50 hb27
   · exact ⟨0, S7, S24, (newM self boot 4), h48.sub ⟨rfl, rfl, rfl, rfl, rfl, (slot_eq rfl (congrArg (Value.int .i64) (by first | rfl | omega))), trivial⟩, rfl, by omega, by omega, by exact hll, by exact hmm, by exact haa, hO49, hO25, hB51⟩
   · rintro k52 a53 w54 ⟨i, SA, SB, M, h53, rfl, hi55, hi56, hi57, hi58, hi59, hf60, hf61, hB62⟩
     have hz63 := hB62.size
     have hg64 : ∀ q, SA q → w.heap.size ≤ q := by assumption
     have hg65 : ∀ q, SB q → w.heap.size ≤ q := by assumption
     have hg66 : ∀ q, SA q → SB q → False := by assumption
     refine co_seq ?_
     refine co_seq ?_
     refine co_reg ?_
     refine pk0 (v := .int .i64 ((i : Nat) : Int)) h53 rfl fun a67 h67 => ?_; clear h53
     refine pk0 (v := v) h67 rfl fun a68 h68 => ?_; clear h67
     refine pk (v := .int .i64 ((l.length : Nat) : Int)) h68 rfl (rn_len rfl rfl Try.underlying103 (hs.below hB62)) fun a69 h69 => ?_; clear h68
     refine pk0 (v := .bool (decide (((i : Nat) : Int) < ((l.length : Nat) : Int)))) h69 rfl fun a70 h70 => ?_; clear h69
     refine pk0 (v := .bool (decide (((i : Nat) : Int) < ((l.length : Nat) : Int)))) h70 rfl fun a71 h71 => ?_; clear h70
     cases hc72 : (decide (((i : Nat) : Int) < ((l.length : Nat) : Int)))
     ·
      rw [hc72] at h71
      have hp73 : ¬ (((i : Nat) : Int) < ((l.length : Nat) : Int)) := of_decide_eq_false hc72
      clear hc72
      refine psk h71 rfl fun a74 h74 => ?_; clear h71
      refine psk h74 rfl fun a75 h75 => ?_; clear h74
      refine pk0 (v := .bool false) h75 rfl fun a76 h76 => ?_; clear h75
      refine pk0 (v := .bool false) h76 rfl fun a77 h77 => ?_; clear h76
      refine psk h77 rfl fun a78 h78 => ?_; clear h77
      refine psk h78 rfl fun a79 h79 => ?_; clear h78
      refine pk0 (v := .bool false) h79 rfl fun a80 h80 => ?_; clear h79
      refine pl_nil ?_
      refine co_then ?_
      refine co_false h80 rfl ?_
      refine wp_exit ?_
      refine co_thenX ?_
      refine co_thenX ?_
      refine co_blockX ?_
      refine co_then ?_
      refine co_seq ?_
      refine co_reg ?_
      refine pw h80 rfl (op_call (args := #[]) (R := fun res xw => res = .bool true ∧ Below w54.heap.size w54 xw) rfl rfl rfl (by kernel_rfl) (by kernel_rfl) (Try.call63 _ _) (awake23 w54) (by rintro e x ⟨rfl, h⟩; exact ⟨_, rfl, rfl, h⟩)) ?_; clear h80
      rintro _ w82 a81 ⟨rfl, hb83⟩ h81
      have hz84 := hb83.size
      have ho85 := HbP.ofS hf60
      have ho86 := HbR.ofS hf61
      refine pk0 (v := .bool true) h81 rfl fun a87 h87 => ?_; clear h81
      refine pl_nil ?_
      refine co_then ?_
      refine wp_ret ?_
      refine co_ret1 h87 rfl rfl ?_
      have hB88 := hb_call hB62 hb83
      exact ⟨rfl, hB88⟩
     ·
      rw [hc72] at h71
      have hp89 : ((i : Nat) : Int) < ((l.length : Nat) : Int) := of_decide_eq_true hc72
      clear hc72
      refine pk0 (v := .int .i64 ((i : Nat) : Int)) h71 rfl fun a90 h90 => ?_; clear h71
      refine pk0 (v := .bool (decide (((i : Nat) : Int) < 40))) h90 rfl fun a91 h91 => ?_; clear h90
      refine pk0 (v := .bool (decide (((i : Nat) : Int) < 40))) h91 rfl fun a92 h92 => ?_; clear h91
      refine pk0 (v := .bool (decide (((i : Nat) : Int) < 40))) h92 rfl fun a93 h93 => ?_; clear h92
      cases hc94 : (decide (((i : Nat) : Int) < 40))
      ·
       rw [hc94] at h93
       have hp95 : ¬ (((i : Nat) : Int) < 40) := of_decide_eq_false hc94
       clear hc94
       refine psk h93 rfl fun a96 h96 => ?_; clear h93
       refine psk h96 rfl fun a97 h97 => ?_; clear h96
       refine pk0 (v := .bool false) h97 rfl fun a98 h98 => ?_; clear h97
       refine pl_nil ?_
       refine co_then ?_
       refine co_false h98 rfl ?_
       refine wp_exit ?_
       refine co_thenX ?_
       refine co_thenX ?_
       refine co_blockX ?_
       refine co_then ?_
       refine co_seq ?_
       refine co_reg ?_
       refine pw h98 rfl (op_call (args := #[]) (R := fun res xw => res = .bool true ∧ Below w54.heap.size w54 xw) rfl rfl rfl (by kernel_rfl) (by kernel_rfl) (Try.call63 _ _) (awake23 w54) (by rintro e x ⟨rfl, h⟩; exact ⟨_, rfl, rfl, h⟩)) ?_; clear h98
       rintro _ w100 a99 ⟨rfl, hb101⟩ h99
       have hz102 := hb101.size
       have ho103 := HbP.ofS hf60
       have ho104 := HbR.ofS hf61
       refine pk0 (v := .bool true) h99 rfl fun a105 h105 => ?_; clear h99
       refine pl_nil ?_
       refine co_then ?_
       refine wp_ret ?_
       refine co_ret1 h105 rfl rfl ?_
       have hB106 := hb_call hB62 hb101
       exact ⟨rfl, hB106⟩
      ·
       rw [hc94] at h93
       have hp107 : ((i : Nat) : Int) < 40 := of_decide_eq_true hc94
       clear hc94
       refine pk0 (v := pt N23 0) h93 rfl fun a108 h108 => ?_; clear h93
       refine pk0 (v := .bool true) h108 rfl fun a109 h109 => ?_; clear h108
       refine pk0 (v := .bool true) h109 rfl fun a110 h110 => ?_; clear h109
       refine pl_nil ?_
       refine co_then ?_
       refine co_true h110 rfl ?_
       refine wp_skip ?_
       refine co_then ?_
       refine co_seq ?_
       refine wp_block ?_
       refine co_seq ?_
       refine co_reg ?_
       refine pk0 (v := .bool true) h110 rfl fun a111 h111 => ?_; clear h110
       refine pl_nil ?_
       refine co_then ?_
       refine co_cut (fun a x => ∃ (S8 : Nat → Prop) (S9 : Nat → Prop) (M9 : Nat → Option LnT), Slots 161 [(0, .int .i64 self), (1, .int .i64 boot), (2, v), (7, pt N6 0), (9, pt N23 0), (11, .int .i64 ((i : Nat) : Int)), (12, .bool true)] a ∧ (∀ q, S8 q → w.heap.size ≤ q) ∧ (∀ q, S9 q → w.heap.size ≤ q) ∧ (∀ q, S8 q → S9 q → False) ∧ HbP S8 x N6 M9 ∧ HbR S9 x N23 M9 ∧ Below w.heap.size w x) ?_ ?_
       ·
        refine co_seq ?_
        refine co_reg ?_
        refine pk0 (v := v) h111 rfl fun a112 h112 => ?_; clear h111
        refine pk0 (v := .int .i64 ((i : Nat) : Int)) h112 rfl fun a113 h113 => ?_; clear h112
        obtain ⟨y114, hy114⟩ : ∃ z, l[i]? = some z := ⟨_, List.getElem?_eq_getElem (by first | omega | (simp; done) | (simp; omega))⟩
        have oky114 := hok _ (List.mem_of_getElem? hy114)
        refine pk (v := pt (blkOf v) (offOf v + i * 4)) h113 rfl (rn_index rfl rfl rfl Try.underlying103 Try.sizeOf111 (hs.below hB62) (by omega) (by first | omega | (simp; done) | (simp; omega))) fun a115 h115 => ?_; clear h113
        refine pk0 (v := pt (blkOf v) (offOf v + i * 4)) h115 rfl fun a116 h116 => ?_; clear h115
        refine pk (v := .int .i64 y114.c) h116 rfl (rn_load1 rfl rfl Try.isAgg3 ((sl_at (hs.below hB62) hy114) 0 _ rfl)) fun a117 h117 => ?_; clear h116
        refine pl_nil ?_
        refine co_then ?_
        refine wp_block ?_
        refine co_seq ?_
        refine co_seq ?_
        refine co_reg ?_
        refine pk0 (v := .bool (y114.c == 0)) h117 rfl fun a118 h118 => ?_; clear h117
        refine pk0 (v := .bool (y114.c == 0)) h118 rfl fun a119 h119 => ?_; clear h118
        refine pl_nil ?_
        refine co_then ?_
        cases hc120 : (y114.c == 0)
        ·
         rw [hc120] at h119
         have hp121 : ¬ (y114.c = 0) := by first | simpa using hc120 | simpa [and_assoc] using hc120
         clear hc120
         refine co_false h119 rfl ?_
         refine co_reg ?_
         refine pk0 (v := .bool (y114.c == 1)) h119 rfl fun a122 h122 => ?_; clear h119
         refine pk0 (v := .bool (y114.c == 1)) h122 rfl fun a123 h123 => ?_; clear h122
         refine pl_nil ?_
         refine co_then ?_
         cases hc124 : (y114.c == 1)
         ·
          rw [hc124] at h123
          have hp125 : ¬ (y114.c = 1) := by first | simpa using hc124 | simpa [and_assoc] using hc124
          clear hc124
          refine co_false h123 rfl ?_
          refine co_seq ?_
          refine co_reg ?_
          refine pk0 (v := .bool (y114.c == 2)) h123 rfl fun a126 h126 => ?_; clear h123
          refine pk0 (v := .bool (y114.c == 2)) h126 rfl fun a127 h127 => ?_; clear h126
          refine pl_nil ?_
          refine co_then ?_
          cases hc128 : (y114.c == 2)
          ·
           rw [hc128] at h127
           have hp129 : ¬ (y114.c = 2) := by first | simpa using hc128 | simpa [and_assoc] using hc128
           clear hc128
           refine co_false h127 rfl ?_
           refine co_seq ?_
           refine dr_gen (fun x => Below w.heap.size w x) (by kernel_rfl) (fun w130 hg131 => ?_) (fun w130 hg131 => ?_)
           ·
            have hz132 := hg131.size
            have hB133 := hb_new hB62 hg131
            exact hB133
           have hz134 := hg131.size
           have hB135 := hb_new hB62 hg131
           refine dk0 0 (v := pt N6 0) h127 rfl rfl hB135 fun a136 h136 => ?_; clear h127
           refine dk0 1 (v := v) h136 rfl rfl hB135 fun a137 h137 => ?_; clear h136
           refine dk0 2 (v := .int .i64 ((i : Nat) : Int)) h137 rfl rfl hB135 fun a138 h138 => ?_; clear h137
           refine dk 3 (v := pt (blkOf v) (offOf v + i * 4)) h138 rfl rfl hB135 (fun x hx => (rn_index rfl rfl rfl Try.underlying103 Try.sizeOf111 (hs.below hx) (by omega) (by first | omega | (simp; done) | (simp; omega)))) fun a139 h139 => ?_; clear h138
           refine dk0 4 (v := pt (blkOf v) (offOf v + i * 4 + 1)) h139 rfl rfl hB135 fun a140 h140 => ?_; clear h139
           refine dk 5 (v := .int .i64 y114.n) h140 rfl rfl hB135 (fun x hx => (rn_load1 rfl rfl Try.isAgg3 ((sl_at (hs.below hx) hy114) 1 _ rfl))) fun a141 h141 => ?_; clear h140
           refine dk0 6 (v := v) h141 rfl rfl hB135 fun a142 h142 => ?_; clear h141
           refine dk0 7 (v := .int .i64 ((i : Nat) : Int)) h142 rfl rfl hB135 fun a143 h143 => ?_; clear h142
           refine dk 8 (v := pt (blkOf v) (offOf v + i * 4)) h143 rfl rfl hB135 (fun x hx => (rn_index rfl rfl rfl Try.underlying103 Try.sizeOf111 (hs.below hx) (by omega) (by first | omega | (simp; done) | (simp; omega)))) fun a144 h144 => ?_; clear h143
           refine dk0 9 (v := pt (blkOf v) (offOf v + i * 4 + 2)) h144 rfl rfl hB135 fun a145 h145 => ?_; clear h144
           refine dk 10 (v := .string y114.s) h145 rfl rfl hB135 (fun x hx => (rn_load1 rfl rfl Try.isAgg9 ((sl_at (hs.below hx) hy114) 2 _ rfl))) fun a146 h146 => ?_; clear h145
           have hO150 := HbP.gr hf60 hg131 (fun k e => by cases e)
           have ho149 := HbP.ofS hO150
           have hO152 := HbR.gr hf61 hg131 (fun k e => by cases e)
           have ho151 := HbR.ofS hO152
           refine d1 11 h146 rfl rfl (op_call (args := #[pt N6 0, .int .i64 y114.n, .string y114.s]) (R := fun res xw => ∃ v : Value, ∃ S' : Nat → Prop, res = .tuple #[v, .int .i64 ((hInT M y114.n y114.s).2.1)] ∧ HbP S' xw N6 (hInT M y114.n y114.s).2.2 ∧ (xw.ownsRow w130.heap.size 9 1 v (hInT M y114.n y114.s).1.length ((hInT M y114.n y114.s).1.flatMap strE)) ∧ (∀ i, v.ownBlock = some i → ¬ S' i) ∧ Grew SA S' w130 xw) rfl rfl rfl (by kernel_rfl) (by kernel_rfl) (Try.call59 _ _) (hbIn_any SA w130 N6 M y114.n y114.s (by assumption) hO150) (by rintro e x ⟨v, S', h0, h⟩; exact ⟨_, h0, v, S', rfl, h⟩)) ?_ ?_; clear h146
           ·
            rintro _ w148 ⟨v153, S154, rfl, hO155, hq157, hq158, hx156⟩
            have hlo160 : ∀ q, S154 q → w.heap.size ≤ q := hx156.lo hg64 (by omega)
            have hB159 := hbL hB135 hg64 hx156.but
            have hz161 := hB159.size
            have hz162 := hx156.but.size
            exact hB159
           rintro _ w148 a147 ⟨v153, S154, rfl, hO155, hq157, hq158, hx156⟩ h147
           have hlo160 : ∀ q, S154 q → w.heap.size ≤ q := hx156.lo hg64 (by omega)
           have hB159 := hbL hB135 hg64 hx156.but
           have hz161 := hB159.size
           have hz162 := hx156.but.size
           refine dk0 12 (v := .tuple #[v153, .int .i64 ((hInT M y114.n y114.s).2.1)]) h147 rfl rfl hB159 fun a163 h163 => ?_; clear h147
           refine dk0 13 (v := v153) h163 rfl rfl hB159 fun a164 h164 => ?_; clear h163
           refine dk0 14 (v := .int .i64 ((hInT M y114.n y114.s).2.1)) h164 rfl rfl hB159 fun a165 h165 => ?_; clear h164
           refine dk0 15 (v := v153) h165 rfl rfl hB159 fun a166 h166 => ?_; clear h165
           refine dk0 16 (v := .int .i64 ((hInT M y114.n y114.s).2.1)) h166 rfl rfl hB159 fun a167 h167 => ?_; clear h166
           refine dr_done (by kernel_rfl) ?_
           refine co_then ?_
           refine co_seq ?_
           refine dr_gen (fun x => Below w.heap.size w x) (by kernel_rfl) (fun w168 hg169 => ?_) (fun w168 hg169 => ?_)
           ·
            have hz170 := hg169.size
            have hB171 := hb_new hB159 hg169
            exact hB171
           have hz172 := hg169.size
           have hB173 := hb_new hB159 hg169
           refine dk0 0 (v := pt N23 0) h167 rfl rfl hB173 fun a174 h174 => ?_; clear h167
           refine dk0 1 (v := v) h174 rfl rfl hB173 fun a175 h175 => ?_; clear h174
           refine dk0 2 (v := .int .i64 ((i : Nat) : Int)) h175 rfl rfl hB173 fun a176 h176 => ?_; clear h175
           refine dk 3 (v := pt (blkOf v) (offOf v + i * 4)) h176 rfl rfl hB173 (fun x hx => (rn_index rfl rfl rfl Try.underlying103 Try.sizeOf111 (hs.below hx) (by omega) (by first | omega | (simp; done) | (simp; omega)))) fun a177 h177 => ?_; clear h176
           refine dk0 4 (v := pt (blkOf v) (offOf v + i * 4 + 1)) h177 rfl rfl hB173 fun a178 h178 => ?_; clear h177
           refine dk 5 (v := .int .i64 y114.n) h178 rfl rfl hB173 (fun x hx => (rn_load1 rfl rfl Try.isAgg3 ((sl_at (hs.below hx) hy114) 1 _ rfl))) fun a179 h179 => ?_; clear h178
           refine dk0 6 (v := v) h179 rfl rfl hB173 fun a180 h180 => ?_; clear h179
           refine dk0 7 (v := .int .i64 ((i : Nat) : Int)) h180 rfl rfl hB173 fun a181 h181 => ?_; clear h180
           refine dk 8 (v := pt (blkOf v) (offOf v + i * 4)) h181 rfl rfl hB173 (fun x hx => (rn_index rfl rfl rfl Try.underlying103 Try.sizeOf111 (hs.below hx) (by omega) (by first | omega | (simp; done) | (simp; omega)))) fun a182 h182 => ?_; clear h181
           refine dk0 9 (v := pt (blkOf v) (offOf v + i * 4 + 2)) h182 rfl rfl hB173 fun a183 h183 => ?_; clear h182
           refine dk 10 (v := .string y114.s) h183 rfl rfl hB173 (fun x hx => (rn_load1 rfl rfl Try.isAgg9 ((sl_at (hs.below hx) hy114) 2 _ rfl))) fun a184 h184 => ?_; clear h183
           have hO188 := HbR.but hO152 hx156.but (ap_symm hg66)
           have hO189 := HbR.gr hO188 hg169 (fun k e => by cases e)
           have ho187 := HbR.ofS hO189
           have hO191 := HbP.gr hO155 hg169 (fun k e => by cases e)
           have ho190 := HbP.ofS hO191
           refine d1 11 h184 rfl rfl (op_call (args := #[pt N23 0, .int .i64 y114.n, .string y114.s]) (R := fun res xw => ∃ v : Value, ∃ S' : Nat → Prop, res = .tuple #[v, .int .i64 ((hInT M y114.n y114.s).2.1)] ∧ HbR S' xw N23 (hInT M y114.n y114.s).2.2 ∧ (xw.ownsRow w168.heap.size 9 1 v (hInT M y114.n y114.s).1.length ((hInT M y114.n y114.s).1.flatMap strE)) ∧ (∀ i, v.ownBlock = some i → ¬ S' i) ∧ Grew SB S' w168 xw) rfl rfl rfl (by kernel_rfl) (by kernel_rfl) (Try.call60 _ _) (rhIn_any SB w168 N23 M y114.n y114.s (by assumption) hO189) (by rintro e x ⟨v, S', h0, h⟩; exact ⟨_, h0, v, S', rfl, h⟩)) ?_ ?_; clear h184
           ·
            rintro _ w186 ⟨v192, S193, rfl, hO194, hq196, hq197, hx195⟩
            have hr198 := row_kept_new hq157 hg169
            have hlo200 : ∀ q, S193 q → w.heap.size ≤ q := hx195.lo hg65 (by omega)
            have hB199 := hbL hB173 hg65 hx195.but
            have hz201 := hB199.size
            have hz202 := hx195.but.size
            exact hB199
           rintro _ w186 a185 ⟨v192, S193, rfl, hO194, hq196, hq197, hx195⟩ h185
           have hr198 := row_kept_new hq157 hg169
           have hlo200 : ∀ q, S193 q → w.heap.size ≤ q := hx195.lo hg65 (by omega)
           have hB199 := hbL hB173 hg65 hx195.but
           have hz201 := hB199.size
           have hz202 := hx195.but.size
           refine dk0 12 (v := .tuple #[v192, .int .i64 ((hInT M y114.n y114.s).2.1)]) h185 rfl rfl hB199 fun a203 h203 => ?_; clear h185
           refine dk0 13 (v := v192) h203 rfl rfl hB199 fun a204 h204 => ?_; clear h203
           refine dk0 14 (v := .int .i64 ((hInT M y114.n y114.s).2.1)) h204 rfl rfl hB199 fun a205 h205 => ?_; clear h204
           refine dk0 15 (v := v192) h205 rfl rfl hB199 fun a206 h206 => ?_; clear h205
           refine dk0 16 (v := .int .i64 ((hInT M y114.n y114.s).2.1)) h206 rfl rfl hB199 fun a207 h207 => ?_; clear h206
           refine dr_done (by kernel_rfl) ?_
           refine co_then ?_
           refine co_reg ?_
           refine pk0 (v := v153) h207 rfl fun a208 h208 => ?_; clear h207
           refine pk0 (v := v192) h208 rfl fun a209 h209 => ?_; clear h208
           have hr213 := own_butS hr198 hx195.but (offR_row ho151 hr198 (Nat.le_refl _))
           refine pw h209 rfl (op_call (args := #[v153, v192]) (R := fun res xw => res = .bool true ∧ Below w186.heap.size w186 xw) rfl rfl rfl (by kernel_rfl) (by kernel_rfl) (Try.call24 _ _) (same_anyL v153 v192 ((hInT M y114.n y114.s).1) w186 (row_sl hr213 strE_len) (row_sl hq196 strE_len)) (by rintro e x ⟨rfl, h⟩; exact ⟨_, rfl, rfl, h⟩)) ?_; clear h209
           rintro _ w211 a210 ⟨rfl, hb212⟩ h210
           have hz214 := hb212.size
           have hO216 := HbP.but hO191 hx195.but (ap_symm (ap_symm (Grew.ap hx156 (ap_symm (ap_symm hg66)) (HbR.ofS hO152))))
           have ho215 := HbP.ofS hO216
           have ho217 := HbR.ofS hO194
           refine pk0 (v := .bool true) h210 rfl fun a218 h218 => ?_; clear h210
           refine pk0 (v := .int .i64 ((hInT M y114.n y114.s).2.1)) h218 rfl fun a219 h219 => ?_; clear h218
           refine pk0 (v := .int .i64 ((hInT M y114.n y114.s).2.1)) h219 rfl fun a220 h220 => ?_; clear h219
           refine pk0 (v := .bool ((hInT M y114.n y114.s).2.1 == (hInT M y114.n y114.s).2.1)) h220 rfl fun a221 h221 => ?_; clear h220
           refine pk0 (v := .bool ((hInT M y114.n y114.s).2.1 == (hInT M y114.n y114.s).2.1)) h221 rfl fun a222 h222 => ?_; clear h221
           refine pk0 (v := .bool ((hInT M y114.n y114.s).2.1 == (hInT M y114.n y114.s).2.1)) h222 rfl fun a223 h223 => ?_; clear h222
           refine pl_nil ?_
           refine co_blockN ?_
           refine co_then ?_
           have hc224 : ((hInT M y114.n y114.s).2.1 == (hInT M y114.n y114.s).2.1) = true := by first | exact beq_self_eq_true _ | exact bne_self_eq_false _ | (simp; done)
           rw [hc224] at h223; clear hc224
           have hO225 := HbP.gr hO216 (below_grown hb212) (fun k e => by cases e)
           have hO226 := HbR.gr hO194 (below_grown hb212) (fun k e => by cases e)
           have hB227 := hb_call hB199 hb212
           exact ⟨S154, S193, ((hInT M y114.n y114.s).2.2), h223.sub ⟨rfl, rfl, rfl, rfl, rfl, rfl, rfl, trivial⟩, by exact hlo160, by exact hlo200, by exact (ap_symm (Grew.ap hx195 (ap_symm (ap_symm (ap_symm (Grew.ap hx156 (ap_symm (ap_symm hg66)) (HbR.ofS hO152))))) (HbP.ofS hO191))), hO225, hO226, hB227⟩
          ·
           rw [hc128] at h127
           have hp228 : y114.c = 2 := by first | simpa using hc128 | simpa [and_assoc] using hc128
           clear hc128
           refine co_true h127 rfl ?_
           refine dr_gen (fun x => Below w.heap.size w x) (by kernel_rfl) (fun w229 hg230 => ?_) (fun w229 hg230 => ?_)
           ·
            have hz231 := hg230.size
            have hB232 := hb_new hB62 hg230
            exact hB232
           have hz233 := hg230.size
           have hB234 := hb_new hB62 hg230
           refine dk0 0 (v := pt N6 0) h127 rfl rfl hB234 fun a235 h235 => ?_; clear h127
           refine dk0 1 (v := v) h235 rfl rfl hB234 fun a236 h236 => ?_; clear h235
           refine dk0 2 (v := .int .i64 ((i : Nat) : Int)) h236 rfl rfl hB234 fun a237 h237 => ?_; clear h236
           refine dk 3 (v := pt (blkOf v) (offOf v + i * 4)) h237 rfl rfl hB234 (fun x hx => (rn_index rfl rfl rfl Try.underlying103 Try.sizeOf111 (hs.below hx) (by omega) (by first | omega | (simp; done) | (simp; omega)))) fun a238 h238 => ?_; clear h237
           refine dk0 4 (v := pt (blkOf v) (offOf v + i * 4 + 3)) h238 rfl rfl hB234 fun a239 h239 => ?_; clear h238
           refine dk 5 (v := .bool y114.again) h239 rfl rfl hB234 (fun x hx => (rn_load1 rfl rfl Try.isAgg4 ((sl_at (hs.below hx) hy114) 3 _ rfl))) fun a240 h240 => ?_; clear h239
           refine dk0 7 (v := pt N23 0) h240 rfl rfl hB234 fun a241 h241 => ?_; clear h240
           refine dk0 8 (v := v) h241 rfl rfl hB234 fun a242 h242 => ?_; clear h241
           refine dk0 9 (v := .int .i64 ((i : Nat) : Int)) h242 rfl rfl hB234 fun a243 h243 => ?_; clear h242
           refine dk 10 (v := pt (blkOf v) (offOf v + i * 4)) h243 rfl rfl hB234 (fun x hx => (rn_index rfl rfl rfl Try.underlying103 Try.sizeOf111 (hs.below hx) (by omega) (by first | omega | (simp; done) | (simp; omega)))) fun a244 h244 => ?_; clear h243
           refine dk0 11 (v := pt (blkOf v) (offOf v + i * 4 + 3)) h244 rfl rfl hB234 fun a245 h245 => ?_; clear h244
           refine dk 12 (v := .bool y114.again) h245 rfl rfl hB234 (fun x hx => (rn_load1 rfl rfl Try.isAgg4 ((sl_at (hs.below hx) hy114) 3 _ rfl))) fun a246 h246 => ?_; clear h245
           have hO250 := HbP.gr hf60 hg230 (fun k e => by cases e)
           have ho249 := HbP.ofS hO250
           have hO252 := HbR.gr hf61 hg230 (fun k e => by cases e)
           have ho251 := HbR.ofS hO252
           refine d1 6 h246 rfl rfl (op_call (args := #[pt N6 0, .bool y114.again]) (R := fun res xw => ∃ v : Value, ∃ S' : Nat → Prop, res = v ∧ HbP S' xw N6 (outM M 4) ∧ (xw.ownsRow w229.heap.size 125 2 v (outH M y114.again 4).length ((outH M y114.again 4).flatMap outE)) ∧ (∀ i, v.ownBlock = some i → ¬ S' i) ∧ Grew SA S' w229 xw) rfl rfl rfl (by kernel_rfl) (by kernel_rfl) (Try.call57 _ _) (pHOut w229 y114.again hO250) (by rintro e x ⟨v, S', h0, h⟩; exact ⟨_, h0, v, S', rfl, h⟩)) ?_ ?_; clear h246
           ·
            rintro v253 w248 ⟨_, S254, rfl, hO255, hq257, hq258, hx256⟩
            have hlo260 : ∀ q, S254 q → w.heap.size ≤ q := hx256.lo hg64 (by omega)
            have hB259 := hbL hB234 hg64 hx256.but
            have hz261 := hB259.size
            have hz262 := hx256.but.size
            have hl263 := outH_len M y114.again 4
            exact hB259
           rintro v253 w248 a247 ⟨_, S254, rfl, hO255, hq257, hq258, hx256⟩ h247
           have hlo260 : ∀ q, S254 q → w.heap.size ≤ q := hx256.lo hg64 (by omega)
           have hB259 := hbL hB234 hg64 hx256.but
           have hz261 := hB259.size
           have hz262 := hx256.but.size
           have hl263 := outH_len M y114.again 4
           have hO267 := HbR.but hO252 hx256.but (ap_symm hg66)
           have ho266 := HbR.ofS hO267
           have ho268 := HbP.ofS hO255
           refine d1 13 h247 rfl rfl (op_call (args := #[pt N23 0, .bool y114.again]) (R := fun res xw => ∃ v : Value, ∃ S' : Nat → Prop, res = v ∧ HbR S' xw N23 (outM M 4) ∧ (xw.ownsRow w248.heap.size 125 2 v (outH M y114.again 4).length ((outH M y114.again 4).flatMap outE)) ∧ (∀ i, v.ownBlock = some i → ¬ S' i) ∧ Grew SB S' w248 xw) rfl rfl rfl (by kernel_rfl) (by kernel_rfl) (Try.call58 _ _) (rHOut w248 y114.again hO267) (by rintro e x ⟨v, S', h0, h⟩; exact ⟨_, h0, v, S', rfl, h⟩)) ?_ ?_; clear h247
           ·
            rintro v269 w265 ⟨_, S270, rfl, hO271, hq273, hq274, hx272⟩
            have hlo276 : ∀ q, S270 q → w.heap.size ≤ q := hx272.lo hg65 (by omega)
            have hB275 := hbL hB259 hg65 hx272.but
            have hz277 := hB275.size
            have hz278 := hx272.but.size
            have hl279 := outH_len M y114.again 4
            exact hB275
           rintro v269 w265 a264 ⟨_, S270, rfl, hO271, hq273, hq274, hx272⟩ h264
           have hlo276 : ∀ q, S270 q → w.heap.size ≤ q := hx272.lo hg65 (by omega)
           have hB275 := hbL hB259 hg65 hx272.but
           have hz277 := hB275.size
           have hz278 := hx272.but.size
           have hl279 := outH_len M y114.again 4
           have hr283 := own_butS hq257 hx272.but (offR_row ho251 hq257 (Nat.le_refl _))
           refine d1 14 h264 rfl rfl (op_call (args := #[v253, v269]) (R := fun res xw => res = .bool true ∧ Below w265.heap.size w265 xw) rfl rfl rfl (by kernel_rfl) (by kernel_rfl) (Try.call56 _ _) (sameOuts_any v253 v269 (outH M y114.again 4) w265 (row_sl hr283 outE_len) (row_sl hq273 outE_len)) (by rintro e x ⟨rfl, h⟩; exact ⟨_, rfl, rfl, h⟩)) ?_ ?_; clear h264
           ·
            rintro _ w281 ⟨rfl, hb282⟩
            have hz284 := hb282.size
            have hO286 := HbP.but hO255 hx272.but (ap_symm (ap_symm (Grew.ap hx256 (ap_symm (ap_symm hg66)) (HbR.ofS hO252))))
            have ho285 := HbP.ofS hO286
            have ho287 := HbR.ofS hO271
            have hB288 := hb_call hB275 hb282
            exact hB288
           rintro _ w281 a280 ⟨rfl, hb282⟩ h280
           have hz284 := hb282.size
           have hO286 := HbP.but hO255 hx272.but (ap_symm (ap_symm (Grew.ap hx256 (ap_symm (ap_symm hg66)) (HbR.ofS hO252))))
           have ho285 := HbP.ofS hO286
           have ho287 := HbR.ofS hO271
           have hB288 := hb_call hB275 hb282
           refine dk0 15 (v := .bool true) h280 rfl rfl hB288 fun a289 h289 => ?_; clear h280
           refine dr_done (by kernel_rfl) ?_
           refine co_blockN ?_
           refine co_then ?_
           have hO290 := HbP.gr hO286 (below_grown hb282) (fun k e => by cases e)
           have hO291 := HbR.gr hO271 (below_grown hb282) (fun k e => by cases e)
           exact ⟨S254, S270, (outM M 4), h289.sub ⟨rfl, rfl, rfl, rfl, rfl, rfl, rfl, trivial⟩, by exact hlo260, by exact hlo276, by exact (ap_symm (Grew.ap hx272 (ap_symm (ap_symm (ap_symm (Grew.ap hx256 (ap_symm (ap_symm hg66)) (HbR.ofS hO252))))) (HbP.ofS hO255))), hO290, hO291, hB288⟩
         ·
          rw [hc124] at h123
          have hp292 : y114.c = 1 := by first | simpa using hc124 | simpa [and_assoc] using hc124
          clear hc124
          refine co_true h123 rfl ?_
          refine dr_gen (fun x => Below w.heap.size w x) (by kernel_rfl) (fun w293 hg294 => ?_) (fun w293 hg294 => ?_)
          ·
           have hz295 := hg294.size
           have hB296 := hb_new hB62 hg294
           exact hB296
          have hz297 := hg294.size
          have hB298 := hb_new hB62 hg294
          refine dk0 0 (v := pt N6 0) h123 rfl rfl hB298 fun a299 h299 => ?_; clear h123
          refine dk0 1 (v := v) h299 rfl rfl hB298 fun a300 h300 => ?_; clear h299
          refine dk0 2 (v := .int .i64 ((i : Nat) : Int)) h300 rfl rfl hB298 fun a301 h301 => ?_; clear h300
          refine dk 3 (v := pt (blkOf v) (offOf v + i * 4)) h301 rfl rfl hB298 (fun x hx => (rn_index rfl rfl rfl Try.underlying103 Try.sizeOf111 (hs.below hx) (by omega) (by first | omega | (simp; done) | (simp; omega)))) fun a302 h302 => ?_; clear h301
          refine dk0 4 (v := pt (blkOf v) (offOf v + i * 4 + 1)) h302 rfl rfl hB298 fun a303 h303 => ?_; clear h302
          refine dk 5 (v := .int .i64 y114.n) h303 rfl rfl hB298 (fun x hx => (rn_load1 rfl rfl Try.isAgg3 ((sl_at (hs.below hx) hy114) 1 _ rfl))) fun a304 h304 => ?_; clear h303
          refine dk0 6 (v := v) h304 rfl rfl hB298 fun a305 h305 => ?_; clear h304
          refine dk0 7 (v := .int .i64 ((i : Nat) : Int)) h305 rfl rfl hB298 fun a306 h306 => ?_; clear h305
          refine dk 8 (v := pt (blkOf v) (offOf v + i * 4)) h306 rfl rfl hB298 (fun x hx => (rn_index rfl rfl rfl Try.underlying103 Try.sizeOf111 (hs.below hx) (by omega) (by first | omega | (simp; done) | (simp; omega)))) fun a307 h307 => ?_; clear h306
          refine dk0 9 (v := pt (blkOf v) (offOf v + i * 4 + 2)) h307 rfl rfl hB298 fun a308 h308 => ?_; clear h307
          refine dk 10 (v := .string y114.s) h308 rfl rfl hB298 (fun x hx => (rn_load1 rfl rfl Try.isAgg9 ((sl_at (hs.below hx) hy114) 2 _ rfl))) fun a309 h309 => ?_; clear h308
          refine dk0 12 (v := pt N23 0) h309 rfl rfl hB298 fun a310 h310 => ?_; clear h309
          refine dk0 13 (v := v) h310 rfl rfl hB298 fun a311 h311 => ?_; clear h310
          refine dk0 14 (v := .int .i64 ((i : Nat) : Int)) h311 rfl rfl hB298 fun a312 h312 => ?_; clear h311
          refine dk 15 (v := pt (blkOf v) (offOf v + i * 4)) h312 rfl rfl hB298 (fun x hx => (rn_index rfl rfl rfl Try.underlying103 Try.sizeOf111 (hs.below hx) (by omega) (by first | omega | (simp; done) | (simp; omega)))) fun a313 h313 => ?_; clear h312
          refine dk0 16 (v := pt (blkOf v) (offOf v + i * 4 + 1)) h313 rfl rfl hB298 fun a314 h314 => ?_; clear h313
          refine dk 17 (v := .int .i64 y114.n) h314 rfl rfl hB298 (fun x hx => (rn_load1 rfl rfl Try.isAgg3 ((sl_at (hs.below hx) hy114) 1 _ rfl))) fun a315 h315 => ?_; clear h314
          refine dk0 18 (v := v) h315 rfl rfl hB298 fun a316 h316 => ?_; clear h315
          refine dk0 19 (v := .int .i64 ((i : Nat) : Int)) h316 rfl rfl hB298 fun a317 h317 => ?_; clear h316
          refine dk 20 (v := pt (blkOf v) (offOf v + i * 4)) h317 rfl rfl hB298 (fun x hx => (rn_index rfl rfl rfl Try.underlying103 Try.sizeOf111 (hs.below hx) (by omega) (by first | omega | (simp; done) | (simp; omega)))) fun a318 h318 => ?_; clear h317
          refine dk0 21 (v := pt (blkOf v) (offOf v + i * 4 + 2)) h318 rfl rfl hB298 fun a319 h319 => ?_; clear h318
          refine dk 22 (v := .string y114.s) h319 rfl rfl hB298 (fun x hx => (rn_load1 rfl rfl Try.isAgg9 ((sl_at (hs.below hx) hy114) 2 _ rfl))) fun a320 h320 => ?_; clear h319
          have hO324 := HbP.gr hf60 hg294 (fun k e => by cases e)
          have ho323 := HbP.ofS hO324
          have hO326 := HbR.gr hf61 hg294 (fun k e => by cases e)
          have ho325 := HbR.ofS hO326
          refine d1 11 h320 rfl rfl (op_call (args := #[pt N6 0, .int .i64 y114.n, .string y114.s]) (R := fun res xw => ∃ S' : Nat → Prop, res = .int .i64 ((hSendT M y114.n y114.s).1) ∧ HbP S' xw N6 (hSendT M y114.n y114.s).2 ∧ Grew SA S' w293 xw) rfl rfl rfl (by kernel_rfl) (by kernel_rfl) (Try.call54 _ _) (hbSend_any SA w293 N6 M y114.n y114.s hO324) (by rintro e x ⟨S', h0, h⟩; exact ⟨_, h0, S', rfl, h⟩)) ?_ ?_; clear h320
          ·
           rintro _ w322 ⟨S327, rfl, hO328, hx329⟩
           have hlo331 : ∀ q, S327 q → w.heap.size ≤ q := hx329.lo hg64 (by omega)
           have hB330 := hbL hB298 hg64 hx329.but
           have hz332 := hB330.size
           have hz333 := hx329.but.size
           exact hB330
          rintro _ w322 a321 ⟨S327, rfl, hO328, hx329⟩ h321
          have hlo331 : ∀ q, S327 q → w.heap.size ≤ q := hx329.lo hg64 (by omega)
          have hB330 := hbL hB298 hg64 hx329.but
          have hz332 := hB330.size
          have hz333 := hx329.but.size
          have hO337 := HbR.but hO326 hx329.but (ap_symm hg66)
          have ho336 := HbR.ofS hO337
          have ho338 := HbP.ofS hO328
          refine d1 23 h321 rfl rfl (op_call (args := #[pt N23 0, .int .i64 y114.n, .string y114.s]) (R := fun res xw => ∃ S' : Nat → Prop, res = .int .i64 ((hSendT M y114.n y114.s).1) ∧ HbR S' xw N23 (hSendT M y114.n y114.s).2 ∧ Grew SB S' w322 xw) rfl rfl rfl (by kernel_rfl) (by kernel_rfl) (Try.call55 _ _) (rhSend_any SB w322 N23 M y114.n y114.s hO337) (by rintro e x ⟨S', h0, h⟩; exact ⟨_, h0, S', rfl, h⟩)) ?_ ?_; clear h321
          ·
           rintro _ w335 ⟨S339, rfl, hO340, hx341⟩
           have hlo343 : ∀ q, S339 q → w.heap.size ≤ q := hx341.lo hg65 (by omega)
           have hB342 := hbL hB330 hg65 hx341.but
           have hz344 := hB342.size
           have hz345 := hx341.but.size
           exact hB342
          rintro _ w335 a334 ⟨S339, rfl, hO340, hx341⟩ h334
          have hlo343 : ∀ q, S339 q → w.heap.size ≤ q := hx341.lo hg65 (by omega)
          have hB342 := hbL hB330 hg65 hx341.but
          have hz344 := hB342.size
          have hz345 := hx341.but.size
          refine dk0 24 (v := .bool ((hSendT M y114.n y114.s).1 == (hSendT M y114.n y114.s).1)) h334 rfl rfl hB342 fun a346 h346 => ?_; clear h334
          refine dk0 25 (v := .bool ((hSendT M y114.n y114.s).1 == (hSendT M y114.n y114.s).1)) h346 rfl rfl hB342 fun a347 h347 => ?_; clear h346
          refine dr_done (by kernel_rfl) ?_
          refine co_blockN ?_
          refine co_then ?_
          have hc348 : ((hSendT M y114.n y114.s).1 == (hSendT M y114.n y114.s).1) = true := by first | exact beq_self_eq_true _ | exact bne_self_eq_false _ | (simp; done)
          rw [hc348] at h347; clear hc348
          have hO349 := HbP.but hO328 hx341.but (ap_symm (ap_symm (Grew.ap hx329 (ap_symm (ap_symm hg66)) (HbR.ofS hO326))))
          exact ⟨S327, S339, ((hSendT M y114.n y114.s).2), h347.sub ⟨rfl, rfl, rfl, rfl, rfl, rfl, rfl, trivial⟩, by exact hlo331, by exact hlo343, by exact (ap_symm (Grew.ap hx341 (ap_symm (ap_symm (ap_symm (Grew.ap hx329 (ap_symm (ap_symm hg66)) (HbR.ofS hO326))))) (HbP.ofS hO328))), hO349, hO340, hB342⟩
        ·
         rw [hc120] at h119
         have hp350 : y114.c = 0 := by first | simpa using hc120 | simpa [and_assoc] using hc120
         clear hc120
         refine co_true h119 rfl ?_
         refine wp_skip ?_
         refine co_then ?_
         refine co_true h119 rfl ?_
         refine dr_gen (fun x => Below w.heap.size w x) (by kernel_rfl) (fun w351 hg352 => ?_) (fun w351 hg352 => ?_)
         ·
          have hz353 := hg352.size
          have hB354 := hb_new hB62 hg352
          exact hB354
         have hz355 := hg352.size
         have hB356 := hb_new hB62 hg352
         refine dk0 0 (v := pt N6 0) h119 rfl rfl hB356 fun a357 h357 => ?_; clear h119
         refine dk0 1 (v := v) h357 rfl rfl hB356 fun a358 h358 => ?_; clear h357
         refine dk0 2 (v := .int .i64 ((i : Nat) : Int)) h358 rfl rfl hB356 fun a359 h359 => ?_; clear h358
         refine dk 3 (v := pt (blkOf v) (offOf v + i * 4)) h359 rfl rfl hB356 (fun x hx => (rn_index rfl rfl rfl Try.underlying103 Try.sizeOf111 (hs.below hx) (by omega) (by first | omega | (simp; done) | (simp; omega)))) fun a360 h360 => ?_; clear h359
         refine dk0 4 (v := pt (blkOf v) (offOf v + i * 4 + 1)) h360 rfl rfl hB356 fun a361 h361 => ?_; clear h360
         refine dk 5 (v := .int .i64 y114.n) h361 rfl rfl hB356 (fun x hx => (rn_load1 rfl rfl Try.isAgg3 ((sl_at (hs.below hx) hy114) 1 _ rfl))) fun a362 h362 => ?_; clear h361
         refine dk0 6 (v := v) h362 rfl rfl hB356 fun a363 h363 => ?_; clear h362
         refine dk0 7 (v := .int .i64 ((i : Nat) : Int)) h363 rfl rfl hB356 fun a364 h364 => ?_; clear h363
         refine dk 8 (v := pt (blkOf v) (offOf v + i * 4)) h364 rfl rfl hB356 (fun x hx => (rn_index rfl rfl rfl Try.underlying103 Try.sizeOf111 (hs.below hx) (by omega) (by first | omega | (simp; done) | (simp; omega)))) fun a365 h365 => ?_; clear h364
         refine dk0 9 (v := pt (blkOf v) (offOf v + i * 4 + 2)) h365 rfl rfl hB356 fun a366 h366 => ?_; clear h365
         refine dk 10 (v := .string y114.s) h366 rfl rfl hB356 (fun x hx => (rn_load1 rfl rfl Try.isAgg9 ((sl_at (hs.below hx) hy114) 2 _ rfl))) fun a367 h367 => ?_; clear h366
         refine dk0 12 (v := pt N23 0) h367 rfl rfl hB356 fun a368 h368 => ?_; clear h367
         refine dk0 13 (v := v) h368 rfl rfl hB356 fun a369 h369 => ?_; clear h368
         refine dk0 14 (v := .int .i64 ((i : Nat) : Int)) h369 rfl rfl hB356 fun a370 h370 => ?_; clear h369
         refine dk 15 (v := pt (blkOf v) (offOf v + i * 4)) h370 rfl rfl hB356 (fun x hx => (rn_index rfl rfl rfl Try.underlying103 Try.sizeOf111 (hs.below hx) (by omega) (by first | omega | (simp; done) | (simp; omega)))) fun a371 h371 => ?_; clear h370
         refine dk0 16 (v := pt (blkOf v) (offOf v + i * 4 + 1)) h371 rfl rfl hB356 fun a372 h372 => ?_; clear h371
         refine dk 17 (v := .int .i64 y114.n) h372 rfl rfl hB356 (fun x hx => (rn_load1 rfl rfl Try.isAgg3 ((sl_at (hs.below hx) hy114) 1 _ rfl))) fun a373 h373 => ?_; clear h372
         refine dk0 18 (v := v) h373 rfl rfl hB356 fun a374 h374 => ?_; clear h373
         refine dk0 19 (v := .int .i64 ((i : Nat) : Int)) h374 rfl rfl hB356 fun a375 h375 => ?_; clear h374
         refine dk 20 (v := pt (blkOf v) (offOf v + i * 4)) h375 rfl rfl hB356 (fun x hx => (rn_index rfl rfl rfl Try.underlying103 Try.sizeOf111 (hs.below hx) (by omega) (by first | omega | (simp; done) | (simp; omega)))) fun a376 h376 => ?_; clear h375
         refine dk0 21 (v := pt (blkOf v) (offOf v + i * 4 + 2)) h376 rfl rfl hB356 fun a377 h377 => ?_; clear h376
         refine dk 22 (v := .string y114.s) h377 rfl rfl hB356 (fun x hx => (rn_load1 rfl rfl Try.isAgg9 ((sl_at (hs.below hx) hy114) 2 _ rfl))) fun a378 h378 => ?_; clear h377
         have hO382 := HbP.gr hf60 hg352 (fun k e => by cases e)
         have ho381 := HbP.ofS hO382
         have hO384 := HbR.gr hf61 hg352 (fun k e => by cases e)
         have ho383 := HbR.ofS hO384
         refine d1 11 h378 rfl rfl (op_call (args := #[pt N6 0, .int .i64 y114.n, .string y114.s]) (R := fun res xw => ∃ S' : Nat → Prop, res = .int .i64 ((hSendT M y114.n y114.s).1) ∧ HbP S' xw N6 (hSendT M y114.n y114.s).2 ∧ Grew SA S' w351 xw) rfl rfl rfl (by kernel_rfl) (by kernel_rfl) (Try.call54 _ _) (hbSend_any SA w351 N6 M y114.n y114.s hO382) (by rintro e x ⟨S', h0, h⟩; exact ⟨_, h0, S', rfl, h⟩)) ?_ ?_; clear h378
         ·
          rintro _ w380 ⟨S385, rfl, hO386, hx387⟩
          have hlo389 : ∀ q, S385 q → w.heap.size ≤ q := hx387.lo hg64 (by omega)
          have hB388 := hbL hB356 hg64 hx387.but
          have hz390 := hB388.size
          have hz391 := hx387.but.size
          exact hB388
         rintro _ w380 a379 ⟨S385, rfl, hO386, hx387⟩ h379
         have hlo389 : ∀ q, S385 q → w.heap.size ≤ q := hx387.lo hg64 (by omega)
         have hB388 := hbL hB356 hg64 hx387.but
         have hz390 := hB388.size
         have hz391 := hx387.but.size
         have hO395 := HbR.but hO384 hx387.but (ap_symm hg66)
         have ho394 := HbR.ofS hO395
         have ho396 := HbP.ofS hO386
         refine d1 23 h379 rfl rfl (op_call (args := #[pt N23 0, .int .i64 y114.n, .string y114.s]) (R := fun res xw => ∃ S' : Nat → Prop, res = .int .i64 ((hSendT M y114.n y114.s).1) ∧ HbR S' xw N23 (hSendT M y114.n y114.s).2 ∧ Grew SB S' w380 xw) rfl rfl rfl (by kernel_rfl) (by kernel_rfl) (Try.call55 _ _) (rhSend_any SB w380 N23 M y114.n y114.s hO395) (by rintro e x ⟨S', h0, h⟩; exact ⟨_, h0, S', rfl, h⟩)) ?_ ?_; clear h379
         ·
          rintro _ w393 ⟨S397, rfl, hO398, hx399⟩
          have hlo401 : ∀ q, S397 q → w.heap.size ≤ q := hx399.lo hg65 (by omega)
          have hB400 := hbL hB388 hg65 hx399.but
          have hz402 := hB400.size
          have hz403 := hx399.but.size
          exact hB400
         rintro _ w393 a392 ⟨S397, rfl, hO398, hx399⟩ h392
         have hlo401 : ∀ q, S397 q → w.heap.size ≤ q := hx399.lo hg65 (by omega)
         have hB400 := hbL hB388 hg65 hx399.but
         have hz402 := hB400.size
         have hz403 := hx399.but.size
         refine dk0 24 (v := .bool ((hSendT M y114.n y114.s).1 == (hSendT M y114.n y114.s).1)) h392 rfl rfl hB400 fun a404 h404 => ?_; clear h392
         refine dk0 25 (v := .bool ((hSendT M y114.n y114.s).1 == (hSendT M y114.n y114.s).1)) h404 rfl rfl hB400 fun a405 h405 => ?_; clear h404
         refine dr_done (by kernel_rfl) ?_
         refine co_blockN ?_
         refine co_then ?_
         have hc406 : ((hSendT M y114.n y114.s).1 == (hSendT M y114.n y114.s).1) = true := by first | exact beq_self_eq_true _ | exact bne_self_eq_false _ | (simp; done)
         rw [hc406] at h405; clear hc406
         have hO407 := HbP.but hO386 hx399.but (ap_symm (ap_symm (Grew.ap hx387 (ap_symm (ap_symm hg66)) (HbR.ofS hO384))))
         exact ⟨S385, S397, ((hSendT M y114.n y114.s).2), h405.sub ⟨rfl, rfl, rfl, rfl, rfl, rfl, rfl, trivial⟩, by exact hlo389, by exact hlo401, by exact (ap_symm (Grew.ap hx399 (ap_symm (ap_symm (ap_symm (Grew.ap hx387 (ap_symm (ap_symm hg66)) (HbR.ofS hO384))))) (HbP.ofS hO386))), hO407, hO398, hB400⟩
       rintro a408 w409 ⟨S8, S9, M9, h408, hi410, hi411, hi412, hf413, hf414, hB415⟩
       have hz416 := hB415.size
       refine co_seq ?_
       refine dr_gen (fun x => Below w.heap.size w x) (by kernel_rfl) (fun w417 hg418 => ?_) (fun w417 hg418 => ?_)
       ·
        have hz419 := hg418.size
        have hB420 := hb_new hB415 hg418
        exact hB420
       have hz421 := hg418.size
       have hB422 := hb_new hB415 hg418
       refine dk0 0 (v := .bool true) h408 rfl rfl hB422 fun a423 h423 => ?_; clear h408
       refine dk0 1 (v := .bool false) h423 rfl rfl hB422 fun a424 h424 => ?_; clear h423
       refine dk0 2 (v := .bool false) h424 rfl rfl hB422 fun a425 h425 => ?_; clear h424
       refine dk0 3 (v := pt N6 0) h425 rfl rfl hB422 fun a426 h426 => ?_; clear h425
       refine dk0 4 (v := v) h426 rfl rfl hB422 fun a427 h427 => ?_; clear h426
       refine dk0 5 (v := .int .i64 ((i : Nat) : Int)) h427 rfl rfl hB422 fun a428 h428 => ?_; clear h427
       obtain ⟨y429, hy429⟩ : ∃ z, l[i]? = some z := ⟨_, List.getElem?_eq_getElem (by first | omega | (simp; done) | (simp; omega))⟩
       have oky429 := hok _ (List.mem_of_getElem? hy429)
       refine dk 6 (v := pt (blkOf v) (offOf v + i * 4)) h428 rfl rfl hB422 (fun x hx => (rn_index rfl rfl rfl Try.underlying103 Try.sizeOf111 (hs.below hx) (by omega) (by first | omega | (simp; done) | (simp; omega)))) fun a430 h430 => ?_; clear h428
       refine dk0 7 (v := pt (blkOf v) (offOf v + i * 4 + 1)) h430 rfl rfl hB422 fun a431 h431 => ?_; clear h430
       refine dk 8 (v := .int .i64 y429.n) h431 rfl rfl hB422 (fun x hx => (rn_load1 rfl rfl Try.isAgg3 ((sl_at (hs.below hx) hy429) 1 _ rfl))) fun a432 h432 => ?_; clear h431
       refine dk0 10 (v := pt N23 0) h432 rfl rfl hB422 fun a433 h433 => ?_; clear h432
       refine dk0 11 (v := v) h433 rfl rfl hB422 fun a434 h434 => ?_; clear h433
       refine dk0 12 (v := .int .i64 ((i : Nat) : Int)) h434 rfl rfl hB422 fun a435 h435 => ?_; clear h434
       refine dk 13 (v := pt (blkOf v) (offOf v + i * 4)) h435 rfl rfl hB422 (fun x hx => (rn_index rfl rfl rfl Try.underlying103 Try.sizeOf111 (hs.below hx) (by omega) (by first | omega | (simp; done) | (simp; omega)))) fun a436 h436 => ?_; clear h435
       refine dk0 14 (v := pt (blkOf v) (offOf v + i * 4 + 1)) h436 rfl rfl hB422 fun a437 h437 => ?_; clear h436
       refine dk 15 (v := .int .i64 y429.n) h437 rfl rfl hB422 (fun x hx => (rn_load1 rfl rfl Try.isAgg3 ((sl_at (hs.below hx) hy429) 1 _ rfl))) fun a438 h438 => ?_; clear h437
       have hO442 := HbP.gr hf413 hg418 (fun k e => by cases e)
       refine d1 9 h438 rfl rfl (op_call (args := #[pt N6 0, .int .i64 y429.n]) (R := fun res xw => res = .int .i64 (hWaitT M9 y429.n) ∧ Below w417.heap.size w417 xw) rfl rfl rfl (by kernel_rfl) (by kernel_rfl) (Try.call61 _ _) (hbWaiting_any S8 w417 N6 M9 y429.n hO442) (by rintro e x ⟨rfl, h⟩; exact ⟨_, rfl, rfl, h⟩)) ?_ ?_; clear h438
       ·
        rintro _ w440 ⟨rfl, hb441⟩
        have hz443 := hb441.size
        have ho444 := HbP.ofS hO442
        have hO446 := HbR.gr hf414 hg418 (fun k e => by cases e)
        have ho445 := HbR.ofS hO446
        have hB447 := hb_call hB422 hb441
        exact hB447
       rintro _ w440 a439 ⟨rfl, hb441⟩ h439
       have hz443 := hb441.size
       have ho444 := HbP.ofS hO442
       have hO446 := HbR.gr hf414 hg418 (fun k e => by cases e)
       have ho445 := HbR.ofS hO446
       have hB447 := hb_call hB422 hb441
       have hO451 := HbR.gr hO446 (below_grown hb441) (fun k e => by cases e)
       refine d1 16 h439 rfl rfl (op_call (args := #[pt N23 0, .int .i64 y429.n]) (R := fun res xw => res = .int .i64 (hWaitT M9 y429.n) ∧ Below w440.heap.size w440 xw) rfl rfl rfl (by kernel_rfl) (by kernel_rfl) (Try.call62 _ _) (rHWaiting S9 w440 N23 M9 y429.n hO451) (by rintro e x ⟨rfl, h⟩; exact ⟨_, rfl, rfl, h⟩)) ?_ ?_; clear h439
       ·
        rintro _ w449 ⟨rfl, hb450⟩
        have hz452 := hb450.size
        have hO454 := HbP.gr hO442 (below_grown hb441) (fun k e => by cases e)
        have ho453 := HbP.ofS hO454
        have ho455 := HbR.ofS hO451
        have hB456 := hb_call hB447 hb450
        exact hB456
       rintro _ w449 a448 ⟨rfl, hb450⟩ h448
       have hz452 := hb450.size
       have hO454 := HbP.gr hO442 (below_grown hb441) (fun k e => by cases e)
       have ho453 := HbP.ofS hO454
       have ho455 := HbR.ofS hO451
       have hB456 := hb_call hB447 hb450
       refine dk0 17 (v := .bool ((hWaitT M9 y429.n) != (hWaitT M9 y429.n))) h448 rfl rfl hB456 fun a457 h457 => ?_; clear h448
       refine dk0 18 (v := .bool ((hWaitT M9 y429.n) != (hWaitT M9 y429.n))) h457 rfl rfl hB456 fun a458 h458 => ?_; clear h457
       refine dr_done (by kernel_rfl) ?_
       refine co_then ?_
       have hc459 : ((hWaitT M9 y429.n) != (hWaitT M9 y429.n)) = false := by first | exact beq_self_eq_true _ | exact bne_self_eq_false _ | (simp; done)
       rw [hc459] at h458; clear hc459
       refine co_false h458 rfl ?_
       refine wp_skip ?_
       refine co_blockN ?_
       refine co_then ?_
       refine co_reg ?_
       refine pk0 (v := .int .i64 ((i : Nat) : Int)) h458 rfl fun a460 h460 => ?_; clear h458
       refine pk (v := .int .i64 ((i + 1 : Nat) : Int)) h460 rfl (rn_arith' rfl rfl rfl rfl rfl rfl (IntWalk.i64_in _ (by omega)) (by omega)) fun a461 h461 => ?_; clear h460
       refine pk0 (v := .int .i64 ((i + 1 : Nat) : Int)) h461 rfl fun a462 h462 => ?_; clear h461
       refine pl_nil ?_
       refine co_then ?_
       refine ⟨(l.length - (i + 1)), by omega, ?_⟩
       have hll := hi410
       have hmm := hi411
       have haa : ∀ q, S8 q → S9 q → False := hi412
       have hO463 := HbP.gr hO454 (below_grown hb450) (fun k e => by cases e)
       have hO464 := HbR.gr hO451 (below_grown hb450) (fun k e => by cases e)
       exact ⟨i + 1, S8, S9, M9, h462.sub ⟨rfl, rfl, rfl, rfl, rfl, rfl, trivial⟩, rfl, by omega, by omega, by exact hll, by exact hmm, by exact haa, hO463, hO464, hB456⟩
 · skip
   refine co_enter (n := 161) Try.func12 rfl rfl rfl [(0, .int .i64 self), (1, .int .i64 boot), (2, v)] rfl (fun a h0 => ?_)
   refine co_seq ?_
   refine co_reg ?_
   refine pk0 (v := .bool false) h0 rfl fun a465 h465 => ?_; clear h0
   refine pl_nil ?_
   refine co_then ?_
   refine co_seq ?_
   refine co_reg ?_
   refine pk0 (v := .int .i64 self) h465 rfl fun a466 h466 => ?_; clear h465
   refine pk0 (v := .int .i64 boot) h466 rfl fun a467 h467 => ?_; clear h466
   refine pw h467 rfl (op_call (args := #[.int .i64 self, .int .i64 boot]) (R := fun res xw => res = .tuple #[.pointer none, .int .i64 1] ∧ Below w.heap.size w xw) rfl rfl rfl (by kernel_rfl) (by kernel_rfl) (Try.call52 _ _) (pHBad self boot w hbt) (by rintro e x ⟨rfl, h⟩; exact ⟨_, rfl, rfl, h⟩)) ?_; clear h467
   rintro _ w469 a468 ⟨rfl, hb470⟩ h468
   have hz471 := hb470.size
   refine pk0 (v := .tuple #[.pointer none, .int .i64 1]) h468 rfl fun a472 h472 => ?_; clear h468
   refine pk0 (v := .pointer none) h472 rfl fun a473 h473 => ?_; clear h472
   refine pk0 (v := .int .i64 1) h473 rfl fun a474 h474 => ?_; clear h473
   refine pk0 (v := .pointer none) h474 rfl fun a475 h475 => ?_; clear h474
   refine pk0 (v := .int .i64 1) h475 rfl fun a476 h476 => ?_; clear h475
   refine pl_nil ?_
   refine co_then ?_
   refine co_seq ?_
   refine co_reg ?_
   refine pk0 (v := .int .i64 self) h476 rfl fun a477 h477 => ?_; clear h476
   refine pk0 (v := .int .i64 boot) h477 rfl fun a478 h478 => ?_; clear h477
   have hB481 := hb_call hB0 hb470
   refine pw h478 rfl (op_call (args := #[.int .i64 self, .int .i64 boot]) (R := fun res xw => res = .tuple #[.pointer none, .int .i64 1] ∧ Below w469.heap.size w469 xw) rfl rfl rfl (by kernel_rfl) (by kernel_rfl) (Try.call53 _ _) (rHBad self boot w469 hbt) (by rintro e x ⟨rfl, h⟩; exact ⟨_, rfl, rfl, h⟩)) ?_; clear h478
   rintro _ w480 a479 ⟨rfl, hb482⟩ h479
   have hz483 := hb482.size
   refine pk0 (v := .tuple #[.pointer none, .int .i64 1]) h479 rfl fun a484 h484 => ?_; clear h479
   refine pk0 (v := .pointer none) h484 rfl fun a485 h485 => ?_; clear h484
   refine pk0 (v := .int .i64 1) h485 rfl fun a486 h486 => ?_; clear h485
   refine pk0 (v := .pointer none) h486 rfl fun a487 h487 => ?_; clear h486
   refine pk0 (v := .int .i64 1) h487 rfl fun a488 h488 => ?_; clear h487
   refine pl_nil ?_
   refine co_then ?_
   refine co_seq ?_
   refine co_seq ?_
   refine co_reg ?_
   refine pk0 (v := .int .i64 1) h488 rfl fun a489 h489 => ?_; clear h488
   refine pk0 (v := .int .i64 1) h489 rfl fun a490 h490 => ?_; clear h489
   refine pk0 (v := .bool ((1 : Int) != 1)) h490 rfl fun a491 h491 => ?_; clear h490
   refine pk0 (v := .bool ((1 : Int) != 1)) h491 rfl fun a492 h492 => ?_; clear h491
   have hc493 : ((1 : Int) != 1) = false := by first | (simp; done) | (simp; omega) | exact beq_false_of_ne (by omega) | exact beq_iff_eq.2 (by omega)
   rw [hc493] at h492; clear hc493
   refine pk0 (v := .pointer none) h492 rfl fun a494 h494 => ?_; clear h492
   refine pk0 (v := .bool true) h494 rfl fun a495 h495 => ?_; clear h494
   refine pk0 (v := .pointer none) h495 rfl fun a496 h496 => ?_; clear h495
   refine pk0 (v := .bool true) h496 rfl fun a497 h497 => ?_; clear h496
   refine pk0 (v := .bool false) h497 rfl fun a498 h498 => ?_; clear h497
   refine pk0 (v := .bool false) h498 rfl fun a499 h499 => ?_; clear h498
   refine pl_nil ?_
   refine co_then ?_
   refine co_false h499 rfl ?_
   refine wp_skip ?_
   refine co_then ?_
   refine co_seq ?_
   refine co_seq ?_
   refine co_reg ?_
   refine pk0 (v := .int .i64 0) h499 rfl fun a500 h500 => ?_; clear h499
   refine pl_nil ?_
   refine co_then ?_
   refine wp_block ?_
   have h501 : Slots 161 [(0, .int .i64 self), (1, .int .i64 boot), (2, v), (7, .pointer none), (9, .pointer none), (11, .int .i64 0)] _ := h500.sub ⟨rfl, rfl, rfl, rfl, rfl, rfl, trivial⟩; clear h500
   refine co_loop (fun mm a x => Slots 161 [(0, .int .i64 self), (1, .int .i64 boot), (2, v), (7, .pointer none), (9, .pointer none), (11, .int .i64 0)] a ∧ mm = 0 ∧ Below w.heap.size w x) (0) ?_ ?_
   have hB502 := hb_call hB481 hb482
   · exact ⟨h501.sub ⟨rfl, rfl, rfl, rfl, rfl, rfl, trivial⟩, rfl, hB502⟩
   · rintro k503 a504 w505 ⟨h504, rfl, hB506⟩
     have hz507 := hB506.size
     refine co_seq ?_
     refine co_seq ?_
     refine co_reg ?_
     refine pk0 (v := .int .i64 0) h504 rfl fun a508 h508 => ?_; clear h504
     refine pk0 (v := v) h508 rfl fun a509 h509 => ?_; clear h508
     refine pk (v := .int .i64 ((l.length : Nat) : Int)) h509 rfl (rn_len rfl rfl Try.underlying103 (hs.below hB506)) fun a510 h510 => ?_; clear h509
     refine pk0 (v := .bool (decide (0 < ((l.length : Nat) : Int)))) h510 rfl fun a511 h511 => ?_; clear h510
     refine pk0 (v := .bool (decide (0 < ((l.length : Nat) : Int)))) h511 rfl fun a512 h512 => ?_; clear h511
     cases hc513 : (decide (0 < ((l.length : Nat) : Int)))
     ·
      rw [hc513] at h512
      have hp514 : ¬ (0 < ((l.length : Nat) : Int)) := of_decide_eq_false hc513
      clear hc513
      refine psk h512 rfl fun a515 h515 => ?_; clear h512
      refine psk h515 rfl fun a516 h516 => ?_; clear h515
      refine pk0 (v := .bool false) h516 rfl fun a517 h517 => ?_; clear h516
      refine pk0 (v := .bool false) h517 rfl fun a518 h518 => ?_; clear h517
      refine psk h518 rfl fun a519 h519 => ?_; clear h518
      refine psk h519 rfl fun a520 h520 => ?_; clear h519
      refine pk0 (v := .bool false) h520 rfl fun a521 h521 => ?_; clear h520
      refine pl_nil ?_
      refine co_then ?_
      refine co_false h521 rfl ?_
      refine wp_exit ?_
      refine co_thenX ?_
      refine co_thenX ?_
      refine co_blockX ?_
      refine co_then ?_
      refine co_seq ?_
      refine co_reg ?_
      refine pw h521 rfl (op_call (args := #[]) (R := fun res xw => res = .bool true ∧ Below w505.heap.size w505 xw) rfl rfl rfl (by kernel_rfl) (by kernel_rfl) (Try.call63 _ _) (awake23 w505) (by rintro e x ⟨rfl, h⟩; exact ⟨_, rfl, rfl, h⟩)) ?_; clear h521
      rintro _ w523 a522 ⟨rfl, hb524⟩ h522
      have hz525 := hb524.size
      refine pk0 (v := .bool true) h522 rfl fun a526 h526 => ?_; clear h522
      refine pl_nil ?_
      refine co_then ?_
      refine wp_ret ?_
      refine co_ret1 h526 rfl rfl ?_
      have hB527 := hb_call hB506 hb524
      exact ⟨rfl, hB527⟩
     ·
      rw [hc513] at h512
      have hp528 : 0 < ((l.length : Nat) : Int) := of_decide_eq_true hc513
      clear hc513
      refine pk0 (v := .int .i64 0) h512 rfl fun a529 h529 => ?_; clear h512
      refine pk0 (v := .bool (decide (0 < 40))) h529 rfl fun a530 h530 => ?_; clear h529
      refine pk0 (v := .bool (decide (0 < 40))) h530 rfl fun a531 h531 => ?_; clear h530
      refine pk0 (v := .bool (decide (0 < 40))) h531 rfl fun a532 h532 => ?_; clear h531
      have hc533 : (decide (0 < 40)) = true := decide_eq_true (by omega)
      rw [hc533] at h532; clear hc533
      refine pk0 (v := .pointer none) h532 rfl fun a534 h534 => ?_; clear h532
      refine pk0 (v := .bool false) h534 rfl fun a535 h535 => ?_; clear h534
      refine pk0 (v := .bool false) h535 rfl fun a536 h536 => ?_; clear h535
      refine pl_nil ?_
      refine co_then ?_
      refine co_false h536 rfl ?_
      refine wp_exit ?_
      refine co_thenX ?_
      refine co_thenX ?_
      refine co_blockX ?_
      refine co_then ?_
      refine co_seq ?_
      refine co_reg ?_
      refine pw h536 rfl (op_call (args := #[]) (R := fun res xw => res = .bool true ∧ Below w505.heap.size w505 xw) rfl rfl rfl (by kernel_rfl) (by kernel_rfl) (Try.call63 _ _) (awake23 w505) (by rintro e x ⟨rfl, h⟩; exact ⟨_, rfl, rfl, h⟩)) ?_; clear h536
      rintro _ w538 a537 ⟨rfl, hb539⟩ h537
      have hz540 := hb539.size
      refine pk0 (v := .bool true) h537 rfl fun a541 h541 => ?_; clear h537
      refine pl_nil ?_
      refine co_then ?_
      refine wp_ret ?_
      refine co_ret1 h541 rfl rfl ?_
      have hB542 := hb_call hB506 hb539
      exact ⟨rfl, hB542⟩
end Go.Proofs.Ythmljllgfigebaa
