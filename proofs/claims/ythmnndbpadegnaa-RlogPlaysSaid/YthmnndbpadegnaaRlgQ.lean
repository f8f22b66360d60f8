/- catenalaw17: RlogPlays. Conditions: none. -/
import Derived.Test.YthmnndbpadegnaaRlgP
namespace Go.Proofs.Ythmnndbpadegnaa
open Go.RowKit Go.PlainAid
set_option linter.unusedVariables false

set_option maxRecDepth 100000 in
set_option maxHeartbeats 6400000 in
theorem rlogPlays_law (v : Value) (l : List RActT) (w : World) (hs : SliceOf ractE 6 w v l) (hok : ∀ z ∈ l, RActOk w z) :
    Calls Try.prog 4 #[v] w fun e w' => e = .returned (.bool true) ∧ Below w.heap.size w w' := by
 have hB0 := Below.refl w.heap.size w
 have hl_hs := sl_len hs
 by_cases hfew : Few l 40
 · skip
   refine co_enter (n := 132) Try.func4 rfl rfl rfl [(0, v)] rfl (fun a h0 => ?_)
   refine co_seq ?_
   refine co_reg ?_
   refine pk0 (v := .bool false) h0 rfl fun a1 h1 => ?_; clear h0
   refine pl_nil ?_
   refine co_then ?_
   refine co_seq ?_
   refine co_seq ?_
   refine co_reg ?_
   refine pk0 (v := v) h1 rfl fun a2 h2 => ?_; clear h1
   refine pw h2 rfl (op_call (args := #[v]) (R := fun res xw => res = .bool (decide (Few l 40)) ∧ Below w.heap.size w xw) rfl rfl rfl (by kernel_rfl) (by kernel_rfl) (Try.call19 _ _) (few17_any v l w hs hok) (by rintro e x ⟨rfl, hb5⟩; exact ⟨_, rfl, ⟨rfl, hb5⟩⟩)) ?_; clear h2
   rintro _ w4 a3 ⟨rfl, hb5⟩ h3
   have hz6 := hb5.size
   have hc7 : (decide (Few l 40)) = true := by simp [hfew]
   rw [hc7] at h3; clear hc7
   refine pk0 (v := .bool false) h3 rfl fun a8 h8 => ?_; clear h3
   refine pl_nil ?_
   refine co_then ?_
   refine co_false h8 rfl ?_
   refine wp_skip ?_
   refine co_then ?_
   refine co_seq ?_
   refine co_reg ?_
   refine pw h8 rfl (op_call (args := #[]) (R := fun res xw => ∃ N S, res = pt N 0 ∧ LObj S xw N [] ∧ (∀ q, S q → w4.heap.size ≤ q) ∧ Below w4.heap.size w4 xw) rfl rfl rfl (by kernel_rfl) (by kernel_rfl) (Try.call21 _ _) (tNew w4) (by rintro e x ⟨N, S, rfl, h⟩; exact ⟨_, rfl, N, S, rfl, h⟩)) ?_; clear h8
   rintro _ w10 a9 ⟨N11, S12, rfl, hO13, hlo14, hb15⟩ h9
   have hz16 := hb15.size
   have hlo17 : ∀ q, S12 q → w.heap.size ≤ q := fun q hq => by have := hlo14 q hq; omega
   refine pk0 (v := pt N11 0) h9 rfl fun a18 h18 => ?_; clear h9
   refine pl_nil ?_
   refine co_then ?_
   refine co_seq ?_
   refine co_reg ?_
   refine pk0 (v := .agg #[.slice none 0 0]) h18 rfl fun a19 h19 => ?_; clear h18
   refine pw h19 rfl (op_new (v := fun N => pt N 0) (T := 41) (cs := #[.slice none 0 0]) (by kernel_rfl) (by kernel_rfl) (by kernel_rfl)) ?_; clear h19
   rintro _ w21 a20 ⟨N22, rfl, hN25, hz26, hk24, hg23⟩ h20
   have hz27 := hg23.size
   have ho28 := off_new (LObj.ofS hO13) hN25
   try dsimp only at h20
   refine pk0 (v := pt N22 0) h20 rfl fun a29 h29 => ?_; clear h20
   refine pl_nil ?_
   refine co_then ?_
   refine co_seq ?_
   refine co_seq ?_
   refine co_reg ?_
   refine pk0 (v := .int .i64 0) h29 rfl fun a30 h30 => ?_; clear h29
   refine pl_nil ?_
   refine co_then ?_
   refine wp_block ?_
   have hlo' : ∀ q, (fun q => S12 q ∨ q = N22) q → w.heap.size ≤ q := fun q hq => by rcases hq with k | k; exact hlo17 q k; omega
   have h31 : Slots 132 [(0, v), (3, pt N11 0), (4, pt N22 0), (5, .int .i64 0)] _ := h30.sub ⟨rfl, rfl, rfl, rfl, trivial⟩; clear h30
   refine co_loop (fun mm a x => ∃ (i : Nat) (S : Nat → Prop) (u : Value) (L : List EntT) (X : List EntT), Slots 132 [(0, v), (3, pt N11 0), (4, pt N22 0), (5, .int .i64 ((i : Nat) : Int))] a ∧ mm = l.length - i ∧ (i ≤ l.length) ∧ (i ≤ 40) ∧ (∀ q, S q → w.heap.size ≤ q) ∧ TwoP S x N11 N22 u L X ∧ Below w.heap.size w x) (l.length - 0) ?_ ?_
   have hO32 := LObj.gr hO13 hg23 (fun k e => by cases e)
   have hB33 := hb_call hB0 hb5
   have hB34 := hb_call hB33 hb15
   have hB35 := hb_new hB34 hg23
   · exact ⟨0, (fun q => S12 q ∨ q = N22), (.slice none 0 0), [], [], h31.sub ⟨rfl, rfl, rfl, (slot_eq rfl (congrArg (Value.int .i64) (by first | rfl | omega))), trivial⟩, rfl, by omega, by omega, by exact hlo', (TwoP.mk0 hO32 hk24 ho28), hB35⟩
   · rintro k36 a37 w38 ⟨i, S, u, L, X, h37, rfl, hi39, hi40, hi41, hf42, hB43⟩
     have hz44 := hB43.size
     have hlo45 : ∀ q, S q → w.heap.size ≤ q := by assumption
     have hTl := TwoP.len hf42; have hTx := TwoP.lenE hf42
     refine co_seq ?_
     refine co_seq ?_
     refine co_reg ?_
     refine pk0 (v := .int .i64 ((i : Nat) : Int)) h37 rfl fun a46 h46 => ?_; clear h37
     refine pk0 (v := v) h46 rfl fun a47 h47 => ?_; clear h46
     refine pk (v := .int .i64 ((l.length : Nat) : Int)) h47 rfl (rn_len rfl rfl Try.underlying34 (hs.below hB43)) fun a48 h48 => ?_; clear h47
     refine pk0 (v := .bool (decide (((i : Nat) : Int) < ((l.length : Nat) : Int)))) h48 rfl fun a49 h49 => ?_; clear h48
     refine pk0 (v := .bool (decide (((i : Nat) : Int) < ((l.length : Nat) : Int)))) h49 rfl fun a50 h50 => ?_; clear h49
     cases hc51 : (decide (((i : Nat) : Int) < ((l.length : Nat) : Int)))
     ·
      rw [hc51] at h50
      have hp52 : ¬ (((i : Nat) : Int) < ((l.length : Nat) : Int)) := of_decide_eq_false hc51
      clear hc51
      refine psk h50 rfl fun a53 h53 => ?_; clear h50
      refine psk h53 rfl fun a54 h54 => ?_; clear h53
      refine pk0 (v := .bool false) h54 rfl fun a55 h55 => ?_; clear h54
      refine pl_nil ?_
      refine co_then ?_
      refine co_false h55 rfl ?_
      refine wp_exit ?_
      refine co_thenX ?_
      refine co_thenX ?_
      refine co_blockX ?_
      refine co_then ?_
      refine co_seq ?_
      refine co_reg ?_
      refine pw h55 rfl (op_call (args := #[]) (R := fun res xw => res = .bool true ∧ Below w38.heap.size w38 xw) rfl rfl rfl (by kernel_rfl) (by kernel_rfl) (Try.call20 _ _) (awake17  w38 ) (by rintro e x ⟨rfl, hb58⟩; exact ⟨_, rfl, ⟨rfl, hb58⟩⟩)) ?_; clear h55
      rintro _ w57 a56 ⟨rfl, hb58⟩ h56
      have hz59 := hb58.size
      have ho60 := TwoP.ofS hf42
      refine pk0 (v := .bool true) h56 rfl fun a61 h61 => ?_; clear h56
      refine pl_nil ?_
      refine co_then ?_
      refine wp_ret ?_
      refine co_ret1 h61 rfl rfl ?_
      have hB62 := hb_call hB43 hb58
      exact ⟨rfl, hB62⟩
     ·
      rw [hc51] at h50
      have hp63 : ((i : Nat) : Int) < ((l.length : Nat) : Int) := of_decide_eq_true hc51
      clear hc51
      refine pk0 (v := .int .i64 ((i : Nat) : Int)) h50 rfl fun a64 h64 => ?_; clear h50
      refine pk0 (v := .bool (decide (((i : Nat) : Int) < 40))) h64 rfl fun a65 h65 => ?_; clear h64
      refine pk0 (v := .bool (decide (((i : Nat) : Int) < 40))) h65 rfl fun a66 h66 => ?_; clear h65
      refine pl_nil ?_
      refine co_then ?_
      cases hc67 : (decide (((i : Nat) : Int) < 40))
      ·
       rw [hc67] at h66
       have hp68 : ¬ (((i : Nat) : Int) < 40) := of_decide_eq_false hc67
       clear hc67
       refine co_false h66 rfl ?_
       refine wp_exit ?_
       refine co_thenX ?_
       refine co_thenX ?_
       refine co_blockX ?_
       refine co_then ?_
       refine co_seq ?_
       refine co_reg ?_
       refine pw h66 rfl (op_call (args := #[]) (R := fun res xw => res = .bool true ∧ Below w38.heap.size w38 xw) rfl rfl rfl (by kernel_rfl) (by kernel_rfl) (Try.call20 _ _) (awake17  w38 ) (by rintro e x ⟨rfl, hb71⟩; exact ⟨_, rfl, ⟨rfl, hb71⟩⟩)) ?_; clear h66
       rintro _ w70 a69 ⟨rfl, hb71⟩ h69
       have hz72 := hb71.size
       have ho73 := TwoP.ofS hf42
       refine pk0 (v := .bool true) h69 rfl fun a74 h74 => ?_; clear h69
       refine pl_nil ?_
       refine co_then ?_
       refine wp_ret ?_
       refine co_ret1 h74 rfl rfl ?_
       have hB75 := hb_call hB43 hb71
       exact ⟨rfl, hB75⟩
      ·
       rw [hc67] at h66
       have hp76 : ((i : Nat) : Int) < 40 := of_decide_eq_true hc67
       clear hc67
       refine co_true h66 rfl ?_
       refine wp_skip ?_
       refine co_then ?_
       refine co_seq ?_
       refine wp_block ?_
       refine co_seq ?_
       refine co_reg ?_
       refine pk0 (v := v) h66 rfl fun a77 h77 => ?_; clear h66
       refine pk0 (v := .int .i64 ((i : Nat) : Int)) h77 rfl fun a78 h78 => ?_; clear h77
       obtain ⟨y79, hy79⟩ : ∃ z, l[i]? = some z := ⟨_, List.getElem?_eq_getElem (by first | omega | (simp; done) | (simp; omega))⟩
       have oky79 := hok _ (List.mem_of_getElem? hy79)
       have k80 : 0 ≤ y79.e.ts := oky79.1.ts0
       have k81 : y79.e.ts < 18446744073709551616 := oky79.1.ts1
       refine pk (v := pt (blkOf v) (offOf v + i * 6)) h78 rfl (rn_index rfl rfl rfl Try.underlying34 Try.sizeOf49 (hs.below hB43) (by omega) (by first | omega | (simp; done) | (simp; omega))) fun a82 h82 => ?_; clear h78
       refine pk (v := .agg #[.int .i64 y79.c, .int .i64 y79.i, .int .i64 y79.e.client, .int .i64 y79.e.req, y79.e.ops, .int .u64 y79.e.ts]) h82 rfl (rn_loadN rfl rfl Try.underlying49 rfl (by kernel_rfl) (sl_at (hs.below hB43) hy79)) fun a83 h83 => ?_; clear h82
       refine pw h83 rfl (op_new (v := fun N => pt N 0) (T := 49) (cs := #[.int .i64 0, .int .i64 0, .int .i64 0, .int .i64 0, .slice none 0 0, .int .u64 0]) (by kernel_rfl) (by kernel_rfl) (by kernel_rfl)) ?_; clear h83
       rintro _ w85 a84 ⟨N86, rfl, hN89, hz90, hk88, hg87⟩ h84
       have hz91 := hg87.size
       have ho92 := off_new (TwoP.ofS hf42) hN89
       try dsimp only at h84
       have hB98 := hb_new hB43 hg87
       refine pwD h84 rfl (op_storeN rfl rfl rfl (all_cons rfl (all_cons rfl (all_cons rfl (all_cons rfl (all_cons (sl_one (oky79.1.ops.below hB98)) (all_cons rfl all_nil)))))) (by kernel_rfl) hk88 rfl) ?_; clear h84
       rintro _ w94 a93 ⟨hk95, hz96, hg97⟩ h93
       have hk95' : Blk w94 N86 49 #[.int .i64 y79.c, .int .i64 y79.i, .int .i64 y79.e.client, .int .i64 y79.e.req, y79.e.ops, .int .u64 y79.e.ts] := hk95; clear hk95
       have hz99 := hg97.size
       refine pl_nil ?_
       refine co_then ?_
       refine co_seq ?_
       have hB100 := hb_at hB98 hg97 (by omega)
       have hO101 := TwoP.gr hf42 hg87 (fun k e => by cases e)
       have hO102 := TwoP.gr hO101 hg97 (fun k e => by cases e; exact ho92)
       refine co_cut (fun a x => ∃ (S9 : Nat → Prop) (u9 : Value) (L9 : List EntT) (X9 : List EntT), Slots 132 [(0, v), (3, pt N11 0), (4, pt N22 0), (5, .int .i64 ((i : Nat) : Int)), (6, pt N86 0), (65, .bool false)] a ∧ (∀ q, S9 q → w.heap.size ≤ q) ∧ (¬ S9 N86) ∧ TwoP S9 x N11 N22 u9 L9 X9 ∧ Blk x N86 49 #[.int .i64 y79.c, .int .i64 y79.i, .int .i64 y79.e.client, .int .i64 y79.e.req, y79.e.ops, .int .u64 y79.e.ts] ∧ Below w.heap.size w x) ?_ ?_
       ·
        refine dr_gen (fun x => Below w.heap.size w x ∧ Blk x N86 49 #[.int .i64 y79.c, .int .i64 y79.i, .int .i64 y79.e.client, .int .i64 y79.e.req, y79.e.ops, .int .u64 y79.e.ts]) (by kernel_rfl) (fun w103 hg104 => ?_) (fun w103 hg104 => ?_)
        ·
         have hz105 := hg104.size
         have hB106 := hb_new hB100 hg104
         have hk107 := hk95'.kept hg104 (by simp)
         exact ⟨hB106, hk107⟩
        have hz108 := hg104.size
        have hB109 := hb_new hB100 hg104
        have hk110 := hk95'.kept hg104 (by simp)
        refine dk0 0 (v := pt N11 0) h93 rfl rfl ⟨hB109, hk110⟩ fun a111 h111 => ?_; clear h93
        refine dk0 1 (v := pt N22 0) h111 rfl rfl ⟨hB109, hk110⟩ fun a112 h112 => ?_; clear h111
        refine dk 2 (v := .agg #[.int .i64 y79.c, .int .i64 y79.i, .int .i64 y79.e.client, .int .i64 y79.e.req, y79.e.ops, .int .u64 y79.e.ts]) h112 rfl rfl ⟨hB109, hk110⟩ (fun x hx => (rn_loadN rfl rfl Try.underlying49 rfl (by kernel_rfl) hx.2.all)) fun a113 h113 => ?_; clear h112
        have hO116 := TwoP.gr hO102 hg104 (fun k e => by cases e)
        refine d1 3 h113 rfl rfl (op_call (args := #[pt N11 0, pt N22 0, .agg #[.int .i64 y79.c, .int .i64 y79.i, .int .i64 y79.e.client, .int .i64 y79.e.req, y79.e.ops, .int .u64 y79.e.ts]]) (R := fun res xw => ∃ u' : Value, ∃ L' : List EntT, ∃ X' : List EntT, ∃ S' : Nat → Prop, res = .bool true ∧ TwoP S' xw N11 N22 u' L' X' ∧ Grew S S' w103 xw) rfl rfl rfl (by kernel_rfl) (by kernel_rfl) (Try.call22 _ _) (step17_any' w103 y79.c y79.i y79.e.client y79.e.req y79.e.ops y79.e.opl y79.e.ts hO116 (oky79.1.ops.below hB109) (sl_off oky79.1.ops (opE_ne _) hlo45) (Few.at hfew hy79 (by omega)) ⟨oky79.1.ts0, oky79.1.ts1⟩ (wf_i64 oky79.2.2) ⟨oky79.1.each, oky79.1.cl, oky79.1.rq⟩) (by rintro e x ⟨u', L', X', S', h0, h⟩; exact ⟨_, h0, u', L', X', S', rfl, h⟩)) ?_ ?_; clear h113
        ·
         rintro _ w115 ⟨u'117, L'118, X'119, S120, rfl, hO121, hx122⟩
         have hlo124 : ∀ q, S120 q → w.heap.size ≤ q := hx122.lo hlo45 (by omega)
         have hB123 := hbL hB109 hlo45 hx122.but
         have hz125 := hB123.size
         have hz126 := hx122.but.size
         have hk127 : X'119.length = L'118.length := TwoP.lenE hO121
         have hk128 : L'118.length ≤ 100 := TwoP.len hO121
         have hk129 := Blk.butS hk110 hx122.but ho92
         exact ⟨hB123, hk129⟩
        rintro _ w115 a114 ⟨u'117, L'118, X'119, S120, rfl, hO121, hx122⟩ h114
        have hlo124 : ∀ q, S120 q → w.heap.size ≤ q := hx122.lo hlo45 (by omega)
        have hB123 := hbL hB109 hlo45 hx122.but
        have hz125 := hB123.size
        have hz126 := hx122.but.size
        have hk127 : X'119.length = L'118.length := TwoP.lenE hO121
        have hk128 : L'118.length ≤ 100 := TwoP.len hO121
        have hk129 := Blk.butS hk110 hx122.but ho92
        refine dk0 4 (v := .bool false) h114 rfl rfl ⟨hB123, hk129⟩ fun a130 h130 => ?_; clear h114
        refine dk0 5 (v := .bool false) h130 rfl rfl ⟨hB123, hk129⟩ fun a131 h131 => ?_; clear h130
        refine dk0 6 (v := pt N11 0) h131 rfl rfl ⟨hB123, hk129⟩ fun a132 h132 => ?_; clear h131
        refine dk0 8 (v := pt N22 0) h132 rfl rfl ⟨hB123, hk129⟩ fun a133 h133 => ?_; clear h132
        refine dk0 9 (v := pt N22 0) h133 rfl rfl ⟨hB123, hk129⟩ fun a134 h134 => ?_; clear h133
        refine dk0 10 (v := pt N22 0) h134 rfl rfl ⟨hB123, hk129⟩ fun a135 h135 => ?_; clear h134
        refine dr_many [7, 11] (by kernel_rfl) (by simp) ⟨?_, ?_, trivial⟩
        ·
         refine dr_op (i := 7) h135 rfl rfl rfl rfl (op_call (args := #[pt N11 0]) (R := fun res xw => ∃ L2 : List EntT, ∃ u2 : Value, ∃ S' : Nat → Prop, res = u2 ∧ TwoP S' xw N11 N22 u'117 L'118 X'119 ∧ (xw.ownsRow w115.heap.size 47 4 u2 L2.length (L2.flatMap entE)) ∧ (EntsK (fun _ => False) w115.heap.size xw L2) ∧ (L2.map e0 = L'118.map e0) ∧ (∀ q, S' q → q < w115.heap.size) ∧ Grew S120 S' w115 xw) rfl rfl rfl (by kernel_rfl) (by kernel_rfl) (Try.call24 _ _) (wAll w115 hO121) (by rintro e x ⟨L2, u2, S', h0, h⟩; exact ⟨_, h0, L2, u2, S', rfl, h⟩)) ?_ ?_; clear h135
         ·
          rintro u2139 w137 ⟨L2138, _, S140, rfl, hO141, hq143, hq144, hq145, hq146, hx142⟩
          have hlo148 : ∀ q, S140 q → w.heap.size ≤ q := hx142.lo hlo124 (by omega)
          have hB147 := hbL hB123 hlo124 hx142.but
          have hz149 := hB147.size
          have hz150 := hx142.but.size
          have hl151 := e0_len hq145; have hl151b := TwoP.len hO141
          have hk152 := Blk.butS hk129 hx142.but (Grew.off hx122 ho92 hk110.lt)
          exact ⟨hB147, hk152⟩
         rintro u2139 w137 a136 ⟨L2138, _, S140, rfl, hO141, hq143, hq144, hq145, hq146, hx142⟩ h136
         have hlo148 : ∀ q, S140 q → w.heap.size ≤ q := hx142.lo hlo124 (by omega)
         have hB147 := hbL hB123 hlo124 hx142.but
         have hz149 := hB147.size
         have hz150 := hx142.but.size
         have hl151 := e0_len hq145; have hl151b := TwoP.len hO141
         have hk152 := Blk.butS hk129 hx142.but (Grew.off hx122 ho92 hk110.lt)
         refine dr_many [11] (by kernel_rfl) (by simp) ⟨?_, trivial⟩
         ·
          refine dr_opVal (i := 11) (v := u'117) h136 rfl rfl rfl rfl (by kernel_rfl) rfl (rn_load1 rfl rfl Try.isAgg39 ((TwoP.blk hO141).cell rfl)) ⟨hB147, hk152⟩ (fun a153 h153 => ?_); clear h136
          refine d1 12 h153 rfl rfl (op_call (args := #[u2139, u'117]) (R := fun res xw => res = .bool true ∧ Below w137.heap.size w137 xw) rfl rfl rfl (by kernel_rfl) (by kernel_rfl) (Try.call23 _ _) (sameAllE_any u2139 L2138 u'117 X'119 w137 (row_sl hq143 entE_len) (entsK_got hq144) (TwoP.sl hO141) (TwoP.okX hO141) (hq145.trans (TwoP.eq hO141))) (by rintro e x ⟨rfl, hb156⟩; exact ⟨_, rfl, ⟨rfl, hb156⟩⟩)) ?_ ?_; clear h153
          ·
           rintro _ w155 ⟨rfl, hb156⟩
           have hz157 := hb156.size
           have ho158 := TwoP.ofS hO141
           have hB159 := hb_call hB147 hb156
           have hk160 := hk152.below hb156
           exact ⟨hB159, hk160⟩
          rintro _ w155 a154 ⟨rfl, hb156⟩ h154
          have hz157 := hb156.size
          have ho158 := TwoP.ofS hO141
          have hB159 := hb_call hB147 hb156
          have hk160 := hk152.below hb156
          refine dk0 13 (v := .bool false) h154 rfl rfl ⟨hB159, hk160⟩ fun a161 h161 => ?_; clear h154
          refine dk0 14 (v := .bool false) h161 rfl rfl ⟨hB159, hk160⟩ fun a162 h162 => ?_; clear h161
          refine dk0 15 (v := .bool false) h162 rfl rfl ⟨hB159, hk160⟩ fun a163 h163 => ?_; clear h162
          refine dk0 16 (v := pt N11 0) h163 rfl rfl ⟨hB159, hk160⟩ fun a164 h164 => ?_; clear h163
          refine dk0 18 (v := pt N22 0) h164 rfl rfl ⟨hB159, hk160⟩ fun a165 h165 => ?_; clear h164
          refine dk0 19 (v := pt N22 0) h165 rfl rfl ⟨hB159, hk160⟩ fun a166 h166 => ?_; clear h165
          refine dk0 20 (v := pt N22 0) h166 rfl rfl ⟨hB159, hk160⟩ fun a167 h167 => ?_; clear h166
          refine dr_many [17, 21] (by kernel_rfl) (by simp) ⟨?_, ?_, trivial⟩
          ·
           have hO170 := TwoP.gr hO141 (below_grown hb156) (fun k e => by cases e)
           refine dr_op (i := 17) h167 rfl rfl rfl rfl (op_call (args := #[pt N11 0]) (R := fun res xw => ∃ S' : Nat → Prop, res = .int .i64 ((L'118.length : Nat) : Int) ∧ TwoP S' xw N11 N22 u'117 L'118 X'119 ∧ Grew S140 S' w155 xw) rfl rfl rfl (by kernel_rfl) (by kernel_rfl) (Try.call25 _ _) (wLen w155 hO170) (by rintro e x ⟨S', h0, h⟩; exact ⟨_, h0, S', rfl, h⟩)) ?_ ?_; clear h167
           ·
            rintro _ w169 ⟨S171, rfl, hO172, hx173⟩
            have hr174 := row_kept_new hq143 (below_grown hb156)
            have hlo176 : ∀ q, S171 q → w.heap.size ≤ q := hx173.lo hlo148 (by omega)
            have hB175 := hbL hB159 hlo148 hx173.but
            have hz177 := hB175.size
            have hz178 := hx173.but.size
            have hk179 := Blk.butS hk160 hx173.but (Grew.off hx142 (Grew.off hx122 ho92 hk110.lt) hk129.lt)
            exact ⟨hB175, hk179⟩
           rintro _ w169 a168 ⟨S171, rfl, hO172, hx173⟩ h168
           have hr174 := row_kept_new hq143 (below_grown hb156)
           have hlo176 : ∀ q, S171 q → w.heap.size ≤ q := hx173.lo hlo148 (by omega)
           have hB175 := hbL hB159 hlo148 hx173.but
           have hz177 := hB175.size
           have hz178 := hx173.but.size
           have hk179 := Blk.butS hk160 hx173.but (Grew.off hx142 (Grew.off hx122 ho92 hk110.lt) hk129.lt)
           refine dr_many [21] (by kernel_rfl) (by simp) ⟨?_, trivial⟩
           ·
            refine dr_opVal (i := 21) (v := u'117) h168 rfl rfl rfl rfl (by kernel_rfl) rfl (rn_load1 rfl rfl Try.isAgg39 ((TwoP.blk hO172).cell rfl)) ⟨hB175, hk179⟩ (fun a180 h180 => ?_); clear h168
            refine dr_many [22] (by kernel_rfl) (by simp) ⟨?_, trivial⟩
            ·
             refine dr_opVal (i := 22) (v := .int .i64 ((X'119.length : Nat) : Int)) h180 rfl rfl rfl rfl (by kernel_rfl) rfl (rn_len rfl rfl Try.underlying39 (TwoP.sl hO172)) ⟨hB175, hk179⟩ (fun a181 h181 => ?_); clear h180
             refine dk0 23 (v := .bool (((L'118.length : Nat) : Int) != ((X'119.length : Nat) : Int))) h181 rfl rfl ⟨hB175, hk179⟩ fun a182 h182 => ?_; clear h181
             refine dk0 24 (v := .bool (((L'118.length : Nat) : Int) != ((X'119.length : Nat) : Int))) h182 rfl rfl ⟨hB175, hk179⟩ fun a183 h183 => ?_; clear h182
             refine dk0 25 (v := .bool (((L'118.length : Nat) : Int) != ((X'119.length : Nat) : Int))) h183 rfl rfl ⟨hB175, hk179⟩ fun a184 h184 => ?_; clear h183
             have hc185 : (((L'118.length : Nat) : Int) != ((X'119.length : Nat) : Int)) = false := by first | (simp; done) | (simp; omega)
             rw [hc185] at h184; clear hc185
             refine dk0 26 (v := pt N11 0) h184 rfl rfl ⟨hB175, hk179⟩ fun a186 h186 => ?_; clear h184
             refine dk0 28 (v := pt N22 0) h186 rfl rfl ⟨hB175, hk179⟩ fun a187 h187 => ?_; clear h186
             refine dk0 29 (v := pt N22 0) h187 rfl rfl ⟨hB175, hk179⟩ fun a188 h188 => ?_; clear h187
             refine dk0 30 (v := pt N22 0) h188 rfl rfl ⟨hB175, hk179⟩ fun a189 h189 => ?_; clear h188
             refine dr_many [27, 31] (by kernel_rfl) (by simp) ⟨?_, ?_, trivial⟩
             ·
              refine dr_op (i := 27) h189 rfl rfl rfl rfl (op_call (args := #[pt N11 0]) (R := fun res xw => ∃ S' : Nat → Prop, res = .int .i64 ((stN L'118 : Nat) : Int) ∧ TwoP S' xw N11 N22 u'117 L'118 X'119 ∧ Grew S171 S' w169 xw) rfl rfl rfl (by kernel_rfl) (by kernel_rfl) (Try.call26 _ _) (wStamped w169 hO172) (by rintro e x ⟨S', h0, h⟩; exact ⟨_, h0, S', rfl, h⟩)) ?_ ?_; clear h189
              ·
               rintro _ w191 ⟨S192, rfl, hO193, hx194⟩
               have hr195 := own_butS hr174 hx173.but (offR_row hq146 hq143 (Nat.le_refl _))
               have hlo197 : ∀ q, S192 q → w.heap.size ≤ q := hx194.lo hlo176 (by omega)
               have hB196 := hbL hB175 hlo176 hx194.but
               have hz198 := hB196.size
               have hz199 := hx194.but.size
               have hk200 := Blk.butS hk179 hx194.but (Grew.off hx173 (Grew.off hx142 (Grew.off hx122 ho92 hk110.lt) hk129.lt) hk160.lt)
               exact ⟨hB196, hk200⟩
              rintro _ w191 a190 ⟨S192, rfl, hO193, hx194⟩ h190
              have hr195 := own_butS hr174 hx173.but (offR_row hq146 hq143 (Nat.le_refl _))
              have hlo197 : ∀ q, S192 q → w.heap.size ≤ q := hx194.lo hlo176 (by omega)
              have hB196 := hbL hB175 hlo176 hx194.but
              have hz198 := hB196.size
              have hz199 := hx194.but.size
              have hk200 := Blk.butS hk179 hx194.but (Grew.off hx173 (Grew.off hx142 (Grew.off hx122 ho92 hk110.lt) hk129.lt) hk160.lt)
              refine dr_many [31] (by kernel_rfl) (by simp) ⟨?_, trivial⟩
              ·
               refine dr_opVal (i := 31) (v := u'117) h190 rfl rfl rfl rfl (by kernel_rfl) rfl (rn_load1 rfl rfl Try.isAgg39 ((TwoP.blk hO193).cell rfl)) ⟨hB196, hk200⟩ (fun a201 h201 => ?_); clear h190
               have hk204 : stN X'119 = stN L'118 := cong_n (fun L => stN_e0 L) (TwoP.eq hO193).symm
               refine d1 32 h201 rfl rfl (op_call (args := #[u'117]) (R := fun res xw => res = .int .i64 ((stN X'119 : Nat) : Int) ∧ Below w191.heap.size w191 xw) rfl rfl rfl (by kernel_rfl) (by kernel_rfl) (Try.call27 _ _) (ritemStamped_any u'117 X'119 w191 (TwoP.sl hO193) (TwoP.okX hO193)) (by rintro e x ⟨rfl, hb205⟩; exact ⟨_, rfl, ⟨rfl, hb205⟩⟩)) ?_ ?_; clear h201
               ·
                rintro _ w203 ⟨rfl, hb205⟩
                have hz206 := hb205.size
                have ho207 := TwoP.ofS hO193
                have hB208 := hb_call hB196 hb205
                have hk209 := hk200.below hb205
                exact ⟨hB208, hk209⟩
               rintro _ w203 a202 ⟨rfl, hb205⟩ h202
               have hz206 := hb205.size
               have ho207 := TwoP.ofS hO193
               have hB208 := hb_call hB196 hb205
               have hk209 := hk200.below hb205
               refine dk0 33 (v := .bool (((stN L'118 : Nat) : Int) != ((stN X'119 : Nat) : Int))) h202 rfl rfl ⟨hB208, hk209⟩ fun a210 h210 => ?_; clear h202
               refine dk0 34 (v := .bool (((stN L'118 : Nat) : Int) != ((stN X'119 : Nat) : Int))) h210 rfl rfl ⟨hB208, hk209⟩ fun a211 h211 => ?_; clear h210
               refine dr_done (by kernel_rfl) ?_
               refine co_then ?_
               have hc212 : (((stN L'118 : Nat) : Int) != ((stN X'119 : Nat) : Int)) = false := by first | (simp; done) | (simp; omega)
               rw [hc212] at h211; clear hc212
               have hO213 := TwoP.gr hO193 (below_grown hb205) (fun k e => by cases e)
               exact ⟨S192, u'117, L'118, X'119, h211.sub ⟨rfl, rfl, rfl, rfl, rfl, rfl, trivial⟩, by exact hlo197, by exact (Grew.off hx194 (Grew.off hx173 (Grew.off hx142 (Grew.off hx122 ho92 hk110.lt) hk129.lt) hk160.lt) hk179.lt), hO213, hk209, hB208⟩
             ·
              refine dr_opVal (i := 31) (v := u'117) h189 rfl rfl rfl rfl (by kernel_rfl) rfl (rn_load1 rfl rfl Try.isAgg39 ((TwoP.blk hO172).cell rfl)) ⟨hB175, hk179⟩ (fun a214 h214 => ?_); clear h189
              refine d1 27 h214 rfl rfl (op_call (args := #[pt N11 0]) (R := fun res xw => ∃ S' : Nat → Prop, res = .int .i64 ((stN L'118 : Nat) : Int) ∧ TwoP S' xw N11 N22 u'117 L'118 X'119 ∧ Grew S171 S' w169 xw) rfl rfl rfl (by kernel_rfl) (by kernel_rfl) (Try.call26 _ _) (wStamped w169 hO172) (by rintro e x ⟨S', h0, h⟩; exact ⟨_, h0, S', rfl, h⟩)) ?_ ?_; clear h214
              ·
               rintro _ w216 ⟨S217, rfl, hO218, hx219⟩
               have hr220 := own_butS hr174 hx173.but (offR_row hq146 hq143 (Nat.le_refl _))
               have hlo222 : ∀ q, S217 q → w.heap.size ≤ q := hx219.lo hlo176 (by omega)
               have hB221 := hbL hB175 hlo176 hx219.but
               have hz223 := hB221.size
               have hz224 := hx219.but.size
               have hk225 := Blk.butS hk179 hx219.but (Grew.off hx173 (Grew.off hx142 (Grew.off hx122 ho92 hk110.lt) hk129.lt) hk160.lt)
               exact ⟨hB221, hk225⟩
              rintro _ w216 a215 ⟨S217, rfl, hO218, hx219⟩ h215
              have hr220 := own_butS hr174 hx173.but (offR_row hq146 hq143 (Nat.le_refl _))
              have hlo222 : ∀ q, S217 q → w.heap.size ≤ q := hx219.lo hlo176 (by omega)
              have hB221 := hbL hB175 hlo176 hx219.but
              have hz223 := hB221.size
              have hz224 := hx219.but.size
              have hk225 := Blk.butS hk179 hx219.but (Grew.off hx173 (Grew.off hx142 (Grew.off hx122 ho92 hk110.lt) hk129.lt) hk160.lt)
              have hk228 : stN X'119 = stN L'118 := cong_n (fun L => stN_e0 L) (TwoP.eq hO218).symm
              refine d1 32 h215 rfl rfl (op_call (args := #[u'117]) (R := fun res xw => res = .int .i64 ((stN X'119 : Nat) : Int) ∧ Below w216.heap.size w216 xw) rfl rfl rfl (by kernel_rfl) (by kernel_rfl) (Try.call27 _ _) (ritemStamped_any u'117 X'119 w216 (TwoP.sl hO218) (TwoP.okX hO218)) (by rintro e x ⟨rfl, hb229⟩; exact ⟨_, rfl, ⟨rfl, hb229⟩⟩)) ?_ ?_; clear h215
              ·
               rintro _ w227 ⟨rfl, hb229⟩
               have hz230 := hb229.size
               have ho231 := TwoP.ofS hO218
               have hB232 := hb_call hB221 hb229
               have hk233 := hk225.below hb229
               exact ⟨hB232, hk233⟩
              rintro _ w227 a226 ⟨rfl, hb229⟩ h226
              have hz230 := hb229.size
              have ho231 := TwoP.ofS hO218
              have hB232 := hb_call hB221 hb229
              have hk233 := hk225.below hb229
              refine dk0 33 (v := .bool (((stN L'118 : Nat) : Int) != ((stN X'119 : Nat) : Int))) h226 rfl rfl ⟨hB232, hk233⟩ fun a234 h234 => ?_; clear h226
              refine dk0 34 (v := .bool (((stN L'118 : Nat) : Int) != ((stN X'119 : Nat) : Int))) h234 rfl rfl ⟨hB232, hk233⟩ fun a235 h235 => ?_; clear h234
              refine dr_done (by kernel_rfl) ?_
              refine co_then ?_
              have hc236 : (((stN L'118 : Nat) : Int) != ((stN X'119 : Nat) : Int)) = false := by first | (simp; done) | (simp; omega)
              rw [hc236] at h235; clear hc236
              have hO237 := TwoP.gr hO218 (below_grown hb229) (fun k e => by cases e)
              exact ⟨S217, u'117, L'118, X'119, h235.sub ⟨rfl, rfl, rfl, rfl, rfl, rfl, trivial⟩, by exact hlo222, by exact (Grew.off hx219 (Grew.off hx173 (Grew.off hx142 (Grew.off hx122 ho92 hk110.lt) hk129.lt) hk160.lt) hk179.lt), hO237, hk233, hB232⟩
          ·
           have hO238 := TwoP.gr hO141 (below_grown hb156) (fun k e => by cases e)
           refine dr_opVal (i := 21) (v := u'117) h167 rfl rfl rfl rfl (by kernel_rfl) rfl (rn_load1 rfl rfl Try.isAgg39 ((TwoP.blk hO238).cell rfl)) ⟨hB159, hk160⟩ (fun a239 h239 => ?_); clear h167
           refine dr_many [17, 22] (by kernel_rfl) (by simp) ⟨?_, ?_, trivial⟩
           ·
            refine dr_op (i := 17) h239 rfl rfl rfl rfl (op_call (args := #[pt N11 0]) (R := fun res xw => ∃ S' : Nat → Prop, res = .int .i64 ((L'118.length : Nat) : Int) ∧ TwoP S' xw N11 N22 u'117 L'118 X'119 ∧ Grew S140 S' w155 xw) rfl rfl rfl (by kernel_rfl) (by kernel_rfl) (Try.call25 _ _) (wLen w155 hO238) (by rintro e x ⟨S', h0, h⟩; exact ⟨_, h0, S', rfl, h⟩)) ?_ ?_; clear h239
            ·
             rintro _ w241 ⟨S242, rfl, hO243, hx244⟩
             have hr245 := row_kept_new hq143 (below_grown hb156)
             have hlo247 : ∀ q, S242 q → w.heap.size ≤ q := hx244.lo hlo148 (by omega)
             have hB246 := hbL hB159 hlo148 hx244.but
             have hz248 := hB246.size
             have hz249 := hx244.but.size
             have hk250 := Blk.butS hk160 hx244.but (Grew.off hx142 (Grew.off hx122 ho92 hk110.lt) hk129.lt)
             exact ⟨hB246, hk250⟩
            rintro _ w241 a240 ⟨S242, rfl, hO243, hx244⟩ h240
            have hr245 := row_kept_new hq143 (below_grown hb156)
            have hlo247 : ∀ q, S242 q → w.heap.size ≤ q := hx244.lo hlo148 (by omega)
            have hB246 := hbL hB159 hlo148 hx244.but
            have hz248 := hB246.size
            have hz249 := hx244.but.size
            have hk250 := Blk.butS hk160 hx244.but (Grew.off hx142 (Grew.off hx122 ho92 hk110.lt) hk129.lt)
            refine dr_many [22] (by kernel_rfl) (by simp) ⟨?_, trivial⟩
            ·
             refine dr_opVal (i := 22) (v := .int .i64 ((X'119.length : Nat) : Int)) h240 rfl rfl rfl rfl (by kernel_rfl) rfl (rn_len rfl rfl Try.underlying39 (TwoP.sl hO243)) ⟨hB246, hk250⟩ (fun a251 h251 => ?_); clear h240
             refine dk0 23 (v := .bool (((L'118.length : Nat) : Int) != ((X'119.length : Nat) : Int))) h251 rfl rfl ⟨hB246, hk250⟩ fun a252 h252 => ?_; clear h251
             refine dk0 24 (v := .bool (((L'118.length : Nat) : Int) != ((X'119.length : Nat) : Int))) h252 rfl rfl ⟨hB246, hk250⟩ fun a253 h253 => ?_; clear h252
             refine dk0 25 (v := .bool (((L'118.length : Nat) : Int) != ((X'119.length : Nat) : Int))) h253 rfl rfl ⟨hB246, hk250⟩ fun a254 h254 => ?_; clear h253
             have hc255 : (((L'118.length : Nat) : Int) != ((X'119.length : Nat) : Int)) = false := by first | (simp; done) | (simp; omega)
             rw [hc255] at h254; clear hc255
             refine dk0 26 (v := pt N11 0) h254 rfl rfl ⟨hB246, hk250⟩ fun a256 h256 => ?_; clear h254
             refine dk0 28 (v := pt N22 0) h256 rfl rfl ⟨hB246, hk250⟩ fun a257 h257 => ?_; clear h256
             refine dk0 29 (v := pt N22 0) h257 rfl rfl ⟨hB246, hk250⟩ fun a258 h258 => ?_; clear h257
             refine dk0 30 (v := pt N22 0) h258 rfl rfl ⟨hB246, hk250⟩ fun a259 h259 => ?_; clear h258
             refine dr_many [27, 31] (by kernel_rfl) (by simp) ⟨?_, ?_, trivial⟩
             ·
              refine dr_op (i := 27) h259 rfl rfl rfl rfl (op_call (args := #[pt N11 0]) (R := fun res xw => ∃ S' : Nat → Prop, res = .int .i64 ((stN L'118 : Nat) : Int) ∧ TwoP S' xw N11 N22 u'117 L'118 X'119 ∧ Grew S242 S' w241 xw) rfl rfl rfl (by kernel_rfl) (by kernel_rfl) (Try.call26 _ _) (wStamped w241 hO243) (by rintro e x ⟨S', h0, h⟩; exact ⟨_, h0, S', rfl, h⟩)) ?_ ?_; clear h259
              ·
               rintro _ w261 ⟨S262, rfl, hO263, hx264⟩
               have hr265 := own_butS hr245 hx244.but (offR_row hq146 hq143 (Nat.le_refl _))
               have hlo267 : ∀ q, S262 q → w.heap.size ≤ q := hx264.lo hlo247 (by omega)
               have hB266 := hbL hB246 hlo247 hx264.but
               have hz268 := hB266.size
               have hz269 := hx264.but.size
               have hk270 := Blk.butS hk250 hx264.but (Grew.off hx244 (Grew.off hx142 (Grew.off hx122 ho92 hk110.lt) hk129.lt) hk160.lt)
               exact ⟨hB266, hk270⟩
              rintro _ w261 a260 ⟨S262, rfl, hO263, hx264⟩ h260
              have hr265 := own_butS hr245 hx244.but (offR_row hq146 hq143 (Nat.le_refl _))
              have hlo267 : ∀ q, S262 q → w.heap.size ≤ q := hx264.lo hlo247 (by omega)
              have hB266 := hbL hB246 hlo247 hx264.but
              have hz268 := hB266.size
              have hz269 := hx264.but.size
              have hk270 := Blk.butS hk250 hx264.but (Grew.off hx244 (Grew.off hx142 (Grew.off hx122 ho92 hk110.lt) hk129.lt) hk160.lt)
              refine dr_many [31] (by kernel_rfl) (by simp) ⟨?_, trivial⟩
              ·
               refine dr_opVal (i := 31) (v := u'117) h260 rfl rfl rfl rfl (by kernel_rfl) rfl (rn_load1 rfl rfl Try.isAgg39 ((TwoP.blk hO263).cell rfl)) ⟨hB266, hk270⟩ (fun a271 h271 => ?_); clear h260
               have hk274 : stN X'119 = stN L'118 := cong_n (fun L => stN_e0 L) (TwoP.eq hO263).symm
               refine d1 32 h271 rfl rfl (op_call (args := #[u'117]) (R := fun res xw => res = .int .i64 ((stN X'119 : Nat) : Int) ∧ Below w261.heap.size w261 xw) rfl rfl rfl (by kernel_rfl) (by kernel_rfl) (Try.call27 _ _) (ritemStamped_any u'117 X'119 w261 (TwoP.sl hO263) (TwoP.okX hO263)) (by rintro e x ⟨rfl, hb275⟩; exact ⟨_, rfl, ⟨rfl, hb275⟩⟩)) ?_ ?_; clear h271
               ·
                rintro _ w273 ⟨rfl, hb275⟩
                have hz276 := hb275.size
                have ho277 := TwoP.ofS hO263
                have hB278 := hb_call hB266 hb275
                have hk279 := hk270.below hb275
                exact ⟨hB278, hk279⟩
               rintro _ w273 a272 ⟨rfl, hb275⟩ h272
               have hz276 := hb275.size
               have ho277 := TwoP.ofS hO263
               have hB278 := hb_call hB266 hb275
               have hk279 := hk270.below hb275
               refine dk0 33 (v := .bool (((stN L'118 : Nat) : Int) != ((stN X'119 : Nat) : Int))) h272 rfl rfl ⟨hB278, hk279⟩ fun a280 h280 => ?_; clear h272
               refine dk0 34 (v := .bool (((stN L'118 : Nat) : Int) != ((stN X'119 : Nat) : Int))) h280 rfl rfl ⟨hB278, hk279⟩ fun a281 h281 => ?_; clear h280
               refine dr_done (by kernel_rfl) ?_
               refine co_then ?_
               have hc282 : (((stN L'118 : Nat) : Int) != ((stN X'119 : Nat) : Int)) = false := by first | (simp; done) | (simp; omega)
               rw [hc282] at h281; clear hc282
               have hO283 := TwoP.gr hO263 (below_grown hb275) (fun k e => by cases e)
               exact ⟨S262, u'117, L'118, X'119, h281.sub ⟨rfl, rfl, rfl, rfl, rfl, rfl, trivial⟩, by exact hlo267, by exact (Grew.off hx264 (Grew.off hx244 (Grew.off hx142 (Grew.off hx122 ho92 hk110.lt) hk129.lt) hk160.lt) hk250.lt), hO283, hk279, hB278⟩
             ·
              refine dr_opVal (i := 31) (v := u'117) h259 rfl rfl rfl rfl (by kernel_rfl) rfl (rn_load1 rfl rfl Try.isAgg39 ((TwoP.blk hO243).cell rfl)) ⟨hB246, hk250⟩ (fun a284 h284 => ?_); clear h259
              refine d1 27 h284 rfl rfl (op_call (args := #[pt N11 0]) (R := fun res xw => ∃ S' : Nat → Prop, res = .int .i64 ((stN L'118 : Nat) : Int) ∧ TwoP S' xw N11 N22 u'117 L'118 X'119 ∧ Grew S242 S' w241 xw) rfl rfl rfl (by kernel_rfl) (by kernel_rfl) (Try.call26 _ _) (wStamped w241 hO243) (by rintro e x ⟨S', h0, h⟩; exact ⟨_, h0, S', rfl, h⟩)) ?_ ?_; clear h284
              ·
               rintro _ w286 ⟨S287, rfl, hO288, hx289⟩
               have hr290 := own_butS hr245 hx244.but (offR_row hq146 hq143 (Nat.le_refl _))
               have hlo292 : ∀ q, S287 q → w.heap.size ≤ q := hx289.lo hlo247 (by omega)
               have hB291 := hbL hB246 hlo247 hx289.but
               have hz293 := hB291.size
               have hz294 := hx289.but.size
               have hk295 := Blk.butS hk250 hx289.but (Grew.off hx244 (Grew.off hx142 (Grew.off hx122 ho92 hk110.lt) hk129.lt) hk160.lt)
               exact ⟨hB291, hk295⟩
              rintro _ w286 a285 ⟨S287, rfl, hO288, hx289⟩ h285
              have hr290 := own_butS hr245 hx244.but (offR_row hq146 hq143 (Nat.le_refl _))
              have hlo292 : ∀ q, S287 q → w.heap.size ≤ q := hx289.lo hlo247 (by omega)
              have hB291 := hbL hB246 hlo247 hx289.but
              have hz293 := hB291.size
              have hz294 := hx289.but.size
              have hk295 := Blk.butS hk250 hx289.but (Grew.off hx244 (Grew.off hx142 (Grew.off hx122 ho92 hk110.lt) hk129.lt) hk160.lt)
              have hk298 : stN X'119 = stN L'118 := cong_n (fun L => stN_e0 L) (TwoP.eq hO288).symm
              refine d1 32 h285 rfl rfl (op_call (args := #[u'117]) (R := fun res xw => res = .int .i64 ((stN X'119 : Nat) : Int) ∧ Below w286.heap.size w286 xw) rfl rfl rfl (by kernel_rfl) (by kernel_rfl) (Try.call27 _ _) (ritemStamped_any u'117 X'119 w286 (TwoP.sl hO288) (TwoP.okX hO288)) (by rintro e x ⟨rfl, hb299⟩; exact ⟨_, rfl, ⟨rfl, hb299⟩⟩)) ?_ ?_; clear h285
              ·
               rintro _ w297 ⟨rfl, hb299⟩
               have hz300 := hb299.size
               have ho301 := TwoP.ofS hO288
               have hB302 := hb_call hB291 hb299
               have hk303 := hk295.below hb299
               exact ⟨hB302, hk303⟩
              rintro _ w297 a296 ⟨rfl, hb299⟩ h296
              have hz300 := hb299.size
              have ho301 := TwoP.ofS hO288
              have hB302 := hb_call hB291 hb299
              have hk303 := hk295.below hb299
              refine dk0 33 (v := .bool (((stN L'118 : Nat) : Int) != ((stN X'119 : Nat) : Int))) h296 rfl rfl ⟨hB302, hk303⟩ fun a304 h304 => ?_; clear h296
              refine dk0 34 (v := .bool (((stN L'118 : Nat) : Int) != ((stN X'119 : Nat) : Int))) h304 rfl rfl ⟨hB302, hk303⟩ fun a305 h305 => ?_; clear h304
              refine dr_done (by kernel_rfl) ?_
              refine co_then ?_
              have hc306 : (((stN L'118 : Nat) : Int) != ((stN X'119 : Nat) : Int)) = false := by first | (simp; done) | (simp; omega)
              rw [hc306] at h305; clear hc306
              have hO307 := TwoP.gr hO288 (below_grown hb299) (fun k e => by cases e)
              exact ⟨S287, u'117, L'118, X'119, h305.sub ⟨rfl, rfl, rfl, rfl, rfl, rfl, trivial⟩, by exact hlo292, by exact (Grew.off hx289 (Grew.off hx244 (Grew.off hx142 (Grew.off hx122 ho92 hk110.lt) hk129.lt) hk160.lt) hk250.lt), hO307, hk303, hB302⟩
           ·
            refine dr_opVal (i := 22) (v := .int .i64 ((X'119.length : Nat) : Int)) h239 rfl rfl rfl rfl (by kernel_rfl) rfl (rn_len rfl rfl Try.underlying39 (TwoP.sl hO238)) ⟨hB159, hk160⟩ (fun a308 h308 => ?_); clear h239
            refine d1 17 h308 rfl rfl (op_call (args := #[pt N11 0]) (R := fun res xw => ∃ S' : Nat → Prop, res = .int .i64 ((L'118.length : Nat) : Int) ∧ TwoP S' xw N11 N22 u'117 L'118 X'119 ∧ Grew S140 S' w155 xw) rfl rfl rfl (by kernel_rfl) (by kernel_rfl) (Try.call25 _ _) (wLen w155 hO238) (by rintro e x ⟨S', h0, h⟩; exact ⟨_, h0, S', rfl, h⟩)) ?_ ?_; clear h308
            ·
             rintro _ w310 ⟨S311, rfl, hO312, hx313⟩
             have hr314 := row_kept_new hq143 (below_grown hb156)
             have hlo316 : ∀ q, S311 q → w.heap.size ≤ q := hx313.lo hlo148 (by omega)
             have hB315 := hbL hB159 hlo148 hx313.but
             have hz317 := hB315.size
             have hz318 := hx313.but.size
             have hk319 := Blk.butS hk160 hx313.but (Grew.off hx142 (Grew.off hx122 ho92 hk110.lt) hk129.lt)
             exact ⟨hB315, hk319⟩
            rintro _ w310 a309 ⟨S311, rfl, hO312, hx313⟩ h309
            have hr314 := row_kept_new hq143 (below_grown hb156)
            have hlo316 : ∀ q, S311 q → w.heap.size ≤ q := hx313.lo hlo148 (by omega)
            have hB315 := hbL hB159 hlo148 hx313.but
            have hz317 := hB315.size
            have hz318 := hx313.but.size
            have hk319 := Blk.butS hk160 hx313.but (Grew.off hx142 (Grew.off hx122 ho92 hk110.lt) hk129.lt)
            refine dk0 23 (v := .bool (((L'118.length : Nat) : Int) != ((X'119.length : Nat) : Int))) h309 rfl rfl ⟨hB315, hk319⟩ fun a320 h320 => ?_; clear h309
            refine dk0 24 (v := .bool (((L'118.length : Nat) : Int) != ((X'119.length : Nat) : Int))) h320 rfl rfl ⟨hB315, hk319⟩ fun a321 h321 => ?_; clear h320
            refine dk0 25 (v := .bool (((L'118.length : Nat) : Int) != ((X'119.length : Nat) : Int))) h321 rfl rfl ⟨hB315, hk319⟩ fun a322 h322 => ?_; clear h321
            have hc323 : (((L'118.length : Nat) : Int) != ((X'119.length : Nat) : Int)) = false := by first | (simp; done) | (simp; omega)
            rw [hc323] at h322; clear hc323
            refine dk0 26 (v := pt N11 0) h322 rfl rfl ⟨hB315, hk319⟩ fun a324 h324 => ?_; clear h322
            refine dk0 28 (v := pt N22 0) h324 rfl rfl ⟨hB315, hk319⟩ fun a325 h325 => ?_; clear h324
            refine dk0 29 (v := pt N22 0) h325 rfl rfl ⟨hB315, hk319⟩ fun a326 h326 => ?_; clear h325
            refine dk0 30 (v := pt N22 0) h326 rfl rfl ⟨hB315, hk319⟩ fun a327 h327 => ?_; clear h326
            refine dr_many [27, 31] (by kernel_rfl) (by simp) ⟨?_, ?_, trivial⟩
            ·
             refine dr_op (i := 27) h327 rfl rfl rfl rfl (op_call (args := #[pt N11 0]) (R := fun res xw => ∃ S' : Nat → Prop, res = .int .i64 ((stN L'118 : Nat) : Int) ∧ TwoP S' xw N11 N22 u'117 L'118 X'119 ∧ Grew S311 S' w310 xw) rfl rfl rfl (by kernel_rfl) (by kernel_rfl) (Try.call26 _ _) (wStamped w310 hO312) (by rintro e x ⟨S', h0, h⟩; exact ⟨_, h0, S', rfl, h⟩)) ?_ ?_; clear h327
             ·
              rintro _ w329 ⟨S330, rfl, hO331, hx332⟩
              have hr333 := own_butS hr314 hx313.but (offR_row hq146 hq143 (Nat.le_refl _))
              have hlo335 : ∀ q, S330 q → w.heap.size ≤ q := hx332.lo hlo316 (by omega)
              have hB334 := hbL hB315 hlo316 hx332.but
              have hz336 := hB334.size
              have hz337 := hx332.but.size
              have hk338 := Blk.butS hk319 hx332.but (Grew.off hx313 (Grew.off hx142 (Grew.off hx122 ho92 hk110.lt) hk129.lt) hk160.lt)
              exact ⟨hB334, hk338⟩
             rintro _ w329 a328 ⟨S330, rfl, hO331, hx332⟩ h328
             have hr333 := own_butS hr314 hx313.but (offR_row hq146 hq143 (Nat.le_refl _))
             have hlo335 : ∀ q, S330 q → w.heap.size ≤ q := hx332.lo hlo316 (by omega)
             have hB334 := hbL hB315 hlo316 hx332.but
             have hz336 := hB334.size
             have hz337 := hx332.but.size
             have hk338 := Blk.butS hk319 hx332.but (Grew.off hx313 (Grew.off hx142 (Grew.off hx122 ho92 hk110.lt) hk129.lt) hk160.lt)
             refine dr_many [31] (by kernel_rfl) (by simp) ⟨?_, trivial⟩
             ·
              refine dr_opVal (i := 31) (v := u'117) h328 rfl rfl rfl rfl (by kernel_rfl) rfl (rn_load1 rfl rfl Try.isAgg39 ((TwoP.blk hO331).cell rfl)) ⟨hB334, hk338⟩ (fun a339 h339 => ?_); clear h328
              have hk342 : stN X'119 = stN L'118 := cong_n (fun L => stN_e0 L) (TwoP.eq hO331).symm
              refine d1 32 h339 rfl rfl (op_call (args := #[u'117]) (R := fun res xw => res = .int .i64 ((stN X'119 : Nat) : Int) ∧ Below w329.heap.size w329 xw) rfl rfl rfl (by kernel_rfl) (by kernel_rfl) (Try.call27 _ _) (ritemStamped_any u'117 X'119 w329 (TwoP.sl hO331) (TwoP.okX hO331)) (by rintro e x ⟨rfl, hb343⟩; exact ⟨_, rfl, ⟨rfl, hb343⟩⟩)) ?_ ?_; clear h339
              ·
               rintro _ w341 ⟨rfl, hb343⟩
               have hz344 := hb343.size
               have ho345 := TwoP.ofS hO331
               have hB346 := hb_call hB334 hb343
               have hk347 := hk338.below hb343
               exact ⟨hB346, hk347⟩
              rintro _ w341 a340 ⟨rfl, hb343⟩ h340
              have hz344 := hb343.size
              have ho345 := TwoP.ofS hO331
              have hB346 := hb_call hB334 hb343
              have hk347 := hk338.below hb343
              refine dk0 33 (v := .bool (((stN L'118 : Nat) : Int) != ((stN X'119 : Nat) : Int))) h340 rfl rfl ⟨hB346, hk347⟩ fun a348 h348 => ?_; clear h340
              refine dk0 34 (v := .bool (((stN L'118 : Nat) : Int) != ((stN X'119 : Nat) : Int))) h348 rfl rfl ⟨hB346, hk347⟩ fun a349 h349 => ?_; clear h348
              refine dr_done (by kernel_rfl) ?_
              refine co_then ?_
              have hc350 : (((stN L'118 : Nat) : Int) != ((stN X'119 : Nat) : Int)) = false := by first | (simp; done) | (simp; omega)
              rw [hc350] at h349; clear hc350
              have hO351 := TwoP.gr hO331 (below_grown hb343) (fun k e => by cases e)
              exact ⟨S330, u'117, L'118, X'119, h349.sub ⟨rfl, rfl, rfl, rfl, rfl, rfl, trivial⟩, by exact hlo335, by exact (Grew.off hx332 (Grew.off hx313 (Grew.off hx142 (Grew.off hx122 ho92 hk110.lt) hk129.lt) hk160.lt) hk319.lt), hO351, hk347, hB346⟩
            ·
             refine dr_opVal (i := 31) (v := u'117) h327 rfl rfl rfl rfl (by kernel_rfl) rfl (rn_load1 rfl rfl Try.isAgg39 ((TwoP.blk hO312).cell rfl)) ⟨hB315, hk319⟩ (fun a352 h352 => ?_); clear h327
             refine d1 27 h352 rfl rfl (op_call (args := #[pt N11 0]) (R := fun res xw => ∃ S' : Nat → Prop, res = .int .i64 ((stN L'118 : Nat) : Int) ∧ TwoP S' xw N11 N22 u'117 L'118 X'119 ∧ Grew S311 S' w310 xw) rfl rfl rfl (by kernel_rfl) (by kernel_rfl) (Try.call26 _ _) (wStamped w310 hO312) (by rintro e x ⟨S', h0, h⟩; exact ⟨_, h0, S', rfl, h⟩)) ?_ ?_; clear h352
             ·
              rintro _ w354 ⟨S355, rfl, hO356, hx357⟩
              have hr358 := own_butS hr314 hx313.but (offR_row hq146 hq143 (Nat.le_refl _))
              have hlo360 : ∀ q, S355 q → w.heap.size ≤ q := hx357.lo hlo316 (by omega)
              have hB359 := hbL hB315 hlo316 hx357.but
              have hz361 := hB359.size
              have hz362 := hx357.but.size
              have hk363 := Blk.butS hk319 hx357.but (Grew.off hx313 (Grew.off hx142 (Grew.off hx122 ho92 hk110.lt) hk129.lt) hk160.lt)
              exact ⟨hB359, hk363⟩
             rintro _ w354 a353 ⟨S355, rfl, hO356, hx357⟩ h353
             have hr358 := own_butS hr314 hx313.but (offR_row hq146 hq143 (Nat.le_refl _))
             have hlo360 : ∀ q, S355 q → w.heap.size ≤ q := hx357.lo hlo316 (by omega)
             have hB359 := hbL hB315 hlo316 hx357.but
             have hz361 := hB359.size
             have hz362 := hx357.but.size
             have hk363 := Blk.butS hk319 hx357.but (Grew.off hx313 (Grew.off hx142 (Grew.off hx122 ho92 hk110.lt) hk129.lt) hk160.lt)
             have hk366 : stN X'119 = stN L'118 := cong_n (fun L => stN_e0 L) (TwoP.eq hO356).symm
             refine d1 32 h353 rfl rfl (op_call (args := #[u'117]) (R := fun res xw => res = .int .i64 ((stN X'119 : Nat) : Int) ∧ Below w354.heap.size w354 xw) rfl rfl rfl (by kernel_rfl) (by kernel_rfl) (Try.call27 _ _) (ritemStamped_any u'117 X'119 w354 (TwoP.sl hO356) (TwoP.okX hO356)) (by rintro e x ⟨rfl, hb367⟩; exact ⟨_, rfl, ⟨rfl, hb367⟩⟩)) ?_ ?_; clear h353
             ·
              rintro _ w365 ⟨rfl, hb367⟩
              have hz368 := hb367.size
              have ho369 := TwoP.ofS hO356
              have hB370 := hb_call hB359 hb367
              have hk371 := hk363.below hb367
              exact ⟨hB370, hk371⟩
             rintro _ w365 a364 ⟨rfl, hb367⟩ h364
             have hz368 := hb367.size
             have ho369 := TwoP.ofS hO356
             have hB370 := hb_call hB359 hb367
             have hk371 := hk363.below hb367
             refine dk0 33 (v := .bool (((stN L'118 : Nat) : Int) != ((stN X'119 : Nat) : Int))) h364 rfl rfl ⟨hB370, hk371⟩ fun a372 h372 => ?_; clear h364
             refine dk0 34 (v := .bool (((stN L'118 : Nat) : Int) != ((stN X'119 : Nat) : Int))) h372 rfl rfl ⟨hB370, hk371⟩ fun a373 h373 => ?_; clear h372
             refine dr_done (by kernel_rfl) ?_
             refine co_then ?_
             have hc374 : (((stN L'118 : Nat) : Int) != ((stN X'119 : Nat) : Int)) = false := by first | (simp; done) | (simp; omega)
             rw [hc374] at h373; clear hc374
             have hO375 := TwoP.gr hO356 (below_grown hb367) (fun k e => by cases e)
             exact ⟨S355, u'117, L'118, X'119, h373.sub ⟨rfl, rfl, rfl, rfl, rfl, rfl, trivial⟩, by exact hlo360, by exact (Grew.off hx357 (Grew.off hx313 (Grew.off hx142 (Grew.off hx122 ho92 hk110.lt) hk129.lt) hk160.lt) hk319.lt), hO375, hk371, hB370⟩
        ·
         refine dr_opVal (i := 11) (v := u'117) h135 rfl rfl rfl rfl (by kernel_rfl) rfl (rn_load1 rfl rfl Try.isAgg39 ((TwoP.blk hO121).cell rfl)) ⟨hB123, hk129⟩ (fun a376 h376 => ?_); clear h135
         refine d1 7 h376 rfl rfl (op_call (args := #[pt N11 0]) (R := fun res xw => ∃ L2 : List EntT, ∃ u2 : Value, ∃ S' : Nat → Prop, res = u2 ∧ TwoP S' xw N11 N22 u'117 L'118 X'119 ∧ (xw.ownsRow w115.heap.size 47 4 u2 L2.length (L2.flatMap entE)) ∧ (EntsK (fun _ => False) w115.heap.size xw L2) ∧ (L2.map e0 = L'118.map e0) ∧ (∀ q, S' q → q < w115.heap.size) ∧ Grew S120 S' w115 xw) rfl rfl rfl (by kernel_rfl) (by kernel_rfl) (Try.call24 _ _) (wAll w115 hO121) (by rintro e x ⟨L2, u2, S', h0, h⟩; exact ⟨_, h0, L2, u2, S', rfl, h⟩)) ?_ ?_; clear h376
         ·
          rintro u2380 w378 ⟨L2379, _, S381, rfl, hO382, hq384, hq385, hq386, hq387, hx383⟩
          have hlo389 : ∀ q, S381 q → w.heap.size ≤ q := hx383.lo hlo124 (by omega)
          have hB388 := hbL hB123 hlo124 hx383.but
          have hz390 := hB388.size
          have hz391 := hx383.but.size
          have hl392 := e0_len hq386; have hl392b := TwoP.len hO382
          have hk393 := Blk.butS hk129 hx383.but (Grew.off hx122 ho92 hk110.lt)
          exact ⟨hB388, hk393⟩
         rintro u2380 w378 a377 ⟨L2379, _, S381, rfl, hO382, hq384, hq385, hq386, hq387, hx383⟩ h377
         have hlo389 : ∀ q, S381 q → w.heap.size ≤ q := hx383.lo hlo124 (by omega)
         have hB388 := hbL hB123 hlo124 hx383.but
         have hz390 := hB388.size
         have hz391 := hx383.but.size
         have hl392 := e0_len hq386; have hl392b := TwoP.len hO382
         have hk393 := Blk.butS hk129 hx383.but (Grew.off hx122 ho92 hk110.lt)
         refine d1 12 h377 rfl rfl (op_call (args := #[u2380, u'117]) (R := fun res xw => res = .bool true ∧ Below w378.heap.size w378 xw) rfl rfl rfl (by kernel_rfl) (by kernel_rfl) (Try.call23 _ _) (sameAllE_any u2380 L2379 u'117 X'119 w378 (row_sl hq384 entE_len) (entsK_got hq385) (TwoP.sl hO382) (TwoP.okX hO382) (hq386.trans (TwoP.eq hO382))) (by rintro e x ⟨rfl, hb396⟩; exact ⟨_, rfl, ⟨rfl, hb396⟩⟩)) ?_ ?_; clear h377
         ·
          rintro _ w395 ⟨rfl, hb396⟩
          have hz397 := hb396.size
          have ho398 := TwoP.ofS hO382
          have hB399 := hb_call hB388 hb396
          have hk400 := hk393.below hb396
          exact ⟨hB399, hk400⟩
         rintro _ w395 a394 ⟨rfl, hb396⟩ h394
         have hz397 := hb396.size
         have ho398 := TwoP.ofS hO382
         have hB399 := hb_call hB388 hb396
         have hk400 := hk393.below hb396
         refine dk0 13 (v := .bool false) h394 rfl rfl ⟨hB399, hk400⟩ fun a401 h401 => ?_; clear h394
         refine dk0 14 (v := .bool false) h401 rfl rfl ⟨hB399, hk400⟩ fun a402 h402 => ?_; clear h401
         refine dk0 15 (v := .bool false) h402 rfl rfl ⟨hB399, hk400⟩ fun a403 h403 => ?_; clear h402
         refine dk0 16 (v := pt N11 0) h403 rfl rfl ⟨hB399, hk400⟩ fun a404 h404 => ?_; clear h403
         refine dk0 18 (v := pt N22 0) h404 rfl rfl ⟨hB399, hk400⟩ fun a405 h405 => ?_; clear h404
         refine dk0 19 (v := pt N22 0) h405 rfl rfl ⟨hB399, hk400⟩ fun a406 h406 => ?_; clear h405
         refine dk0 20 (v := pt N22 0) h406 rfl rfl ⟨hB399, hk400⟩ fun a407 h407 => ?_; clear h406
         refine dr_many [17, 21] (by kernel_rfl) (by simp) ⟨?_, ?_, trivial⟩
         ·
          have hO410 := TwoP.gr hO382 (below_grown hb396) (fun k e => by cases e)
          refine dr_op (i := 17) h407 rfl rfl rfl rfl (op_call (args := #[pt N11 0]) (R := fun res xw => ∃ S' : Nat → Prop, res = .int .i64 ((L'118.length : Nat) : Int) ∧ TwoP S' xw N11 N22 u'117 L'118 X'119 ∧ Grew S381 S' w395 xw) rfl rfl rfl (by kernel_rfl) (by kernel_rfl) (Try.call25 _ _) (wLen w395 hO410) (by rintro e x ⟨S', h0, h⟩; exact ⟨_, h0, S', rfl, h⟩)) ?_ ?_; clear h407
          ·
           rintro _ w409 ⟨S411, rfl, hO412, hx413⟩
           have hr414 := row_kept_new hq384 (below_grown hb396)
           have hlo416 : ∀ q, S411 q → w.heap.size ≤ q := hx413.lo hlo389 (by omega)
           have hB415 := hbL hB399 hlo389 hx413.but
           have hz417 := hB415.size
           have hz418 := hx413.but.size
           have hk419 := Blk.butS hk400 hx413.but (Grew.off hx383 (Grew.off hx122 ho92 hk110.lt) hk129.lt)
           exact ⟨hB415, hk419⟩
          rintro _ w409 a408 ⟨S411, rfl, hO412, hx413⟩ h408
          have hr414 := row_kept_new hq384 (below_grown hb396)
          have hlo416 : ∀ q, S411 q → w.heap.size ≤ q := hx413.lo hlo389 (by omega)
          have hB415 := hbL hB399 hlo389 hx413.but
          have hz417 := hB415.size
          have hz418 := hx413.but.size
          have hk419 := Blk.butS hk400 hx413.but (Grew.off hx383 (Grew.off hx122 ho92 hk110.lt) hk129.lt)
          refine dr_many [21] (by kernel_rfl) (by simp) ⟨?_, trivial⟩
          ·
           refine dr_opVal (i := 21) (v := u'117) h408 rfl rfl rfl rfl (by kernel_rfl) rfl (rn_load1 rfl rfl Try.isAgg39 ((TwoP.blk hO412).cell rfl)) ⟨hB415, hk419⟩ (fun a420 h420 => ?_); clear h408
           refine dr_many [22] (by kernel_rfl) (by simp) ⟨?_, trivial⟩
           ·
            refine dr_opVal (i := 22) (v := .int .i64 ((X'119.length : Nat) : Int)) h420 rfl rfl rfl rfl (by kernel_rfl) rfl (rn_len rfl rfl Try.underlying39 (TwoP.sl hO412)) ⟨hB415, hk419⟩ (fun a421 h421 => ?_); clear h420
            refine dk0 23 (v := .bool (((L'118.length : Nat) : Int) != ((X'119.length : Nat) : Int))) h421 rfl rfl ⟨hB415, hk419⟩ fun a422 h422 => ?_; clear h421
            refine dk0 24 (v := .bool (((L'118.length : Nat) : Int) != ((X'119.length : Nat) : Int))) h422 rfl rfl ⟨hB415, hk419⟩ fun a423 h423 => ?_; clear h422
            refine dk0 25 (v := .bool (((L'118.length : Nat) : Int) != ((X'119.length : Nat) : Int))) h423 rfl rfl ⟨hB415, hk419⟩ fun a424 h424 => ?_; clear h423
            have hc425 : (((L'118.length : Nat) : Int) != ((X'119.length : Nat) : Int)) = false := by first | (simp; done) | (simp; omega)
            rw [hc425] at h424; clear hc425
            refine dk0 26 (v := pt N11 0) h424 rfl rfl ⟨hB415, hk419⟩ fun a426 h426 => ?_; clear h424
            refine dk0 28 (v := pt N22 0) h426 rfl rfl ⟨hB415, hk419⟩ fun a427 h427 => ?_; clear h426
            refine dk0 29 (v := pt N22 0) h427 rfl rfl ⟨hB415, hk419⟩ fun a428 h428 => ?_; clear h427
            refine dk0 30 (v := pt N22 0) h428 rfl rfl ⟨hB415, hk419⟩ fun a429 h429 => ?_; clear h428
            refine dr_many [27, 31] (by kernel_rfl) (by simp) ⟨?_, ?_, trivial⟩
            ·
             refine dr_op (i := 27) h429 rfl rfl rfl rfl (op_call (args := #[pt N11 0]) (R := fun res xw => ∃ S' : Nat → Prop, res = .int .i64 ((stN L'118 : Nat) : Int) ∧ TwoP S' xw N11 N22 u'117 L'118 X'119 ∧ Grew S411 S' w409 xw) rfl rfl rfl (by kernel_rfl) (by kernel_rfl) (Try.call26 _ _) (wStamped w409 hO412) (by rintro e x ⟨S', h0, h⟩; exact ⟨_, h0, S', rfl, h⟩)) ?_ ?_; clear h429
             ·
              rintro _ w431 ⟨S432, rfl, hO433, hx434⟩
              have hr435 := own_butS hr414 hx413.but (offR_row hq387 hq384 (Nat.le_refl _))
              have hlo437 : ∀ q, S432 q → w.heap.size ≤ q := hx434.lo hlo416 (by omega)
              have hB436 := hbL hB415 hlo416 hx434.but
              have hz438 := hB436.size
              have hz439 := hx434.but.size
              have hk440 := Blk.butS hk419 hx434.but (Grew.off hx413 (Grew.off hx383 (Grew.off hx122 ho92 hk110.lt) hk129.lt) hk400.lt)
              exact ⟨hB436, hk440⟩
             rintro _ w431 a430 ⟨S432, rfl, hO433, hx434⟩ h430
             have hr435 := own_butS hr414 hx413.but (offR_row hq387 hq384 (Nat.le_refl _))
             have hlo437 : ∀ q, S432 q → w.heap.size ≤ q := hx434.lo hlo416 (by omega)
             have hB436 := hbL hB415 hlo416 hx434.but
             have hz438 := hB436.size
             have hz439 := hx434.but.size
             have hk440 := Blk.butS hk419 hx434.but (Grew.off hx413 (Grew.off hx383 (Grew.off hx122 ho92 hk110.lt) hk129.lt) hk400.lt)
             refine dr_many [31] (by kernel_rfl) (by simp) ⟨?_, trivial⟩
             ·
              refine dr_opVal (i := 31) (v := u'117) h430 rfl rfl rfl rfl (by kernel_rfl) rfl (rn_load1 rfl rfl Try.isAgg39 ((TwoP.blk hO433).cell rfl)) ⟨hB436, hk440⟩ (fun a441 h441 => ?_); clear h430
              have hk444 : stN X'119 = stN L'118 := cong_n (fun L => stN_e0 L) (TwoP.eq hO433).symm
              refine d1 32 h441 rfl rfl (op_call (args := #[u'117]) (R := fun res xw => res = .int .i64 ((stN X'119 : Nat) : Int) ∧ Below w431.heap.size w431 xw) rfl rfl rfl (by kernel_rfl) (by kernel_rfl) (Try.call27 _ _) (ritemStamped_any u'117 X'119 w431 (TwoP.sl hO433) (TwoP.okX hO433)) (by rintro e x ⟨rfl, hb445⟩; exact ⟨_, rfl, ⟨rfl, hb445⟩⟩)) ?_ ?_; clear h441
              ·
               rintro _ w443 ⟨rfl, hb445⟩
               have hz446 := hb445.size
               have ho447 := TwoP.ofS hO433
               have hB448 := hb_call hB436 hb445
               have hk449 := hk440.below hb445
               exact ⟨hB448, hk449⟩
              rintro _ w443 a442 ⟨rfl, hb445⟩ h442
              have hz446 := hb445.size
              have ho447 := TwoP.ofS hO433
              have hB448 := hb_call hB436 hb445
              have hk449 := hk440.below hb445
              refine dk0 33 (v := .bool (((stN L'118 : Nat) : Int) != ((stN X'119 : Nat) : Int))) h442 rfl rfl ⟨hB448, hk449⟩ fun a450 h450 => ?_; clear h442
              refine dk0 34 (v := .bool (((stN L'118 : Nat) : Int) != ((stN X'119 : Nat) : Int))) h450 rfl rfl ⟨hB448, hk449⟩ fun a451 h451 => ?_; clear h450
              refine dr_done (by kernel_rfl) ?_
              refine co_then ?_
              have hc452 : (((stN L'118 : Nat) : Int) != ((stN X'119 : Nat) : Int)) = false := by first | (simp; done) | (simp; omega)
              rw [hc452] at h451; clear hc452
              have hO453 := TwoP.gr hO433 (below_grown hb445) (fun k e => by cases e)
              exact ⟨S432, u'117, L'118, X'119, h451.sub ⟨rfl, rfl, rfl, rfl, rfl, rfl, trivial⟩, by exact hlo437, by exact (Grew.off hx434 (Grew.off hx413 (Grew.off hx383 (Grew.off hx122 ho92 hk110.lt) hk129.lt) hk400.lt) hk419.lt), hO453, hk449, hB448⟩
            ·
             refine dr_opVal (i := 31) (v := u'117) h429 rfl rfl rfl rfl (by kernel_rfl) rfl (rn_load1 rfl rfl Try.isAgg39 ((TwoP.blk hO412).cell rfl)) ⟨hB415, hk419⟩ (fun a454 h454 => ?_); clear h429
             refine d1 27 h454 rfl rfl (op_call (args := #[pt N11 0]) (R := fun res xw => ∃ S' : Nat → Prop, res = .int .i64 ((stN L'118 : Nat) : Int) ∧ TwoP S' xw N11 N22 u'117 L'118 X'119 ∧ Grew S411 S' w409 xw) rfl rfl rfl (by kernel_rfl) (by kernel_rfl) (Try.call26 _ _) (wStamped w409 hO412) (by rintro e x ⟨S', h0, h⟩; exact ⟨_, h0, S', rfl, h⟩)) ?_ ?_; clear h454
             ·
              rintro _ w456 ⟨S457, rfl, hO458, hx459⟩
              have hr460 := own_butS hr414 hx413.but (offR_row hq387 hq384 (Nat.le_refl _))
              have hlo462 : ∀ q, S457 q → w.heap.size ≤ q := hx459.lo hlo416 (by omega)
              have hB461 := hbL hB415 hlo416 hx459.but
              have hz463 := hB461.size
              have hz464 := hx459.but.size
              have hk465 := Blk.butS hk419 hx459.but (Grew.off hx413 (Grew.off hx383 (Grew.off hx122 ho92 hk110.lt) hk129.lt) hk400.lt)
              exact ⟨hB461, hk465⟩
             rintro _ w456 a455 ⟨S457, rfl, hO458, hx459⟩ h455
             have hr460 := own_butS hr414 hx413.but (offR_row hq387 hq384 (Nat.le_refl _))
             have hlo462 : ∀ q, S457 q → w.heap.size ≤ q := hx459.lo hlo416 (by omega)
             have hB461 := hbL hB415 hlo416 hx459.but
             have hz463 := hB461.size
             have hz464 := hx459.but.size
             have hk465 := Blk.butS hk419 hx459.but (Grew.off hx413 (Grew.off hx383 (Grew.off hx122 ho92 hk110.lt) hk129.lt) hk400.lt)
             have hk468 : stN X'119 = stN L'118 := cong_n (fun L => stN_e0 L) (TwoP.eq hO458).symm
             refine d1 32 h455 rfl rfl (op_call (args := #[u'117]) (R := fun res xw => res = .int .i64 ((stN X'119 : Nat) : Int) ∧ Below w456.heap.size w456 xw) rfl rfl rfl (by kernel_rfl) (by kernel_rfl) (Try.call27 _ _) (ritemStamped_any u'117 X'119 w456 (TwoP.sl hO458) (TwoP.okX hO458)) (by rintro e x ⟨rfl, hb469⟩; exact ⟨_, rfl, ⟨rfl, hb469⟩⟩)) ?_ ?_; clear h455
             ·
              rintro _ w467 ⟨rfl, hb469⟩
              have hz470 := hb469.size
              have ho471 := TwoP.ofS hO458
              have hB472 := hb_call hB461 hb469
              have hk473 := hk465.below hb469
              exact ⟨hB472, hk473⟩
             rintro _ w467 a466 ⟨rfl, hb469⟩ h466
             have hz470 := hb469.size
             have ho471 := TwoP.ofS hO458
             have hB472 := hb_call hB461 hb469
             have hk473 := hk465.below hb469
             refine dk0 33 (v := .bool (((stN L'118 : Nat) : Int) != ((stN X'119 : Nat) : Int))) h466 rfl rfl ⟨hB472, hk473⟩ fun a474 h474 => ?_; clear h466
             refine dk0 34 (v := .bool (((stN L'118 : Nat) : Int) != ((stN X'119 : Nat) : Int))) h474 rfl rfl ⟨hB472, hk473⟩ fun a475 h475 => ?_; clear h474
             refine dr_done (by kernel_rfl) ?_
             refine co_then ?_
             have hc476 : (((stN L'118 : Nat) : Int) != ((stN X'119 : Nat) : Int)) = false := by first | (simp; done) | (simp; omega)
             rw [hc476] at h475; clear hc476
             have hO477 := TwoP.gr hO458 (below_grown hb469) (fun k e => by cases e)
             exact ⟨S457, u'117, L'118, X'119, h475.sub ⟨rfl, rfl, rfl, rfl, rfl, rfl, trivial⟩, by exact hlo462, by exact (Grew.off hx459 (Grew.off hx413 (Grew.off hx383 (Grew.off hx122 ho92 hk110.lt) hk129.lt) hk400.lt) hk419.lt), hO477, hk473, hB472⟩
         ·
          have hO478 := TwoP.gr hO382 (below_grown hb396) (fun k e => by cases e)
          refine dr_opVal (i := 21) (v := u'117) h407 rfl rfl rfl rfl (by kernel_rfl) rfl (rn_load1 rfl rfl Try.isAgg39 ((TwoP.blk hO478).cell rfl)) ⟨hB399, hk400⟩ (fun a479 h479 => ?_); clear h407
          refine dr_many [17, 22] (by kernel_rfl) (by simp) ⟨?_, ?_, trivial⟩
          ·
           refine dr_op (i := 17) h479 rfl rfl rfl rfl (op_call (args := #[pt N11 0]) (R := fun res xw => ∃ S' : Nat → Prop, res = .int .i64 ((L'118.length : Nat) : Int) ∧ TwoP S' xw N11 N22 u'117 L'118 X'119 ∧ Grew S381 S' w395 xw) rfl rfl rfl (by kernel_rfl) (by kernel_rfl) (Try.call25 _ _) (wLen w395 hO478) (by rintro e x ⟨S', h0, h⟩; exact ⟨_, h0, S', rfl, h⟩)) ?_ ?_; clear h479
           ·
            rintro _ w481 ⟨S482, rfl, hO483, hx484⟩
            have hr485 := row_kept_new hq384 (below_grown hb396)
            have hlo487 : ∀ q, S482 q → w.heap.size ≤ q := hx484.lo hlo389 (by omega)
            have hB486 := hbL hB399 hlo389 hx484.but
            have hz488 := hB486.size
            have hz489 := hx484.but.size
            have hk490 := Blk.butS hk400 hx484.but (Grew.off hx383 (Grew.off hx122 ho92 hk110.lt) hk129.lt)
            exact ⟨hB486, hk490⟩
           rintro _ w481 a480 ⟨S482, rfl, hO483, hx484⟩ h480
           have hr485 := row_kept_new hq384 (below_grown hb396)
           have hlo487 : ∀ q, S482 q → w.heap.size ≤ q := hx484.lo hlo389 (by omega)
           have hB486 := hbL hB399 hlo389 hx484.but
           have hz488 := hB486.size
           have hz489 := hx484.but.size
           have hk490 := Blk.butS hk400 hx484.but (Grew.off hx383 (Grew.off hx122 ho92 hk110.lt) hk129.lt)
           refine dr_many [22] (by kernel_rfl) (by simp) ⟨?_, trivial⟩
           ·
            refine dr_opVal (i := 22) (v := .int .i64 ((X'119.length : Nat) : Int)) h480 rfl rfl rfl rfl (by kernel_rfl) rfl (rn_len rfl rfl Try.underlying39 (TwoP.sl hO483)) ⟨hB486, hk490⟩ (fun a491 h491 => ?_); clear h480
            refine dk0 23 (v := .bool (((L'118.length : Nat) : Int) != ((X'119.length : Nat) : Int))) h491 rfl rfl ⟨hB486, hk490⟩ fun a492 h492 => ?_; clear h491
            refine dk0 24 (v := .bool (((L'118.length : Nat) : Int) != ((X'119.length : Nat) : Int))) h492 rfl rfl ⟨hB486, hk490⟩ fun a493 h493 => ?_; clear h492
            refine dk0 25 (v := .bool (((L'118.length : Nat) : Int) != ((X'119.length : Nat) : Int))) h493 rfl rfl ⟨hB486, hk490⟩ fun a494 h494 => ?_; clear h493
            have hc495 : (((L'118.length : Nat) : Int) != ((X'119.length : Nat) : Int)) = false := by first | (simp; done) | (simp; omega)
            rw [hc495] at h494; clear hc495
            refine dk0 26 (v := pt N11 0) h494 rfl rfl ⟨hB486, hk490⟩ fun a496 h496 => ?_; clear h494
            refine dk0 28 (v := pt N22 0) h496 rfl rfl ⟨hB486, hk490⟩ fun a497 h497 => ?_; clear h496
            refine dk0 29 (v := pt N22 0) h497 rfl rfl ⟨hB486, hk490⟩ fun a498 h498 => ?_; clear h497
            refine dk0 30 (v := pt N22 0) h498 rfl rfl ⟨hB486, hk490⟩ fun a499 h499 => ?_; clear h498
            refine dr_many [27, 31] (by kernel_rfl) (by simp) ⟨?_, ?_, trivial⟩
            ·
             refine dr_op (i := 27) h499 rfl rfl rfl rfl (op_call (args := #[pt N11 0]) (R := fun res xw => ∃ S' : Nat → Prop, res = .int .i64 ((stN L'118 : Nat) : Int) ∧ TwoP S' xw N11 N22 u'117 L'118 X'119 ∧ Grew S482 S' w481 xw) rfl rfl rfl (by kernel_rfl) (by kernel_rfl) (Try.call26 _ _) (wStamped w481 hO483) (by rintro e x ⟨S', h0, h⟩; exact ⟨_, h0, S', rfl, h⟩)) ?_ ?_; clear h499
             ·
              rintro _ w501 ⟨S502, rfl, hO503, hx504⟩
              have hr505 := own_butS hr485 hx484.but (offR_row hq387 hq384 (Nat.le_refl _))
              have hlo507 : ∀ q, S502 q → w.heap.size ≤ q := hx504.lo hlo487 (by omega)
              have hB506 := hbL hB486 hlo487 hx504.but
              have hz508 := hB506.size
              have hz509 := hx504.but.size
              have hk510 := Blk.butS hk490 hx504.but (Grew.off hx484 (Grew.off hx383 (Grew.off hx122 ho92 hk110.lt) hk129.lt) hk400.lt)
              exact ⟨hB506, hk510⟩
             rintro _ w501 a500 ⟨S502, rfl, hO503, hx504⟩ h500
             have hr505 := own_butS hr485 hx484.but (offR_row hq387 hq384 (Nat.le_refl _))
             have hlo507 : ∀ q, S502 q → w.heap.size ≤ q := hx504.lo hlo487 (by omega)
             have hB506 := hbL hB486 hlo487 hx504.but
             have hz508 := hB506.size
             have hz509 := hx504.but.size
             have hk510 := Blk.butS hk490 hx504.but (Grew.off hx484 (Grew.off hx383 (Grew.off hx122 ho92 hk110.lt) hk129.lt) hk400.lt)
             refine dr_many [31] (by kernel_rfl) (by simp) ⟨?_, trivial⟩
             ·
              refine dr_opVal (i := 31) (v := u'117) h500 rfl rfl rfl rfl (by kernel_rfl) rfl (rn_load1 rfl rfl Try.isAgg39 ((TwoP.blk hO503).cell rfl)) ⟨hB506, hk510⟩ (fun a511 h511 => ?_); clear h500
              have hk514 : stN X'119 = stN L'118 := cong_n (fun L => stN_e0 L) (TwoP.eq hO503).symm
              refine d1 32 h511 rfl rfl (op_call (args := #[u'117]) (R := fun res xw => res = .int .i64 ((stN X'119 : Nat) : Int) ∧ Below w501.heap.size w501 xw) rfl rfl rfl (by kernel_rfl) (by kernel_rfl) (Try.call27 _ _) (ritemStamped_any u'117 X'119 w501 (TwoP.sl hO503) (TwoP.okX hO503)) (by rintro e x ⟨rfl, hb515⟩; exact ⟨_, rfl, ⟨rfl, hb515⟩⟩)) ?_ ?_; clear h511
              ·
               rintro _ w513 ⟨rfl, hb515⟩
               have hz516 := hb515.size
               have ho517 := TwoP.ofS hO503
               have hB518 := hb_call hB506 hb515
               have hk519 := hk510.below hb515
               exact ⟨hB518, hk519⟩
              rintro _ w513 a512 ⟨rfl, hb515⟩ h512
              have hz516 := hb515.size
              have ho517 := TwoP.ofS hO503
              have hB518 := hb_call hB506 hb515
              have hk519 := hk510.below hb515
              refine dk0 33 (v := .bool (((stN L'118 : Nat) : Int) != ((stN X'119 : Nat) : Int))) h512 rfl rfl ⟨hB518, hk519⟩ fun a520 h520 => ?_; clear h512
              refine dk0 34 (v := .bool (((stN L'118 : Nat) : Int) != ((stN X'119 : Nat) : Int))) h520 rfl rfl ⟨hB518, hk519⟩ fun a521 h521 => ?_; clear h520
              refine dr_done (by kernel_rfl) ?_
              refine co_then ?_
              have hc522 : (((stN L'118 : Nat) : Int) != ((stN X'119 : Nat) : Int)) = false := by first | (simp; done) | (simp; omega)
              rw [hc522] at h521; clear hc522
              have hO523 := TwoP.gr hO503 (below_grown hb515) (fun k e => by cases e)
              exact ⟨S502, u'117, L'118, X'119, h521.sub ⟨rfl, rfl, rfl, rfl, rfl, rfl, trivial⟩, by exact hlo507, by exact (Grew.off hx504 (Grew.off hx484 (Grew.off hx383 (Grew.off hx122 ho92 hk110.lt) hk129.lt) hk400.lt) hk490.lt), hO523, hk519, hB518⟩
            ·
             refine dr_opVal (i := 31) (v := u'117) h499 rfl rfl rfl rfl (by kernel_rfl) rfl (rn_load1 rfl rfl Try.isAgg39 ((TwoP.blk hO483).cell rfl)) ⟨hB486, hk490⟩ (fun a524 h524 => ?_); clear h499
             refine d1 27 h524 rfl rfl (op_call (args := #[pt N11 0]) (R := fun res xw => ∃ S' : Nat → Prop, res = .int .i64 ((stN L'118 : Nat) : Int) ∧ TwoP S' xw N11 N22 u'117 L'118 X'119 ∧ Grew S482 S' w481 xw) rfl rfl rfl (by kernel_rfl) (by kernel_rfl) (Try.call26 _ _) (wStamped w481 hO483) (by rintro e x ⟨S', h0, h⟩; exact ⟨_, h0, S', rfl, h⟩)) ?_ ?_; clear h524
             ·
              rintro _ w526 ⟨S527, rfl, hO528, hx529⟩
              have hr530 := own_butS hr485 hx484.but (offR_row hq387 hq384 (Nat.le_refl _))
              have hlo532 : ∀ q, S527 q → w.heap.size ≤ q := hx529.lo hlo487 (by omega)
              have hB531 := hbL hB486 hlo487 hx529.but
              have hz533 := hB531.size
              have hz534 := hx529.but.size
              have hk535 := Blk.butS hk490 hx529.but (Grew.off hx484 (Grew.off hx383 (Grew.off hx122 ho92 hk110.lt) hk129.lt) hk400.lt)
              exact ⟨hB531, hk535⟩
             rintro _ w526 a525 ⟨S527, rfl, hO528, hx529⟩ h525
             have hr530 := own_butS hr485 hx484.but (offR_row hq387 hq384 (Nat.le_refl _))
             have hlo532 : ∀ q, S527 q → w.heap.size ≤ q := hx529.lo hlo487 (by omega)
             have hB531 := hbL hB486 hlo487 hx529.but
             have hz533 := hB531.size
             have hz534 := hx529.but.size
             have hk535 := Blk.butS hk490 hx529.but (Grew.off hx484 (Grew.off hx383 (Grew.off hx122 ho92 hk110.lt) hk129.lt) hk400.lt)
             have hk538 : stN X'119 = stN L'118 := cong_n (fun L => stN_e0 L) (TwoP.eq hO528).symm
             refine d1 32 h525 rfl rfl (op_call (args := #[u'117]) (R := fun res xw => res = .int .i64 ((stN X'119 : Nat) : Int) ∧ Below w526.heap.size w526 xw) rfl rfl rfl (by kernel_rfl) (by kernel_rfl) (Try.call27 _ _) (ritemStamped_any u'117 X'119 w526 (TwoP.sl hO528) (TwoP.okX hO528)) (by rintro e x ⟨rfl, hb539⟩; exact ⟨_, rfl, ⟨rfl, hb539⟩⟩)) ?_ ?_; clear h525
             ·
              rintro _ w537 ⟨rfl, hb539⟩
              have hz540 := hb539.size
              have ho541 := TwoP.ofS hO528
              have hB542 := hb_call hB531 hb539
              have hk543 := hk535.below hb539
              exact ⟨hB542, hk543⟩
             rintro _ w537 a536 ⟨rfl, hb539⟩ h536
             have hz540 := hb539.size
             have ho541 := TwoP.ofS hO528
             have hB542 := hb_call hB531 hb539
             have hk543 := hk535.below hb539
             refine dk0 33 (v := .bool (((stN L'118 : Nat) : Int) != ((stN X'119 : Nat) : Int))) h536 rfl rfl ⟨hB542, hk543⟩ fun a544 h544 => ?_; clear h536
             refine dk0 34 (v := .bool (((stN L'118 : Nat) : Int) != ((stN X'119 : Nat) : Int))) h544 rfl rfl ⟨hB542, hk543⟩ fun a545 h545 => ?_; clear h544
             refine dr_done (by kernel_rfl) ?_
             refine co_then ?_
             have hc546 : (((stN L'118 : Nat) : Int) != ((stN X'119 : Nat) : Int)) = false := by first | (simp; done) | (simp; omega)
             rw [hc546] at h545; clear hc546
             have hO547 := TwoP.gr hO528 (below_grown hb539) (fun k e => by cases e)
             exact ⟨S527, u'117, L'118, X'119, h545.sub ⟨rfl, rfl, rfl, rfl, rfl, rfl, trivial⟩, by exact hlo532, by exact (Grew.off hx529 (Grew.off hx484 (Grew.off hx383 (Grew.off hx122 ho92 hk110.lt) hk129.lt) hk400.lt) hk490.lt), hO547, hk543, hB542⟩
          ·
           refine dr_opVal (i := 22) (v := .int .i64 ((X'119.length : Nat) : Int)) h479 rfl rfl rfl rfl (by kernel_rfl) rfl (rn_len rfl rfl Try.underlying39 (TwoP.sl hO478)) ⟨hB399, hk400⟩ (fun a548 h548 => ?_); clear h479
           refine d1 17 h548 rfl rfl (op_call (args := #[pt N11 0]) (R := fun res xw => ∃ S' : Nat → Prop, res = .int .i64 ((L'118.length : Nat) : Int) ∧ TwoP S' xw N11 N22 u'117 L'118 X'119 ∧ Grew S381 S' w395 xw) rfl rfl rfl (by kernel_rfl) (by kernel_rfl) (Try.call25 _ _) (wLen w395 hO478) (by rintro e x ⟨S', h0, h⟩; exact ⟨_, h0, S', rfl, h⟩)) ?_ ?_; clear h548
           ·
            rintro _ w550 ⟨S551, rfl, hO552, hx553⟩
            have hr554 := row_kept_new hq384 (below_grown hb396)
            have hlo556 : ∀ q, S551 q → w.heap.size ≤ q := hx553.lo hlo389 (by omega)
            have hB555 := hbL hB399 hlo389 hx553.but
            have hz557 := hB555.size
            have hz558 := hx553.but.size
            have hk559 := Blk.butS hk400 hx553.but (Grew.off hx383 (Grew.off hx122 ho92 hk110.lt) hk129.lt)
            exact ⟨hB555, hk559⟩
           rintro _ w550 a549 ⟨S551, rfl, hO552, hx553⟩ h549
           have hr554 := row_kept_new hq384 (below_grown hb396)
           have hlo556 : ∀ q, S551 q → w.heap.size ≤ q := hx553.lo hlo389 (by omega)
           have hB555 := hbL hB399 hlo389 hx553.but
           have hz557 := hB555.size
           have hz558 := hx553.but.size
           have hk559 := Blk.butS hk400 hx553.but (Grew.off hx383 (Grew.off hx122 ho92 hk110.lt) hk129.lt)
           refine dk0 23 (v := .bool (((L'118.length : Nat) : Int) != ((X'119.length : Nat) : Int))) h549 rfl rfl ⟨hB555, hk559⟩ fun a560 h560 => ?_; clear h549
           refine dk0 24 (v := .bool (((L'118.length : Nat) : Int) != ((X'119.length : Nat) : Int))) h560 rfl rfl ⟨hB555, hk559⟩ fun a561 h561 => ?_; clear h560
           refine dk0 25 (v := .bool (((L'118.length : Nat) : Int) != ((X'119.length : Nat) : Int))) h561 rfl rfl ⟨hB555, hk559⟩ fun a562 h562 => ?_; clear h561
           have hc563 : (((L'118.length : Nat) : Int) != ((X'119.length : Nat) : Int)) = false := by first | (simp; done) | (simp; omega)
           rw [hc563] at h562; clear hc563
           refine dk0 26 (v := pt N11 0) h562 rfl rfl ⟨hB555, hk559⟩ fun a564 h564 => ?_; clear h562
           refine dk0 28 (v := pt N22 0) h564 rfl rfl ⟨hB555, hk559⟩ fun a565 h565 => ?_; clear h564
           refine dk0 29 (v := pt N22 0) h565 rfl rfl ⟨hB555, hk559⟩ fun a566 h566 => ?_; clear h565
           refine dk0 30 (v := pt N22 0) h566 rfl rfl ⟨hB555, hk559⟩ fun a567 h567 => ?_; clear h566
           refine dr_many [27, 31] (by kernel_rfl) (by simp) ⟨?_, ?_, trivial⟩
           ·
            refine dr_op (i := 27) h567 rfl rfl rfl rfl (op_call (args := #[pt N11 0]) (R := fun res xw => ∃ S' : Nat → Prop, res = .int .i64 ((stN L'118 : Nat) : Int) ∧ TwoP S' xw N11 N22 u'117 L'118 X'119 ∧ Grew S551 S' w550 xw) rfl rfl rfl (by kernel_rfl) (by kernel_rfl) (Try.call26 _ _) (wStamped w550 hO552) (by rintro e x ⟨S', h0, h⟩; exact ⟨_, h0, S', rfl, h⟩)) ?_ ?_; clear h567
            ·
             rintro _ w569 ⟨S570, rfl, hO571, hx572⟩
             have hr573 := own_butS hr554 hx553.but (offR_row hq387 hq384 (Nat.le_refl _))
             have hlo575 : ∀ q, S570 q → w.heap.size ≤ q := hx572.lo hlo556 (by omega)
             have hB574 := hbL hB555 hlo556 hx572.but
             have hz576 := hB574.size
             have hz577 := hx572.but.size
             have hk578 := Blk.butS hk559 hx572.but (Grew.off hx553 (Grew.off hx383 (Grew.off hx122 ho92 hk110.lt) hk129.lt) hk400.lt)
             exact ⟨hB574, hk578⟩
            rintro _ w569 a568 ⟨S570, rfl, hO571, hx572⟩ h568
            have hr573 := own_butS hr554 hx553.but (offR_row hq387 hq384 (Nat.le_refl _))
            have hlo575 : ∀ q, S570 q → w.heap.size ≤ q := hx572.lo hlo556 (by omega)
            have hB574 := hbL hB555 hlo556 hx572.but
            have hz576 := hB574.size
            have hz577 := hx572.but.size
            have hk578 := Blk.butS hk559 hx572.but (Grew.off hx553 (Grew.off hx383 (Grew.off hx122 ho92 hk110.lt) hk129.lt) hk400.lt)
            refine dr_many [31] (by kernel_rfl) (by simp) ⟨?_, trivial⟩
            ·
             refine dr_opVal (i := 31) (v := u'117) h568 rfl rfl rfl rfl (by kernel_rfl) rfl (rn_load1 rfl rfl Try.isAgg39 ((TwoP.blk hO571).cell rfl)) ⟨hB574, hk578⟩ (fun a579 h579 => ?_); clear h568
             have hk582 : stN X'119 = stN L'118 := cong_n (fun L => stN_e0 L) (TwoP.eq hO571).symm
             refine d1 32 h579 rfl rfl (op_call (args := #[u'117]) (R := fun res xw => res = .int .i64 ((stN X'119 : Nat) : Int) ∧ Below w569.heap.size w569 xw) rfl rfl rfl (by kernel_rfl) (by kernel_rfl) (Try.call27 _ _) (ritemStamped_any u'117 X'119 w569 (TwoP.sl hO571) (TwoP.okX hO571)) (by rintro e x ⟨rfl, hb583⟩; exact ⟨_, rfl, ⟨rfl, hb583⟩⟩)) ?_ ?_; clear h579
             ·
              rintro _ w581 ⟨rfl, hb583⟩
              have hz584 := hb583.size
              have ho585 := TwoP.ofS hO571
              have hB586 := hb_call hB574 hb583
              have hk587 := hk578.below hb583
              exact ⟨hB586, hk587⟩
             rintro _ w581 a580 ⟨rfl, hb583⟩ h580
             have hz584 := hb583.size
             have ho585 := TwoP.ofS hO571
             have hB586 := hb_call hB574 hb583
             have hk587 := hk578.below hb583
             refine dk0 33 (v := .bool (((stN L'118 : Nat) : Int) != ((stN X'119 : Nat) : Int))) h580 rfl rfl ⟨hB586, hk587⟩ fun a588 h588 => ?_; clear h580
             refine dk0 34 (v := .bool (((stN L'118 : Nat) : Int) != ((stN X'119 : Nat) : Int))) h588 rfl rfl ⟨hB586, hk587⟩ fun a589 h589 => ?_; clear h588
             refine dr_done (by kernel_rfl) ?_
             refine co_then ?_
             have hc590 : (((stN L'118 : Nat) : Int) != ((stN X'119 : Nat) : Int)) = false := by first | (simp; done) | (simp; omega)
             rw [hc590] at h589; clear hc590
             have hO591 := TwoP.gr hO571 (below_grown hb583) (fun k e => by cases e)
             exact ⟨S570, u'117, L'118, X'119, h589.sub ⟨rfl, rfl, rfl, rfl, rfl, rfl, trivial⟩, by exact hlo575, by exact (Grew.off hx572 (Grew.off hx553 (Grew.off hx383 (Grew.off hx122 ho92 hk110.lt) hk129.lt) hk400.lt) hk559.lt), hO591, hk587, hB586⟩
           ·
            refine dr_opVal (i := 31) (v := u'117) h567 rfl rfl rfl rfl (by kernel_rfl) rfl (rn_load1 rfl rfl Try.isAgg39 ((TwoP.blk hO552).cell rfl)) ⟨hB555, hk559⟩ (fun a592 h592 => ?_); clear h567
            refine d1 27 h592 rfl rfl (op_call (args := #[pt N11 0]) (R := fun res xw => ∃ S' : Nat → Prop, res = .int .i64 ((stN L'118 : Nat) : Int) ∧ TwoP S' xw N11 N22 u'117 L'118 X'119 ∧ Grew S551 S' w550 xw) rfl rfl rfl (by kernel_rfl) (by kernel_rfl) (Try.call26 _ _) (wStamped w550 hO552) (by rintro e x ⟨S', h0, h⟩; exact ⟨_, h0, S', rfl, h⟩)) ?_ ?_; clear h592
            ·
             rintro _ w594 ⟨S595, rfl, hO596, hx597⟩
             have hr598 := own_butS hr554 hx553.but (offR_row hq387 hq384 (Nat.le_refl _))
             have hlo600 : ∀ q, S595 q → w.heap.size ≤ q := hx597.lo hlo556 (by omega)
             have hB599 := hbL hB555 hlo556 hx597.but
             have hz601 := hB599.size
             have hz602 := hx597.but.size
             have hk603 := Blk.butS hk559 hx597.but (Grew.off hx553 (Grew.off hx383 (Grew.off hx122 ho92 hk110.lt) hk129.lt) hk400.lt)
             exact ⟨hB599, hk603⟩
            rintro _ w594 a593 ⟨S595, rfl, hO596, hx597⟩ h593
            have hr598 := own_butS hr554 hx553.but (offR_row hq387 hq384 (Nat.le_refl _))
            have hlo600 : ∀ q, S595 q → w.heap.size ≤ q := hx597.lo hlo556 (by omega)
            have hB599 := hbL hB555 hlo556 hx597.but
            have hz601 := hB599.size
            have hz602 := hx597.but.size
            have hk603 := Blk.butS hk559 hx597.but (Grew.off hx553 (Grew.off hx383 (Grew.off hx122 ho92 hk110.lt) hk129.lt) hk400.lt)
            have hk606 : stN X'119 = stN L'118 := cong_n (fun L => stN_e0 L) (TwoP.eq hO596).symm
            refine d1 32 h593 rfl rfl (op_call (args := #[u'117]) (R := fun res xw => res = .int .i64 ((stN X'119 : Nat) : Int) ∧ Below w594.heap.size w594 xw) rfl rfl rfl (by kernel_rfl) (by kernel_rfl) (Try.call27 _ _) (ritemStamped_any u'117 X'119 w594 (TwoP.sl hO596) (TwoP.okX hO596)) (by rintro e x ⟨rfl, hb607⟩; exact ⟨_, rfl, ⟨rfl, hb607⟩⟩)) ?_ ?_; clear h593
            ·
             rintro _ w605 ⟨rfl, hb607⟩
             have hz608 := hb607.size
             have ho609 := TwoP.ofS hO596
             have hB610 := hb_call hB599 hb607
             have hk611 := hk603.below hb607
             exact ⟨hB610, hk611⟩
            rintro _ w605 a604 ⟨rfl, hb607⟩ h604
            have hz608 := hb607.size
            have ho609 := TwoP.ofS hO596
            have hB610 := hb_call hB599 hb607
            have hk611 := hk603.below hb607
            refine dk0 33 (v := .bool (((stN L'118 : Nat) : Int) != ((stN X'119 : Nat) : Int))) h604 rfl rfl ⟨hB610, hk611⟩ fun a612 h612 => ?_; clear h604
            refine dk0 34 (v := .bool (((stN L'118 : Nat) : Int) != ((stN X'119 : Nat) : Int))) h612 rfl rfl ⟨hB610, hk611⟩ fun a613 h613 => ?_; clear h612
            refine dr_done (by kernel_rfl) ?_
            refine co_then ?_
            have hc614 : (((stN L'118 : Nat) : Int) != ((stN X'119 : Nat) : Int)) = false := by first | (simp; done) | (simp; omega)
            rw [hc614] at h613; clear hc614
            have hO615 := TwoP.gr hO596 (below_grown hb607) (fun k e => by cases e)
            exact ⟨S595, u'117, L'118, X'119, h613.sub ⟨rfl, rfl, rfl, rfl, rfl, rfl, trivial⟩, by exact hlo600, by exact (Grew.off hx597 (Grew.off hx553 (Grew.off hx383 (Grew.off hx122 ho92 hk110.lt) hk129.lt) hk400.lt) hk559.lt), hO615, hk611, hB610⟩
       rintro a616 w617 ⟨S9, u9, L9, X9, h616, hi618, hi619, hf620, hf621, hB622⟩
       have hz623 := hB622.size
       have hl624 := hf621.lt
       have hk625 : X9.length = L9.length := TwoP.lenE hf620
       have hk626 : L9.length ≤ 100 := TwoP.len hf620
       refine co_false h616 rfl ?_
       refine wp_skip ?_
       refine co_then ?_
       refine co_seq ?_
       refine co_reg ?_
       refine pk0 (v := pt N11 0) h616 rfl fun a627 h627 => ?_; clear h616
       refine pk0 (v := pt N86 1) h627 rfl fun a628 h628 => ?_; clear h627
       refine pk (v := .int .i64 y79.i) h628 rfl (rn_load1 rfl rfl Try.isAgg3 (hf621.cell rfl)) fun a629 h629 => ?_; clear h628
       refine pw h629 rfl (op_call (args := #[pt N11 0, .int .i64 y79.i]) (R := fun res xw => ∃ ev : Value, ∃ S' : Nat → Prop, res = .tuple #[.agg #[.int .i64 ((atE L9 y79.i).client), .int .i64 ((atE L9 y79.i).req), ev, .int .u64 ((atE L9 y79.i).ts)], .bool (decide (0 ≤ y79.i ∧ y79.i < ((L9.length : Nat) : Int)))] ∧ TwoP S' xw N11 N22 u9 L9 X9 ∧ (xw.ownsRow w617.heap.size 127 3 ev (atE L9 y79.i).opl.length ((atE L9 y79.i).opl.flatMap opE)) ∧ (∀ q, S' q → q < w617.heap.size) ∧ Grew S9 S' w617 xw) rfl rfl rfl (by kernel_rfl) (by kernel_rfl) (Try.call28 _ _) (wAt w617 y79.i hf620) (by rintro e x ⟨ev, S', h0, h⟩; exact ⟨_, h0, ev, S', rfl, h⟩)) ?_; clear h629
       rintro _ w631 a630 ⟨ev632, S633, rfl, hO634, hq636, hq637, hx635⟩ h630
       have hlo639 : ∀ q, S633 q → w.heap.size ≤ q := hx635.lo hi618 (by omega)
       have hB638 := hbL hB622 hi618 hx635.but
       have hz640 := hB638.size
       have hz641 := hx635.but.size
       refine pk0 (v := .tuple #[.agg #[.int .i64 ((atE L9 y79.i).client), .int .i64 ((atE L9 y79.i).req), ev632, .int .u64 ((atE L9 y79.i).ts)], .bool (decide (0 ≤ y79.i ∧ y79.i < ((L9.length : Nat) : Int)))]) h630 rfl fun a642 h642 => ?_; clear h630
       refine pk0 (v := .agg #[.int .i64 ((atE L9 y79.i).client), .int .i64 ((atE L9 y79.i).req), ev632, .int .u64 ((atE L9 y79.i).ts)]) h642 rfl fun a643 h643 => ?_; clear h642
       refine pk0 (v := .bool (decide (0 ≤ y79.i ∧ y79.i < ((L9.length : Nat) : Int)))) h643 rfl fun a644 h644 => ?_; clear h643
       refine pw h644 rfl (op_new (v := fun N => pt N 0) (T := 47) (cs := #[.int .i64 0, .int .i64 0, .slice none 0 0, .int .u64 0]) (by kernel_rfl) (by kernel_rfl) (by kernel_rfl)) ?_; clear h644
       rintro _ w646 a645 ⟨N647, rfl, hN650, hz651, hk649, hg648⟩ h645
       have ha652 := row_fresh hq636 hN650
       have hz653 := hg648.size
       have ho654 := off_new (TwoP.ofS hO634) hN650
       try dsimp only at h645
       have hr660 := row_kept_new hq636 hg648
       refine pwD h645 rfl (op_storeN rfl rfl rfl (all_cons rfl (all_cons rfl (all_cons (row_one hr660) (all_cons rfl all_nil)))) (by kernel_rfl) hk649 rfl) ?_; clear h645
       rintro _ w656 a655 ⟨hk657, hz658, hg659⟩ h655
       have hk657' : Blk w656 N647 47 #[.int .i64 ((atE L9 y79.i).client), .int .i64 ((atE L9 y79.i).req), ev632, .int .u64 ((atE L9 y79.i).ts)] := hk657; clear hk657
       have hz661 := hg659.size
       refine pk0 (v := .bool (decide (0 ≤ y79.i ∧ y79.i < ((L9.length : Nat) : Int)))) h655 rfl fun a662 h662 => ?_; clear h655
       refine pl_nil ?_
       refine co_then ?_
       refine co_seq ?_
       have hB663 := hb_new hB638 hg648
       have hB664 := hb_at hB663 hg659 (by omega)
       have hk665 := Blk.butS hf621 hx635.but hi619
       have hk666 := hk665.kept hg648 (by simp)
       have hk667 := hk666.kept hg659 (by simp; omega)
       have hO668 := TwoP.gr hO634 hg648 (fun k e => by cases e)
       have hO669 := TwoP.gr hO668 hg659 (fun k e => by cases e; exact ho654)
       refine co_cut (fun a x => ∃ (Sc : Nat → Prop) (uc : Value) (Lc : List EntT) (Xc : List EntT), Slots 132 [(0, v), (3, pt N11 0), (4, pt N22 0), (5, .int .i64 ((i : Nat) : Int)), (6, pt N86 0), (103, .bool false)] a ∧ (∀ q, Sc q → w.heap.size ≤ q) ∧ (¬ Sc N86) ∧ TwoP Sc x N11 N22 uc Lc Xc ∧ Blk x N86 49 #[.int .i64 y79.c, .int .i64 y79.i, .int .i64 y79.e.client, .int .i64 y79.e.req, y79.e.ops, .int .u64 y79.e.ts] ∧ Below w.heap.size w x) ?_ ?_
       ·
        refine dr_gen (fun x => Below w.heap.size w x ∧ Blk x N86 49 #[.int .i64 y79.c, .int .i64 y79.i, .int .i64 y79.e.client, .int .i64 y79.e.req, y79.e.ops, .int .u64 y79.e.ts] ∧ Blk x N647 47 #[.int .i64 ((atE L9 y79.i).client), .int .i64 ((atE L9 y79.i).req), ev632, .int .u64 ((atE L9 y79.i).ts)]) (by kernel_rfl) (fun w670 hg671 => ?_) (fun w670 hg671 => ?_)
        ·
         have hz672 := hg671.size
         have hB673 := hb_new hB664 hg671
         have hk674 := hk667.kept hg671 (by simp)
         have hk675 := hk657'.kept hg671 (by simp)
         exact ⟨hB673, hk674, hk675⟩
        have hz676 := hg671.size
        have hB677 := hb_new hB664 hg671
        have hk678 := hk667.kept hg671 (by simp)
        have hk679 := hk657'.kept hg671 (by simp)
        refine dk0 0 (v := .bool (decide (0 ≤ y79.i ∧ y79.i < ((L9.length : Nat) : Int)))) h662 rfl rfl ⟨hB677, hk678, hk679⟩ fun a680 h680 => ?_; clear h662
        refine dk0 1 (v := pt N86 1) h680 rfl rfl ⟨hB677, hk678, hk679⟩ fun a681 h681 => ?_; clear h680
        refine dk 2 (v := .int .i64 y79.i) h681 rfl rfl ⟨hB677, hk678, hk679⟩ (fun x hx => (rn_load1 rfl rfl Try.isAgg3 (hx.2.1.cell rfl))) fun a682 h682 => ?_; clear h681
        refine dk0 3 (v := .bool (decide (y79.i ≥ 0))) h682 rfl rfl ⟨hB677, hk678, hk679⟩ fun a683 h683 => ?_; clear h682
        refine dk0 4 (v := .bool (decide (y79.i ≥ 0))) h683 rfl rfl ⟨hB677, hk678, hk679⟩ fun a684 h684 => ?_; clear h683
        have hr686 := row_kept_at hr660 hg659 (ha652)
        have hr687 := row_kept_new hr686 hg671
        cases hc685 : (decide (y79.i ≥ 0))
        ·
         rw [hc685] at h684
         have hp688 : ¬ (y79.i ≥ 0) := of_decide_eq_false hc685
         clear hc685
         refine dsk 5 h684 rfl rfl ⟨hB677, hk678, hk679⟩ fun a689 h689 => ?_; clear h684
         refine dsk 6 h689 rfl rfl ⟨hB677, hk678, hk679⟩ fun a690 h690 => ?_; clear h689
         refine dsk 7 h690 rfl rfl ⟨hB677, hk678, hk679⟩ fun a691 h691 => ?_; clear h690
         refine dsk 8 h691 rfl rfl ⟨hB677, hk678, hk679⟩ fun a692 h692 => ?_; clear h691
         refine dsk 9 h692 rfl rfl ⟨hB677, hk678, hk679⟩ fun a693 h693 => ?_; clear h692
         refine dsk 10 h693 rfl rfl ⟨hB677, hk678, hk679⟩ fun a694 h694 => ?_; clear h693
         refine dsk 11 h694 rfl rfl ⟨hB677, hk678, hk679⟩ fun a695 h695 => ?_; clear h694
         refine dsk 12 h695 rfl rfl ⟨hB677, hk678, hk679⟩ fun a696 h696 => ?_; clear h695
         refine dk0 13 (v := .bool false) h696 rfl rfl ⟨hB677, hk678, hk679⟩ fun a697 h697 => ?_; clear h696
         refine dk0 14 (v := .bool ((decide (0 ≤ y79.i ∧ y79.i < ((L9.length : Nat) : Int))) != false)) h697 rfl rfl ⟨hB677, hk678, hk679⟩ fun a698 h698 => ?_; clear h697
         refine dk0 15 (v := .bool ((decide (0 ≤ y79.i ∧ y79.i < ((L9.length : Nat) : Int))) != false)) h698 rfl rfl ⟨hB677, hk678, hk679⟩ fun a699 h699 => ?_; clear h698
         have hc700 : ((decide (0 ≤ y79.i ∧ y79.i < ((L9.length : Nat) : Int))) != false) = false := by first | (simp; done) | (simp; omega) | (rw [bne_eq_false_iff_eq]; exact decide_eq_decide.2 (by omega))
         rw [hc700] at h699; clear hc700
         refine dk0 16 (v := .bool (decide (0 ≤ y79.i ∧ y79.i < ((L9.length : Nat) : Int)))) h699 rfl rfl ⟨hB677, hk678, hk679⟩ fun a701 h701 => ?_; clear h699
         refine dk0 17 (v := .bool (decide (0 ≤ y79.i ∧ y79.i < ((L9.length : Nat) : Int)))) h701 rfl rfl ⟨hB677, hk678, hk679⟩ fun a702 h702 => ?_; clear h701
         have hc703 : (decide (0 ≤ y79.i ∧ y79.i < ((L9.length : Nat) : Int))) = false := decide_eq_false (by omega)
         rw [hc703] at h702; clear hc703
         refine dsk 18 h702 rfl rfl ⟨hB677, hk678, hk679⟩ fun a704 h704 => ?_; clear h702
         refine dsk 19 h704 rfl rfl ⟨hB677, hk678, hk679⟩ fun a705 h705 => ?_; clear h704
         refine dsk 20 h705 rfl rfl ⟨hB677, hk678, hk679⟩ fun a706 h706 => ?_; clear h705
         refine dsk 21 h706 rfl rfl ⟨hB677, hk678, hk679⟩ fun a707 h707 => ?_; clear h706
         refine dsk 22 h707 rfl rfl ⟨hB677, hk678, hk679⟩ fun a708 h708 => ?_; clear h707
         refine dsk 23 h708 rfl rfl ⟨hB677, hk678, hk679⟩ fun a709 h709 => ?_; clear h708
         refine dsk 24 h709 rfl rfl ⟨hB677, hk678, hk679⟩ fun a710 h710 => ?_; clear h709
         refine dsk 25 h710 rfl rfl ⟨hB677, hk678, hk679⟩ fun a711 h711 => ?_; clear h710
         refine dsk 26 h711 rfl rfl ⟨hB677, hk678, hk679⟩ fun a712 h712 => ?_; clear h711
         refine dsk 27 h712 rfl rfl ⟨hB677, hk678, hk679⟩ fun a713 h713 => ?_; clear h712
         refine dsk 28 h713 rfl rfl ⟨hB677, hk678, hk679⟩ fun a714 h714 => ?_; clear h713
         refine dk0 29 (v := .bool false) h714 rfl rfl ⟨hB677, hk678, hk679⟩ fun a715 h715 => ?_; clear h714
         refine dk0 30 (v := .bool false) h715 rfl rfl ⟨hB677, hk678, hk679⟩ fun a716 h716 => ?_; clear h715
         refine dr_done (by kernel_rfl) ?_
         refine co_then ?_
         have hO717 := TwoP.gr hO669 hg671 (fun k e => by cases e)
         exact ⟨S633, u9, L9, X9, h716.sub ⟨rfl, rfl, rfl, rfl, rfl, rfl, trivial⟩, by exact hlo639, by exact (Grew.off hx635 hi619 hf621.lt), hO717, hk678, hB677⟩
        ·
         rw [hc685] at h684
         have hp718 : y79.i ≥ 0 := of_decide_eq_true hc685
         clear hc685
         refine dk0 5 (v := pt N86 1) h684 rfl rfl ⟨hB677, hk678, hk679⟩ fun a719 h719 => ?_; clear h684
         refine dk 6 (v := .int .i64 y79.i) h719 rfl rfl ⟨hB677, hk678, hk679⟩ (fun x hx => (rn_load1 rfl rfl Try.isAgg3 (hx.2.1.cell rfl))) fun a720 h720 => ?_; clear h719
         refine dk0 7 (v := pt N22 0) h720 rfl rfl ⟨hB677, hk678, hk679⟩ fun a721 h721 => ?_; clear h720
         refine dk0 8 (v := pt N22 0) h721 rfl rfl ⟨hB677, hk678, hk679⟩ fun a722 h722 => ?_; clear h721
         refine dk0 9 (v := pt N22 0) h722 rfl rfl ⟨hB677, hk678, hk679⟩ fun a723 h723 => ?_; clear h722
         refine dr_many [10] (by kernel_rfl) (by simp) ⟨?_, trivial⟩
         ·
          have hO724 := TwoP.gr hO669 hg671 (fun k e => by cases e)
          refine dr_opVal (i := 10) (v := u9) h723 rfl rfl rfl rfl (by kernel_rfl) rfl (rn_load1 rfl rfl Try.isAgg39 ((TwoP.blk hO724).cell rfl)) ⟨hB677, hk678, hk679⟩ (fun a725 h725 => ?_); clear h723
          refine dr_many [11] (by kernel_rfl) (by simp) ⟨?_, trivial⟩
          ·
           refine dr_opVal (i := 11) (v := .int .i64 ((X9.length : Nat) : Int)) h725 rfl rfl rfl rfl (by kernel_rfl) rfl (rn_len rfl rfl Try.underlying39 (TwoP.sl hO724)) ⟨hB677, hk678, hk679⟩ (fun a726 h726 => ?_); clear h725
           refine dk0 12 (v := .bool (decide (y79.i < ((X9.length : Nat) : Int)))) h726 rfl rfl ⟨hB677, hk678, hk679⟩ fun a727 h727 => ?_; clear h726
           refine dk0 13 (v := .bool (decide (y79.i < ((X9.length : Nat) : Int)))) h727 rfl rfl ⟨hB677, hk678, hk679⟩ fun a728 h728 => ?_; clear h727
           refine dk0 14 (v := .bool ((decide (0 ≤ y79.i ∧ y79.i < ((L9.length : Nat) : Int))) != (decide (y79.i < ((X9.length : Nat) : Int))))) h728 rfl rfl ⟨hB677, hk678, hk679⟩ fun a729 h729 => ?_; clear h728
           refine dk0 15 (v := .bool ((decide (0 ≤ y79.i ∧ y79.i < ((L9.length : Nat) : Int))) != (decide (y79.i < ((X9.length : Nat) : Int))))) h729 rfl rfl ⟨hB677, hk678, hk679⟩ fun a730 h730 => ?_; clear h729
           have hc731 : ((decide (0 ≤ y79.i ∧ y79.i < ((L9.length : Nat) : Int))) != (decide (y79.i < ((X9.length : Nat) : Int)))) = false := by first | (simp; done) | (simp; omega) | (rw [bne_eq_false_iff_eq]; exact decide_eq_decide.2 (by omega))
           rw [hc731] at h730; clear hc731
           refine dk0 16 (v := .bool (decide (0 ≤ y79.i ∧ y79.i < ((L9.length : Nat) : Int)))) h730 rfl rfl ⟨hB677, hk678, hk679⟩ fun a732 h732 => ?_; clear h730
           refine dk0 17 (v := .bool (decide (0 ≤ y79.i ∧ y79.i < ((L9.length : Nat) : Int)))) h732 rfl rfl ⟨hB677, hk678, hk679⟩ fun a733 h733 => ?_; clear h732
           cases hc734 : (decide (0 ≤ y79.i ∧ y79.i < ((L9.length : Nat) : Int)))
           ·
            rw [hc734] at h733
            have hp735 : ¬ (0 ≤ y79.i ∧ y79.i < ((L9.length : Nat) : Int)) := of_decide_eq_false hc734
            clear hc734
            refine dsk 18 h733 rfl rfl ⟨hB677, hk678, hk679⟩ fun a736 h736 => ?_; clear h733
            refine dsk 19 h736 rfl rfl ⟨hB677, hk678, hk679⟩ fun a737 h737 => ?_; clear h736
            refine dsk 20 h737 rfl rfl ⟨hB677, hk678, hk679⟩ fun a738 h738 => ?_; clear h737
            refine dsk 21 h738 rfl rfl ⟨hB677, hk678, hk679⟩ fun a739 h739 => ?_; clear h738
            refine dsk 22 h739 rfl rfl ⟨hB677, hk678, hk679⟩ fun a740 h740 => ?_; clear h739
            refine dsk 23 h740 rfl rfl ⟨hB677, hk678, hk679⟩ fun a741 h741 => ?_; clear h740
            refine dsk 24 h741 rfl rfl ⟨hB677, hk678, hk679⟩ fun a742 h742 => ?_; clear h741
            refine dsk 25 h742 rfl rfl ⟨hB677, hk678, hk679⟩ fun a743 h743 => ?_; clear h742
            refine dsk 26 h743 rfl rfl ⟨hB677, hk678, hk679⟩ fun a744 h744 => ?_; clear h743
            refine dsk 27 h744 rfl rfl ⟨hB677, hk678, hk679⟩ fun a745 h745 => ?_; clear h744
            refine dsk 28 h745 rfl rfl ⟨hB677, hk678, hk679⟩ fun a746 h746 => ?_; clear h745
            refine dk0 29 (v := .bool false) h746 rfl rfl ⟨hB677, hk678, hk679⟩ fun a747 h747 => ?_; clear h746
            refine dk0 30 (v := .bool false) h747 rfl rfl ⟨hB677, hk678, hk679⟩ fun a748 h748 => ?_; clear h747
            refine dr_done (by kernel_rfl) ?_
            refine co_then ?_
            exact ⟨S633, u9, L9, X9, h748.sub ⟨rfl, rfl, rfl, rfl, rfl, rfl, trivial⟩, by exact hlo639, by exact (Grew.off hx635 hi619 hf621.lt), hO724, hk678, hB677⟩
           ·
            rw [hc734] at h733
            have hp749 : 0 ≤ y79.i ∧ y79.i < ((L9.length : Nat) : Int) := of_decide_eq_true hc734
            clear hc734
            refine dk 18 (v := .agg #[.int .i64 ((atE L9 y79.i).client), .int .i64 ((atE L9 y79.i).req), ev632, .int .u64 ((atE L9 y79.i).ts)]) h733 rfl rfl ⟨hB677, hk678, hk679⟩ (fun x hx => (rn_loadN rfl rfl Try.underlying47 rfl (by kernel_rfl) hx.2.2.all)) fun a750 h750 => ?_; clear h733
            refine dk0 19 (v := pt N22 0) h750 rfl rfl ⟨hB677, hk678, hk679⟩ fun a751 h751 => ?_; clear h750
            refine dk0 20 (v := pt N22 0) h751 rfl rfl ⟨hB677, hk678, hk679⟩ fun a752 h752 => ?_; clear h751
            refine dk0 21 (v := pt N22 0) h752 rfl rfl ⟨hB677, hk678, hk679⟩ fun a753 h753 => ?_; clear h752
            refine dk0 23 (v := pt N86 1) h753 rfl rfl ⟨hB677, hk678, hk679⟩ fun a754 h754 => ?_; clear h753
            refine dk 24 (v := .int .i64 y79.i) h754 rfl rfl ⟨hB677, hk678, hk679⟩ (fun x hx => (rn_load1 rfl rfl Try.isAgg3 (hx.2.1.cell rfl))) fun a755 h755 => ?_; clear h754
            refine dr_many [22] (by kernel_rfl) (by simp) ⟨?_, trivial⟩
            ·
             refine dr_opVal (i := 22) (v := u9) h755 rfl rfl rfl rfl (by kernel_rfl) rfl (rn_load1 rfl rfl Try.isAgg39 ((TwoP.blk hO724).cell rfl)) ⟨hB677, hk678, hk679⟩ (fun a756 h756 => ?_); clear h755
             refine dr_many [25] (by kernel_rfl) (by simp) ⟨?_, trivial⟩
             ·
              obtain ⟨y757, hy757⟩ : ∃ z, X9[(y79.i).toNat]? = some z := ⟨_, List.getElem?_eq_getElem (by first | omega | (simp; done) | (simp; omega))⟩
              have oky757 := (fun (z : EntT) (_ : z ∈ X9) => trivial) _ (List.mem_of_getElem? hy757)
              refine dr_opVal (i := 25) (v := pt (blkOf u9) (offOf u9 + ((y79.i).toNat) * 4)) h756 rfl rfl rfl rfl (by kernel_rfl) rfl (rn_index rfl rfl rfl Try.underlying39 Try.sizeOf47 (TwoP.sl hO724) (by omega) (by first | omega | (simp; done) | (simp; omega))) ⟨hB677, hk678, hk679⟩ (fun a758 h758 => ?_); clear h756
              refine dr_many [26] (by kernel_rfl) (by simp) ⟨?_, trivial⟩
              ·
               refine dr_opVal (i := 26) (v := .agg #[.int .i64 y757.client, .int .i64 y757.req, y757.ops, .int .u64 y757.ts]) h758 rfl rfl rfl rfl (by kernel_rfl) rfl (rn_loadN rfl rfl Try.underlying47 rfl (by kernel_rfl) (sl_at (TwoP.sl hO724) hy757)) ⟨hB677, hk678, hk679⟩ (fun a759 h759 => ?_); clear h758
               refine d1 27 h759 rfl rfl (op_call (args := #[.agg #[.int .i64 ((atE L9 y79.i).client), .int .i64 ((atE L9 y79.i).req), ev632, .int .u64 ((atE L9 y79.i).ts)], .agg #[.int .i64 y757.client, .int .i64 y757.req, y757.ops, .int .u64 y757.ts]]) (R := fun res xw => res = .bool true ∧ Below w670.heap.size w670 xw) rfl rfl rfl (by kernel_rfl) (by kernel_rfl) (Try.call29 _ _) (sameEntG ((atE L9 y79.i).client) ((atE L9 y79.i).req) ev632 ((atE L9 y79.i).opl) ((atE L9 y79.i).ts) y757.client y757.req y757.ops y757.opl y757.ts w670 (row_sl hr687 opE_len) (TwoP.okX hO724 _ (List.mem_of_getElem? hy757)).ops (atE_X (TwoP.eq hO724) hy757 (by omega))) (by rintro e x ⟨rfl, hb762⟩; exact ⟨_, rfl, ⟨rfl, hb762⟩⟩)) ?_ ?_; clear h759
               ·
                rintro _ w761 ⟨rfl, hb762⟩
                have hz763 := hb762.size
                have ho764 := TwoP.ofS hO724
                have hB765 := hb_call hB677 hb762
                have hk766 := hk678.below hb762
                have hk767 := hk679.below hb762
                exact ⟨hB765, hk766, hk767⟩
               rintro _ w761 a760 ⟨rfl, hb762⟩ h760
               have hz763 := hb762.size
               have ho764 := TwoP.ofS hO724
               have hB765 := hb_call hB677 hb762
               have hk766 := hk678.below hb762
               have hk767 := hk679.below hb762
               refine dk0 28 (v := .bool false) h760 rfl rfl ⟨hB765, hk766, hk767⟩ fun a768 h768 => ?_; clear h760
               refine dk0 29 (v := .bool false) h768 rfl rfl ⟨hB765, hk766, hk767⟩ fun a769 h769 => ?_; clear h768
               refine dk0 30 (v := .bool false) h769 rfl rfl ⟨hB765, hk766, hk767⟩ fun a770 h770 => ?_; clear h769
               refine dr_done (by kernel_rfl) ?_
               refine co_then ?_
               have hO771 := TwoP.gr hO724 (below_grown hb762) (fun k e => by cases e)
               exact ⟨S633, u9, L9, X9, h770.sub ⟨rfl, rfl, rfl, rfl, rfl, rfl, trivial⟩, by exact hlo639, by exact (Grew.off hx635 hi619 hf621.lt), hO771, hk766, hB765⟩
       rintro a772 w773 ⟨Sc, uc, Lc, Xc, h772, hi774, hi775, hf776, hf777, hB778⟩
       have hz779 := hB778.size
       have hl780 := hf777.lt
       have hk781 : Xc.length = Lc.length := TwoP.lenE hf776
       have hk782 : Lc.length ≤ 100 := TwoP.len hf776
       refine co_false h772 rfl ?_
       refine wp_skip ?_
       refine co_then ?_
       refine co_seq ?_
       refine co_reg ?_
       refine pk0 (v := pt N86 2) h772 rfl fun a783 h783 => ?_; clear h772
       refine pk0 (v := pt N86 2) h783 rfl fun a784 h784 => ?_; clear h783
       refine pk (v := .agg #[.int .i64 y79.e.client, .int .i64 y79.e.req, y79.e.ops]) h784 rfl (rn_loadN rfl rfl Try.underlying44 rfl (by kernel_rfl) (blk_part hf777 2 (by rfl))) fun a785 h785 => ?_; clear h784
       refine pw h785 rfl (op_new (v := fun N => pt N 0) (T := 44) (cs := #[.int .i64 0, .int .i64 0, .slice none 0 0]) (by kernel_rfl) (by kernel_rfl) (by kernel_rfl)) ?_; clear h785
       rintro _ w787 a786 ⟨N788, rfl, hN791, hz792, hk790, hg789⟩ h786
       have hz793 := hg789.size
       have ho794 := off_new (TwoP.ofS hf776) hN791
       try dsimp only at h786
       have hB800 := hb_new hB778 hg789
       refine pwD h786 rfl (op_storeN rfl rfl rfl (all_cons rfl (all_cons rfl (all_cons (sl_one (oky79.1.ops.below hB800)) all_nil))) (by kernel_rfl) hk790 rfl) ?_; clear h786
       rintro _ w796 a795 ⟨hk797, hz798, hg799⟩ h795
       have hk797' : Blk w796 N788 44 #[.int .i64 y79.e.client, .int .i64 y79.e.req, y79.e.ops] := hk797; clear hk797
       have hz801 := hg799.size
       refine pl_nil ?_
       refine co_then ?_
       refine co_seq ?_
       refine dr_gen (fun x => Below w.heap.size w x ∧ Blk x N788 44 #[.int .i64 y79.e.client, .int .i64 y79.e.req, y79.e.ops]) (by kernel_rfl) (fun w802 hg803 => ?_) (fun w802 hg803 => ?_)
       ·
        have hz804 := hg803.size
        have hB805 := hb_at hB800 hg799 (by omega)
        have hB806 := hb_new hB805 hg803
        have hk807 := hk797'.kept hg803 (by simp)
        exact ⟨hB806, hk807⟩
       have hz808 := hg803.size
       have hB809 := hb_at hB800 hg799 (by omega)
       have hB810 := hb_new hB809 hg803
       have hk811 := hk797'.kept hg803 (by simp)
       refine dk0 0 (v := pt N11 0) h795 rfl rfl ⟨hB810, hk811⟩ fun a812 h812 => ?_; clear h795
       refine dk0 1 (v := pt N788 0) h812 rfl rfl ⟨hB810, hk811⟩ fun a813 h813 => ?_; clear h812
       refine dk 2 (v := .int .i64 y79.e.client) h813 rfl rfl ⟨hB810, hk811⟩ (fun x hx => (rn_load1 rfl rfl Try.isAgg3 (hx.2.cell rfl))) fun a814 h814 => ?_; clear h813
       refine dk0 3 (v := pt N788 1) h814 rfl rfl ⟨hB810, hk811⟩ fun a815 h815 => ?_; clear h814
       refine dk 4 (v := .int .i64 y79.e.req) h815 rfl rfl ⟨hB810, hk811⟩ (fun x hx => (rn_load1 rfl rfl Try.isAgg3 (hx.2.cell rfl))) fun a816 h816 => ?_; clear h815
       refine dk0 6 (v := pt N22 0) h816 rfl rfl ⟨hB810, hk811⟩ fun a817 h817 => ?_; clear h816
       refine dk0 7 (v := pt N788 0) h817 rfl rfl ⟨hB810, hk811⟩ fun a818 h818 => ?_; clear h817
       refine dk 8 (v := .int .i64 y79.e.client) h818 rfl rfl ⟨hB810, hk811⟩ (fun x hx => (rn_load1 rfl rfl Try.isAgg3 (hx.2.cell rfl))) fun a819 h819 => ?_; clear h818
       refine dk0 9 (v := pt N788 1) h819 rfl rfl ⟨hB810, hk811⟩ fun a820 h820 => ?_; clear h819
       refine dk 10 (v := .int .i64 y79.e.req) h820 rfl rfl ⟨hB810, hk811⟩ (fun x hx => (rn_load1 rfl rfl Try.isAgg3 (hx.2.cell rfl))) fun a821 h821 => ?_; clear h820
       have hO824 := TwoP.gr hf776 hg789 (fun k e => by cases e)
       have hO825 := TwoP.gr hO824 hg799 (fun k e => by cases e; exact ho794)
       have hO826 := TwoP.gr hO825 hg803 (fun k e => by cases e)
       have hk827 := hf777.kept hg789 (by simp)
       have hk828 := hk827.kept hg799 (by simp; omega)
       have hk829 := hk828.kept hg803 (by simp)
       refine d1 5 h821 rfl rfl (op_call (args := #[pt N11 0, .int .i64 y79.e.client, .int .i64 y79.e.req]) (R := fun res xw => ∃ S' : Nat → Prop, res = .int .i64 (fndI Lc y79.e.client y79.e.req) ∧ TwoP S' xw N11 N22 uc Lc Xc ∧ Grew Sc S' w802 xw) rfl rfl rfl (by kernel_rfl) (by kernel_rfl) (Try.call30 _ _) (wFind w802 y79.e.client y79.e.req hO826) (by rintro e x ⟨S', h0, h⟩; exact ⟨_, h0, S', rfl, h⟩)) ?_ ?_; clear h821
       ·
        rintro _ w823 ⟨S830, rfl, hO831, hx832⟩
        have hlo834 : ∀ q, S830 q → w.heap.size ≤ q := hx832.lo hi774 (by omega)
        have hB833 := hbL hB810 hi774 hx832.but
        have hz835 := hB833.size
        have hz836 := hx832.but.size
        have hk837 := Blk.butS hk811 hx832.but ho794
        exact ⟨hB833, hk837⟩
       rintro _ w823 a822 ⟨S830, rfl, hO831, hx832⟩ h822
       have hlo834 : ∀ q, S830 q → w.heap.size ≤ q := hx832.lo hi774 (by omega)
       have hB833 := hbL hB810 hi774 hx832.but
       have hz835 := hB833.size
       have hz836 := hx832.but.size
       have hk837 := Blk.butS hk811 hx832.but ho794
       have hk840 : fndI Xc y79.e.client y79.e.req = fndI Lc y79.e.client y79.e.req := cong_n (F := fun L => fndI L y79.e.client y79.e.req) (fun L => fndI_e0) (TwoP.eq hO831).symm
       refine d1 11 h822 rfl rfl (op_call (args := #[pt N22 0, .int .i64 y79.e.client, .int .i64 y79.e.req]) (R := fun res xw => res = .int .i64 (fndI Xc y79.e.client y79.e.req) ∧ Below w823.heap.size w823 xw) rfl rfl rfl (by kernel_rfl) (by kernel_rfl) (Try.call31 _ _) (rFind17_any N22 uc Xc y79.e.client y79.e.req w823 (TwoP.blk hO831) (TwoP.sl hO831) (TwoP.okX hO831)) (by rintro e x ⟨rfl, hb841⟩; exact ⟨_, rfl, ⟨rfl, hb841⟩⟩)) ?_ ?_; clear h822
       ·
        rintro _ w839 ⟨rfl, hb841⟩
        have hz842 := hb841.size
        have ho843 := TwoP.ofS hO831
        have hB844 := hb_call hB833 hb841
        have hk845 := hk837.below hb841
        exact ⟨hB844, hk845⟩
       rintro _ w839 a838 ⟨rfl, hb841⟩ h838
       have hz842 := hb841.size
       have ho843 := TwoP.ofS hO831
       have hB844 := hb_call hB833 hb841
       have hk845 := hk837.below hb841
       refine dk0 12 (v := .bool (fndI Lc y79.e.client y79.e.req != fndI Xc y79.e.client y79.e.req)) h838 rfl rfl ⟨hB844, hk845⟩ fun a846 h846 => ?_; clear h838
       refine dk0 13 (v := .bool (fndI Lc y79.e.client y79.e.req != fndI Xc y79.e.client y79.e.req)) h846 rfl rfl ⟨hB844, hk845⟩ fun a847 h847 => ?_; clear h846
       have hc848 : (fndI Lc y79.e.client y79.e.req != fndI Xc y79.e.client y79.e.req) = false := by first | (simp; done) | (simp; omega)
       rw [hc848] at h847; clear hc848
       refine dk0 14 (v := pt N11 0) h847 rfl rfl ⟨hB844, hk845⟩ fun a849 h849 => ?_; clear h847
       refine dk0 15 (v := pt N788 0) h849 rfl rfl ⟨hB844, hk845⟩ fun a850 h850 => ?_; clear h849
       refine dk 16 (v := .int .i64 y79.e.client) h850 rfl rfl ⟨hB844, hk845⟩ (fun x hx => (rn_load1 rfl rfl Try.isAgg3 (hx.2.cell rfl))) fun a851 h851 => ?_; clear h850
       refine dk0 18 (v := pt N22 0) h851 rfl rfl ⟨hB844, hk845⟩ fun a852 h852 => ?_; clear h851
       refine dk0 19 (v := pt N788 0) h852 rfl rfl ⟨hB844, hk845⟩ fun a853 h853 => ?_; clear h852
       refine dk 20 (v := .int .i64 y79.e.client) h853 rfl rfl ⟨hB844, hk845⟩ (fun x hx => (rn_load1 rfl rfl Try.isAgg3 (hx.2.cell rfl))) fun a854 h854 => ?_; clear h853
       have hO857 := TwoP.gr hO831 (below_grown hb841) (fun k e => by cases e)
       have hk858 := Blk.butS hk829 hx832.but hi775
       have hk859 := hk858.below hb841
       refine d1 17 h854 rfl rfl (op_call (args := #[pt N11 0, .int .i64 y79.e.client]) (R := fun res xw => ∃ S' : Nat → Prop, res = .int .i64 (topN Lc y79.e.client) ∧ TwoP S' xw N11 N22 uc Lc Xc ∧ Grew S830 S' w839 xw) rfl rfl rfl (by kernel_rfl) (by kernel_rfl) (Try.call32 _ _) (wTop w839 y79.e.client hO857) (by rintro e x ⟨S', h0, h⟩; exact ⟨_, h0, S', rfl, h⟩)) ?_ ?_; clear h854
       ·
        rintro _ w856 ⟨S860, rfl, hO861, hx862⟩
        have hlo864 : ∀ q, S860 q → w.heap.size ≤ q := hx862.lo hlo834 (by omega)
        have hB863 := hbL hB844 hlo834 hx862.but
        have hz865 := hB863.size
        have hz866 := hx862.but.size
        have hk867 := Blk.butS hk845 hx862.but (Grew.off hx832 ho794 hk811.lt)
        exact ⟨hB863, hk867⟩
       rintro _ w856 a855 ⟨S860, rfl, hO861, hx862⟩ h855
       have hlo864 : ∀ q, S860 q → w.heap.size ≤ q := hx862.lo hlo834 (by omega)
       have hB863 := hbL hB844 hlo834 hx862.but
       have hz865 := hB863.size
       have hz866 := hx862.but.size
       have hk867 := Blk.butS hk845 hx862.but (Grew.off hx832 ho794 hk811.lt)
       have hk870 : topN Xc y79.e.client = topN Lc y79.e.client := cong_n (F := fun L => topN L y79.e.client) (fun L => topN_e0) (TwoP.eq hO861).symm
       refine d1 21 h855 rfl rfl (op_call (args := #[pt N22 0, .int .i64 y79.e.client]) (R := fun res xw => res = .int .i64 (topN Xc y79.e.client) ∧ Below w856.heap.size w856 xw) rfl rfl rfl (by kernel_rfl) (by kernel_rfl) (Try.call33 _ _) (rTop17_any N22 uc Xc y79.e.client w856 (TwoP.blk hO861) (TwoP.sl hO861) (TwoP.okX hO861)) (by rintro e x ⟨rfl, hb871⟩; exact ⟨_, rfl, ⟨rfl, hb871⟩⟩)) ?_ ?_; clear h855
       ·
        rintro _ w869 ⟨rfl, hb871⟩
        have hz872 := hb871.size
        have ho873 := TwoP.ofS hO861
        have hB874 := hb_call hB863 hb871
        have hk875 := hk867.below hb871
        exact ⟨hB874, hk875⟩
       rintro _ w869 a868 ⟨rfl, hb871⟩ h868
       have hz872 := hb871.size
       have ho873 := TwoP.ofS hO861
       have hB874 := hb_call hB863 hb871
       have hk875 := hk867.below hb871
       refine dk0 22 (v := .bool (topN Lc y79.e.client != topN Xc y79.e.client)) h868 rfl rfl ⟨hB874, hk875⟩ fun a876 h876 => ?_; clear h868
       refine dk0 23 (v := .bool (topN Lc y79.e.client != topN Xc y79.e.client)) h876 rfl rfl ⟨hB874, hk875⟩ fun a877 h877 => ?_; clear h876
       refine dr_done (by kernel_rfl) ?_
       refine co_then ?_
       have hc878 : (topN Lc y79.e.client != topN Xc y79.e.client) = false := by first | (simp; done) | (simp; omega)
       rw [hc878] at h877; clear hc878
       refine co_false h877 rfl ?_
       refine wp_skip ?_
       refine co_blockN ?_
       refine co_then ?_
       refine co_reg ?_
       refine pk0 (v := .int .i64 ((i : Nat) : Int)) h877 rfl fun a879 h879 => ?_; clear h877
       refine pk (v := .int .i64 ((i + 1 : Nat) : Int)) h879 rfl (rn_arith' rfl rfl rfl rfl rfl rfl (IntWalk.i64_in _ (by omega)) (by omega)) fun a880 h880 => ?_; clear h879
       refine pk0 (v := .int .i64 ((i + 1 : Nat) : Int)) h880 rfl fun a881 h881 => ?_; clear h880
       refine pl_nil ?_
       refine co_then ?_
       refine ⟨(l.length - (i + 1)), by omega, ?_⟩
       have hlo' := hlo864
       have hO882 := TwoP.gr hO861 (below_grown hb871) (fun k e => by cases e)
       exact ⟨i + 1, S860, uc, Lc, Xc, h881.sub ⟨rfl, rfl, rfl, rfl, trivial⟩, rfl, by omega, by omega, by exact hlo', hO882, hB874⟩
 · skip
   refine co_enter (n := 132) Try.func4 rfl rfl rfl [(0, v)] rfl (fun a h0 => ?_)
   refine co_seq ?_
   refine co_reg ?_
   refine pk0 (v := .bool false) h0 rfl fun a883 h883 => ?_; clear h0
   refine pl_nil ?_
   refine co_then ?_
   refine co_seq ?_
   refine co_seq ?_
   refine co_reg ?_
   refine pk0 (v := v) h883 rfl fun a884 h884 => ?_; clear h883
   refine pw h884 rfl (op_call (args := #[v]) (R := fun res xw => res = .bool (decide (Few l 40)) ∧ Below w.heap.size w xw) rfl rfl rfl (by kernel_rfl) (by kernel_rfl) (Try.call19 _ _) (few17_any v l w hs hok) (by rintro e x ⟨rfl, hb887⟩; exact ⟨_, rfl, ⟨rfl, hb887⟩⟩)) ?_; clear h884
   rintro _ w886 a885 ⟨rfl, hb887⟩ h885
   have hz888 := hb887.size
   have hc889 : (decide (Few l 40)) = false := by simp [hfew]
   rw [hc889] at h885; clear hc889
   refine pk0 (v := .bool true) h885 rfl fun a890 h890 => ?_; clear h885
   refine pl_nil ?_
   refine co_then ?_
   refine co_true h890 rfl ?_
   refine co_seq ?_
   refine co_reg ?_
   refine pw h890 rfl (op_call (args := #[]) (R := fun res xw => res = .bool true ∧ Below w886.heap.size w886 xw) rfl rfl rfl (by kernel_rfl) (by kernel_rfl) (Try.call20 _ _) (awake17  w886 ) (by rintro e x ⟨rfl, hb893⟩; exact ⟨_, rfl, ⟨rfl, hb893⟩⟩)) ?_; clear h890
   rintro _ w892 a891 ⟨rfl, hb893⟩ h891
   have hz894 := hb893.size
   refine pk0 (v := .bool true) h891 rfl fun a895 h895 => ?_; clear h891
   refine pl_nil ?_
   refine co_then ?_
   refine wp_ret ?_
   refine co_thenR ?_
   refine co_ret1 h895 rfl rfl ?_
   have hB896 := hb_call hB0 hb887
   have hB897 := hb_call hB896 hb893
   exact ⟨rfl, hB897⟩
end Go.Proofs.Ythmnndbpadegnaa
