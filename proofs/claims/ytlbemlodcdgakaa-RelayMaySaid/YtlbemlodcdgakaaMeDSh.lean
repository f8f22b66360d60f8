/- The document's own messages: Check. Conditions: none. -/
import Derived.Test.YtlbemlodcdgakaaMeCSh
namespace Go.Proofs.Ytlbemlodcdgakaa
open Go.RowKit Go.PlainAid
set_option linter.unusedVariables false

set_option maxRecDepth 100000 in
theorem rmCheck_any (d : MsgD) (mv : Value) (bv : Value) (ev : Value) (sv : Value) (pv : Value) (w : World) (hm : SliceOf memE 2 w mv d.cms) (hb : SliceOf opE 3 w bv d.bl) (he : SliceOf entE 4 w ev d.en) (ht : SliceOf (intE .u64) 1 w sv d.st) (hp : SliceOf prE 2 w pv d.pr) (hok : ∀ z ∈ d.en, EntOk w z) (hR : MsgR d) :
    Calls Try.prog 45 #[.agg #[.int .i64 d.k, .int .i64 d.ep, .int .i64 d.rq, .int .i64 d.sr, .bool d.fg, .int .u64 d.at_, .int .u64 d.la, .int .i64 d.n, .int .i64 d.m, .int .i64 d.p, .int .i64 d.e, .string d.key, .string d.to_, .int .i64 d.cep, mv, .int .u64 d.cfl, .int .i64 d.bc, .int .i64 d.br, bv, ev, sv, pv]] w fun e w' => e = .returned (.int .i64 (chkMg d)) ∧ Below w.heap.size w w' := by
 have hrng := hR.rng
 have hrl := rstr_small d.k
 have hB0 := Below.refl w.heap.size w
 have hl_hm := sl_len hm
 have hl_hb := sl_len hb
 have hl_he := sl_len he
 have hl_ht := sl_len ht
 have hl_hp := sl_len hp
 by_cases hkk : 1 ≤ d.k ∧ d.k ≤ 15
 · skip
   refine co_enter (n := 25) Try.func45 rfl rfl rfl [(0, .agg #[.int .i64 d.k, .int .i64 d.ep, .int .i64 d.rq, .int .i64 d.sr, .bool d.fg, .int .u64 d.at_, .int .u64 d.la, .int .i64 d.n, .int .i64 d.m, .int .i64 d.p, .int .i64 d.e, .string d.key, .string d.to_, .int .i64 d.cep, mv, .int .u64 d.cfl, .int .i64 d.bc, .int .i64 d.br, bv, ev, sv, pv])] rfl (fun a h0 => ?_)
   refine co_seq ?_
   refine co_reg ?_
   refine pw h0 rfl (op_new (v := fun N => pt N 0) (T := 74) (cs := #[.int .i64 d.k, .int .i64 d.ep, .int .i64 d.rq, .int .i64 d.sr, .bool d.fg, .int .u64 d.at_, .int .u64 d.la, .int .i64 d.n, .int .i64 d.m, .int .i64 d.p, .int .i64 d.e, .string d.key, .string d.to_, .int .i64 d.cep, mv, .int .u64 d.cfl, .int .i64 d.bc, .int .i64 d.br, bv, ev, sv, pv]) (by kernel_rfl) (by kernel_rfl) (by kernel_rfl)) ?_; clear h0
   rintro _ w2 a1 ⟨N3, rfl, hN6, hz7, hk5, hg4⟩ h1
   have hz8 := hg4.size
   try dsimp only at h1
   refine pk0 (v := .int .i64 0) h1 rfl fun a9 h9 => ?_; clear h1
   refine pl_nil ?_
   refine co_then ?_
   refine co_seq ?_
   refine co_reg ?_
   refine pk0 (v := pt N3 0) h9 rfl fun a10 h10 => ?_; clear h9
   refine pk (v := .int .i64 d.k) h10 rfl (rn_load1 rfl rfl Try.isAgg3 (hk5.cell rfl)) fun a11 h11 => ?_; clear h10
   refine pw h11 rfl (op_call (args := #[.int .i64 d.k]) (R := fun res xw => res = .string (rstr d.k) ∧ Below w2.heap.size w2 xw) rfl rfl rfl (by kernel_rfl) (by kernel_rfl) (Try.call93 _ _) (rmParts_any d.k w2 ) (by rintro e x ⟨rfl, hb14⟩; exact ⟨_, rfl, ⟨rfl, hb14⟩⟩)) ?_; clear h11
   rintro _ w13 a12 ⟨rfl, hb14⟩ h12
   have hz15 := hb14.size
   refine pk0 (v := .string (rstr d.k)) h12 rfl fun a16 h16 => ?_; clear h12
   refine pl_nil ?_
   refine co_then ?_
   refine co_seq ?_
   refine co_seq ?_
   refine co_reg ?_
   refine pk0 (v := .string (rstr d.k)) h16 rfl fun a17 h17 => ?_; clear h16
   refine pk0 (v := .bool ((rstr d.k : ByteArray).toList == (⟨#[63]⟩ : ByteArray).toList)) h17 rfl fun a18 h18 => ?_; clear h17
   refine pl_nil ?_
   refine co_then ?_
   have hc19 : ((rstr d.k : ByteArray).toList == (⟨#[63]⟩ : ByteArray).toList) = false := by rw [beq_eq_false_iff_ne]; exact rstr_q hkk
   rw [hc19] at h18; clear hc19
   refine co_false h18 rfl ?_
   refine wp_skip ?_
   refine co_then ?_
   refine co_seq ?_
   refine co_seq ?_
   refine co_reg ?_
   refine pk0 (v := .int .i64 0) h18 rfl fun a20 h20 => ?_; clear h18
   refine pl_nil ?_
   refine co_then ?_
   refine wp_block ?_
   have h21 : Slots 25 [(1, pt N3 0), (2, .int .i64 0), (3, .string (rstr d.k)), (4, .int .i64 0)] _ := h20.sub ⟨rfl, rfl, rfl, rfl, trivial⟩; clear h20
   refine co_loop (fun mm a x => ∃ (i : Nat), Slots 25 [(1, pt N3 0), (2, .int .i64 0), (3, .string (rstr d.k)), (4, .int .i64 ((i : Nat) : Int))] a ∧ mm = (rstr d.k).size - i ∧ (i ≤ (rstr d.k).size) ∧ (chkF (cP d) ((ptL d.k).drop i) = chkF (cP d) (ptL d.k)) ∧ Below w.heap.size w x ∧ Blk x N3 74 #[.int .i64 d.k, .int .i64 d.ep, .int .i64 d.rq, .int .i64 d.sr, .bool d.fg, .int .u64 d.at_, .int .u64 d.la, .int .i64 d.n, .int .i64 d.m, .int .i64 d.p, .int .i64 d.e, .string d.key, .string d.to_, .int .i64 d.cep, mv, .int .u64 d.cfl, .int .i64 d.bc, .int .i64 d.br, bv, ev, sv, pv]) ((rstr d.k).size - 0) ?_ ?_
   have hB22 := hb_new hB0 hg4
   have hB23 := hb_call hB22 hb14
   have hk24 := hk5.below hb14
   · exact ⟨0, h21.sub ⟨rfl, rfl, rfl, (slot_eq rfl (congrArg (Value.int .i64) (by first | rfl | omega))), trivial⟩, rfl, by omega, by first | rfl | exact hL', hB23, hk24⟩
   · rintro k25 a26 w27 ⟨i, h26, rfl, hi28, hi29, hB30, hk31⟩
     have hz32 := hB30.size
     have hl33 := hk31.lt
     have hL : chkF (cP d) ((ptL d.k).drop i) = chkF (cP d) (ptL d.k) := by assumption
     refine co_seq ?_
     refine co_seq ?_
     refine co_reg ?_
     refine pk0 (v := .int .i64 ((i : Nat) : Int)) h26 rfl fun a34 h34 => ?_; clear h26
     refine pk0 (v := .string (rstr d.k)) h34 rfl fun a35 h35 => ?_; clear h34
     refine pk (v := .int .i64 (((rstr d.k : ByteArray).size : Nat) : Int)) h35 rfl (rn_lenStr rfl rfl Try.underlying9) fun a36 h36 => ?_; clear h35
     refine pk0 (v := .bool (decide (((i : Nat) : Int) < (((rstr d.k : ByteArray).size : Nat) : Int)))) h36 rfl fun a37 h37 => ?_; clear h36
     refine pl_nil ?_
     refine co_then ?_
     cases hc38 : (decide (((i : Nat) : Int) < (((rstr d.k : ByteArray).size : Nat) : Int)))
     ·
      rw [hc38] at h37
      have hp39 : ¬ (((i : Nat) : Int) < (((rstr d.k : ByteArray).size : Nat) : Int)) := of_decide_eq_false hc38
      clear hc38
      refine co_false h37 rfl ?_
      refine wp_exit ?_
      refine co_thenX ?_
      refine co_thenX ?_
      refine co_blockX ?_
      refine co_then ?_
      refine co_seq ?_
      refine co_reg ?_
      refine pk0 (v := .int .i64 0) h37 rfl fun a40 h40 => ?_; clear h37
      refine pl_nil ?_
      refine co_then ?_
      refine wp_ret ?_
      refine co_ret1 h40 rfl rfl ?_
      have hpl := rstr_len d.k
      have hpl2 := rL_len (k := d.k) (by omega)
      exact ⟨ret_int (by unfold chkMg; rw [if_pos (by omega)]; exact cF_end (i := i) hL (by omega)), hB30⟩
     ·
      rw [hc38] at h37
      have hp41 : ((i : Nat) : Int) < (((rstr d.k : ByteArray).size : Nat) : Int) := of_decide_eq_true hc38
      clear hc38
      refine co_true h37 rfl ?_
      refine wp_skip ?_
      refine co_then ?_
      refine co_seq ?_
      refine wp_block ?_
      refine co_seq ?_
      refine dr_gen (fun x => Below w.heap.size w x ∧ Blk x N3 74 #[.int .i64 d.k, .int .i64 d.ep, .int .i64 d.rq, .int .i64 d.sr, .bool d.fg, .int .u64 d.at_, .int .u64 d.la, .int .i64 d.n, .int .i64 d.m, .int .i64 d.p, .int .i64 d.e, .string d.key, .string d.to_, .int .i64 d.cep, mv, .int .u64 d.cfl, .int .i64 d.bc, .int .i64 d.br, bv, ev, sv, pv]) (by kernel_rfl) (fun w42 hg43 => ?_) (fun w42 hg43 => ?_)
      ·
       have hz44 := hg43.size
       have hB45 := hb_new hB30 hg43
       have hk46 := hk31.kept hg43 (by simp)
       exact ⟨hB45, hk46⟩
      have hz47 := hg43.size
      have hB48 := hb_new hB30 hg43
      have hk49 := hk31.kept hg43 (by simp)
      refine dk 0 (v := .agg #[.int .i64 d.k, .int .i64 d.ep, .int .i64 d.rq, .int .i64 d.sr, .bool d.fg, .int .u64 d.at_, .int .u64 d.la, .int .i64 d.n, .int .i64 d.m, .int .i64 d.p, .int .i64 d.e, .string d.key, .string d.to_, .int .i64 d.cep, mv, .int .u64 d.cfl, .int .i64 d.bc, .int .i64 d.br, bv, ev, sv, pv]) h37 rfl rfl ⟨hB48, hk49⟩ (fun x hx => (rn_loadN rfl rfl Try.underlying74 rfl (by kernel_rfl) hx.2.all)) fun a50 h50 => ?_; clear h37
      refine dk0 1 (v := .string (rstr d.k)) h50 rfl rfl ⟨hB48, hk49⟩ fun a51 h51 => ?_; clear h50
      refine dk0 2 (v := .int .i64 ((i : Nat) : Int)) h51 rfl rfl ⟨hB48, hk49⟩ fun a52 h52 => ?_; clear h51
      refine dk 3 (v := .int .u8 (byteAt (rstr d.k) i)) h52 rfl rfl ⟨hB48, hk49⟩ (fun x hx => (rn_indexStr rfl rfl rfl Try.underlying9 (by omega) (by omega))) fun a53 h53 => ?_; clear h52
      have hcn := byteAt_rstr (k := d.k) (i := i) (by omega) (by omega)
      refine d1 4 h53 rfl rfl (op_call (args := #[.agg #[.int .i64 d.k, .int .i64 d.ep, .int .i64 d.rq, .int .i64 d.sr, .bool d.fg, .int .u64 d.at_, .int .u64 d.la, .int .i64 d.n, .int .i64 d.m, .int .i64 d.p, .int .i64 d.e, .string d.key, .string d.to_, .int .i64 d.cep, mv, .int .u64 d.cfl, .int .i64 d.bc, .int .i64 d.br, bv, ev, sv, pv], .int .u8 (byteAt (rstr d.k) i)]) (R := fun res xw => res = .int .i64 (chkP d (plet (byteAt (rstr d.k) i))) ∧ Below w42.heap.size w42 xw) rfl rfl rfl (by kernel_rfl) (by kernel_rfl) (Try.call94 _ _) (rmWrong_any d mv bv ev sv pv (byteAt (rstr d.k) i) w42 (hm.below hB48) (hb.below hB48) (he.below hB48) (ht.below hB48) (hp.below hB48) (fun z hz => (hok z hz).below hB48) hR (by obtain ⟨_, _, _, h⟩ := hcn; exact h)) (by rintro e x ⟨rfl, hb56⟩; exact ⟨_, rfl, ⟨rfl, hb56⟩⟩)) ?_ ?_; clear h53
      ·
       rintro _ w55 ⟨rfl, hb56⟩
       have hz57 := hb56.size
       have hB58 := hb_call hB48 hb56
       have hk59 := hk49.below hb56
       exact ⟨hB58, hk59⟩
      rintro _ w55 a54 ⟨rfl, hb56⟩ h54
      have hz57 := hb56.size
      have hB58 := hb_call hB48 hb56
      have hk59 := hk49.below hb56
      refine dk0 5 (v := .int .i64 (chkP d (plet (byteAt (rstr d.k) i)))) h54 rfl rfl ⟨hB58, hk59⟩ fun a60 h60 => ?_; clear h54
      refine dr_done (by kernel_rfl) ?_
      refine co_then ?_
      refine co_seq ?_
      refine co_reg ?_
      refine pk0 (v := .int .i64 (chkP d (plet (byteAt (rstr d.k) i)))) h60 rfl fun a61 h61 => ?_; clear h60
      refine pk0 (v := .bool (chkP d (plet (byteAt (rstr d.k) i)) != 0)) h61 rfl fun a62 h62 => ?_; clear h61
      refine pl_nil ?_
      refine co_then ?_
      cases hc63 : (chkP d (plet (byteAt (rstr d.k) i)) != 0)
      ·
       rw [hc63] at h62
       have hp64 : ¬ (chkP d (plet (byteAt (rstr d.k) i)) ≠ 0) := by first | simpa using hc63 | simpa [and_assoc] using hc63
       clear hc63
       refine co_false h62 rfl ?_
       refine wp_skip ?_
       refine co_blockN ?_
       refine co_then ?_
       refine co_reg ?_
       refine pk0 (v := .int .i64 ((i : Nat) : Int)) h62 rfl fun a65 h65 => ?_; clear h62
       refine pk (v := .int .i64 ((i + 1 : Nat) : Int)) h65 rfl (rn_arith' rfl rfl rfl rfl rfl rfl (IntWalk.i64_in _ (by omega)) (by omega)) fun a66 h66 => ?_; clear h65
       refine pk0 (v := .int .i64 ((i + 1 : Nat) : Int)) h66 rfl fun a67 h67 => ?_; clear h66
       refine pl_nil ?_
       refine co_then ?_
       refine ⟨((rstr d.k).size - (i + 1)), by omega, ?_⟩
       obtain ⟨c, hc, hcb, _⟩ := byteAt_rstr (k := d.k) (i := i) (by omega) (by omega)
       have hL' := cF_step (f := cP d) hL hc (by show chkP d _ = 0; rw [← hcb]; omega)
       exact ⟨i + 1, h67.sub ⟨rfl, rfl, rfl, rfl, trivial⟩, rfl, by omega, by first | rfl | exact hL', hB58, hk59⟩
      ·
       rw [hc63] at h62
       have hp68 : chkP d (plet (byteAt (rstr d.k) i)) ≠ 0 := by first | simpa using hc63 | simpa [and_assoc] using hc63
       clear hc63
       refine co_true h62 rfl ?_
       refine co_seq ?_
       refine co_reg ?_
       refine pk0 (v := .int .i64 (chkP d (plet (byteAt (rstr d.k) i)))) h62 rfl fun a69 h69 => ?_; clear h62
       refine pk0 (v := .int .i64 (chkP d (plet (byteAt (rstr d.k) i)))) h69 rfl fun a70 h70 => ?_; clear h69
       refine pl_nil ?_
       refine co_then ?_
       refine wp_ret ?_
       refine co_blockR ?_
       refine co_thenR ?_
       refine co_thenR ?_
       refine co_blockR ?_
       refine co_thenR ?_
       refine co_ret1 h70 rfl rfl ?_
       obtain ⟨c, hc, hcb, _⟩ := hcn
       exact ⟨ret_int (by unfold chkMg; rw [if_pos (by omega), hcb]; exact cF_bad (f := cP d) (i := i) hL hc (by show chkP d _ ≠ 0; rw [← hcb]; omega)), hB58⟩
 · skip
   refine co_enter (n := 25) Try.func45 rfl rfl rfl [(0, .agg #[.int .i64 d.k, .int .i64 d.ep, .int .i64 d.rq, .int .i64 d.sr, .bool d.fg, .int .u64 d.at_, .int .u64 d.la, .int .i64 d.n, .int .i64 d.m, .int .i64 d.p, .int .i64 d.e, .string d.key, .string d.to_, .int .i64 d.cep, mv, .int .u64 d.cfl, .int .i64 d.bc, .int .i64 d.br, bv, ev, sv, pv])] rfl (fun a h0 => ?_)
   refine co_seq ?_
   refine co_reg ?_
   refine pw h0 rfl (op_new (v := fun N => pt N 0) (T := 74) (cs := #[.int .i64 d.k, .int .i64 d.ep, .int .i64 d.rq, .int .i64 d.sr, .bool d.fg, .int .u64 d.at_, .int .u64 d.la, .int .i64 d.n, .int .i64 d.m, .int .i64 d.p, .int .i64 d.e, .string d.key, .string d.to_, .int .i64 d.cep, mv, .int .u64 d.cfl, .int .i64 d.bc, .int .i64 d.br, bv, ev, sv, pv]) (by kernel_rfl) (by kernel_rfl) (by kernel_rfl)) ?_; clear h0
   rintro _ w72 a71 ⟨N73, rfl, hN76, hz77, hk75, hg74⟩ h71
   have hz78 := hg74.size
   try dsimp only at h71
   refine pk0 (v := .int .i64 0) h71 rfl fun a79 h79 => ?_; clear h71
   refine pl_nil ?_
   refine co_then ?_
   refine co_seq ?_
   refine co_reg ?_
   refine pk0 (v := pt N73 0) h79 rfl fun a80 h80 => ?_; clear h79
   refine pk (v := .int .i64 d.k) h80 rfl (rn_load1 rfl rfl Try.isAgg3 (hk75.cell rfl)) fun a81 h81 => ?_; clear h80
   refine pw h81 rfl (op_call (args := #[.int .i64 d.k]) (R := fun res xw => res = .string (rstr d.k) ∧ Below w72.heap.size w72 xw) rfl rfl rfl (by kernel_rfl) (by kernel_rfl) (Try.call93 _ _) (rmParts_any d.k w72 ) (by rintro e x ⟨rfl, hb84⟩; exact ⟨_, rfl, ⟨rfl, hb84⟩⟩)) ?_; clear h81
   rintro _ w83 a82 ⟨rfl, hb84⟩ h82
   have hz85 := hb84.size
   refine pk0 (v := .string (rstr d.k)) h82 rfl fun a86 h86 => ?_; clear h82
   refine pl_nil ?_
   refine co_then ?_
   refine co_seq ?_
   refine co_seq ?_
   refine co_reg ?_
   refine pk0 (v := .string (rstr d.k)) h86 rfl fun a87 h87 => ?_; clear h86
   refine pk0 (v := .bool ((rstr d.k : ByteArray).toList == (⟨#[63]⟩ : ByteArray).toList)) h87 rfl fun a88 h88 => ?_; clear h87
   refine pl_nil ?_
   refine co_then ?_
   have hc89 : ((rstr d.k : ByteArray).toList == (⟨#[63]⟩ : ByteArray).toList) = true := by rw [rstr_n hkk]; simp
   rw [hc89] at h88; clear hc89
   refine co_true h88 rfl ?_
   refine co_seq ?_
   refine co_reg ?_
   refine pk0 (v := .int .i64 11) h88 rfl fun a90 h90 => ?_; clear h88
   refine pl_nil ?_
   refine co_then ?_
   refine wp_ret ?_
   refine co_thenR ?_
   refine co_ret1 h90 rfl rfl ?_
   have hB91 := hb_new hB0 hg74
   have hB92 := hb_call hB91 hb84
   exact ⟨ret_int (by unfold chkMg; rw [if_neg (by omega)]), hB92⟩
end Go.Proofs.Ytlbemlodcdgakaa
