/- Package rlog: one that nobody made; the log as one object. Conditions: at most 100 entries, 20 operations each. -/
import Derived.Test.YthmnndbpadegnaaRlgE
import Derived.Test.YthmnndbpadegnaaGo
namespace Go.Proofs.Ythmnndbpadegnaa
open Go.RowKit Go.PlainAid
set_option linter.unusedVariables false

set_option maxRecDepth 100000 in
theorem lzeroN_any  (w : World)  :
    Calls Try.prog 78 #[.pointer none] w fun e w' => e = .returned (.bool true) ∧ w = w' := by
 have hB0 := Below.refl w.heap.size w
 refine co_enter (n := 12) Try.func78 rfl rfl rfl [(0, .pointer none)] rfl (fun a h0 => ?_)
 refine co_seq ?_
 refine co_reg ?_
 refine pk0 (v := .bool false) h0 rfl fun a1 h1 => ?_; clear h0
 refine pl_nil ?_
 refine co_then ?_
 refine co_seq ?_
 refine co_reg ?_
 refine pk0 (v := .pointer none) h1 rfl fun a2 h2 => ?_; clear h1
 refine pk0 (v := .bool true) h2 rfl fun a3 h3 => ?_; clear h2
 refine pk0 (v := .bool true) h3 rfl fun a4 h4 => ?_; clear h3
 refine psk h4 rfl fun a5 h5 => ?_; clear h4
 refine psk h5 rfl fun a6 h6 => ?_; clear h5
 refine psk h6 rfl fun a7 h7 => ?_; clear h6
 refine psk h7 rfl fun a8 h8 => ?_; clear h7
 refine psk h8 rfl fun a9 h9 => ?_; clear h8
 refine pk0 (v := .bool true) h9 rfl fun a10 h10 => ?_; clear h9
 refine pk0 (v := .bool true) h10 rfl fun a11 h11 => ?_; clear h10
 refine pl_nil ?_
 refine co_then ?_
 refine wp_ret ?_
 refine co_ret1 h11 rfl rfl ?_
 exact ⟨rfl, rfl⟩
set_option maxRecDepth 100000 in
theorem lSetN_any (i : Int) (c : Int) (r : Int) (v : Value) (l : List OpT) (ts : Int) (w : World) (hs : SliceOf opE 3 w v l) :
    Calls Try.prog 39 #[.pointer none, .int .i64 i, .agg #[.int .i64 c, .int .i64 r, v, .int .u64 ts]] w fun e w' => e = .returned (.int .i64 8) ∧ Below w.heap.size w w' := by
 have hB0 := Below.refl w.heap.size w
 have hl_hs := sl_len hs
 refine co_enter (n := 96) Try.func39 rfl rfl rfl [(0, .pointer none), (1, .int .i64 i), (2, .agg #[.int .i64 c, .int .i64 r, v, .int .u64 ts])] rfl (fun a h0 => ?_)
 refine co_seq ?_
 refine co_reg ?_
 refine pw h0 rfl (op_new (v := fun N => pt N 0) (T := 47) (cs := #[.int .i64 c, .int .i64 r, v, .int .u64 ts]) (by kernel_rfl) (by kernel_rfl) (by kernel_rfl)) ?_; clear h0
 rintro _ w2 a1 ⟨N3, rfl, hN6, hz7, hk5, hg4⟩ h1
 have hz8 := hg4.size
 try dsimp only at h1
 refine pk0 (v := .int .i64 0) h1 rfl fun a9 h9 => ?_; clear h1
 refine pl_nil ?_
 refine co_then ?_
 refine co_seq ?_
 refine co_seq ?_
 refine co_reg ?_
 refine pk0 (v := .pointer none) h9 rfl fun a10 h10 => ?_; clear h9
 refine pw h10 rfl (op_call (args := #[.pointer none]) (R := fun res xw => res = .bool true ∧ w2 = xw) rfl rfl rfl (by kernel_rfl) (by kernel_rfl) (Try.call78 _ _) (lzeroN_any  w2 ) (by rintro e x ⟨rfl, rfl⟩; exact ⟨_, rfl, ⟨rfl, rfl⟩⟩)) ?_; clear h10
 rintro _ _ a11 ⟨rfl, rfl⟩ h11
 refine pl_nil ?_
 refine co_then ?_
 refine co_true h11 rfl ?_
 refine co_seq ?_
 refine co_reg ?_
 refine pk0 (v := .int .i64 8) h11 rfl fun a14 h14 => ?_; clear h11
 refine pl_nil ?_
 refine co_then ?_
 refine wp_ret ?_
 refine co_thenR ?_
 refine co_ret1 h14 rfl rfl ?_
 have hB15 := hb_new hB0 hg4
 exact ⟨rfl, hB15⟩
set_option maxRecDepth 100000 in
theorem lStampN_any (i : Int) (ts : Int) (w : World)  :
    Calls Try.prog 40 #[.pointer none, .int .i64 i, .int .u64 ts] w fun e w' => e = .returned (.int .i64 8) ∧ Below w.heap.size w w' := by
 have hB0 := Below.refl w.heap.size w
 refine co_enter (n := 46) Try.func40 rfl rfl rfl [(0, .pointer none), (1, .int .i64 i), (2, .int .u64 ts)] rfl (fun a h0 => ?_)
 refine co_seq ?_
 refine co_reg ?_
 refine pk0 (v := .int .i64 0) h0 rfl fun a1 h1 => ?_; clear h0
 refine pl_nil ?_
 refine co_then ?_
 refine co_seq ?_
 refine co_seq ?_
 refine co_reg ?_
 refine pk0 (v := .pointer none) h1 rfl fun a2 h2 => ?_; clear h1
 refine pw h2 rfl (op_call (args := #[.pointer none]) (R := fun res xw => res = .bool true ∧ w = xw) rfl rfl rfl (by kernel_rfl) (by kernel_rfl) (Try.call78 _ _) (lzeroN_any  w ) (by rintro e x ⟨rfl, rfl⟩; exact ⟨_, rfl, ⟨rfl, rfl⟩⟩)) ?_; clear h2
 rintro _ _ a3 ⟨rfl, rfl⟩ h3
 refine pl_nil ?_
 refine co_then ?_
 refine co_true h3 rfl ?_
 refine co_seq ?_
 refine co_reg ?_
 refine pk0 (v := .int .i64 8) h3 rfl fun a6 h6 => ?_; clear h3
 refine pl_nil ?_
 refine co_then ?_
 refine wp_ret ?_
 refine co_thenR ?_
 refine co_ret1 h6 rfl rfl ?_
 exact ⟨rfl, hB0⟩
set_option maxRecDepth 100000 in
theorem lFindN_any (cl : Int) (rq : Int) (w : World)  :
    Calls Try.prog 30 #[.pointer none, .int .i64 cl, .int .i64 rq] w fun e w' => e = .returned (.int .i64 (-1)) ∧ Below w.heap.size w w' := by
 have hB0 := Below.refl w.heap.size w
 refine co_enter (n := 26) Try.func30 rfl rfl rfl [(0, .pointer none), (1, .int .i64 cl), (2, .int .i64 rq)] rfl (fun a h0 => ?_)
 refine co_seq ?_
 refine co_reg ?_
 refine pk0 (v := .int .i64 0) h0 rfl fun a1 h1 => ?_; clear h0
 refine pl_nil ?_
 refine co_then ?_
 refine co_seq ?_
 refine co_seq ?_
 refine co_reg ?_
 refine pk0 (v := .pointer none) h1 rfl fun a2 h2 => ?_; clear h1
 refine pw h2 rfl (op_call (args := #[.pointer none]) (R := fun res xw => res = .bool true ∧ w = xw) rfl rfl rfl (by kernel_rfl) (by kernel_rfl) (Try.call78 _ _) (lzeroN_any  w ) (by rintro e x ⟨rfl, rfl⟩; exact ⟨_, rfl, ⟨rfl, rfl⟩⟩)) ?_; clear h2
 rintro _ _ a3 ⟨rfl, rfl⟩ h3
 refine pl_nil ?_
 refine co_then ?_
 refine co_true h3 rfl ?_
 refine co_seq ?_
 refine co_reg ?_
 refine pk0 (v := .int .i64 (-1)) h3 rfl fun a6 h6 => ?_; clear h3
 refine pl_nil ?_
 refine co_then ?_
 refine wp_ret ?_
 refine co_thenR ?_
 refine co_ret1 h6 rfl rfl ?_
 exact ⟨rfl, hB0⟩
set_option maxRecDepth 100000 in
theorem lTopN_any (cl : Int) (w : World)  :
    Calls Try.prog 32 #[.pointer none, .int .i64 cl] w fun e w' => e = .returned (.int .i64 0) ∧ Below w.heap.size w w' := by
 have hB0 := Below.refl w.heap.size w
 refine co_enter (n := 31) Try.func32 rfl rfl rfl [(0, .pointer none), (1, .int .i64 cl)] rfl (fun a h0 => ?_)
 refine co_seq ?_
 refine co_reg ?_
 refine pk0 (v := .int .i64 0) h0 rfl fun a1 h1 => ?_; clear h0
 refine pl_nil ?_
 refine co_then ?_
 refine co_seq ?_
 refine co_seq ?_
 refine co_reg ?_
 refine pk0 (v := .pointer none) h1 rfl fun a2 h2 => ?_; clear h1
 refine pw h2 rfl (op_call (args := #[.pointer none]) (R := fun res xw => res = .bool true ∧ w = xw) rfl rfl rfl (by kernel_rfl) (by kernel_rfl) (Try.call78 _ _) (lzeroN_any  w ) (by rintro e x ⟨rfl, rfl⟩; exact ⟨_, rfl, ⟨rfl, rfl⟩⟩)) ?_; clear h2
 rintro _ _ a3 ⟨rfl, rfl⟩ h3
 refine pl_nil ?_
 refine co_then ?_
 refine co_true h3 rfl ?_
 refine co_seq ?_
 refine co_reg ?_
 refine pk0 (v := .int .i64 0) h3 rfl fun a6 h6 => ?_; clear h3
 refine pl_nil ?_
 refine co_then ?_
 refine wp_ret ?_
 refine co_thenR ?_
 refine co_ret1 h6 rfl rfl ?_
 exact ⟨rfl, hB0⟩
set_option maxRecDepth 100000 in
theorem lThinN_any (h : Int) (n : Int) (w : World)  :
    Calls Try.prog 35 #[.pointer none, .int .u64 h, .int .i64 n] w fun e w' => e = .returned (.int .i64 0) ∧ Below w.heap.size w w' := by
 have hB0 := Below.refl w.heap.size w
 refine co_enter (n := 77) Try.func35 rfl rfl rfl [(0, .pointer none), (1, .int .u64 h), (2, .int .i64 n)] rfl (fun a h0 => ?_)
 refine co_seq ?_
 refine co_reg ?_
 refine pk0 (v := .int .i64 0) h0 rfl fun a1 h1 => ?_; clear h0
 refine pl_nil ?_
 refine co_then ?_
 refine co_seq ?_
 refine co_seq ?_
 refine co_reg ?_
 refine pk0 (v := .pointer none) h1 rfl fun a2 h2 => ?_; clear h1
 refine pw h2 rfl (op_call (args := #[.pointer none]) (R := fun res xw => res = .bool true ∧ w = xw) rfl rfl rfl (by kernel_rfl) (by kernel_rfl) (Try.call78 _ _) (lzeroN_any  w ) (by rintro e x ⟨rfl, rfl⟩; exact ⟨_, rfl, ⟨rfl, rfl⟩⟩)) ?_; clear h2
 rintro _ _ a3 ⟨rfl, rfl⟩ h3
 refine pl_nil ?_
 refine co_then ?_
 refine co_true h3 rfl ?_
 refine co_seq ?_
 refine co_reg ?_
 refine pk0 (v := .int .i64 0) h3 rfl fun a6 h6 => ?_; clear h3
 refine pl_nil ?_
 refine co_then ?_
 refine wp_ret ?_
 refine co_thenR ?_
 refine co_ret1 h6 rfl rfl ?_
 exact ⟨rfl, hB0⟩
set_option maxRecDepth 100000 in
theorem lLenN_any  (w : World)  :
    Calls Try.prog 25 #[.pointer none] w fun e w' => e = .returned (.int .i64 0) ∧ Below w.heap.size w w' := by
 have hB0 := Below.refl w.heap.size w
 refine co_enter (n := 10) Try.func25 rfl rfl rfl [(0, .pointer none)] rfl (fun a h0 => ?_)
 refine co_seq ?_
 refine co_reg ?_
 refine pk0 (v := .int .i64 0) h0 rfl fun a1 h1 => ?_; clear h0
 refine pl_nil ?_
 refine co_then ?_
 refine co_seq ?_
 refine co_seq ?_
 refine co_reg ?_
 refine pk0 (v := .pointer none) h1 rfl fun a2 h2 => ?_; clear h1
 refine pw h2 rfl (op_call (args := #[.pointer none]) (R := fun res xw => res = .bool true ∧ w = xw) rfl rfl rfl (by kernel_rfl) (by kernel_rfl) (Try.call78 _ _) (lzeroN_any  w ) (by rintro e x ⟨rfl, rfl⟩; exact ⟨_, rfl, ⟨rfl, rfl⟩⟩)) ?_; clear h2
 rintro _ _ a3 ⟨rfl, rfl⟩ h3
 refine pl_nil ?_
 refine co_then ?_
 refine co_true h3 rfl ?_
 refine co_seq ?_
 refine co_reg ?_
 refine pk0 (v := .int .i64 0) h3 rfl fun a6 h6 => ?_; clear h3
 refine pl_nil ?_
 refine co_then ?_
 refine wp_ret ?_
 refine co_thenR ?_
 refine co_ret1 h6 rfl rfl ?_
 exact ⟨rfl, hB0⟩
set_option maxRecDepth 100000 in
theorem lStampedN_any  (w : World)  :
    Calls Try.prog 26 #[.pointer none] w fun e w' => e = .returned (.int .i64 0) ∧ Below w.heap.size w w' := by
 have hB0 := Below.refl w.heap.size w
 refine co_enter (n := 10) Try.func26 rfl rfl rfl [(0, .pointer none)] rfl (fun a h0 => ?_)
 refine co_seq ?_
 refine co_reg ?_
 refine pk0 (v := .int .i64 0) h0 rfl fun a1 h1 => ?_; clear h0
 refine pl_nil ?_
 refine co_then ?_
 refine co_seq ?_
 refine co_seq ?_
 refine co_reg ?_
 refine pk0 (v := .pointer none) h1 rfl fun a2 h2 => ?_; clear h1
 refine pw h2 rfl (op_call (args := #[.pointer none]) (R := fun res xw => res = .bool true ∧ w = xw) rfl rfl rfl (by kernel_rfl) (by kernel_rfl) (Try.call78 _ _) (lzeroN_any  w ) (by rintro e x ⟨rfl, rfl⟩; exact ⟨_, rfl, ⟨rfl, rfl⟩⟩)) ?_; clear h2
 rintro _ _ a3 ⟨rfl, rfl⟩ h3
 refine pl_nil ?_
 refine co_then ?_
 refine co_true h3 rfl ?_
 refine co_seq ?_
 refine co_reg ?_
 refine pk0 (v := .int .i64 0) h3 rfl fun a6 h6 => ?_; clear h3
 refine pl_nil ?_
 refine co_then ?_
 refine wp_ret ?_
 refine co_thenR ?_
 refine co_ret1 h6 rfl rfl ?_
 exact ⟨rfl, hB0⟩
set_option maxRecDepth 100000 in
theorem lAtN_any (i : Int) (w : World)  :
    Calls Try.prog 28 #[.pointer none, .int .i64 i] w fun e w' => e = .returned (.tuple #[.agg #[.int .i64 0, .int .i64 0, .slice none 0 0, .int .u64 0], .bool false]) ∧ Below w.heap.size w w' := by
 have hB0 := Below.refl w.heap.size w
 refine co_enter (n := 30) Try.func28 rfl rfl rfl [(0, .pointer none), (1, .int .i64 i)] rfl (fun a h0 => ?_)
 refine co_seq ?_
 refine co_reg ?_
 refine pw h0 rfl (op_new (v := fun N => pt N 0) (T := 47) (cs := #[.int .i64 0, .int .i64 0, .slice none 0 0, .int .u64 0]) (by kernel_rfl) (by kernel_rfl) (by kernel_rfl)) ?_; clear h0
 rintro _ w2 a1 ⟨N3, rfl, hN6, hz7, hk5, hg4⟩ h1
 have hz8 := hg4.size
 try dsimp only at h1
 refine pk0 (v := .bool false) h1 rfl fun a9 h9 => ?_; clear h1
 refine pl_nil ?_
 refine co_then ?_
 refine co_seq ?_
 refine co_seq ?_
 refine co_reg ?_
 refine pk0 (v := .pointer none) h9 rfl fun a10 h10 => ?_; clear h9
 refine pw h10 rfl (op_call (args := #[.pointer none]) (R := fun res xw => res = .bool true ∧ w2 = xw) rfl rfl rfl (by kernel_rfl) (by kernel_rfl) (Try.call78 _ _) (lzeroN_any  w2 ) (by rintro e x ⟨rfl, rfl⟩; exact ⟨_, rfl, ⟨rfl, rfl⟩⟩)) ?_; clear h10
 rintro _ _ a11 ⟨rfl, rfl⟩ h11
 refine pk0 (v := .bool true) h11 rfl fun a14 h14 => ?_; clear h11
 refine psk h14 rfl fun a15 h15 => ?_; clear h14
 refine psk h15 rfl fun a16 h16 => ?_; clear h15
 refine pk0 (v := .bool true) h16 rfl fun a17 h17 => ?_; clear h16
 refine pk0 (v := .bool true) h17 rfl fun a18 h18 => ?_; clear h17
 refine psk h18 rfl fun a19 h19 => ?_; clear h18
 refine psk h19 rfl fun a20 h20 => ?_; clear h19
 refine psk h20 rfl fun a21 h21 => ?_; clear h20
 refine psk h21 rfl fun a22 h22 => ?_; clear h21
 refine psk h22 rfl fun a23 h23 => ?_; clear h22
 refine psk h23 rfl fun a24 h24 => ?_; clear h23
 refine psk h24 rfl fun a25 h25 => ?_; clear h24
 refine pk0 (v := .bool true) h25 rfl fun a26 h26 => ?_; clear h25
 refine pl_nil ?_
 refine co_then ?_
 refine co_true h26 rfl ?_
 refine co_seq ?_
 refine co_reg ?_
 refine pk0 (v := .agg #[.int .i64 0, .int .i64 0, .slice none 0 0, .int .u64 0]) h26 rfl fun a27 h27 => ?_; clear h26
 refine pwD h27 rfl (op_storeN rfl rfl rfl (all_cons rfl (all_cons rfl (all_cons rfl (all_cons rfl all_nil)))) (by kernel_rfl) hk5 rfl) ?_; clear h27
 rintro _ w29 a28 ⟨hk30, hz31, hg32⟩ h28
 have hk30' : Blk w29 N3 47 #[.int .i64 0, .int .i64 0, .slice none 0 0, .int .u64 0] := hk30; clear hk30
 have hz33 := hg32.size
 refine pk0 (v := .bool false) h28 rfl fun a34 h34 => ?_; clear h28
 refine pl_nil ?_
 refine co_then ?_
 refine wp_ret ?_
 refine co_thenR ?_
 refine co_retC1 (Q := fun _ _ _ => True) h34 rfl rfl rfl hk30' Try.underlying47 rfl (by kernel_rfl) ?_
 have hB35 := hb_new hB0 hg4
 have hB36 := hb_at hB35 hg32 (by omega)
 exact ⟨rfl, hB36⟩
set_option maxRecDepth 100000 in
theorem lAllN_any  (w : World)  :
    Calls Try.prog 24 #[.pointer none] w fun e w' => e = .returned (.slice none 0 0) ∧ Below w.heap.size w w' := by
 have hB0 := Below.refl w.heap.size w
 refine co_enter (n := 10) Try.func24 rfl rfl rfl [(0, .pointer none)] rfl (fun a h0 => ?_)
 refine co_seq ?_
 refine co_reg ?_
 refine pk0 (v := .slice none 0 0) h0 rfl fun a1 h1 => ?_; clear h0
 refine pl_nil ?_
 refine co_then ?_
 refine co_seq ?_
 refine co_seq ?_
 refine co_reg ?_
 refine pk0 (v := .pointer none) h1 rfl fun a2 h2 => ?_; clear h1
 refine pw h2 rfl (op_call (args := #[.pointer none]) (R := fun res xw => res = .bool true ∧ w = xw) rfl rfl rfl (by kernel_rfl) (by kernel_rfl) (Try.call78 _ _) (lzeroN_any  w ) (by rintro e x ⟨rfl, rfl⟩; exact ⟨_, rfl, ⟨rfl, rfl⟩⟩)) ?_; clear h2
 rintro _ _ a3 ⟨rfl, rfl⟩ h3
 refine pl_nil ?_
 refine co_then ?_
 refine co_true h3 rfl ?_
 refine co_seq ?_
 refine co_reg ?_
 refine pk0 (v := .slice none 0 0) h3 rfl fun a6 h6 => ?_; clear h3
 refine pl_nil ?_
 refine co_then ?_
 refine wp_ret ?_
 refine co_thenR ?_
 refine co_ret1 h6 rfl rfl ?_
 exact ⟨rfl, hB0⟩
set_option maxRecDepth 100000 in
theorem lzeroZ_any (b : Nat) (w : World) (hD : Blk w b 67 #[.bool false, .slice none 0 0, .map none]) :
    Calls Try.prog 78 #[pt b 0] w fun e w' => e = .returned (.bool true) ∧ w = w' := by
 have hB0 := Below.refl w.heap.size w
 have hl_hD := hD.lt
 refine co_enter (n := 12) Try.func78 rfl rfl rfl [(0, pt b 0)] rfl (fun a h0 => ?_)
 refine co_seq ?_
 refine co_reg ?_
 refine pk0 (v := .bool false) h0 rfl fun a1 h1 => ?_; clear h0
 refine pl_nil ?_
 refine co_then ?_
 refine co_seq ?_
 refine co_reg ?_
 refine pk0 (v := pt b 0) h1 rfl fun a2 h2 => ?_; clear h1
 refine pk0 (v := .bool false) h2 rfl fun a3 h3 => ?_; clear h2
 refine pk0 (v := .bool false) h3 rfl fun a4 h4 => ?_; clear h3
 refine pk0 (v := pt b 0) h4 rfl fun a5 h5 => ?_; clear h4
 refine pk0 (v := pt b 0) h5 rfl fun a6 h6 => ?_; clear h5
 refine pk0 (v := pt b 0) h6 rfl fun a7 h7 => ?_; clear h6
 refine pk (v := .bool false) h7 rfl (rn_load1 rfl rfl Try.isAgg4 (hD.cell rfl)) fun a8 h8 => ?_; clear h7
 refine pk0 (v := .bool true) h8 rfl fun a9 h9 => ?_; clear h8
 refine pk0 (v := .bool true) h9 rfl fun a10 h10 => ?_; clear h9
 refine pk0 (v := .bool true) h10 rfl fun a11 h11 => ?_; clear h10
 refine pl_nil ?_
 refine co_then ?_
 refine wp_ret ?_
 refine co_ret1 h11 rfl rfl ?_
 exact ⟨rfl, rfl⟩
set_option maxRecDepth 100000 in
theorem lSetZ_any (b : Nat) (i : Int) (c : Int) (r : Int) (v : Value) (l : List OpT) (ts : Int) (w : World) (hs : SliceOf opE 3 w v l) (hD : Blk w b 67 #[.bool false, .slice none 0 0, .map none]) :
    Calls Try.prog 39 #[pt b 0, .int .i64 i, .agg #[.int .i64 c, .int .i64 r, v, .int .u64 ts]] w fun e w' => e = .returned (.int .i64 8) ∧ Below w.heap.size w w' := by
 have hB0 := Below.refl w.heap.size w
 have hl_hs := sl_len hs
 have hl_hD := hD.lt
 refine co_enter (n := 96) Try.func39 rfl rfl rfl [(0, pt b 0), (1, .int .i64 i), (2, .agg #[.int .i64 c, .int .i64 r, v, .int .u64 ts])] rfl (fun a h0 => ?_)
 refine co_seq ?_
 refine co_reg ?_
 refine pw h0 rfl (op_new (v := fun N => pt N 0) (T := 47) (cs := #[.int .i64 c, .int .i64 r, v, .int .u64 ts]) (by kernel_rfl) (by kernel_rfl) (by kernel_rfl)) ?_; clear h0
 rintro _ w2 a1 ⟨N3, rfl, hN6, hz7, hk5, hg4⟩ h1
 have hz8 := hg4.size
 try dsimp only at h1
 refine pk0 (v := .int .i64 0) h1 rfl fun a9 h9 => ?_; clear h1
 refine pl_nil ?_
 refine co_then ?_
 refine co_seq ?_
 refine co_seq ?_
 refine co_reg ?_
 refine pk0 (v := pt b 0) h9 rfl fun a10 h10 => ?_; clear h9
 have hk13 := hD.kept hg4 (by simp)
 refine pw h10 rfl (op_call (args := #[pt b 0]) (R := fun res xw => res = .bool true ∧ w2 = xw) rfl rfl rfl (by kernel_rfl) (by kernel_rfl) (Try.call78 _ _) (lzeroZ_any b w2 hk13) (by rintro e x ⟨rfl, rfl⟩; exact ⟨_, rfl, ⟨rfl, rfl⟩⟩)) ?_; clear h10
 rintro _ _ a11 ⟨rfl, rfl⟩ h11
 refine pl_nil ?_
 refine co_then ?_
 refine co_true h11 rfl ?_
 refine co_seq ?_
 refine co_reg ?_
 refine pk0 (v := .int .i64 8) h11 rfl fun a15 h15 => ?_; clear h11
 refine pl_nil ?_
 refine co_then ?_
 refine wp_ret ?_
 refine co_thenR ?_
 refine co_ret1 h15 rfl rfl ?_
 have hB16 := hb_new hB0 hg4
 exact ⟨rfl, hB16⟩
set_option maxRecDepth 100000 in
theorem lStampZ_any (b : Nat) (i : Int) (ts : Int) (w : World) (hD : Blk w b 67 #[.bool false, .slice none 0 0, .map none]) :
    Calls Try.prog 40 #[pt b 0, .int .i64 i, .int .u64 ts] w fun e w' => e = .returned (.int .i64 8) ∧ Below w.heap.size w w' := by
 have hB0 := Below.refl w.heap.size w
 have hl_hD := hD.lt
 refine co_enter (n := 46) Try.func40 rfl rfl rfl [(0, pt b 0), (1, .int .i64 i), (2, .int .u64 ts)] rfl (fun a h0 => ?_)
 refine co_seq ?_
 refine co_reg ?_
 refine pk0 (v := .int .i64 0) h0 rfl fun a1 h1 => ?_; clear h0
 refine pl_nil ?_
 refine co_then ?_
 refine co_seq ?_
 refine co_seq ?_
 refine co_reg ?_
 refine pk0 (v := pt b 0) h1 rfl fun a2 h2 => ?_; clear h1
 refine pw h2 rfl (op_call (args := #[pt b 0]) (R := fun res xw => res = .bool true ∧ w = xw) rfl rfl rfl (by kernel_rfl) (by kernel_rfl) (Try.call78 _ _) (lzeroZ_any b w hD) (by rintro e x ⟨rfl, rfl⟩; exact ⟨_, rfl, ⟨rfl, rfl⟩⟩)) ?_; clear h2
 rintro _ _ a3 ⟨rfl, rfl⟩ h3
 refine pl_nil ?_
 refine co_then ?_
 refine co_true h3 rfl ?_
 refine co_seq ?_
 refine co_reg ?_
 refine pk0 (v := .int .i64 8) h3 rfl fun a6 h6 => ?_; clear h3
 refine pl_nil ?_
 refine co_then ?_
 refine wp_ret ?_
 refine co_thenR ?_
 refine co_ret1 h6 rfl rfl ?_
 exact ⟨rfl, hB0⟩
set_option maxRecDepth 100000 in
theorem lFindZ_any (b : Nat) (cl : Int) (rq : Int) (w : World) (hD : Blk w b 67 #[.bool false, .slice none 0 0, .map none]) :
    Calls Try.prog 30 #[pt b 0, .int .i64 cl, .int .i64 rq] w fun e w' => e = .returned (.int .i64 (-1)) ∧ Below w.heap.size w w' := by
 have hB0 := Below.refl w.heap.size w
 have hl_hD := hD.lt
 refine co_enter (n := 26) Try.func30 rfl rfl rfl [(0, pt b 0), (1, .int .i64 cl), (2, .int .i64 rq)] rfl (fun a h0 => ?_)
 refine co_seq ?_
 refine co_reg ?_
 refine pk0 (v := .int .i64 0) h0 rfl fun a1 h1 => ?_; clear h0
 refine pl_nil ?_
 refine co_then ?_
 refine co_seq ?_
 refine co_seq ?_
 refine co_reg ?_
 refine pk0 (v := pt b 0) h1 rfl fun a2 h2 => ?_; clear h1
 refine pw h2 rfl (op_call (args := #[pt b 0]) (R := fun res xw => res = .bool true ∧ w = xw) rfl rfl rfl (by kernel_rfl) (by kernel_rfl) (Try.call78 _ _) (lzeroZ_any b w hD) (by rintro e x ⟨rfl, rfl⟩; exact ⟨_, rfl, ⟨rfl, rfl⟩⟩)) ?_; clear h2
 rintro _ _ a3 ⟨rfl, rfl⟩ h3
 refine pl_nil ?_
 refine co_then ?_
 refine co_true h3 rfl ?_
 refine co_seq ?_
 refine co_reg ?_
 refine pk0 (v := .int .i64 (-1)) h3 rfl fun a6 h6 => ?_; clear h3
 refine pl_nil ?_
 refine co_then ?_
 refine wp_ret ?_
 refine co_thenR ?_
 refine co_ret1 h6 rfl rfl ?_
 exact ⟨rfl, hB0⟩
set_option maxRecDepth 100000 in
theorem lTopZ_any (b : Nat) (cl : Int) (w : World) (hD : Blk w b 67 #[.bool false, .slice none 0 0, .map none]) :
    Calls Try.prog 32 #[pt b 0, .int .i64 cl] w fun e w' => e = .returned (.int .i64 0) ∧ Below w.heap.size w w' := by
 have hB0 := Below.refl w.heap.size w
 have hl_hD := hD.lt
 refine co_enter (n := 31) Try.func32 rfl rfl rfl [(0, pt b 0), (1, .int .i64 cl)] rfl (fun a h0 => ?_)
 refine co_seq ?_
 refine co_reg ?_
 refine pk0 (v := .int .i64 0) h0 rfl fun a1 h1 => ?_; clear h0
 refine pl_nil ?_
 refine co_then ?_
 refine co_seq ?_
 refine co_seq ?_
 refine co_reg ?_
 refine pk0 (v := pt b 0) h1 rfl fun a2 h2 => ?_; clear h1
 refine pw h2 rfl (op_call (args := #[pt b 0]) (R := fun res xw => res = .bool true ∧ w = xw) rfl rfl rfl (by kernel_rfl) (by kernel_rfl) (Try.call78 _ _) (lzeroZ_any b w hD) (by rintro e x ⟨rfl, rfl⟩; exact ⟨_, rfl, ⟨rfl, rfl⟩⟩)) ?_; clear h2
 rintro _ _ a3 ⟨rfl, rfl⟩ h3
 refine pl_nil ?_
 refine co_then ?_
 refine co_true h3 rfl ?_
 refine co_seq ?_
 refine co_reg ?_
 refine pk0 (v := .int .i64 0) h3 rfl fun a6 h6 => ?_; clear h3
 refine pl_nil ?_
 refine co_then ?_
 refine wp_ret ?_
 refine co_thenR ?_
 refine co_ret1 h6 rfl rfl ?_
 exact ⟨rfl, hB0⟩
set_option maxRecDepth 100000 in
theorem lThinZ_any (b : Nat) (h : Int) (n : Int) (w : World) (hD : Blk w b 67 #[.bool false, .slice none 0 0, .map none]) :
    Calls Try.prog 35 #[pt b 0, .int .u64 h, .int .i64 n] w fun e w' => e = .returned (.int .i64 0) ∧ Below w.heap.size w w' := by
 have hB0 := Below.refl w.heap.size w
 have hl_hD := hD.lt
 refine co_enter (n := 77) Try.func35 rfl rfl rfl [(0, pt b 0), (1, .int .u64 h), (2, .int .i64 n)] rfl (fun a h0 => ?_)
 refine co_seq ?_
 refine co_reg ?_
 refine pk0 (v := .int .i64 0) h0 rfl fun a1 h1 => ?_; clear h0
 refine pl_nil ?_
 refine co_then ?_
 refine co_seq ?_
 refine co_seq ?_
 refine co_reg ?_
 refine pk0 (v := pt b 0) h1 rfl fun a2 h2 => ?_; clear h1
 refine pw h2 rfl (op_call (args := #[pt b 0]) (R := fun res xw => res = .bool true ∧ w = xw) rfl rfl rfl (by kernel_rfl) (by kernel_rfl) (Try.call78 _ _) (lzeroZ_any b w hD) (by rintro e x ⟨rfl, rfl⟩; exact ⟨_, rfl, ⟨rfl, rfl⟩⟩)) ?_; clear h2
 rintro _ _ a3 ⟨rfl, rfl⟩ h3
 refine pl_nil ?_
 refine co_then ?_
 refine co_true h3 rfl ?_
 refine co_seq ?_
 refine co_reg ?_
 refine pk0 (v := .int .i64 0) h3 rfl fun a6 h6 => ?_; clear h3
 refine pl_nil ?_
 refine co_then ?_
 refine wp_ret ?_
 refine co_thenR ?_
 refine co_ret1 h6 rfl rfl ?_
 exact ⟨rfl, hB0⟩
set_option maxRecDepth 100000 in
theorem lLenZ_any (b : Nat) (w : World) (hD : Blk w b 67 #[.bool false, .slice none 0 0, .map none]) :
    Calls Try.prog 25 #[pt b 0] w fun e w' => e = .returned (.int .i64 0) ∧ Below w.heap.size w w' := by
 have hB0 := Below.refl w.heap.size w
 have hl_hD := hD.lt
 refine co_enter (n := 10) Try.func25 rfl rfl rfl [(0, pt b 0)] rfl (fun a h0 => ?_)
 refine co_seq ?_
 refine co_reg ?_
 refine pk0 (v := .int .i64 0) h0 rfl fun a1 h1 => ?_; clear h0
 refine pl_nil ?_
 refine co_then ?_
 refine co_seq ?_
 refine co_seq ?_
 refine co_reg ?_
 refine pk0 (v := pt b 0) h1 rfl fun a2 h2 => ?_; clear h1
 refine pw h2 rfl (op_call (args := #[pt b 0]) (R := fun res xw => res = .bool true ∧ w = xw) rfl rfl rfl (by kernel_rfl) (by kernel_rfl) (Try.call78 _ _) (lzeroZ_any b w hD) (by rintro e x ⟨rfl, rfl⟩; exact ⟨_, rfl, ⟨rfl, rfl⟩⟩)) ?_; clear h2
 rintro _ _ a3 ⟨rfl, rfl⟩ h3
 refine pl_nil ?_
 refine co_then ?_
 refine co_true h3 rfl ?_
 refine co_seq ?_
 refine co_reg ?_
 refine pk0 (v := .int .i64 0) h3 rfl fun a6 h6 => ?_; clear h3
 refine pl_nil ?_
 refine co_then ?_
 refine wp_ret ?_
 refine co_thenR ?_
 refine co_ret1 h6 rfl rfl ?_
 exact ⟨rfl, hB0⟩
set_option maxRecDepth 100000 in
theorem lStampedZ_any (b : Nat) (w : World) (hD : Blk w b 67 #[.bool false, .slice none 0 0, .map none]) :
    Calls Try.prog 26 #[pt b 0] w fun e w' => e = .returned (.int .i64 0) ∧ Below w.heap.size w w' := by
 have hB0 := Below.refl w.heap.size w
 have hl_hD := hD.lt
 refine co_enter (n := 10) Try.func26 rfl rfl rfl [(0, pt b 0)] rfl (fun a h0 => ?_)
 refine co_seq ?_
 refine co_reg ?_
 refine pk0 (v := .int .i64 0) h0 rfl fun a1 h1 => ?_; clear h0
 refine pl_nil ?_
 refine co_then ?_
 refine co_seq ?_
 refine co_seq ?_
 refine co_reg ?_
 refine pk0 (v := pt b 0) h1 rfl fun a2 h2 => ?_; clear h1
 refine pw h2 rfl (op_call (args := #[pt b 0]) (R := fun res xw => res = .bool true ∧ w = xw) rfl rfl rfl (by kernel_rfl) (by kernel_rfl) (Try.call78 _ _) (lzeroZ_any b w hD) (by rintro e x ⟨rfl, rfl⟩; exact ⟨_, rfl, ⟨rfl, rfl⟩⟩)) ?_; clear h2
 rintro _ _ a3 ⟨rfl, rfl⟩ h3
 refine pl_nil ?_
 refine co_then ?_
 refine co_true h3 rfl ?_
 refine co_seq ?_
 refine co_reg ?_
 refine pk0 (v := .int .i64 0) h3 rfl fun a6 h6 => ?_; clear h3
 refine pl_nil ?_
 refine co_then ?_
 refine wp_ret ?_
 refine co_thenR ?_
 refine co_ret1 h6 rfl rfl ?_
 exact ⟨rfl, hB0⟩
set_option maxRecDepth 100000 in
theorem lAtZ_any (b : Nat) (i : Int) (w : World) (hD : Blk w b 67 #[.bool false, .slice none 0 0, .map none]) :
    Calls Try.prog 28 #[pt b 0, .int .i64 i] w fun e w' => e = .returned (.tuple #[.agg #[.int .i64 0, .int .i64 0, .slice none 0 0, .int .u64 0], .bool false]) ∧ Below w.heap.size w w' := by
 have hB0 := Below.refl w.heap.size w
 have hl_hD := hD.lt
 refine co_enter (n := 30) Try.func28 rfl rfl rfl [(0, pt b 0), (1, .int .i64 i)] rfl (fun a h0 => ?_)
 refine co_seq ?_
 refine co_reg ?_
 refine pw h0 rfl (op_new (v := fun N => pt N 0) (T := 47) (cs := #[.int .i64 0, .int .i64 0, .slice none 0 0, .int .u64 0]) (by kernel_rfl) (by kernel_rfl) (by kernel_rfl)) ?_; clear h0
 rintro _ w2 a1 ⟨N3, rfl, hN6, hz7, hk5, hg4⟩ h1
 have hz8 := hg4.size
 try dsimp only at h1
 refine pk0 (v := .bool false) h1 rfl fun a9 h9 => ?_; clear h1
 refine pl_nil ?_
 refine co_then ?_
 refine co_seq ?_
 refine co_seq ?_
 refine co_reg ?_
 refine pk0 (v := pt b 0) h9 rfl fun a10 h10 => ?_; clear h9
 have hk13 := hD.kept hg4 (by simp)
 refine pw h10 rfl (op_call (args := #[pt b 0]) (R := fun res xw => res = .bool true ∧ w2 = xw) rfl rfl rfl (by kernel_rfl) (by kernel_rfl) (Try.call78 _ _) (lzeroZ_any b w2 hk13) (by rintro e x ⟨rfl, rfl⟩; exact ⟨_, rfl, ⟨rfl, rfl⟩⟩)) ?_; clear h10
 rintro _ _ a11 ⟨rfl, rfl⟩ h11
 refine pk0 (v := .bool true) h11 rfl fun a15 h15 => ?_; clear h11
 refine psk h15 rfl fun a16 h16 => ?_; clear h15
 refine psk h16 rfl fun a17 h17 => ?_; clear h16
 refine pk0 (v := .bool true) h17 rfl fun a18 h18 => ?_; clear h17
 refine pk0 (v := .bool true) h18 rfl fun a19 h19 => ?_; clear h18
 refine psk h19 rfl fun a20 h20 => ?_; clear h19
 refine psk h20 rfl fun a21 h21 => ?_; clear h20
 refine psk h21 rfl fun a22 h22 => ?_; clear h21
 refine psk h22 rfl fun a23 h23 => ?_; clear h22
 refine psk h23 rfl fun a24 h24 => ?_; clear h23
 refine psk h24 rfl fun a25 h25 => ?_; clear h24
 refine psk h25 rfl fun a26 h26 => ?_; clear h25
 refine pk0 (v := .bool true) h26 rfl fun a27 h27 => ?_; clear h26
 refine pl_nil ?_
 refine co_then ?_
 refine co_true h27 rfl ?_
 refine co_seq ?_
 refine co_reg ?_
 refine pk0 (v := .agg #[.int .i64 0, .int .i64 0, .slice none 0 0, .int .u64 0]) h27 rfl fun a28 h28 => ?_; clear h27
 refine pwD h28 rfl (op_storeN rfl rfl rfl (all_cons rfl (all_cons rfl (all_cons rfl (all_cons rfl all_nil)))) (by kernel_rfl) hk5 rfl) ?_; clear h28
 rintro _ w30 a29 ⟨hk31, hz32, hg33⟩ h29
 have hk31' : Blk w30 N3 47 #[.int .i64 0, .int .i64 0, .slice none 0 0, .int .u64 0] := hk31; clear hk31
 have hz34 := hg33.size
 refine pk0 (v := .bool false) h29 rfl fun a35 h35 => ?_; clear h29
 refine pl_nil ?_
 refine co_then ?_
 refine wp_ret ?_
 refine co_thenR ?_
 refine co_retC1 (Q := fun _ _ _ => True) h35 rfl rfl rfl hk31' Try.underlying47 rfl (by kernel_rfl) ?_
 have hB36 := hb_new hB0 hg4
 have hB37 := hb_at hB36 hg33 (by omega)
 exact ⟨rfl, hB37⟩
set_option maxRecDepth 100000 in
theorem lAllZ_any (b : Nat) (w : World) (hD : Blk w b 67 #[.bool false, .slice none 0 0, .map none]) :
    Calls Try.prog 24 #[pt b 0] w fun e w' => e = .returned (.slice none 0 0) ∧ Below w.heap.size w w' := by
 have hB0 := Below.refl w.heap.size w
 have hl_hD := hD.lt
 refine co_enter (n := 10) Try.func24 rfl rfl rfl [(0, pt b 0)] rfl (fun a h0 => ?_)
 refine co_seq ?_
 refine co_reg ?_
 refine pk0 (v := .slice none 0 0) h0 rfl fun a1 h1 => ?_; clear h0
 refine pl_nil ?_
 refine co_then ?_
 refine co_seq ?_
 refine co_seq ?_
 refine co_reg ?_
 refine pk0 (v := pt b 0) h1 rfl fun a2 h2 => ?_; clear h1
 refine pw h2 rfl (op_call (args := #[pt b 0]) (R := fun res xw => res = .bool true ∧ w = xw) rfl rfl rfl (by kernel_rfl) (by kernel_rfl) (Try.call78 _ _) (lzeroZ_any b w hD) (by rintro e x ⟨rfl, rfl⟩; exact ⟨_, rfl, ⟨rfl, rfl⟩⟩)) ?_; clear h2
 rintro _ _ a3 ⟨rfl, rfl⟩ h3
 refine pl_nil ?_
 refine co_then ?_
 refine co_true h3 rfl ?_
 refine co_seq ?_
 refine co_reg ?_
 refine pk0 (v := .slice none 0 0) h3 rfl fun a6 h6 => ?_; clear h3
 refine pl_nil ?_
 refine co_then ?_
 refine wp_ret ?_
 refine co_thenR ?_
 refine co_ret1 h6 rfl rfl ?_
 exact ⟨rfl, hB0⟩

def TyL (w : World) (k : Nat) : Prop := (∃ cs T fr, w.heap[k]? = some (.cells cs T fr) ∧ (T = 67 ∨ T = 47 ∨ T = 127 ∨ T = 41)) ∨ ∃ es cl, w.heap[k]? = some (.map es cl)
/-- A type that is none of a log's parts. -/
def offL (T : TypeId) : Prop := T ≠ 67 ∧ T ≠ 47 ∧ T ≠ 127 ∧ T ≠ 41
instance (T : TypeId) : Decidable (offL T) := by unfold offL; infer_instance
theorem not_tyL {w : World} {N : Nat} {T : TypeId} {cs : Array Value} (hb : w.heap[N]? = some (.cells cs T (0, 0))) (hT : offL T) : ¬ TyL w N := by
  rintro (⟨cs', T', fr, h1, h2⟩ | ⟨es, cl, h1⟩)
  · rw [hb] at h1
    simp only [Option.some.injEq, Obj.cells.injEq] at h1
    obtain ⟨_, rfl, _⟩ := h1
    rcases h2 with q | q | q | q
    · exact hT.1 q
    · exact hT.2.1 q
    · exact hT.2.2.1 q
    · exact hT.2.2.2 q
  · rw [hb] at h1; cases h1
/-- Blocks that were there, each of a type that a log's parts have. -/
def OfL (S : Nat → Prop) (w : World) : Prop := ∀ q, S q → q < w.heap.size ∧ TyL w q
/-- A log that was made: its parts are in S. -/
def LObj (S : Nat → Prop) (w : World) (b : Nat) (L : List EntT) : Prop := OfL S w ∧ ∃ M u, LgP S w.heap.size w b M u L
def tot (S : Nat → Prop) (n : Nat) (w : World) (q : Nat) : Prop := (S q ∨ n ≤ q) ∧ q < w.heap.size ∧ TyL w q
section
variable {S S' D : Nat → Prop} {n : Nat} {w x : World} {b M N : Nat} {u v : Value} {L : List EntT} {cs : Array Value} {T e : TypeId} {B sz k : Nat} {xs : List Value}
theorem ins_tot (h : InS S n v) (hr : w.ownsRow B e sz v k xs) (he : e = 47 ∨ e = 127) (m : Nat) : InS (tot S n w) m v := fun i hi => by
  obtain ⟨cs, hc⟩ := row_block hr hi
  exact .inl ⟨h i hi, (Array.getElem?_eq_some_iff.1 hc).1, .inl ⟨cs, e, _, hc, by rcases he with q | q; exact .inr (.inl q); exact .inr (.inr (.inl q))⟩⟩
theorem LgP.fin (h : LgP S n w b M u L) : LObj (tot S n w) w b L := by
  refine ⟨fun q hq => hq.2, M, u, h.blk, h.map, h.row, fun e he => ⟨(h.ents e he).row, ins_tot (h.ents e he).ins (h.ents e he).row (.inr rfl) _, (h.ents e he).len, (h.ents e he).each, (h.ents e he).ts0, (h.ents e he).ts1, (h.ents e he).cl, (h.ents e he).rq⟩, .inl ⟨h.sb, h.blk.lt, .inl ⟨_, _, _, h.blk, .inl rfl⟩⟩, ?_, ins_tot h.su h.row (.inl rfl) _, h.uq, h.len⟩
  obtain ⟨c, hm⟩ := h.map
  have hlt := hm.lt
  obtain ⟨l, ⟨es, cl, h1, _⟩, _⟩ := hm
  exact .inl ⟨h.sM, hlt, .inr ⟨es, cl, h1⟩⟩
theorem Grew.tot (h : But S w x) : Grew S (tot S w.heap.size x) w x := ⟨fun q hq => hq.1, h⟩
theorem ins_in (h : InS S w.heap.size v) (hr : w.ownsRow B e sz v k xs) : ∀ i, v.ownBlock = some i → S i := fun i hi => by
  rcases h i hi with q | q
  · exact q
  · have := (hr.lt i hi).2; omega
theorem insR_tot (h : ∀ i, v.ownBlock = some i → S i) (hr : x.ownsRow B e sz v k xs) (he : e = 47 ∨ e = 127) (m : Nat) : InS (fun q => S q ∧ q < x.heap.size ∧ TyL x q) m v := fun i hi => by
  obtain ⟨cs, hc⟩ := row_block hr hi
  exact .inl ⟨h i hi, (Array.getElem?_eq_some_iff.1 hc).1, .inl ⟨cs, e, _, hc, by rcases he with q | q; exact .inr (.inl q); exact .inr (.inr (.inl q))⟩⟩
/-- A call that looks alone. -/
theorem LgP.ro (h : LgP S w.heap.size w b M u L) (h2 : LgP S w.heap.size x b M u L) : LObj (fun q => S q ∧ q < x.heap.size ∧ TyL x q) x b L := by
  refine ⟨fun q hq => hq.2, M, u, h2.blk, h2.map, h2.row, fun e he => ⟨(h2.ents e he).row, insR_tot (ins_in (h.ents e he).ins (h.ents e he).row) (h2.ents e he).row (.inr rfl) _, (h.ents e he).len, (h.ents e he).each, (h.ents e he).ts0, (h.ents e he).ts1, (h.ents e he).cl, (h.ents e he).rq⟩, .inl ⟨?_, h2.blk.lt, .inl ⟨_, _, _, h2.blk, .inl rfl⟩⟩, ?_, insR_tot (ins_in h.su h.row) h2.row (.inl rfl) _, h.uq, h.len⟩
  · rcases h.sb with q | q
    · exact q
    · have := h.blk.lt; omega
  · obtain ⟨c, hm⟩ := h.map
    have h1 : S M := by
      rcases h.sM with q | q
      · exact q
      · have := hm.lt; omega
    obtain ⟨c2, hm2⟩ := h2.map
    have hlt := hm2.lt
    obtain ⟨l, ⟨es, cl, h3, _⟩, _⟩ := hm2
    exact .inl ⟨h1, hlt, .inr ⟨es, cl, h3⟩⟩
theorem Grew.ro (h : But S w x) : Grew S (fun q => S q ∧ q < x.heap.size ∧ TyL x q) w x := ⟨fun q hq => .inl hq.1, h⟩
theorem blkL (h : Blk w N T cs) (hT : offL T) (hS : OfL S w) (hb : But S w x) : Blk x N T cs := by
  have hl := h.lt
  unfold Blk at h ⊢
  rw [hb.block N hl (fun h' => not_tyL h hT (hS N h').2)]; exact h
theorem rowL (hr : w.ownsRow B e sz v k xs) (hT : offL e) (hS : OfL S w) (hb : But S w x) : x.ownsRow B e sz v k xs :=
  row_sameL hr fun i hi => by
    obtain ⟨cs, hc⟩ := row_block hr hi
    exact hb.block i (Array.getElem?_eq_some_iff.1 hc).1 (fun h => not_tyL hc hT (hS i h).2)
/-- All that is the log's is as it was: so is the log. -/
theorem LObj.keep (h : LObj S w b L) (hs : w.heap.size ≤ x.heap.size) (hk : ∀ q, S q → x.heap[q]? = w.heap[q]?) : LObj S x b L := by
  obtain ⟨hS, M, u, h⟩ := h
  have hb : S b := by
    rcases h.sb with q | q
    · exact q
    · have := h.blk.lt; omega
  have hty : OfL S x := fun q hq => ⟨by have := (hS q hq).1; omega, by
    have h1 := (hS q hq).2
    unfold TyL at h1 ⊢
    rw [hk q hq]; exact h1⟩
  have up : ∀ {v : Value}, (∀ i, v.ownBlock = some i → S i) → InS S x.heap.size v := fun hv i hi => .inl (hv i hi)
  refine ⟨hty, M, u, ?_, ?_, row_sameL h.row (fun i hi => hk i (ins_in h.su h.row i hi)), fun e he => ⟨row_sameL (h.ents e he).row (fun i hi => hk i (ins_in (h.ents e he).ins (h.ents e he).row i hi)), up (ins_in (h.ents e he).ins (h.ents e he).row), (h.ents e he).len, (h.ents e he).each, (h.ents e he).ts0, (h.ents e he).ts1, (h.ents e he).cl, (h.ents e he).rq⟩, .inl hb, ?_, up (ins_in h.su h.row), h.uq, h.len⟩
  · have hB := h.blk
    unfold Blk at hB ⊢
    rw [hk b hb]; exact hB
  · obtain ⟨c, hm⟩ := h.map
    have hM : S M := by
      rcases h.sM with q | q
      · exact q
      · have := hm.lt; omega
    obtain ⟨l, ⟨es, cl, h1, h2⟩, h3⟩ := hm
    exact ⟨c, l, ⟨es, cl, by rw [hk M hM]; exact h1, h2⟩, h3⟩
  · obtain ⟨c, hm⟩ := h.map
    rcases h.sM with q | q
    · exact .inl q
    · have := hm.lt; omega
theorem LObj.gr {row : Option Nat} (h : LObj S w b L) (hg : w.grownBy x row) (hr : ∀ k, row = some k → ¬ S k) : LObj S x b L :=
  h.keep hg.size fun k hk => hg.block k (h.1 k hk).1 (fun e => hr k e.symm hk)
theorem LObj.new (h : LObj S w b L) (hg : w.grownBy x none) : LObj S x b L := h.gr hg (fun k e => by cases e)
theorem LObj.call (h : LObj S w b L) (hb : Below w.heap.size w x) : LObj S x b L := h.new (below_grown hb)
theorem LObj.at (h : LObj S w b L) (hb : Blk w N T cs) (hT : offL T) (hg : w.grownBy x (some N)) : LObj S x b L := h.gr hg (fun k e => by cases e; exact fun hS => not_tyL hb hT (h.1 N hS).2)
theorem LObj.row (h : LObj S w b L) (hr : w.ownsRow B e sz v k xs) (hT : offL e) (hg : w.grownBy x v.ownBlock) : LObj S x b L :=
  h.gr hg (fun k e hS => by obtain ⟨cs, hc⟩ := row_block hr e; exact not_tyL hc hT (h.1 k hS).2)
theorem LObj.but (h : LObj S w b L) (hd : ∀ q, S q → D q → False) (hb : But D w x) : LObj S x b L := h.keep hb.size fun k hk => hb.block k (h.1 k hk).1 (fun q => hd k hk q)
end
theorem tNew (w : World) : Calls Try.prog 21 #[] w fun e w' => ∃ N S, e = .returned (pt N 0) ∧ LObj S w' N [] ∧ (∀ q, S q → w.heap.size ≤ q) ∧ Below w.heap.size w w' :=
  (lNew_any w).mono fun e x ⟨N, M, h1, h2, h3⟩ => ⟨N, _, h1, h2.fin, fun q hq => by rcases hq.1 with k | k; exact absurd k id; exact k, h3⟩
theorem tSet {S : Nat → Prop} {b : Nat} {L : List EntT} (w : World) (i c r : Int) (v : Value) (l : List OpT) (ts : Int) (h : LObj S w b L) (hs : SliceOf opE 3 w v l) (hvS : l ≠ [] → ∀ k, v.ownBlock = some k → ¬ S k) (hlen : l.length ≤ 20) (hts : 0 ≤ ts ∧ ts < 18446744073709551616) (hen : (∀ o ∈ l, opOk o) ∧ (Lit.int .i64 c).wf = true ∧ (Lit.int .i64 r).wf = true) :
    Calls Try.prog 39 #[pt b 0, .int .i64 i, .agg #[.int .i64 c, .int .i64 r, v, .int .u64 ts]] w fun e w' => ∃ L' S', e = .returned (.int .i64 (setE L i c r l ts)) ∧ LObj S' w' b L' ∧ SetR L i c r l ts L' ∧ Grew S S' w w' := by
  obtain ⟨_, M, u, hP⟩ := h
  exact (lSet_any w S b M u L i c r v l ts w (But.refl _ _) hP hs hvS hlen hts hen).mono fun e x ⟨u', L', h1, h2, h3, h4⟩ => ⟨L', _, h1, h2.fin, h3, .tot h4⟩
theorem tStamp {S : Nat → Prop} {b : Nat} {L : List EntT} (w : World) (i ts : Int) (h : LObj S w b L) (hts : 0 ≤ ts ∧ ts < 18446744073709551616) :
    Calls Try.prog 40 #[pt b 0, .int .i64 i, .int .u64 ts] w fun e w' => ∃ S', e = .returned (.int .i64 (stE L i ts)) ∧ LObj S' w' b (stL L i ts) ∧ Grew S S' w w' := by
  obtain ⟨_, M, u, hP⟩ := h
  exact (lStamp_any w S b M u L i ts w (But.refl _ _) hP hts).mono fun e x ⟨h1, h2, h4⟩ => ⟨_, h1, h2.fin, .tot h4⟩
theorem tFind {S : Nat → Prop} {b : Nat} {L : List EntT} (w : World) (c r : Int) (h : LObj S w b L) :
    Calls Try.prog 30 #[pt b 0, .int .i64 c, .int .i64 r] w fun e w' => ∃ S', e = .returned (.int .i64 (fndI L c r)) ∧ LObj S' w' b L ∧ Grew S S' w w' := by
  obtain ⟨_, M, u, hP⟩ := h
  exact (lFind_any w S b M u L c r w (But.refl _ _) hP).mono fun e x ⟨h1, h2, h4⟩ => ⟨_, h1, hP.ro h2, .ro h4⟩
theorem tTop {S : Nat → Prop} {b : Nat} {L : List EntT} (w : World) (c : Int) (h : LObj S w b L) :
    Calls Try.prog 32 #[pt b 0, .int .i64 c] w fun e w' => ∃ S', e = .returned (.int .i64 (topN L c)) ∧ LObj S' w' b L ∧ Grew S S' w w' := by
  obtain ⟨_, M, u, hP⟩ := h
  exact (lTop_any w S b M u L c w (But.refl _ _) hP).mono fun e x ⟨h1, h2, h4⟩ => ⟨_, h1, hP.ro h2, .ro h4⟩
theorem tLen {S : Nat → Prop} {b : Nat} {L : List EntT} (w : World) (h : LObj S w b L) :
    Calls Try.prog 25 #[pt b 0] w fun e w' => ∃ S', e = .returned (.int .i64 (L.length : Nat)) ∧ LObj S' w' b L ∧ Grew S S' w w' := by
  obtain ⟨_, M, u, hP⟩ := h
  exact (lLen_any w S b M u L w (But.refl _ _) hP).mono fun e x ⟨h1, h2, h4⟩ => ⟨_, h1, hP.ro h2, .ro h4⟩
theorem tStamped {S : Nat → Prop} {b : Nat} {L : List EntT} (w : World) (h : LObj S w b L) :
    Calls Try.prog 26 #[pt b 0] w fun e w' => ∃ S', e = .returned (.int .i64 (stN L : Nat)) ∧ LObj S' w' b L ∧ Grew S S' w w' := by
  obtain ⟨_, M, u, hP⟩ := h
  exact (lStamped_any w S b M u L w (But.refl _ _) hP).mono fun e x ⟨h1, h2, h4⟩ => ⟨_, h1, hP.ro h2, .ro h4⟩
theorem tAt {S : Nat → Prop} {b : Nat} {L : List EntT} (w : World) (i : Int) (h : LObj S w b L) :
    Calls Try.prog 28 #[pt b 0, .int .i64 i] w fun e w' => ∃ ev S', e = .returned (.tuple #[.agg #[.int .i64 (atE L i).client, .int .i64 (atE L i).req, ev, .int .u64 (atE L i).ts], .bool (atV L i)]) ∧ w'.ownsRow w.heap.size 127 3 ev (atE L i).opl.length ((atE L i).opl.flatMap opE) ∧ LObj S' w' b L ∧ (∀ q, S' q → q < w.heap.size) ∧ Grew S S' w w' := by
  obtain ⟨hS, M, u, hP⟩ := h
  exact (lAt_any w S b M u L i w (But.refl _ _) hP).mono fun e x ⟨ev, h1, h3, h2, h4⟩ => ⟨ev, _, h1, h3, hP.ro h2, fun q hq => (hS q hq.1).1, .ro h4⟩
theorem tAll {S : Nat → Prop} {b : Nat} {L : List EntT} (w : World) (h : LObj S w b L) :
    Calls Try.prog 24 #[pt b 0] w fun e w' => ∃ L2 u2 S', e = .returned u2 ∧ w'.ownsRow w.heap.size 47 4 u2 L2.length (L2.flatMap entE) ∧ EntsK (fun _ => False) w.heap.size w' L2 ∧ L2.map e0 = L.map e0 ∧ LObj S' w' b L ∧ (∀ q, S' q → q < w.heap.size) ∧ Grew S S' w w' := by
  obtain ⟨hS, M, u, hP⟩ := h
  exact (lAll_any w S b M u L w (But.refl _ _) hP).mono fun e x ⟨u2, L2, h1, h3, h5, h6, h2, h4⟩ => ⟨u2, L2, _, h1, h3, h5, h6, hP.ro h2, fun q hq => (hS q hq.1).1, .ro h4⟩

end Go.Proofs.Ythmnndbpadegnaa
