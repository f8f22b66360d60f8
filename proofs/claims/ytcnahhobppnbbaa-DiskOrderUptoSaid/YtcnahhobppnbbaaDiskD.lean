/- Package disk: New, what is no disk; the disk as one object. Conditions: none. -/
import Derived.Test.YtcnahhobppnbbaaDiskC
namespace Go.Proofs.Ytcnahhobppnbbaa
open Go.RowKit Go.PlainAid
set_option linter.unusedVariables false

set_option maxRecDepth 100000 in
theorem dNew_any  (w : World)  :
    Calls Try.prog 15 #[] w fun e w' => ∃ (N : Nat) (M : Nat), e = .returned (pt N 0) ∧ DkP (fun _ => False) w.heap.size w' N M (.slice none 0 0) (fun _ => none) 0 ⟨fun _ => none, [], 1, 1⟩ ∧ Below w.heap.size w w' := by
 have hB0 := Below.refl w.heap.size w
 refine co_enter (n := 4) Try.func15 rfl rfl rfl [] rfl (fun a h0 => ?_)
 refine co_seq ?_
 refine co_reg ?_
 refine pk0 (v := .pointer none) h0 rfl fun a1 h1 => ?_; clear h0
 refine pl_nil ?_
 refine co_then ?_
 refine co_seq ?_
 refine co_reg ?_
 refine pw h1 rfl (op_makeO intK fileV (by kernel_rfl) (by kernel_rfl) rfl) ?_; clear h1
 rintro _ w3 a2 ⟨B4, rfl, hN5, hz6, hm7, hg8⟩ h2
 have hz9 := hg8.size
 have hl10 := hm7.lt
 refine pk0 (v := .agg #[.bool true, .map (some B4), .slice none 0 0, .int .i64 1, .int .i64 1]) h2 rfl fun a11 h11 => ?_; clear h2
 refine pw h11 rfl (op_new (v := fun N => pt N 0) (T := 47) (cs := #[.bool true, .map (some B4), .slice none 0 0, .int .i64 1, .int .i64 1]) (by kernel_rfl) (by kernel_rfl) (by kernel_rfl)) ?_; clear h11
 rintro _ w13 a12 ⟨N14, rfl, hN17, hz18, hk16, hg15⟩ h12
 have hz19 := hg15.size
 try dsimp only at h12
 refine pk0 (v := pt N14 0) h12 rfl fun a20 h20 => ?_; clear h12
 refine pl_nil ?_
 refine co_then ?_
 refine wp_ret ?_
 refine co_ret1 h20 rfl rfl ?_
 have hM21 := hm7.kept hg15 (by simp)
 have hB22 := hb_new hB0 hg8
 have hB23 := hb_new hB22 hg15
 exact ⟨_, _, rfl, ⟨hk16, hM21, World.ownsRow_nil _ _ _ _, Fam.none, .inr (by omega), .inr (by omega), InS.nil, fun _ => rfl⟩, hB23⟩
set_option maxRecDepth 100000 in
theorem dzeroN_any  (w : World)  :
    Calls Try.prog 80 #[.pointer none] w fun e w' => e = .returned (.bool true) ∧ w = w' := by
 have hB0 := Below.refl w.heap.size w
 refine co_enter (n := 12) Try.func80 rfl rfl rfl [(0, .pointer none)] rfl (fun a h0 => ?_)
 refine co_seq ?_
 refine co_reg ?_
 refine pk0 (v := .bool false) h0 rfl fun a1 h1 => ?_; clear h0
 refine pl_nil ?_
 refine co_then ?_
 refine co_seq ?_
 refine co_reg ?_
 refine pk0 (v := .pointer none) h1 rfl fun a2 h2 => ?_; clear h1
 refine pk0 (v := .bool true) h2 rfl fun a3 h3 => ?_; clear h2
 refine pk0 (v := .bool true) h3 rfl fun a4 h4 => ?_; clear h3
 refine psk h4 rfl fun a5 h5 => ?_; clear h4
 refine psk h5 rfl fun a6 h6 => ?_; clear h5
 refine psk h6 rfl fun a7 h7 => ?_; clear h6
 refine psk h7 rfl fun a8 h8 => ?_; clear h7
 refine psk h8 rfl fun a9 h9 => ?_; clear h8
 refine pk0 (v := .bool true) h9 rfl fun a10 h10 => ?_; clear h9
 refine pk0 (v := .bool true) h10 rfl fun a11 h11 => ?_; clear h10
 refine pl_nil ?_
 refine co_then ?_
 refine wp_ret ?_
 refine co_ret1 h11 rfl rfl ?_
 exact ⟨rfl, rfl⟩
set_option maxRecDepth 100000 in
theorem dWriteN_any (n : Int) (t : ByteArray) (w : World)  :
    Calls Try.prog 21 #[.pointer none, .int .i64 n, .string t] w fun e w' => e = .returned (.int .i64 8) ∧ Below w.heap.size w w' := by
 have hB0 := Below.refl w.heap.size w
 refine co_enter (n := 46) Try.func21 rfl rfl rfl [(0, .pointer none), (1, .int .i64 n), (2, .string t)] rfl (fun a h0 => ?_)
 refine co_seq ?_
 refine co_reg ?_
 refine pk0 (v := .int .i64 0) h0 rfl fun a1 h1 => ?_; clear h0
 refine pl_nil ?_
 refine co_then ?_
 refine co_seq ?_
 refine co_seq ?_
 refine co_reg ?_
 refine pk0 (v := .pointer none) h1 rfl fun a2 h2 => ?_; clear h1
 refine pw h2 rfl (op_call (args := #[.pointer none]) (R := fun res xw => res = .bool true ∧ w = xw) rfl rfl rfl (by kernel_rfl) (by kernel_rfl) (Try.call80 _ _) (dzeroN_any  w ) (by rintro e x ⟨rfl, rfl⟩; exact ⟨_, rfl, ⟨rfl, rfl⟩⟩)) ?_; clear h2
 rintro _ _ a3 ⟨rfl, rfl⟩ h3
 refine pl_nil ?_
 refine co_then ?_
 refine co_true h3 rfl ?_
 refine co_seq ?_
 refine co_reg ?_
 refine pk0 (v := .int .i64 8) h3 rfl fun a6 h6 => ?_; clear h3
 refine pl_nil ?_
 refine co_then ?_
 refine wp_ret ?_
 refine co_thenR ?_
 refine co_ret1 h6 rfl rfl ?_
 exact ⟨rfl, hB0⟩
set_option maxRecDepth 100000 in
theorem dDropN_any (n : Int) (w : World)  :
    Calls Try.prog 29 #[.pointer none, .int .i64 n] w fun e w' => e = .returned (.int .i64 8) ∧ Below w.heap.size w w' := by
 have hB0 := Below.refl w.heap.size w
 refine co_enter (n := 34) Try.func29 rfl rfl rfl [(0, .pointer none), (1, .int .i64 n)] rfl (fun a h0 => ?_)
 refine co_seq ?_
 refine co_reg ?_
 refine pw h0 rfl (op_new (v := fun N => pt N 0) (T := 3) (cs := #[.int .i64 n]) (by kernel_rfl) (by kernel_rfl) (by kernel_rfl)) ?_; clear h0
 rintro _ w2 a1 ⟨N3, rfl, hN6, hz7, hk5, hg4⟩ h1
 have hz8 := hg4.size
 try dsimp only at h1
 refine pk0 (v := .int .i64 0) h1 rfl fun a9 h9 => ?_; clear h1
 refine pl_nil ?_
 refine co_then ?_
 refine co_seq ?_
 refine co_seq ?_
 refine co_reg ?_
 refine pk0 (v := .pointer none) h9 rfl fun a10 h10 => ?_; clear h9
 refine pw h10 rfl (op_call (args := #[.pointer none]) (R := fun res xw => res = .bool true ∧ w2 = xw) rfl rfl rfl (by kernel_rfl) (by kernel_rfl) (Try.call80 _ _) (dzeroN_any  w2 ) (by rintro e x ⟨rfl, rfl⟩; exact ⟨_, rfl, ⟨rfl, rfl⟩⟩)) ?_; clear h10
 rintro _ _ a11 ⟨rfl, rfl⟩ h11
 refine pl_nil ?_
 refine co_then ?_
 refine co_true h11 rfl ?_
 refine co_seq ?_
 refine co_reg ?_
 refine pk0 (v := .int .i64 8) h11 rfl fun a14 h14 => ?_; clear h11
 refine pl_nil ?_
 refine co_then ?_
 refine wp_ret ?_
 refine co_thenR ?_
 refine co_ret1 h14 rfl rfl ?_
 have hB15 := hb_new hB0 hg4
 exact ⟨rfl, hB15⟩
set_option maxRecDepth 100000 in
theorem dDataN_any (n : Int) (w : World)  :
    Calls Try.prog 19 #[.pointer none, .int .i64 n] w fun e w' => e = .returned (.string (⟨#[]⟩)) ∧ Below w.heap.size w w' := by
 have hB0 := Below.refl w.heap.size w
 refine co_enter (n := 15) Try.func19 rfl rfl rfl [(0, .pointer none), (1, .int .i64 n)] rfl (fun a h0 => ?_)
 refine co_seq ?_
 refine co_reg ?_
 refine pk0 (v := .string (⟨#[]⟩)) h0 rfl fun a1 h1 => ?_; clear h0
 refine pl_nil ?_
 refine co_then ?_
 refine co_seq ?_
 refine co_seq ?_
 refine co_reg ?_
 refine pk0 (v := .pointer none) h1 rfl fun a2 h2 => ?_; clear h1
 refine pw h2 rfl (op_call (args := #[.pointer none]) (R := fun res xw => res = .bool true ∧ w = xw) rfl rfl rfl (by kernel_rfl) (by kernel_rfl) (Try.call80 _ _) (dzeroN_any  w ) (by rintro e x ⟨rfl, rfl⟩; exact ⟨_, rfl, ⟨rfl, rfl⟩⟩)) ?_; clear h2
 rintro _ _ a3 ⟨rfl, rfl⟩ h3
 refine pl_nil ?_
 refine co_then ?_
 refine co_true h3 rfl ?_
 refine co_seq ?_
 refine co_reg ?_
 refine pk0 (v := .string (⟨#[]⟩)) h3 rfl fun a6 h6 => ?_; clear h3
 refine pl_nil ?_
 refine co_then ?_
 refine wp_ret ?_
 refine co_thenR ?_
 refine co_ret1 h6 rfl rfl ?_
 exact ⟨rfl, hB0⟩
set_option maxRecDepth 100000 in
theorem dFilesN_any  (w : World)  :
    Calls Try.prog 23 #[.pointer none] w fun e w' => e = .returned (.slice none 0 0) ∧ Below w.heap.size w w' := by
 have hB0 := Below.refl w.heap.size w
 refine co_enter (n := 29) Try.func23 rfl rfl rfl [(0, .pointer none)] rfl (fun a h0 => ?_)
 refine co_seq ?_
 refine co_reg ?_
 refine pk0 (v := .slice none 0 0) h0 rfl fun a1 h1 => ?_; clear h0
 refine pl_nil ?_
 refine co_then ?_
 refine co_seq ?_
 refine co_seq ?_
 refine co_reg ?_
 refine pk0 (v := .pointer none) h1 rfl fun a2 h2 => ?_; clear h1
 refine pw h2 rfl (op_call (args := #[.pointer none]) (R := fun res xw => res = .bool true ∧ w = xw) rfl rfl rfl (by kernel_rfl) (by kernel_rfl) (Try.call80 _ _) (dzeroN_any  w ) (by rintro e x ⟨rfl, rfl⟩; exact ⟨_, rfl, ⟨rfl, rfl⟩⟩)) ?_; clear h2
 rintro _ _ a3 ⟨rfl, rfl⟩ h3
 refine pl_nil ?_
 refine co_then ?_
 refine co_true h3 rfl ?_
 refine co_seq ?_
 refine co_reg ?_
 refine pk0 (v := .slice none 0 0) h3 rfl fun a6 h6 => ?_; clear h3
 refine pl_nil ?_
 refine co_then ?_
 refine wp_ret ?_
 refine co_thenR ?_
 refine co_ret1 h6 rfl rfl ?_
 exact ⟨rfl, hB0⟩
set_option maxRecDepth 100000 in
theorem dSyncN_any  (w : World)  :
    Calls Try.prog 22 #[.pointer none] w fun e w' => e = .returned (.int .i64 0) ∧ Below w.heap.size w w' := by
 have hB0 := Below.refl w.heap.size w
 refine co_enter (n := 43) Try.func22 rfl rfl rfl [(0, .pointer none)] rfl (fun a h0 => ?_)
 refine co_seq ?_
 refine co_reg ?_
 refine pk0 (v := .int .i64 0) h0 rfl fun a1 h1 => ?_; clear h0
 refine pl_nil ?_
 refine co_then ?_
 refine co_seq ?_
 refine co_seq ?_
 refine co_reg ?_
 refine pk0 (v := .pointer none) h1 rfl fun a2 h2 => ?_; clear h1
 refine pw h2 rfl (op_call (args := #[.pointer none]) (R := fun res xw => res = .bool true ∧ w = xw) rfl rfl rfl (by kernel_rfl) (by kernel_rfl) (Try.call80 _ _) (dzeroN_any  w ) (by rintro e x ⟨rfl, rfl⟩; exact ⟨_, rfl, ⟨rfl, rfl⟩⟩)) ?_; clear h2
 rintro _ _ a3 ⟨rfl, rfl⟩ h3
 refine pl_nil ?_
 refine co_then ?_
 refine co_true h3 rfl ?_
 refine co_seq ?_
 refine co_reg ?_
 refine pk0 (v := .int .i64 0) h3 rfl fun a6 h6 => ?_; clear h3
 refine pl_nil ?_
 refine co_then ?_
 refine wp_ret ?_
 refine co_thenR ?_
 refine co_ret1 h6 rfl rfl ?_
 exact ⟨rfl, hB0⟩
set_option maxRecDepth 100000 in
theorem dPendingN_any  (w : World)  :
    Calls Try.prog 24 #[.pointer none] w fun e w' => e = .returned (.int .i64 0) ∧ Below w.heap.size w w' := by
 have hB0 := Below.refl w.heap.size w
 refine co_enter (n := 23) Try.func24 rfl rfl rfl [(0, .pointer none)] rfl (fun a h0 => ?_)
 refine co_seq ?_
 refine co_reg ?_
 refine pk0 (v := .int .i64 0) h0 rfl fun a1 h1 => ?_; clear h0
 refine pl_nil ?_
 refine co_then ?_
 refine co_seq ?_
 refine co_seq ?_
 refine co_reg ?_
 refine pk0 (v := .pointer none) h1 rfl fun a2 h2 => ?_; clear h1
 refine pw h2 rfl (op_call (args := #[.pointer none]) (R := fun res xw => res = .bool true ∧ w = xw) rfl rfl rfl (by kernel_rfl) (by kernel_rfl) (Try.call80 _ _) (dzeroN_any  w ) (by rintro e x ⟨rfl, rfl⟩; exact ⟨_, rfl, ⟨rfl, rfl⟩⟩)) ?_; clear h2
 rintro _ _ a3 ⟨rfl, rfl⟩ h3
 refine pl_nil ?_
 refine co_then ?_
 refine co_true h3 rfl ?_
 refine co_seq ?_
 refine co_reg ?_
 refine pk0 (v := .int .i64 0) h3 rfl fun a6 h6 => ?_; clear h3
 refine pl_nil ?_
 refine co_then ?_
 refine wp_ret ?_
 refine co_thenR ?_
 refine co_ret1 h6 rfl rfl ?_
 exact ⟨rfl, hB0⟩
set_option maxRecDepth 100000 in
theorem dSerialN_any  (w : World)  :
    Calls Try.prog 30 #[.pointer none] w fun e w' => e = .returned (.int .i64 0) ∧ Below w.heap.size w w' := by
 have hB0 := Below.refl w.heap.size w
 refine co_enter (n := 9) Try.func30 rfl rfl rfl [(0, .pointer none)] rfl (fun a h0 => ?_)
 refine co_seq ?_
 refine co_reg ?_
 refine pk0 (v := .int .i64 0) h0 rfl fun a1 h1 => ?_; clear h0
 refine pl_nil ?_
 refine co_then ?_
 refine co_seq ?_
 refine co_seq ?_
 refine co_reg ?_
 refine pk0 (v := .pointer none) h1 rfl fun a2 h2 => ?_; clear h1
 refine pw h2 rfl (op_call (args := #[.pointer none]) (R := fun res xw => res = .bool true ∧ w = xw) rfl rfl rfl (by kernel_rfl) (by kernel_rfl) (Try.call80 _ _) (dzeroN_any  w ) (by rintro e x ⟨rfl, rfl⟩; exact ⟨_, rfl, ⟨rfl, rfl⟩⟩)) ?_; clear h2
 rintro _ _ a3 ⟨rfl, rfl⟩ h3
 refine pl_nil ?_
 refine co_then ?_
 refine co_true h3 rfl ?_
 refine co_seq ?_
 refine co_reg ?_
 refine pk0 (v := .int .i64 0) h3 rfl fun a6 h6 => ?_; clear h3
 refine pl_nil ?_
 refine co_then ?_
 refine wp_ret ?_
 refine co_thenR ?_
 refine co_ret1 h6 rfl rfl ?_
 exact ⟨rfl, hB0⟩
set_option maxRecDepth 100000 in
theorem dBootsN_any  (w : World)  :
    Calls Try.prog 31 #[.pointer none] w fun e w' => e = .returned (.int .i64 0) ∧ Below w.heap.size w w' := by
 have hB0 := Below.refl w.heap.size w
 refine co_enter (n := 9) Try.func31 rfl rfl rfl [(0, .pointer none)] rfl (fun a h0 => ?_)
 refine co_seq ?_
 refine co_reg ?_
 refine pk0 (v := .int .i64 0) h0 rfl fun a1 h1 => ?_; clear h0
 refine pl_nil ?_
 refine co_then ?_
 refine co_seq ?_
 refine co_seq ?_
 refine co_reg ?_
 refine pk0 (v := .pointer none) h1 rfl fun a2 h2 => ?_; clear h1
 refine pw h2 rfl (op_call (args := #[.pointer none]) (R := fun res xw => res = .bool true ∧ w = xw) rfl rfl rfl (by kernel_rfl) (by kernel_rfl) (Try.call80 _ _) (dzeroN_any  w ) (by rintro e x ⟨rfl, rfl⟩; exact ⟨_, rfl, ⟨rfl, rfl⟩⟩)) ?_; clear h2
 rintro _ _ a3 ⟨rfl, rfl⟩ h3
 refine pl_nil ?_
 refine co_then ?_
 refine co_true h3 rfl ?_
 refine co_seq ?_
 refine co_reg ?_
 refine pk0 (v := .int .i64 0) h3 rfl fun a6 h6 => ?_; clear h3
 refine pl_nil ?_
 refine co_then ?_
 refine wp_ret ?_
 refine co_thenR ?_
 refine co_ret1 h6 rfl rfl ?_
 exact ⟨rfl, hB0⟩
set_option maxRecDepth 100000 in
theorem dCrashN_any (n : Int) (w : World)  :
    Calls Try.prog 25 #[.pointer none, .int .i64 n] w fun e w' => e = .returned (.tuple #[]) ∧ Below w.heap.size w w' := by
 have hB0 := Below.refl w.heap.size w
 refine co_enter (n := 114) Try.func25 rfl rfl rfl [(0, .pointer none), (1, .int .i64 n)] rfl (fun a h0 => ?_)
 refine co_seq ?_
 refine co_seq ?_
 refine co_reg ?_
 refine pk0 (v := .pointer none) h0 rfl fun a1 h1 => ?_; clear h0
 refine pw h1 rfl (op_call (args := #[.pointer none]) (R := fun res xw => res = .bool true ∧ w = xw) rfl rfl rfl (by kernel_rfl) (by kernel_rfl) (Try.call80 _ _) (dzeroN_any  w ) (by rintro e x ⟨rfl, rfl⟩; exact ⟨_, rfl, ⟨rfl, rfl⟩⟩)) ?_; clear h1
 rintro _ _ a2 ⟨rfl, rfl⟩ h2
 refine pl_nil ?_
 refine co_then ?_
 refine co_true h2 rfl ?_
 refine wp_ret ?_
 refine co_thenR ?_
 refine co_ret0 h2 rfl ?_
 exact ⟨rfl, hB0⟩
set_option maxRecDepth 100000 in
theorem dEraseN_any  (w : World)  :
    Calls Try.prog 28 #[.pointer none] w fun e w' => e = .returned (.tuple #[]) ∧ Below w.heap.size w w' := by
 have hB0 := Below.refl w.heap.size w
 refine co_enter (n := 26) Try.func28 rfl rfl rfl [(0, .pointer none)] rfl (fun a h0 => ?_)
 refine co_seq ?_
 refine co_seq ?_
 refine co_reg ?_
 refine pk0 (v := .pointer none) h0 rfl fun a1 h1 => ?_; clear h0
 refine pw h1 rfl (op_call (args := #[.pointer none]) (R := fun res xw => res = .bool true ∧ w = xw) rfl rfl rfl (by kernel_rfl) (by kernel_rfl) (Try.call80 _ _) (dzeroN_any  w ) (by rintro e x ⟨rfl, rfl⟩; exact ⟨_, rfl, ⟨rfl, rfl⟩⟩)) ?_; clear h1
 rintro _ _ a2 ⟨rfl, rfl⟩ h2
 refine pl_nil ?_
 refine co_then ?_
 refine co_true h2 rfl ?_
 refine wp_ret ?_
 refine co_thenR ?_
 refine co_ret0 h2 rfl ?_
 exact ⟨rfl, hB0⟩
set_option maxRecDepth 100000 in
theorem dzeroZ_any (d : Nat) (w : World) (hD : Blk w d 47 #[.bool false, .map none, .slice none 0 0, .int .i64 0, .int .i64 0]) :
    Calls Try.prog 80 #[pt d 0] w fun e w' => e = .returned (.bool true) ∧ w = w' := by
 have hB0 := Below.refl w.heap.size w
 have hl_hD := hD.lt
 refine co_enter (n := 12) Try.func80 rfl rfl rfl [(0, pt d 0)] rfl (fun a h0 => ?_)
 refine co_seq ?_
 refine co_reg ?_
 refine pk0 (v := .bool false) h0 rfl fun a1 h1 => ?_; clear h0
 refine pl_nil ?_
 refine co_then ?_
 refine co_seq ?_
 refine co_reg ?_
 refine pk0 (v := pt d 0) h1 rfl fun a2 h2 => ?_; clear h1
 refine pk0 (v := .bool false) h2 rfl fun a3 h3 => ?_; clear h2
 refine pk0 (v := .bool false) h3 rfl fun a4 h4 => ?_; clear h3
 refine pk0 (v := pt d 0) h4 rfl fun a5 h5 => ?_; clear h4
 refine pk0 (v := pt d 0) h5 rfl fun a6 h6 => ?_; clear h5
 refine pk0 (v := pt d 0) h6 rfl fun a7 h7 => ?_; clear h6
 refine pk (v := .bool false) h7 rfl (rn_load1 rfl rfl Try.isAgg4 (hD.cell rfl)) fun a8 h8 => ?_; clear h7
 refine pk0 (v := .bool true) h8 rfl fun a9 h9 => ?_; clear h8
 refine pk0 (v := .bool true) h9 rfl fun a10 h10 => ?_; clear h9
 refine pk0 (v := .bool true) h10 rfl fun a11 h11 => ?_; clear h10
 refine pl_nil ?_
 refine co_then ?_
 refine wp_ret ?_
 refine co_ret1 h11 rfl rfl ?_
 exact ⟨rfl, rfl⟩
set_option maxRecDepth 100000 in
theorem dWriteZ_any (d : Nat) (n : Int) (t : ByteArray) (w : World) (hD : Blk w d 47 #[.bool false, .map none, .slice none 0 0, .int .i64 0, .int .i64 0]) :
    Calls Try.prog 21 #[pt d 0, .int .i64 n, .string t] w fun e w' => e = .returned (.int .i64 8) ∧ Below w.heap.size w w' := by
 have hB0 := Below.refl w.heap.size w
 have hl_hD := hD.lt
 refine co_enter (n := 46) Try.func21 rfl rfl rfl [(0, pt d 0), (1, .int .i64 n), (2, .string t)] rfl (fun a h0 => ?_)
 refine co_seq ?_
 refine co_reg ?_
 refine pk0 (v := .int .i64 0) h0 rfl fun a1 h1 => ?_; clear h0
 refine pl_nil ?_
 refine co_then ?_
 refine co_seq ?_
 refine co_seq ?_
 refine co_reg ?_
 refine pk0 (v := pt d 0) h1 rfl fun a2 h2 => ?_; clear h1
 refine pw h2 rfl (op_call (args := #[pt d 0]) (R := fun res xw => res = .bool true ∧ w = xw) rfl rfl rfl (by kernel_rfl) (by kernel_rfl) (Try.call80 _ _) (dzeroZ_any d w hD) (by rintro e x ⟨rfl, rfl⟩; exact ⟨_, rfl, ⟨rfl, rfl⟩⟩)) ?_; clear h2
 rintro _ _ a3 ⟨rfl, rfl⟩ h3
 refine pl_nil ?_
 refine co_then ?_
 refine co_true h3 rfl ?_
 refine co_seq ?_
 refine co_reg ?_
 refine pk0 (v := .int .i64 8) h3 rfl fun a6 h6 => ?_; clear h3
 refine pl_nil ?_
 refine co_then ?_
 refine wp_ret ?_
 refine co_thenR ?_
 refine co_ret1 h6 rfl rfl ?_
 exact ⟨rfl, hB0⟩
set_option maxRecDepth 100000 in
theorem dDropZ_any (d : Nat) (n : Int) (w : World) (hD : Blk w d 47 #[.bool false, .map none, .slice none 0 0, .int .i64 0, .int .i64 0]) :
    Calls Try.prog 29 #[pt d 0, .int .i64 n] w fun e w' => e = .returned (.int .i64 8) ∧ Below w.heap.size w w' := by
 have hB0 := Below.refl w.heap.size w
 have hl_hD := hD.lt
 refine co_enter (n := 34) Try.func29 rfl rfl rfl [(0, pt d 0), (1, .int .i64 n)] rfl (fun a h0 => ?_)
 refine co_seq ?_
 refine co_reg ?_
 refine pw h0 rfl (op_new (v := fun N => pt N 0) (T := 3) (cs := #[.int .i64 n]) (by kernel_rfl) (by kernel_rfl) (by kernel_rfl)) ?_; clear h0
 rintro _ w2 a1 ⟨N3, rfl, hN6, hz7, hk5, hg4⟩ h1
 have hz8 := hg4.size
 try dsimp only at h1
 refine pk0 (v := .int .i64 0) h1 rfl fun a9 h9 => ?_; clear h1
 refine pl_nil ?_
 refine co_then ?_
 refine co_seq ?_
 refine co_seq ?_
 refine co_reg ?_
 refine pk0 (v := pt d 0) h9 rfl fun a10 h10 => ?_; clear h9
 have hk13 := hD.kept hg4 (by simp)
 refine pw h10 rfl (op_call (args := #[pt d 0]) (R := fun res xw => res = .bool true ∧ w2 = xw) rfl rfl rfl (by kernel_rfl) (by kernel_rfl) (Try.call80 _ _) (dzeroZ_any d w2 hk13) (by rintro e x ⟨rfl, rfl⟩; exact ⟨_, rfl, ⟨rfl, rfl⟩⟩)) ?_; clear h10
 rintro _ _ a11 ⟨rfl, rfl⟩ h11
 refine pl_nil ?_
 refine co_then ?_
 refine co_true h11 rfl ?_
 refine co_seq ?_
 refine co_reg ?_
 refine pk0 (v := .int .i64 8) h11 rfl fun a15 h15 => ?_; clear h11
 refine pl_nil ?_
 refine co_then ?_
 refine wp_ret ?_
 refine co_thenR ?_
 refine co_ret1 h15 rfl rfl ?_
 have hB16 := hb_new hB0 hg4
 exact ⟨rfl, hB16⟩
set_option maxRecDepth 100000 in
theorem dDataZ_any (d : Nat) (n : Int) (w : World) (hD : Blk w d 47 #[.bool false, .map none, .slice none 0 0, .int .i64 0, .int .i64 0]) :
    Calls Try.prog 19 #[pt d 0, .int .i64 n] w fun e w' => e = .returned (.string (⟨#[]⟩)) ∧ Below w.heap.size w w' := by
 have hB0 := Below.refl w.heap.size w
 have hl_hD := hD.lt
 refine co_enter (n := 15) Try.func19 rfl rfl rfl [(0, pt d 0), (1, .int .i64 n)] rfl (fun a h0 => ?_)
 refine co_seq ?_
 refine co_reg ?_
 refine pk0 (v := .string (⟨#[]⟩)) h0 rfl fun a1 h1 => ?_; clear h0
 refine pl_nil ?_
 refine co_then ?_
 refine co_seq ?_
 refine co_seq ?_
 refine co_reg ?_
 refine pk0 (v := pt d 0) h1 rfl fun a2 h2 => ?_; clear h1
 refine pw h2 rfl (op_call (args := #[pt d 0]) (R := fun res xw => res = .bool true ∧ w = xw) rfl rfl rfl (by kernel_rfl) (by kernel_rfl) (Try.call80 _ _) (dzeroZ_any d w hD) (by rintro e x ⟨rfl, rfl⟩; exact ⟨_, rfl, ⟨rfl, rfl⟩⟩)) ?_; clear h2
 rintro _ _ a3 ⟨rfl, rfl⟩ h3
 refine pl_nil ?_
 refine co_then ?_
 refine co_true h3 rfl ?_
 refine co_seq ?_
 refine co_reg ?_
 refine pk0 (v := .string (⟨#[]⟩)) h3 rfl fun a6 h6 => ?_; clear h3
 refine pl_nil ?_
 refine co_then ?_
 refine wp_ret ?_
 refine co_thenR ?_
 refine co_ret1 h6 rfl rfl ?_
 exact ⟨rfl, hB0⟩
set_option maxRecDepth 100000 in
theorem dFilesZ_any (d : Nat) (w : World) (hD : Blk w d 47 #[.bool false, .map none, .slice none 0 0, .int .i64 0, .int .i64 0]) :
    Calls Try.prog 23 #[pt d 0] w fun e w' => e = .returned (.slice none 0 0) ∧ Below w.heap.size w w' := by
 have hB0 := Below.refl w.heap.size w
 have hl_hD := hD.lt
 refine co_enter (n := 29) Try.func23 rfl rfl rfl [(0, pt d 0)] rfl (fun a h0 => ?_)
 refine co_seq ?_
 refine co_reg ?_
 refine pk0 (v := .slice none 0 0) h0 rfl fun a1 h1 => ?_; clear h0
 refine pl_nil ?_
 refine co_then ?_
 refine co_seq ?_
 refine co_seq ?_
 refine co_reg ?_
 refine pk0 (v := pt d 0) h1 rfl fun a2 h2 => ?_; clear h1
 refine pw h2 rfl (op_call (args := #[pt d 0]) (R := fun res xw => res = .bool true ∧ w = xw) rfl rfl rfl (by kernel_rfl) (by kernel_rfl) (Try.call80 _ _) (dzeroZ_any d w hD) (by rintro e x ⟨rfl, rfl⟩; exact ⟨_, rfl, ⟨rfl, rfl⟩⟩)) ?_; clear h2
 rintro _ _ a3 ⟨rfl, rfl⟩ h3
 refine pl_nil ?_
 refine co_then ?_
 refine co_true h3 rfl ?_
 refine co_seq ?_
 refine co_reg ?_
 refine pk0 (v := .slice none 0 0) h3 rfl fun a6 h6 => ?_; clear h3
 refine pl_nil ?_
 refine co_then ?_
 refine wp_ret ?_
 refine co_thenR ?_
 refine co_ret1 h6 rfl rfl ?_
 exact ⟨rfl, hB0⟩
set_option maxRecDepth 100000 in
theorem dSyncZ_any (d : Nat) (w : World) (hD : Blk w d 47 #[.bool false, .map none, .slice none 0 0, .int .i64 0, .int .i64 0]) :
    Calls Try.prog 22 #[pt d 0] w fun e w' => e = .returned (.int .i64 0) ∧ Below w.heap.size w w' := by
 have hB0 := Below.refl w.heap.size w
 have hl_hD := hD.lt
 refine co_enter (n := 43) Try.func22 rfl rfl rfl [(0, pt d 0)] rfl (fun a h0 => ?_)
 refine co_seq ?_
 refine co_reg ?_
 refine pk0 (v := .int .i64 0) h0 rfl fun a1 h1 => ?_; clear h0
 refine pl_nil ?_
 refine co_then ?_
 refine co_seq ?_
 refine co_seq ?_
 refine co_reg ?_
 refine pk0 (v := pt d 0) h1 rfl fun a2 h2 => ?_; clear h1
 refine pw h2 rfl (op_call (args := #[pt d 0]) (R := fun res xw => res = .bool true ∧ w = xw) rfl rfl rfl (by kernel_rfl) (by kernel_rfl) (Try.call80 _ _) (dzeroZ_any d w hD) (by rintro e x ⟨rfl, rfl⟩; exact ⟨_, rfl, ⟨rfl, rfl⟩⟩)) ?_; clear h2
 rintro _ _ a3 ⟨rfl, rfl⟩ h3
 refine pl_nil ?_
 refine co_then ?_
 refine co_true h3 rfl ?_
 refine co_seq ?_
 refine co_reg ?_
 refine pk0 (v := .int .i64 0) h3 rfl fun a6 h6 => ?_; clear h3
 refine pl_nil ?_
 refine co_then ?_
 refine wp_ret ?_
 refine co_thenR ?_
 refine co_ret1 h6 rfl rfl ?_
 exact ⟨rfl, hB0⟩
set_option maxRecDepth 100000 in
theorem dPendingZ_any (d : Nat) (w : World) (hD : Blk w d 47 #[.bool false, .map none, .slice none 0 0, .int .i64 0, .int .i64 0]) :
    Calls Try.prog 24 #[pt d 0] w fun e w' => e = .returned (.int .i64 0) ∧ Below w.heap.size w w' := by
 have hB0 := Below.refl w.heap.size w
 have hl_hD := hD.lt
 refine co_enter (n := 23) Try.func24 rfl rfl rfl [(0, pt d 0)] rfl (fun a h0 => ?_)
 refine co_seq ?_
 refine co_reg ?_
 refine pk0 (v := .int .i64 0) h0 rfl fun a1 h1 => ?_; clear h0
 refine pl_nil ?_
 refine co_then ?_
 refine co_seq ?_
 refine co_seq ?_
 refine co_reg ?_
 refine pk0 (v := pt d 0) h1 rfl fun a2 h2 => ?_; clear h1
 refine pw h2 rfl (op_call (args := #[pt d 0]) (R := fun res xw => res = .bool true ∧ w = xw) rfl rfl rfl (by kernel_rfl) (by kernel_rfl) (Try.call80 _ _) (dzeroZ_any d w hD) (by rintro e x ⟨rfl, rfl⟩; exact ⟨_, rfl, ⟨rfl, rfl⟩⟩)) ?_; clear h2
 rintro _ _ a3 ⟨rfl, rfl⟩ h3
 refine pl_nil ?_
 refine co_then ?_
 refine co_true h3 rfl ?_
 refine co_seq ?_
 refine co_reg ?_
 refine pk0 (v := .int .i64 0) h3 rfl fun a6 h6 => ?_; clear h3
 refine pl_nil ?_
 refine co_then ?_
 refine wp_ret ?_
 refine co_thenR ?_
 refine co_ret1 h6 rfl rfl ?_
 exact ⟨rfl, hB0⟩
set_option maxRecDepth 100000 in
theorem dSerialZ_any (d : Nat) (w : World) (hD : Blk w d 47 #[.bool false, .map none, .slice none 0 0, .int .i64 0, .int .i64 0]) :
    Calls Try.prog 30 #[pt d 0] w fun e w' => e = .returned (.int .i64 0) ∧ Below w.heap.size w w' := by
 have hB0 := Below.refl w.heap.size w
 have hl_hD := hD.lt
 refine co_enter (n := 9) Try.func30 rfl rfl rfl [(0, pt d 0)] rfl (fun a h0 => ?_)
 refine co_seq ?_
 refine co_reg ?_
 refine pk0 (v := .int .i64 0) h0 rfl fun a1 h1 => ?_; clear h0
 refine pl_nil ?_
 refine co_then ?_
 refine co_seq ?_
 refine co_seq ?_
 refine co_reg ?_
 refine pk0 (v := pt d 0) h1 rfl fun a2 h2 => ?_; clear h1
 refine pw h2 rfl (op_call (args := #[pt d 0]) (R := fun res xw => res = .bool true ∧ w = xw) rfl rfl rfl (by kernel_rfl) (by kernel_rfl) (Try.call80 _ _) (dzeroZ_any d w hD) (by rintro e x ⟨rfl, rfl⟩; exact ⟨_, rfl, ⟨rfl, rfl⟩⟩)) ?_; clear h2
 rintro _ _ a3 ⟨rfl, rfl⟩ h3
 refine pl_nil ?_
 refine co_then ?_
 refine co_true h3 rfl ?_
 refine co_seq ?_
 refine co_reg ?_
 refine pk0 (v := .int .i64 0) h3 rfl fun a6 h6 => ?_; clear h3
 refine pl_nil ?_
 refine co_then ?_
 refine wp_ret ?_
 refine co_thenR ?_
 refine co_ret1 h6 rfl rfl ?_
 exact ⟨rfl, hB0⟩
set_option maxRecDepth 100000 in
theorem dBootsZ_any (d : Nat) (w : World) (hD : Blk w d 47 #[.bool false, .map none, .slice none 0 0, .int .i64 0, .int .i64 0]) :
    Calls Try.prog 31 #[pt d 0] w fun e w' => e = .returned (.int .i64 0) ∧ Below w.heap.size w w' := by
 have hB0 := Below.refl w.heap.size w
 have hl_hD := hD.lt
 refine co_enter (n := 9) Try.func31 rfl rfl rfl [(0, pt d 0)] rfl (fun a h0 => ?_)
 refine co_seq ?_
 refine co_reg ?_
 refine pk0 (v := .int .i64 0) h0 rfl fun a1 h1 => ?_; clear h0
 refine pl_nil ?_
 refine co_then ?_
 refine co_seq ?_
 refine co_seq ?_
 refine co_reg ?_
 refine pk0 (v := pt d 0) h1 rfl fun a2 h2 => ?_; clear h1
 refine pw h2 rfl (op_call (args := #[pt d 0]) (R := fun res xw => res = .bool true ∧ w = xw) rfl rfl rfl (by kernel_rfl) (by kernel_rfl) (Try.call80 _ _) (dzeroZ_any d w hD) (by rintro e x ⟨rfl, rfl⟩; exact ⟨_, rfl, ⟨rfl, rfl⟩⟩)) ?_; clear h2
 rintro _ _ a3 ⟨rfl, rfl⟩ h3
 refine pl_nil ?_
 refine co_then ?_
 refine co_true h3 rfl ?_
 refine co_seq ?_
 refine co_reg ?_
 refine pk0 (v := .int .i64 0) h3 rfl fun a6 h6 => ?_; clear h3
 refine pl_nil ?_
 refine co_then ?_
 refine wp_ret ?_
 refine co_thenR ?_
 refine co_ret1 h6 rfl rfl ?_
 exact ⟨rfl, hB0⟩
set_option maxRecDepth 100000 in
theorem dCrashZ_any (d : Nat) (n : Int) (w : World) (hD : Blk w d 47 #[.bool false, .map none, .slice none 0 0, .int .i64 0, .int .i64 0]) :
    Calls Try.prog 25 #[pt d 0, .int .i64 n] w fun e w' => e = .returned (.tuple #[]) ∧ Below w.heap.size w w' := by
 have hB0 := Below.refl w.heap.size w
 have hl_hD := hD.lt
 refine co_enter (n := 114) Try.func25 rfl rfl rfl [(0, pt d 0), (1, .int .i64 n)] rfl (fun a h0 => ?_)
 refine co_seq ?_
 refine co_seq ?_
 refine co_reg ?_
 refine pk0 (v := pt d 0) h0 rfl fun a1 h1 => ?_; clear h0
 refine pw h1 rfl (op_call (args := #[pt d 0]) (R := fun res xw => res = .bool true ∧ w = xw) rfl rfl rfl (by kernel_rfl) (by kernel_rfl) (Try.call80 _ _) (dzeroZ_any d w hD) (by rintro e x ⟨rfl, rfl⟩; exact ⟨_, rfl, ⟨rfl, rfl⟩⟩)) ?_; clear h1
 rintro _ _ a2 ⟨rfl, rfl⟩ h2
 refine pl_nil ?_
 refine co_then ?_
 refine co_true h2 rfl ?_
 refine wp_ret ?_
 refine co_thenR ?_
 refine co_ret0 h2 rfl ?_
 exact ⟨rfl, hB0⟩
set_option maxRecDepth 100000 in
theorem dEraseZ_any (d : Nat) (w : World) (hD : Blk w d 47 #[.bool false, .map none, .slice none 0 0, .int .i64 0, .int .i64 0]) :
    Calls Try.prog 28 #[pt d 0] w fun e w' => e = .returned (.tuple #[]) ∧ Below w.heap.size w w' := by
 have hB0 := Below.refl w.heap.size w
 have hl_hD := hD.lt
 refine co_enter (n := 26) Try.func28 rfl rfl rfl [(0, pt d 0)] rfl (fun a h0 => ?_)
 refine co_seq ?_
 refine co_seq ?_
 refine co_reg ?_
 refine pk0 (v := pt d 0) h0 rfl fun a1 h1 => ?_; clear h0
 refine pw h1 rfl (op_call (args := #[pt d 0]) (R := fun res xw => res = .bool true ∧ w = xw) rfl rfl rfl (by kernel_rfl) (by kernel_rfl) (Try.call80 _ _) (dzeroZ_any d w hD) (by rintro e x ⟨rfl, rfl⟩; exact ⟨_, rfl, ⟨rfl, rfl⟩⟩)) ?_; clear h1
 rintro _ _ a2 ⟨rfl, rfl⟩ h2
 refine pl_nil ?_
 refine co_then ?_
 refine co_true h2 rfl ?_
 refine wp_ret ?_
 refine co_thenR ?_
 refine co_ret0 h2 rfl ?_
 exact ⟨rfl, hB0⟩

def TyS (w : World) (k : Nat) : Prop := (∃ cs T fr, w.heap[k]? = some (.cells cs T fr) ∧ (T = 47 ∨ T = 124 ∨ T = 5)) ∨ ∃ es cl, w.heap[k]? = some (.map es cl)
def SD (base : Nat) (w : World) (k : Nat) : Prop := base ≤ k ∧ TyS w k
/-- A type that is none of the disk's. -/
def offD (T : TypeId) : Prop := T ≠ 47 ∧ T ≠ 124 ∧ T ≠ 5
instance (T : TypeId) : Decidable (offD T) := by unfold offD; infer_instance
abbrev ButD (base : Nat) (w x : World) : Prop := But (SD base w) w x
/-- A disk that was made, of at most c files told, all of it from base on. -/
def DObj (base : Nat) (w : World) (d : Nat) (c : Nat) (s : DkS) : Prop := ∃ M pv g c', c' ≤ c ∧ DkP (fun _ => False) base w d M pv g c' s
section
variable {base : Nat} {w x : World} {d c M : Nat} {pv : Value} {g : Int → Option FileG} {s : DkS} {S : Nat → Prop} {n : Nat}
theorem row_block {B sz k : Nat} {e : TypeId} {v : Value} {xs : List Value} (h : w.ownsRow B e sz v k xs) {i : Nat} (hi : v.ownBlock = some i) : ∃ cs, w.heap[i]? = some (.cells cs e (0, 0)) := by
  rcases h.2 with ⟨rfl, _⟩ | ⟨g, c, cur, rfl, _, hh, _⟩
  · simp [Value.ownBlock] at hi
  · simp only [Value.ownBlock, Option.some.injEq] at hi; subst hi; exact ⟨_, hh⟩
theorem DkP.up (h : DkP (fun _ => False) base w d M pv g c s) : DkP (SD base w) w.heap.size w d M pv g c s := by
  have key : ∀ {B sz k : Nat} {e : TypeId} {v : Value} {xs : List Value}, w.ownsRow B e sz v k xs → (e = 47 ∨ e = 124 ∨ e = 5) → InS (fun _ => False) base v → InS (SD base w) w.heap.size v := by
    intro B sz k e v xs hr he hi i hb
    obtain ⟨cs, hc⟩ := row_block hr hb
    rcases hi i hb with q | q
    · exact absurd q id
    · exact .inl ⟨q, .inl ⟨cs, e, _, hc, he⟩⟩
  refine ⟨h.blk, h.map, h.row, ⟨fun k f hf => ⟨(h.fam.1 k f hf).1, key (h.fam.1 k f hf).1 (.inr (.inr rfl)) (h.fam.1 k f hf).2⟩, h.fam.2⟩, ?_, ?_, key h.row (.inr (.inl rfl)) h.sp, h.rel⟩
  · rcases h.sd with q | q
    · exact absurd q id
    · exact .inl ⟨q, .inl ⟨_, _, _, h.blk, .inl rfl⟩⟩
  · obtain ⟨l, ⟨es, cl, h1, _⟩, _⟩ := h.map
    rcases h.sM with q | q
    · exact absurd q id
    · exact .inl ⟨q, .inr ⟨es, cl, h1⟩⟩
theorem DkP.dn {w0 : World} (h : DkP (SD base w0) w0.heap.size w d M pv g c s) (hb : base ≤ w0.heap.size) : DkP (fun _ => False) base w d M pv g c s := by
  have key : ∀ {v : Value}, InS (SD base w0) w0.heap.size v → InS (fun _ => False) base v := fun hi i hb' => by
    rcases hi i hb' with q | q
    · exact .inr q.1
    · exact .inr (by omega)
  refine ⟨h.blk, h.map, h.row, ⟨fun k f hf => ⟨(h.fam.1 k f hf).1, key (h.fam.1 k f hf).2⟩, h.fam.2⟩, ?_, ?_, key h.sp, h.rel⟩
  · rcases h.sd with q | q
    · exact .inr q.1
    · exact .inr (by omega)
  · rcases h.sM with q | q
    · exact .inr q.1
    · exact .inr (by omega)
theorem DObj.lo (h : DObj base w d c s) : base ≤ w.heap.size := by
  obtain ⟨M, pv, g, c', _, h⟩ := h
  have h1 := h.blk.lt
  rcases h.sd with q | q
  · exact absurd q id
  · omega
theorem row_same {B sz k : Nat} {e : TypeId} {v : Value} {xs : List Value} (h : w.ownsRow B e sz v k xs) (hs : w.heap.size ≤ x.heap.size) (hk : ∀ i, v.ownBlock = some i → x.heap[i]? = w.heap[i]?) : x.ownsRow B e sz v k xs := by
  refine ⟨h.1, ?_⟩
  rcases h.2 with h1 | ⟨g, c, cur, rfl, hg, hh, h3⟩
  · exact .inl h1
  · exact .inr ⟨g, c, cur, rfl, hg, by rw [hk g rfl]; exact hh, h3⟩
/-- All that is the disk's is as it was: so is the disk. -/
theorem DObj.keep (h : DObj base w d c s) (hs : w.heap.size ≤ x.heap.size) (hk : ∀ k, TyS w k → x.heap[k]? = w.heap[k]?) : DObj base x d c s := by
  obtain ⟨M, pv, g, c', hc, h⟩ := h
  have key : ∀ {B sz k : Nat} {e : TypeId} {v : Value} {xs : List Value}, w.ownsRow B e sz v k xs → (e = 47 ∨ e = 124 ∨ e = 5) → x.ownsRow B e sz v k xs := by
    intro B sz k e v xs hr he
    refine row_same hr hs fun i hi => ?_
    obtain ⟨cs, hcs⟩ := row_block hr hi
    exact hk i (.inl ⟨cs, e, _, hcs, he⟩)
  refine ⟨M, pv, g, c', hc, ⟨?_, ?_, key h.row (.inr (.inl rfl)), ⟨fun k f hf => ⟨key (h.fam.1 k f hf).1 (.inr (.inr rfl)), (h.fam.1 k f hf).2⟩, h.fam.2⟩, h.sd, h.sM, h.sp, h.rel⟩⟩
  · have hb := h.blk
    unfold Blk at hb ⊢
    rw [hk d (.inl ⟨_, _, _, hb, .inl rfl⟩)]; exact hb
  · obtain ⟨l, ⟨es, cl, h1, h2⟩, h3⟩ := h.map
    exact ⟨l, ⟨es, cl, by rw [hk M (.inr ⟨es, cl, h1⟩)]; exact h1, h2⟩, h3⟩
theorem DObj.gr {row : Option Nat} (h : DObj base w d c s) (hg : w.grownBy x row) (hr : ∀ k, row = some k → ¬ TyS w k) : DObj base x d c s :=
  h.keep hg.size fun k hk => by
    have hlt : k < w.heap.size := by
      rcases hk with ⟨cs, T, fr, h1, _⟩ | ⟨es, cl, h1⟩
      · exact (Array.getElem?_eq_some_iff.1 h1).1
      · exact (Array.getElem?_eq_some_iff.1 h1).1
    exact hg.block k hlt (fun e => hr k e.symm hk)
theorem DObj.new (h : DObj base w d c s) (hg : w.grownBy x none) : DObj base x d c s := h.gr hg (fun k e => by cases e)
theorem DObj.call (h : DObj base w d c s) (hb : Below w.heap.size w x) : DObj base x d c s := h.new (below_grown hb)
theorem not_ty {N : Nat} {T : TypeId} {cs : Array Value} (hb : w.heap[N]? = some (.cells cs T (0, 0))) (hT : offD T) : ¬ TyS w N := by
  rintro (⟨cs', T', fr, h1, h2⟩ | ⟨es, cl, h1⟩)
  · rw [hb] at h1
    simp only [Option.some.injEq, Obj.cells.injEq] at h1
    obtain ⟨_, rfl, _⟩ := h1
    rcases h2 with q | q | q
    · exact hT.1 q
    · exact hT.2.1 q
    · exact hT.2.2 q
  · rw [hb] at h1; cases h1
theorem DObj.at {N : Nat} {T : TypeId} {cs : Array Value} (h : DObj base w d c s) (hb : Blk w N T cs) (hT : offD T) (hg : w.grownBy x (some N)) : DObj base x d c s := h.gr hg (fun k e => by cases e; exact not_ty hb hT)
theorem DObj.row {B sz k : Nat} {e : TypeId} {v : Value} {xs : List Value} (h : DObj base w d c s) (hr : w.ownsRow B e sz v k xs) (hT : offD e) (hg : w.grownBy x v.ownBlock) : DObj base x d c s :=
  h.gr hg (fun k e => by obtain ⟨cs, hc⟩ := row_block hr e; exact not_ty hc hT)
theorem rowD {B sz k : Nat} {e : TypeId} {v : Value} {xs : List Value} (hr : w.ownsRow B e sz v k xs) (hT : offD e) (hb : ButD base w x) : x.ownsRow B e sz v k xs :=
  row_same hr hb.size fun i hi => by
    obtain ⟨cs, hc⟩ := row_block hr hi
    exact hb.block i (Array.getElem?_eq_some_iff.1 hc).1 (fun h => not_ty hc hT h.2)
theorem blkD {N : Nat} {T : TypeId} {cs : Array Value} (h : Blk w N T cs) (hT : offD T) (hb : ButD base w x) : Blk x N T cs := by
  have hl := h.lt
  unfold Blk at h ⊢
  rw [hb.block N hl (fun h' => not_ty h hT h'.2)]; exact h
theorem hbD {w0 : World} (h : Below w0.heap.size w0 w) (hb : ButD w0.heap.size w x) : Below w0.heap.size w0 x := below_but h hb h.size (fun i _ h => h.1)
theorem DObj.low {b2 : Nat} (h : DkP (fun _ => False) b2 w d M pv g c s) (hb : base ≤ b2) : DObj base w d c s :=
  ⟨M, pv, g, c, Nat.le_refl _, ⟨h.blk, h.map, h.row, ⟨fun k f hf => ⟨(h.fam.1 k f hf).1, fun i hi => by rcases (h.fam.1 k f hf).2 i hi with q | q; exact absurd q id; exact .inr (by omega)⟩, h.fam.2⟩, by rcases h.sd with q | q; exact absurd q id; exact .inr (by omega), by rcases h.sM with q | q; exact absurd q id; exact .inr (by omega), fun i hi => by rcases h.sp i hi with q | q; exact absurd q id; exact .inr (by omega), h.rel⟩⟩
end
def s0D : DkS := ⟨fun _ => none, [], 1, 1⟩


theorem tNew (base : Nat) (w : World) (hb : base ≤ w.heap.size) : Calls Try.prog 15 #[] w fun e w' => ∃ N, e = .returned (pt N 0) ∧ DObj base w' N 0 s0D ∧ Below w.heap.size w w' :=
  (dNew_any w).mono fun e x ⟨N, M, h1, h2, h3⟩ => ⟨N, h1, DObj.low h2 hb, h3⟩
theorem tWrite {base d c : Nat} {s : DkS} (w : World) (n : Int) (t : ByteArray) (h : DObj base w d c s) (hsz : (getF s.fm n).1.length + t.size ≤ 1000000000) (hpl : s.ps.length ≤ 100000) : Calls Try.prog 21 #[pt d 0, .int .i64 n, .string t] w fun e w' => e = .returned (.int .i64 (wrE n)) ∧ DObj base w' d (c + 1) (wrS s n t) ∧ ButD base w w' := by
  have hlo := h.lo
  obtain ⟨M, pv, g, c', hc, hP⟩ := h
  exact (dWrite_any w (SD base w) d M pv g c' s n t w (But.refl _ _) hP.up hsz hpl).mono fun e x ⟨pv', g', c2, h1, h2, h3, h4⟩ => ⟨h1, ⟨M, pv', g', c2, by omega, h2.dn hlo⟩, h4⟩
theorem tSync {base d c : Nat} {s : DkS} (w : World) (h : DObj base w d c s) (hsb : ∀ i, 0 ≤ sumP (s.ps.take i) ∧ sumP (s.ps.take i) ≤ 1000000000000) : Calls Try.prog 22 #[pt d 0] w fun e w' => e = .returned (.int .i64 (sumP s.ps)) ∧ DObj base w' d (c + s.ps.length) (synS s) ∧ ButD base w w' := by
  have hlo := h.lo
  obtain ⟨M, pv, g, c', hc, hP⟩ := h
  exact (dSync_any w (SD base w) d M pv g c' s w (But.refl _ _) hP.up hsb).mono fun e x ⟨pv', g', c2, h1, h2, h3, h4⟩ => ⟨h1, ⟨M, pv', g', c2, by omega, h2.dn hlo⟩, h4⟩
theorem tData {base d c : Nat} {s : DkS} (w : World) (n : Int) (h : DObj base w d c s) : Calls Try.prog 19 #[pt d 0, .int .i64 n] w fun e w' => e = .returned (.string (datF s.fm n)) ∧ DObj base w' d c s ∧ ButD base w w' := by
  have hlo := h.lo
  obtain ⟨M, pv, g, c', hc, hP⟩ := h
  exact (dData_any w (SD base w) d M pv g c' s n w (But.refl _ _) hP.up).mono fun e x ⟨h1, h2, h4⟩ => ⟨h1, ⟨M, pv, g, c', by omega, h2.dn hlo⟩, h4⟩
theorem tPending {base d c : Nat} {s : DkS} (w : World) (h : DObj base w d c s) (hsb : ∀ i, 0 ≤ sumP (s.ps.take i) ∧ sumP (s.ps.take i) ≤ 1000000000000) : Calls Try.prog 24 #[pt d 0] w fun e w' => e = .returned (.int .i64 (sumP s.ps)) ∧ DObj base w' d c s ∧ ButD base w w' := by
  have h0 := h
  obtain ⟨M, pv, g, c', hc, hP⟩ := h
  exact (dPending_any d M pv s.ser s.boots s.ps w hP.blk (row_sl hP.row pieceE_len) (fun _ _ => trivial) hsb).mono fun e x ⟨h1, h2⟩ => ⟨h1, h0.call h2, But.of_below h2⟩
theorem tSerial {base d c : Nat} {s : DkS} (w : World) (h : DObj base w d c s) : Calls Try.prog 30 #[pt d 0] w fun e w' => e = .returned (.int .i64 s.ser) ∧ DObj base w' d c s ∧ ButD base w w' := by
  have h0 := h
  obtain ⟨M, pv, g, c', hc, hP⟩ := h
  exact (dSerial_any d M pv s.ser s.boots w hP.blk).mono fun e x ⟨h1, h2⟩ => ⟨h1, by subst h2; exact h0, by subst h2; exact But.refl _ _⟩
theorem tBoots {base d c : Nat} {s : DkS} (w : World) (h : DObj base w d c s) : Calls Try.prog 31 #[pt d 0] w fun e w' => e = .returned (.int .i64 s.boots) ∧ DObj base w' d c s ∧ ButD base w w' := by
  have h0 := h
  obtain ⟨M, pv, g, c', hc, hP⟩ := h
  exact (dBoots_any d M pv s.ser s.boots w hP.blk).mono fun e x ⟨h1, h2⟩ => ⟨h1, by subst h2; exact h0, by subst h2; exact But.refl _ _⟩
theorem tFiles {base d c : Nat} {s : DkS} (w : World) (h : DObj base w d c s) (hc1 : c ≤ 1000000) : Calls Try.prog 23 #[pt d 0] w fun e w' => ∃ (ys : List Int) (u : Value), e = .returned u ∧ w'.ownsRow w.heap.size 3 1 u ys.length (ys.flatMap (intE .i64)) ∧ KeysF s.fm ys ∧ ys.length ≤ c ∧ DObj base w' d c s ∧ ButD base w w' := by
  have hlo := h.lo
  obtain ⟨M, pv, g, c', hc, hP⟩ := h
  exact (dFiles_any w (SD base w) d M pv g c' s w (But.refl _ _) hP.up (by omega)).mono fun e x ⟨ys, u, h1, h2, h3, h5, h6, h4⟩ => ⟨ys, u, h1, h2, h3, by omega, ⟨M, pv, g, c', hc, h6.dn hlo⟩, h4⟩
theorem tCrash {base d c : Nat} {s : DkS} (w : World) (n : Int) (h : DObj base w d c s) (hc1 : c ≤ 100000) (hpl : s.ps.length ≤ 100000) (hbo : 0 ≤ s.boots ∧ s.boots ≤ 1000000) (hni : -9223372036854775808 ≤ n ∧ n ≤ 9223372036854775807) (hcr : ∀ (i : Nat) (X : Int × Bool × (Int → Option FileM)) (p : PcT), crRun n s.fm (s.ps.take i) = X → s.ps[i]? = some p → 0 ≤ p.2 ∧ 0 ≤ X.1 ∧ 0 ≤ (getF X.2.2 p.1).2.1 ∧ (getF X.2.2 p.1).2.1 + p.2 ≤ 1000000000000 ∧ X.1 ≤ 9223372036854775807)
    (hfin : ∀ k, 0 ≤ (getF (crRun n s.fm s.ps).2.2 k).2.1 ∧ (getF (crRun n s.fm s.ps).2.2 k).2.1 ≤ (getF (crRun n s.fm s.ps).2.2 k).1.length) : Calls Try.prog 25 #[pt d 0, .int .i64 n] w fun e w' => e = .returned (.tuple #[]) ∧ DObj base w' d (2 * c + 2 * s.ps.length) (crS s n) ∧ ButD base w w' := by
  have hlo := h.lo
  obtain ⟨M, pv, g, c', hc, hP⟩ := h
  exact (dCrash_any w (SD base w) d M pv g c' s n w (But.refl _ _) hP.up (by omega) hpl hbo hni hcr hfin).mono fun e x ⟨pv', g', c2, h1, h2, h3, h4⟩ => ⟨h1, ⟨M, pv', g', c2, by omega, h2.dn hlo⟩, h4⟩

end Go.Proofs.Ytcnahhobppnbbaa
