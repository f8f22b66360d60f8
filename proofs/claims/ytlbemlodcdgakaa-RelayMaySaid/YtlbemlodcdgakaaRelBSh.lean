/- Package relay: between, options. Conditions: none. -/
import Derived.Test.YtlbemlodcdgakaaRelASh
namespace Go.Proofs.Ytlbemlodcdgakaa
open Go.RowKit Go.PlainAid
set_option linter.unusedVariables false
set_option linter.unusedSimpArgs false


/-- A number from 0 to so many. -/
def bwI (n m : Int) : Int := mxI (mnI n m) 0
theorem bwI_p (n : Int) (m : Nat) : 0 ≤ bwI n (m : Int) ∧ bwI n (m : Int) ≤ m := by
  unfold bwI; have h1 := mxI_p (mnI n m) 0; have h2 := mnI_p n m; omega

set_option maxRecDepth 100000 in
theorem between_any (n : Int) (m : Nat) (w : World)  :
    Calls Try.prog 67 #[.int .i64 n, .int .i64 ((m : Nat) : Int)] w fun e w' => e = .returned (.int .i64 (bwI n ((m : Nat) : Int))) ∧ Below w.heap.size w w' := by
 have hB0 := Below.refl w.heap.size w
 refine co_enter (n := 9) Try.func67 rfl rfl rfl [(0, .int .i64 n), (1, .int .i64 ((m : Nat) : Int))] rfl (fun a h0 => ?_)
 refine co_seq ?_
 refine co_reg ?_
 refine pk0 (v := .int .i64 0) h0 rfl fun a1 h1 => ?_; clear h0
 refine pl_nil ?_
 refine co_then ?_
 refine co_seq ?_
 refine co_reg ?_
 refine pk0 (v := .int .i64 n) h1 rfl fun a2 h2 => ?_; clear h1
 refine pk0 (v := .int .i64 ((m : Nat) : Int)) h2 rfl fun a3 h3 => ?_; clear h2
 have hmm4 := mnI_p n ((m : Nat) : Int)
 refine pk0 (v := .int .i64 (mnI n ((m : Nat) : Int))) h3 rfl fun a5 h5 => ?_; clear h3
 have hmm6 := mxI_p (mnI n ((m : Nat) : Int)) 0
 refine pk0 (v := .int .i64 (mxI (mnI n ((m : Nat) : Int)) 0)) h5 rfl fun a7 h7 => ?_; clear h5
 refine pk0 (v := .int .i64 (mxI (mnI n ((m : Nat) : Int)) 0)) h7 rfl fun a8 h8 => ?_; clear h7
 refine pl_nil ?_
 refine co_then ?_
 refine wp_ret ?_
 refine co_ret1 h8 rfl rfl ?_
 exact ⟨rfl, hB0⟩
set_option maxRecDepth 100000 in
theorem numbers_any (ep : Int) (n : Int) (m : Int) (p : Int) (w : World)  :
    Calls Try.prog 69 #[.int .i64 ep, .int .i64 n, .int .i64 m, .int .i64 p] w fun e w' => ∃ (N0 : Nat) (N1 : Nat) (N2 : Nat) (N3 : Nat), e = .returned (.func (.func 118) #[] #[pt N0 0, pt N1 0, pt N2 0, pt N3 0]) ∧ Blk w' N0 3 #[.int .i64 ep] ∧ w.heap.size ≤ N0 ∧ Blk w' N1 3 #[.int .i64 n] ∧ w.heap.size ≤ N1 ∧ Blk w' N2 3 #[.int .i64 m] ∧ w.heap.size ≤ N2 ∧ Blk w' N3 3 #[.int .i64 p] ∧ w.heap.size ≤ N3 ∧ Below w.heap.size w w' := by
 have hB0 := Below.refl w.heap.size w
 refine co_enter (n := 10) Try.func69 rfl rfl rfl [(0, .int .i64 ep), (1, .int .i64 n), (2, .int .i64 m), (3, .int .i64 p)] rfl (fun a h0 => ?_)
 refine co_seq ?_
 refine co_reg ?_
 refine pw h0 rfl (op_new (v := fun N => pt N 0) (T := 3) (cs := #[.int .i64 ep]) (by kernel_rfl) (by kernel_rfl) (by kernel_rfl)) ?_; clear h0
 rintro _ w2 a1 ⟨N3, rfl, hN6, hz7, hk5, hg4⟩ h1
 have hz8 := hg4.size
 try dsimp only at h1
 refine pw h1 rfl (op_new (v := fun N => pt N 0) (T := 3) (cs := #[.int .i64 n]) (by kernel_rfl) (by kernel_rfl) (by kernel_rfl)) ?_; clear h1
 rintro _ w10 a9 ⟨N11, rfl, hN14, hz15, hk13, hg12⟩ h9
 have hz16 := hg12.size
 try dsimp only at h9
 refine pw h9 rfl (op_new (v := fun N => pt N 0) (T := 3) (cs := #[.int .i64 m]) (by kernel_rfl) (by kernel_rfl) (by kernel_rfl)) ?_; clear h9
 rintro _ w18 a17 ⟨N19, rfl, hN22, hz23, hk21, hg20⟩ h17
 have hz24 := hg20.size
 try dsimp only at h17
 refine pw h17 rfl (op_new (v := fun N => pt N 0) (T := 3) (cs := #[.int .i64 p]) (by kernel_rfl) (by kernel_rfl) (by kernel_rfl)) ?_; clear h17
 rintro _ w26 a25 ⟨N27, rfl, hN30, hz31, hk29, hg28⟩ h25
 have hz32 := hg28.size
 try dsimp only at h25
 refine pk0 (v := .nilFunc) h25 rfl fun a33 h33 => ?_; clear h25
 refine pl_nil ?_
 refine co_then ?_
 refine co_seq ?_
 refine co_reg ?_
 refine pk0 (v := .func (.func 118) #[] #[pt N3 0, pt N11 0, pt N19 0, pt N27 0]) h33 rfl fun a34 h34 => ?_; clear h33
 refine pk0 (v := .func (.func 118) #[] #[pt N3 0, pt N11 0, pt N19 0, pt N27 0]) h34 rfl fun a35 h35 => ?_; clear h34
 refine pl_nil ?_
 refine co_then ?_
 refine wp_ret ?_
 refine co_ret1 h35 rfl rfl ?_
 have hk36 := hk5.kept hg12 (by simp)
 have hk37 := hk36.kept hg20 (by simp)
 have hk38 := hk37.kept hg28 (by simp)
 have hk39 := hk13.kept hg20 (by simp)
 have hk40 := hk39.kept hg28 (by simp)
 have hk41 := hk21.kept hg28 (by simp)
 have hB42 := hb_new hB0 hg4
 have hB43 := hb_new hB42 hg12
 have hB44 := hb_new hB43 hg20
 have hB45 := hb_new hB44 hg28
 exact ⟨_, _, _, _, rfl, hk38, by omega, hk40, by omega, hk41, by omega, hk29, by omega, hB45⟩
set_option maxRecDepth 100000 in
theorem stand_any (sb : Int) (hz : Int) (w : World)  :
    Calls Try.prog 71 #[.int .i64 sb, .int .u64 hz] w fun e w' => ∃ (N0 : Nat) (N1 : Nat), e = .returned (.func (.func 119) #[] #[pt N0 0, pt N1 0]) ∧ Blk w' N0 3 #[.int .i64 sb] ∧ w.heap.size ≤ N0 ∧ Blk w' N1 29 #[.int .u64 hz] ∧ w.heap.size ≤ N1 ∧ Below w.heap.size w w' := by
 have hB0 := Below.refl w.heap.size w
 refine co_enter (n := 6) Try.func71 rfl rfl rfl [(0, .int .i64 sb), (1, .int .u64 hz)] rfl (fun a h0 => ?_)
 refine co_seq ?_
 refine co_reg ?_
 refine pw h0 rfl (op_new (v := fun N => pt N 0) (T := 3) (cs := #[.int .i64 sb]) (by kernel_rfl) (by kernel_rfl) (by kernel_rfl)) ?_; clear h0
 rintro _ w2 a1 ⟨N3, rfl, hN6, hz7, hk5, hg4⟩ h1
 have hz8 := hg4.size
 try dsimp only at h1
 refine pw h1 rfl (op_new (v := fun N => pt N 0) (T := 29) (cs := #[.int .u64 hz]) (by kernel_rfl) (by kernel_rfl) (by kernel_rfl)) ?_; clear h1
 rintro _ w10 a9 ⟨N11, rfl, hN14, hz15, hk13, hg12⟩ h9
 have hz16 := hg12.size
 try dsimp only at h9
 refine pk0 (v := .nilFunc) h9 rfl fun a17 h17 => ?_; clear h9
 refine pl_nil ?_
 refine co_then ?_
 refine co_seq ?_
 refine co_reg ?_
 refine pk0 (v := .func (.func 119) #[] #[pt N3 0, pt N11 0]) h17 rfl fun a18 h18 => ?_; clear h17
 refine pk0 (v := .func (.func 119) #[] #[pt N3 0, pt N11 0]) h18 rfl fun a19 h19 => ?_; clear h18
 refine pl_nil ?_
 refine co_then ?_
 refine wp_ret ?_
 refine co_ret1 h19 rfl rfl ?_
 have hk20 := hk5.kept hg12 (by simp)
 have hB21 := hb_new hB0 hg4
 have hB22 := hb_new hB21 hg12
 exact ⟨_, _, rfl, hk20, by omega, hk13, by omega, hB22⟩
set_option maxRecDepth 100000 in
theorem entriesO_any (v : Value) (l : List EntT) (w : World) (hs : SliceOf entE 4 w v l) :
    Calls Try.prog 72 #[v] w fun e w' => ∃ (N0 : Nat), e = .returned (.func (.func 120) #[] #[pt N0 0]) ∧ Blk w' N0 69 #[v] ∧ w.heap.size ≤ N0 ∧ Below w.heap.size w w' := by
 have hB0 := Below.refl w.heap.size w
 have hl_hs := sl_len hs
 refine co_enter (n := 4) Try.func72 rfl rfl rfl [(0, v)] rfl (fun a h0 => ?_)
 refine co_seq ?_
 refine co_reg ?_
 refine pw h0 rfl (op_new (v := fun N => pt N 0) (T := 69) (cs := #[v]) (by kernel_rfl) (by kernel_rfl) (box_run rfl rfl (sl_one hs))) ?_; clear h0
 rintro _ w2 a1 ⟨N3, rfl, hN6, hz7, hk5, hg4⟩ h1
 have hz8 := hg4.size
 try dsimp only at h1
 refine pk0 (v := .nilFunc) h1 rfl fun a9 h9 => ?_; clear h1
 refine pl_nil ?_
 refine co_then ?_
 refine co_seq ?_
 refine co_reg ?_
 refine pk0 (v := .func (.func 120) #[] #[pt N3 0]) h9 rfl fun a10 h10 => ?_; clear h9
 refine pk0 (v := .func (.func 120) #[] #[pt N3 0]) h10 rfl fun a11 h11 => ?_; clear h10
 refine pl_nil ?_
 refine co_then ?_
 refine wp_ret ?_
 refine co_ret1 h11 rfl rfl ?_
 have hB12 := hb_new hB0 hg4
 exact ⟨_, rfl, hk5, by omega, hB12⟩
set_option maxRecDepth 100000 in
theorem stampsO_any (v : Value) (l : List EntT) (w : World) (hs : SliceOf entE 4 w v l) :
    Calls Try.prog 74 #[v] w fun e w' => ∃ (N0 : Nat), e = .returned (.func (.func 122) #[] #[pt N0 0]) ∧ Blk w' N0 69 #[v] ∧ w.heap.size ≤ N0 ∧ Below w.heap.size w w' := by
 have hB0 := Below.refl w.heap.size w
 have hl_hs := sl_len hs
 refine co_enter (n := 4) Try.func74 rfl rfl rfl [(0, v)] rfl (fun a h0 => ?_)
 refine co_seq ?_
 refine co_reg ?_
 refine pw h0 rfl (op_new (v := fun N => pt N 0) (T := 69) (cs := #[v]) (by kernel_rfl) (by kernel_rfl) (box_run rfl rfl (sl_one hs))) ?_; clear h0
 rintro _ w2 a1 ⟨N3, rfl, hN6, hz7, hk5, hg4⟩ h1
 have hz8 := hg4.size
 try dsimp only at h1
 refine pk0 (v := .nilFunc) h1 rfl fun a9 h9 => ?_; clear h1
 refine pl_nil ?_
 refine co_then ?_
 refine co_seq ?_
 refine co_reg ?_
 refine pk0 (v := .func (.func 122) #[] #[pt N3 0]) h9 rfl fun a10 h10 => ?_; clear h9
 refine pk0 (v := .func (.func 122) #[] #[pt N3 0]) h10 rfl fun a11 h11 => ?_; clear h10
 refine pl_nil ?_
 refine co_then ?_
 refine wp_ret ?_
 refine co_ret1 h11 rfl rfl ?_
 have hB12 := hb_new hB0 hg4
 exact ⟨_, rfl, hk5, by omega, hB12⟩
end Go.Proofs.Ytlbemlodcdgakaa
