/- Package item: SameAll of the document. Conditions: none. -/
import Derived.Test.YthmnndbpadegnaaAdZ
namespace Go.Proofs.Ythmnndbpadegnaa
open Go.RowKit Go.PlainAid
set_option linter.unusedVariables false
set_option linter.unusedSimpArgs false

section
variable {L X A B : List EntT} {i : Nat} {y z : EntT} {c r a : Int}
theorem e0_both (h : A.map e0 = B.map e0) (hy : A[i]? = some y) (hz : B[i]? = some z) : y.client = z.client ∧ y.req = z.req ∧ y.opl = z.opl ∧ y.ts = z.ts := by
  obtain ⟨x, hx, e⟩ := e0_at h hy
  rw [hz] at hx; cases hx
  obtain ⟨k1, k2, k3, k4⟩ := e0_ts e
  exact ⟨k2.symm, k3.symm, k4.symm, k1.symm⟩
end

set_option maxRecDepth 100000 in
theorem sameOpsE_any (v : Value) (l : List OpT) (v2 : Value) (w : World) (hs : SliceOf opE 3 w v l) (hs2 : SliceOf opE 3 w v2 l) :
    Calls Try.prog 107 #[v, v2] w fun e w' => e = .returned (.bool true) ∧ Below w.heap.size w w' := by
 have hB0 := Below.refl w.heap.size w
 have hl_hs := sl_len hs
 have hl_hs2 := sl_len hs2
 refine co_enter (n := 32) Try.func107 rfl rfl rfl [(0, v), (1, v2)] rfl (fun a h0 => ?_)
 refine co_seq ?_
 refine co_reg ?_
 refine pk0 (v := .bool false) h0 rfl fun a1 h1 => ?_; clear h0
 refine pl_nil ?_
 refine co_then ?_
 refine co_seq ?_
 refine co_seq ?_
 refine co_reg ?_
 refine pk0 (v := v) h1 rfl fun a2 h2 => ?_; clear h1
 refine pk (v := .int .i64 ((l.length : Nat) : Int)) h2 rfl (rn_len rfl rfl Try.underlying42 hs) fun a3 h3 => ?_; clear h2
 refine pk0 (v := v2) h3 rfl fun a4 h4 => ?_; clear h3
 refine pk (v := .int .i64 ((l.length : Nat) : Int)) h4 rfl (rn_len rfl rfl Try.underlying42 hs2) fun a5 h5 => ?_; clear h4
 refine pk0 (v := .bool (((l.length : Nat) : Int) != ((l.length : Nat) : Int))) h5 rfl fun a6 h6 => ?_; clear h5
 refine pl_nil ?_
 refine co_then ?_
 have hc7 : (((l.length : Nat) : Int) != ((l.length : Nat) : Int)) = false := by first | (simp; done) | (simp; omega) | exact beq_false_of_ne (by omega) | exact beq_iff_eq.2 (by omega)
 rw [hc7] at h6; clear hc7
 refine co_false h6 rfl ?_
 refine wp_skip ?_
 refine co_then ?_
 refine co_seq ?_
 refine co_seq ?_
 refine co_reg ?_
 refine pk0 (v := .int .i64 0) h6 rfl fun a8 h8 => ?_; clear h6
 refine pl_nil ?_
 refine co_then ?_
 refine wp_block ?_
 have h9 : Slots 32 [(0, v), (1, v2), (5, .int .i64 0)] _ := h8.sub ⟨rfl, rfl, rfl, trivial⟩; clear h8
 refine co_loop (fun mm a x => ∃ (i : Nat), Slots 32 [(0, v), (1, v2), (5, .int .i64 ((i : Nat) : Int))] a ∧ mm = l.length - i ∧ (i ≤ l.length) ∧ Below w.heap.size w x) (l.length - 0) ?_ ?_
 · exact ⟨0, h9.sub ⟨rfl, rfl, (slot_eq rfl (congrArg (Value.int .i64) (by first | rfl | omega))), trivial⟩, rfl, by omega, hB0⟩
 · rintro k10 a11 w12 ⟨i, h11, rfl, hi13, hB14⟩
   have hz15 := hB14.size
   refine co_seq ?_
   refine co_seq ?_
   refine co_reg ?_
   refine pk0 (v := .int .i64 ((i : Nat) : Int)) h11 rfl fun a16 h16 => ?_; clear h11
   refine pk0 (v := v) h16 rfl fun a17 h17 => ?_; clear h16
   refine pk (v := .int .i64 ((l.length : Nat) : Int)) h17 rfl (rn_len rfl rfl Try.underlying42 (hs.below hB14)) fun a18 h18 => ?_; clear h17
   refine pk0 (v := .bool (decide (((i : Nat) : Int) < ((l.length : Nat) : Int)))) h18 rfl fun a19 h19 => ?_; clear h18
   refine pk0 (v := .bool (decide (((i : Nat) : Int) < ((l.length : Nat) : Int)))) h19 rfl fun a20 h20 => ?_; clear h19
   cases hc21 : (decide (((i : Nat) : Int) < ((l.length : Nat) : Int)))
   ·
    rw [hc21] at h20
    have hp22 : ¬ (((i : Nat) : Int) < ((l.length : Nat) : Int)) := of_decide_eq_false hc21
    clear hc21
    refine psk h20 rfl fun a23 h23 => ?_; clear h20
    refine psk h23 rfl fun a24 h24 => ?_; clear h23
    refine psk h24 rfl fun a25 h25 => ?_; clear h24
    refine psk h25 rfl fun a26 h26 => ?_; clear h25
    refine pk0 (v := .bool false) h26 rfl fun a27 h27 => ?_; clear h26
    refine pl_nil ?_
    refine co_then ?_
    refine co_false h27 rfl ?_
    refine wp_exit ?_
    refine co_thenX ?_
    refine co_thenX ?_
    refine co_blockX ?_
    refine co_then ?_
    refine co_seq ?_
    refine co_reg ?_
    refine pk0 (v := .bool true) h27 rfl fun a28 h28 => ?_; clear h27
    refine pl_nil ?_
    refine co_then ?_
    refine wp_ret ?_
    refine co_ret1 h28 rfl rfl ?_
    exact ⟨rfl, hB14⟩
   ·
    rw [hc21] at h20
    have hp29 : ((i : Nat) : Int) < ((l.length : Nat) : Int) := of_decide_eq_true hc21
    clear hc21
    refine pk0 (v := .int .i64 ((i : Nat) : Int)) h20 rfl fun a30 h30 => ?_; clear h20
    refine pk0 (v := v2) h30 rfl fun a31 h31 => ?_; clear h30
    refine pk (v := .int .i64 ((l.length : Nat) : Int)) h31 rfl (rn_len rfl rfl Try.underlying42 (hs2.below hB14)) fun a32 h32 => ?_; clear h31
    refine pk0 (v := .bool (decide (((i : Nat) : Int) < ((l.length : Nat) : Int)))) h32 rfl fun a33 h33 => ?_; clear h32
    refine pk0 (v := .bool (decide (((i : Nat) : Int) < ((l.length : Nat) : Int)))) h33 rfl fun a34 h34 => ?_; clear h33
    refine pl_nil ?_
    refine co_then ?_
    have hc35 : (decide (((i : Nat) : Int) < ((l.length : Nat) : Int))) = true := decide_eq_true (by omega)
    rw [hc35] at h34; clear hc35
    refine co_true h34 rfl ?_
    refine wp_skip ?_
    refine co_then ?_
    refine co_seq ?_
    refine wp_block ?_
    refine co_seq ?_
    refine dr_eq (by kernel_rfl) (fun w36 hg37 => ?_)
    have hz38 := hg37.size
    refine dk0 0 (v := v) h34 rfl rfl rfl fun a39 h39 => ?_; clear h34
    refine dk0 1 (v := .int .i64 ((i : Nat) : Int)) h39 rfl rfl rfl fun a40 h40 => ?_; clear h39
    have hB42 := hb_new hB14 hg37
    obtain ⟨y41, hy41⟩ : ∃ z, l[i]? = some z := ⟨_, List.getElem?_eq_getElem (by first | omega | (simp; done) | (simp; omega))⟩
    refine dk 2 (v := pt (blkOf v) (offOf v + i * 3)) h40 rfl rfl rfl (fun x hx => by subst hx; exact (rn_index rfl rfl rfl Try.underlying42 Try.sizeOf127 (hs.below hB42) (by omega) (by first | omega | (simp; done) | (simp; omega)))) fun a43 h43 => ?_; clear h40
    refine dk 3 (v := .agg #[.string y41.1, .string y41.2.1, .bool y41.2.2]) h43 rfl rfl rfl (fun x hx => by subst hx; exact (rn_loadN rfl rfl Try.underlying127 rfl (by kernel_rfl) (sl_at (hs.below hB42) hy41))) fun a44 h44 => ?_; clear h43
    refine dk0 4 (v := v2) h44 rfl rfl rfl fun a45 h45 => ?_; clear h44
    refine dk0 5 (v := .int .i64 ((i : Nat) : Int)) h45 rfl rfl rfl fun a46 h46 => ?_; clear h45
    refine dk 6 (v := pt (blkOf v2) (offOf v2 + i * 3)) h46 rfl rfl rfl (fun x hx => by subst hx; exact (rn_index rfl rfl rfl Try.underlying42 Try.sizeOf127 (hs2.below hB42) (by omega) (by first | omega | (simp; done) | (simp; omega)))) fun a47 h47 => ?_; clear h46
    refine dk 7 (v := .agg #[.string y41.1, .string y41.2.1, .bool y41.2.2]) h47 rfl rfl rfl (fun x hx => by subst hx; exact (rn_loadN rfl rfl Try.underlying127 rfl (by kernel_rfl) (sl_at (hs2.below hB42) hy41))) fun a48 h48 => ?_; clear h47
    refine dk 8 (v := .bool (!(y41.1.toList == y41.1.toList && y41.2.1.toList == y41.2.1.toList && y41.2.2 == y41.2.2))) h48 rfl rfl rfl (fun x hx => by subst hx; exact (rn_neS rfl rfl rfl Try.eqGuardType127 (eq_op _ _ _ _ _ _ _))) fun a49 h49 => ?_; clear h48
    refine dr_done (by kernel_rfl) ?_
    refine co_then ?_
    have hc50 : (!(y41.1.toList == y41.1.toList && y41.2.1.toList == y41.2.1.toList && y41.2.2 == y41.2.2)) = false := by simp
    rw [hc50] at h49; clear hc50
    refine co_false h49 rfl ?_
    refine wp_skip ?_
    refine co_blockN ?_
    refine co_then ?_
    refine co_reg ?_
    refine pk0 (v := .int .i64 ((i : Nat) : Int)) h49 rfl fun a51 h51 => ?_; clear h49
    refine pk (v := .int .i64 ((i + 1 : Nat) : Int)) h51 rfl (rn_arith' rfl rfl rfl rfl rfl rfl (IntWalk.i64_in _ (by omega)) (by omega)) fun a52 h52 => ?_; clear h51
    refine pk0 (v := .int .i64 ((i + 1 : Nat) : Int)) h52 rfl fun a53 h53 => ?_; clear h52
    refine pl_nil ?_
    refine co_then ?_
    refine ⟨(l.length - (i + 1)), by omega, ?_⟩
    exact ⟨i + 1, h53.sub ⟨rfl, rfl, rfl, trivial⟩, rfl, by omega, hB42⟩
set_option maxRecDepth 100000 in
theorem sameBatE_any (c : Int) (r : Int) (v : Value) (l : List OpT) (v2 : Value) (w : World) (hs : SliceOf opE 3 w v l) (hs2 : SliceOf opE 3 w v2 l) :
    Calls Try.prog 82 #[.agg #[.int .i64 c, .int .i64 r, v], .agg #[.int .i64 c, .int .i64 r, v2]] w fun e w' => e = .returned (.bool true) ∧ Below w.heap.size w w' := by
 have hB0 := Below.refl w.heap.size w
 have hl_hs := sl_len hs
 have hl_hs2 := sl_len hs2
 refine co_enter (n := 24) Try.func82 rfl rfl rfl [(0, .agg #[.int .i64 c, .int .i64 r, v]), (1, .agg #[.int .i64 c, .int .i64 r, v2])] rfl (fun a h0 => ?_)
 refine co_seq ?_
 refine co_reg ?_
 refine pw h0 rfl (op_new (v := fun N => pt N 0) (T := 44) (cs := #[.int .i64 c, .int .i64 r, v]) (by kernel_rfl) (by kernel_rfl) (by kernel_rfl)) ?_; clear h0
 rintro _ w2 a1 ⟨N3, rfl, hN6, hz7, hk5, hg4⟩ h1
 have hz8 := hg4.size
 try dsimp only at h1
 refine pw h1 rfl (op_new (v := fun N => pt N 0) (T := 44) (cs := #[.int .i64 c, .int .i64 r, v2]) (by kernel_rfl) (by kernel_rfl) (by kernel_rfl)) ?_; clear h1
 rintro _ w10 a9 ⟨N11, rfl, hN14, hz15, hk13, hg12⟩ h9
 have hz16 := hg12.size
 try dsimp only at h9
 refine pk0 (v := .bool false) h9 rfl fun a17 h17 => ?_; clear h9
 refine pl_nil ?_
 refine co_then ?_
 refine co_seq ?_
 refine co_reg ?_
 refine pk0 (v := pt N3 0) h17 rfl fun a18 h18 => ?_; clear h17
 have hk19 := hk5.kept hg12 (by simp)
 refine pk (v := .int .i64 c) h18 rfl (rn_load1 rfl rfl Try.isAgg3 (hk19.cell rfl)) fun a20 h20 => ?_; clear h18
 refine pk0 (v := pt N11 0) h20 rfl fun a21 h21 => ?_; clear h20
 refine pk (v := .int .i64 c) h21 rfl (rn_load1 rfl rfl Try.isAgg3 (hk13.cell rfl)) fun a22 h22 => ?_; clear h21
 refine pk0 (v := .bool (c == c)) h22 rfl fun a23 h23 => ?_; clear h22
 refine pk0 (v := .bool (c == c)) h23 rfl fun a24 h24 => ?_; clear h23
 have hc25 : (c == c) = true := by first | (simp; done) | (simp; omega) | exact beq_false_of_ne (by omega) | exact beq_iff_eq.2 (by omega)
 rw [hc25] at h24; clear hc25
 refine pk0 (v := pt N3 1) h24 rfl fun a26 h26 => ?_; clear h24
 refine pk (v := .int .i64 r) h26 rfl (rn_load1 rfl rfl Try.isAgg3 (hk19.cell rfl)) fun a27 h27 => ?_; clear h26
 refine pk0 (v := pt N11 1) h27 rfl fun a28 h28 => ?_; clear h27
 refine pk (v := .int .i64 r) h28 rfl (rn_load1 rfl rfl Try.isAgg3 (hk13.cell rfl)) fun a29 h29 => ?_; clear h28
 refine pk0 (v := .bool (r == r)) h29 rfl fun a30 h30 => ?_; clear h29
 refine pk0 (v := .bool (r == r)) h30 rfl fun a31 h31 => ?_; clear h30
 refine pk0 (v := .bool (r == r)) h31 rfl fun a32 h32 => ?_; clear h31
 have hc33 : (r == r) = true := by first | (simp; done) | (simp; omega) | exact beq_false_of_ne (by omega) | exact beq_iff_eq.2 (by omega)
 rw [hc33] at h32; clear hc33
 refine pk0 (v := pt N3 2) h32 rfl fun a34 h34 => ?_; clear h32
 refine pk (v := v) h34 rfl (rn_load1 rfl rfl Try.isAgg42 (hk19.cell rfl)) fun a35 h35 => ?_; clear h34
 refine pk0 (v := pt N11 2) h35 rfl fun a36 h36 => ?_; clear h35
 refine pk (v := v2) h36 rfl (rn_load1 rfl rfl Try.isAgg42 (hk13.cell rfl)) fun a37 h37 => ?_; clear h36
 have hB40 := hb_new hB0 hg4
 have hB41 := hb_new hB40 hg12
 refine pw h37 rfl (op_call (args := #[v, v2]) (R := fun res xw => res = .bool true ∧ Below w10.heap.size w10 xw) rfl rfl rfl (by kernel_rfl) (by kernel_rfl) (Try.call107 _ _) (sameOpsE_any v l v2 w10 (hs.below hB41) (hs2.below hB41)) (by rintro e x ⟨rfl, hb42⟩; exact ⟨_, rfl, ⟨rfl, hb42⟩⟩)) ?_; clear h37
 rintro _ w39 a38 ⟨rfl, hb42⟩ h38
 have hz43 := hb42.size
 refine pk0 (v := .bool true) h38 rfl fun a44 h44 => ?_; clear h38
 refine pk0 (v := .bool true) h44 rfl fun a45 h45 => ?_; clear h44
 refine pl_nil ?_
 refine co_then ?_
 refine wp_ret ?_
 refine co_ret1 h45 rfl rfl ?_
 have hB46 := hb_call hB41 hb42
 exact ⟨rfl, hB46⟩
set_option maxRecDepth 100000 in
theorem sameEntE_any (c : Int) (r : Int) (v : Value) (l : List OpT) (ts : Int) (v2 : Value) (w : World) (hs : SliceOf opE 3 w v l) (hs2 : SliceOf opE 3 w v2 l) :
    Calls Try.prog 29 #[.agg #[.int .i64 c, .int .i64 r, v, .int .u64 ts], .agg #[.int .i64 c, .int .i64 r, v2, .int .u64 ts]] w fun e w' => e = .returned (.bool true) ∧ Below w.heap.size w w' := by
 have hB0 := Below.refl w.heap.size w
 have hl_hs := sl_len hs
 have hl_hs2 := sl_len hs2
 refine co_enter (n := 17) Try.func29 rfl rfl rfl [(0, .agg #[.int .i64 c, .int .i64 r, v, .int .u64 ts]), (1, .agg #[.int .i64 c, .int .i64 r, v2, .int .u64 ts])] rfl (fun a h0 => ?_)
 refine co_seq ?_
 refine co_reg ?_
 refine pw h0 rfl (op_new (v := fun N => pt N 0) (T := 47) (cs := #[.int .i64 c, .int .i64 r, v, .int .u64 ts]) (by kernel_rfl) (by kernel_rfl) (by kernel_rfl)) ?_; clear h0
 rintro _ w2 a1 ⟨N3, rfl, hN6, hz7, hk5, hg4⟩ h1
 have hz8 := hg4.size
 try dsimp only at h1
 refine pw h1 rfl (op_new (v := fun N => pt N 0) (T := 47) (cs := #[.int .i64 c, .int .i64 r, v2, .int .u64 ts]) (by kernel_rfl) (by kernel_rfl) (by kernel_rfl)) ?_; clear h1
 rintro _ w10 a9 ⟨N11, rfl, hN14, hz15, hk13, hg12⟩ h9
 have hz16 := hg12.size
 try dsimp only at h9
 refine pk0 (v := .bool false) h9 rfl fun a17 h17 => ?_; clear h9
 refine pl_nil ?_
 refine co_then ?_
 refine co_seq ?_
 refine co_reg ?_
 refine pk0 (v := pt N3 3) h17 rfl fun a18 h18 => ?_; clear h17
 have hk19 := hk5.kept hg12 (by simp)
 refine pk (v := .int .u64 ts) h18 rfl (rn_load1 rfl rfl Try.isAgg45 (hk19.cell rfl)) fun a20 h20 => ?_; clear h18
 refine pk0 (v := pt N11 3) h20 rfl fun a21 h21 => ?_; clear h20
 refine pk (v := .int .u64 ts) h21 rfl (rn_load1 rfl rfl Try.isAgg45 (hk13.cell rfl)) fun a22 h22 => ?_; clear h21
 refine pk0 (v := .bool (ts == ts)) h22 rfl fun a23 h23 => ?_; clear h22
 refine pk0 (v := .bool (ts == ts)) h23 rfl fun a24 h24 => ?_; clear h23
 have hc25 : (ts == ts) = true := by first | (simp; done) | (simp; omega) | exact beq_false_of_ne (by omega) | exact beq_iff_eq.2 (by omega)
 rw [hc25] at h24; clear hc25
 refine pk0 (v := pt N3 0) h24 rfl fun a26 h26 => ?_; clear h24
 refine pk (v := .agg #[.int .i64 c, .int .i64 r, v]) h26 rfl (rn_loadN rfl rfl Try.underlying44 rfl (by kernel_rfl) (blk_part hk19 0 (by rfl))) fun a27 h27 => ?_; clear h26
 refine pk0 (v := pt N11 0) h27 rfl fun a28 h28 => ?_; clear h27
 refine pk (v := .agg #[.int .i64 c, .int .i64 r, v2]) h28 rfl (rn_loadN rfl rfl Try.underlying44 rfl (by kernel_rfl) (blk_part hk13 0 (by rfl))) fun a29 h29 => ?_; clear h28
 have hB32 := hb_new hB0 hg4
 have hB33 := hb_new hB32 hg12
 refine pw h29 rfl (op_call (args := #[.agg #[.int .i64 c, .int .i64 r, v], .agg #[.int .i64 c, .int .i64 r, v2]]) (R := fun res xw => res = .bool true ∧ Below w10.heap.size w10 xw) rfl rfl rfl (by kernel_rfl) (by kernel_rfl) (Try.call82 _ _) (sameBatE_any c r v l v2 w10 (hs.below hB33) (hs2.below hB33)) (by rintro e x ⟨rfl, hb34⟩; exact ⟨_, rfl, ⟨rfl, hb34⟩⟩)) ?_; clear h29
 rintro _ w31 a30 ⟨rfl, hb34⟩ h30
 have hz35 := hb34.size
 refine pk0 (v := .bool true) h30 rfl fun a36 h36 => ?_; clear h30
 refine pk0 (v := .bool true) h36 rfl fun a37 h37 => ?_; clear h36
 refine pl_nil ?_
 refine co_then ?_
 refine wp_ret ?_
 refine co_ret1 h37 rfl rfl ?_
 have hB38 := hb_call hB33 hb34
 exact ⟨rfl, hB38⟩

theorem sameEntG (c r : Int) (v : Value) (l : List OpT) (ts c2 r2 : Int) (v2 : Value) (l2 : List OpT) (ts2 : Int) (w : World) (hs : SliceOf opE 3 w v l) (hs2 : SliceOf opE 3 w v2 l2) (heq : c = c2 ∧ r = r2 ∧ l = l2 ∧ ts = ts2) :
    Calls Try.prog 29 #[.agg #[.int .i64 c, .int .i64 r, v, .int .u64 ts], .agg #[.int .i64 c2, .int .i64 r2, v2, .int .u64 ts2]] w fun e w' => e = .returned (.bool true) ∧ Below w.heap.size w w' := by
  obtain ⟨rfl, rfl, rfl, rfl⟩ := heq
  exact sameEntE_any c r v l ts v2 w hs hs2

set_option maxRecDepth 100000 in
theorem sameAllE_any (v : Value) (l : List EntT) (v2 : Value) (l2 : List EntT) (w : World) (hs : SliceOf entE 4 w v l) (hok : ∀ z ∈ l, EntOk w z) (hs2 : SliceOf entE 4 w v2 l2) (hok2 : ∀ z ∈ l2, EntOk w z) (heq : l.map e0 = l2.map e0) :
    Calls Try.prog 23 #[v, v2] w fun e w' => e = .returned (.bool true) ∧ Below w.heap.size w w' := by
 have hll := e0_len heq
 have hB0 := Below.refl w.heap.size w
 have hl_hs := sl_len hs
 have hl_hs2 := sl_len hs2
 refine co_enter (n := 33) Try.func23 rfl rfl rfl [(0, v), (1, v2)] rfl (fun a h0 => ?_)
 refine co_seq ?_
 refine co_reg ?_
 refine pk0 (v := .bool false) h0 rfl fun a1 h1 => ?_; clear h0
 refine pl_nil ?_
 refine co_then ?_
 refine co_seq ?_
 refine co_seq ?_
 refine co_reg ?_
 refine pk0 (v := v) h1 rfl fun a2 h2 => ?_; clear h1
 refine pk (v := .int .i64 ((l.length : Nat) : Int)) h2 rfl (rn_len rfl rfl Try.underlying39 hs) fun a3 h3 => ?_; clear h2
 refine pk0 (v := v2) h3 rfl fun a4 h4 => ?_; clear h3
 refine pk (v := .int .i64 ((l2.length : Nat) : Int)) h4 rfl (rn_len rfl rfl Try.underlying39 hs2) fun a5 h5 => ?_; clear h4
 refine pk0 (v := .bool (((l.length : Nat) : Int) != ((l2.length : Nat) : Int))) h5 rfl fun a6 h6 => ?_; clear h5
 refine pl_nil ?_
 refine co_then ?_
 have hc7 : (((l.length : Nat) : Int) != ((l2.length : Nat) : Int)) = false := by first | (simp; done) | (simp; omega) | exact beq_false_of_ne (by omega) | exact beq_iff_eq.2 (by omega)
 rw [hc7] at h6; clear hc7
 refine co_false h6 rfl ?_
 refine wp_skip ?_
 refine co_then ?_
 refine co_seq ?_
 refine co_seq ?_
 refine co_reg ?_
 refine pk0 (v := .int .i64 0) h6 rfl fun a8 h8 => ?_; clear h6
 refine pl_nil ?_
 refine co_then ?_
 refine wp_block ?_
 have h9 : Slots 33 [(0, v), (1, v2), (5, .int .i64 0)] _ := h8.sub ⟨rfl, rfl, rfl, trivial⟩; clear h8
 refine co_loop (fun mm a x => ∃ (i : Nat), Slots 33 [(0, v), (1, v2), (5, .int .i64 ((i : Nat) : Int))] a ∧ mm = l.length - i ∧ (i ≤ l.length) ∧ Below w.heap.size w x) (l.length - 0) ?_ ?_
 · exact ⟨0, h9.sub ⟨rfl, rfl, (slot_eq rfl (congrArg (Value.int .i64) (by first | rfl | omega))), trivial⟩, rfl, by omega, hB0⟩
 · rintro k10 a11 w12 ⟨i, h11, rfl, hi13, hB14⟩
   have hz15 := hB14.size
   refine co_seq ?_
   refine co_seq ?_
   refine co_reg ?_
   refine pk0 (v := .int .i64 ((i : Nat) : Int)) h11 rfl fun a16 h16 => ?_; clear h11
   refine pk0 (v := v) h16 rfl fun a17 h17 => ?_; clear h16
   refine pk (v := .int .i64 ((l.length : Nat) : Int)) h17 rfl (rn_len rfl rfl Try.underlying39 (hs.below hB14)) fun a18 h18 => ?_; clear h17
   refine pk0 (v := .bool (decide (((i : Nat) : Int) < ((l.length : Nat) : Int)))) h18 rfl fun a19 h19 => ?_; clear h18
   refine pk0 (v := .bool (decide (((i : Nat) : Int) < ((l.length : Nat) : Int)))) h19 rfl fun a20 h20 => ?_; clear h19
   cases hc21 : (decide (((i : Nat) : Int) < ((l.length : Nat) : Int)))
   ·
    rw [hc21] at h20
    have hp22 : ¬ (((i : Nat) : Int) < ((l.length : Nat) : Int)) := of_decide_eq_false hc21
    clear hc21
    refine psk h20 rfl fun a23 h23 => ?_; clear h20
    refine psk h23 rfl fun a24 h24 => ?_; clear h23
    refine psk h24 rfl fun a25 h25 => ?_; clear h24
    refine psk h25 rfl fun a26 h26 => ?_; clear h25
    refine pk0 (v := .bool false) h26 rfl fun a27 h27 => ?_; clear h26
    refine pl_nil ?_
    refine co_then ?_
    refine co_false h27 rfl ?_
    refine wp_exit ?_
    refine co_thenX ?_
    refine co_thenX ?_
    refine co_blockX ?_
    refine co_then ?_
    refine co_seq ?_
    refine co_reg ?_
    refine pk0 (v := .bool true) h27 rfl fun a28 h28 => ?_; clear h27
    refine pl_nil ?_
    refine co_then ?_
    refine wp_ret ?_
    refine co_ret1 h28 rfl rfl ?_
    exact ⟨rfl, hB14⟩
   ·
    rw [hc21] at h20
    have hp29 : ((i : Nat) : Int) < ((l.length : Nat) : Int) := of_decide_eq_true hc21
    clear hc21
    refine pk0 (v := .int .i64 ((i : Nat) : Int)) h20 rfl fun a30 h30 => ?_; clear h20
    refine pk0 (v := v2) h30 rfl fun a31 h31 => ?_; clear h30
    refine pk (v := .int .i64 ((l2.length : Nat) : Int)) h31 rfl (rn_len rfl rfl Try.underlying39 (hs2.below hB14)) fun a32 h32 => ?_; clear h31
    refine pk0 (v := .bool (decide (((i : Nat) : Int) < ((l2.length : Nat) : Int)))) h32 rfl fun a33 h33 => ?_; clear h32
    refine pk0 (v := .bool (decide (((i : Nat) : Int) < ((l2.length : Nat) : Int)))) h33 rfl fun a34 h34 => ?_; clear h33
    refine pl_nil ?_
    refine co_then ?_
    have hc35 : (decide (((i : Nat) : Int) < ((l2.length : Nat) : Int))) = true := decide_eq_true (by omega)
    rw [hc35] at h34; clear hc35
    refine co_true h34 rfl ?_
    refine wp_skip ?_
    refine co_then ?_
    refine co_seq ?_
    refine wp_block ?_
    refine co_seq ?_
    refine dr_gen (fun x => Below w.heap.size w x) (by kernel_rfl) (fun w36 hg37 => ?_) (fun w36 hg37 => ?_)
    ·
     have hz38 := hg37.size
     have hB39 := hb_new hB14 hg37
     exact hB39
    have hz40 := hg37.size
    have hB41 := hb_new hB14 hg37
    refine dk0 0 (v := v) h34 rfl rfl hB41 fun a42 h42 => ?_; clear h34
    refine dk0 1 (v := .int .i64 ((i : Nat) : Int)) h42 rfl rfl hB41 fun a43 h43 => ?_; clear h42
    obtain ⟨y44, hy44⟩ : ∃ z, l[i]? = some z := ⟨_, List.getElem?_eq_getElem (by first | omega | (simp; done) | (simp; omega))⟩
    have oky44 := hok _ (List.mem_of_getElem? hy44)
    have k45 : 0 ≤ y44.ts := oky44.ts0
    have k46 : y44.ts < 18446744073709551616 := oky44.ts1
    refine dk 2 (v := pt (blkOf v) (offOf v + i * 4)) h43 rfl rfl hB41 (fun x hx => (rn_index rfl rfl rfl Try.underlying39 Try.sizeOf47 (hs.below hx) (by omega) (by first | omega | (simp; done) | (simp; omega)))) fun a47 h47 => ?_; clear h43
    refine dk 3 (v := .agg #[.int .i64 y44.client, .int .i64 y44.req, y44.ops, .int .u64 y44.ts]) h47 rfl rfl hB41 (fun x hx => (rn_loadN rfl rfl Try.underlying47 rfl (by kernel_rfl) (sl_at (hs.below hx) hy44))) fun a48 h48 => ?_; clear h47
    refine dk0 4 (v := v2) h48 rfl rfl hB41 fun a49 h49 => ?_; clear h48
    refine dk0 5 (v := .int .i64 ((i : Nat) : Int)) h49 rfl rfl hB41 fun a50 h50 => ?_; clear h49
    obtain ⟨y51, hy51⟩ : ∃ z, l2[i]? = some z := ⟨_, List.getElem?_eq_getElem (by first | omega | (simp; done) | (simp; omega))⟩
    have oky51 := hok2 _ (List.mem_of_getElem? hy51)
    have k52 : 0 ≤ y51.ts := oky51.ts0
    have k53 : y51.ts < 18446744073709551616 := oky51.ts1
    refine dk 6 (v := pt (blkOf v2) (offOf v2 + i * 4)) h50 rfl rfl hB41 (fun x hx => (rn_index rfl rfl rfl Try.underlying39 Try.sizeOf47 (hs2.below hx) (by omega) (by first | omega | (simp; done) | (simp; omega)))) fun a54 h54 => ?_; clear h50
    refine dk 7 (v := .agg #[.int .i64 y51.client, .int .i64 y51.req, y51.ops, .int .u64 y51.ts]) h54 rfl rfl hB41 (fun x hx => (rn_loadN rfl rfl Try.underlying47 rfl (by kernel_rfl) (sl_at (hs2.below hx) hy51))) fun a55 h55 => ?_; clear h54
    refine d1 8 h55 rfl rfl (op_call (args := #[.agg #[.int .i64 y44.client, .int .i64 y44.req, y44.ops, .int .u64 y44.ts], .agg #[.int .i64 y51.client, .int .i64 y51.req, y51.ops, .int .u64 y51.ts]]) (R := fun res xw => res = .bool true ∧ Below w36.heap.size w36 xw) rfl rfl rfl (by kernel_rfl) (by kernel_rfl) (Try.call29 _ _) (sameEntG y44.client y44.req y44.ops y44.opl y44.ts y51.client y51.req y51.ops y51.opl y51.ts w36 (oky44.ops.below hB41) (oky51.ops.below hB41) (e0_both heq hy44 hy51)) (by rintro e x ⟨rfl, hb58⟩; exact ⟨_, rfl, ⟨rfl, hb58⟩⟩)) ?_ ?_; clear h55
    ·
     rintro _ w57 ⟨rfl, hb58⟩
     have hz59 := hb58.size
     have hB60 := hb_call hB41 hb58
     exact hB60
    rintro _ w57 a56 ⟨rfl, hb58⟩ h56
    have hz59 := hb58.size
    have hB60 := hb_call hB41 hb58
    refine dk0 9 (v := .bool false) h56 rfl rfl hB60 fun a61 h61 => ?_; clear h56
    refine dr_done (by kernel_rfl) ?_
    refine co_then ?_
    refine co_false h61 rfl ?_
    refine wp_skip ?_
    refine co_blockN ?_
    refine co_then ?_
    refine co_reg ?_
    refine pk0 (v := .int .i64 ((i : Nat) : Int)) h61 rfl fun a62 h62 => ?_; clear h61
    refine pk (v := .int .i64 ((i + 1 : Nat) : Int)) h62 rfl (rn_arith' rfl rfl rfl rfl rfl rfl (IntWalk.i64_in _ (by omega)) (by omega)) fun a63 h63 => ?_; clear h62
    refine pk0 (v := .int .i64 ((i + 1 : Nat) : Int)) h63 rfl fun a64 h64 => ?_; clear h63
    refine pl_nil ?_
    refine co_then ?_
    refine ⟨(l.length - (i + 1)), by omega, ?_⟩
    exact ⟨i + 1, h64.sub ⟨rfl, rfl, rfl, trivial⟩, rfl, by omega, hB60⟩
end Go.Proofs.Ythmnndbpadegnaa
