/- Put together: MeSRp, RelKRp, ConfJzRp, MsgORp, RelLRp. Conditions: as each says. -/
import Derived.Test.YtlbemlodcdgakaaRq1
import Derived.Laws.StructEq
import Derived.Test.YtlbemlodcdgakaaRq2
/- The document's Same of two messages that read alike. Conditions: none. -/
namespace Go.Proofs.Ytlbemlodcdgakaa
open Go.RowKit Go.PlainAid
set_option linter.unusedVariables false
set_option linter.unusedSimpArgs false

set_option maxRecDepth 100000 in
theorem sameOpsM (v : Value) (l : List OpT) (v2 : Value) (w : World) (hs : SliceOf opE 3 w v l) (hs2 : SliceOf opE 3 w v2 l) :
    Calls Try.prog 123 #[v, v2] w fun e w' => e = .returned (.bool true) ∧ Below w.heap.size w w' := by
 have hB0 := Below.refl w.heap.size w
 have hl_hs := sl_len hs
 have hl_hs2 := sl_len hs2
 refine co_enter (n := 32) Try.func123 rfl rfl rfl [(0, v), (1, v2)] rfl (fun a h0 => ?_)
 refine co_seq ?_
 refine co_reg ?_
 refine pk0 (v := .bool false) h0 rfl fun a1 h1 => ?_; clear h0
 refine pl_nil ?_
 refine co_then ?_
 refine co_seq ?_
 refine co_seq ?_
 refine co_reg ?_
 refine pk0 (v := v) h1 rfl fun a2 h2 => ?_; clear h1
 refine pk (v := .int .i64 ((l.length : Nat) : Int)) h2 rfl (rn_len rfl rfl Try.underlying34 hs) fun a3 h3 => ?_; clear h2
 refine pk0 (v := v2) h3 rfl fun a4 h4 => ?_; clear h3
 refine pk (v := .int .i64 ((l.length : Nat) : Int)) h4 rfl (rn_len rfl rfl Try.underlying34 hs2) fun a5 h5 => ?_; clear h4
 refine pk0 (v := .bool (((l.length : Nat) : Int) != ((l.length : Nat) : Int))) h5 rfl fun a6 h6 => ?_; clear h5
 refine pl_nil ?_
 refine co_then ?_
 have hc7 : (((l.length : Nat) : Int) != ((l.length : Nat) : Int)) = false := by simp
 rw [hc7] at h6; clear hc7
 refine co_false h6 rfl ?_
 refine wp_skip ?_
 refine co_then ?_
 refine co_seq ?_
 refine co_seq ?_
 refine co_reg ?_
 refine pk0 (v := .int .i64 0) h6 rfl fun a8 h8 => ?_; clear h6
 refine pl_nil ?_
 refine co_then ?_
 refine wp_block ?_
 have h9 : Slots 32 [(0, v), (1, v2), (5, .int .i64 0)] _ := h8.sub ⟨rfl, rfl, rfl, trivial⟩; clear h8
 refine co_loop (fun mm a x => ∃ (i : Nat), Slots 32 [(0, v), (1, v2), (5, .int .i64 ((i : Nat) : Int))] a ∧ mm = l.length - i ∧ (i ≤ l.length) ∧ Below w.heap.size w x) (l.length - 0) ?_ ?_
 · exact ⟨0, h9.sub ⟨rfl, rfl, (slot_eq rfl (congrArg (Value.int .i64) (by first | rfl | omega))), trivial⟩, rfl, by omega, hB0⟩
 · rintro k10 a11 w12 ⟨i, h11, rfl, hi13, hB14⟩
   have hz15 := hB14.size
   refine co_seq ?_
   refine co_seq ?_
   refine co_reg ?_
   refine pk0 (v := .int .i64 ((i : Nat) : Int)) h11 rfl fun a16 h16 => ?_; clear h11
   refine pk0 (v := v) h16 rfl fun a17 h17 => ?_; clear h16
   refine pk (v := .int .i64 ((l.length : Nat) : Int)) h17 rfl (rn_len rfl rfl Try.underlying34 (hs.below hB14)) fun a18 h18 => ?_; clear h17
   refine pk0 (v := .bool (decide (((i : Nat) : Int) < ((l.length : Nat) : Int)))) h18 rfl fun a19 h19 => ?_; clear h18
   refine pk0 (v := .bool (decide (((i : Nat) : Int) < ((l.length : Nat) : Int)))) h19 rfl fun a20 h20 => ?_; clear h19
   cases hc21 : (decide (((i : Nat) : Int) < ((l.length : Nat) : Int)))
   ·
    rw [hc21] at h20
    have hp22 : ¬ (((i : Nat) : Int) < ((l.length : Nat) : Int)) := of_decide_eq_false hc21
    clear hc21
    refine psk h20 rfl fun a23 h23 => ?_; clear h20
    refine psk h23 rfl fun a24 h24 => ?_; clear h23
    refine psk h24 rfl fun a25 h25 => ?_; clear h24
    refine psk h25 rfl fun a26 h26 => ?_; clear h25
    refine pk0 (v := .bool false) h26 rfl fun a27 h27 => ?_; clear h26
    refine pl_nil ?_
    refine co_then ?_
    refine co_false h27 rfl ?_
    refine wp_exit ?_
    refine co_thenX ?_
    refine co_thenX ?_
    refine co_blockX ?_
    refine co_then ?_
    refine co_seq ?_
    refine co_reg ?_
    refine pk0 (v := .bool true) h27 rfl fun a28 h28 => ?_; clear h27
    refine pl_nil ?_
    refine co_then ?_
    refine wp_ret ?_
    refine co_ret1 h28 rfl rfl ?_
    exact ⟨rfl, hB14⟩
   ·
    rw [hc21] at h20
    have hp29 : ((i : Nat) : Int) < ((l.length : Nat) : Int) := of_decide_eq_true hc21
    clear hc21
    refine pk0 (v := .int .i64 ((i : Nat) : Int)) h20 rfl fun a30 h30 => ?_; clear h20
    refine pk0 (v := v2) h30 rfl fun a31 h31 => ?_; clear h30
    refine pk (v := .int .i64 ((l.length : Nat) : Int)) h31 rfl (rn_len rfl rfl Try.underlying34 (hs2.below hB14)) fun a32 h32 => ?_; clear h31
    refine pk0 (v := .bool (decide (((i : Nat) : Int) < ((l.length : Nat) : Int)))) h32 rfl fun a33 h33 => ?_; clear h32
    refine pk0 (v := .bool (decide (((i : Nat) : Int) < ((l.length : Nat) : Int)))) h33 rfl fun a34 h34 => ?_; clear h33
    refine pl_nil ?_
    refine co_then ?_
    have hc35 : (decide (((i : Nat) : Int) < ((l.length : Nat) : Int))) = true := decide_eq_true (by omega)
    rw [hc35] at h34; clear hc35
    refine co_true h34 rfl ?_
    refine wp_skip ?_
    refine co_then ?_
    refine co_seq ?_
    refine wp_block ?_
    refine co_seq ?_
    refine dr_eq (by kernel_rfl) (fun w36 hg37 => ?_)
    have hz38 := hg37.size
    refine dk0 0 (v := v) h34 rfl rfl rfl fun a39 h39 => ?_; clear h34
    refine dk0 1 (v := .int .i64 ((i : Nat) : Int)) h39 rfl rfl rfl fun a40 h40 => ?_; clear h39
    have hB42 := hb_new hB14 hg37
    obtain ⟨y41, hy41⟩ : ∃ z, l[i]? = some z := ⟨_, List.getElem?_eq_getElem (by first | omega | (simp; done) | (simp; omega))⟩
    refine dk 2 (v := pt (blkOf v) (offOf v + i * 3)) h40 rfl rfl rfl (fun x hx => by subst hx; exact (rn_index rfl rfl rfl Try.underlying34 Try.sizeOf201 (hs.below hB42) (by omega) (by first | omega | (simp; done) | (simp; omega)))) fun a43 h43 => ?_; clear h40
    refine dk 3 (v := .agg #[.string y41.1, .string y41.2.1, .bool y41.2.2]) h43 rfl rfl rfl (fun x hx => by subst hx; exact (rn_loadN rfl rfl Try.underlying201 rfl (by kernel_rfl) (sl_at (hs.below hB42) hy41))) fun a44 h44 => ?_; clear h43
    refine dk0 4 (v := v2) h44 rfl rfl rfl fun a45 h45 => ?_; clear h44
    refine dk0 5 (v := .int .i64 ((i : Nat) : Int)) h45 rfl rfl rfl fun a46 h46 => ?_; clear h45
    refine dk 6 (v := pt (blkOf v2) (offOf v2 + i * 3)) h46 rfl rfl rfl (fun x hx => by subst hx; exact (rn_index rfl rfl rfl Try.underlying34 Try.sizeOf201 (hs2.below hB42) (by omega) (by first | omega | (simp; done) | (simp; omega)))) fun a47 h47 => ?_; clear h46
    refine dk 7 (v := .agg #[.string y41.1, .string y41.2.1, .bool y41.2.2]) h47 rfl rfl rfl (fun x hx => by subst hx; exact (rn_loadN rfl rfl Try.underlying201 rfl (by kernel_rfl) (sl_at (hs2.below hB42) hy41))) fun a48 h48 => ?_; clear h47
    refine dk 8 (v := .bool (!(y41.1.toList == y41.1.toList && y41.2.1.toList == y41.2.1.toList && y41.2.2 == y41.2.2))) h48 rfl rfl rfl (fun x hx => by subst hx; exact (rn_neS rfl rfl rfl Try.eqGuardType201 (eq_op _ _ _ _ _ _ _))) fun a49 h49 => ?_; clear h48
    refine dr_done (by kernel_rfl) ?_
    refine co_then ?_
    have hc50 : (!(y41.1.toList == y41.1.toList && y41.2.1.toList == y41.2.1.toList && y41.2.2 == y41.2.2)) = false := by simp
    rw [hc50] at h49; clear hc50
    refine co_false h49 rfl ?_
    refine wp_skip ?_
    refine co_blockN ?_
    refine co_then ?_
    refine co_reg ?_
    refine pk0 (v := .int .i64 ((i : Nat) : Int)) h49 rfl fun a51 h51 => ?_; clear h49
    refine pk (v := .int .i64 ((i + 1 : Nat) : Int)) h51 rfl (rn_arith' rfl rfl rfl rfl rfl rfl (IntWalk.i64_in _ (by omega)) (by omega)) fun a52 h52 => ?_; clear h51
    refine pk0 (v := .int .i64 ((i + 1 : Nat) : Int)) h52 rfl fun a53 h53 => ?_; clear h52
    refine pl_nil ?_
    refine co_then ?_
    refine ⟨(l.length - (i + 1)), by omega, ?_⟩
    exact ⟨i + 1, h53.sub ⟨rfl, rfl, rfl, trivial⟩, rfl, by omega, hB42⟩
set_option maxRecDepth 100000 in
theorem sameBatM (c : Int) (r : Int) (v : Value) (l : List OpT) (v2 : Value) (w : World) (hs : SliceOf opE 3 w v l) (hs2 : SliceOf opE 3 w v2 l) :
    Calls Try.prog 75 #[.agg #[.int .i64 c, .int .i64 r, v], .agg #[.int .i64 c, .int .i64 r, v2]] w fun e w' => e = .returned (.bool true) ∧ Below w.heap.size w w' := by
 have hB0 := Below.refl w.heap.size w
 have hl_hs := sl_len hs
 have hl_hs2 := sl_len hs2
 refine co_enter (n := 24) Try.func75 rfl rfl rfl [(0, .agg #[.int .i64 c, .int .i64 r, v]), (1, .agg #[.int .i64 c, .int .i64 r, v2])] rfl (fun a h0 => ?_)
 refine co_seq ?_
 refine co_reg ?_
 refine pw h0 rfl (op_new (v := fun N => pt N 0) (T := 36) (cs := #[.int .i64 c, .int .i64 r, v]) (by kernel_rfl) (by kernel_rfl) (by kernel_rfl)) ?_; clear h0
 rintro _ w2 a1 ⟨N3, rfl, hN6, hz7, hk5, hg4⟩ h1
 have hz8 := hg4.size
 try dsimp only at h1
 refine pw h1 rfl (op_new (v := fun N => pt N 0) (T := 36) (cs := #[.int .i64 c, .int .i64 r, v2]) (by kernel_rfl) (by kernel_rfl) (by kernel_rfl)) ?_; clear h1
 rintro _ w10 a9 ⟨N11, rfl, hN14, hz15, hk13, hg12⟩ h9
 have hz16 := hg12.size
 try dsimp only at h9
 refine pk0 (v := .bool false) h9 rfl fun a17 h17 => ?_; clear h9
 refine pl_nil ?_
 refine co_then ?_
 refine co_seq ?_
 refine co_reg ?_
 refine pk0 (v := pt N3 0) h17 rfl fun a18 h18 => ?_; clear h17
 have hk19 := hk5.kept hg12 (by simp)
 refine pk (v := .int .i64 c) h18 rfl (rn_load1 rfl rfl Try.isAgg3 (hk19.cell rfl)) fun a20 h20 => ?_; clear h18
 refine pk0 (v := pt N11 0) h20 rfl fun a21 h21 => ?_; clear h20
 refine pk (v := .int .i64 c) h21 rfl (rn_load1 rfl rfl Try.isAgg3 (hk13.cell rfl)) fun a22 h22 => ?_; clear h21
 refine pk0 (v := .bool (c == c)) h22 rfl fun a23 h23 => ?_; clear h22
 refine pk0 (v := .bool (c == c)) h23 rfl fun a24 h24 => ?_; clear h23
 have hc25 : (c == c) = true := by first | (simp; done) | (simp; omega) | exact beq_false_of_ne (by omega) | exact beq_iff_eq.2 (by omega)
 rw [hc25] at h24; clear hc25
 refine pk0 (v := pt N3 1) h24 rfl fun a26 h26 => ?_; clear h24
 refine pk (v := .int .i64 r) h26 rfl (rn_load1 rfl rfl Try.isAgg3 (hk19.cell rfl)) fun a27 h27 => ?_; clear h26
 refine pk0 (v := pt N11 1) h27 rfl fun a28 h28 => ?_; clear h27
 refine pk (v := .int .i64 r) h28 rfl (rn_load1 rfl rfl Try.isAgg3 (hk13.cell rfl)) fun a29 h29 => ?_; clear h28
 refine pk0 (v := .bool (r == r)) h29 rfl fun a30 h30 => ?_; clear h29
 refine pk0 (v := .bool (r == r)) h30 rfl fun a31 h31 => ?_; clear h30
 refine pk0 (v := .bool (r == r)) h31 rfl fun a32 h32 => ?_; clear h31
 have hc33 : (r == r) = true := by first | (simp; done) | (simp; omega) | exact beq_false_of_ne (by omega) | exact beq_iff_eq.2 (by omega)
 rw [hc33] at h32; clear hc33
 refine pk0 (v := pt N3 2) h32 rfl fun a34 h34 => ?_; clear h32
 refine pk (v := v) h34 rfl (rn_load1 rfl rfl Try.isAgg34 (hk19.cell rfl)) fun a35 h35 => ?_; clear h34
 refine pk0 (v := pt N11 2) h35 rfl fun a36 h36 => ?_; clear h35
 refine pk (v := v2) h36 rfl (rn_load1 rfl rfl Try.isAgg34 (hk13.cell rfl)) fun a37 h37 => ?_; clear h36
 have hB40 := hb_new hB0 hg4
 have hB41 := hb_new hB40 hg12
 refine pw h37 rfl (op_call (args := #[v, v2]) (R := fun res xw => res = .bool true ∧ Below w10.heap.size w10 xw) rfl rfl rfl (by kernel_rfl) (by kernel_rfl) (Try.call123 _ _) (sameOpsM v l v2 w10 (hs.below hB41) (hs2.below hB41)) (by rintro e x ⟨rfl, hb42⟩; exact ⟨_, rfl, ⟨rfl, hb42⟩⟩)) ?_; clear h37
 rintro _ w39 a38 ⟨rfl, hb42⟩ h38
 have hz43 := hb42.size
 refine pk0 (v := .bool true) h38 rfl fun a44 h44 => ?_; clear h38
 refine pk0 (v := .bool true) h44 rfl fun a45 h45 => ?_; clear h44
 refine pl_nil ?_
 refine co_then ?_
 refine wp_ret ?_
 refine co_ret1 h45 rfl rfl ?_
 have hB46 := hb_call hB41 hb42
 exact ⟨rfl, hB46⟩
set_option maxRecDepth 100000 in
theorem sameEntM (c : Int) (r : Int) (v : Value) (l : List OpT) (ts : Int) (v2 : Value) (w : World) (hs : SliceOf opE 3 w v l) (hs2 : SliceOf opE 3 w v2 l) :
    Calls Try.prog 124 #[.agg #[.int .i64 c, .int .i64 r, v, .int .u64 ts], .agg #[.int .i64 c, .int .i64 r, v2, .int .u64 ts]] w fun e w' => e = .returned (.bool true) ∧ Below w.heap.size w w' := by
 have hB0 := Below.refl w.heap.size w
 have hl_hs := sl_len hs
 have hl_hs2 := sl_len hs2
 refine co_enter (n := 17) Try.func124 rfl rfl rfl [(0, .agg #[.int .i64 c, .int .i64 r, v, .int .u64 ts]), (1, .agg #[.int .i64 c, .int .i64 r, v2, .int .u64 ts])] rfl (fun a h0 => ?_)
 refine co_seq ?_
 refine co_reg ?_
 refine pw h0 rfl (op_new (v := fun N => pt N 0) (T := 38) (cs := #[.int .i64 c, .int .i64 r, v, .int .u64 ts]) (by kernel_rfl) (by kernel_rfl) (by kernel_rfl)) ?_; clear h0
 rintro _ w2 a1 ⟨N3, rfl, hN6, hz7, hk5, hg4⟩ h1
 have hz8 := hg4.size
 try dsimp only at h1
 refine pw h1 rfl (op_new (v := fun N => pt N 0) (T := 38) (cs := #[.int .i64 c, .int .i64 r, v2, .int .u64 ts]) (by kernel_rfl) (by kernel_rfl) (by kernel_rfl)) ?_; clear h1
 rintro _ w10 a9 ⟨N11, rfl, hN14, hz15, hk13, hg12⟩ h9
 have hz16 := hg12.size
 try dsimp only at h9
 refine pk0 (v := .bool false) h9 rfl fun a17 h17 => ?_; clear h9
 refine pl_nil ?_
 refine co_then ?_
 refine co_seq ?_
 refine co_reg ?_
 refine pk0 (v := pt N3 3) h17 rfl fun a18 h18 => ?_; clear h17
 have hk19 := hk5.kept hg12 (by simp)
 refine pk (v := .int .u64 ts) h18 rfl (rn_load1 rfl rfl Try.isAgg29 (hk19.cell rfl)) fun a20 h20 => ?_; clear h18
 refine pk0 (v := pt N11 3) h20 rfl fun a21 h21 => ?_; clear h20
 refine pk (v := .int .u64 ts) h21 rfl (rn_load1 rfl rfl Try.isAgg29 (hk13.cell rfl)) fun a22 h22 => ?_; clear h21
 refine pk0 (v := .bool (ts == ts)) h22 rfl fun a23 h23 => ?_; clear h22
 refine pk0 (v := .bool (ts == ts)) h23 rfl fun a24 h24 => ?_; clear h23
 have hc25 : (ts == ts) = true := by first | (simp; done) | (simp; omega) | exact beq_false_of_ne (by omega) | exact beq_iff_eq.2 (by omega)
 rw [hc25] at h24; clear hc25
 refine pk0 (v := pt N3 0) h24 rfl fun a26 h26 => ?_; clear h24
 refine pk (v := .agg #[.int .i64 c, .int .i64 r, v]) h26 rfl (rn_loadN rfl rfl Try.underlying36 rfl (by kernel_rfl) (blk_part hk19 0 (by rfl))) fun a27 h27 => ?_; clear h26
 refine pk0 (v := pt N11 0) h27 rfl fun a28 h28 => ?_; clear h27
 refine pk (v := .agg #[.int .i64 c, .int .i64 r, v2]) h28 rfl (rn_loadN rfl rfl Try.underlying36 rfl (by kernel_rfl) (blk_part hk13 0 (by rfl))) fun a29 h29 => ?_; clear h28
 have hB32 := hb_new hB0 hg4
 have hB33 := hb_new hB32 hg12
 refine pw h29 rfl (op_call (args := #[.agg #[.int .i64 c, .int .i64 r, v], .agg #[.int .i64 c, .int .i64 r, v2]]) (R := fun res xw => res = .bool true ∧ Below w10.heap.size w10 xw) rfl rfl rfl (by kernel_rfl) (by kernel_rfl) (Try.call75 _ _) (sameBatM c r v l v2 w10 (hs.below hB33) (hs2.below hB33)) (by rintro e x ⟨rfl, hb34⟩; exact ⟨_, rfl, ⟨rfl, hb34⟩⟩)) ?_; clear h29
 rintro _ w31 a30 ⟨rfl, hb34⟩ h30
 have hz35 := hb34.size
 refine pk0 (v := .bool true) h30 rfl fun a36 h36 => ?_; clear h30
 refine pk0 (v := .bool true) h36 rfl fun a37 h37 => ?_; clear h36
 refine pl_nil ?_
 refine co_then ?_
 refine wp_ret ?_
 refine co_ret1 h37 rfl rfl ?_
 have hB38 := hb_call hB33 hb34
 exact ⟨rfl, hB38⟩

theorem sameEntX (c r : Int) (v : Value) (l : List OpT) (ts c2 r2 : Int) (v2 : Value) (l2 : List OpT) (ts2 : Int) (w : World) (hs : SliceOf opE 3 w v l) (hs2 : SliceOf opE 3 w v2 l2) (heq : c = c2 ∧ r = r2 ∧ l = l2 ∧ ts = ts2) :
    Calls Try.prog 124 #[.agg #[.int .i64 c, .int .i64 r, v, .int .u64 ts], .agg #[.int .i64 c2, .int .i64 r2, v2, .int .u64 ts2]] w fun e w' => e = .returned (.bool true) ∧ Below w.heap.size w w' := by
  obtain ⟨rfl, rfl, rfl, rfl⟩ := heq
  exact sameEntM c r v l ts v2 w hs hs2
/-- Two lists of entries that read alike. -/
def EqEn (l l2 : List EntT) : Prop := l.length = l2.length ∧ ∀ (i : Nat) (y z : EntT), l[i]? = some y → l2[i]? = some z → y.client = z.client ∧ y.req = z.req ∧ y.opl = z.opl ∧ y.ts = z.ts
theorem EqEn.nil : EqEn [] [] := ⟨rfl, fun i y z h => by simp at h⟩
theorem eq_prE (a b d e : ByteArray) (w : World) : (binOp .eql 164 (.agg #[.string a, .string b]) (.agg #[.string d, .string e])).run Try.prog w = .ok (.bool (a.toList == d.toList && b.toList == e.toList)) w := by
  have u := Try.underlying9
  have hS : Try.prog.underlying 164 = some (.struct (Try.prog.fieldsOf 164)) := by kernel_rfl
  have hp : Try.prog.stoodInHeld 164 = false := by kernel_rfl
  rw [run_eql_struct, show (10000 : Nat) = 9999 + 1 from rfl, run_equalIn_agg w 9999 164 _ _ hS hp]
  simp only [Program.fieldsOf, Try.underlying164]
  go_simp
  by_cases h1 : a.toList = d.toList <;> by_cases h2 : b.toList = e.toList <;> simp [h1, h2]

set_option maxRecDepth 100000 in
theorem sameAllM (v : Value) (l : List EntT) (v2 : Value) (l2 : List EntT) (w : World) (hs : SliceOf entE 4 w v l) (hok : ∀ z ∈ l, EntOk w z) (hs2 : SliceOf entE 4 w v2 l2) (hok2 : ∀ z ∈ l2, EntOk w z) (heq : EqEn l l2) :
    Calls Try.prog 76 #[v, v2] w fun e w' => e = .returned (.bool true) ∧ Below w.heap.size w w' := by
 have hll := heq.1
 have hB0 := Below.refl w.heap.size w
 have hl_hs := sl_len hs
 have hl_hs2 := sl_len hs2
 refine co_enter (n := 33) Try.func76 rfl rfl rfl [(0, v), (1, v2)] rfl (fun a h0 => ?_)
 refine co_seq ?_
 refine co_reg ?_
 refine pk0 (v := .bool false) h0 rfl fun a1 h1 => ?_; clear h0
 refine pl_nil ?_
 refine co_then ?_
 refine co_seq ?_
 refine co_seq ?_
 refine co_reg ?_
 refine pk0 (v := v) h1 rfl fun a2 h2 => ?_; clear h1
 refine pk (v := .int .i64 ((l.length : Nat) : Int)) h2 rfl (rn_len rfl rfl Try.underlying69 hs) fun a3 h3 => ?_; clear h2
 refine pk0 (v := v2) h3 rfl fun a4 h4 => ?_; clear h3
 refine pk (v := .int .i64 ((l2.length : Nat) : Int)) h4 rfl (rn_len rfl rfl Try.underlying69 hs2) fun a5 h5 => ?_; clear h4
 refine pk0 (v := .bool (((l.length : Nat) : Int) != ((l2.length : Nat) : Int))) h5 rfl fun a6 h6 => ?_; clear h5
 refine pl_nil ?_
 refine co_then ?_
 have hc7 : (((l.length : Nat) : Int) != ((l2.length : Nat) : Int)) = false := by first | (simp; done) | (simp; omega) | exact beq_false_of_ne (by omega) | exact beq_iff_eq.2 (by omega)
 rw [hc7] at h6; clear hc7
 refine co_false h6 rfl ?_
 refine wp_skip ?_
 refine co_then ?_
 refine co_seq ?_
 refine co_seq ?_
 refine co_reg ?_
 refine pk0 (v := .int .i64 0) h6 rfl fun a8 h8 => ?_; clear h6
 refine pl_nil ?_
 refine co_then ?_
 refine wp_block ?_
 have h9 : Slots 33 [(0, v), (1, v2), (5, .int .i64 0)] _ := h8.sub ⟨rfl, rfl, rfl, trivial⟩; clear h8
 refine co_loop (fun mm a x => ∃ (i : Nat), Slots 33 [(0, v), (1, v2), (5, .int .i64 ((i : Nat) : Int))] a ∧ mm = l.length - i ∧ (i ≤ l.length) ∧ Below w.heap.size w x) (l.length - 0) ?_ ?_
 · exact ⟨0, h9.sub ⟨rfl, rfl, (slot_eq rfl (congrArg (Value.int .i64) (by first | rfl | omega))), trivial⟩, rfl, by omega, hB0⟩
 · rintro k10 a11 w12 ⟨i, h11, rfl, hi13, hB14⟩
   have hz15 := hB14.size
   refine co_seq ?_
   refine co_seq ?_
   refine co_reg ?_
   refine pk0 (v := .int .i64 ((i : Nat) : Int)) h11 rfl fun a16 h16 => ?_; clear h11
   refine pk0 (v := v) h16 rfl fun a17 h17 => ?_; clear h16
   refine pk (v := .int .i64 ((l.length : Nat) : Int)) h17 rfl (rn_len rfl rfl Try.underlying69 (hs.below hB14)) fun a18 h18 => ?_; clear h17
   refine pk0 (v := .bool (decide (((i : Nat) : Int) < ((l.length : Nat) : Int)))) h18 rfl fun a19 h19 => ?_; clear h18
   refine pk0 (v := .bool (decide (((i : Nat) : Int) < ((l.length : Nat) : Int)))) h19 rfl fun a20 h20 => ?_; clear h19
   cases hc21 : (decide (((i : Nat) : Int) < ((l.length : Nat) : Int)))
   ·
    rw [hc21] at h20
    have hp22 : ¬ (((i : Nat) : Int) < ((l.length : Nat) : Int)) := of_decide_eq_false hc21
    clear hc21
    refine psk h20 rfl fun a23 h23 => ?_; clear h20
    refine psk h23 rfl fun a24 h24 => ?_; clear h23
    refine psk h24 rfl fun a25 h25 => ?_; clear h24
    refine psk h25 rfl fun a26 h26 => ?_; clear h25
    refine pk0 (v := .bool false) h26 rfl fun a27 h27 => ?_; clear h26
    refine pl_nil ?_
    refine co_then ?_
    refine co_false h27 rfl ?_
    refine wp_exit ?_
    refine co_thenX ?_
    refine co_thenX ?_
    refine co_blockX ?_
    refine co_then ?_
    refine co_seq ?_
    refine co_reg ?_
    refine pk0 (v := .bool true) h27 rfl fun a28 h28 => ?_; clear h27
    refine pl_nil ?_
    refine co_then ?_
    refine wp_ret ?_
    refine co_ret1 h28 rfl rfl ?_
    exact ⟨rfl, hB14⟩
   ·
    rw [hc21] at h20
    have hp29 : ((i : Nat) : Int) < ((l.length : Nat) : Int) := of_decide_eq_true hc21
    clear hc21
    refine pk0 (v := .int .i64 ((i : Nat) : Int)) h20 rfl fun a30 h30 => ?_; clear h20
    refine pk0 (v := v2) h30 rfl fun a31 h31 => ?_; clear h30
    refine pk (v := .int .i64 ((l2.length : Nat) : Int)) h31 rfl (rn_len rfl rfl Try.underlying69 (hs2.below hB14)) fun a32 h32 => ?_; clear h31
    refine pk0 (v := .bool (decide (((i : Nat) : Int) < ((l2.length : Nat) : Int)))) h32 rfl fun a33 h33 => ?_; clear h32
    refine pk0 (v := .bool (decide (((i : Nat) : Int) < ((l2.length : Nat) : Int)))) h33 rfl fun a34 h34 => ?_; clear h33
    refine pl_nil ?_
    refine co_then ?_
    have hc35 : (decide (((i : Nat) : Int) < ((l2.length : Nat) : Int))) = true := decide_eq_true (by omega)
    rw [hc35] at h34; clear hc35
    refine co_true h34 rfl ?_
    refine wp_skip ?_
    refine co_then ?_
    refine co_seq ?_
    refine wp_block ?_
    refine co_seq ?_
    refine dr_gen (fun x => Below w.heap.size w x) (by kernel_rfl) (fun w36 hg37 => ?_) (fun w36 hg37 => ?_)
    ·
     have hz38 := hg37.size
     have hB39 := hb_new hB14 hg37
     exact hB39
    have hz40 := hg37.size
    have hB41 := hb_new hB14 hg37
    refine dk0 0 (v := v) h34 rfl rfl hB41 fun a42 h42 => ?_; clear h34
    refine dk0 1 (v := .int .i64 ((i : Nat) : Int)) h42 rfl rfl hB41 fun a43 h43 => ?_; clear h42
    obtain ⟨y44, hy44⟩ : ∃ z, l[i]? = some z := ⟨_, List.getElem?_eq_getElem (by first | omega | (simp; done) | (simp; omega))⟩
    have oky44 := hok _ (List.mem_of_getElem? hy44)
    have k45 : 0 ≤ y44.ts := oky44.ts0
    have k46 : y44.ts < 18446744073709551616 := oky44.ts1
    refine dk 2 (v := pt (blkOf v) (offOf v + i * 4)) h43 rfl rfl hB41 (fun x hx => (rn_index rfl rfl rfl Try.underlying69 Try.sizeOf38 (hs.below hx) (by omega) (by first | omega | (simp; done) | (simp; omega)))) fun a47 h47 => ?_; clear h43
    refine dk 3 (v := .agg #[.int .i64 y44.client, .int .i64 y44.req, y44.ops, .int .u64 y44.ts]) h47 rfl rfl hB41 (fun x hx => (rn_loadN rfl rfl Try.underlying38 rfl (by kernel_rfl) (sl_at (hs.below hx) hy44))) fun a48 h48 => ?_; clear h47
    refine dk0 4 (v := v2) h48 rfl rfl hB41 fun a49 h49 => ?_; clear h48
    refine dk0 5 (v := .int .i64 ((i : Nat) : Int)) h49 rfl rfl hB41 fun a50 h50 => ?_; clear h49
    obtain ⟨y51, hy51⟩ : ∃ z, l2[i]? = some z := ⟨_, List.getElem?_eq_getElem (by first | omega | (simp; done) | (simp; omega))⟩
    have oky51 := hok2 _ (List.mem_of_getElem? hy51)
    have k52 : 0 ≤ y51.ts := oky51.ts0
    have k53 : y51.ts < 18446744073709551616 := oky51.ts1
    refine dk 6 (v := pt (blkOf v2) (offOf v2 + i * 4)) h50 rfl rfl hB41 (fun x hx => (rn_index rfl rfl rfl Try.underlying69 Try.sizeOf38 (hs2.below hx) (by omega) (by first | omega | (simp; done) | (simp; omega)))) fun a54 h54 => ?_; clear h50
    refine dk 7 (v := .agg #[.int .i64 y51.client, .int .i64 y51.req, y51.ops, .int .u64 y51.ts]) h54 rfl rfl hB41 (fun x hx => (rn_loadN rfl rfl Try.underlying38 rfl (by kernel_rfl) (sl_at (hs2.below hx) hy51))) fun a55 h55 => ?_; clear h54
    refine d1 8 h55 rfl rfl (op_call (args := #[.agg #[.int .i64 y44.client, .int .i64 y44.req, y44.ops, .int .u64 y44.ts], .agg #[.int .i64 y51.client, .int .i64 y51.req, y51.ops, .int .u64 y51.ts]]) (R := fun res xw => res = .bool true ∧ Below w36.heap.size w36 xw) rfl rfl rfl (by kernel_rfl) (by kernel_rfl) (Try.call124 _ _) (sameEntX y44.client y44.req y44.ops y44.opl y44.ts y51.client y51.req y51.ops y51.opl y51.ts w36 (oky44.ops.below hB41) (oky51.ops.below hB41) (heq.2 i _ _ hy44 hy51)) (by rintro e x ⟨rfl, hb58⟩; exact ⟨_, rfl, ⟨rfl, hb58⟩⟩)) ?_ ?_; clear h55
    ·
     rintro _ w57 ⟨rfl, hb58⟩
     have hz59 := hb58.size
     have hB60 := hb_call hB41 hb58
     exact hB60
    rintro _ w57 a56 ⟨rfl, hb58⟩ h56
    have hz59 := hb58.size
    have hB60 := hb_call hB41 hb58
    refine dk0 9 (v := .bool false) h56 rfl rfl hB60 fun a61 h61 => ?_; clear h56
    refine dr_done (by kernel_rfl) ?_
    refine co_then ?_
    refine co_false h61 rfl ?_
    refine wp_skip ?_
    refine co_blockN ?_
    refine co_then ?_
    refine co_reg ?_
    refine pk0 (v := .int .i64 ((i : Nat) : Int)) h61 rfl fun a62 h62 => ?_; clear h61
    refine pk (v := .int .i64 ((i + 1 : Nat) : Int)) h62 rfl (rn_arith' rfl rfl rfl rfl rfl rfl (IntWalk.i64_in _ (by omega)) (by omega)) fun a63 h63 => ?_; clear h62
    refine pk0 (v := .int .i64 ((i + 1 : Nat) : Int)) h63 rfl fun a64 h64 => ?_; clear h63
    refine pl_nil ?_
    refine co_then ?_
    refine ⟨(l.length - (i + 1)), by omega, ?_⟩
    exact ⟨i + 1, h64.sub ⟨rfl, rfl, rfl, trivial⟩, rfl, by omega, hB60⟩
set_option maxRecDepth 100000 in
theorem sameStM (v : Value) (l : List Int) (v2 : Value) (w : World) (hs : SliceOf (intE .u64) 1 w v l) (hs2 : SliceOf (intE .u64) 1 w v2 l) :
    Calls Try.prog 77 #[v, v2] w fun e w' => e = .returned (.bool true) ∧ Below w.heap.size w w' := by
 have hB0 := Below.refl w.heap.size w
 have hl_hs := sl_len hs
 have hl_hs2 := sl_len hs2
 refine co_enter (n := 32) Try.func77 rfl rfl rfl [(0, v), (1, v2)] rfl (fun a h0 => ?_)
 refine co_seq ?_
 refine co_reg ?_
 refine pk0 (v := .bool false) h0 rfl fun a1 h1 => ?_; clear h0
 refine pl_nil ?_
 refine co_then ?_
 refine co_seq ?_
 refine co_seq ?_
 refine co_reg ?_
 refine pk0 (v := v) h1 rfl fun a2 h2 => ?_; clear h1
 refine pk (v := .int .i64 ((l.length : Nat) : Int)) h2 rfl (rn_len rfl rfl Try.underlying71 hs) fun a3 h3 => ?_; clear h2
 refine pk0 (v := v2) h3 rfl fun a4 h4 => ?_; clear h3
 refine pk (v := .int .i64 ((l.length : Nat) : Int)) h4 rfl (rn_len rfl rfl Try.underlying71 hs2) fun a5 h5 => ?_; clear h4
 refine pk0 (v := .bool (((l.length : Nat) : Int) != ((l.length : Nat) : Int))) h5 rfl fun a6 h6 => ?_; clear h5
 refine pl_nil ?_
 refine co_then ?_
 have hc7 : (((l.length : Nat) : Int) != ((l.length : Nat) : Int)) = false := by simp
 rw [hc7] at h6; clear hc7
 refine co_false h6 rfl ?_
 refine wp_skip ?_
 refine co_then ?_
 refine co_seq ?_
 refine co_seq ?_
 refine co_reg ?_
 refine pk0 (v := .int .i64 0) h6 rfl fun a8 h8 => ?_; clear h6
 refine pl_nil ?_
 refine co_then ?_
 refine wp_block ?_
 have h9 : Slots 32 [(0, v), (1, v2), (5, .int .i64 0)] _ := h8.sub ⟨rfl, rfl, rfl, trivial⟩; clear h8
 refine co_loop (fun mm a x => ∃ (i : Nat), Slots 32 [(0, v), (1, v2), (5, .int .i64 ((i : Nat) : Int))] a ∧ mm = l.length - i ∧ (i ≤ l.length) ∧ Below w.heap.size w x) (l.length - 0) ?_ ?_
 · exact ⟨0, h9.sub ⟨rfl, rfl, (slot_eq rfl (congrArg (Value.int .i64) (by first | rfl | omega))), trivial⟩, rfl, by omega, hB0⟩
 · rintro k10 a11 w12 ⟨i, h11, rfl, hi13, hB14⟩
   have hz15 := hB14.size
   refine co_seq ?_
   refine co_seq ?_
   refine co_reg ?_
   refine pk0 (v := .int .i64 ((i : Nat) : Int)) h11 rfl fun a16 h16 => ?_; clear h11
   refine pk0 (v := v) h16 rfl fun a17 h17 => ?_; clear h16
   refine pk (v := .int .i64 ((l.length : Nat) : Int)) h17 rfl (rn_len rfl rfl Try.underlying71 (hs.below hB14)) fun a18 h18 => ?_; clear h17
   refine pk0 (v := .bool (decide (((i : Nat) : Int) < ((l.length : Nat) : Int)))) h18 rfl fun a19 h19 => ?_; clear h18
   refine pk0 (v := .bool (decide (((i : Nat) : Int) < ((l.length : Nat) : Int)))) h19 rfl fun a20 h20 => ?_; clear h19
   cases hc21 : (decide (((i : Nat) : Int) < ((l.length : Nat) : Int)))
   ·
    rw [hc21] at h20
    have hp22 : ¬ (((i : Nat) : Int) < ((l.length : Nat) : Int)) := of_decide_eq_false hc21
    clear hc21
    refine psk h20 rfl fun a23 h23 => ?_; clear h20
    refine psk h23 rfl fun a24 h24 => ?_; clear h23
    refine psk h24 rfl fun a25 h25 => ?_; clear h24
    refine psk h25 rfl fun a26 h26 => ?_; clear h25
    refine pk0 (v := .bool false) h26 rfl fun a27 h27 => ?_; clear h26
    refine pl_nil ?_
    refine co_then ?_
    refine co_false h27 rfl ?_
    refine wp_exit ?_
    refine co_thenX ?_
    refine co_thenX ?_
    refine co_blockX ?_
    refine co_then ?_
    refine co_seq ?_
    refine co_reg ?_
    refine pk0 (v := .bool true) h27 rfl fun a28 h28 => ?_; clear h27
    refine pl_nil ?_
    refine co_then ?_
    refine wp_ret ?_
    refine co_ret1 h28 rfl rfl ?_
    exact ⟨rfl, hB14⟩
   ·
    rw [hc21] at h20
    have hp29 : ((i : Nat) : Int) < ((l.length : Nat) : Int) := of_decide_eq_true hc21
    clear hc21
    refine pk0 (v := .int .i64 ((i : Nat) : Int)) h20 rfl fun a30 h30 => ?_; clear h20
    refine pk0 (v := v2) h30 rfl fun a31 h31 => ?_; clear h30
    refine pk (v := .int .i64 ((l.length : Nat) : Int)) h31 rfl (rn_len rfl rfl Try.underlying71 (hs2.below hB14)) fun a32 h32 => ?_; clear h31
    refine pk0 (v := .bool (decide (((i : Nat) : Int) < ((l.length : Nat) : Int)))) h32 rfl fun a33 h33 => ?_; clear h32
    refine pk0 (v := .bool (decide (((i : Nat) : Int) < ((l.length : Nat) : Int)))) h33 rfl fun a34 h34 => ?_; clear h33
    refine pl_nil ?_
    refine co_then ?_
    have hc35 : (decide (((i : Nat) : Int) < ((l.length : Nat) : Int))) = true := decide_eq_true (by omega)
    rw [hc35] at h34; clear hc35
    refine co_true h34 rfl ?_
    refine wp_skip ?_
    refine co_then ?_
    refine co_seq ?_
    refine wp_block ?_
    refine co_seq ?_
    refine dr_eq (by kernel_rfl) (fun w36 hg37 => ?_)
    have hz38 := hg37.size
    refine dk0 0 (v := v) h34 rfl rfl rfl fun a39 h39 => ?_; clear h34
    refine dk0 1 (v := .int .i64 ((i : Nat) : Int)) h39 rfl rfl rfl fun a40 h40 => ?_; clear h39
    have hB42 := hb_new hB14 hg37
    obtain ⟨y41, hy41⟩ : ∃ z, l[i]? = some z := ⟨_, List.getElem?_eq_getElem (by first | omega | (simp; done) | (simp; omega))⟩
    refine dk 2 (v := pt (blkOf v) (offOf v + i * 1)) h40 rfl rfl rfl (fun x hx => by subst hx; exact (rn_index rfl rfl rfl Try.underlying71 Try.sizeOf29 (hs.below hB42) (by omega) (by first | omega | (simp; done) | (simp; omega)))) fun a43 h43 => ?_; clear h40
    refine dk 3 (v := .int .u64 y41) h43 rfl rfl rfl (fun x hx => by subst hx; exact (rn_load1 rfl rfl Try.isAgg29 ((sl_at (hs.below hB42) hy41) 0 _ rfl))) fun a44 h44 => ?_; clear h43
    refine dk0 4 (v := v2) h44 rfl rfl rfl fun a45 h45 => ?_; clear h44
    refine dk0 5 (v := .int .i64 ((i : Nat) : Int)) h45 rfl rfl rfl fun a46 h46 => ?_; clear h45
    refine dk 6 (v := pt (blkOf v2) (offOf v2 + i * 1)) h46 rfl rfl rfl (fun x hx => by subst hx; exact (rn_index rfl rfl rfl Try.underlying71 Try.sizeOf29 (hs2.below hB42) (by omega) (by first | omega | (simp; done) | (simp; omega)))) fun a47 h47 => ?_; clear h46
    refine dk 7 (v := .int .u64 y41) h47 rfl rfl rfl (fun x hx => by subst hx; exact (rn_load1 rfl rfl Try.isAgg29 ((sl_at (hs2.below hB42) hy41) 0 _ rfl))) fun a48 h48 => ?_; clear h47
    refine dk0 8 (v := .bool (y41 != y41)) h48 rfl rfl rfl fun a49 h49 => ?_; clear h48
    refine dr_done (by kernel_rfl) ?_
    refine co_then ?_
    have hc50 : (y41 != y41) = false := by simp
    rw [hc50] at h49; clear hc50
    refine co_false h49 rfl ?_
    refine wp_skip ?_
    refine co_blockN ?_
    refine co_then ?_
    refine co_reg ?_
    refine pk0 (v := .int .i64 ((i : Nat) : Int)) h49 rfl fun a51 h51 => ?_; clear h49
    refine pk (v := .int .i64 ((i + 1 : Nat) : Int)) h51 rfl (rn_arith' rfl rfl rfl rfl rfl rfl (IntWalk.i64_in _ (by omega)) (by omega)) fun a52 h52 => ?_; clear h51
    refine pk0 (v := .int .i64 ((i + 1 : Nat) : Int)) h52 rfl fun a53 h53 => ?_; clear h52
    refine pl_nil ?_
    refine co_then ?_
    refine ⟨(l.length - (i + 1)), by omega, ?_⟩
    exact ⟨i + 1, h53.sub ⟨rfl, rfl, rfl, trivial⟩, rfl, by omega, hB42⟩
set_option maxRecDepth 100000 in
theorem samePrM (v : Value) (l : List PrT) (v2 : Value) (w : World) (hs : SliceOf prE 2 w v l) (hs2 : SliceOf prE 2 w v2 l) :
    Calls Try.prog 78 #[v, v2] w fun e w' => e = .returned (.bool true) ∧ Below w.heap.size w w' := by
 have hB0 := Below.refl w.heap.size w
 have hl_hs := sl_len hs
 have hl_hs2 := sl_len hs2
 refine co_enter (n := 32) Try.func78 rfl rfl rfl [(0, v), (1, v2)] rfl (fun a h0 => ?_)
 refine co_seq ?_
 refine co_reg ?_
 refine pk0 (v := .bool false) h0 rfl fun a1 h1 => ?_; clear h0
 refine pl_nil ?_
 refine co_then ?_
 refine co_seq ?_
 refine co_seq ?_
 refine co_reg ?_
 refine pk0 (v := v) h1 rfl fun a2 h2 => ?_; clear h1
 refine pk (v := .int .i64 ((l.length : Nat) : Int)) h2 rfl (rn_len rfl rfl Try.underlying72 hs) fun a3 h3 => ?_; clear h2
 refine pk0 (v := v2) h3 rfl fun a4 h4 => ?_; clear h3
 refine pk (v := .int .i64 ((l.length : Nat) : Int)) h4 rfl (rn_len rfl rfl Try.underlying72 hs2) fun a5 h5 => ?_; clear h4
 refine pk0 (v := .bool (((l.length : Nat) : Int) != ((l.length : Nat) : Int))) h5 rfl fun a6 h6 => ?_; clear h5
 refine pl_nil ?_
 refine co_then ?_
 have hc7 : (((l.length : Nat) : Int) != ((l.length : Nat) : Int)) = false := by simp
 rw [hc7] at h6; clear hc7
 refine co_false h6 rfl ?_
 refine wp_skip ?_
 refine co_then ?_
 refine co_seq ?_
 refine co_seq ?_
 refine co_reg ?_
 refine pk0 (v := .int .i64 0) h6 rfl fun a8 h8 => ?_; clear h6
 refine pl_nil ?_
 refine co_then ?_
 refine wp_block ?_
 have h9 : Slots 32 [(0, v), (1, v2), (5, .int .i64 0)] _ := h8.sub ⟨rfl, rfl, rfl, trivial⟩; clear h8
 refine co_loop (fun mm a x => ∃ (i : Nat), Slots 32 [(0, v), (1, v2), (5, .int .i64 ((i : Nat) : Int))] a ∧ mm = l.length - i ∧ (i ≤ l.length) ∧ Below w.heap.size w x) (l.length - 0) ?_ ?_
 · exact ⟨0, h9.sub ⟨rfl, rfl, (slot_eq rfl (congrArg (Value.int .i64) (by first | rfl | omega))), trivial⟩, rfl, by omega, hB0⟩
 · rintro k10 a11 w12 ⟨i, h11, rfl, hi13, hB14⟩
   have hz15 := hB14.size
   refine co_seq ?_
   refine co_seq ?_
   refine co_reg ?_
   refine pk0 (v := .int .i64 ((i : Nat) : Int)) h11 rfl fun a16 h16 => ?_; clear h11
   refine pk0 (v := v) h16 rfl fun a17 h17 => ?_; clear h16
   refine pk (v := .int .i64 ((l.length : Nat) : Int)) h17 rfl (rn_len rfl rfl Try.underlying72 (hs.below hB14)) fun a18 h18 => ?_; clear h17
   refine pk0 (v := .bool (decide (((i : Nat) : Int) < ((l.length : Nat) : Int)))) h18 rfl fun a19 h19 => ?_; clear h18
   refine pk0 (v := .bool (decide (((i : Nat) : Int) < ((l.length : Nat) : Int)))) h19 rfl fun a20 h20 => ?_; clear h19
   cases hc21 : (decide (((i : Nat) : Int) < ((l.length : Nat) : Int)))
   ·
    rw [hc21] at h20
    have hp22 : ¬ (((i : Nat) : Int) < ((l.length : Nat) : Int)) := of_decide_eq_false hc21
    clear hc21
    refine psk h20 rfl fun a23 h23 => ?_; clear h20
    refine psk h23 rfl fun a24 h24 => ?_; clear h23
    refine psk h24 rfl fun a25 h25 => ?_; clear h24
    refine psk h25 rfl fun a26 h26 => ?_; clear h25
    refine pk0 (v := .bool false) h26 rfl fun a27 h27 => ?_; clear h26
    refine pl_nil ?_
    refine co_then ?_
    refine co_false h27 rfl ?_
    refine wp_exit ?_
    refine co_thenX ?_
    refine co_thenX ?_
    refine co_blockX ?_
    refine co_then ?_
    refine co_seq ?_
    refine co_reg ?_
    refine pk0 (v := .bool true) h27 rfl fun a28 h28 => ?_; clear h27
    refine pl_nil ?_
    refine co_then ?_
    refine wp_ret ?_
    refine co_ret1 h28 rfl rfl ?_
    exact ⟨rfl, hB14⟩
   ·
    rw [hc21] at h20
    have hp29 : ((i : Nat) : Int) < ((l.length : Nat) : Int) := of_decide_eq_true hc21
    clear hc21
    refine pk0 (v := .int .i64 ((i : Nat) : Int)) h20 rfl fun a30 h30 => ?_; clear h20
    refine pk0 (v := v2) h30 rfl fun a31 h31 => ?_; clear h30
    refine pk (v := .int .i64 ((l.length : Nat) : Int)) h31 rfl (rn_len rfl rfl Try.underlying72 (hs2.below hB14)) fun a32 h32 => ?_; clear h31
    refine pk0 (v := .bool (decide (((i : Nat) : Int) < ((l.length : Nat) : Int)))) h32 rfl fun a33 h33 => ?_; clear h32
    refine pk0 (v := .bool (decide (((i : Nat) : Int) < ((l.length : Nat) : Int)))) h33 rfl fun a34 h34 => ?_; clear h33
    refine pl_nil ?_
    refine co_then ?_
    have hc35 : (decide (((i : Nat) : Int) < ((l.length : Nat) : Int))) = true := decide_eq_true (by omega)
    rw [hc35] at h34; clear hc35
    refine co_true h34 rfl ?_
    refine wp_skip ?_
    refine co_then ?_
    refine co_seq ?_
    refine wp_block ?_
    refine co_seq ?_
    refine dr_eq (by kernel_rfl) (fun w36 hg37 => ?_)
    have hz38 := hg37.size
    refine dk0 0 (v := v) h34 rfl rfl rfl fun a39 h39 => ?_; clear h34
    refine dk0 1 (v := .int .i64 ((i : Nat) : Int)) h39 rfl rfl rfl fun a40 h40 => ?_; clear h39
    have hB42 := hb_new hB14 hg37
    obtain ⟨y41, hy41⟩ : ∃ z, l[i]? = some z := ⟨_, List.getElem?_eq_getElem (by first | omega | (simp; done) | (simp; omega))⟩
    refine dk 2 (v := pt (blkOf v) (offOf v + i * 2)) h40 rfl rfl rfl (fun x hx => by subst hx; exact (rn_index rfl rfl rfl Try.underlying72 Try.sizeOf164 (hs.below hB42) (by omega) (by first | omega | (simp; done) | (simp; omega)))) fun a43 h43 => ?_; clear h40
    refine dk 3 (v := .agg #[.string y41.1, .string y41.2]) h43 rfl rfl rfl (fun x hx => by subst hx; exact (rn_loadN rfl rfl Try.underlying164 rfl (by kernel_rfl) (sl_at (hs.below hB42) hy41))) fun a44 h44 => ?_; clear h43
    refine dk0 4 (v := v2) h44 rfl rfl rfl fun a45 h45 => ?_; clear h44
    refine dk0 5 (v := .int .i64 ((i : Nat) : Int)) h45 rfl rfl rfl fun a46 h46 => ?_; clear h45
    refine dk 6 (v := pt (blkOf v2) (offOf v2 + i * 2)) h46 rfl rfl rfl (fun x hx => by subst hx; exact (rn_index rfl rfl rfl Try.underlying72 Try.sizeOf164 (hs2.below hB42) (by omega) (by first | omega | (simp; done) | (simp; omega)))) fun a47 h47 => ?_; clear h46
    refine dk 7 (v := .agg #[.string y41.1, .string y41.2]) h47 rfl rfl rfl (fun x hx => by subst hx; exact (rn_loadN rfl rfl Try.underlying164 rfl (by kernel_rfl) (sl_at (hs2.below hB42) hy41))) fun a48 h48 => ?_; clear h47
    refine dk 8 (v := .bool (!(y41.1.toList == y41.1.toList && y41.2.toList == y41.2.toList))) h48 rfl rfl rfl (fun x hx => by subst hx; exact (rn_neS rfl rfl rfl Try.eqGuardType164 (eq_prE _ _ _ _ _))) fun a49 h49 => ?_; clear h48
    refine dr_done (by kernel_rfl) ?_
    refine co_then ?_
    have hc50 : (!(y41.1.toList == y41.1.toList && y41.2.toList == y41.2.toList)) = false := by simp
    rw [hc50] at h49; clear hc50
    refine co_false h49 rfl ?_
    refine wp_skip ?_
    refine co_blockN ?_
    refine co_then ?_
    refine co_reg ?_
    refine pk0 (v := .int .i64 ((i : Nat) : Int)) h49 rfl fun a51 h51 => ?_; clear h49
    refine pk (v := .int .i64 ((i + 1 : Nat) : Int)) h51 rfl (rn_arith' rfl rfl rfl rfl rfl rfl (IntWalk.i64_in _ (by omega)) (by omega)) fun a52 h52 => ?_; clear h51
    refine pk0 (v := .int .i64 ((i + 1 : Nat) : Int)) h52 rfl fun a53 h53 => ?_; clear h52
    refine pl_nil ?_
    refine co_then ?_
    refine ⟨(l.length - (i + 1)), by omega, ?_⟩
    exact ⟨i + 1, h53.sub ⟨rfl, rfl, rfl, trivial⟩, rfl, by omega, hB42⟩
set_option maxRecDepth 100000 in
set_option maxHeartbeats 1600000 in
theorem sameMsgM (d : MsgD) (mv : Value) (bv : Value) (ev : Value) (sv : Value) (pv : Value) (mv2 : Value) (bv2 : Value) (ev2 : Value) (en2 : List EntT) (sv2 : Value) (pv2 : Value) (w : World) (hm : SliceOf memE 2 w mv d.cms) (hb : SliceOf opE 3 w bv d.bl) (he : SliceOf entE 4 w ev d.en) (ht : SliceOf (intE .u64) 1 w sv d.st) (hp : SliceOf prE 2 w pv d.pr) (hok : ∀ z ∈ d.en, EntOk w z) (hR : MsgR d) (hm2 : SliceOf memE 2 w mv2 d.cms) (hb2 : SliceOf opE 3 w bv2 d.bl) (he2 : SliceOf entE 4 w ev2 en2) (ht2 : SliceOf (intE .u64) 1 w sv2 d.st) (hp2 : SliceOf prE 2 w pv2 d.pr) (hok2 : ∀ z ∈ en2, EntOk w z) (heq : EqEn d.en en2) :
    Calls Try.prog 30 #[.agg #[.int .i64 d.k, .int .i64 d.ep, .int .i64 d.rq, .int .i64 d.sr, .bool d.fg, .int .u64 d.at_, .int .u64 d.la, .int .i64 d.n, .int .i64 d.m, .int .i64 d.p, .int .i64 d.e, .string d.key, .string d.to_, .int .i64 d.cep, mv, .int .u64 d.cfl, .int .i64 d.bc, .int .i64 d.br, bv, ev, sv, pv], .agg #[.int .i64 d.k, .int .i64 d.ep, .int .i64 d.rq, .int .i64 d.sr, .bool d.fg, .int .u64 d.at_, .int .u64 d.la, .int .i64 d.n, .int .i64 d.m, .int .i64 d.p, .int .i64 d.e, .string d.key, .string d.to_, .int .i64 d.cep, mv2, .int .u64 d.cfl, .int .i64 d.bc, .int .i64 d.br, bv2, ev2, sv2, pv2]] w fun e w' => e = .returned (.bool true) ∧ Below w.heap.size w w' := by
 have hrng := hR.rng
 have hB0 := Below.refl w.heap.size w
 have hl_hm := sl_len hm
 have hl_hb := sl_len hb
 have hl_he := sl_len he
 have hl_ht := sl_len ht
 have hl_hp := sl_len hp
 have hl_hm2 := sl_len hm2
 have hl_hb2 := sl_len hb2
 have hl_he2 := sl_len he2
 have hl_ht2 := sl_len ht2
 have hl_hp2 := sl_len hp2
 refine co_enter (n := 129) Try.func30 rfl rfl rfl [(0, .agg #[.int .i64 d.k, .int .i64 d.ep, .int .i64 d.rq, .int .i64 d.sr, .bool d.fg, .int .u64 d.at_, .int .u64 d.la, .int .i64 d.n, .int .i64 d.m, .int .i64 d.p, .int .i64 d.e, .string d.key, .string d.to_, .int .i64 d.cep, mv, .int .u64 d.cfl, .int .i64 d.bc, .int .i64 d.br, bv, ev, sv, pv]), (1, .agg #[.int .i64 d.k, .int .i64 d.ep, .int .i64 d.rq, .int .i64 d.sr, .bool d.fg, .int .u64 d.at_, .int .u64 d.la, .int .i64 d.n, .int .i64 d.m, .int .i64 d.p, .int .i64 d.e, .string d.key, .string d.to_, .int .i64 d.cep, mv2, .int .u64 d.cfl, .int .i64 d.bc, .int .i64 d.br, bv2, ev2, sv2, pv2])] rfl (fun a h0 => ?_)
 refine co_seq ?_
 refine co_reg ?_
 refine pw h0 rfl (op_new (v := fun N => pt N 0) (T := 74) (cs := #[.int .i64 d.k, .int .i64 d.ep, .int .i64 d.rq, .int .i64 d.sr, .bool d.fg, .int .u64 d.at_, .int .u64 d.la, .int .i64 d.n, .int .i64 d.m, .int .i64 d.p, .int .i64 d.e, .string d.key, .string d.to_, .int .i64 d.cep, mv, .int .u64 d.cfl, .int .i64 d.bc, .int .i64 d.br, bv, ev, sv, pv]) (by kernel_rfl) (by kernel_rfl) (by kernel_rfl)) ?_; clear h0
 rintro _ w2 a1 ⟨N3, rfl, hN6, hz7, hk5, hg4⟩ h1
 have hz8 := hg4.size
 try dsimp only at h1
 refine pw h1 rfl (op_new (v := fun N => pt N 0) (T := 74) (cs := #[.int .i64 d.k, .int .i64 d.ep, .int .i64 d.rq, .int .i64 d.sr, .bool d.fg, .int .u64 d.at_, .int .u64 d.la, .int .i64 d.n, .int .i64 d.m, .int .i64 d.p, .int .i64 d.e, .string d.key, .string d.to_, .int .i64 d.cep, mv2, .int .u64 d.cfl, .int .i64 d.bc, .int .i64 d.br, bv2, ev2, sv2, pv2]) (by kernel_rfl) (by kernel_rfl) (by kernel_rfl)) ?_; clear h1
 rintro _ w10 a9 ⟨N11, rfl, hN14, hz15, hk13, hg12⟩ h9
 have hz16 := hg12.size
 try dsimp only at h9
 refine pk0 (v := .bool false) h9 rfl fun a17 h17 => ?_; clear h9
 refine pl_nil ?_
 refine co_then ?_
 refine co_seq ?_
 refine co_reg ?_
 simp only [List.append_eq, List.cons_append, List.nil_append]
 refine pk0 (v := pt N3 0) h17 rfl fun a18 h18 => ?_; clear h17
 have hk19 := hk5.kept hg12 (by simp)
 refine pk (v := .int .i64 d.k) h18 rfl (rn_load1 rfl rfl Try.isAgg3 (hk19.cell rfl)) fun a20 h20 => ?_; clear h18
 refine pk0 (v := pt N11 0) h20 rfl fun a21 h21 => ?_; clear h20
 refine pk (v := .int .i64 d.k) h21 rfl (rn_load1 rfl rfl Try.isAgg3 (hk13.cell rfl)) fun a22 h22 => ?_; clear h21
 refine pk0 (v := .bool (d.k == d.k)) h22 rfl fun a23 h23 => ?_; clear h22
 refine pk0 (v := .bool (d.k == d.k)) h23 rfl fun a24 h24 => ?_; clear h23
 have hc25 : (d.k == d.k) = true := by simp
 rw [hc25] at h24; clear hc25
 refine pk0 (v := pt N3 1) h24 rfl fun a26 h26 => ?_; clear h24
 refine pk (v := .int .i64 d.ep) h26 rfl (rn_load1 rfl rfl Try.isAgg3 (hk19.cell rfl)) fun a27 h27 => ?_; clear h26
 refine pk0 (v := pt N11 1) h27 rfl fun a28 h28 => ?_; clear h27
 refine pk (v := .int .i64 d.ep) h28 rfl (rn_load1 rfl rfl Try.isAgg3 (hk13.cell rfl)) fun a29 h29 => ?_; clear h28
 refine pk0 (v := .bool (d.ep == d.ep)) h29 rfl fun a30 h30 => ?_; clear h29
 refine pk0 (v := .bool (d.ep == d.ep)) h30 rfl fun a31 h31 => ?_; clear h30
 refine pk0 (v := .bool (d.ep == d.ep)) h31 rfl fun a32 h32 => ?_; clear h31
 have hc33 : (d.ep == d.ep) = true := by simp
 rw [hc33] at h32; clear hc33
 refine pk0 (v := pt N3 2) h32 rfl fun a34 h34 => ?_; clear h32
 refine pk (v := .int .i64 d.rq) h34 rfl (rn_load1 rfl rfl Try.isAgg3 (hk19.cell rfl)) fun a35 h35 => ?_; clear h34
 refine pk0 (v := pt N11 2) h35 rfl fun a36 h36 => ?_; clear h35
 refine pk (v := .int .i64 d.rq) h36 rfl (rn_load1 rfl rfl Try.isAgg3 (hk13.cell rfl)) fun a37 h37 => ?_; clear h36
 refine pk0 (v := .bool (d.rq == d.rq)) h37 rfl fun a38 h38 => ?_; clear h37
 refine pk0 (v := .bool (d.rq == d.rq)) h38 rfl fun a39 h39 => ?_; clear h38
 refine pk0 (v := .bool (d.rq == d.rq)) h39 rfl fun a40 h40 => ?_; clear h39
 have hc41 : (d.rq == d.rq) = true := by simp
 rw [hc41] at h40; clear hc41
 refine pk0 (v := pt N3 3) h40 rfl fun a42 h42 => ?_; clear h40
 refine pk (v := .int .i64 d.sr) h42 rfl (rn_load1 rfl rfl Try.isAgg3 (hk19.cell rfl)) fun a43 h43 => ?_; clear h42
 refine pk0 (v := pt N11 3) h43 rfl fun a44 h44 => ?_; clear h43
 refine pk (v := .int .i64 d.sr) h44 rfl (rn_load1 rfl rfl Try.isAgg3 (hk13.cell rfl)) fun a45 h45 => ?_; clear h44
 refine pk0 (v := .bool (d.sr == d.sr)) h45 rfl fun a46 h46 => ?_; clear h45
 refine pk0 (v := .bool (d.sr == d.sr)) h46 rfl fun a47 h47 => ?_; clear h46
 refine pk0 (v := .bool (d.sr == d.sr)) h47 rfl fun a48 h48 => ?_; clear h47
 have hc49 : (d.sr == d.sr) = true := by simp
 rw [hc49] at h48; clear hc49
 refine pk0 (v := pt N3 4) h48 rfl fun a50 h50 => ?_; clear h48
 refine pk (v := .bool d.fg) h50 rfl (rn_load1 rfl rfl Try.isAgg4 (hk19.cell rfl)) fun a51 h51 => ?_; clear h50
 refine pk0 (v := pt N11 4) h51 rfl fun a52 h52 => ?_; clear h51
 refine pk (v := .bool d.fg) h52 rfl (rn_load1 rfl rfl Try.isAgg4 (hk13.cell rfl)) fun a53 h53 => ?_; clear h52
 refine pk0 (v := .bool (d.fg == d.fg)) h53 rfl fun a54 h54 => ?_; clear h53
 refine pk0 (v := .bool (d.fg == d.fg)) h54 rfl fun a55 h55 => ?_; clear h54
 refine pk0 (v := .bool (d.fg == d.fg)) h55 rfl fun a56 h56 => ?_; clear h55
 have hc57 : (d.fg == d.fg) = true := by simp
 rw [hc57] at h56; clear hc57
 refine pk0 (v := pt N3 5) h56 rfl fun a58 h58 => ?_; clear h56
 refine pk (v := .int .u64 d.at_) h58 rfl (rn_load1 rfl rfl Try.isAgg29 (hk19.cell rfl)) fun a59 h59 => ?_; clear h58
 refine pk0 (v := pt N11 5) h59 rfl fun a60 h60 => ?_; clear h59
 refine pk (v := .int .u64 d.at_) h60 rfl (rn_load1 rfl rfl Try.isAgg29 (hk13.cell rfl)) fun a61 h61 => ?_; clear h60
 refine pk0 (v := .bool (d.at_ == d.at_)) h61 rfl fun a62 h62 => ?_; clear h61
 refine pk0 (v := .bool (d.at_ == d.at_)) h62 rfl fun a63 h63 => ?_; clear h62
 refine pk0 (v := .bool (d.at_ == d.at_)) h63 rfl fun a64 h64 => ?_; clear h63
 have hc65 : (d.at_ == d.at_) = true := by simp
 rw [hc65] at h64; clear hc65
 refine pk0 (v := pt N3 6) h64 rfl fun a66 h66 => ?_; clear h64
 refine pk (v := .int .u64 d.la) h66 rfl (rn_load1 rfl rfl Try.isAgg29 (hk19.cell rfl)) fun a67 h67 => ?_; clear h66
 refine pk0 (v := pt N11 6) h67 rfl fun a68 h68 => ?_; clear h67
 refine pk (v := .int .u64 d.la) h68 rfl (rn_load1 rfl rfl Try.isAgg29 (hk13.cell rfl)) fun a69 h69 => ?_; clear h68
 refine pk0 (v := .bool (d.la == d.la)) h69 rfl fun a70 h70 => ?_; clear h69
 refine pk0 (v := .bool (d.la == d.la)) h70 rfl fun a71 h71 => ?_; clear h70
 refine pk0 (v := .bool (d.la == d.la)) h71 rfl fun a72 h72 => ?_; clear h71
 have hc73 : (d.la == d.la) = true := by simp
 rw [hc73] at h72; clear hc73
 refine pk0 (v := pt N3 7) h72 rfl fun a74 h74 => ?_; clear h72
 refine pk (v := .int .i64 d.n) h74 rfl (rn_load1 rfl rfl Try.isAgg3 (hk19.cell rfl)) fun a75 h75 => ?_; clear h74
 refine pk0 (v := pt N11 7) h75 rfl fun a76 h76 => ?_; clear h75
 refine pk (v := .int .i64 d.n) h76 rfl (rn_load1 rfl rfl Try.isAgg3 (hk13.cell rfl)) fun a77 h77 => ?_; clear h76
 refine pk0 (v := .bool (d.n == d.n)) h77 rfl fun a78 h78 => ?_; clear h77
 refine pk0 (v := .bool (d.n == d.n)) h78 rfl fun a79 h79 => ?_; clear h78
 refine pk0 (v := .bool (d.n == d.n)) h79 rfl fun a80 h80 => ?_; clear h79
 have hc81 : (d.n == d.n) = true := by simp
 rw [hc81] at h80; clear hc81
 refine pk0 (v := pt N3 8) h80 rfl fun a82 h82 => ?_; clear h80
 refine pk (v := .int .i64 d.m) h82 rfl (rn_load1 rfl rfl Try.isAgg3 (hk19.cell rfl)) fun a83 h83 => ?_; clear h82
 refine pk0 (v := pt N11 8) h83 rfl fun a84 h84 => ?_; clear h83
 refine pk (v := .int .i64 d.m) h84 rfl (rn_load1 rfl rfl Try.isAgg3 (hk13.cell rfl)) fun a85 h85 => ?_; clear h84
 refine pk0 (v := .bool (d.m == d.m)) h85 rfl fun a86 h86 => ?_; clear h85
 refine pk0 (v := .bool (d.m == d.m)) h86 rfl fun a87 h87 => ?_; clear h86
 refine pk0 (v := .bool (d.m == d.m)) h87 rfl fun a88 h88 => ?_; clear h87
 have hc89 : (d.m == d.m) = true := by simp
 rw [hc89] at h88; clear hc89
 refine pk0 (v := pt N3 9) h88 rfl fun a90 h90 => ?_; clear h88
 refine pk (v := .int .i64 d.p) h90 rfl (rn_load1 rfl rfl Try.isAgg3 (hk19.cell rfl)) fun a91 h91 => ?_; clear h90
 refine pk0 (v := pt N11 9) h91 rfl fun a92 h92 => ?_; clear h91
 refine pk (v := .int .i64 d.p) h92 rfl (rn_load1 rfl rfl Try.isAgg3 (hk13.cell rfl)) fun a93 h93 => ?_; clear h92
 refine pk0 (v := .bool (d.p == d.p)) h93 rfl fun a94 h94 => ?_; clear h93
 refine pk0 (v := .bool (d.p == d.p)) h94 rfl fun a95 h95 => ?_; clear h94
 refine pk0 (v := .bool (d.p == d.p)) h95 rfl fun a96 h96 => ?_; clear h95
 have hc97 : (d.p == d.p) = true := by simp
 rw [hc97] at h96; clear hc97
 refine pk0 (v := pt N3 10) h96 rfl fun a98 h98 => ?_; clear h96
 refine pk (v := .int .i64 d.e) h98 rfl (rn_load1 rfl rfl Try.isAgg27 (hk19.cell rfl)) fun a99 h99 => ?_; clear h98
 refine pk0 (v := pt N11 10) h99 rfl fun a100 h100 => ?_; clear h99
 refine pk (v := .int .i64 d.e) h100 rfl (rn_load1 rfl rfl Try.isAgg27 (hk13.cell rfl)) fun a101 h101 => ?_; clear h100
 refine pk0 (v := .bool (d.e == d.e)) h101 rfl fun a102 h102 => ?_; clear h101
 refine pk0 (v := .bool (d.e == d.e)) h102 rfl fun a103 h103 => ?_; clear h102
 refine pk0 (v := .bool (d.e == d.e)) h103 rfl fun a104 h104 => ?_; clear h103
 have hc105 : (d.e == d.e) = true := by simp
 rw [hc105] at h104; clear hc105
 refine pk0 (v := pt N3 11) h104 rfl fun a106 h106 => ?_; clear h104
 refine pk (v := .string d.key) h106 rfl (rn_load1 rfl rfl Try.isAgg9 (hk19.cell rfl)) fun a107 h107 => ?_; clear h106
 refine pk0 (v := pt N11 11) h107 rfl fun a108 h108 => ?_; clear h107
 refine pk (v := .string d.key) h108 rfl (rn_load1 rfl rfl Try.isAgg9 (hk13.cell rfl)) fun a109 h109 => ?_; clear h108
 refine pk0 (v := .bool (d.key.toList == d.key.toList)) h109 rfl fun a110 h110 => ?_; clear h109
 refine pk0 (v := .bool (d.key.toList == d.key.toList)) h110 rfl fun a111 h111 => ?_; clear h110
 refine pk0 (v := .bool (d.key.toList == d.key.toList)) h111 rfl fun a112 h112 => ?_; clear h111
 have hc113 : (d.key.toList == d.key.toList) = true := by simp
 rw [hc113] at h112; clear hc113
 refine pk0 (v := pt N3 12) h112 rfl fun a114 h114 => ?_; clear h112
 refine pk (v := .string d.to_) h114 rfl (rn_load1 rfl rfl Try.isAgg9 (hk19.cell rfl)) fun a115 h115 => ?_; clear h114
 refine pk0 (v := pt N11 12) h115 rfl fun a116 h116 => ?_; clear h115
 refine pk (v := .string d.to_) h116 rfl (rn_load1 rfl rfl Try.isAgg9 (hk13.cell rfl)) fun a117 h117 => ?_; clear h116
 refine pk0 (v := .bool (d.to_.toList == d.to_.toList)) h117 rfl fun a118 h118 => ?_; clear h117
 refine pk0 (v := .bool (d.to_.toList == d.to_.toList)) h118 rfl fun a119 h119 => ?_; clear h118
 refine pk0 (v := .bool (d.to_.toList == d.to_.toList)) h119 rfl fun a120 h120 => ?_; clear h119
 have hc121 : (d.to_.toList == d.to_.toList) = true := by simp
 rw [hc121] at h120; clear hc121
 refine pk0 (v := pt N3 13) h120 rfl fun a122 h122 => ?_; clear h120
 refine pk (v := .agg #[.int .i64 d.cep, mv, .int .u64 d.cfl]) h122 rfl (rn_loadN rfl rfl Try.underlying32 rfl (by kernel_rfl) (blk_part hk19 13 (by rfl))) fun a123 h123 => ?_; clear h122
 refine pk0 (v := pt N11 13) h123 rfl fun a124 h124 => ?_; clear h123
 refine pk (v := .agg #[.int .i64 d.cep, mv2, .int .u64 d.cfl]) h124 rfl (rn_loadN rfl rfl Try.underlying32 rfl (by kernel_rfl) (blk_part hk13 13 (by rfl))) fun a125 h125 => ?_; clear h124
 have hB128 := hb_new hB0 hg4
 have hB129 := hb_new hB128 hg12
 refine pw h125 rfl (op_call (args := #[.agg #[.int .i64 d.cep, mv, .int .u64 d.cfl], .agg #[.int .i64 d.cep, mv2, .int .u64 d.cfl]]) (R := fun res xw => res = .bool (sameCf d.cep d.cms d.cfl d.cep d.cms d.cfl) ∧ Below w10.heap.size w10 xw) rfl rfl rfl (by kernel_rfl) (by kernel_rfl) (Try.call59 _ _) (wrsame_any d.cep mv d.cms d.cfl d.cep mv2 d.cms d.cfl w10 (hm.below hB129) hR.mem (by omega) (by omega) (hm2.below hB129) hR.mem (by omega) (by omega)) (by rintro e x ⟨rfl, hb130⟩; exact ⟨_, rfl, ⟨rfl, hb130⟩⟩)) ?_; clear h125
 rintro _ w127 a126 ⟨rfl, hb130⟩ h126
 have hz131 := hb130.size
 refine pk0 (v := .bool (sameCf d.cep d.cms d.cfl d.cep d.cms d.cfl)) h126 rfl fun a132 h132 => ?_; clear h126
 refine pk0 (v := .bool (sameCf d.cep d.cms d.cfl d.cep d.cms d.cfl)) h132 rfl fun a133 h133 => ?_; clear h132
 have hc134 : (sameCf d.cep d.cms d.cfl d.cep d.cms d.cfl) = true := by first | exact sameCf_refl _ _ _ | simp [sameCf_refl]
 rw [hc134] at h133; clear hc134
 refine pk0 (v := pt N3 16) h133 rfl fun a135 h135 => ?_; clear h133
 have hk136 := hk19.below hb130
 refine pk (v := .agg #[.int .i64 d.bc, .int .i64 d.br, bv]) h135 rfl (rn_loadN rfl rfl Try.underlying36 rfl (by kernel_rfl) (blk_part hk136 16 (by rfl))) fun a137 h137 => ?_; clear h135
 refine pk0 (v := pt N11 16) h137 rfl fun a138 h138 => ?_; clear h137
 have hk139 := hk13.below hb130
 refine pk (v := .agg #[.int .i64 d.bc, .int .i64 d.br, bv2]) h138 rfl (rn_loadN rfl rfl Try.underlying36 rfl (by kernel_rfl) (blk_part hk139 16 (by rfl))) fun a140 h140 => ?_; clear h138
 have hB143 := hb_call hB129 hb130
 refine pw h140 rfl (op_call (args := #[.agg #[.int .i64 d.bc, .int .i64 d.br, bv], .agg #[.int .i64 d.bc, .int .i64 d.br, bv2]]) (R := fun res xw => res = .bool true ∧ Below w127.heap.size w127 xw) rfl rfl rfl (by kernel_rfl) (by kernel_rfl) (Try.call75 _ _) (sameBatM d.bc d.br bv d.bl bv2 w127 (hb.below hB143) (hb2.below hB143)) (by rintro e x ⟨rfl, hb144⟩; exact ⟨_, rfl, ⟨rfl, hb144⟩⟩)) ?_; clear h140
 rintro _ w142 a141 ⟨rfl, hb144⟩ h141
 have hz145 := hb144.size
 refine pk0 (v := .bool true) h141 rfl fun a146 h146 => ?_; clear h141
 refine pk0 (v := .bool true) h146 rfl fun a147 h147 => ?_; clear h146
 refine pk0 (v := pt N3 19) h147 rfl fun a148 h148 => ?_; clear h147
 have hk149 := hk136.below hb144
 refine pk (v := ev) h148 rfl (rn_load1 rfl rfl Try.isAgg69 (hk149.cell rfl)) fun a150 h150 => ?_; clear h148
 refine pk0 (v := pt N11 19) h150 rfl fun a151 h151 => ?_; clear h150
 have hk152 := hk139.below hb144
 refine pk (v := ev2) h151 rfl (rn_load1 rfl rfl Try.isAgg69 (hk152.cell rfl)) fun a153 h153 => ?_; clear h151
 have hB156 := hb_call hB143 hb144
 refine pw h153 rfl (op_call (args := #[ev, ev2]) (R := fun res xw => res = .bool true ∧ Below w142.heap.size w142 xw) rfl rfl rfl (by kernel_rfl) (by kernel_rfl) (Try.call76 _ _) (sameAllM ev d.en ev2 en2 w142 (he.below hB156) (fun z hz => (hok z hz).below hB156) (he2.below hB156) (fun z hz => (hok2 z hz).below hB156) heq) (by rintro e x ⟨rfl, hb157⟩; exact ⟨_, rfl, ⟨rfl, hb157⟩⟩)) ?_; clear h153
 rintro _ w155 a154 ⟨rfl, hb157⟩ h154
 have hz158 := hb157.size
 refine pk0 (v := .bool true) h154 rfl fun a159 h159 => ?_; clear h154
 refine pk0 (v := .bool true) h159 rfl fun a160 h160 => ?_; clear h159
 refine pk0 (v := pt N3 20) h160 rfl fun a161 h161 => ?_; clear h160
 have hk162 := hk149.below hb157
 refine pk (v := sv) h161 rfl (rn_load1 rfl rfl Try.isAgg71 (hk162.cell rfl)) fun a163 h163 => ?_; clear h161
 refine pk0 (v := pt N11 20) h163 rfl fun a164 h164 => ?_; clear h163
 have hk165 := hk152.below hb157
 refine pk (v := sv2) h164 rfl (rn_load1 rfl rfl Try.isAgg71 (hk165.cell rfl)) fun a166 h166 => ?_; clear h164
 have hB169 := hb_call hB156 hb157
 refine pw h166 rfl (op_call (args := #[sv, sv2]) (R := fun res xw => res = .bool true ∧ Below w155.heap.size w155 xw) rfl rfl rfl (by kernel_rfl) (by kernel_rfl) (Try.call77 _ _) (sameStM sv d.st sv2 w155 (ht.below hB169) (ht2.below hB169)) (by rintro e x ⟨rfl, hb170⟩; exact ⟨_, rfl, ⟨rfl, hb170⟩⟩)) ?_; clear h166
 rintro _ w168 a167 ⟨rfl, hb170⟩ h167
 have hz171 := hb170.size
 refine pk0 (v := .bool true) h167 rfl fun a172 h172 => ?_; clear h167
 refine pk0 (v := .bool true) h172 rfl fun a173 h173 => ?_; clear h172
 refine pk0 (v := pt N3 21) h173 rfl fun a174 h174 => ?_; clear h173
 have hk175 := hk162.below hb170
 refine pk (v := pv) h174 rfl (rn_load1 rfl rfl Try.isAgg72 (hk175.cell rfl)) fun a176 h176 => ?_; clear h174
 refine pk0 (v := pt N11 21) h176 rfl fun a177 h177 => ?_; clear h176
 have hk178 := hk165.below hb170
 refine pk (v := pv2) h177 rfl (rn_load1 rfl rfl Try.isAgg72 (hk178.cell rfl)) fun a179 h179 => ?_; clear h177
 have hB182 := hb_call hB169 hb170
 refine pw h179 rfl (op_call (args := #[pv, pv2]) (R := fun res xw => res = .bool true ∧ Below w168.heap.size w168 xw) rfl rfl rfl (by kernel_rfl) (by kernel_rfl) (Try.call78 _ _) (samePrM pv d.pr pv2 w168 (hp.below hB182) (hp2.below hB182)) (by rintro e x ⟨rfl, hb183⟩; exact ⟨_, rfl, ⟨rfl, hb183⟩⟩)) ?_; clear h179
 rintro _ w181 a180 ⟨rfl, hb183⟩ h180
 have hz184 := hb183.size
 refine pk0 (v := .bool true) h180 rfl fun a185 h185 => ?_; clear h180
 refine pk0 (v := .bool true) h185 rfl fun a186 h186 => ?_; clear h185
 refine pl_nil ?_
 refine co_then ?_
 refine wp_ret ?_
 refine co_ret1 h186 rfl rfl ?_
 have hB187 := hb_call hB182 hb183
 exact ⟨rfl, hB187⟩
end Go.Proofs.Ytlbemlodcdgakaa

/- catenalaw32: notes; what is known of the arguments. Conditions: none. -/
namespace Go.Proofs.Ytlbemlodcdgakaa
open Go.RowKit Go.PlainAid
set_option linter.unusedVariables false
set_option linter.unusedSimpArgs false

theorem eq_pin (a b c d e f : Int) (w : World) : (binOp .eql 40 (.agg #[.int .i64 a, .int .u64 b, .int .i64 c]) (.agg #[.int .i64 d, .int .u64 e, .int .i64 f])).run Try.prog w = .ok (.bool (a == d && b == e && c == f)) w := by
  have u := Try.underlying29
  have u' := Try.underlying3
  have hS : Try.prog.underlying 40 = some (.struct (Try.prog.fieldsOf 40)) := by kernel_rfl
  have hp : Try.prog.stoodInHeld 40 = false := by kernel_rfl
  have hf : (Try.prog.fieldsOf 40).toList.map (fun f => (f.offset, f.type)) = [(0, 3), (1, 29), (2, 3)] := by kernel_rfl
  rw [run_eql_struct, show (10000 : Nat) = 9999 + 1 from rfl, run_equalIn_agg w 9999 40 _ _ hS hp]
  simp only [Program.fieldsOf, Try.underlying40]
  go_simp
  by_cases h1 : a = d <;> by_cases h2 : b = e <;> by_cases h3 : c = f <;> simp [h1, h2, h3]
theorem eq_said (a b c d e f g h : Int) (w : World) : (binOp .eql 42 (.agg #[.int .i64 a, .int .i64 b, .int .i64 c, .int .i64 d]) (.agg #[.int .i64 e, .int .i64 f, .int .i64 g, .int .i64 h])).run Try.prog w = .ok (.bool (a == e && b == f && c == g && d == h)) w := by
  have u := Try.underlying3
  have u' := Try.underlying27
  have hS : Try.prog.underlying 42 = some (.struct (Try.prog.fieldsOf 42)) := by kernel_rfl
  have hp : Try.prog.stoodInHeld 42 = false := by kernel_rfl
  have hf : (Try.prog.fieldsOf 42).toList.map (fun f => (f.offset, f.type)) = [(0, 3), (1, 3), (2, 27), (3, 3)] := by kernel_rfl
  rw [run_eql_struct, show (10000 : Nat) = 9999 + 1 from rfl, run_equalIn_agg w 9999 42 _ _ hS hp]
  simp only [Program.fieldsOf, Try.underlying42]
  go_simp
  by_cases h1 : a = e <;> by_cases h2 : b = f <;> by_cases h3 : c = g <;> by_cases h4 : d = h <;> simp [h1, h2, h3, h4]

theorem EqEn.of {A B : List EntT} (h : A.map e0 = B.map e0) : EqEn A B := by
  refine ⟨by have := congrArg List.length h; rwa [List.length_map, List.length_map] at this, fun i y z hy hz => ?_⟩
  have h2 := congrArg (fun L => L[i]?) h
  simp only [List.getElem?_map, hy, hz, Option.map_some] at h2
  have h3 : e0 y = e0 z := by injection h2
  have c1 : (e0 y).client = (e0 z).client := by rw [h3]
  have c2 : (e0 y).req = (e0 z).req := by rw [h3]
  have c3 : (e0 y).opl = (e0 z).opl := by rw [h3]
  have c4 : (e0 y).ts = (e0 z).ts := by rw [h3]
  exact ⟨c1, c2, c3, c4⟩
theorem sum_ge : ∀ (l : List EntT) (m : Int), ∀ z ∈ l, m + (z.opl.length : Int) ≤ l.foldl (fun n e => n + (e.opl.length : Int)) m
  | [], m, z, hz => by cases hz
  | e :: r, m, z, hz => by
    simp only [List.foldl_cons]
    rcases List.mem_cons.1 hz with rfl | hz
    · exact fold_nn r _
    · have := sum_ge r (m + (e.opl.length : Int)) z hz; omega
theorem much_ops {l : List EntT} (h : ¬ muchN l > 80) : ∀ z ∈ l, z.opl.length ≤ 80 := fun z hz => by
  have hl := much_len80 h
  have h2 : muchN l = (l.length : Int) + sumN (l.take 200) := rfl
  rw [List.take_of_length_le (by omega)] at h2
  have h3 : (0 : Int) + (z.opl.length : Int) ≤ sumN l := sum_ge l 0 z hz
  omega
structure T5c where
  a : Int
  b : Int
  c : Int
  d : Int
  e : Int
def a5cV (x : T5c) : Value := .agg #[.int .i64 x.a, .int .i64 x.b, .int .i64 x.c, .int .i64 x.d, .int .i64 x.e]

set_option maxRecDepth 10000 in
theorem open_a5c {H : Type} {enc : TypeId × Value → H} {w W0 : World} {base b0 : Nat} {spare : Nat → Bool} {held : Bool} {r : Reach} {v : Value} {n : Nat} {x : DataW H × List MemPlace}
    (hv : Value.okWide Try.prog w r b0 70 v) (h : DataW.trod enc Try.prog W0 base spare held n 70 v.cells.toList = some x) :
    ∃ c : T5c, v = a5cV c ∧ True := by
  obtain ⟨cs, rfl, hsz⟩ := okWide_arr Try.underlying70 hv
  obtain ⟨xs, m, _, _, hl, hxl, hf⟩ := DataW.trod_array Try.underlying70 h
  have hl5 : cs.toList.length = 5 := hl
  have hc : Try.prog.cellsOf 3 = 1 := by kernel_rfl
  rw [hc] at hf
  obtain ⟨l, hcs⟩ : ∃ l, l = cs.toList := ⟨_, rfl⟩
  have e0 : (Value.agg cs).cells.toList = l := by rw [hcs]; rfl
  rw [e0] at hf
  rw [← hcs] at hl5
  match l, hl5, xs, hxl with
  | [c0, c1, c2, c3, c4], _, [x0, x1, x2, x3, x4], _ =>
    have h0 : DataW.trod enc Try.prog W0 base spare held m 3 [c0] = some x0 := hf 0 (by omega)
    have h1 : DataW.trod enc Try.prog W0 base spare held m 3 [c1] = some x1 := hf 1 (by omega)
    have h2 : DataW.trod enc Try.prog W0 base spare held m 3 [c2] = some x2 := hf 2 (by omega)
    have h3 : DataW.trod enc Try.prog W0 base spare held m 3 [c3] = some x3 := hf 3 (by omega)
    have h4 : DataW.trod enc Try.prog W0 base spare held m 3 [c4] = some x4 := hf 4 (by omega)
    obtain ⟨a, e0, _, _⟩ := DataW.trod_int Try.underlying3 h0
    obtain ⟨b, e1, _, _⟩ := DataW.trod_int Try.underlying3 h1
    obtain ⟨c, e2, _, _⟩ := DataW.trod_int Try.underlying3 h2
    obtain ⟨d, e3, _, _⟩ := DataW.trod_int Try.underlying3 h3
    obtain ⟨f, e4, _, _⟩ := DataW.trod_int Try.underlying3 h4
    simp only [List.cons.injEq, and_true] at e0 e1 e2 e3 e4
    subst e0 e1 e2 e3 e4
    refine ⟨⟨a, b, c, d, f⟩, ?_, trivial⟩
    rw [show cs = (cs.toList).toArray by simp, ← hcs]; rfl

set_option maxRecDepth 100000 in
theorem sameInts0  (w : World)  :
    Calls Try.prog 60 #[.slice none 0 0, .slice none 0 0] w fun e w' => e = .returned (.bool true) ∧ Below w.heap.size w w' := by
 have hB0 := Below.refl w.heap.size w
 refine co_enter (n := 32) Try.func60 rfl rfl rfl [(0, .slice none 0 0), (1, .slice none 0 0)] rfl (fun a h0 => ?_)
 refine co_seq ?_
 refine co_reg ?_
 refine pk0 (v := .bool false) h0 rfl fun a1 h1 => ?_; clear h0
 refine pl_nil ?_
 refine co_then ?_
 refine co_seq ?_
 refine co_seq ?_
 refine co_reg ?_
 refine pk0 (v := .slice none 0 0) h1 rfl fun a2 h2 => ?_; clear h1
 refine pk0 (v := .int .i64 0) h2 rfl fun a3 h3 => ?_; clear h2
 refine pk0 (v := .slice none 0 0) h3 rfl fun a4 h4 => ?_; clear h3
 refine pk0 (v := .int .i64 0) h4 rfl fun a5 h5 => ?_; clear h4
 refine pk0 (v := .bool ((0 : Int) != 0)) h5 rfl fun a6 h6 => ?_; clear h5
 refine pl_nil ?_
 refine co_then ?_
 have hc7 : ((0 : Int) != 0) = false := by first | (simp; done) | (simp; omega) | exact beq_false_of_ne (by omega) | exact beq_iff_eq.2 (by omega)
 rw [hc7] at h6; clear hc7
 refine co_false h6 rfl ?_
 refine wp_skip ?_
 refine co_then ?_
 refine co_seq ?_
 refine co_seq ?_
 refine co_reg ?_
 refine pk0 (v := .int .i64 0) h6 rfl fun a8 h8 => ?_; clear h6
 refine pl_nil ?_
 refine co_then ?_
 refine wp_block ?_
 have h9 : Slots 32 [(0, .slice none 0 0), (1, .slice none 0 0), (5, .int .i64 0)] _ := h8.sub ⟨rfl, rfl, rfl, trivial⟩; clear h8
 refine co_loop (fun mm a x => ∃ (i : Nat), Slots 32 [(0, .slice none 0 0), (1, .slice none 0 0), (5, .int .i64 ((i : Nat) : Int))] a ∧ mm = 0 - i ∧ (i ≤ 0) ∧ Below w.heap.size w x) (0 - 0) ?_ ?_
 · exact ⟨0, h9.sub ⟨rfl, rfl, (slot_eq rfl (congrArg (Value.int .i64) (by first | rfl | omega))), trivial⟩, rfl, by omega, hB0⟩
 · rintro k10 a11 w12 ⟨i, h11, rfl, hi13, hB14⟩
   have hz15 := hB14.size
   refine co_seq ?_
   refine co_seq ?_
   refine co_reg ?_
   refine pk0 (v := .int .i64 ((i : Nat) : Int)) h11 rfl fun a16 h16 => ?_; clear h11
   refine pk0 (v := .slice none 0 0) h16 rfl fun a17 h17 => ?_; clear h16
   refine pk0 (v := .int .i64 0) h17 rfl fun a18 h18 => ?_; clear h17
   refine pk0 (v := .bool (decide (((i : Nat) : Int) < 0))) h18 rfl fun a19 h19 => ?_; clear h18
   refine pk0 (v := .bool (decide (((i : Nat) : Int) < 0))) h19 rfl fun a20 h20 => ?_; clear h19
   have hc21 : (decide (((i : Nat) : Int) < 0)) = false := decide_eq_false (by omega)
   rw [hc21] at h20; clear hc21
   refine psk h20 rfl fun a22 h22 => ?_; clear h20
   refine psk h22 rfl fun a23 h23 => ?_; clear h22
   refine psk h23 rfl fun a24 h24 => ?_; clear h23
   refine psk h24 rfl fun a25 h25 => ?_; clear h24
   refine pk0 (v := .bool false) h25 rfl fun a26 h26 => ?_; clear h25
   refine pl_nil ?_
   refine co_then ?_
   refine co_false h26 rfl ?_
   refine wp_exit ?_
   refine co_thenX ?_
   refine co_thenX ?_
   refine co_blockX ?_
   refine co_then ?_
   refine co_seq ?_
   refine co_reg ?_
   refine pk0 (v := .bool true) h26 rfl fun a27 h27 => ?_; clear h26
   refine pl_nil ?_
   refine co_then ?_
   refine wp_ret ?_
   refine co_ret1 h27 rfl rfl ?_
   exact ⟨rfl, hB14⟩
set_option maxRecDepth 100000 in
theorem sameStn_any (y : StnT) (w : World)  :
    Calls Try.prog 79 #[.agg #[.int .i64 3, .int .i64 y.1, .int .u64 y.2, .int .i64 0, .slice none 0 0, .int .u64 0, .slice none 0 0, .int .i64 0, .int .i64 0, .slice none 0 0, .int .u64 0, .int .i64 0, .int .u64 0, .int .i64 0, .int .i64 0, .int .i64 0, .int .i64 0, .int .i64 0], .agg #[.int .i64 3, .int .i64 y.1, .int .u64 y.2, .int .i64 0, .slice none 0 0, .int .u64 0, .slice none 0 0, .int .i64 0, .int .i64 0, .slice none 0 0, .int .u64 0, .int .i64 0, .int .u64 0, .int .i64 0, .int .i64 0, .int .i64 0, .int .i64 0, .int .i64 0]] w fun e w' => e = .returned (.bool true) ∧ Below w.heap.size w w' := by
 have hB0 := Below.refl w.heap.size w
 refine co_enter (n := 59) Try.func79 rfl rfl rfl [(0, .agg #[.int .i64 3, .int .i64 y.1, .int .u64 y.2, .int .i64 0, .slice none 0 0, .int .u64 0, .slice none 0 0, .int .i64 0, .int .i64 0, .slice none 0 0, .int .u64 0, .int .i64 0, .int .u64 0, .int .i64 0, .int .i64 0, .int .i64 0, .int .i64 0, .int .i64 0]), (1, .agg #[.int .i64 3, .int .i64 y.1, .int .u64 y.2, .int .i64 0, .slice none 0 0, .int .u64 0, .slice none 0 0, .int .i64 0, .int .i64 0, .slice none 0 0, .int .u64 0, .int .i64 0, .int .u64 0, .int .i64 0, .int .i64 0, .int .i64 0, .int .i64 0, .int .i64 0])] rfl (fun a h0 => ?_)
 refine co_seq ?_
 refine co_reg ?_
 refine pw h0 rfl (op_new (v := fun N => pt N 0) (T := 44) (cs := #[.int .i64 3, .int .i64 y.1, .int .u64 y.2, .int .i64 0, .slice none 0 0, .int .u64 0, .slice none 0 0, .int .i64 0, .int .i64 0, .slice none 0 0, .int .u64 0, .int .i64 0, .int .u64 0, .int .i64 0, .int .i64 0, .int .i64 0, .int .i64 0, .int .i64 0]) (by kernel_rfl) (by kernel_rfl) (by kernel_rfl)) ?_; clear h0
 rintro _ w2 a1 ⟨N3, rfl, hN6, hz7, hk5, hg4⟩ h1
 have hz8 := hg4.size
 try dsimp only at h1
 refine pw h1 rfl (op_new (v := fun N => pt N 0) (T := 44) (cs := #[.int .i64 3, .int .i64 y.1, .int .u64 y.2, .int .i64 0, .slice none 0 0, .int .u64 0, .slice none 0 0, .int .i64 0, .int .i64 0, .slice none 0 0, .int .u64 0, .int .i64 0, .int .u64 0, .int .i64 0, .int .i64 0, .int .i64 0, .int .i64 0, .int .i64 0]) (by kernel_rfl) (by kernel_rfl) (by kernel_rfl)) ?_; clear h1
 rintro _ w10 a9 ⟨N11, rfl, hN14, hz15, hk13, hg12⟩ h9
 have hz16 := hg12.size
 try dsimp only at h9
 refine pk0 (v := .bool false) h9 rfl fun a17 h17 => ?_; clear h9
 refine pl_nil ?_
 refine co_then ?_
 refine co_seq ?_
 refine co_reg ?_
 refine pk0 (v := pt N3 0) h17 rfl fun a18 h18 => ?_; clear h17
 have hk19 := hk5.kept hg12 (by simp)
 refine pk (v := .int .i64 3) h18 rfl (rn_load1 rfl rfl Try.isAgg3 (hk19.cell rfl)) fun a20 h20 => ?_; clear h18
 refine pk0 (v := pt N11 0) h20 rfl fun a21 h21 => ?_; clear h20
 refine pk (v := .int .i64 3) h21 rfl (rn_load1 rfl rfl Try.isAgg3 (hk13.cell rfl)) fun a22 h22 => ?_; clear h21
 refine pk0 (v := .bool ((3 : Int) == 3)) h22 rfl fun a23 h23 => ?_; clear h22
 refine pk0 (v := .bool ((3 : Int) == 3)) h23 rfl fun a24 h24 => ?_; clear h23
 have hc25 : ((3 : Int) == 3) = true := by first | (simp; done) | (simp; omega) | exact beq_false_of_ne (by omega) | exact beq_iff_eq.2 (by omega)
 rw [hc25] at h24; clear hc25
 refine pk0 (v := pt N3 1) h24 rfl fun a26 h26 => ?_; clear h24
 refine pk (v := .int .i64 y.1) h26 rfl (rn_load1 rfl rfl Try.isAgg3 (hk19.cell rfl)) fun a27 h27 => ?_; clear h26
 refine pk0 (v := pt N11 1) h27 rfl fun a28 h28 => ?_; clear h27
 refine pk (v := .int .i64 y.1) h28 rfl (rn_load1 rfl rfl Try.isAgg3 (hk13.cell rfl)) fun a29 h29 => ?_; clear h28
 refine pk0 (v := .bool (y.1 == y.1)) h29 rfl fun a30 h30 => ?_; clear h29
 refine pk0 (v := .bool (y.1 == y.1)) h30 rfl fun a31 h31 => ?_; clear h30
 refine pk0 (v := .bool (y.1 == y.1)) h31 rfl fun a32 h32 => ?_; clear h31
 have hc33 : (y.1 == y.1) = true := by first | rfl | simp
 rw [hc33] at h32; clear hc33
 refine pk0 (v := pt N3 2) h32 rfl fun a34 h34 => ?_; clear h32
 refine pk (v := .int .u64 y.2) h34 rfl (rn_load1 rfl rfl Try.isAgg29 (hk19.cell rfl)) fun a35 h35 => ?_; clear h34
 refine pk0 (v := pt N11 2) h35 rfl fun a36 h36 => ?_; clear h35
 refine pk (v := .int .u64 y.2) h36 rfl (rn_load1 rfl rfl Try.isAgg29 (hk13.cell rfl)) fun a37 h37 => ?_; clear h36
 refine pk0 (v := .bool (y.2 == y.2)) h37 rfl fun a38 h38 => ?_; clear h37
 refine pk0 (v := .bool (y.2 == y.2)) h38 rfl fun a39 h39 => ?_; clear h38
 refine pk0 (v := .bool (y.2 == y.2)) h39 rfl fun a40 h40 => ?_; clear h39
 have hc41 : (y.2 == y.2) = true := by first | rfl | simp
 rw [hc41] at h40; clear hc41
 refine pk0 (v := pt N3 3) h40 rfl fun a42 h42 => ?_; clear h40
 refine pk (v := .agg #[.int .i64 0, .slice none 0 0, .int .u64 0]) h42 rfl (rn_loadN rfl rfl Try.underlying32 rfl (by kernel_rfl) (blk_part hk19 3 (by rfl))) fun a43 h43 => ?_; clear h42
 refine pk0 (v := pt N11 3) h43 rfl fun a44 h44 => ?_; clear h43
 refine pk (v := .agg #[.int .i64 0, .slice none 0 0, .int .u64 0]) h44 rfl (rn_loadN rfl rfl Try.underlying32 rfl (by kernel_rfl) (blk_part hk13 3 (by rfl))) fun a45 h45 => ?_; clear h44
 refine pw h45 rfl (op_call (args := #[.agg #[.int .i64 0, .slice none 0 0, .int .u64 0], .agg #[.int .i64 0, .slice none 0 0, .int .u64 0]]) (R := fun res xw => res = .bool (sameCf 0 ([]) 0 0 ([]) 0) ∧ Below w10.heap.size w10 xw) rfl rfl rfl (by kernel_rfl) (by kernel_rfl) (Try.call59 _ _) (wrsame_any 0 (.slice none 0 0) ([]) 0 0 (.slice none 0 0) ([]) 0 w10 (sl_nil _) (fun _ h => by cases h) (by omega) (by omega) (sl_nil _) (fun _ h => by cases h) (by omega) (by omega)) (by rintro e x ⟨rfl, hb48⟩; exact ⟨_, rfl, ⟨rfl, hb48⟩⟩)) ?_; clear h45
 rintro _ w47 a46 ⟨rfl, hb48⟩ h46
 have hz49 := hb48.size
 refine pk0 (v := .bool (sameCf 0 ([]) 0 0 ([]) 0)) h46 rfl fun a50 h50 => ?_; clear h46
 refine pk0 (v := .bool (sameCf 0 ([]) 0 0 ([]) 0)) h50 rfl fun a51 h51 => ?_; clear h50
 have hc52 : (sameCf 0 ([]) 0 0 ([]) 0) = true := by first | exact sameCf_refl _ _ _ | simp [sameCf_refl]
 rw [hc52] at h51; clear hc52
 refine pk0 (v := pt N3 6) h51 rfl fun a53 h53 => ?_; clear h51
 have hk54 := hk19.below hb48
 refine pk (v := .slice none 0 0) h53 rfl (rn_load1 rfl rfl Try.isAgg33 (hk54.cell rfl)) fun a55 h55 => ?_; clear h53
 refine pk0 (v := pt N11 6) h55 rfl fun a56 h56 => ?_; clear h55
 have hk57 := hk13.below hb48
 refine pk (v := .slice none 0 0) h56 rfl (rn_load1 rfl rfl Try.isAgg33 (hk57.cell rfl)) fun a58 h58 => ?_; clear h56
 refine pw h58 rfl (op_call (args := #[.slice none 0 0, .slice none 0 0]) (R := fun res xw => res = .bool true ∧ Below w47.heap.size w47 xw) rfl rfl rfl (by kernel_rfl) (by kernel_rfl) (Try.call60 _ _) (sameInts0  w47 ) (by rintro e x ⟨rfl, hb61⟩; exact ⟨_, rfl, ⟨rfl, hb61⟩⟩)) ?_; clear h58
 rintro _ w60 a59 ⟨rfl, hb61⟩ h59
 have hz62 := hb61.size
 refine pk0 (v := .bool true) h59 rfl fun a63 h63 => ?_; clear h59
 refine pk0 (v := .bool true) h63 rfl fun a64 h64 => ?_; clear h63
 refine pk0 (v := pt N3 7) h64 rfl fun a65 h65 => ?_; clear h64
 have hk66 := hk54.below hb61
 refine pk (v := .agg #[.int .i64 0, .int .i64 0, .slice none 0 0, .int .u64 0]) h65 rfl (rn_loadN rfl rfl Try.underlying38 rfl (by kernel_rfl) (blk_part hk66 7 (by rfl))) fun a67 h67 => ?_; clear h65
 refine pk0 (v := pt N11 7) h67 rfl fun a68 h68 => ?_; clear h67
 have hk69 := hk57.below hb61
 refine pk (v := .agg #[.int .i64 0, .int .i64 0, .slice none 0 0, .int .u64 0]) h68 rfl (rn_loadN rfl rfl Try.underlying38 rfl (by kernel_rfl) (blk_part hk69 7 (by rfl))) fun a70 h70 => ?_; clear h68
 refine pw h70 rfl (op_call (args := #[.agg #[.int .i64 0, .int .i64 0, .slice none 0 0, .int .u64 0], .agg #[.int .i64 0, .int .i64 0, .slice none 0 0, .int .u64 0]]) (R := fun res xw => res = .bool true ∧ Below w60.heap.size w60 xw) rfl rfl rfl (by kernel_rfl) (by kernel_rfl) (Try.call124 _ _) (sameEntM 0 0 (.slice none 0 0) ([]) 0 (.slice none 0 0) w60 (sl_nil _) (sl_nil _)) (by rintro e x ⟨rfl, hb73⟩; exact ⟨_, rfl, ⟨rfl, hb73⟩⟩)) ?_; clear h70
 rintro _ w72 a71 ⟨rfl, hb73⟩ h71
 have hz74 := hb73.size
 refine pk0 (v := .bool true) h71 rfl fun a75 h75 => ?_; clear h71
 refine pk0 (v := .bool true) h75 rfl fun a76 h76 => ?_; clear h75
 refine pk0 (v := pt N3 11) h76 rfl fun a77 h77 => ?_; clear h76
 have hk78 := hk66.below hb73
 refine pk (v := .agg #[.int .i64 0, .int .u64 0, .int .i64 0]) h77 rfl (rn_loadN rfl rfl Try.underlying40 rfl (by kernel_rfl) (blk_part hk78 11 (by rfl))) fun a79 h79 => ?_; clear h77
 refine pk0 (v := pt N11 11) h79 rfl fun a80 h80 => ?_; clear h79
 have hk81 := hk69.below hb73
 refine pk (v := .agg #[.int .i64 0, .int .u64 0, .int .i64 0]) h80 rfl (rn_loadN rfl rfl Try.underlying40 rfl (by kernel_rfl) (blk_part hk81 11 (by rfl))) fun a82 h82 => ?_; clear h80
 refine pk (v := .bool ((0 : Int) == 0 && (0 : Int) == 0 && (0 : Int) == 0)) h82 rfl (rn_eqS rfl rfl rfl Try.eqGuardType40 (eq_pin _ _ _ _ _ _ _)) fun a83 h83 => ?_; clear h82
 refine pk0 (v := .bool ((0 : Int) == 0 && (0 : Int) == 0 && (0 : Int) == 0)) h83 rfl fun a84 h84 => ?_; clear h83
 refine pk0 (v := .bool ((0 : Int) == 0 && (0 : Int) == 0 && (0 : Int) == 0)) h84 rfl fun a85 h85 => ?_; clear h84
 have hc86 : ((0 : Int) == 0 && (0 : Int) == 0 && (0 : Int) == 0) = true := by first | rfl | simp
 rw [hc86] at h85; clear hc86
 refine pk0 (v := pt N3 14) h85 rfl fun a87 h87 => ?_; clear h85
 refine pk (v := .agg #[.int .i64 0, .int .i64 0, .int .i64 0, .int .i64 0]) h87 rfl (rn_loadN rfl rfl Try.underlying42 rfl (by kernel_rfl) (blk_part hk78 14 (by rfl))) fun a88 h88 => ?_; clear h87
 refine pk0 (v := pt N11 14) h88 rfl fun a89 h89 => ?_; clear h88
 refine pk (v := .agg #[.int .i64 0, .int .i64 0, .int .i64 0, .int .i64 0]) h89 rfl (rn_loadN rfl rfl Try.underlying42 rfl (by kernel_rfl) (blk_part hk81 14 (by rfl))) fun a90 h90 => ?_; clear h89
 refine pk (v := .bool ((0 : Int) == 0 && (0 : Int) == 0 && (0 : Int) == 0 && (0 : Int) == 0)) h90 rfl (rn_eqS rfl rfl rfl Try.eqGuardType42 (eq_said _ _ _ _ _ _ _ _ _)) fun a91 h91 => ?_; clear h90
 refine pk0 (v := .bool ((0 : Int) == 0 && (0 : Int) == 0 && (0 : Int) == 0 && (0 : Int) == 0)) h91 rfl fun a92 h92 => ?_; clear h91
 refine pk0 (v := .bool ((0 : Int) == 0 && (0 : Int) == 0 && (0 : Int) == 0 && (0 : Int) == 0)) h92 rfl fun a93 h93 => ?_; clear h92
 refine pl_nil ?_
 refine co_then ?_
 refine wp_ret ?_
 refine co_ret1 h93 rfl rfl ?_
 have hB94 := hb_new hB0 hg4
 have hB95 := hb_new hB94 hg12
 have hB96 := hb_call hB95 hb48
 have hB97 := hb_call hB96 hb61
 have hB98 := hb_call hB97 hb73
 exact ⟨rfl, hB98⟩
set_option maxRecDepth 100000 in
theorem notes32_any (v : Value) (l : List StnT) (v2 : Value) (w : World) (hs : SliceOf stnE 18 w v l) (hs2 : SliceOf stnE 18 w v2 l) :
    Calls Try.prog 31 #[v, v2] w fun e w' => e = .returned (.bool true) ∧ Below w.heap.size w w' := by
 have hB0 := Below.refl w.heap.size w
 have hl_hs := sl_len hs
 have hl_hs2 := sl_len hs2
 refine co_enter (n := 33) Try.func31 rfl rfl rfl [(0, v), (1, v2)] rfl (fun a h0 => ?_)
 refine co_seq ?_
 refine co_reg ?_
 refine pk0 (v := .bool false) h0 rfl fun a1 h1 => ?_; clear h0
 refine pl_nil ?_
 refine co_then ?_
 refine co_seq ?_
 refine co_seq ?_
 refine co_reg ?_
 refine pk0 (v := v) h1 rfl fun a2 h2 => ?_; clear h1
 refine pk (v := .int .i64 ((l.length : Nat) : Int)) h2 rfl (rn_len rfl rfl Try.underlying22 hs) fun a3 h3 => ?_; clear h2
 refine pk0 (v := v2) h3 rfl fun a4 h4 => ?_; clear h3
 refine pk (v := .int .i64 ((l.length : Nat) : Int)) h4 rfl (rn_len rfl rfl Try.underlying22 hs2) fun a5 h5 => ?_; clear h4
 refine pk0 (v := .bool (((l.length : Nat) : Int) != ((l.length : Nat) : Int))) h5 rfl fun a6 h6 => ?_; clear h5
 refine pl_nil ?_
 refine co_then ?_
 have hc7 : (((l.length : Nat) : Int) != ((l.length : Nat) : Int)) = false := by first | rfl | simp
 rw [hc7] at h6; clear hc7
 refine co_false h6 rfl ?_
 refine wp_skip ?_
 refine co_then ?_
 refine co_seq ?_
 refine co_seq ?_
 refine co_reg ?_
 refine pk0 (v := .int .i64 0) h6 rfl fun a8 h8 => ?_; clear h6
 refine pl_nil ?_
 refine co_then ?_
 refine wp_block ?_
 have h9 : Slots 33 [(0, v), (1, v2), (5, .int .i64 0)] _ := h8.sub ⟨rfl, rfl, rfl, trivial⟩; clear h8
 refine co_loop (fun mm a x => ∃ (i : Nat), Slots 33 [(0, v), (1, v2), (5, .int .i64 ((i : Nat) : Int))] a ∧ mm = l.length - i ∧ (i ≤ l.length) ∧ Below w.heap.size w x) (l.length - 0) ?_ ?_
 · exact ⟨0, h9.sub ⟨rfl, rfl, (slot_eq rfl (congrArg (Value.int .i64) (by first | rfl | omega))), trivial⟩, rfl, by omega, hB0⟩
 · rintro k10 a11 w12 ⟨i, h11, rfl, hi13, hB14⟩
   have hz15 := hB14.size
   refine co_seq ?_
   refine co_seq ?_
   refine co_reg ?_
   refine pk0 (v := .int .i64 ((i : Nat) : Int)) h11 rfl fun a16 h16 => ?_; clear h11
   refine pk0 (v := v) h16 rfl fun a17 h17 => ?_; clear h16
   refine pk (v := .int .i64 ((l.length : Nat) : Int)) h17 rfl (rn_len rfl rfl Try.underlying22 (hs.below hB14)) fun a18 h18 => ?_; clear h17
   refine pk0 (v := .bool (decide (((i : Nat) : Int) < ((l.length : Nat) : Int)))) h18 rfl fun a19 h19 => ?_; clear h18
   refine pk0 (v := .bool (decide (((i : Nat) : Int) < ((l.length : Nat) : Int)))) h19 rfl fun a20 h20 => ?_; clear h19
   cases hc21 : (decide (((i : Nat) : Int) < ((l.length : Nat) : Int)))
   ·
    rw [hc21] at h20
    have hp22 : ¬ (((i : Nat) : Int) < ((l.length : Nat) : Int)) := of_decide_eq_false hc21
    clear hc21
    refine psk h20 rfl fun a23 h23 => ?_; clear h20
    refine psk h23 rfl fun a24 h24 => ?_; clear h23
    refine psk h24 rfl fun a25 h25 => ?_; clear h24
    refine psk h25 rfl fun a26 h26 => ?_; clear h25
    refine pk0 (v := .bool false) h26 rfl fun a27 h27 => ?_; clear h26
    refine pl_nil ?_
    refine co_then ?_
    refine co_false h27 rfl ?_
    refine wp_exit ?_
    refine co_thenX ?_
    refine co_thenX ?_
    refine co_blockX ?_
    refine co_then ?_
    refine co_seq ?_
    refine co_reg ?_
    refine pk0 (v := .bool true) h27 rfl fun a28 h28 => ?_; clear h27
    refine pl_nil ?_
    refine co_then ?_
    refine wp_ret ?_
    refine co_ret1 h28 rfl rfl ?_
    exact ⟨rfl, hB14⟩
   ·
    rw [hc21] at h20
    have hp29 : ((i : Nat) : Int) < ((l.length : Nat) : Int) := of_decide_eq_true hc21
    clear hc21
    refine pk0 (v := .int .i64 ((i : Nat) : Int)) h20 rfl fun a30 h30 => ?_; clear h20
    refine pk0 (v := v2) h30 rfl fun a31 h31 => ?_; clear h30
    refine pk (v := .int .i64 ((l.length : Nat) : Int)) h31 rfl (rn_len rfl rfl Try.underlying22 (hs2.below hB14)) fun a32 h32 => ?_; clear h31
    refine pk0 (v := .bool (decide (((i : Nat) : Int) < ((l.length : Nat) : Int)))) h32 rfl fun a33 h33 => ?_; clear h32
    refine pk0 (v := .bool (decide (((i : Nat) : Int) < ((l.length : Nat) : Int)))) h33 rfl fun a34 h34 => ?_; clear h33
    refine pl_nil ?_
    refine co_then ?_
    have hc35 : (decide (((i : Nat) : Int) < ((l.length : Nat) : Int))) = true := decide_eq_true (by omega)
    rw [hc35] at h34; clear hc35
    refine co_true h34 rfl ?_
    refine wp_skip ?_
    refine co_then ?_
    refine co_seq ?_
    refine wp_block ?_
    refine co_seq ?_
    refine dr_gen (fun x => Below w.heap.size w x) (by kernel_rfl) (fun w36 hg37 => ?_) (fun w36 hg37 => ?_)
    ·
     have hz38 := hg37.size
     have hB39 := hb_new hB14 hg37
     exact hB39
    have hz40 := hg37.size
    have hB41 := hb_new hB14 hg37
    refine dk0 0 (v := v) h34 rfl rfl hB41 fun a42 h42 => ?_; clear h34
    refine dk0 1 (v := .int .i64 ((i : Nat) : Int)) h42 rfl rfl hB41 fun a43 h43 => ?_; clear h42
    obtain ⟨y44, hy44⟩ : ∃ z, l[i]? = some z := ⟨_, List.getElem?_eq_getElem (by first | omega | (simp; done) | (simp; omega))⟩
    refine dk 2 (v := pt (blkOf v) (offOf v + i * 18)) h43 rfl rfl hB41 (fun x hx => (rn_index rfl rfl rfl Try.underlying22 Try.sizeOf44 (hs.below hx) (by omega) (by first | omega | (simp; done) | (simp; omega)))) fun a45 h45 => ?_; clear h43
    refine dk 3 (v := .agg #[.int .i64 3, .int .i64 y44.1, .int .u64 y44.2, .int .i64 0, .slice none 0 0, .int .u64 0, .slice none 0 0, .int .i64 0, .int .i64 0, .slice none 0 0, .int .u64 0, .int .i64 0, .int .u64 0, .int .i64 0, .int .i64 0, .int .i64 0, .int .i64 0, .int .i64 0]) h45 rfl rfl hB41 (fun x hx => (rn_loadN rfl rfl Try.underlying44 rfl (by kernel_rfl) (sl_at (hs.below hx) hy44))) fun a46 h46 => ?_; clear h45
    refine dk0 4 (v := v2) h46 rfl rfl hB41 fun a47 h47 => ?_; clear h46
    refine dk0 5 (v := .int .i64 ((i : Nat) : Int)) h47 rfl rfl hB41 fun a48 h48 => ?_; clear h47
    refine dk 6 (v := pt (blkOf v2) (offOf v2 + i * 18)) h48 rfl rfl hB41 (fun x hx => (rn_index rfl rfl rfl Try.underlying22 Try.sizeOf44 (hs2.below hx) (by omega) (by first | omega | (simp; done) | (simp; omega)))) fun a49 h49 => ?_; clear h48
    refine dk 7 (v := .agg #[.int .i64 3, .int .i64 y44.1, .int .u64 y44.2, .int .i64 0, .slice none 0 0, .int .u64 0, .slice none 0 0, .int .i64 0, .int .i64 0, .slice none 0 0, .int .u64 0, .int .i64 0, .int .u64 0, .int .i64 0, .int .i64 0, .int .i64 0, .int .i64 0, .int .i64 0]) h49 rfl rfl hB41 (fun x hx => (rn_loadN rfl rfl Try.underlying44 rfl (by kernel_rfl) (sl_at (hs2.below hx) hy44))) fun a50 h50 => ?_; clear h49
    refine d1 8 h50 rfl rfl (op_call (args := #[.agg #[.int .i64 3, .int .i64 y44.1, .int .u64 y44.2, .int .i64 0, .slice none 0 0, .int .u64 0, .slice none 0 0, .int .i64 0, .int .i64 0, .slice none 0 0, .int .u64 0, .int .i64 0, .int .u64 0, .int .i64 0, .int .i64 0, .int .i64 0, .int .i64 0, .int .i64 0], .agg #[.int .i64 3, .int .i64 y44.1, .int .u64 y44.2, .int .i64 0, .slice none 0 0, .int .u64 0, .slice none 0 0, .int .i64 0, .int .i64 0, .slice none 0 0, .int .u64 0, .int .i64 0, .int .u64 0, .int .i64 0, .int .i64 0, .int .i64 0, .int .i64 0, .int .i64 0]]) (R := fun res xw => res = .bool true ∧ Below w36.heap.size w36 xw) rfl rfl rfl (by kernel_rfl) (by kernel_rfl) (Try.call79 _ _) (sameStn_any y44 w36 ) (by rintro e x ⟨rfl, hb53⟩; exact ⟨_, rfl, ⟨rfl, hb53⟩⟩)) ?_ ?_; clear h50
    ·
     rintro _ w52 ⟨rfl, hb53⟩
     have hz54 := hb53.size
     have hB55 := hb_call hB41 hb53
     exact hB55
    rintro _ w52 a51 ⟨rfl, hb53⟩ h51
    have hz54 := hb53.size
    have hB55 := hb_call hB41 hb53
    refine dk0 9 (v := .bool false) h51 rfl rfl hB55 fun a56 h56 => ?_; clear h51
    refine dr_done (by kernel_rfl) ?_
    refine co_then ?_
    refine co_false h56 rfl ?_
    refine wp_skip ?_
    refine co_blockN ?_
    refine co_then ?_
    refine co_reg ?_
    refine pk0 (v := .int .i64 ((i : Nat) : Int)) h56 rfl fun a57 h57 => ?_; clear h56
    refine pk (v := .int .i64 ((i + 1 : Nat) : Int)) h57 rfl (rn_arith' rfl rfl rfl rfl rfl rfl (IntWalk.i64_in _ (by omega)) (by omega)) fun a58 h58 => ?_; clear h57
    refine pk0 (v := .int .i64 ((i + 1 : Nat) : Int)) h58 rfl fun a59 h59 => ?_; clear h58
    refine pl_nil ?_
    refine co_then ?_
    refine ⟨(l.length - (i + 1)), by omega, ?_⟩
    exact ⟨i + 1, h59.sub ⟨rfl, rfl, rfl, trivial⟩, rfl, by omega, hB55⟩
end Go.Proofs.Ytlbemlodcdgakaa

/- Configurations and members that came in by value, opened. Conditions: none. -/
namespace Go.Proofs.Ytlbemlodcdgakaa
open Go.RowKit Go.ChangeShapes Go.WideShapes Go.Deep
section
variable {H : Type} {enc : TypeId × Value → H} {w : World} {base : Nat} {spare : Nat → Bool} {held : Bool}
set_option maxRecDepth 10000 in
theorem elem_mem (n : Nat) (cs : List Value) (x : DataW H × List MemPlace) (h : DataW.trod enc Try.prog w base spare held n 158 cs = some x) : ∃ p, cs = memE p ∧ memOk p := by
  obtain ⟨hl, m, hf⟩ := trod_fields Try.underlying158 (by kernel_rfl) (by kernel_rfl) h
  have hl2 : cs.length = 2 := hl
  clear hl
  match cs, hl2 with
  | [c0, c1], _ =>
    obtain ⟨_, y0, e0, h0⟩ := hf 0 _ rfl
    obtain ⟨_, y1, e1, h1⟩ := hf 1 _ rfl
    cases e0; cases e1
    obtain ⟨a, e0, _, w0⟩ := DataW.trod_int Try.underlying3 h0
    obtain ⟨b, e1, _, w1⟩ := DataW.trod_int Try.underlying3 h1
    simp only [List.cons.injEq, and_true] at e0 e1
    subst e0 e1
    exact ⟨(a, b), rfl, wf_i64 w0, wf_i64 w1⟩
theorem open_mems {fuel : Nat} {cs : List Value} {x : DataW H × List MemPlace} (h : DataW.trod enc Try.prog w base spare held fuel 30 cs = some x) :
    ∃ (l : List MemT) (v : Value), cs = [v] ∧ SliceOf memE 2 w v l ∧ ∀ p ∈ l, memOk p :=
  open_rows memE 2 memOk Try.underlying30 (by kernel_rfl) (by omega) elem_mem h
set_option maxRecDepth 10000 in
theorem elem_conf (n : Nat) (cs : List Value) (x : DataW H × List MemPlace) (h : DataW.trod enc Try.prog w base spare held n 32 cs = some x) : ∃ c : ConfT, cs = confE c ∧ ConfOk w c := by
  obtain ⟨hl, m, hf⟩ := trod_fields Try.underlying32 (by kernel_rfl) (by kernel_rfl) h
  have hl3 : cs.length = 3 := hl
  clear hl
  match cs, hl3 with
  | [c0, c1, c2], _ =>
    obtain ⟨_, y0, e0, h0⟩ := hf 0 _ rfl
    obtain ⟨_, y1, e1, h1⟩ := hf 1 _ rfl
    obtain ⟨_, y2, e2, h2⟩ := hf 2 _ rfl
    cases e0; cases e1; cases e2
    obtain ⟨a, e0, _, w0⟩ := DataW.trod_int Try.underlying3 h0
    obtain ⟨l, v, e1, hs, hall⟩ := open_mems h1
    obtain ⟨b, e2, _, w2⟩ := DataW.trod_int Try.underlying29 h2
    simp only [List.cons.injEq, and_true] at e0 e1 e2
    subst e0 e1 e2
    have k0 := wf_i64 w0; have k2 := wf_u64 w2
    exact ⟨⟨a, c1, l, b⟩, rfl, ⟨hs, hall, k0.1, k0.2, k2.1, k2.2⟩⟩
end
end Go.Proofs.Ytlbemlodcdgakaa

/- Messages that came in by value, opened. Conditions: none. -/
namespace Go.Proofs.Ytlbemlodcdgakaa
open Go.RowKit Go.ChangeShapes Go.WideShapes Go.Deep
structure MsgX where
  d : MsgD
  mv : Value
  bv : Value
  ev : Value
  sv : Value
  pv : Value
def msgE (x : MsgX) : List Value := [.int .i64 x.d.k, .int .i64 x.d.ep, .int .i64 x.d.rq, .int .i64 x.d.sr, .bool x.d.fg, .int .u64 x.d.at_, .int .u64 x.d.la, .int .i64 x.d.n, .int .i64 x.d.m, .int .i64 x.d.p, .int .i64 x.d.e, .string x.d.key, .string x.d.to_, .int .i64 x.d.cep, x.mv, .int .u64 x.d.cfl, .int .i64 x.d.bc, .int .i64 x.d.br, x.bv, x.ev, x.sv, x.pv]
def msgV (x : MsgX) : Value := .agg #[.int .i64 x.d.k, .int .i64 x.d.ep, .int .i64 x.d.rq, .int .i64 x.d.sr, .bool x.d.fg, .int .u64 x.d.at_, .int .u64 x.d.la, .int .i64 x.d.n, .int .i64 x.d.m, .int .i64 x.d.p, .int .i64 x.d.e, .string x.d.key, .string x.d.to_, .int .i64 x.d.cep, x.mv, .int .u64 x.d.cfl, .int .i64 x.d.bc, .int .i64 x.d.br, x.bv, x.ev, x.sv, x.pv]
structure MsgOk (w : World) (x : MsgX) : Prop where
  hm : SliceOf memE 2 w x.mv x.d.cms
  hb : SliceOf opE 3 w x.bv x.d.bl
  he : SliceOf entE 4 w x.ev x.d.en
  ht : SliceOf (intE .u64) 1 w x.sv x.d.st
  hp : SliceOf prE 2 w x.pv x.d.pr
  hok : ∀ z ∈ x.d.en, EntOk w z
  hR : MsgR x.d
  hn : -9223372036854775808 ≤ x.d.n ∧ x.d.n ≤ 9223372036854775807
  hP : -9223372036854775808 ≤ x.d.p ∧ x.d.p ≤ 9223372036854775807
section
variable {H : Type} {enc : TypeId × Value → H} {w : World} {base : Nat} {spare : Nat → Bool} {held : Bool}
theorem open_u64s {fuel : Nat} {cs : List Value} {x : DataW H × List MemPlace} (h : DataW.trod enc Try.prog w base spare held fuel 71 cs = some x) :
    ∃ (l : List Int) (v : Value), cs = [v] ∧ SliceOf (intE .u64) 1 w v l ∧ ∀ n ∈ l, (Lit.int .u64 n).wf = true :=
  open_rows (intE .u64) 1 _ Try.underlying71 (by kernel_rfl) (by omega) (fun n cs x h => by
    obtain ⟨a, e, _, hw⟩ := DataW.trod_int Try.underlying29 h
    exact ⟨a, e, hw⟩) h
set_option maxRecDepth 10000 in
theorem elem_pr (n : Nat) (cs : List Value) (x : DataW H × List MemPlace) (h : DataW.trod enc Try.prog w base spare held n 164 cs = some x) : ∃ p : PrT, cs = prE p ∧ True := by
  obtain ⟨hl, m, hf⟩ := trod_fields Try.underlying164 (by kernel_rfl) (by kernel_rfl) h
  have hl2 : cs.length = 2 := hl
  clear hl
  match cs, hl2 with
  | [c0, c1], _ =>
    obtain ⟨_, y0, e0, h0⟩ := hf 0 _ rfl
    obtain ⟨_, y1, e1, h1⟩ := hf 1 _ rfl
    cases e0; cases e1
    obtain ⟨a, e0, _⟩ := DataW.trod_string Try.underlying9 h0
    obtain ⟨b, e1, _⟩ := DataW.trod_string Try.underlying9 h1
    simp only [List.cons.injEq, and_true] at e0 e1
    subst e0 e1
    exact ⟨(a, b), rfl, trivial⟩
theorem open_prs {fuel : Nat} {cs : List Value} {x : DataW H × List MemPlace} (h : DataW.trod enc Try.prog w base spare held fuel 72 cs = some x) :
    ∃ (l : List PrT) (v : Value), cs = [v] ∧ SliceOf prE 2 w v l ∧ ∀ p ∈ l, True :=
  open_rows prE 2 (fun _ => True) Try.underlying72 (by kernel_rfl) (by omega) elem_pr h
set_option maxRecDepth 10000 in
set_option maxHeartbeats 1600000 in
theorem elem_msg (n : Nat) (cs : List Value) (x : DataW H × List MemPlace) (h : DataW.trod enc Try.prog w base spare held n 74 cs = some x) : ∃ y : MsgX, cs = msgE y ∧ MsgOk w y := by
  obtain ⟨xs, m, _, _, hl, hxl, hf⟩ := DataW.trod_struct Try.underlying74 h
  have hl22 : cs.length = 22 := hl
  have hx18 : xs.length = 18 := hxl
  clear hl hxl
  match cs, hl22, xs, hx18 with
  | [c0, c1, c2, c3, c4, c5, c6, c7, c8, c9, c10, c11, c12, c13, c14, c15, c16, c17, c18, c19, c20, c21], _, [x0, x1, x2, x3, x4, x5, x6, x7, x8, x9, x10, x11, x12, x13, x14, x15, x16, x17], _ =>
    have h0 : DataW.trod enc Try.prog w base spare held m 3 [c0] = some x0 := hf 0 _ rfl
    have h1 : DataW.trod enc Try.prog w base spare held m 3 [c1] = some x1 := hf 1 _ rfl
    have h2 : DataW.trod enc Try.prog w base spare held m 3 [c2] = some x2 := hf 2 _ rfl
    have h3 : DataW.trod enc Try.prog w base spare held m 3 [c3] = some x3 := hf 3 _ rfl
    have h4 : DataW.trod enc Try.prog w base spare held m 4 [c4] = some x4 := hf 4 _ rfl
    have h5 : DataW.trod enc Try.prog w base spare held m 29 [c5] = some x5 := hf 5 _ rfl
    have h6 : DataW.trod enc Try.prog w base spare held m 29 [c6] = some x6 := hf 6 _ rfl
    have h7 : DataW.trod enc Try.prog w base spare held m 3 [c7] = some x7 := hf 7 _ rfl
    have h8 : DataW.trod enc Try.prog w base spare held m 3 [c8] = some x8 := hf 8 _ rfl
    have h9 : DataW.trod enc Try.prog w base spare held m 3 [c9] = some x9 := hf 9 _ rfl
    have h10 : DataW.trod enc Try.prog w base spare held m 27 [c10] = some x10 := hf 10 _ rfl
    have h11 : DataW.trod enc Try.prog w base spare held m 9 [c11] = some x11 := hf 11 _ rfl
    have h12 : DataW.trod enc Try.prog w base spare held m 9 [c12] = some x12 := hf 12 _ rfl
    have h13 : DataW.trod enc Try.prog w base spare held m 32 [c13, c14, c15] = some x13 := hf 13 _ rfl
    have h14 : DataW.trod enc Try.prog w base spare held m 36 [c16, c17, c18] = some x14 := hf 14 _ rfl
    have h15 : DataW.trod enc Try.prog w base spare held m 69 [c19] = some x15 := hf 15 _ rfl
    have h16 : DataW.trod enc Try.prog w base spare held m 71 [c20] = some x16 := hf 16 _ rfl
    have h17 : DataW.trod enc Try.prog w base spare held m 72 [c21] = some x17 := hf 17 _ rfl
    clear hf h
    obtain ⟨k, e0, _, w0⟩ := DataW.trod_int Try.underlying3 h0
    obtain ⟨ep, e1, _, w1⟩ := DataW.trod_int Try.underlying3 h1
    obtain ⟨rq, e2, _, w2⟩ := DataW.trod_int Try.underlying3 h2
    obtain ⟨sr, e3, _, w3⟩ := DataW.trod_int Try.underlying3 h3
    obtain ⟨fg, e4, _⟩ := DataW.trod_bool Try.underlying4 h4
    obtain ⟨at_, e5, _, w5⟩ := DataW.trod_int Try.underlying29 h5
    obtain ⟨la, e6, _, w6⟩ := DataW.trod_int Try.underlying29 h6
    obtain ⟨nn, e7, _, w7⟩ := DataW.trod_int Try.underlying3 h7
    obtain ⟨mm, e8, _, w8⟩ := DataW.trod_int Try.underlying3 h8
    obtain ⟨p, e9, _, w9⟩ := DataW.trod_int Try.underlying3 h9
    obtain ⟨e, e10, _, w10⟩ := DataW.trod_int Try.underlying27 h10
    obtain ⟨key, e11, _⟩ := DataW.trod_string Try.underlying9 h11
    obtain ⟨to_, e12, _⟩ := DataW.trod_string Try.underlying9 h12
    obtain ⟨c, e13, hc⟩ := elem_conf _ _ _ h13
    obtain ⟨_, m6, hf6⟩ := trod_fields Try.underlying36 (by kernel_rfl) (by kernel_rfl) h14
    obtain ⟨_, z0, f0, g0⟩ := hf6 0 _ rfl
    obtain ⟨_, z1, f1, g1⟩ := hf6 1 _ rfl
    obtain ⟨_, z2, f2, g2⟩ := hf6 2 _ rfl
    cases f0; cases f1; cases f2
    obtain ⟨bc, e14, _, _⟩ := DataW.trod_int Try.underlying3 g0
    obtain ⟨br, e18, _, _⟩ := DataW.trod_int Try.underlying3 g1
    obtain ⟨bl, bv, e19, hb, _⟩ := open_opsS g2
    obtain ⟨en, ev, e15, he, hok⟩ := open_ents h15
    obtain ⟨st, sv, e16, ht, hst⟩ := open_u64s h16
    obtain ⟨pr, pv, e17, hp, _⟩ := open_prs h17
    clear h0 h1 h2 h3 h4 h5 h6 h7 h8 h9 h10 h11 h12 h13 h14 h15 h16 h17 hf6 g0 g1 g2
    simp only [confE, List.cons.injEq, and_true] at e0 e1 e2 e3 e4 e5 e6 e7 e8 e9 e10 e11 e12 e13 e14 e15 e16 e17 e18 e19
    obtain ⟨rfl, rfl, rfl⟩ := e13
    subst e0 e1 e2 e3 e4 e5 e6 e7 e8 e9 e10 e11 e12 e14 e15 e16 e17 e18 e19
    exact ⟨⟨⟨k, ep, rq, sr, fg, at_, la, nn, mm, p, e, key, to_, c.ep, c.ms, c.fl, bc, br, bl, en, st, pr⟩, c.mv, _, _, _, _⟩, rfl, ⟨hc.ms, hb, he, ht, hp, hok, ⟨hc.each, ⟨⟨hc.e0, hc.e1⟩, ⟨hc.f0, hc.f1⟩, wf_u64 w5, wf_u64 w6⟩, fun t h => wf_u64 (hst t h)⟩, wf_i64 w7, wf_i64 w9⟩⟩
end
set_option maxRecDepth 100000 in
theorem open_msg {H : Type} {enc : TypeId × Value → H} {w W0 : World} {base b0 : Nat} {spare : Nat → Bool} {held : Bool} {r : Reach} {v : Value} {n : Nat} {x : DataW H × List MemPlace}
    (hv : Value.okWide Try.prog w r b0 74 v) (h : DataW.trod enc Try.prog W0 base spare held n 74 v.cells.toList = some x) :
    ∃ y : MsgX, v = msgV y ∧ MsgOk W0 y := by
  obtain ⟨cs, rfl, hsz⟩ := okWide_struct Try.underlying74 hv
  obtain ⟨y, hy, hok⟩ := elem_msg _ _ _ h
  refine ⟨y, ?_, hok⟩
  obtain ⟨cl⟩ := cs
  have hy' : cl = msgE y := hy
  subst hy'; rfl
end Go.Proofs.Ytlbemlodcdgakaa

/- catenalaw32: RelayPlays. Conditions: none. -/
namespace Go.Proofs.Ytlbemlodcdgakaa
open Go.RowKit Go.PlainAid
set_option linter.unusedVariables false
set_option linter.unusedSimpArgs false

set_option maxRecDepth 100000 in
set_option maxHeartbeats 6400000 in
theorem relayPlays_any (v : Value) (l : List EntT) (n : T5c) (hz : Int) (d : MsgD) (mv : Value) (bv : Value) (ev : Value) (sv : Value) (pv : Value) (tl : Bool) (w : World) (hs : SliceOf entE 4 w v l) (hok : ∀ z ∈ l, EntOkS w z) (hlA : l.length ≤ 2932031007403) (hm : SliceOf memE 2 w mv d.cms) (hb : SliceOf opE 3 w bv d.bl) (he : SliceOf entE 4 w ev d.en) (ht : SliceOf (intE .u64) 1 w sv d.st) (hp : SliceOf prE 2 w pv d.pr) (hM : MsgOk w ⟨d, mv, bv, ev, sv, pv⟩) (hhz : 0 ≤ hz ∧ hz < 18446744073709551616) :
    Calls Try.prog 6 #[v, .agg #[.int .i64 n.a, .int .i64 n.b, .int .i64 n.c, .int .i64 n.d, .int .i64 n.e], .int .u64 hz, .agg #[.int .i64 d.k, .int .i64 d.ep, .int .i64 d.rq, .int .i64 d.sr, .bool d.fg, .int .u64 d.at_, .int .u64 d.la, .int .i64 d.n, .int .i64 d.m, .int .i64 d.p, .int .i64 d.e, .string d.key, .string d.to_, .int .i64 d.cep, mv, .int .u64 d.cfl, .int .i64 d.bc, .int .i64 d.br, bv, ev, sv, pv], .bool tl] w fun e w' => e = .returned (.bool true) ∧ Below w.heap.size w w' := by
 have hMP : -9223372036854775808 ≤ d.p ∧ d.p ≤ 9223372036854775807 := hM.hP
 have hB0 := Below.refl w.heap.size w
 have hl_hs := sl_len hs
 have hl_hm := sl_len hm
 have hl_hb := sl_len hb
 have hl_he := sl_len he
 have hl_ht := sl_len ht
 have hl_hp := sl_len hp
 refine co_enter (n := 156) Try.func6 rfl rfl rfl [(0, v), (1, .agg #[.int .i64 n.a, .int .i64 n.b, .int .i64 n.c, .int .i64 n.d, .int .i64 n.e]), (2, .int .u64 hz), (3, .agg #[.int .i64 d.k, .int .i64 d.ep, .int .i64 d.rq, .int .i64 d.sr, .bool d.fg, .int .u64 d.at_, .int .u64 d.la, .int .i64 d.n, .int .i64 d.m, .int .i64 d.p, .int .i64 d.e, .string d.key, .string d.to_, .int .i64 d.cep, mv, .int .u64 d.cfl, .int .i64 d.bc, .int .i64 d.br, bv, ev, sv, pv]), (4, .bool tl)] rfl (fun a h0 => ?_)
 refine co_seq ?_
 refine co_reg ?_
 refine pw h0 rfl (op_new (v := fun N => pt N 0) (T := 70) (cs := #[.int .i64 n.a, .int .i64 n.b, .int .i64 n.c, .int .i64 n.d, .int .i64 n.e]) (by kernel_rfl) (by kernel_rfl) (by kernel_rfl)) ?_; clear h0
 rintro _ w2 a1 ⟨N3, rfl, hN6, hz7, hk5, hg4⟩ h1
 have hz8 := hg4.size
 try dsimp only at h1
 refine pw h1 rfl (op_new (v := fun N => pt N 0) (T := 74) (cs := #[.int .i64 d.k, .int .i64 d.ep, .int .i64 d.rq, .int .i64 d.sr, .bool d.fg, .int .u64 d.at_, .int .u64 d.la, .int .i64 d.n, .int .i64 d.m, .int .i64 d.p, .int .i64 d.e, .string d.key, .string d.to_, .int .i64 d.cep, mv, .int .u64 d.cfl, .int .i64 d.bc, .int .i64 d.br, bv, ev, sv, pv]) (by kernel_rfl) (by kernel_rfl) (by kernel_rfl)) ?_; clear h1
 rintro _ w10 a9 ⟨N11, rfl, hN14, hz15, hk13, hg12⟩ h9
 have hz16 := hg12.size
 try dsimp only at h9
 refine pk0 (v := .bool false) h9 rfl fun a17 h17 => ?_; clear h9
 refine pl_nil ?_
 refine co_then ?_
 refine co_seq ?_
 refine co_seq ?_
 refine co_reg ?_
 refine pk0 (v := v) h17 rfl fun a18 h18 => ?_; clear h17
 have hB21 := hb_new hB0 hg4
 have hB22 := hb_new hB21 hg12
 refine pw h18 rfl (op_call (args := #[v]) (R := fun res xw => res = .int .i64 (muchN l) ∧ Below w10.heap.size w10 xw) rfl rfl rfl (by kernel_rfl) (by kernel_rfl) (Try.call24 _ _) (much_any v l w10 (hs.below hB22) (fun z hz => ⟨(hok z hz).1.below hB22, (hok z hz).2⟩) hlA) (by rintro e x ⟨rfl, h⟩; exact ⟨_, rfl, rfl, h⟩)) ?_; clear h18
 rintro _ w20 a19 ⟨rfl, hb23⟩ h19
 have hz24 := hb23.size
 refine pk0 (v := .bool (decide (muchN l > 80))) h19 rfl fun a25 h25 => ?_; clear h19
 refine pk0 (v := .bool (decide (muchN l > 80))) h25 rfl fun a26 h26 => ?_; clear h25
 have hB28 := hb_call hB22 hb23
 have hk29 := hk5.kept hg12 (by simp)
 have hk30 := hk29.below hb23
 cases hc27 : (decide (muchN l > 80))
 ·
  rw [hc27] at h26
  have hp31 : ¬ (muchN l > 80) := of_decide_eq_false hc27
  clear hc27
  refine pk0 (v := pt N11 20) h26 rfl fun a32 h32 => ?_; clear h26
  have hk33 := hk13.below hb23
  refine pk (v := sv) h32 rfl (rn_load1 rfl rfl Try.isAgg71 (hk33.cell rfl)) fun a34 h34 => ?_; clear h32
  refine pk (v := .int .i64 ((d.st.length : Nat) : Int)) h34 rfl (rn_len rfl rfl Try.underlying71 (ht.below hB28)) fun a35 h35 => ?_; clear h34
  refine pk0 (v := .bool (decide (((d.st.length : Nat) : Int) > 40))) h35 rfl fun a36 h36 => ?_; clear h35
  refine pk0 (v := .bool (decide (((d.st.length : Nat) : Int) > 40))) h36 rfl fun a37 h37 => ?_; clear h36
  refine pk0 (v := .bool (decide (((d.st.length : Nat) : Int) > 40))) h37 rfl fun a38 h38 => ?_; clear h37
  cases hc39 : (decide (((d.st.length : Nat) : Int) > 40))
  ·
   rw [hc39] at h38
   have hp40 : ¬ (((d.st.length : Nat) : Int) > 40) := of_decide_eq_false hc39
   clear hc39
   refine pk0 (v := pt N11 9) h38 rfl fun a41 h41 => ?_; clear h38
   refine pk (v := .int .i64 d.p) h41 rfl (rn_load1 rfl rfl Try.isAgg3 (hk33.cell rfl)) fun a42 h42 => ?_; clear h41
   refine pk0 (v := .bool (decide (d.p < (-1000000)))) h42 rfl fun a43 h43 => ?_; clear h42
   refine pk0 (v := .bool (decide (d.p < (-1000000)))) h43 rfl fun a44 h44 => ?_; clear h43
   refine pk0 (v := .bool (decide (d.p < (-1000000)))) h44 rfl fun a45 h45 => ?_; clear h44
   cases hc46 : (decide (d.p < (-1000000)))
   ·
    rw [hc46] at h45
    have hp47 : ¬ (d.p < (-1000000)) := of_decide_eq_false hc46
    clear hc46
    refine pk0 (v := pt N11 19) h45 rfl fun a48 h48 => ?_; clear h45
    refine pk (v := ev) h48 rfl (rn_load1 rfl rfl Try.isAgg69 (hk33.cell rfl)) fun a49 h49 => ?_; clear h48
    refine pk (v := .int .i64 ((d.en.length : Nat) : Int)) h49 rfl (rn_len rfl rfl Try.underlying69 (he.below hB28)) fun a50 h50 => ?_; clear h49
    refine pk0 (v := .bool (decide (((d.en.length : Nat) : Int) > 20))) h50 rfl fun a51 h51 => ?_; clear h50
    refine pk0 (v := .bool (decide (((d.en.length : Nat) : Int) > 20))) h51 rfl fun a52 h52 => ?_; clear h51
    refine pk0 (v := .bool (decide (((d.en.length : Nat) : Int) > 20))) h52 rfl fun a53 h53 => ?_; clear h52
    cases hc54 : (decide (((d.en.length : Nat) : Int) > 20))
    ·
     rw [hc54] at h53
     have hp55 : ¬ (((d.en.length : Nat) : Int) > 20) := of_decide_eq_false hc54
     clear hc54
     refine pk0 (v := pt N11 21) h53 rfl fun a56 h56 => ?_; clear h53
     refine pk (v := pv) h56 rfl (rn_load1 rfl rfl Try.isAgg72 (hk33.cell rfl)) fun a57 h57 => ?_; clear h56
     refine pk (v := .int .i64 ((d.pr.length : Nat) : Int)) h57 rfl (rn_len rfl rfl Try.underlying72 (hp.below hB28)) fun a58 h58 => ?_; clear h57
     refine pk0 (v := .bool (decide (((d.pr.length : Nat) : Int) > 40))) h58 rfl fun a59 h59 => ?_; clear h58
     refine pk0 (v := .bool (decide (((d.pr.length : Nat) : Int) > 40))) h59 rfl fun a60 h60 => ?_; clear h59
     refine pk0 (v := .bool (decide (((d.pr.length : Nat) : Int) > 40))) h60 rfl fun a61 h61 => ?_; clear h60
     cases hc62 : (decide (((d.pr.length : Nat) : Int) > 40))
     ·
      rw [hc62] at h61
      have hp63 : ¬ (((d.pr.length : Nat) : Int) > 40) := of_decide_eq_false hc62
      clear hc62
      refine pk0 (v := pt N11 13) h61 rfl fun a64 h64 => ?_; clear h61
      refine pk0 (v := pt N11 14) h64 rfl fun a65 h65 => ?_; clear h64
      refine pk (v := mv) h65 rfl (rn_load1 rfl rfl Try.isAgg30 (hk33.cell rfl)) fun a66 h66 => ?_; clear h65
      refine pk (v := .int .i64 ((d.cms.length : Nat) : Int)) h66 rfl (rn_len rfl rfl Try.underlying30 (hm.below hB28)) fun a67 h67 => ?_; clear h66
      refine pk0 (v := .bool (decide (((d.cms.length : Nat) : Int) > 20))) h67 rfl fun a68 h68 => ?_; clear h67
      refine pk0 (v := .bool (decide (((d.cms.length : Nat) : Int) > 20))) h68 rfl fun a69 h69 => ?_; clear h68
      refine pk0 (v := .bool (decide (((d.cms.length : Nat) : Int) > 20))) h69 rfl fun a70 h70 => ?_; clear h69
      cases hc71 : (decide (((d.cms.length : Nat) : Int) > 20))
      ·
       rw [hc71] at h70
       have hp72 : ¬ (((d.cms.length : Nat) : Int) > 20) := of_decide_eq_false hc71
       clear hc71
       refine pk0 (v := pt N11 16) h70 rfl fun a73 h73 => ?_; clear h70
       refine pk0 (v := pt N11 18) h73 rfl fun a74 h74 => ?_; clear h73
       refine pk (v := bv) h74 rfl (rn_load1 rfl rfl Try.isAgg34 (hk33.cell rfl)) fun a75 h75 => ?_; clear h74
       refine pk (v := .int .i64 ((d.bl.length : Nat) : Int)) h75 rfl (rn_len rfl rfl Try.underlying34 (hb.below hB28)) fun a76 h76 => ?_; clear h75
       refine pk0 (v := .bool (decide (((d.bl.length : Nat) : Int) > 20))) h76 rfl fun a77 h77 => ?_; clear h76
       refine pk0 (v := .bool (decide (((d.bl.length : Nat) : Int) > 20))) h77 rfl fun a78 h78 => ?_; clear h77
       refine pl_nil ?_
       refine co_then ?_
       cases hc79 : (decide (((d.bl.length : Nat) : Int) > 20))
       ·
        rw [hc79] at h78
        have hp80 : ¬ (((d.bl.length : Nat) : Int) > 20) := of_decide_eq_false hc79
        clear hc79
        refine co_false h78 rfl ?_
        refine wp_skip ?_
        refine co_then ?_
        refine co_seq ?_
        refine co_reg ?_
        refine pk0 (v := pt N3 0) h78 rfl fun a81 h81 => ?_; clear h78
        refine pk (v := .int .i64 n.a) h81 rfl (rn_load1 rfl rfl Try.isAgg3 (hk30.cell rfl)) fun a82 h82 => ?_; clear h81
        refine pk0 (v := pt N3 1) h82 rfl fun a83 h83 => ?_; clear h82
        refine pk (v := .int .i64 n.b) h83 rfl (rn_load1 rfl rfl Try.isAgg3 (hk30.cell rfl)) fun a84 h84 => ?_; clear h83
        refine pk0 (v := pt N3 2) h84 rfl fun a85 h85 => ?_; clear h84
        refine pk (v := .int .i64 n.c) h85 rfl (rn_load1 rfl rfl Try.isAgg3 (hk30.cell rfl)) fun a86 h86 => ?_; clear h85
        refine pk0 (v := pt N3 3) h86 rfl fun a87 h87 => ?_; clear h86
        refine pk (v := .int .i64 n.d) h87 rfl (rn_load1 rfl rfl Try.isAgg3 (hk30.cell rfl)) fun a88 h88 => ?_; clear h87
        refine pk0 (v := .int .u64 hz) h88 rfl fun a89 h89 => ?_; clear h88
        refine pk0 (v := v) h89 rfl fun a90 h90 => ?_; clear h89
        refine pk0 (v := pt N3 4) h90 rfl fun a91 h91 => ?_; clear h90
        refine pk (v := .int .i64 n.e) h91 rfl (rn_load1 rfl rfl Try.isAgg3 (hk30.cell rfl)) fun a92 h92 => ?_; clear h91
        have hl80 := much_len80 (l := l) (by omega)
        have h80 := much_ops (l := l) (by omega)
        refine pw h92 rfl (op_call (args := #[.int .i64 n.a, .int .i64 n.b, .int .i64 n.c, .int .i64 n.d, .int .u64 hz, v, .int .i64 n.e]) (R := fun res xw => ∃ L2 : List EntT, ∃ u : Value, res = .agg #[.int .i64 3, .int .i64 (mxI n.a 0), .int .i64 (mxI n.d 0), .int .i64 0, .bool false, .int .u64 hz, .int .u64 0, .int .i64 (mxI n.b 0), .int .i64 (mxI (fwF l n.e n.c) 0), .int .i64 (mxI ((stN (fwA l n.e) : Nat) : Int) 0), .int .i64 0, .string (⟨#[]⟩), .string (⟨#[]⟩), .int .i64 0, .slice none 0 0, .int .u64 0, .int .i64 0, .int .i64 0, .slice none 0 0, u, .slice none 0 0, .slice none 0 0] ∧ xw.ownsRow w20.heap.size 38 4 u L2.length (L2.flatMap entE) ∧ EntsH (fun _ => False) w20.heap.size xw L2 ∧ L2.map e0 = (fwE l n.e n.c).map e0 ∧ Below w20.heap.size w20 xw) rfl rfl rfl (by kernel_rfl) (by kernel_rfl) (Try.call26 _ _) (fwd_any n.a n.b n.c n.d hz v l n.e w20 (hs.below hB28) (fun z hz => (hok z hz).1.below hB28) (fun z hz => by have := h80 z hz; omega)) (by rintro e x ⟨L2, u, rfl, hq97, hq98, hq99, hb100⟩; exact ⟨_, rfl, ⟨L2, u, rfl, hq97, hq98, hq99, hb100⟩⟩)) ?_; clear h92
        rintro _ w94 a93 ⟨L295, u96, rfl, hq97, hq98, hq99, hb100⟩ h93
        have hz101 := hb100.size
        have hl102 := sl_len (row_sl hq97 entE_len)
        refine pw h93 rfl (op_new (v := fun N => pt N 0) (T := 74) (cs := #[.int .i64 0, .int .i64 0, .int .i64 0, .int .i64 0, .bool false, .int .u64 0, .int .u64 0, .int .i64 0, .int .i64 0, .int .i64 0, .int .i64 0, .string (⟨#[]⟩), .string (⟨#[]⟩), .int .i64 0, .slice none 0 0, .int .u64 0, .int .i64 0, .int .i64 0, .slice none 0 0, .slice none 0 0, .slice none 0 0, .slice none 0 0]) (by kernel_rfl) (by kernel_rfl) (by kernel_rfl)) ?_; clear h93
        rintro _ w104 a103 ⟨N105, rfl, hN108, hz109, hk107, hg106⟩ h103
        have ha110 := row_fresh hq97 hN108
        have hz111 := hg106.size
        try dsimp only at h103
        have hr117 := row_kept_new hq97 hg106
        refine pwD h103 rfl (op_storeN rfl rfl rfl (all_cons rfl (all_cons rfl (all_cons rfl (all_cons rfl (all_cons rfl (all_cons rfl (all_cons rfl (all_cons rfl (all_cons rfl (all_cons rfl (all_cons rfl (all_cons rfl (all_cons rfl (all_cons rfl (all_cons rfl (all_cons rfl (all_cons rfl (all_cons rfl (all_cons rfl (all_cons (row_one hr117) (all_cons rfl (all_cons rfl all_nil)))))))))))))))))))))) (by kernel_rfl) hk107 rfl) ?_; clear h103
        rintro _ w113 a112 ⟨hk114, hz115, hg116⟩ h112
        have hk114' : Blk w113 N105 74 #[.int .i64 3, .int .i64 (mxI n.a 0), .int .i64 (mxI n.d 0), .int .i64 0, .bool false, .int .u64 hz, .int .u64 0, .int .i64 (mxI n.b 0), .int .i64 (mxI (fwF l n.e n.c) 0), .int .i64 (mxI ((stN (fwA l n.e) : Nat) : Int) 0), .int .i64 0, .string (⟨#[]⟩), .string (⟨#[]⟩), .int .i64 0, .slice none 0 0, .int .u64 0, .int .i64 0, .int .i64 0, .slice none 0 0, u96, .slice none 0 0, .slice none 0 0] := hk114; clear hk114
        have hz118 := hg116.size
        refine pl_nil ?_
        refine co_then ?_
        refine co_seq ?_
        refine co_reg ?_
        refine pk0 (v := pt N3 0) h112 rfl fun a119 h119 => ?_; clear h112
        have hk120 := hk30.below hb100
        have hk121 := hk120.kept hg106 (by simp)
        have hk122 := hk121.kept hg116 (by simp; omega)
        refine pk (v := .int .i64 n.a) h119 rfl (rn_load1 rfl rfl Try.isAgg3 (hk122.cell rfl)) fun a123 h123 => ?_; clear h119
        refine pk0 (v := pt N3 1) h123 rfl fun a124 h124 => ?_; clear h123
        refine pk (v := .int .i64 n.b) h124 rfl (rn_load1 rfl rfl Try.isAgg3 (hk122.cell rfl)) fun a125 h125 => ?_; clear h124
        refine pk0 (v := pt N3 2) h125 rfl fun a126 h126 => ?_; clear h125
        refine pk (v := .int .i64 n.c) h126 rfl (rn_load1 rfl rfl Try.isAgg3 (hk122.cell rfl)) fun a127 h127 => ?_; clear h126
        refine pk0 (v := pt N3 3) h127 rfl fun a128 h128 => ?_; clear h127
        refine pk (v := .int .i64 n.d) h128 rfl (rn_load1 rfl rfl Try.isAgg3 (hk122.cell rfl)) fun a129 h129 => ?_; clear h128
        refine pk0 (v := .int .u64 hz) h129 rfl fun a130 h130 => ?_; clear h129
        refine pk0 (v := v) h130 rfl fun a131 h131 => ?_; clear h130
        refine pk0 (v := pt N3 4) h131 rfl fun a132 h132 => ?_; clear h131
        refine pk (v := .int .i64 n.e) h132 rfl (rn_load1 rfl rfl Try.isAgg3 (hk122.cell rfl)) fun a133 h133 => ?_; clear h132
        have hB136 := hb_call hB28 hb100
        have hB137 := hb_new hB136 hg106
        have hB138 := hb_at hB137 hg116 (by omega)
        have hk139 := hk33.below hb100
        have hk140 := hk139.kept hg106 (by simp)
        have hk141 := hk140.kept hg116 (by simp; omega)
        have hE142 := hq98.new hg106
        have hE143 := hE142.blk hk107 (by decide) hg116
        refine pw h133 rfl (op_call (args := #[.int .i64 n.a, .int .i64 n.b, .int .i64 n.c, .int .i64 n.d, .int .u64 hz, v, .int .i64 n.e]) (R := fun res xw => ∃ u : Value, res = .agg #[.int .i64 3, .int .i64 (mxI n.a 0), .int .i64 (mxI n.d 0), .int .i64 0, .bool false, .int .u64 hz, .int .u64 0, .int .i64 (mxI n.b 0), .int .i64 (mxI (fwF l n.e n.c) 0), .int .i64 (mxI ((stN (fwA l n.e) : Nat) : Int) 0), .int .i64 0, .string (⟨#[]⟩), .string (⟨#[]⟩), .int .i64 0, .slice none 0 0, .int .u64 0, .int .i64 0, .int .i64 0, .slice none 0 0, u, .slice none 0 0, .slice none 0 0] ∧ xw.ownsRow w113.heap.size 38 4 u (fwE l n.e n.c).length ((fwE l n.e n.c).flatMap entE) ∧ Below w113.heap.size w113 xw) rfl rfl rfl (by kernel_rfl) (by kernel_rfl) (Try.call27 _ _) (rfwd32_any n.a n.b n.c n.d hz v l n.e w113 (hs.below hB138) (fun z hz => (hok z hz).1.below hB138) (by omega)) (by rintro e x ⟨u, rfl, hq145, hb146⟩; exact ⟨_, rfl, ⟨u, rfl, hq145, hb146⟩⟩)) ?_; clear h133
        rintro _ w135 a134 ⟨u144, rfl, hq145, hb146⟩ h134
        have hz147 := hb146.size
        have hl148 := sl_len (row_sl hq145 entE_len)
        refine pw h134 rfl (op_new (v := fun N => pt N 0) (T := 74) (cs := #[.int .i64 0, .int .i64 0, .int .i64 0, .int .i64 0, .bool false, .int .u64 0, .int .u64 0, .int .i64 0, .int .i64 0, .int .i64 0, .int .i64 0, .string (⟨#[]⟩), .string (⟨#[]⟩), .int .i64 0, .slice none 0 0, .int .u64 0, .int .i64 0, .int .i64 0, .slice none 0 0, .slice none 0 0, .slice none 0 0, .slice none 0 0]) (by kernel_rfl) (by kernel_rfl) (by kernel_rfl)) ?_; clear h134
        rintro _ w150 a149 ⟨N151, rfl, hN154, hz155, hk153, hg152⟩ h149
        have hr157 := row_kept_at hr117 hg116 (ha110)
        have hr158 := row_kept_new hr157 (below_grown hb146)
        have ha156 := row_fresh hr158 hN154
        have ha159 := row_fresh hq145 hN154
        have hz160 := hg152.size
        try dsimp only at h149
        have hr166 := row_kept_new hq145 hg152
        refine pwD h149 rfl (op_storeN rfl rfl rfl (all_cons rfl (all_cons rfl (all_cons rfl (all_cons rfl (all_cons rfl (all_cons rfl (all_cons rfl (all_cons rfl (all_cons rfl (all_cons rfl (all_cons rfl (all_cons rfl (all_cons rfl (all_cons rfl (all_cons rfl (all_cons rfl (all_cons rfl (all_cons rfl (all_cons rfl (all_cons (row_one hr166) (all_cons rfl (all_cons rfl all_nil)))))))))))))))))))))) (by kernel_rfl) hk153 rfl) ?_; clear h149
        rintro _ w162 a161 ⟨hk163, hz164, hg165⟩ h161
        have hk163' : Blk w162 N151 74 #[.int .i64 3, .int .i64 (mxI n.a 0), .int .i64 (mxI n.d 0), .int .i64 0, .bool false, .int .u64 hz, .int .u64 0, .int .i64 (mxI n.b 0), .int .i64 (mxI (fwF l n.e n.c) 0), .int .i64 (mxI ((stN (fwA l n.e) : Nat) : Int) 0), .int .i64 0, .string (⟨#[]⟩), .string (⟨#[]⟩), .int .i64 0, .slice none 0 0, .int .u64 0, .int .i64 0, .int .i64 0, .slice none 0 0, u144, .slice none 0 0, .slice none 0 0] := hk163; clear hk163
        have hz167 := hg165.size
        refine pl_nil ?_
        refine co_then ?_
        refine co_seq ?_
        refine co_reg ?_
        refine pk0 (v := pt N3 0) h161 rfl fun a168 h168 => ?_; clear h161
        have hk169 := hk122.below hb146
        have hk170 := hk169.kept hg152 (by simp)
        have hk171 := hk170.kept hg165 (by simp; omega)
        refine pk (v := .int .i64 n.a) h168 rfl (rn_load1 rfl rfl Try.isAgg3 (hk171.cell rfl)) fun a172 h172 => ?_; clear h168
        refine pk0 (v := pt N3 4) h172 rfl fun a173 h173 => ?_; clear h172
        refine pk (v := .int .i64 n.e) h173 rfl (rn_load1 rfl rfl Try.isAgg3 (hk171.cell rfl)) fun a174 h174 => ?_; clear h173
        refine pk0 (v := pt N3 1) h174 rfl fun a175 h175 => ?_; clear h174
        refine pk (v := .int .i64 n.b) h175 rfl (rn_load1 rfl rfl Try.isAgg3 (hk171.cell rfl)) fun a176 h176 => ?_; clear h175
        refine pk0 (v := pt N3 2) h176 rfl fun a177 h177 => ?_; clear h176
        refine pk (v := .int .i64 n.c) h177 rfl (rn_load1 rfl rfl Try.isAgg3 (hk171.cell rfl)) fun a178 h178 => ?_; clear h177
        refine pk0 (v := v) h178 rfl fun a179 h179 => ?_; clear h178
        have hB182 := hb_call hB138 hb146
        have hB183 := hb_new hB182 hg152
        have hB184 := hb_at hB183 hg165 (by omega)
        have hk185 := hk141.below hb146
        have hk186 := hk185.kept hg152 (by simp)
        have hk187 := hk186.kept hg165 (by simp; omega)
        have hr188 := row_kept_new hr158 hg152
        have hr189 := row_kept_at hr188 hg165 (ha156)
        have hE190 := hE143.new (below_grown hb146)
        have hE191 := hE190.new hg152
        have hE192 := hE191.blk hk153 (by decide) hg165
        have hk193 := hk114'.below hb146
        have hk194 := hk193.kept hg152 (by simp)
        have hk195 := hk194.kept hg165 (by simp; omega)
        refine pw h179 rfl (op_call (args := #[.int .i64 n.a, .int .i64 n.e, .int .i64 n.b, .int .i64 n.c, v]) (R := fun res xw => ∃ u : Value, res = .agg #[.int .i64 4, .int .i64 (mxI n.a 0), .int .i64 0, .int .i64 0, .bool false, .int .u64 0, .int .u64 0, .int .i64 (mxI (((fwA l n.e).length : Nat) : Int) 0), .int .i64 (mxI n.b 0), .int .i64 (mxI (fwF l n.e n.c) 0), .int .i64 0, .string (⟨#[]⟩), .string (⟨#[]⟩), .int .i64 0, .slice none 0 0, .int .u64 0, .int .i64 0, .int .i64 0, .slice none 0 0, .slice none 0 0, u, .slice none 0 0] ∧ xw.ownsRow w162.heap.size 29 1 u (akS l n.e n.c).length ((akS l n.e n.c).flatMap (intE .u64)) ∧ Below w162.heap.size w162 xw) rfl rfl rfl (by kernel_rfl) (by kernel_rfl) (Try.call28 _ _) (ack_any n.a n.e n.b n.c v l w162 (hs.below hB184) (fun z hz => (hok z hz).1.below hB184)) (by rintro e x ⟨u, rfl, hq197, hb198⟩; exact ⟨_, rfl, ⟨u, rfl, hq197, hb198⟩⟩)) ?_; clear h179
        rintro _ w181 a180 ⟨u196, rfl, hq197, hb198⟩ h180
        have hz199 := hb198.size
        have hl200 := sl_len (row_sl hq197 (intE_len .u64))
        refine pw h180 rfl (op_new (v := fun N => pt N 0) (T := 74) (cs := #[.int .i64 0, .int .i64 0, .int .i64 0, .int .i64 0, .bool false, .int .u64 0, .int .u64 0, .int .i64 0, .int .i64 0, .int .i64 0, .int .i64 0, .string (⟨#[]⟩), .string (⟨#[]⟩), .int .i64 0, .slice none 0 0, .int .u64 0, .int .i64 0, .int .i64 0, .slice none 0 0, .slice none 0 0, .slice none 0 0, .slice none 0 0]) (by kernel_rfl) (by kernel_rfl) (by kernel_rfl)) ?_; clear h180
        rintro _ w202 a201 ⟨N203, rfl, hN206, hz207, hk205, hg204⟩ h201
        have hr209 := row_kept_new hr189 (below_grown hb198)
        have ha208 := row_fresh hr209 hN206
        have hr211 := row_kept_at hr166 hg165 (ha159)
        have hr212 := row_kept_new hr211 (below_grown hb198)
        have ha210 := row_fresh hr212 hN206
        have ha213 := row_fresh hq197 hN206
        have hz214 := hg204.size
        try dsimp only at h201
        have hr220 := row_kept_new hq197 hg204
        refine pwD h201 rfl (op_storeN rfl rfl rfl (all_cons rfl (all_cons rfl (all_cons rfl (all_cons rfl (all_cons rfl (all_cons rfl (all_cons rfl (all_cons rfl (all_cons rfl (all_cons rfl (all_cons rfl (all_cons rfl (all_cons rfl (all_cons rfl (all_cons rfl (all_cons rfl (all_cons rfl (all_cons rfl (all_cons rfl (all_cons rfl (all_cons (row_one hr220) (all_cons rfl all_nil)))))))))))))))))))))) (by kernel_rfl) hk205 rfl) ?_; clear h201
        rintro _ w216 a215 ⟨hk217, hz218, hg219⟩ h215
        have hk217' : Blk w216 N203 74 #[.int .i64 4, .int .i64 (mxI n.a 0), .int .i64 0, .int .i64 0, .bool false, .int .u64 0, .int .u64 0, .int .i64 (mxI (((fwA l n.e).length : Nat) : Int) 0), .int .i64 (mxI n.b 0), .int .i64 (mxI (fwF l n.e n.c) 0), .int .i64 0, .string (⟨#[]⟩), .string (⟨#[]⟩), .int .i64 0, .slice none 0 0, .int .u64 0, .int .i64 0, .int .i64 0, .slice none 0 0, .slice none 0 0, u196, .slice none 0 0] := hk217; clear hk217
        have hz221 := hg219.size
        refine pl_nil ?_
        refine co_then ?_
        refine co_seq ?_
        refine co_reg ?_
        refine pk0 (v := pt N3 0) h215 rfl fun a222 h222 => ?_; clear h215
        have hk223 := hk171.below hb198
        have hk224 := hk223.kept hg204 (by simp)
        have hk225 := hk224.kept hg219 (by simp; omega)
        refine pk (v := .int .i64 n.a) h222 rfl (rn_load1 rfl rfl Try.isAgg3 (hk225.cell rfl)) fun a226 h226 => ?_; clear h222
        refine pk0 (v := pt N3 4) h226 rfl fun a227 h227 => ?_; clear h226
        refine pk (v := .int .i64 n.e) h227 rfl (rn_load1 rfl rfl Try.isAgg3 (hk225.cell rfl)) fun a228 h228 => ?_; clear h227
        refine pk0 (v := pt N3 1) h228 rfl fun a229 h229 => ?_; clear h228
        refine pk (v := .int .i64 n.b) h229 rfl (rn_load1 rfl rfl Try.isAgg3 (hk225.cell rfl)) fun a230 h230 => ?_; clear h229
        refine pk0 (v := pt N3 2) h230 rfl fun a231 h231 => ?_; clear h230
        refine pk (v := .int .i64 n.c) h231 rfl (rn_load1 rfl rfl Try.isAgg3 (hk225.cell rfl)) fun a232 h232 => ?_; clear h231
        refine pk0 (v := v) h232 rfl fun a233 h233 => ?_; clear h232
        have hB236 := hb_call hB184 hb198
        have hB237 := hb_new hB236 hg204
        have hB238 := hb_at hB237 hg219 (by omega)
        have hk239 := hk187.below hb198
        have hk240 := hk239.kept hg204 (by simp)
        have hk241 := hk240.kept hg219 (by simp; omega)
        have hr242 := row_kept_new hr209 hg204
        have hr243 := row_kept_at hr242 hg219 (ha208)
        have hE244 := hE192.new (below_grown hb198)
        have hE245 := hE244.new hg204
        have hE246 := hE245.blk hk205 (by decide) hg219
        have hk247 := hk195.below hb198
        have hk248 := hk247.kept hg204 (by simp)
        have hk249 := hk248.kept hg219 (by simp; omega)
        have hr250 := row_kept_new hr212 hg204
        have hr251 := row_kept_at hr250 hg219 (ha210)
        have hk252 := hk163'.below hb198
        have hk253 := hk252.kept hg204 (by simp)
        have hk254 := hk253.kept hg219 (by simp; omega)
        refine pw h233 rfl (op_call (args := #[.int .i64 n.a, .int .i64 n.e, .int .i64 n.b, .int .i64 n.c, v]) (R := fun res xw => ∃ u : Value, res = .agg #[.int .i64 4, .int .i64 (mxI n.a 0), .int .i64 0, .int .i64 0, .bool false, .int .u64 0, .int .u64 0, .int .i64 (mxI (((fwA l n.e).length : Nat) : Int) 0), .int .i64 (mxI n.b 0), .int .i64 (mxI (fwF l n.e n.c) 0), .int .i64 0, .string (⟨#[]⟩), .string (⟨#[]⟩), .int .i64 0, .slice none 0 0, .int .u64 0, .int .i64 0, .int .i64 0, .slice none 0 0, .slice none 0 0, u, .slice none 0 0] ∧ xw.ownsRow w216.heap.size 29 1 u (akS l n.e n.c).length ((akS l n.e n.c).flatMap (intE .u64)) ∧ Below w216.heap.size w216 xw) rfl rfl rfl (by kernel_rfl) (by kernel_rfl) (Try.call29 _ _) (rack32_any n.a n.e n.b n.c v l w216 (hs.below hB238) (fun z hz => (hok z hz).1.below hB238) (by omega)) (by rintro e x ⟨u, rfl, hq256, hb257⟩; exact ⟨_, rfl, ⟨u, rfl, hq256, hb257⟩⟩)) ?_; clear h233
        rintro _ w235 a234 ⟨u255, rfl, hq256, hb257⟩ h234
        have hz258 := hb257.size
        have hl259 := sl_len (row_sl hq256 (intE_len .u64))
        refine pw h234 rfl (op_new (v := fun N => pt N 0) (T := 74) (cs := #[.int .i64 0, .int .i64 0, .int .i64 0, .int .i64 0, .bool false, .int .u64 0, .int .u64 0, .int .i64 0, .int .i64 0, .int .i64 0, .int .i64 0, .string (⟨#[]⟩), .string (⟨#[]⟩), .int .i64 0, .slice none 0 0, .int .u64 0, .int .i64 0, .int .i64 0, .slice none 0 0, .slice none 0 0, .slice none 0 0, .slice none 0 0]) (by kernel_rfl) (by kernel_rfl) (by kernel_rfl)) ?_; clear h234
        rintro _ w261 a260 ⟨N262, rfl, hN265, hz266, hk264, hg263⟩ h260
        have hr268 := row_kept_new hr243 (below_grown hb257)
        have ha267 := row_fresh hr268 hN265
        have hr270 := row_kept_new hr251 (below_grown hb257)
        have ha269 := row_fresh hr270 hN265
        have hr272 := row_kept_at hr220 hg219 (ha213)
        have hr273 := row_kept_new hr272 (below_grown hb257)
        have ha271 := row_fresh hr273 hN265
        have ha274 := row_fresh hq256 hN265
        have hz275 := hg263.size
        try dsimp only at h260
        have hr281 := row_kept_new hq256 hg263
        refine pwD h260 rfl (op_storeN rfl rfl rfl (all_cons rfl (all_cons rfl (all_cons rfl (all_cons rfl (all_cons rfl (all_cons rfl (all_cons rfl (all_cons rfl (all_cons rfl (all_cons rfl (all_cons rfl (all_cons rfl (all_cons rfl (all_cons rfl (all_cons rfl (all_cons rfl (all_cons rfl (all_cons rfl (all_cons rfl (all_cons rfl (all_cons (row_one hr281) (all_cons rfl all_nil)))))))))))))))))))))) (by kernel_rfl) hk264 rfl) ?_; clear h260
        rintro _ w277 a276 ⟨hk278, hz279, hg280⟩ h276
        have hk278' : Blk w277 N262 74 #[.int .i64 4, .int .i64 (mxI n.a 0), .int .i64 0, .int .i64 0, .bool false, .int .u64 0, .int .u64 0, .int .i64 (mxI (((fwA l n.e).length : Nat) : Int) 0), .int .i64 (mxI n.b 0), .int .i64 (mxI (fwF l n.e n.c) 0), .int .i64 0, .string (⟨#[]⟩), .string (⟨#[]⟩), .int .i64 0, .slice none 0 0, .int .u64 0, .int .i64 0, .int .i64 0, .slice none 0 0, .slice none 0 0, u255, .slice none 0 0] := hk278; clear hk278
        have hz282 := hg280.size
        refine pl_nil ?_
        refine co_then ?_
        refine co_seq ?_
        refine dr_gen (fun x => Below w.heap.size w x ∧ Blk x N3 70 #[.int .i64 n.a, .int .i64 n.b, .int .i64 n.c, .int .i64 n.d, .int .i64 n.e] ∧ Blk x N11 74 #[.int .i64 d.k, .int .i64 d.ep, .int .i64 d.rq, .int .i64 d.sr, .bool d.fg, .int .u64 d.at_, .int .u64 d.la, .int .i64 d.n, .int .i64 d.m, .int .i64 d.p, .int .i64 d.e, .string d.key, .string d.to_, .int .i64 d.cep, mv, .int .u64 d.cfl, .int .i64 d.bc, .int .i64 d.br, bv, ev, sv, pv] ∧ Blk x N105 74 #[.int .i64 3, .int .i64 (mxI n.a 0), .int .i64 (mxI n.d 0), .int .i64 0, .bool false, .int .u64 hz, .int .u64 0, .int .i64 (mxI n.b 0), .int .i64 (mxI (fwF l n.e n.c) 0), .int .i64 (mxI ((stN (fwA l n.e) : Nat) : Int) 0), .int .i64 0, .string (⟨#[]⟩), .string (⟨#[]⟩), .int .i64 0, .slice none 0 0, .int .u64 0, .int .i64 0, .int .i64 0, .slice none 0 0, u96, .slice none 0 0, .slice none 0 0] ∧ Blk x N151 74 #[.int .i64 3, .int .i64 (mxI n.a 0), .int .i64 (mxI n.d 0), .int .i64 0, .bool false, .int .u64 hz, .int .u64 0, .int .i64 (mxI n.b 0), .int .i64 (mxI (fwF l n.e n.c) 0), .int .i64 (mxI ((stN (fwA l n.e) : Nat) : Int) 0), .int .i64 0, .string (⟨#[]⟩), .string (⟨#[]⟩), .int .i64 0, .slice none 0 0, .int .u64 0, .int .i64 0, .int .i64 0, .slice none 0 0, u144, .slice none 0 0, .slice none 0 0] ∧ Blk x N203 74 #[.int .i64 4, .int .i64 (mxI n.a 0), .int .i64 0, .int .i64 0, .bool false, .int .u64 0, .int .u64 0, .int .i64 (mxI (((fwA l n.e).length : Nat) : Int) 0), .int .i64 (mxI n.b 0), .int .i64 (mxI (fwF l n.e n.c) 0), .int .i64 0, .string (⟨#[]⟩), .string (⟨#[]⟩), .int .i64 0, .slice none 0 0, .int .u64 0, .int .i64 0, .int .i64 0, .slice none 0 0, .slice none 0 0, u196, .slice none 0 0] ∧ Blk x N262 74 #[.int .i64 4, .int .i64 (mxI n.a 0), .int .i64 0, .int .i64 0, .bool false, .int .u64 0, .int .u64 0, .int .i64 (mxI (((fwA l n.e).length : Nat) : Int) 0), .int .i64 (mxI n.b 0), .int .i64 (mxI (fwF l n.e n.c) 0), .int .i64 0, .string (⟨#[]⟩), .string (⟨#[]⟩), .int .i64 0, .slice none 0 0, .int .u64 0, .int .i64 0, .int .i64 0, .slice none 0 0, .slice none 0 0, u255, .slice none 0 0]) (by kernel_rfl) (fun w283 hg284 => ?_) (fun w283 hg284 => ?_)
        ·
         have hz285 := hg284.size
         have hB286 := hb_call hB238 hb257
         have hB287 := hb_new hB286 hg263
         have hB288 := hb_at hB287 hg280 (by omega)
         have hB289 := hb_new hB288 hg284
         have hk290 := hk225.below hb257
         have hk291 := hk290.kept hg263 (by simp)
         have hk292 := hk291.kept hg280 (by simp; omega)
         have hk293 := hk292.kept hg284 (by simp)
         have hk294 := hk241.below hb257
         have hk295 := hk294.kept hg263 (by simp)
         have hk296 := hk295.kept hg280 (by simp; omega)
         have hk297 := hk296.kept hg284 (by simp)
         have hk298 := hk249.below hb257
         have hk299 := hk298.kept hg263 (by simp)
         have hk300 := hk299.kept hg280 (by simp; omega)
         have hk301 := hk300.kept hg284 (by simp)
         have hk302 := hk254.below hb257
         have hk303 := hk302.kept hg263 (by simp)
         have hk304 := hk303.kept hg280 (by simp; omega)
         have hk305 := hk304.kept hg284 (by simp)
         have hk306 := hk217'.below hb257
         have hk307 := hk306.kept hg263 (by simp)
         have hk308 := hk307.kept hg280 (by simp; omega)
         have hk309 := hk308.kept hg284 (by simp)
         have hk310 := hk278'.kept hg284 (by simp)
         exact ⟨hB289, hk293, hk297, hk301, hk305, hk309, hk310⟩
        have hz311 := hg284.size
        have hB312 := hb_call hB238 hb257
        have hB313 := hb_new hB312 hg263
        have hB314 := hb_at hB313 hg280 (by omega)
        have hB315 := hb_new hB314 hg284
        have hk316 := hk225.below hb257
        have hk317 := hk316.kept hg263 (by simp)
        have hk318 := hk317.kept hg280 (by simp; omega)
        have hk319 := hk318.kept hg284 (by simp)
        have hk320 := hk241.below hb257
        have hk321 := hk320.kept hg263 (by simp)
        have hk322 := hk321.kept hg280 (by simp; omega)
        have hk323 := hk322.kept hg284 (by simp)
        have hk324 := hk249.below hb257
        have hk325 := hk324.kept hg263 (by simp)
        have hk326 := hk325.kept hg280 (by simp; omega)
        have hk327 := hk326.kept hg284 (by simp)
        have hk328 := hk254.below hb257
        have hk329 := hk328.kept hg263 (by simp)
        have hk330 := hk329.kept hg280 (by simp; omega)
        have hk331 := hk330.kept hg284 (by simp)
        have hk332 := hk217'.below hb257
        have hk333 := hk332.kept hg263 (by simp)
        have hk334 := hk333.kept hg280 (by simp; omega)
        have hk335 := hk334.kept hg284 (by simp)
        have hk336 := hk278'.kept hg284 (by simp)
        refine dk 0 (v := .agg #[.int .i64 3, .int .i64 (mxI n.a 0), .int .i64 (mxI n.d 0), .int .i64 0, .bool false, .int .u64 hz, .int .u64 0, .int .i64 (mxI n.b 0), .int .i64 (mxI (fwF l n.e n.c) 0), .int .i64 (mxI ((stN (fwA l n.e) : Nat) : Int) 0), .int .i64 0, .string (⟨#[]⟩), .string (⟨#[]⟩), .int .i64 0, .slice none 0 0, .int .u64 0, .int .i64 0, .int .i64 0, .slice none 0 0, u96, .slice none 0 0, .slice none 0 0]) h276 rfl rfl ⟨hB315, hk319, hk323, hk327, hk331, hk335, hk336⟩ (fun x hx => (rn_loadN rfl rfl Try.underlying74 rfl (by kernel_rfl) hx.2.2.2.1.all)) fun a337 h337 => ?_; clear h276
        refine dk 1 (v := .agg #[.int .i64 3, .int .i64 (mxI n.a 0), .int .i64 (mxI n.d 0), .int .i64 0, .bool false, .int .u64 hz, .int .u64 0, .int .i64 (mxI n.b 0), .int .i64 (mxI (fwF l n.e n.c) 0), .int .i64 (mxI ((stN (fwA l n.e) : Nat) : Int) 0), .int .i64 0, .string (⟨#[]⟩), .string (⟨#[]⟩), .int .i64 0, .slice none 0 0, .int .u64 0, .int .i64 0, .int .i64 0, .slice none 0 0, u144, .slice none 0 0, .slice none 0 0]) h337 rfl rfl ⟨hB315, hk319, hk323, hk327, hk331, hk335, hk336⟩ (fun x hx => (rn_loadN rfl rfl Try.underlying74 rfl (by kernel_rfl) hx.2.2.2.2.1.all)) fun a338 h338 => ?_; clear h337
        have hr341 := row_kept_new hr268 hg263
        have hr342 := row_kept_at hr341 hg280 (ha267)
        have hr343 := row_kept_new hr342 hg284
        have hE344 := hE246.new (below_grown hb257)
        have hE345 := hE344.new hg263
        have hE346 := hE345.blk hk264 (by decide) hg280
        have hE347 := hE346.new hg284
        have hr348 := row_kept_new hr270 hg263
        have hr349 := row_kept_at hr348 hg280 (ha269)
        have hr350 := row_kept_new hr349 hg284
        have hr351 := row_kept_new hr273 hg263
        have hr352 := row_kept_at hr351 hg280 (ha271)
        have hr353 := row_kept_new hr352 hg284
        have hr354 := row_kept_at hr281 hg280 (ha274)
        have hr355 := row_kept_new hr354 hg284
        refine d1 2 h338 rfl rfl (op_call (args := #[.agg #[.int .i64 3, .int .i64 (mxI n.a 0), .int .i64 (mxI n.d 0), .int .i64 0, .bool false, .int .u64 hz, .int .u64 0, .int .i64 (mxI n.b 0), .int .i64 (mxI (fwF l n.e n.c) 0), .int .i64 (mxI ((stN (fwA l n.e) : Nat) : Int) 0), .int .i64 0, .string (⟨#[]⟩), .string (⟨#[]⟩), .int .i64 0, .slice none 0 0, .int .u64 0, .int .i64 0, .int .i64 0, .slice none 0 0, u96, .slice none 0 0, .slice none 0 0], .agg #[.int .i64 3, .int .i64 (mxI n.a 0), .int .i64 (mxI n.d 0), .int .i64 0, .bool false, .int .u64 hz, .int .u64 0, .int .i64 (mxI n.b 0), .int .i64 (mxI (fwF l n.e n.c) 0), .int .i64 (mxI ((stN (fwA l n.e) : Nat) : Int) 0), .int .i64 0, .string (⟨#[]⟩), .string (⟨#[]⟩), .int .i64 0, .slice none 0 0, .int .u64 0, .int .i64 0, .int .i64 0, .slice none 0 0, u144, .slice none 0 0, .slice none 0 0]]) (R := fun res xw => res = .bool true ∧ Below w283.heap.size w283 xw) rfl rfl rfl (by kernel_rfl) (by kernel_rfl) (Try.call30 _ _) (sameMsgM (fwD n.a n.b n.c n.d hz n.e l L295) (.slice none 0 0) (.slice none 0 0) u96 (.slice none 0 0) (.slice none 0 0) (.slice none 0 0) (.slice none 0 0) u144 (fwE l n.e n.c) (.slice none 0 0) (.slice none 0 0) w283 (sl_nil _) (sl_nil _) (row_sl hr343 entE_len) (sl_nil _) (sl_nil _) (entsH_got hE347) (fwD_R (by omega)) (sl_nil _) (sl_nil _) (row_sl hr350 entE_len) (sl_nil _) (sl_nil _) (fun z hz => ((hok z (List.mem_of_mem_take (List.mem_of_mem_drop (List.mem_of_mem_take hz)))).1.below hB315)) (EqEn.of hq99)) (by rintro e x ⟨rfl, h⟩; exact ⟨_, rfl, rfl, h⟩)) ?_ ?_; clear h338
        ·
         rintro _ w340 ⟨rfl, hb356⟩
         have hz357 := hb356.size
         have hB358 := hb_call hB315 hb356
         have hk359 := hk319.below hb356
         have hk360 := hk323.below hb356
         have hk361 := hk327.below hb356
         have hk362 := hk331.below hb356
         have hk363 := hk335.below hb356
         have hk364 := hk336.below hb356
         exact ⟨hB358, hk359, hk360, hk361, hk362, hk363, hk364⟩
        rintro _ w340 a339 ⟨rfl, hb356⟩ h339
        have hz357 := hb356.size
        have hB358 := hb_call hB315 hb356
        have hk359 := hk319.below hb356
        have hk360 := hk323.below hb356
        have hk361 := hk327.below hb356
        have hk362 := hk331.below hb356
        have hk363 := hk335.below hb356
        have hk364 := hk336.below hb356
        refine dk0 3 (v := .bool true) h339 rfl rfl ⟨hB358, hk359, hk360, hk361, hk362, hk363, hk364⟩ fun a365 h365 => ?_; clear h339
        refine dk 4 (v := .agg #[.int .i64 4, .int .i64 (mxI n.a 0), .int .i64 0, .int .i64 0, .bool false, .int .u64 0, .int .u64 0, .int .i64 (mxI (((fwA l n.e).length : Nat) : Int) 0), .int .i64 (mxI n.b 0), .int .i64 (mxI (fwF l n.e n.c) 0), .int .i64 0, .string (⟨#[]⟩), .string (⟨#[]⟩), .int .i64 0, .slice none 0 0, .int .u64 0, .int .i64 0, .int .i64 0, .slice none 0 0, .slice none 0 0, u196, .slice none 0 0]) h365 rfl rfl ⟨hB358, hk359, hk360, hk361, hk362, hk363, hk364⟩ (fun x hx => (rn_loadN rfl rfl Try.underlying74 rfl (by kernel_rfl) hx.2.2.2.2.2.1.all)) fun a366 h366 => ?_; clear h365
        refine dk 5 (v := .agg #[.int .i64 4, .int .i64 (mxI n.a 0), .int .i64 0, .int .i64 0, .bool false, .int .u64 0, .int .u64 0, .int .i64 (mxI (((fwA l n.e).length : Nat) : Int) 0), .int .i64 (mxI n.b 0), .int .i64 (mxI (fwF l n.e n.c) 0), .int .i64 0, .string (⟨#[]⟩), .string (⟨#[]⟩), .int .i64 0, .slice none 0 0, .int .u64 0, .int .i64 0, .int .i64 0, .slice none 0 0, .slice none 0 0, u255, .slice none 0 0]) h366 rfl rfl ⟨hB358, hk359, hk360, hk361, hk362, hk363, hk364⟩ (fun x hx => (rn_loadN rfl rfl Try.underlying74 rfl (by kernel_rfl) hx.2.2.2.2.2.2.all)) fun a367 h367 => ?_; clear h366
        have hr370 := row_kept_new hr353 (below_grown hb356)
        have hr371 := row_kept_new hr355 (below_grown hb356)
        refine d1 6 h367 rfl rfl (op_call (args := #[.agg #[.int .i64 4, .int .i64 (mxI n.a 0), .int .i64 0, .int .i64 0, .bool false, .int .u64 0, .int .u64 0, .int .i64 (mxI (((fwA l n.e).length : Nat) : Int) 0), .int .i64 (mxI n.b 0), .int .i64 (mxI (fwF l n.e n.c) 0), .int .i64 0, .string (⟨#[]⟩), .string (⟨#[]⟩), .int .i64 0, .slice none 0 0, .int .u64 0, .int .i64 0, .int .i64 0, .slice none 0 0, .slice none 0 0, u196, .slice none 0 0], .agg #[.int .i64 4, .int .i64 (mxI n.a 0), .int .i64 0, .int .i64 0, .bool false, .int .u64 0, .int .u64 0, .int .i64 (mxI (((fwA l n.e).length : Nat) : Int) 0), .int .i64 (mxI n.b 0), .int .i64 (mxI (fwF l n.e n.c) 0), .int .i64 0, .string (⟨#[]⟩), .string (⟨#[]⟩), .int .i64 0, .slice none 0 0, .int .u64 0, .int .i64 0, .int .i64 0, .slice none 0 0, .slice none 0 0, u255, .slice none 0 0]]) (R := fun res xw => res = .bool true ∧ Below w340.heap.size w340 xw) rfl rfl rfl (by kernel_rfl) (by kernel_rfl) (Try.call30 _ _) (sameMsgM (akD n.a n.e n.b n.c l (akS l n.e n.c)) (.slice none 0 0) (.slice none 0 0) (.slice none 0 0) u196 (.slice none 0 0) (.slice none 0 0) (.slice none 0 0) (.slice none 0 0) [] u255 (.slice none 0 0) w340 (sl_nil _) (sl_nil _) (sl_nil _) (row_sl hr370 (intE_len .u64)) (sl_nil _) (fun _ h => by cases h) (akD_R (akS_bd (fun z hz => (hok z hz).1) _ _)) (sl_nil _) (sl_nil _) (sl_nil _) (row_sl hr371 (intE_len .u64)) (sl_nil _) (fun _ h => by cases h) EqEn.nil) (by rintro e x ⟨rfl, h⟩; exact ⟨_, rfl, rfl, h⟩)) ?_ ?_; clear h367
        ·
         rintro _ w369 ⟨rfl, hb372⟩
         have hz373 := hb372.size
         have hB374 := hb_call hB358 hb372
         have hk375 := hk359.below hb372
         have hk376 := hk360.below hb372
         have hk377 := hk361.below hb372
         have hk378 := hk362.below hb372
         have hk379 := hk363.below hb372
         have hk380 := hk364.below hb372
         exact ⟨hB374, hk375, hk376, hk377, hk378, hk379, hk380⟩
        rintro _ w369 a368 ⟨rfl, hb372⟩ h368
        have hz373 := hb372.size
        have hB374 := hb_call hB358 hb372
        have hk375 := hk359.below hb372
        have hk376 := hk360.below hb372
        have hk377 := hk361.below hb372
        have hk378 := hk362.below hb372
        have hk379 := hk363.below hb372
        have hk380 := hk364.below hb372
        refine dk0 7 (v := .bool true) h368 rfl rfl ⟨hB374, hk375, hk376, hk377, hk378, hk379, hk380⟩ fun a381 h381 => ?_; clear h368
        refine dk0 8 (v := .bool true) h381 rfl rfl ⟨hB374, hk375, hk376, hk377, hk378, hk379, hk380⟩ fun a382 h382 => ?_; clear h381
        refine dk0 9 (v := v) h382 rfl rfl ⟨hB374, hk375, hk376, hk377, hk378, hk379, hk380⟩ fun a383 h383 => ?_; clear h382
        refine dk0 10 (v := pt N3 4) h383 rfl rfl ⟨hB374, hk375, hk376, hk377, hk378, hk379, hk380⟩ fun a384 h384 => ?_; clear h383
        refine dk 11 (v := .int .i64 n.e) h384 rfl rfl ⟨hB374, hk375, hk376, hk377, hk378, hk379, hk380⟩ (fun x hx => (rn_load1 rfl rfl Try.isAgg3 (hx.2.1.cell rfl))) fun a385 h385 => ?_; clear h384
        refine dk 12 (v := .agg #[.int .i64 d.k, .int .i64 d.ep, .int .i64 d.rq, .int .i64 d.sr, .bool d.fg, .int .u64 d.at_, .int .u64 d.la, .int .i64 d.n, .int .i64 d.m, .int .i64 d.p, .int .i64 d.e, .string d.key, .string d.to_, .int .i64 d.cep, mv, .int .u64 d.cfl, .int .i64 d.bc, .int .i64 d.br, bv, ev, sv, pv]) h385 rfl rfl ⟨hB374, hk375, hk376, hk377, hk378, hk379, hk380⟩ (fun x hx => (rn_loadN rfl rfl Try.underlying74 rfl (by kernel_rfl) hx.2.2.1.all)) fun a386 h386 => ?_; clear h385
        refine dk0 14 (v := v) h386 rfl rfl ⟨hB374, hk375, hk376, hk377, hk378, hk379, hk380⟩ fun a387 h387 => ?_; clear h386
        refine dk0 15 (v := pt N3 4) h387 rfl rfl ⟨hB374, hk375, hk376, hk377, hk378, hk379, hk380⟩ fun a388 h388 => ?_; clear h387
        refine dk 16 (v := .int .i64 n.e) h388 rfl rfl ⟨hB374, hk375, hk376, hk377, hk378, hk379, hk380⟩ (fun x hx => (rn_load1 rfl rfl Try.isAgg3 (hx.2.1.cell rfl))) fun a389 h389 => ?_; clear h388
        refine dk 17 (v := .agg #[.int .i64 d.k, .int .i64 d.ep, .int .i64 d.rq, .int .i64 d.sr, .bool d.fg, .int .u64 d.at_, .int .u64 d.la, .int .i64 d.n, .int .i64 d.m, .int .i64 d.p, .int .i64 d.e, .string d.key, .string d.to_, .int .i64 d.cep, mv, .int .u64 d.cfl, .int .i64 d.bc, .int .i64 d.br, bv, ev, sv, pv]) h389 rfl rfl ⟨hB374, hk375, hk376, hk377, hk378, hk379, hk380⟩ (fun x hx => (rn_loadN rfl rfl Try.underlying74 rfl (by kernel_rfl) hx.2.2.1.all)) fun a390 h390 => ?_; clear h389
        have hr393 := row_kept_new hr343 (below_grown hb356)
        have hr394 := row_kept_new hr393 (below_grown hb372)
        have hE395 := hE347.new (below_grown hb356)
        have hE396 := hE395.new (below_grown hb372)
        have hr397 := row_kept_new hr350 (below_grown hb356)
        have hr398 := row_kept_new hr397 (below_grown hb372)
        refine d1 13 h390 rfl rfl (op_call (args := #[v, .int .i64 n.e, .agg #[.int .i64 d.k, .int .i64 d.ep, .int .i64 d.rq, .int .i64 d.sr, .bool d.fg, .int .u64 d.at_, .int .u64 d.la, .int .i64 d.n, .int .i64 d.m, .int .i64 d.p, .int .i64 d.e, .string d.key, .string d.to_, .int .i64 d.cep, mv, .int .u64 d.cfl, .int .i64 d.bc, .int .i64 d.br, bv, ev, sv, pv]]) (R := fun res xw => ∃ u : Value, res = u ∧ xw.ownsRow w369.heap.size 44 18 u (lrA l n.e d).length ((lrA l n.e d).flatMap stnE) ∧ Below w369.heap.size w369 xw) rfl rfl rfl (by kernel_rfl) (by kernel_rfl) (Try.call32 _ _) (learn_any v l n.e d mv bv ev sv pv w369 (hs.below hB374) (fun z hz => (hok z hz).1.below hB374) (hm.below hB374) (hb.below hB374) (he.below hB374) (ht.below hB374) (hp.below hB374) (hM.hR.st) (by omega) (by omega) (by have := hM.hP; constructor <;> omega)) (by rintro e x ⟨u, rfl, hq400, hb401⟩; exact ⟨_, rfl, ⟨u, rfl, hq400, hb401⟩⟩)) ?_ ?_; clear h390
        ·
         rintro u399 w392 ⟨_, rfl, hq400, hb401⟩
         have hz402 := hb401.size
         have hl403 := sl_len (row_sl hq400 stnE_len)
         have hB404 := hb_call hB374 hb401
         have hk405 := hk375.below hb401
         have hk406 := hk376.below hb401
         have hk407 := hk377.below hb401
         have hk408 := hk378.below hb401
         have hk409 := hk379.below hb401
         have hk410 := hk380.below hb401
         exact ⟨hB404, hk405, hk406, hk407, hk408, hk409, hk410⟩
        rintro u399 w392 a391 ⟨_, rfl, hq400, hb401⟩ h391
        have hz402 := hb401.size
        have hl403 := sl_len (row_sl hq400 stnE_len)
        have hB404 := hb_call hB374 hb401
        have hk405 := hk375.below hb401
        have hk406 := hk376.below hb401
        have hk407 := hk377.below hb401
        have hk408 := hk378.below hb401
        have hk409 := hk379.below hb401
        have hk410 := hk380.below hb401
        have hr413 := row_kept_new hr370 (below_grown hb372)
        have hr414 := row_kept_new hr413 (below_grown hb401)
        have hr415 := row_kept_new hr371 (below_grown hb372)
        have hr416 := row_kept_new hr415 (below_grown hb401)
        refine d1 18 h391 rfl rfl (op_call (args := #[v, .int .i64 n.e, .agg #[.int .i64 d.k, .int .i64 d.ep, .int .i64 d.rq, .int .i64 d.sr, .bool d.fg, .int .u64 d.at_, .int .u64 d.la, .int .i64 d.n, .int .i64 d.m, .int .i64 d.p, .int .i64 d.e, .string d.key, .string d.to_, .int .i64 d.cep, mv, .int .u64 d.cfl, .int .i64 d.bc, .int .i64 d.br, bv, ev, sv, pv]]) (R := fun res xw => ∃ u : Value, res = u ∧ xw.ownsRow w392.heap.size 44 18 u (lrA l n.e d).length ((lrA l n.e d).flatMap stnE) ∧ Below w392.heap.size w392 xw) rfl rfl rfl (by kernel_rfl) (by kernel_rfl) (Try.call33 _ _) (rlearn32_any v l n.e d mv bv ev sv pv w392 (hs.below hB404) (fun z hz => (hok z hz).1.below hB404) (hm.below hB404) (hb.below hB404) (he.below hB404) (ht.below hB404) (hp.below hB404) (hM.hR.st) (by omega) (by omega) (by have := hM.hP; constructor <;> omega)) (by rintro e x ⟨u, rfl, hq418, hb419⟩; exact ⟨_, rfl, ⟨u, rfl, hq418, hb419⟩⟩)) ?_ ?_; clear h391
        ·
         rintro u417 w412 ⟨_, rfl, hq418, hb419⟩
         have hz420 := hb419.size
         have hl421 := sl_len (row_sl hq418 stnE_len)
         have hB422 := hb_call hB404 hb419
         have hk423 := hk405.below hb419
         have hk424 := hk406.below hb419
         have hk425 := hk407.below hb419
         have hk426 := hk408.below hb419
         have hk427 := hk409.below hb419
         have hk428 := hk410.below hb419
         exact ⟨hB422, hk423, hk424, hk425, hk426, hk427, hk428⟩
        rintro u417 w412 a411 ⟨_, rfl, hq418, hb419⟩ h411
        have hz420 := hb419.size
        have hl421 := sl_len (row_sl hq418 stnE_len)
        have hB422 := hb_call hB404 hb419
        have hk423 := hk405.below hb419
        have hk424 := hk406.below hb419
        have hk425 := hk407.below hb419
        have hk426 := hk408.below hb419
        have hk427 := hk409.below hb419
        have hk428 := hk410.below hb419
        have hr431 := row_kept_new hq400 (below_grown hb419)
        refine d1 19 h411 rfl rfl (op_call (args := #[u399, u417]) (R := fun res xw => res = .bool true ∧ Below w412.heap.size w412 xw) rfl rfl rfl (by kernel_rfl) (by kernel_rfl) (Try.call31 _ _) (notes32_any u399 (lrA l n.e d) u417 w412 (row_sl hr431 stnE_len) (row_sl hq418 stnE_len)) (by rintro e x ⟨rfl, hb432⟩; exact ⟨_, rfl, ⟨rfl, hb432⟩⟩)) ?_ ?_; clear h411
        ·
         rintro _ w430 ⟨rfl, hb432⟩
         have hz433 := hb432.size
         have hB434 := hb_call hB422 hb432
         have hk435 := hk423.below hb432
         have hk436 := hk424.below hb432
         have hk437 := hk425.below hb432
         have hk438 := hk426.below hb432
         have hk439 := hk427.below hb432
         have hk440 := hk428.below hb432
         exact ⟨hB434, hk435, hk436, hk437, hk438, hk439, hk440⟩
        rintro _ w430 a429 ⟨rfl, hb432⟩ h429
        have hz433 := hb432.size
        have hB434 := hb_call hB422 hb432
        have hk435 := hk423.below hb432
        have hk436 := hk424.below hb432
        have hk437 := hk425.below hb432
        have hk438 := hk426.below hb432
        have hk439 := hk427.below hb432
        have hk440 := hk428.below hb432
        refine dk0 20 (v := .bool true) h429 rfl rfl ⟨hB434, hk435, hk436, hk437, hk438, hk439, hk440⟩ fun a441 h441 => ?_; clear h429
        refine dk0 21 (v := .bool true) h441 rfl rfl ⟨hB434, hk435, hk436, hk437, hk438, hk439, hk440⟩ fun a442 h442 => ?_; clear h441
        refine dk0 22 (v := pt N3 0) h442 rfl rfl ⟨hB434, hk435, hk436, hk437, hk438, hk439, hk440⟩ fun a443 h443 => ?_; clear h442
        refine dk 23 (v := .int .i64 n.a) h443 rfl rfl ⟨hB434, hk435, hk436, hk437, hk438, hk439, hk440⟩ (fun x hx => (rn_load1 rfl rfl Try.isAgg3 (hx.2.1.cell rfl))) fun a444 h444 => ?_; clear h443
        refine dk0 24 (v := pt N3 1) h444 rfl rfl ⟨hB434, hk435, hk436, hk437, hk438, hk439, hk440⟩ fun a445 h445 => ?_; clear h444
        refine dk 25 (v := .int .i64 n.b) h445 rfl rfl ⟨hB434, hk435, hk436, hk437, hk438, hk439, hk440⟩ (fun x hx => (rn_load1 rfl rfl Try.isAgg3 (hx.2.1.cell rfl))) fun a446 h446 => ?_; clear h445
        refine dk0 26 (v := .bool tl) h446 rfl rfl ⟨hB434, hk435, hk436, hk437, hk438, hk439, hk440⟩ fun a447 h447 => ?_; clear h446
        refine dk0 27 (v := pt N3 2) h447 rfl rfl ⟨hB434, hk435, hk436, hk437, hk438, hk439, hk440⟩ fun a448 h448 => ?_; clear h447
        refine dk 28 (v := .int .i64 n.c) h448 rfl rfl ⟨hB434, hk435, hk436, hk437, hk438, hk439, hk440⟩ (fun x hx => (rn_load1 rfl rfl Try.isAgg3 (hx.2.1.cell rfl))) fun a449 h449 => ?_; clear h448
        refine dk0 30 (v := pt N3 0) h449 rfl rfl ⟨hB434, hk435, hk436, hk437, hk438, hk439, hk440⟩ fun a450 h450 => ?_; clear h449
        refine dk 31 (v := .int .i64 n.a) h450 rfl rfl ⟨hB434, hk435, hk436, hk437, hk438, hk439, hk440⟩ (fun x hx => (rn_load1 rfl rfl Try.isAgg3 (hx.2.1.cell rfl))) fun a451 h451 => ?_; clear h450
        refine dk0 32 (v := pt N3 1) h451 rfl rfl ⟨hB434, hk435, hk436, hk437, hk438, hk439, hk440⟩ fun a452 h452 => ?_; clear h451
        refine dk 33 (v := .int .i64 n.b) h452 rfl rfl ⟨hB434, hk435, hk436, hk437, hk438, hk439, hk440⟩ (fun x hx => (rn_load1 rfl rfl Try.isAgg3 (hx.2.1.cell rfl))) fun a453 h453 => ?_; clear h452
        refine dk0 34 (v := .bool tl) h453 rfl rfl ⟨hB434, hk435, hk436, hk437, hk438, hk439, hk440⟩ fun a454 h454 => ?_; clear h453
        refine dk0 35 (v := pt N3 2) h454 rfl rfl ⟨hB434, hk435, hk436, hk437, hk438, hk439, hk440⟩ fun a455 h455 => ?_; clear h454
        refine dk 36 (v := .int .i64 n.c) h455 rfl rfl ⟨hB434, hk435, hk436, hk437, hk438, hk439, hk440⟩ (fun x hx => (rn_load1 rfl rfl Try.isAgg3 (hx.2.1.cell rfl))) fun a456 h456 => ?_; clear h455
        refine d1 29 h456 rfl rfl (op_call (args := #[.int .i64 n.a, .int .i64 n.b, .bool tl, .int .i64 n.c]) (R := fun res xw => res = .int .i64 (hldI n.a n.b tl n.c) ∧ Below w430.heap.size w430 xw) rfl rfl rfl (by kernel_rfl) (by kernel_rfl) (Try.call34 _ _) (held_any n.a n.b tl n.c w430 ) (by rintro e x ⟨rfl, hb459⟩; exact ⟨_, rfl, ⟨rfl, hb459⟩⟩)) ?_ ?_; clear h456
        ·
         rintro _ w458 ⟨rfl, hb459⟩
         have hz460 := hb459.size
         have hB461 := hb_call hB434 hb459
         have hk462 := hk435.below hb459
         have hk463 := hk436.below hb459
         have hk464 := hk437.below hb459
         have hk465 := hk438.below hb459
         have hk466 := hk439.below hb459
         have hk467 := hk440.below hb459
         exact ⟨hB461, hk462, hk463, hk464, hk465, hk466, hk467⟩
        rintro _ w458 a457 ⟨rfl, hb459⟩ h457
        have hz460 := hb459.size
        have hB461 := hb_call hB434 hb459
        have hk462 := hk435.below hb459
        have hk463 := hk436.below hb459
        have hk464 := hk437.below hb459
        have hk465 := hk438.below hb459
        have hk466 := hk439.below hb459
        have hk467 := hk440.below hb459
        refine d1 37 h457 rfl rfl (op_call (args := #[.int .i64 n.a, .int .i64 n.b, .bool tl, .int .i64 n.c]) (R := fun res xw => res = .int .i64 (hldI n.a n.b tl n.c) ∧ Below w458.heap.size w458 xw) rfl rfl rfl (by kernel_rfl) (by kernel_rfl) (Try.call35 _ _) (rheld32_any n.a n.b tl n.c w458 ) (by rintro e x ⟨rfl, hb470⟩; exact ⟨_, rfl, ⟨rfl, hb470⟩⟩)) ?_ ?_; clear h457
        ·
         rintro _ w469 ⟨rfl, hb470⟩
         have hz471 := hb470.size
         have hB472 := hb_call hB461 hb470
         have hk473 := hk462.below hb470
         have hk474 := hk463.below hb470
         have hk475 := hk464.below hb470
         have hk476 := hk465.below hb470
         have hk477 := hk466.below hb470
         have hk478 := hk467.below hb470
         exact ⟨hB472, hk473, hk474, hk475, hk476, hk477, hk478⟩
        rintro _ w469 a468 ⟨rfl, hb470⟩ h468
        have hz471 := hb470.size
        have hB472 := hb_call hB461 hb470
        have hk473 := hk462.below hb470
        have hk474 := hk463.below hb470
        have hk475 := hk464.below hb470
        have hk476 := hk465.below hb470
        have hk477 := hk466.below hb470
        have hk478 := hk467.below hb470
        refine dk0 38 (v := .bool (hldI n.a n.b tl n.c == hldI n.a n.b tl n.c)) h468 rfl rfl ⟨hB472, hk473, hk474, hk475, hk476, hk477, hk478⟩ fun a479 h479 => ?_; clear h468
        refine dk0 39 (v := .bool (hldI n.a n.b tl n.c == hldI n.a n.b tl n.c)) h479 rfl rfl ⟨hB472, hk473, hk474, hk475, hk476, hk477, hk478⟩ fun a480 h480 => ?_; clear h479
        refine dk0 40 (v := .bool (hldI n.a n.b tl n.c == hldI n.a n.b tl n.c)) h480 rfl rfl ⟨hB472, hk473, hk474, hk475, hk476, hk477, hk478⟩ fun a481 h481 => ?_; clear h480
        have hc482 : (hldI n.a n.b tl n.c == hldI n.a n.b tl n.c) = true := by first | rfl | simp
        rw [hc482] at h481; clear hc482
        refine dk 41 (v := .agg #[.int .i64 d.k, .int .i64 d.ep, .int .i64 d.rq, .int .i64 d.sr, .bool d.fg, .int .u64 d.at_, .int .u64 d.la, .int .i64 d.n, .int .i64 d.m, .int .i64 d.p, .int .i64 d.e, .string d.key, .string d.to_, .int .i64 d.cep, mv, .int .u64 d.cfl, .int .i64 d.bc, .int .i64 d.br, bv, ev, sv, pv]) h481 rfl rfl ⟨hB472, hk473, hk474, hk475, hk476, hk477, hk478⟩ (fun x hx => (rn_loadN rfl rfl Try.underlying74 rfl (by kernel_rfl) hx.2.2.1.all)) fun a483 h483 => ?_; clear h481
        refine dk0 42 (v := pt N3 4) h483 rfl rfl ⟨hB472, hk473, hk474, hk475, hk476, hk477, hk478⟩ fun a484 h484 => ?_; clear h483
        refine dk 43 (v := .int .i64 n.e) h484 rfl rfl ⟨hB472, hk473, hk474, hk475, hk476, hk477, hk478⟩ (fun x hx => (rn_load1 rfl rfl Try.isAgg3 (hx.2.1.cell rfl))) fun a485 h485 => ?_; clear h484
        refine dk 45 (v := .agg #[.int .i64 d.k, .int .i64 d.ep, .int .i64 d.rq, .int .i64 d.sr, .bool d.fg, .int .u64 d.at_, .int .u64 d.la, .int .i64 d.n, .int .i64 d.m, .int .i64 d.p, .int .i64 d.e, .string d.key, .string d.to_, .int .i64 d.cep, mv, .int .u64 d.cfl, .int .i64 d.bc, .int .i64 d.br, bv, ev, sv, pv]) h485 rfl rfl ⟨hB472, hk473, hk474, hk475, hk476, hk477, hk478⟩ (fun x hx => (rn_loadN rfl rfl Try.underlying74 rfl (by kernel_rfl) hx.2.2.1.all)) fun a486 h486 => ?_; clear h485
        refine dk0 46 (v := pt N3 4) h486 rfl rfl ⟨hB472, hk473, hk474, hk475, hk476, hk477, hk478⟩ fun a487 h487 => ?_; clear h486
        refine dk 47 (v := .int .i64 n.e) h487 rfl rfl ⟨hB472, hk473, hk474, hk475, hk476, hk477, hk478⟩ (fun x hx => (rn_load1 rfl rfl Try.isAgg3 (hx.2.1.cell rfl))) fun a488 h488 => ?_; clear h487
        refine d1 44 h488 rfl rfl (op_call (args := #[.agg #[.int .i64 d.k, .int .i64 d.ep, .int .i64 d.rq, .int .i64 d.sr, .bool d.fg, .int .u64 d.at_, .int .u64 d.la, .int .i64 d.n, .int .i64 d.m, .int .i64 d.p, .int .i64 d.e, .string d.key, .string d.to_, .int .i64 d.cep, mv, .int .u64 d.cfl, .int .i64 d.bc, .int .i64 d.br, bv, ev, sv, pv], .int .i64 n.e]) (R := fun res xw => res = .int .i64 (bwI d.n n.e) ∧ Below w469.heap.size w469 xw) rfl rfl rfl (by kernel_rfl) (by kernel_rfl) (Try.call36 _ _) (good_any d mv bv ev sv pv n.e w469 (hm.below hB472) (hb.below hB472) (he.below hB472) (ht.below hB472) (hp.below hB472)) (by rintro e x ⟨rfl, hb491⟩; exact ⟨_, rfl, ⟨rfl, hb491⟩⟩)) ?_ ?_; clear h488
        ·
         rintro _ w490 ⟨rfl, hb491⟩
         have hz492 := hb491.size
         have hB493 := hb_call hB472 hb491
         have hk494 := hk473.below hb491
         have hk495 := hk474.below hb491
         have hk496 := hk475.below hb491
         have hk497 := hk476.below hb491
         have hk498 := hk477.below hb491
         have hk499 := hk478.below hb491
         exact ⟨hB493, hk494, hk495, hk496, hk497, hk498, hk499⟩
        rintro _ w490 a489 ⟨rfl, hb491⟩ h489
        have hz492 := hb491.size
        have hB493 := hb_call hB472 hb491
        have hk494 := hk473.below hb491
        have hk495 := hk474.below hb491
        have hk496 := hk475.below hb491
        have hk497 := hk476.below hb491
        have hk498 := hk477.below hb491
        have hk499 := hk478.below hb491
        refine d1 48 h489 rfl rfl (op_call (args := #[.agg #[.int .i64 d.k, .int .i64 d.ep, .int .i64 d.rq, .int .i64 d.sr, .bool d.fg, .int .u64 d.at_, .int .u64 d.la, .int .i64 d.n, .int .i64 d.m, .int .i64 d.p, .int .i64 d.e, .string d.key, .string d.to_, .int .i64 d.cep, mv, .int .u64 d.cfl, .int .i64 d.bc, .int .i64 d.br, bv, ev, sv, pv], .int .i64 n.e]) (R := fun res xw => res = .int .i64 (bwI d.n n.e) ∧ Below w490.heap.size w490 xw) rfl rfl rfl (by kernel_rfl) (by kernel_rfl) (Try.call37 _ _) (rgood32_any d mv bv ev sv pv n.e w490 (hm.below hB493) (hb.below hB493) (he.below hB493) (ht.below hB493) (hp.below hB493)) (by rintro e x ⟨rfl, hb502⟩; exact ⟨_, rfl, ⟨rfl, hb502⟩⟩)) ?_ ?_; clear h489
        ·
         rintro _ w501 ⟨rfl, hb502⟩
         have hz503 := hb502.size
         have hB504 := hb_call hB493 hb502
         have hk505 := hk494.below hb502
         have hk506 := hk495.below hb502
         have hk507 := hk496.below hb502
         have hk508 := hk497.below hb502
         have hk509 := hk498.below hb502
         have hk510 := hk499.below hb502
         exact ⟨hB504, hk505, hk506, hk507, hk508, hk509, hk510⟩
        rintro _ w501 a500 ⟨rfl, hb502⟩ h500
        have hz503 := hb502.size
        have hB504 := hb_call hB493 hb502
        have hk505 := hk494.below hb502
        have hk506 := hk495.below hb502
        have hk507 := hk496.below hb502
        have hk508 := hk497.below hb502
        have hk509 := hk498.below hb502
        have hk510 := hk499.below hb502
        refine dk0 49 (v := .bool (bwI d.n n.e == bwI d.n n.e)) h500 rfl rfl ⟨hB504, hk505, hk506, hk507, hk508, hk509, hk510⟩ fun a511 h511 => ?_; clear h500
        refine dk0 50 (v := .bool (bwI d.n n.e == bwI d.n n.e)) h511 rfl rfl ⟨hB504, hk505, hk506, hk507, hk508, hk509, hk510⟩ fun a512 h512 => ?_; clear h511
        refine dk0 51 (v := .bool (bwI d.n n.e == bwI d.n n.e)) h512 rfl rfl ⟨hB504, hk505, hk506, hk507, hk508, hk509, hk510⟩ fun a513 h513 => ?_; clear h512
        have hc514 : (bwI d.n n.e == bwI d.n n.e) = true := by first | rfl | simp
        rw [hc514] at h513; clear hc514
        have hr517 := row_kept_new hr394 (below_grown hb401)
        have hr518 := row_kept_new hr517 (below_grown hb419)
        have hr519 := row_kept_new hr518 (below_grown hb432)
        have hr520 := row_kept_new hr519 (below_grown hb459)
        have hr521 := row_kept_new hr520 (below_grown hb470)
        have hr522 := row_kept_new hr521 (below_grown hb491)
        have hr523 := row_kept_new hr522 (below_grown hb502)
        have hE524 := hE396.new (below_grown hb401)
        have hE525 := hE524.new (below_grown hb419)
        have hE526 := hE525.new (below_grown hb432)
        have hE527 := hE526.new (below_grown hb459)
        have hE528 := hE527.new (below_grown hb470)
        have hE529 := hE528.new (below_grown hb491)
        have hE530 := hE529.new (below_grown hb502)
        have hr531 := row_kept_new hr398 (below_grown hb401)
        have hr532 := row_kept_new hr531 (below_grown hb419)
        have hr533 := row_kept_new hr532 (below_grown hb432)
        have hr534 := row_kept_new hr533 (below_grown hb459)
        have hr535 := row_kept_new hr534 (below_grown hb470)
        have hr536 := row_kept_new hr535 (below_grown hb491)
        have hr537 := row_kept_new hr536 (below_grown hb502)
        have hr538 := row_kept_new hr414 (below_grown hb419)
        have hr539 := row_kept_new hr538 (below_grown hb432)
        have hr540 := row_kept_new hr539 (below_grown hb459)
        have hr541 := row_kept_new hr540 (below_grown hb470)
        have hr542 := row_kept_new hr541 (below_grown hb491)
        have hr543 := row_kept_new hr542 (below_grown hb502)
        have hr544 := row_kept_new hr416 (below_grown hb419)
        have hr545 := row_kept_new hr544 (below_grown hb432)
        have hr546 := row_kept_new hr545 (below_grown hb459)
        have hr547 := row_kept_new hr546 (below_grown hb470)
        have hr548 := row_kept_new hr547 (below_grown hb491)
        have hr549 := row_kept_new hr548 (below_grown hb502)
        have hr550 := row_kept_new hr431 (below_grown hb432)
        have hr551 := row_kept_new hr550 (below_grown hb459)
        have hr552 := row_kept_new hr551 (below_grown hb470)
        have hr553 := row_kept_new hr552 (below_grown hb491)
        have hr554 := row_kept_new hr553 (below_grown hb502)
        have hr555 := row_kept_new hq418 (below_grown hb432)
        have hr556 := row_kept_new hr555 (below_grown hb459)
        have hr557 := row_kept_new hr556 (below_grown hb470)
        have hr558 := row_kept_new hr557 (below_grown hb491)
        have hr559 := row_kept_new hr558 (below_grown hb502)
        refine d1 52 h513 rfl rfl (op_call (args := #[]) (R := fun res xw => res = .bool true ∧ Below w501.heap.size w501 xw) rfl rfl rfl (by kernel_rfl) (by kernel_rfl) (Try.call25 _ _) (awake32 w501) (by rintro e x ⟨rfl, h⟩; exact ⟨_, rfl, rfl, h⟩)) ?_ ?_; clear h513
        ·
         rintro _ w516 ⟨rfl, hb560⟩
         have hz561 := hb560.size
         have hB562 := hb_call hB504 hb560
         have hk563 := hk505.below hb560
         have hk564 := hk506.below hb560
         have hk565 := hk507.below hb560
         have hk566 := hk508.below hb560
         have hk567 := hk509.below hb560
         have hk568 := hk510.below hb560
         exact ⟨hB562, hk563, hk564, hk565, hk566, hk567, hk568⟩
        rintro _ w516 a515 ⟨rfl, hb560⟩ h515
        have hz561 := hb560.size
        have hB562 := hb_call hB504 hb560
        have hk563 := hk505.below hb560
        have hk564 := hk506.below hb560
        have hk565 := hk507.below hb560
        have hk566 := hk508.below hb560
        have hk567 := hk509.below hb560
        have hk568 := hk510.below hb560
        refine dk0 53 (v := .bool true) h515 rfl rfl ⟨hB562, hk563, hk564, hk565, hk566, hk567, hk568⟩ fun a569 h569 => ?_; clear h515
        refine dk0 54 (v := .bool true) h569 rfl rfl ⟨hB562, hk563, hk564, hk565, hk566, hk567, hk568⟩ fun a570 h570 => ?_; clear h569
        refine dr_done (by kernel_rfl) ?_
        refine co_then ?_
        refine wp_ret ?_
        refine co_ret1 h570 rfl rfl ?_
        exact ⟨rfl, hB562⟩
       ·
        rw [hc79] at h78
        have hp571 : ((d.bl.length : Nat) : Int) > 20 := of_decide_eq_true hc79
        clear hc79
        refine co_true h78 rfl ?_
        refine co_seq ?_
        refine co_reg ?_
        refine pw h78 rfl (op_call (args := #[]) (R := fun res xw => res = .bool true ∧ Below w20.heap.size w20 xw) rfl rfl rfl (by kernel_rfl) (by kernel_rfl) (Try.call25 _ _) (awake32 w20) (by rintro e x ⟨rfl, h⟩; exact ⟨_, rfl, rfl, h⟩)) ?_; clear h78
        rintro _ w573 a572 ⟨rfl, hb574⟩ h572
        have hz575 := hb574.size
        refine pk0 (v := .bool true) h572 rfl fun a576 h576 => ?_; clear h572
        refine pl_nil ?_
        refine co_then ?_
        refine wp_ret ?_
        refine co_thenR ?_
        refine co_ret1 h576 rfl rfl ?_
        have hB577 := hb_call hB28 hb574
        exact ⟨rfl, hB577⟩
      ·
       rw [hc71] at h70
       have hp578 : ((d.cms.length : Nat) : Int) > 20 := of_decide_eq_true hc71
       clear hc71
       refine psk h70 rfl fun a579 h579 => ?_; clear h70
       refine psk h579 rfl fun a580 h580 => ?_; clear h579
       refine psk h580 rfl fun a581 h581 => ?_; clear h580
       refine psk h581 rfl fun a582 h582 => ?_; clear h581
       refine psk h582 rfl fun a583 h583 => ?_; clear h582
       refine pk0 (v := .bool true) h583 rfl fun a584 h584 => ?_; clear h583
       refine pl_nil ?_
       refine co_then ?_
       refine co_true h584 rfl ?_
       refine co_seq ?_
       refine co_reg ?_
       refine pw h584 rfl (op_call (args := #[]) (R := fun res xw => res = .bool true ∧ Below w20.heap.size w20 xw) rfl rfl rfl (by kernel_rfl) (by kernel_rfl) (Try.call25 _ _) (awake32 w20) (by rintro e x ⟨rfl, h⟩; exact ⟨_, rfl, rfl, h⟩)) ?_; clear h584
       rintro _ w586 a585 ⟨rfl, hb587⟩ h585
       have hz588 := hb587.size
       refine pk0 (v := .bool true) h585 rfl fun a589 h589 => ?_; clear h585
       refine pl_nil ?_
       refine co_then ?_
       refine wp_ret ?_
       refine co_thenR ?_
       refine co_ret1 h589 rfl rfl ?_
       have hB590 := hb_call hB28 hb587
       exact ⟨rfl, hB590⟩
     ·
      rw [hc62] at h61
      have hp591 : ((d.pr.length : Nat) : Int) > 40 := of_decide_eq_true hc62
      clear hc62
      refine psk h61 rfl fun a592 h592 => ?_; clear h61
      refine psk h592 rfl fun a593 h593 => ?_; clear h592
      refine psk h593 rfl fun a594 h594 => ?_; clear h593
      refine psk h594 rfl fun a595 h595 => ?_; clear h594
      refine psk h595 rfl fun a596 h596 => ?_; clear h595
      refine pk0 (v := .bool true) h596 rfl fun a597 h597 => ?_; clear h596
      refine pk0 (v := .bool true) h597 rfl fun a598 h598 => ?_; clear h597
      refine psk h598 rfl fun a599 h599 => ?_; clear h598
      refine psk h599 rfl fun a600 h600 => ?_; clear h599
      refine psk h600 rfl fun a601 h601 => ?_; clear h600
      refine psk h601 rfl fun a602 h602 => ?_; clear h601
      refine psk h602 rfl fun a603 h603 => ?_; clear h602
      refine pk0 (v := .bool true) h603 rfl fun a604 h604 => ?_; clear h603
      refine pl_nil ?_
      refine co_then ?_
      refine co_true h604 rfl ?_
      refine co_seq ?_
      refine co_reg ?_
      refine pw h604 rfl (op_call (args := #[]) (R := fun res xw => res = .bool true ∧ Below w20.heap.size w20 xw) rfl rfl rfl (by kernel_rfl) (by kernel_rfl) (Try.call25 _ _) (awake32 w20) (by rintro e x ⟨rfl, h⟩; exact ⟨_, rfl, rfl, h⟩)) ?_; clear h604
      rintro _ w606 a605 ⟨rfl, hb607⟩ h605
      have hz608 := hb607.size
      refine pk0 (v := .bool true) h605 rfl fun a609 h609 => ?_; clear h605
      refine pl_nil ?_
      refine co_then ?_
      refine wp_ret ?_
      refine co_thenR ?_
      refine co_ret1 h609 rfl rfl ?_
      have hB610 := hb_call hB28 hb607
      exact ⟨rfl, hB610⟩
    ·
     rw [hc54] at h53
     have hp611 : ((d.en.length : Nat) : Int) > 20 := of_decide_eq_true hc54
     clear hc54
     refine psk h53 rfl fun a612 h612 => ?_; clear h53
     refine psk h612 rfl fun a613 h613 => ?_; clear h612
     refine psk h613 rfl fun a614 h614 => ?_; clear h613
     refine psk h614 rfl fun a615 h615 => ?_; clear h614
     refine pk0 (v := .bool true) h615 rfl fun a616 h616 => ?_; clear h615
     refine pk0 (v := .bool true) h616 rfl fun a617 h617 => ?_; clear h616
     refine psk h617 rfl fun a618 h618 => ?_; clear h617
     refine psk h618 rfl fun a619 h619 => ?_; clear h618
     refine psk h619 rfl fun a620 h620 => ?_; clear h619
     refine psk h620 rfl fun a621 h621 => ?_; clear h620
     refine psk h621 rfl fun a622 h622 => ?_; clear h621
     refine pk0 (v := .bool true) h622 rfl fun a623 h623 => ?_; clear h622
     refine pk0 (v := .bool true) h623 rfl fun a624 h624 => ?_; clear h623
     refine psk h624 rfl fun a625 h625 => ?_; clear h624
     refine psk h625 rfl fun a626 h626 => ?_; clear h625
     refine psk h626 rfl fun a627 h627 => ?_; clear h626
     refine psk h627 rfl fun a628 h628 => ?_; clear h627
     refine psk h628 rfl fun a629 h629 => ?_; clear h628
     refine pk0 (v := .bool true) h629 rfl fun a630 h630 => ?_; clear h629
     refine pl_nil ?_
     refine co_then ?_
     refine co_true h630 rfl ?_
     refine co_seq ?_
     refine co_reg ?_
     refine pw h630 rfl (op_call (args := #[]) (R := fun res xw => res = .bool true ∧ Below w20.heap.size w20 xw) rfl rfl rfl (by kernel_rfl) (by kernel_rfl) (Try.call25 _ _) (awake32 w20) (by rintro e x ⟨rfl, h⟩; exact ⟨_, rfl, rfl, h⟩)) ?_; clear h630
     rintro _ w632 a631 ⟨rfl, hb633⟩ h631
     have hz634 := hb633.size
     refine pk0 (v := .bool true) h631 rfl fun a635 h635 => ?_; clear h631
     refine pl_nil ?_
     refine co_then ?_
     refine wp_ret ?_
     refine co_thenR ?_
     refine co_ret1 h635 rfl rfl ?_
     have hB636 := hb_call hB28 hb633
     exact ⟨rfl, hB636⟩
   ·
    rw [hc46] at h45
    have hp637 : d.p < (-1000000) := of_decide_eq_true hc46
    clear hc46
    refine psk h45 rfl fun a638 h638 => ?_; clear h45
    refine psk h638 rfl fun a639 h639 => ?_; clear h638
    refine psk h639 rfl fun a640 h640 => ?_; clear h639
    refine psk h640 rfl fun a641 h641 => ?_; clear h640
    refine pk0 (v := .bool true) h641 rfl fun a642 h642 => ?_; clear h641
    refine pk0 (v := .bool true) h642 rfl fun a643 h643 => ?_; clear h642
    refine psk h643 rfl fun a644 h644 => ?_; clear h643
    refine psk h644 rfl fun a645 h645 => ?_; clear h644
    refine psk h645 rfl fun a646 h646 => ?_; clear h645
    refine psk h646 rfl fun a647 h647 => ?_; clear h646
    refine pk0 (v := .bool true) h647 rfl fun a648 h648 => ?_; clear h647
    refine pk0 (v := .bool true) h648 rfl fun a649 h649 => ?_; clear h648
    refine psk h649 rfl fun a650 h650 => ?_; clear h649
    refine psk h650 rfl fun a651 h651 => ?_; clear h650
    refine psk h651 rfl fun a652 h652 => ?_; clear h651
    refine psk h652 rfl fun a653 h653 => ?_; clear h652
    refine psk h653 rfl fun a654 h654 => ?_; clear h653
    refine pk0 (v := .bool true) h654 rfl fun a655 h655 => ?_; clear h654
    refine pk0 (v := .bool true) h655 rfl fun a656 h656 => ?_; clear h655
    refine psk h656 rfl fun a657 h657 => ?_; clear h656
    refine psk h657 rfl fun a658 h658 => ?_; clear h657
    refine psk h658 rfl fun a659 h659 => ?_; clear h658
    refine psk h659 rfl fun a660 h660 => ?_; clear h659
    refine psk h660 rfl fun a661 h661 => ?_; clear h660
    refine pk0 (v := .bool true) h661 rfl fun a662 h662 => ?_; clear h661
    refine pl_nil ?_
    refine co_then ?_
    refine co_true h662 rfl ?_
    refine co_seq ?_
    refine co_reg ?_
    refine pw h662 rfl (op_call (args := #[]) (R := fun res xw => res = .bool true ∧ Below w20.heap.size w20 xw) rfl rfl rfl (by kernel_rfl) (by kernel_rfl) (Try.call25 _ _) (awake32 w20) (by rintro e x ⟨rfl, h⟩; exact ⟨_, rfl, rfl, h⟩)) ?_; clear h662
    rintro _ w664 a663 ⟨rfl, hb665⟩ h663
    have hz666 := hb665.size
    refine pk0 (v := .bool true) h663 rfl fun a667 h667 => ?_; clear h663
    refine pl_nil ?_
    refine co_then ?_
    refine wp_ret ?_
    refine co_thenR ?_
    refine co_ret1 h667 rfl rfl ?_
    have hB668 := hb_call hB28 hb665
    exact ⟨rfl, hB668⟩
  ·
   rw [hc39] at h38
   have hp669 : ((d.st.length : Nat) : Int) > 40 := of_decide_eq_true hc39
   clear hc39
   refine psk h38 rfl fun a670 h670 => ?_; clear h38
   refine psk h670 rfl fun a671 h671 => ?_; clear h670
   refine psk h671 rfl fun a672 h672 => ?_; clear h671
   refine pk0 (v := .bool true) h672 rfl fun a673 h673 => ?_; clear h672
   refine pk0 (v := .bool true) h673 rfl fun a674 h674 => ?_; clear h673
   refine psk h674 rfl fun a675 h675 => ?_; clear h674
   refine psk h675 rfl fun a676 h676 => ?_; clear h675
   refine psk h676 rfl fun a677 h677 => ?_; clear h676
   refine psk h677 rfl fun a678 h678 => ?_; clear h677
   refine pk0 (v := .bool true) h678 rfl fun a679 h679 => ?_; clear h678
   refine pk0 (v := .bool true) h679 rfl fun a680 h680 => ?_; clear h679
   refine psk h680 rfl fun a681 h681 => ?_; clear h680
   refine psk h681 rfl fun a682 h682 => ?_; clear h681
   refine psk h682 rfl fun a683 h683 => ?_; clear h682
   refine psk h683 rfl fun a684 h684 => ?_; clear h683
   refine pk0 (v := .bool true) h684 rfl fun a685 h685 => ?_; clear h684
   refine pk0 (v := .bool true) h685 rfl fun a686 h686 => ?_; clear h685
   refine psk h686 rfl fun a687 h687 => ?_; clear h686
   refine psk h687 rfl fun a688 h688 => ?_; clear h687
   refine psk h688 rfl fun a689 h689 => ?_; clear h688
   refine psk h689 rfl fun a690 h690 => ?_; clear h689
   refine psk h690 rfl fun a691 h691 => ?_; clear h690
   refine pk0 (v := .bool true) h691 rfl fun a692 h692 => ?_; clear h691
   refine pk0 (v := .bool true) h692 rfl fun a693 h693 => ?_; clear h692
   refine psk h693 rfl fun a694 h694 => ?_; clear h693
   refine psk h694 rfl fun a695 h695 => ?_; clear h694
   refine psk h695 rfl fun a696 h696 => ?_; clear h695
   refine psk h696 rfl fun a697 h697 => ?_; clear h696
   refine psk h697 rfl fun a698 h698 => ?_; clear h697
   refine pk0 (v := .bool true) h698 rfl fun a699 h699 => ?_; clear h698
   refine pl_nil ?_
   refine co_then ?_
   refine co_true h699 rfl ?_
   refine co_seq ?_
   refine co_reg ?_
   refine pw h699 rfl (op_call (args := #[]) (R := fun res xw => res = .bool true ∧ Below w20.heap.size w20 xw) rfl rfl rfl (by kernel_rfl) (by kernel_rfl) (Try.call25 _ _) (awake32 w20) (by rintro e x ⟨rfl, h⟩; exact ⟨_, rfl, rfl, h⟩)) ?_; clear h699
   rintro _ w701 a700 ⟨rfl, hb702⟩ h700
   have hz703 := hb702.size
   refine pk0 (v := .bool true) h700 rfl fun a704 h704 => ?_; clear h700
   refine pl_nil ?_
   refine co_then ?_
   refine wp_ret ?_
   refine co_thenR ?_
   refine co_ret1 h704 rfl rfl ?_
   have hB705 := hb_call hB28 hb702
   exact ⟨rfl, hB705⟩
 ·
  rw [hc27] at h26
  have hp706 : muchN l > 80 := of_decide_eq_true hc27
  clear hc27
  refine psk h26 rfl fun a707 h707 => ?_; clear h26
  refine psk h707 rfl fun a708 h708 => ?_; clear h707
  refine psk h708 rfl fun a709 h709 => ?_; clear h708
  refine psk h709 rfl fun a710 h710 => ?_; clear h709
  refine pk0 (v := .bool true) h710 rfl fun a711 h711 => ?_; clear h710
  refine pk0 (v := .bool true) h711 rfl fun a712 h712 => ?_; clear h711
  refine psk h712 rfl fun a713 h713 => ?_; clear h712
  refine psk h713 rfl fun a714 h714 => ?_; clear h713
  refine psk h714 rfl fun a715 h715 => ?_; clear h714
  refine pk0 (v := .bool true) h715 rfl fun a716 h716 => ?_; clear h715
  refine pk0 (v := .bool true) h716 rfl fun a717 h717 => ?_; clear h716
  refine psk h717 rfl fun a718 h718 => ?_; clear h717
  refine psk h718 rfl fun a719 h719 => ?_; clear h718
  refine psk h719 rfl fun a720 h720 => ?_; clear h719
  refine psk h720 rfl fun a721 h721 => ?_; clear h720
  refine pk0 (v := .bool true) h721 rfl fun a722 h722 => ?_; clear h721
  refine pk0 (v := .bool true) h722 rfl fun a723 h723 => ?_; clear h722
  refine psk h723 rfl fun a724 h724 => ?_; clear h723
  refine psk h724 rfl fun a725 h725 => ?_; clear h724
  refine psk h725 rfl fun a726 h726 => ?_; clear h725
  refine psk h726 rfl fun a727 h727 => ?_; clear h726
  refine pk0 (v := .bool true) h727 rfl fun a728 h728 => ?_; clear h727
  refine pk0 (v := .bool true) h728 rfl fun a729 h729 => ?_; clear h728
  refine psk h729 rfl fun a730 h730 => ?_; clear h729
  refine psk h730 rfl fun a731 h731 => ?_; clear h730
  refine psk h731 rfl fun a732 h732 => ?_; clear h731
  refine psk h732 rfl fun a733 h733 => ?_; clear h732
  refine psk h733 rfl fun a734 h734 => ?_; clear h733
  refine pk0 (v := .bool true) h734 rfl fun a735 h735 => ?_; clear h734
  refine pk0 (v := .bool true) h735 rfl fun a736 h736 => ?_; clear h735
  refine psk h736 rfl fun a737 h737 => ?_; clear h736
  refine psk h737 rfl fun a738 h738 => ?_; clear h737
  refine psk h738 rfl fun a739 h739 => ?_; clear h738
  refine psk h739 rfl fun a740 h740 => ?_; clear h739
  refine psk h740 rfl fun a741 h741 => ?_; clear h740
  refine pk0 (v := .bool true) h741 rfl fun a742 h742 => ?_; clear h741
  refine pl_nil ?_
  refine co_then ?_
  refine co_true h742 rfl ?_
  refine co_seq ?_
  refine co_reg ?_
  refine pw h742 rfl (op_call (args := #[]) (R := fun res xw => res = .bool true ∧ Below w20.heap.size w20 xw) rfl rfl rfl (by kernel_rfl) (by kernel_rfl) (Try.call25 _ _) (awake32 w20) (by rintro e x ⟨rfl, h⟩; exact ⟨_, rfl, rfl, h⟩)) ?_; clear h742
  rintro _ w744 a743 ⟨rfl, hb745⟩ h743
  have hz746 := hb745.size
  refine pk0 (v := .bool true) h743 rfl fun a747 h747 => ?_; clear h743
  refine pl_nil ?_
  refine co_then ?_
  refine wp_ret ?_
  refine co_thenR ?_
  refine co_ret1 h747 rfl rfl ?_
  have hB748 := hb_call hB28 hb745
  exact ⟨rfl, hB748⟩

theorem relayPlays_law (v : Value) (l : List EntT) (n : T5c) (hz : Int) (y : MsgX) (tl : Bool) (w : World) (hs : SliceOf entE 4 w v l) (g : (∀ z ∈ l, EntOkS w z) ∧ l.length ≤ 2932031007403) (_ : True) (hhz : (Lit.int .u64 hz).wf = true) (hM : MsgOk w y) :
    Calls Try.prog 6 #[v, a5cV n, .int .u64 hz, msgV y, .bool tl] w fun e w' => e = .returned (.bool true) ∧ Below w.heap.size w w' :=
  relayPlays_any v l n hz y.d y.mv y.bv y.ev y.sv y.pv tl w hs g.1 g.2 hM.hm hM.hb hM.he hM.ht hM.hp hM (wf_u64 hhz)

end Go.Proofs.Ytlbemlodcdgakaa
