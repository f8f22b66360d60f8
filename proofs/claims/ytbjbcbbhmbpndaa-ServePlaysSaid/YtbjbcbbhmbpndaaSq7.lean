/- Put together: MeSSp, SrvNSp, SrvVSp, SrvOSp. Conditions: as each says. -/
import Derived.Test.YtbjbcbbhmbpndaaSq2
import Derived.Laws.StructEq
import Derived.Test.YtbjbcbbhmbpndaaSq6
import Derived.Test.YtbjbcbbhmbpndaaSq5
import Derived.OpenShut
/- The document's Same of two messages that read alike. Conditions: none. -/
namespace Go.Proofs.Ytbjbcbbhmbpndaa
open Go.RowKit Go.PlainAid
set_option linter.unusedVariables false
set_option linter.unusedSimpArgs false

set_option maxRecDepth 100000 in
theorem sameOpsM (v : Value) (l : List OpT) (v2 : Value) (w : World) (hs : SliceOf opE 3 w v l) (hs2 : SliceOf opE 3 w v2 l) :
    Calls Try.prog 87 #[v, v2] w fun e w' => e = .returned (.bool true) ∧ Below w.heap.size w w' := by
 have hB0 := Below.refl w.heap.size w
 have hl_hs := sl_len hs
 have hl_hs2 := sl_len hs2
 refine co_enter (n := 32) Try.func87 rfl rfl rfl [(0, v), (1, v2)] rfl (fun a h0 => ?_)
 refine co_seq ?_
 refine co_reg ?_
 refine pk0 (v := .bool false) h0 rfl fun a1 h1 => ?_; clear h0
 refine pl_nil ?_
 refine co_then ?_
 refine co_seq ?_
 refine co_seq ?_
 refine co_reg ?_
 refine pk0 (v := v) h1 rfl fun a2 h2 => ?_; clear h1
 refine pk (v := .int .i64 ((l.length : Nat) : Int)) h2 rfl (rn_len rfl rfl Try.underlying30 hs) fun a3 h3 => ?_; clear h2
 refine pk0 (v := v2) h3 rfl fun a4 h4 => ?_; clear h3
 refine pk (v := .int .i64 ((l.length : Nat) : Int)) h4 rfl (rn_len rfl rfl Try.underlying30 hs2) fun a5 h5 => ?_; clear h4
 refine pk0 (v := .bool (((l.length : Nat) : Int) != ((l.length : Nat) : Int))) h5 rfl fun a6 h6 => ?_; clear h5
 refine pl_nil ?_
 refine co_then ?_
 have hc7 : (((l.length : Nat) : Int) != ((l.length : Nat) : Int)) = false := by simp
 rw [hc7] at h6; clear hc7
 refine co_false h6 rfl ?_
 refine wp_skip ?_
 refine co_then ?_
 refine co_seq ?_
 refine co_seq ?_
 refine co_reg ?_
 refine pk0 (v := .int .i64 0) h6 rfl fun a8 h8 => ?_; clear h6
 refine pl_nil ?_
 refine co_then ?_
 refine wp_block ?_
 have h9 : Slots 32 [(0, v), (1, v2), (5, .int .i64 0)] _ := h8.sub ⟨rfl, rfl, rfl, trivial⟩; clear h8
 refine co_loop (fun mm a x => ∃ (i : Nat), Slots 32 [(0, v), (1, v2), (5, .int .i64 ((i : Nat) : Int))] a ∧ mm = l.length - i ∧ (i ≤ l.length) ∧ Below w.heap.size w x) (l.length - 0) ?_ ?_
 · exact ⟨0, h9.sub ⟨rfl, rfl, (slot_eq rfl (congrArg (Value.int .i64) (by first | rfl | omega))), trivial⟩, rfl, by omega, hB0⟩
 · rintro k10 a11 w12 ⟨i, h11, rfl, hi13, hB14⟩
   have hz15 := hB14.size
   refine co_seq ?_
   refine co_seq ?_
   refine co_reg ?_
   refine pk0 (v := .int .i64 ((i : Nat) : Int)) h11 rfl fun a16 h16 => ?_; clear h11
   refine pk0 (v := v) h16 rfl fun a17 h17 => ?_; clear h16
   refine pk (v := .int .i64 ((l.length : Nat) : Int)) h17 rfl (rn_len rfl rfl Try.underlying30 (hs.below hB14)) fun a18 h18 => ?_; clear h17
   refine pk0 (v := .bool (decide (((i : Nat) : Int) < ((l.length : Nat) : Int)))) h18 rfl fun a19 h19 => ?_; clear h18
   refine pk0 (v := .bool (decide (((i : Nat) : Int) < ((l.length : Nat) : Int)))) h19 rfl fun a20 h20 => ?_; clear h19
   cases hc21 : (decide (((i : Nat) : Int) < ((l.length : Nat) : Int)))
   ·
    rw [hc21] at h20
    have hp22 : ¬ (((i : Nat) : Int) < ((l.length : Nat) : Int)) := of_decide_eq_false hc21
    clear hc21
    refine psk h20 rfl fun a23 h23 => ?_; clear h20
    refine psk h23 rfl fun a24 h24 => ?_; clear h23
    refine psk h24 rfl fun a25 h25 => ?_; clear h24
    refine psk h25 rfl fun a26 h26 => ?_; clear h25
    refine pk0 (v := .bool false) h26 rfl fun a27 h27 => ?_; clear h26
    refine pl_nil ?_
    refine co_then ?_
    refine co_false h27 rfl ?_
    refine wp_exit ?_
    refine co_thenX ?_
    refine co_thenX ?_
    refine co_blockX ?_
    refine co_then ?_
    refine co_seq ?_
    refine co_reg ?_
    refine pk0 (v := .bool true) h27 rfl fun a28 h28 => ?_; clear h27
    refine pl_nil ?_
    refine co_then ?_
    refine wp_ret ?_
    refine co_ret1 h28 rfl rfl ?_
    exact ⟨rfl, hB14⟩
   ·
    rw [hc21] at h20
    have hp29 : ((i : Nat) : Int) < ((l.length : Nat) : Int) := of_decide_eq_true hc21
    clear hc21
    refine pk0 (v := .int .i64 ((i : Nat) : Int)) h20 rfl fun a30 h30 => ?_; clear h20
    refine pk0 (v := v2) h30 rfl fun a31 h31 => ?_; clear h30
    refine pk (v := .int .i64 ((l.length : Nat) : Int)) h31 rfl (rn_len rfl rfl Try.underlying30 (hs2.below hB14)) fun a32 h32 => ?_; clear h31
    refine pk0 (v := .bool (decide (((i : Nat) : Int) < ((l.length : Nat) : Int)))) h32 rfl fun a33 h33 => ?_; clear h32
    refine pk0 (v := .bool (decide (((i : Nat) : Int) < ((l.length : Nat) : Int)))) h33 rfl fun a34 h34 => ?_; clear h33
    refine pl_nil ?_
    refine co_then ?_
    have hc35 : (decide (((i : Nat) : Int) < ((l.length : Nat) : Int))) = true := decide_eq_true (by omega)
    rw [hc35] at h34; clear hc35
    refine co_true h34 rfl ?_
    refine wp_skip ?_
    refine co_then ?_
    refine co_seq ?_
    refine wp_block ?_
    refine co_seq ?_
    refine dr_eq (by kernel_rfl) (fun w36 hg37 => ?_)
    have hz38 := hg37.size
    refine dk0 0 (v := v) h34 rfl rfl rfl fun a39 h39 => ?_; clear h34
    refine dk0 1 (v := .int .i64 ((i : Nat) : Int)) h39 rfl rfl rfl fun a40 h40 => ?_; clear h39
    have hB42 := hb_new hB14 hg37
    obtain ⟨y41, hy41⟩ : ∃ z, l[i]? = some z := ⟨_, List.getElem?_eq_getElem (by first | omega | (simp; done) | (simp; omega))⟩
    refine dk 2 (v := pt (blkOf v) (offOf v + i * 3)) h40 rfl rfl rfl (fun x hx => by subst hx; exact (rn_index rfl rfl rfl Try.underlying30 Try.sizeOf90 (hs.below hB42) (by omega) (by first | omega | (simp; done) | (simp; omega)))) fun a43 h43 => ?_; clear h40
    refine dk 3 (v := .agg #[.string y41.1, .string y41.2.1, .bool y41.2.2]) h43 rfl rfl rfl (fun x hx => by subst hx; exact (rn_loadN rfl rfl Try.underlying90 rfl (by kernel_rfl) (sl_at (hs.below hB42) hy41))) fun a44 h44 => ?_; clear h43
    refine dk0 4 (v := v2) h44 rfl rfl rfl fun a45 h45 => ?_; clear h44
    refine dk0 5 (v := .int .i64 ((i : Nat) : Int)) h45 rfl rfl rfl fun a46 h46 => ?_; clear h45
    refine dk 6 (v := pt (blkOf v2) (offOf v2 + i * 3)) h46 rfl rfl rfl (fun x hx => by subst hx; exact (rn_index rfl rfl rfl Try.underlying30 Try.sizeOf90 (hs2.below hB42) (by omega) (by first | omega | (simp; done) | (simp; omega)))) fun a47 h47 => ?_; clear h46
    refine dk 7 (v := .agg #[.string y41.1, .string y41.2.1, .bool y41.2.2]) h47 rfl rfl rfl (fun x hx => by subst hx; exact (rn_loadN rfl rfl Try.underlying90 rfl (by kernel_rfl) (sl_at (hs2.below hB42) hy41))) fun a48 h48 => ?_; clear h47
    refine dk 8 (v := .bool (!(y41.1.toList == y41.1.toList && y41.2.1.toList == y41.2.1.toList && y41.2.2 == y41.2.2))) h48 rfl rfl rfl (fun x hx => by subst hx; exact (rn_neS rfl rfl rfl Try.eqGuardType90 (eq_op _ _ _ _ _ _ _))) fun a49 h49 => ?_; clear h48
    refine dr_done (by kernel_rfl) ?_
    refine co_then ?_
    have hc50 : (!(y41.1.toList == y41.1.toList && y41.2.1.toList == y41.2.1.toList && y41.2.2 == y41.2.2)) = false := by simp
    rw [hc50] at h49; clear hc50
    refine co_false h49 rfl ?_
    refine wp_skip ?_
    refine co_blockN ?_
    refine co_then ?_
    refine co_reg ?_
    refine pk0 (v := .int .i64 ((i : Nat) : Int)) h49 rfl fun a51 h51 => ?_; clear h49
    refine pk (v := .int .i64 ((i + 1 : Nat) : Int)) h51 rfl (rn_arith' rfl rfl rfl rfl rfl rfl (IntWalk.i64_in _ (by omega)) (by omega)) fun a52 h52 => ?_; clear h51
    refine pk0 (v := .int .i64 ((i + 1 : Nat) : Int)) h52 rfl fun a53 h53 => ?_; clear h52
    refine pl_nil ?_
    refine co_then ?_
    refine ⟨(l.length - (i + 1)), by omega, ?_⟩
    exact ⟨i + 1, h53.sub ⟨rfl, rfl, rfl, trivial⟩, rfl, by omega, hB42⟩
set_option maxRecDepth 100000 in
theorem sameBatM (c : Int) (r : Int) (v : Value) (l : List OpT) (v2 : Value) (w : World) (hs : SliceOf opE 3 w v l) (hs2 : SliceOf opE 3 w v2 l) :
    Calls Try.prog 49 #[.agg #[.int .i64 c, .int .i64 r, v], .agg #[.int .i64 c, .int .i64 r, v2]] w fun e w' => e = .returned (.bool true) ∧ Below w.heap.size w w' := by
 have hB0 := Below.refl w.heap.size w
 have hl_hs := sl_len hs
 have hl_hs2 := sl_len hs2
 refine co_enter (n := 24) Try.func49 rfl rfl rfl [(0, .agg #[.int .i64 c, .int .i64 r, v]), (1, .agg #[.int .i64 c, .int .i64 r, v2])] rfl (fun a h0 => ?_)
 refine co_seq ?_
 refine co_reg ?_
 refine pw h0 rfl (op_new (v := fun N => pt N 0) (T := 32) (cs := #[.int .i64 c, .int .i64 r, v]) (by kernel_rfl) (by kernel_rfl) (by kernel_rfl)) ?_; clear h0
 rintro _ w2 a1 ⟨N3, rfl, hN6, hz7, hk5, hg4⟩ h1
 have hz8 := hg4.size
 try dsimp only at h1
 refine pw h1 rfl (op_new (v := fun N => pt N 0) (T := 32) (cs := #[.int .i64 c, .int .i64 r, v2]) (by kernel_rfl) (by kernel_rfl) (by kernel_rfl)) ?_; clear h1
 rintro _ w10 a9 ⟨N11, rfl, hN14, hz15, hk13, hg12⟩ h9
 have hz16 := hg12.size
 try dsimp only at h9
 refine pk0 (v := .bool false) h9 rfl fun a17 h17 => ?_; clear h9
 refine pl_nil ?_
 refine co_then ?_
 refine co_seq ?_
 refine co_reg ?_
 refine pk0 (v := pt N3 0) h17 rfl fun a18 h18 => ?_; clear h17
 have hk19 := hk5.kept hg12 (by simp)
 refine pk (v := .int .i64 c) h18 rfl (rn_load1 rfl rfl Try.isAgg3 (hk19.cell rfl)) fun a20 h20 => ?_; clear h18
 refine pk0 (v := pt N11 0) h20 rfl fun a21 h21 => ?_; clear h20
 refine pk (v := .int .i64 c) h21 rfl (rn_load1 rfl rfl Try.isAgg3 (hk13.cell rfl)) fun a22 h22 => ?_; clear h21
 refine pk0 (v := .bool (c == c)) h22 rfl fun a23 h23 => ?_; clear h22
 refine pk0 (v := .bool (c == c)) h23 rfl fun a24 h24 => ?_; clear h23
 have hc25 : (c == c) = true := by first | (simp; done) | (simp; omega) | exact beq_false_of_ne (by omega) | exact beq_iff_eq.2 (by omega)
 rw [hc25] at h24; clear hc25
 refine pk0 (v := pt N3 1) h24 rfl fun a26 h26 => ?_; clear h24
 refine pk (v := .int .i64 r) h26 rfl (rn_load1 rfl rfl Try.isAgg3 (hk19.cell rfl)) fun a27 h27 => ?_; clear h26
 refine pk0 (v := pt N11 1) h27 rfl fun a28 h28 => ?_; clear h27
 refine pk (v := .int .i64 r) h28 rfl (rn_load1 rfl rfl Try.isAgg3 (hk13.cell rfl)) fun a29 h29 => ?_; clear h28
 refine pk0 (v := .bool (r == r)) h29 rfl fun a30 h30 => ?_; clear h29
 refine pk0 (v := .bool (r == r)) h30 rfl fun a31 h31 => ?_; clear h30
 refine pk0 (v := .bool (r == r)) h31 rfl fun a32 h32 => ?_; clear h31
 have hc33 : (r == r) = true := by first | (simp; done) | (simp; omega) | exact beq_false_of_ne (by omega) | exact beq_iff_eq.2 (by omega)
 rw [hc33] at h32; clear hc33
 refine pk0 (v := pt N3 2) h32 rfl fun a34 h34 => ?_; clear h32
 refine pk (v := v) h34 rfl (rn_load1 rfl rfl Try.isAgg30 (hk19.cell rfl)) fun a35 h35 => ?_; clear h34
 refine pk0 (v := pt N11 2) h35 rfl fun a36 h36 => ?_; clear h35
 refine pk (v := v2) h36 rfl (rn_load1 rfl rfl Try.isAgg30 (hk13.cell rfl)) fun a37 h37 => ?_; clear h36
 have hB40 := hb_new hB0 hg4
 have hB41 := hb_new hB40 hg12
 refine pw h37 rfl (op_call (args := #[v, v2]) (R := fun res xw => res = .bool true ∧ Below w10.heap.size w10 xw) rfl rfl rfl (by kernel_rfl) (by kernel_rfl) (Try.call87 _ _) (sameOpsM v l v2 w10 (hs.below hB41) (hs2.below hB41)) (by rintro e x ⟨rfl, hb42⟩; exact ⟨_, rfl, ⟨rfl, hb42⟩⟩)) ?_; clear h37
 rintro _ w39 a38 ⟨rfl, hb42⟩ h38
 have hz43 := hb42.size
 refine pk0 (v := .bool true) h38 rfl fun a44 h44 => ?_; clear h38
 refine pk0 (v := .bool true) h44 rfl fun a45 h45 => ?_; clear h44
 refine pl_nil ?_
 refine co_then ?_
 refine wp_ret ?_
 refine co_ret1 h45 rfl rfl ?_
 have hB46 := hb_call hB41 hb42
 exact ⟨rfl, hB46⟩
set_option maxRecDepth 100000 in
theorem sameEntM (c : Int) (r : Int) (v : Value) (l : List OpT) (ts : Int) (v2 : Value) (w : World) (hs : SliceOf opE 3 w v l) (hs2 : SliceOf opE 3 w v2 l) :
    Calls Try.prog 80 #[.agg #[.int .i64 c, .int .i64 r, v, .int .u64 ts], .agg #[.int .i64 c, .int .i64 r, v2, .int .u64 ts]] w fun e w' => e = .returned (.bool true) ∧ Below w.heap.size w w' := by
 have hB0 := Below.refl w.heap.size w
 have hl_hs := sl_len hs
 have hl_hs2 := sl_len hs2
 refine co_enter (n := 17) Try.func80 rfl rfl rfl [(0, .agg #[.int .i64 c, .int .i64 r, v, .int .u64 ts]), (1, .agg #[.int .i64 c, .int .i64 r, v2, .int .u64 ts])] rfl (fun a h0 => ?_)
 refine co_seq ?_
 refine co_reg ?_
 refine pw h0 rfl (op_new (v := fun N => pt N 0) (T := 154) (cs := #[.int .i64 c, .int .i64 r, v, .int .u64 ts]) (by kernel_rfl) (by kernel_rfl) (by kernel_rfl)) ?_; clear h0
 rintro _ w2 a1 ⟨N3, rfl, hN6, hz7, hk5, hg4⟩ h1
 have hz8 := hg4.size
 try dsimp only at h1
 refine pw h1 rfl (op_new (v := fun N => pt N 0) (T := 154) (cs := #[.int .i64 c, .int .i64 r, v2, .int .u64 ts]) (by kernel_rfl) (by kernel_rfl) (by kernel_rfl)) ?_; clear h1
 rintro _ w10 a9 ⟨N11, rfl, hN14, hz15, hk13, hg12⟩ h9
 have hz16 := hg12.size
 try dsimp only at h9
 refine pk0 (v := .bool false) h9 rfl fun a17 h17 => ?_; clear h9
 refine pl_nil ?_
 refine co_then ?_
 refine co_seq ?_
 refine co_reg ?_
 refine pk0 (v := pt N3 3) h17 rfl fun a18 h18 => ?_; clear h17
 have hk19 := hk5.kept hg12 (by simp)
 refine pk (v := .int .u64 ts) h18 rfl (rn_load1 rfl rfl Try.isAgg23 (hk19.cell rfl)) fun a20 h20 => ?_; clear h18
 refine pk0 (v := pt N11 3) h20 rfl fun a21 h21 => ?_; clear h20
 refine pk (v := .int .u64 ts) h21 rfl (rn_load1 rfl rfl Try.isAgg23 (hk13.cell rfl)) fun a22 h22 => ?_; clear h21
 refine pk0 (v := .bool (ts == ts)) h22 rfl fun a23 h23 => ?_; clear h22
 refine pk0 (v := .bool (ts == ts)) h23 rfl fun a24 h24 => ?_; clear h23
 have hc25 : (ts == ts) = true := by first | (simp; done) | (simp; omega) | exact beq_false_of_ne (by omega) | exact beq_iff_eq.2 (by omega)
 rw [hc25] at h24; clear hc25
 refine pk0 (v := pt N3 0) h24 rfl fun a26 h26 => ?_; clear h24
 refine pk (v := .agg #[.int .i64 c, .int .i64 r, v]) h26 rfl (rn_loadN rfl rfl Try.underlying32 rfl (by kernel_rfl) (blk_part hk19 0 (by rfl))) fun a27 h27 => ?_; clear h26
 refine pk0 (v := pt N11 0) h27 rfl fun a28 h28 => ?_; clear h27
 refine pk (v := .agg #[.int .i64 c, .int .i64 r, v2]) h28 rfl (rn_loadN rfl rfl Try.underlying32 rfl (by kernel_rfl) (blk_part hk13 0 (by rfl))) fun a29 h29 => ?_; clear h28
 have hB32 := hb_new hB0 hg4
 have hB33 := hb_new hB32 hg12
 refine pw h29 rfl (op_call (args := #[.agg #[.int .i64 c, .int .i64 r, v], .agg #[.int .i64 c, .int .i64 r, v2]]) (R := fun res xw => res = .bool true ∧ Below w10.heap.size w10 xw) rfl rfl rfl (by kernel_rfl) (by kernel_rfl) (Try.call49 _ _) (sameBatM c r v l v2 w10 (hs.below hB33) (hs2.below hB33)) (by rintro e x ⟨rfl, hb34⟩; exact ⟨_, rfl, ⟨rfl, hb34⟩⟩)) ?_; clear h29
 rintro _ w31 a30 ⟨rfl, hb34⟩ h30
 have hz35 := hb34.size
 refine pk0 (v := .bool true) h30 rfl fun a36 h36 => ?_; clear h30
 refine pk0 (v := .bool true) h36 rfl fun a37 h37 => ?_; clear h36
 refine pl_nil ?_
 refine co_then ?_
 refine wp_ret ?_
 refine co_ret1 h37 rfl rfl ?_
 have hB38 := hb_call hB33 hb34
 exact ⟨rfl, hB38⟩

theorem sameEntX (c r : Int) (v : Value) (l : List OpT) (ts c2 r2 : Int) (v2 : Value) (l2 : List OpT) (ts2 : Int) (w : World) (hs : SliceOf opE 3 w v l) (hs2 : SliceOf opE 3 w v2 l2) (heq : c = c2 ∧ r = r2 ∧ l = l2 ∧ ts = ts2) :
    Calls Try.prog 80 #[.agg #[.int .i64 c, .int .i64 r, v, .int .u64 ts], .agg #[.int .i64 c2, .int .i64 r2, v2, .int .u64 ts2]] w fun e w' => e = .returned (.bool true) ∧ Below w.heap.size w w' := by
  obtain ⟨rfl, rfl, rfl, rfl⟩ := heq
  exact sameEntM c r v l ts v2 w hs hs2
/-- Two lists of entries that read alike. -/
def EqEn (l l2 : List EntT) : Prop := l.length = l2.length ∧ ∀ (i : Nat) (y z : EntT), l[i]? = some y → l2[i]? = some z → y.client = z.client ∧ y.req = z.req ∧ y.opl = z.opl ∧ y.ts = z.ts
theorem EqEn.nil : EqEn [] [] := ⟨rfl, fun i y z h => by simp at h⟩
theorem eq_prE (a b d e : ByteArray) (w : World) : (binOp .eql 88 (.agg #[.string a, .string b]) (.agg #[.string d, .string e])).run Try.prog w = .ok (.bool (a.toList == d.toList && b.toList == e.toList)) w := by
  have u := Try.underlying9
  have hS : Try.prog.underlying 88 = some (.struct (Try.prog.fieldsOf 88)) := by kernel_rfl
  have hp : Try.prog.stoodInHeld 88 = false := by kernel_rfl
  rw [run_eql_struct, show (10000 : Nat) = 9999 + 1 from rfl, run_equalIn_agg w 9999 88 _ _ hS hp]
  simp only [Program.fieldsOf, Try.underlying88]
  go_simp
  by_cases h1 : a.toList = d.toList <;> by_cases h2 : b.toList = e.toList <;> simp [h1, h2]

set_option maxRecDepth 100000 in
theorem sameAllM (v : Value) (l : List EntT) (v2 : Value) (l2 : List EntT) (w : World) (hs : SliceOf entE 4 w v l) (hok : ∀ z ∈ l, EntOk w z) (hs2 : SliceOf entE 4 w v2 l2) (hok2 : ∀ z ∈ l2, EntOk w z) (heq : EqEn l l2) :
    Calls Try.prog 42 #[v, v2] w fun e w' => e = .returned (.bool true) ∧ Below w.heap.size w w' := by
 have hll := heq.1
 have hB0 := Below.refl w.heap.size w
 have hl_hs := sl_len hs
 have hl_hs2 := sl_len hs2
 refine co_enter (n := 33) Try.func42 rfl rfl rfl [(0, v), (1, v2)] rfl (fun a h0 => ?_)
 refine co_seq ?_
 refine co_reg ?_
 refine pk0 (v := .bool false) h0 rfl fun a1 h1 => ?_; clear h0
 refine pl_nil ?_
 refine co_then ?_
 refine co_seq ?_
 refine co_seq ?_
 refine co_reg ?_
 refine pk0 (v := v) h1 rfl fun a2 h2 => ?_; clear h1
 refine pk (v := .int .i64 ((l.length : Nat) : Int)) h2 rfl (rn_len rfl rfl Try.underlying33 hs) fun a3 h3 => ?_; clear h2
 refine pk0 (v := v2) h3 rfl fun a4 h4 => ?_; clear h3
 refine pk (v := .int .i64 ((l2.length : Nat) : Int)) h4 rfl (rn_len rfl rfl Try.underlying33 hs2) fun a5 h5 => ?_; clear h4
 refine pk0 (v := .bool (((l.length : Nat) : Int) != ((l2.length : Nat) : Int))) h5 rfl fun a6 h6 => ?_; clear h5
 refine pl_nil ?_
 refine co_then ?_
 have hc7 : (((l.length : Nat) : Int) != ((l2.length : Nat) : Int)) = false := by first | (simp; done) | (simp; omega) | exact beq_false_of_ne (by omega) | exact beq_iff_eq.2 (by omega)
 rw [hc7] at h6; clear hc7
 refine co_false h6 rfl ?_
 refine wp_skip ?_
 refine co_then ?_
 refine co_seq ?_
 refine co_seq ?_
 refine co_reg ?_
 refine pk0 (v := .int .i64 0) h6 rfl fun a8 h8 => ?_; clear h6
 refine pl_nil ?_
 refine co_then ?_
 refine wp_block ?_
 have h9 : Slots 33 [(0, v), (1, v2), (5, .int .i64 0)] _ := h8.sub ⟨rfl, rfl, rfl, trivial⟩; clear h8
 refine co_loop (fun mm a x => ∃ (i : Nat), Slots 33 [(0, v), (1, v2), (5, .int .i64 ((i : Nat) : Int))] a ∧ mm = l.length - i ∧ (i ≤ l.length) ∧ Below w.heap.size w x) (l.length - 0) ?_ ?_
 · exact ⟨0, h9.sub ⟨rfl, rfl, (slot_eq rfl (congrArg (Value.int .i64) (by first | rfl | omega))), trivial⟩, rfl, by omega, hB0⟩
 · rintro k10 a11 w12 ⟨i, h11, rfl, hi13, hB14⟩
   have hz15 := hB14.size
   refine co_seq ?_
   refine co_seq ?_
   refine co_reg ?_
   refine pk0 (v := .int .i64 ((i : Nat) : Int)) h11 rfl fun a16 h16 => ?_; clear h11
   refine pk0 (v := v) h16 rfl fun a17 h17 => ?_; clear h16
   refine pk (v := .int .i64 ((l.length : Nat) : Int)) h17 rfl (rn_len rfl rfl Try.underlying33 (hs.below hB14)) fun a18 h18 => ?_; clear h17
   refine pk0 (v := .bool (decide (((i : Nat) : Int) < ((l.length : Nat) : Int)))) h18 rfl fun a19 h19 => ?_; clear h18
   refine pk0 (v := .bool (decide (((i : Nat) : Int) < ((l.length : Nat) : Int)))) h19 rfl fun a20 h20 => ?_; clear h19
   cases hc21 : (decide (((i : Nat) : Int) < ((l.length : Nat) : Int)))
   ·
    rw [hc21] at h20
    have hp22 : ¬ (((i : Nat) : Int) < ((l.length : Nat) : Int)) := of_decide_eq_false hc21
    clear hc21
    refine psk h20 rfl fun a23 h23 => ?_; clear h20
    refine psk h23 rfl fun a24 h24 => ?_; clear h23
    refine psk h24 rfl fun a25 h25 => ?_; clear h24
    refine psk h25 rfl fun a26 h26 => ?_; clear h25
    refine pk0 (v := .bool false) h26 rfl fun a27 h27 => ?_; clear h26
    refine pl_nil ?_
    refine co_then ?_
    refine co_false h27 rfl ?_
    refine wp_exit ?_
    refine co_thenX ?_
    refine co_thenX ?_
    refine co_blockX ?_
    refine co_then ?_
    refine co_seq ?_
    refine co_reg ?_
    refine pk0 (v := .bool true) h27 rfl fun a28 h28 => ?_; clear h27
    refine pl_nil ?_
    refine co_then ?_
    refine wp_ret ?_
    refine co_ret1 h28 rfl rfl ?_
    exact ⟨rfl, hB14⟩
   ·
    rw [hc21] at h20
    have hp29 : ((i : Nat) : Int) < ((l.length : Nat) : Int) := of_decide_eq_true hc21
    clear hc21
    refine pk0 (v := .int .i64 ((i : Nat) : Int)) h20 rfl fun a30 h30 => ?_; clear h20
    refine pk0 (v := v2) h30 rfl fun a31 h31 => ?_; clear h30
    refine pk (v := .int .i64 ((l2.length : Nat) : Int)) h31 rfl (rn_len rfl rfl Try.underlying33 (hs2.below hB14)) fun a32 h32 => ?_; clear h31
    refine pk0 (v := .bool (decide (((i : Nat) : Int) < ((l2.length : Nat) : Int)))) h32 rfl fun a33 h33 => ?_; clear h32
    refine pk0 (v := .bool (decide (((i : Nat) : Int) < ((l2.length : Nat) : Int)))) h33 rfl fun a34 h34 => ?_; clear h33
    refine pl_nil ?_
    refine co_then ?_
    have hc35 : (decide (((i : Nat) : Int) < ((l2.length : Nat) : Int))) = true := decide_eq_true (by omega)
    rw [hc35] at h34; clear hc35
    refine co_true h34 rfl ?_
    refine wp_skip ?_
    refine co_then ?_
    refine co_seq ?_
    refine wp_block ?_
    refine co_seq ?_
    refine dr_gen (fun x => Below w.heap.size w x) (by kernel_rfl) (fun w36 hg37 => ?_) (fun w36 hg37 => ?_)
    ·
     have hz38 := hg37.size
     have hB39 := hb_new hB14 hg37
     exact hB39
    have hz40 := hg37.size
    have hB41 := hb_new hB14 hg37
    refine dk0 0 (v := v) h34 rfl rfl hB41 fun a42 h42 => ?_; clear h34
    refine dk0 1 (v := .int .i64 ((i : Nat) : Int)) h42 rfl rfl hB41 fun a43 h43 => ?_; clear h42
    obtain ⟨y44, hy44⟩ : ∃ z, l[i]? = some z := ⟨_, List.getElem?_eq_getElem (by first | omega | (simp; done) | (simp; omega))⟩
    have oky44 := hok _ (List.mem_of_getElem? hy44)
    have k45 : 0 ≤ y44.ts := oky44.ts0
    have k46 : y44.ts < 18446744073709551616 := oky44.ts1
    refine dk 2 (v := pt (blkOf v) (offOf v + i * 4)) h43 rfl rfl hB41 (fun x hx => (rn_index rfl rfl rfl Try.underlying33 Try.sizeOf154 (hs.below hx) (by omega) (by first | omega | (simp; done) | (simp; omega)))) fun a47 h47 => ?_; clear h43
    refine dk 3 (v := .agg #[.int .i64 y44.client, .int .i64 y44.req, y44.ops, .int .u64 y44.ts]) h47 rfl rfl hB41 (fun x hx => (rn_loadN rfl rfl Try.underlying154 rfl (by kernel_rfl) (sl_at (hs.below hx) hy44))) fun a48 h48 => ?_; clear h47
    refine dk0 4 (v := v2) h48 rfl rfl hB41 fun a49 h49 => ?_; clear h48
    refine dk0 5 (v := .int .i64 ((i : Nat) : Int)) h49 rfl rfl hB41 fun a50 h50 => ?_; clear h49
    obtain ⟨y51, hy51⟩ : ∃ z, l2[i]? = some z := ⟨_, List.getElem?_eq_getElem (by first | omega | (simp; done) | (simp; omega))⟩
    have oky51 := hok2 _ (List.mem_of_getElem? hy51)
    have k52 : 0 ≤ y51.ts := oky51.ts0
    have k53 : y51.ts < 18446744073709551616 := oky51.ts1
    refine dk 6 (v := pt (blkOf v2) (offOf v2 + i * 4)) h50 rfl rfl hB41 (fun x hx => (rn_index rfl rfl rfl Try.underlying33 Try.sizeOf154 (hs2.below hx) (by omega) (by first | omega | (simp; done) | (simp; omega)))) fun a54 h54 => ?_; clear h50
    refine dk 7 (v := .agg #[.int .i64 y51.client, .int .i64 y51.req, y51.ops, .int .u64 y51.ts]) h54 rfl rfl hB41 (fun x hx => (rn_loadN rfl rfl Try.underlying154 rfl (by kernel_rfl) (sl_at (hs2.below hx) hy51))) fun a55 h55 => ?_; clear h54
    refine d1 8 h55 rfl rfl (op_call (args := #[.agg #[.int .i64 y44.client, .int .i64 y44.req, y44.ops, .int .u64 y44.ts], .agg #[.int .i64 y51.client, .int .i64 y51.req, y51.ops, .int .u64 y51.ts]]) (R := fun res xw => res = .bool true ∧ Below w36.heap.size w36 xw) rfl rfl rfl (by kernel_rfl) (by kernel_rfl) (Try.call80 _ _) (sameEntX y44.client y44.req y44.ops y44.opl y44.ts y51.client y51.req y51.ops y51.opl y51.ts w36 (oky44.ops.below hB41) (oky51.ops.below hB41) (heq.2 i _ _ hy44 hy51)) (by rintro e x ⟨rfl, hb58⟩; exact ⟨_, rfl, ⟨rfl, hb58⟩⟩)) ?_ ?_; clear h55
    ·
     rintro _ w57 ⟨rfl, hb58⟩
     have hz59 := hb58.size
     have hB60 := hb_call hB41 hb58
     exact hB60
    rintro _ w57 a56 ⟨rfl, hb58⟩ h56
    have hz59 := hb58.size
    have hB60 := hb_call hB41 hb58
    refine dk0 9 (v := .bool false) h56 rfl rfl hB60 fun a61 h61 => ?_; clear h56
    refine dr_done (by kernel_rfl) ?_
    refine co_then ?_
    refine co_false h61 rfl ?_
    refine wp_skip ?_
    refine co_blockN ?_
    refine co_then ?_
    refine co_reg ?_
    refine pk0 (v := .int .i64 ((i : Nat) : Int)) h61 rfl fun a62 h62 => ?_; clear h61
    refine pk (v := .int .i64 ((i + 1 : Nat) : Int)) h62 rfl (rn_arith' rfl rfl rfl rfl rfl rfl (IntWalk.i64_in _ (by omega)) (by omega)) fun a63 h63 => ?_; clear h62
    refine pk0 (v := .int .i64 ((i + 1 : Nat) : Int)) h63 rfl fun a64 h64 => ?_; clear h63
    refine pl_nil ?_
    refine co_then ?_
    refine ⟨(l.length - (i + 1)), by omega, ?_⟩
    exact ⟨i + 1, h64.sub ⟨rfl, rfl, rfl, trivial⟩, rfl, by omega, hB60⟩
set_option maxRecDepth 100000 in
theorem sameStM (v : Value) (l : List Int) (v2 : Value) (w : World) (hs : SliceOf (intE .u64) 1 w v l) (hs2 : SliceOf (intE .u64) 1 w v2 l) :
    Calls Try.prog 50 #[v, v2] w fun e w' => e = .returned (.bool true) ∧ Below w.heap.size w w' := by
 have hB0 := Below.refl w.heap.size w
 have hl_hs := sl_len hs
 have hl_hs2 := sl_len hs2
 refine co_enter (n := 32) Try.func50 rfl rfl rfl [(0, v), (1, v2)] rfl (fun a h0 => ?_)
 refine co_seq ?_
 refine co_reg ?_
 refine pk0 (v := .bool false) h0 rfl fun a1 h1 => ?_; clear h0
 refine pl_nil ?_
 refine co_then ?_
 refine co_seq ?_
 refine co_seq ?_
 refine co_reg ?_
 refine pk0 (v := v) h1 rfl fun a2 h2 => ?_; clear h1
 refine pk (v := .int .i64 ((l.length : Nat) : Int)) h2 rfl (rn_len rfl rfl Try.underlying34 hs) fun a3 h3 => ?_; clear h2
 refine pk0 (v := v2) h3 rfl fun a4 h4 => ?_; clear h3
 refine pk (v := .int .i64 ((l.length : Nat) : Int)) h4 rfl (rn_len rfl rfl Try.underlying34 hs2) fun a5 h5 => ?_; clear h4
 refine pk0 (v := .bool (((l.length : Nat) : Int) != ((l.length : Nat) : Int))) h5 rfl fun a6 h6 => ?_; clear h5
 refine pl_nil ?_
 refine co_then ?_
 have hc7 : (((l.length : Nat) : Int) != ((l.length : Nat) : Int)) = false := by simp
 rw [hc7] at h6; clear hc7
 refine co_false h6 rfl ?_
 refine wp_skip ?_
 refine co_then ?_
 refine co_seq ?_
 refine co_seq ?_
 refine co_reg ?_
 refine pk0 (v := .int .i64 0) h6 rfl fun a8 h8 => ?_; clear h6
 refine pl_nil ?_
 refine co_then ?_
 refine wp_block ?_
 have h9 : Slots 32 [(0, v), (1, v2), (5, .int .i64 0)] _ := h8.sub ⟨rfl, rfl, rfl, trivial⟩; clear h8
 refine co_loop (fun mm a x => ∃ (i : Nat), Slots 32 [(0, v), (1, v2), (5, .int .i64 ((i : Nat) : Int))] a ∧ mm = l.length - i ∧ (i ≤ l.length) ∧ Below w.heap.size w x) (l.length - 0) ?_ ?_
 · exact ⟨0, h9.sub ⟨rfl, rfl, (slot_eq rfl (congrArg (Value.int .i64) (by first | rfl | omega))), trivial⟩, rfl, by omega, hB0⟩
 · rintro k10 a11 w12 ⟨i, h11, rfl, hi13, hB14⟩
   have hz15 := hB14.size
   refine co_seq ?_
   refine co_seq ?_
   refine co_reg ?_
   refine pk0 (v := .int .i64 ((i : Nat) : Int)) h11 rfl fun a16 h16 => ?_; clear h11
   refine pk0 (v := v) h16 rfl fun a17 h17 => ?_; clear h16
   refine pk (v := .int .i64 ((l.length : Nat) : Int)) h17 rfl (rn_len rfl rfl Try.underlying34 (hs.below hB14)) fun a18 h18 => ?_; clear h17
   refine pk0 (v := .bool (decide (((i : Nat) : Int) < ((l.length : Nat) : Int)))) h18 rfl fun a19 h19 => ?_; clear h18
   refine pk0 (v := .bool (decide (((i : Nat) : Int) < ((l.length : Nat) : Int)))) h19 rfl fun a20 h20 => ?_; clear h19
   cases hc21 : (decide (((i : Nat) : Int) < ((l.length : Nat) : Int)))
   ·
    rw [hc21] at h20
    have hp22 : ¬ (((i : Nat) : Int) < ((l.length : Nat) : Int)) := of_decide_eq_false hc21
    clear hc21
    refine psk h20 rfl fun a23 h23 => ?_; clear h20
    refine psk h23 rfl fun a24 h24 => ?_; clear h23
    refine psk h24 rfl fun a25 h25 => ?_; clear h24
    refine psk h25 rfl fun a26 h26 => ?_; clear h25
    refine pk0 (v := .bool false) h26 rfl fun a27 h27 => ?_; clear h26
    refine pl_nil ?_
    refine co_then ?_
    refine co_false h27 rfl ?_
    refine wp_exit ?_
    refine co_thenX ?_
    refine co_thenX ?_
    refine co_blockX ?_
    refine co_then ?_
    refine co_seq ?_
    refine co_reg ?_
    refine pk0 (v := .bool true) h27 rfl fun a28 h28 => ?_; clear h27
    refine pl_nil ?_
    refine co_then ?_
    refine wp_ret ?_
    refine co_ret1 h28 rfl rfl ?_
    exact ⟨rfl, hB14⟩
   ·
    rw [hc21] at h20
    have hp29 : ((i : Nat) : Int) < ((l.length : Nat) : Int) := of_decide_eq_true hc21
    clear hc21
    refine pk0 (v := .int .i64 ((i : Nat) : Int)) h20 rfl fun a30 h30 => ?_; clear h20
    refine pk0 (v := v2) h30 rfl fun a31 h31 => ?_; clear h30
    refine pk (v := .int .i64 ((l.length : Nat) : Int)) h31 rfl (rn_len rfl rfl Try.underlying34 (hs2.below hB14)) fun a32 h32 => ?_; clear h31
    refine pk0 (v := .bool (decide (((i : Nat) : Int) < ((l.length : Nat) : Int)))) h32 rfl fun a33 h33 => ?_; clear h32
    refine pk0 (v := .bool (decide (((i : Nat) : Int) < ((l.length : Nat) : Int)))) h33 rfl fun a34 h34 => ?_; clear h33
    refine pl_nil ?_
    refine co_then ?_
    have hc35 : (decide (((i : Nat) : Int) < ((l.length : Nat) : Int))) = true := decide_eq_true (by omega)
    rw [hc35] at h34; clear hc35
    refine co_true h34 rfl ?_
    refine wp_skip ?_
    refine co_then ?_
    refine co_seq ?_
    refine wp_block ?_
    refine co_seq ?_
    refine dr_eq (by kernel_rfl) (fun w36 hg37 => ?_)
    have hz38 := hg37.size
    refine dk0 0 (v := v) h34 rfl rfl rfl fun a39 h39 => ?_; clear h34
    refine dk0 1 (v := .int .i64 ((i : Nat) : Int)) h39 rfl rfl rfl fun a40 h40 => ?_; clear h39
    have hB42 := hb_new hB14 hg37
    obtain ⟨y41, hy41⟩ : ∃ z, l[i]? = some z := ⟨_, List.getElem?_eq_getElem (by first | omega | (simp; done) | (simp; omega))⟩
    refine dk 2 (v := pt (blkOf v) (offOf v + i * 1)) h40 rfl rfl rfl (fun x hx => by subst hx; exact (rn_index rfl rfl rfl Try.underlying34 Try.sizeOf23 (hs.below hB42) (by omega) (by first | omega | (simp; done) | (simp; omega)))) fun a43 h43 => ?_; clear h40
    refine dk 3 (v := .int .u64 y41) h43 rfl rfl rfl (fun x hx => by subst hx; exact (rn_load1 rfl rfl Try.isAgg23 ((sl_at (hs.below hB42) hy41) 0 _ rfl))) fun a44 h44 => ?_; clear h43
    refine dk0 4 (v := v2) h44 rfl rfl rfl fun a45 h45 => ?_; clear h44
    refine dk0 5 (v := .int .i64 ((i : Nat) : Int)) h45 rfl rfl rfl fun a46 h46 => ?_; clear h45
    refine dk 6 (v := pt (blkOf v2) (offOf v2 + i * 1)) h46 rfl rfl rfl (fun x hx => by subst hx; exact (rn_index rfl rfl rfl Try.underlying34 Try.sizeOf23 (hs2.below hB42) (by omega) (by first | omega | (simp; done) | (simp; omega)))) fun a47 h47 => ?_; clear h46
    refine dk 7 (v := .int .u64 y41) h47 rfl rfl rfl (fun x hx => by subst hx; exact (rn_load1 rfl rfl Try.isAgg23 ((sl_at (hs2.below hB42) hy41) 0 _ rfl))) fun a48 h48 => ?_; clear h47
    refine dk0 8 (v := .bool (y41 != y41)) h48 rfl rfl rfl fun a49 h49 => ?_; clear h48
    refine dr_done (by kernel_rfl) ?_
    refine co_then ?_
    have hc50 : (y41 != y41) = false := by simp
    rw [hc50] at h49; clear hc50
    refine co_false h49 rfl ?_
    refine wp_skip ?_
    refine co_blockN ?_
    refine co_then ?_
    refine co_reg ?_
    refine pk0 (v := .int .i64 ((i : Nat) : Int)) h49 rfl fun a51 h51 => ?_; clear h49
    refine pk (v := .int .i64 ((i + 1 : Nat) : Int)) h51 rfl (rn_arith' rfl rfl rfl rfl rfl rfl (IntWalk.i64_in _ (by omega)) (by omega)) fun a52 h52 => ?_; clear h51
    refine pk0 (v := .int .i64 ((i + 1 : Nat) : Int)) h52 rfl fun a53 h53 => ?_; clear h52
    refine pl_nil ?_
    refine co_then ?_
    refine ⟨(l.length - (i + 1)), by omega, ?_⟩
    exact ⟨i + 1, h53.sub ⟨rfl, rfl, rfl, trivial⟩, rfl, by omega, hB42⟩
set_option maxRecDepth 100000 in
theorem samePrM (v : Value) (l : List PrT) (v2 : Value) (w : World) (hs : SliceOf prE 2 w v l) (hs2 : SliceOf prE 2 w v2 l) :
    Calls Try.prog 25 #[v, v2] w fun e w' => e = .returned (.bool true) ∧ Below w.heap.size w w' := by
 have hB0 := Below.refl w.heap.size w
 have hl_hs := sl_len hs
 have hl_hs2 := sl_len hs2
 refine co_enter (n := 32) Try.func25 rfl rfl rfl [(0, v), (1, v2)] rfl (fun a h0 => ?_)
 refine co_seq ?_
 refine co_reg ?_
 refine pk0 (v := .bool false) h0 rfl fun a1 h1 => ?_; clear h0
 refine pl_nil ?_
 refine co_then ?_
 refine co_seq ?_
 refine co_seq ?_
 refine co_reg ?_
 refine pk0 (v := v) h1 rfl fun a2 h2 => ?_; clear h1
 refine pk (v := .int .i64 ((l.length : Nat) : Int)) h2 rfl (rn_len rfl rfl Try.underlying35 hs) fun a3 h3 => ?_; clear h2
 refine pk0 (v := v2) h3 rfl fun a4 h4 => ?_; clear h3
 refine pk (v := .int .i64 ((l.length : Nat) : Int)) h4 rfl (rn_len rfl rfl Try.underlying35 hs2) fun a5 h5 => ?_; clear h4
 refine pk0 (v := .bool (((l.length : Nat) : Int) != ((l.length : Nat) : Int))) h5 rfl fun a6 h6 => ?_; clear h5
 refine pl_nil ?_
 refine co_then ?_
 have hc7 : (((l.length : Nat) : Int) != ((l.length : Nat) : Int)) = false := by simp
 rw [hc7] at h6; clear hc7
 refine co_false h6 rfl ?_
 refine wp_skip ?_
 refine co_then ?_
 refine co_seq ?_
 refine co_seq ?_
 refine co_reg ?_
 refine pk0 (v := .int .i64 0) h6 rfl fun a8 h8 => ?_; clear h6
 refine pl_nil ?_
 refine co_then ?_
 refine wp_block ?_
 have h9 : Slots 32 [(0, v), (1, v2), (5, .int .i64 0)] _ := h8.sub ⟨rfl, rfl, rfl, trivial⟩; clear h8
 refine co_loop (fun mm a x => ∃ (i : Nat), Slots 32 [(0, v), (1, v2), (5, .int .i64 ((i : Nat) : Int))] a ∧ mm = l.length - i ∧ (i ≤ l.length) ∧ Below w.heap.size w x) (l.length - 0) ?_ ?_
 · exact ⟨0, h9.sub ⟨rfl, rfl, (slot_eq rfl (congrArg (Value.int .i64) (by first | rfl | omega))), trivial⟩, rfl, by omega, hB0⟩
 · rintro k10 a11 w12 ⟨i, h11, rfl, hi13, hB14⟩
   have hz15 := hB14.size
   refine co_seq ?_
   refine co_seq ?_
   refine co_reg ?_
   refine pk0 (v := .int .i64 ((i : Nat) : Int)) h11 rfl fun a16 h16 => ?_; clear h11
   refine pk0 (v := v) h16 rfl fun a17 h17 => ?_; clear h16
   refine pk (v := .int .i64 ((l.length : Nat) : Int)) h17 rfl (rn_len rfl rfl Try.underlying35 (hs.below hB14)) fun a18 h18 => ?_; clear h17
   refine pk0 (v := .bool (decide (((i : Nat) : Int) < ((l.length : Nat) : Int)))) h18 rfl fun a19 h19 => ?_; clear h18
   refine pk0 (v := .bool (decide (((i : Nat) : Int) < ((l.length : Nat) : Int)))) h19 rfl fun a20 h20 => ?_; clear h19
   cases hc21 : (decide (((i : Nat) : Int) < ((l.length : Nat) : Int)))
   ·
    rw [hc21] at h20
    have hp22 : ¬ (((i : Nat) : Int) < ((l.length : Nat) : Int)) := of_decide_eq_false hc21
    clear hc21
    refine psk h20 rfl fun a23 h23 => ?_; clear h20
    refine psk h23 rfl fun a24 h24 => ?_; clear h23
    refine psk h24 rfl fun a25 h25 => ?_; clear h24
    refine psk h25 rfl fun a26 h26 => ?_; clear h25
    refine pk0 (v := .bool false) h26 rfl fun a27 h27 => ?_; clear h26
    refine pl_nil ?_
    refine co_then ?_
    refine co_false h27 rfl ?_
    refine wp_exit ?_
    refine co_thenX ?_
    refine co_thenX ?_
    refine co_blockX ?_
    refine co_then ?_
    refine co_seq ?_
    refine co_reg ?_
    refine pk0 (v := .bool true) h27 rfl fun a28 h28 => ?_; clear h27
    refine pl_nil ?_
    refine co_then ?_
    refine wp_ret ?_
    refine co_ret1 h28 rfl rfl ?_
    exact ⟨rfl, hB14⟩
   ·
    rw [hc21] at h20
    have hp29 : ((i : Nat) : Int) < ((l.length : Nat) : Int) := of_decide_eq_true hc21
    clear hc21
    refine pk0 (v := .int .i64 ((i : Nat) : Int)) h20 rfl fun a30 h30 => ?_; clear h20
    refine pk0 (v := v2) h30 rfl fun a31 h31 => ?_; clear h30
    refine pk (v := .int .i64 ((l.length : Nat) : Int)) h31 rfl (rn_len rfl rfl Try.underlying35 (hs2.below hB14)) fun a32 h32 => ?_; clear h31
    refine pk0 (v := .bool (decide (((i : Nat) : Int) < ((l.length : Nat) : Int)))) h32 rfl fun a33 h33 => ?_; clear h32
    refine pk0 (v := .bool (decide (((i : Nat) : Int) < ((l.length : Nat) : Int)))) h33 rfl fun a34 h34 => ?_; clear h33
    refine pl_nil ?_
    refine co_then ?_
    have hc35 : (decide (((i : Nat) : Int) < ((l.length : Nat) : Int))) = true := decide_eq_true (by omega)
    rw [hc35] at h34; clear hc35
    refine co_true h34 rfl ?_
    refine wp_skip ?_
    refine co_then ?_
    refine co_seq ?_
    refine wp_block ?_
    refine co_seq ?_
    refine dr_eq (by kernel_rfl) (fun w36 hg37 => ?_)
    have hz38 := hg37.size
    refine dk0 0 (v := v) h34 rfl rfl rfl fun a39 h39 => ?_; clear h34
    refine dk0 1 (v := .int .i64 ((i : Nat) : Int)) h39 rfl rfl rfl fun a40 h40 => ?_; clear h39
    have hB42 := hb_new hB14 hg37
    obtain ⟨y41, hy41⟩ : ∃ z, l[i]? = some z := ⟨_, List.getElem?_eq_getElem (by first | omega | (simp; done) | (simp; omega))⟩
    refine dk 2 (v := pt (blkOf v) (offOf v + i * 2)) h40 rfl rfl rfl (fun x hx => by subst hx; exact (rn_index rfl rfl rfl Try.underlying35 Try.sizeOf88 (hs.below hB42) (by omega) (by first | omega | (simp; done) | (simp; omega)))) fun a43 h43 => ?_; clear h40
    refine dk 3 (v := .agg #[.string y41.1, .string y41.2]) h43 rfl rfl rfl (fun x hx => by subst hx; exact (rn_loadN rfl rfl Try.underlying88 rfl (by kernel_rfl) (sl_at (hs.below hB42) hy41))) fun a44 h44 => ?_; clear h43
    refine dk0 4 (v := v2) h44 rfl rfl rfl fun a45 h45 => ?_; clear h44
    refine dk0 5 (v := .int .i64 ((i : Nat) : Int)) h45 rfl rfl rfl fun a46 h46 => ?_; clear h45
    refine dk 6 (v := pt (blkOf v2) (offOf v2 + i * 2)) h46 rfl rfl rfl (fun x hx => by subst hx; exact (rn_index rfl rfl rfl Try.underlying35 Try.sizeOf88 (hs2.below hB42) (by omega) (by first | omega | (simp; done) | (simp; omega)))) fun a47 h47 => ?_; clear h46
    refine dk 7 (v := .agg #[.string y41.1, .string y41.2]) h47 rfl rfl rfl (fun x hx => by subst hx; exact (rn_loadN rfl rfl Try.underlying88 rfl (by kernel_rfl) (sl_at (hs2.below hB42) hy41))) fun a48 h48 => ?_; clear h47
    refine dk 8 (v := .bool (!(y41.1.toList == y41.1.toList && y41.2.toList == y41.2.toList))) h48 rfl rfl rfl (fun x hx => by subst hx; exact (rn_neS rfl rfl rfl Try.eqGuardType88 (eq_prE _ _ _ _ _))) fun a49 h49 => ?_; clear h48
    refine dr_done (by kernel_rfl) ?_
    refine co_then ?_
    have hc50 : (!(y41.1.toList == y41.1.toList && y41.2.toList == y41.2.toList)) = false := by simp
    rw [hc50] at h49; clear hc50
    refine co_false h49 rfl ?_
    refine wp_skip ?_
    refine co_blockN ?_
    refine co_then ?_
    refine co_reg ?_
    refine pk0 (v := .int .i64 ((i : Nat) : Int)) h49 rfl fun a51 h51 => ?_; clear h49
    refine pk (v := .int .i64 ((i + 1 : Nat) : Int)) h51 rfl (rn_arith' rfl rfl rfl rfl rfl rfl (IntWalk.i64_in _ (by omega)) (by omega)) fun a52 h52 => ?_; clear h51
    refine pk0 (v := .int .i64 ((i + 1 : Nat) : Int)) h52 rfl fun a53 h53 => ?_; clear h52
    refine pl_nil ?_
    refine co_then ?_
    refine ⟨(l.length - (i + 1)), by omega, ?_⟩
    exact ⟨i + 1, h53.sub ⟨rfl, rfl, rfl, trivial⟩, rfl, by omega, hB42⟩
set_option maxRecDepth 100000 in
set_option maxHeartbeats 1600000 in
theorem sameMsgM (d : MsgD) (mv : Value) (bv : Value) (ev : Value) (sv : Value) (pv : Value) (mv2 : Value) (bv2 : Value) (ev2 : Value) (en2 : List EntT) (sv2 : Value) (pv2 : Value) (w : World) (hm : SliceOf memE 2 w mv d.cms) (hb : SliceOf opE 3 w bv d.bl) (he : SliceOf entE 4 w ev d.en) (ht : SliceOf (intE .u64) 1 w sv d.st) (hp : SliceOf prE 2 w pv d.pr) (hok : ∀ z ∈ d.en, EntOk w z) (hR : MsgR d) (hm2 : SliceOf memE 2 w mv2 d.cms) (hb2 : SliceOf opE 3 w bv2 d.bl) (he2 : SliceOf entE 4 w ev2 en2) (ht2 : SliceOf (intE .u64) 1 w sv2 d.st) (hp2 : SliceOf prE 2 w pv2 d.pr) (hok2 : ∀ z ∈ en2, EntOk w z) (heq : EqEn d.en en2) :
    Calls Try.prog 15 #[.agg #[.int .i64 d.k, .int .i64 d.ep, .int .i64 d.rq, .int .i64 d.sr, .bool d.fg, .int .u64 d.at_, .int .u64 d.la, .int .i64 d.n, .int .i64 d.m, .int .i64 d.p, .int .i64 d.e, .string d.key, .string d.to_, .int .i64 d.cep, mv, .int .u64 d.cfl, .int .i64 d.bc, .int .i64 d.br, bv, ev, sv, pv], .agg #[.int .i64 d.k, .int .i64 d.ep, .int .i64 d.rq, .int .i64 d.sr, .bool d.fg, .int .u64 d.at_, .int .u64 d.la, .int .i64 d.n, .int .i64 d.m, .int .i64 d.p, .int .i64 d.e, .string d.key, .string d.to_, .int .i64 d.cep, mv2, .int .u64 d.cfl, .int .i64 d.bc, .int .i64 d.br, bv2, ev2, sv2, pv2]] w fun e w' => e = .returned (.bool true) ∧ Below w.heap.size w w' := by
 have hrng := hR.rng
 have hB0 := Below.refl w.heap.size w
 have hl_hm := sl_len hm
 have hl_hb := sl_len hb
 have hl_he := sl_len he
 have hl_ht := sl_len ht
 have hl_hp := sl_len hp
 have hl_hm2 := sl_len hm2
 have hl_hb2 := sl_len hb2
 have hl_he2 := sl_len he2
 have hl_ht2 := sl_len ht2
 have hl_hp2 := sl_len hp2
 refine co_enter (n := 129) Try.func15 rfl rfl rfl [(0, .agg #[.int .i64 d.k, .int .i64 d.ep, .int .i64 d.rq, .int .i64 d.sr, .bool d.fg, .int .u64 d.at_, .int .u64 d.la, .int .i64 d.n, .int .i64 d.m, .int .i64 d.p, .int .i64 d.e, .string d.key, .string d.to_, .int .i64 d.cep, mv, .int .u64 d.cfl, .int .i64 d.bc, .int .i64 d.br, bv, ev, sv, pv]), (1, .agg #[.int .i64 d.k, .int .i64 d.ep, .int .i64 d.rq, .int .i64 d.sr, .bool d.fg, .int .u64 d.at_, .int .u64 d.la, .int .i64 d.n, .int .i64 d.m, .int .i64 d.p, .int .i64 d.e, .string d.key, .string d.to_, .int .i64 d.cep, mv2, .int .u64 d.cfl, .int .i64 d.bc, .int .i64 d.br, bv2, ev2, sv2, pv2])] rfl (fun a h0 => ?_)
 refine co_seq ?_
 refine co_reg ?_
 refine pw h0 rfl (op_new (v := fun N => pt N 0) (T := 37) (cs := #[.int .i64 d.k, .int .i64 d.ep, .int .i64 d.rq, .int .i64 d.sr, .bool d.fg, .int .u64 d.at_, .int .u64 d.la, .int .i64 d.n, .int .i64 d.m, .int .i64 d.p, .int .i64 d.e, .string d.key, .string d.to_, .int .i64 d.cep, mv, .int .u64 d.cfl, .int .i64 d.bc, .int .i64 d.br, bv, ev, sv, pv]) (by kernel_rfl) (by kernel_rfl) (by kernel_rfl)) ?_; clear h0
 rintro _ w2 a1 ⟨N3, rfl, hN6, hz7, hk5, hg4⟩ h1
 have hz8 := hg4.size
 try dsimp only at h1
 refine pw h1 rfl (op_new (v := fun N => pt N 0) (T := 37) (cs := #[.int .i64 d.k, .int .i64 d.ep, .int .i64 d.rq, .int .i64 d.sr, .bool d.fg, .int .u64 d.at_, .int .u64 d.la, .int .i64 d.n, .int .i64 d.m, .int .i64 d.p, .int .i64 d.e, .string d.key, .string d.to_, .int .i64 d.cep, mv2, .int .u64 d.cfl, .int .i64 d.bc, .int .i64 d.br, bv2, ev2, sv2, pv2]) (by kernel_rfl) (by kernel_rfl) (by kernel_rfl)) ?_; clear h1
 rintro _ w10 a9 ⟨N11, rfl, hN14, hz15, hk13, hg12⟩ h9
 have hz16 := hg12.size
 try dsimp only at h9
 refine pk0 (v := .bool false) h9 rfl fun a17 h17 => ?_; clear h9
 refine pl_nil ?_
 refine co_then ?_
 refine co_seq ?_
 refine co_reg ?_
 simp only [List.append_eq, List.cons_append, List.nil_append]
 refine pk0 (v := pt N3 0) h17 rfl fun a18 h18 => ?_; clear h17
 have hk19 := hk5.kept hg12 (by simp)
 refine pk (v := .int .i64 d.k) h18 rfl (rn_load1 rfl rfl Try.isAgg3 (hk19.cell rfl)) fun a20 h20 => ?_; clear h18
 refine pk0 (v := pt N11 0) h20 rfl fun a21 h21 => ?_; clear h20
 refine pk (v := .int .i64 d.k) h21 rfl (rn_load1 rfl rfl Try.isAgg3 (hk13.cell rfl)) fun a22 h22 => ?_; clear h21
 refine pk0 (v := .bool (d.k == d.k)) h22 rfl fun a23 h23 => ?_; clear h22
 refine pk0 (v := .bool (d.k == d.k)) h23 rfl fun a24 h24 => ?_; clear h23
 have hc25 : (d.k == d.k) = true := by simp
 rw [hc25] at h24; clear hc25
 refine pk0 (v := pt N3 1) h24 rfl fun a26 h26 => ?_; clear h24
 refine pk (v := .int .i64 d.ep) h26 rfl (rn_load1 rfl rfl Try.isAgg3 (hk19.cell rfl)) fun a27 h27 => ?_; clear h26
 refine pk0 (v := pt N11 1) h27 rfl fun a28 h28 => ?_; clear h27
 refine pk (v := .int .i64 d.ep) h28 rfl (rn_load1 rfl rfl Try.isAgg3 (hk13.cell rfl)) fun a29 h29 => ?_; clear h28
 refine pk0 (v := .bool (d.ep == d.ep)) h29 rfl fun a30 h30 => ?_; clear h29
 refine pk0 (v := .bool (d.ep == d.ep)) h30 rfl fun a31 h31 => ?_; clear h30
 refine pk0 (v := .bool (d.ep == d.ep)) h31 rfl fun a32 h32 => ?_; clear h31
 have hc33 : (d.ep == d.ep) = true := by simp
 rw [hc33] at h32; clear hc33
 refine pk0 (v := pt N3 2) h32 rfl fun a34 h34 => ?_; clear h32
 refine pk (v := .int .i64 d.rq) h34 rfl (rn_load1 rfl rfl Try.isAgg3 (hk19.cell rfl)) fun a35 h35 => ?_; clear h34
 refine pk0 (v := pt N11 2) h35 rfl fun a36 h36 => ?_; clear h35
 refine pk (v := .int .i64 d.rq) h36 rfl (rn_load1 rfl rfl Try.isAgg3 (hk13.cell rfl)) fun a37 h37 => ?_; clear h36
 refine pk0 (v := .bool (d.rq == d.rq)) h37 rfl fun a38 h38 => ?_; clear h37
 refine pk0 (v := .bool (d.rq == d.rq)) h38 rfl fun a39 h39 => ?_; clear h38
 refine pk0 (v := .bool (d.rq == d.rq)) h39 rfl fun a40 h40 => ?_; clear h39
 have hc41 : (d.rq == d.rq) = true := by simp
 rw [hc41] at h40; clear hc41
 refine pk0 (v := pt N3 3) h40 rfl fun a42 h42 => ?_; clear h40
 refine pk (v := .int .i64 d.sr) h42 rfl (rn_load1 rfl rfl Try.isAgg3 (hk19.cell rfl)) fun a43 h43 => ?_; clear h42
 refine pk0 (v := pt N11 3) h43 rfl fun a44 h44 => ?_; clear h43
 refine pk (v := .int .i64 d.sr) h44 rfl (rn_load1 rfl rfl Try.isAgg3 (hk13.cell rfl)) fun a45 h45 => ?_; clear h44
 refine pk0 (v := .bool (d.sr == d.sr)) h45 rfl fun a46 h46 => ?_; clear h45
 refine pk0 (v := .bool (d.sr == d.sr)) h46 rfl fun a47 h47 => ?_; clear h46
 refine pk0 (v := .bool (d.sr == d.sr)) h47 rfl fun a48 h48 => ?_; clear h47
 have hc49 : (d.sr == d.sr) = true := by simp
 rw [hc49] at h48; clear hc49
 refine pk0 (v := pt N3 4) h48 rfl fun a50 h50 => ?_; clear h48
 refine pk (v := .bool d.fg) h50 rfl (rn_load1 rfl rfl Try.isAgg4 (hk19.cell rfl)) fun a51 h51 => ?_; clear h50
 refine pk0 (v := pt N11 4) h51 rfl fun a52 h52 => ?_; clear h51
 refine pk (v := .bool d.fg) h52 rfl (rn_load1 rfl rfl Try.isAgg4 (hk13.cell rfl)) fun a53 h53 => ?_; clear h52
 refine pk0 (v := .bool (d.fg == d.fg)) h53 rfl fun a54 h54 => ?_; clear h53
 refine pk0 (v := .bool (d.fg == d.fg)) h54 rfl fun a55 h55 => ?_; clear h54
 refine pk0 (v := .bool (d.fg == d.fg)) h55 rfl fun a56 h56 => ?_; clear h55
 have hc57 : (d.fg == d.fg) = true := by simp
 rw [hc57] at h56; clear hc57
 refine pk0 (v := pt N3 5) h56 rfl fun a58 h58 => ?_; clear h56
 refine pk (v := .int .u64 d.at_) h58 rfl (rn_load1 rfl rfl Try.isAgg23 (hk19.cell rfl)) fun a59 h59 => ?_; clear h58
 refine pk0 (v := pt N11 5) h59 rfl fun a60 h60 => ?_; clear h59
 refine pk (v := .int .u64 d.at_) h60 rfl (rn_load1 rfl rfl Try.isAgg23 (hk13.cell rfl)) fun a61 h61 => ?_; clear h60
 refine pk0 (v := .bool (d.at_ == d.at_)) h61 rfl fun a62 h62 => ?_; clear h61
 refine pk0 (v := .bool (d.at_ == d.at_)) h62 rfl fun a63 h63 => ?_; clear h62
 refine pk0 (v := .bool (d.at_ == d.at_)) h63 rfl fun a64 h64 => ?_; clear h63
 have hc65 : (d.at_ == d.at_) = true := by simp
 rw [hc65] at h64; clear hc65
 refine pk0 (v := pt N3 6) h64 rfl fun a66 h66 => ?_; clear h64
 refine pk (v := .int .u64 d.la) h66 rfl (rn_load1 rfl rfl Try.isAgg23 (hk19.cell rfl)) fun a67 h67 => ?_; clear h66
 refine pk0 (v := pt N11 6) h67 rfl fun a68 h68 => ?_; clear h67
 refine pk (v := .int .u64 d.la) h68 rfl (rn_load1 rfl rfl Try.isAgg23 (hk13.cell rfl)) fun a69 h69 => ?_; clear h68
 refine pk0 (v := .bool (d.la == d.la)) h69 rfl fun a70 h70 => ?_; clear h69
 refine pk0 (v := .bool (d.la == d.la)) h70 rfl fun a71 h71 => ?_; clear h70
 refine pk0 (v := .bool (d.la == d.la)) h71 rfl fun a72 h72 => ?_; clear h71
 have hc73 : (d.la == d.la) = true := by simp
 rw [hc73] at h72; clear hc73
 refine pk0 (v := pt N3 7) h72 rfl fun a74 h74 => ?_; clear h72
 refine pk (v := .int .i64 d.n) h74 rfl (rn_load1 rfl rfl Try.isAgg3 (hk19.cell rfl)) fun a75 h75 => ?_; clear h74
 refine pk0 (v := pt N11 7) h75 rfl fun a76 h76 => ?_; clear h75
 refine pk (v := .int .i64 d.n) h76 rfl (rn_load1 rfl rfl Try.isAgg3 (hk13.cell rfl)) fun a77 h77 => ?_; clear h76
 refine pk0 (v := .bool (d.n == d.n)) h77 rfl fun a78 h78 => ?_; clear h77
 refine pk0 (v := .bool (d.n == d.n)) h78 rfl fun a79 h79 => ?_; clear h78
 refine pk0 (v := .bool (d.n == d.n)) h79 rfl fun a80 h80 => ?_; clear h79
 have hc81 : (d.n == d.n) = true := by simp
 rw [hc81] at h80; clear hc81
 refine pk0 (v := pt N3 8) h80 rfl fun a82 h82 => ?_; clear h80
 refine pk (v := .int .i64 d.m) h82 rfl (rn_load1 rfl rfl Try.isAgg3 (hk19.cell rfl)) fun a83 h83 => ?_; clear h82
 refine pk0 (v := pt N11 8) h83 rfl fun a84 h84 => ?_; clear h83
 refine pk (v := .int .i64 d.m) h84 rfl (rn_load1 rfl rfl Try.isAgg3 (hk13.cell rfl)) fun a85 h85 => ?_; clear h84
 refine pk0 (v := .bool (d.m == d.m)) h85 rfl fun a86 h86 => ?_; clear h85
 refine pk0 (v := .bool (d.m == d.m)) h86 rfl fun a87 h87 => ?_; clear h86
 refine pk0 (v := .bool (d.m == d.m)) h87 rfl fun a88 h88 => ?_; clear h87
 have hc89 : (d.m == d.m) = true := by simp
 rw [hc89] at h88; clear hc89
 refine pk0 (v := pt N3 9) h88 rfl fun a90 h90 => ?_; clear h88
 refine pk (v := .int .i64 d.p) h90 rfl (rn_load1 rfl rfl Try.isAgg3 (hk19.cell rfl)) fun a91 h91 => ?_; clear h90
 refine pk0 (v := pt N11 9) h91 rfl fun a92 h92 => ?_; clear h91
 refine pk (v := .int .i64 d.p) h92 rfl (rn_load1 rfl rfl Try.isAgg3 (hk13.cell rfl)) fun a93 h93 => ?_; clear h92
 refine pk0 (v := .bool (d.p == d.p)) h93 rfl fun a94 h94 => ?_; clear h93
 refine pk0 (v := .bool (d.p == d.p)) h94 rfl fun a95 h95 => ?_; clear h94
 refine pk0 (v := .bool (d.p == d.p)) h95 rfl fun a96 h96 => ?_; clear h95
 have hc97 : (d.p == d.p) = true := by simp
 rw [hc97] at h96; clear hc97
 refine pk0 (v := pt N3 10) h96 rfl fun a98 h98 => ?_; clear h96
 refine pk (v := .int .i64 d.e) h98 rfl (rn_load1 rfl rfl Try.isAgg26 (hk19.cell rfl)) fun a99 h99 => ?_; clear h98
 refine pk0 (v := pt N11 10) h99 rfl fun a100 h100 => ?_; clear h99
 refine pk (v := .int .i64 d.e) h100 rfl (rn_load1 rfl rfl Try.isAgg26 (hk13.cell rfl)) fun a101 h101 => ?_; clear h100
 refine pk0 (v := .bool (d.e == d.e)) h101 rfl fun a102 h102 => ?_; clear h101
 refine pk0 (v := .bool (d.e == d.e)) h102 rfl fun a103 h103 => ?_; clear h102
 refine pk0 (v := .bool (d.e == d.e)) h103 rfl fun a104 h104 => ?_; clear h103
 have hc105 : (d.e == d.e) = true := by simp
 rw [hc105] at h104; clear hc105
 refine pk0 (v := pt N3 11) h104 rfl fun a106 h106 => ?_; clear h104
 refine pk (v := .string d.key) h106 rfl (rn_load1 rfl rfl Try.isAgg9 (hk19.cell rfl)) fun a107 h107 => ?_; clear h106
 refine pk0 (v := pt N11 11) h107 rfl fun a108 h108 => ?_; clear h107
 refine pk (v := .string d.key) h108 rfl (rn_load1 rfl rfl Try.isAgg9 (hk13.cell rfl)) fun a109 h109 => ?_; clear h108
 refine pk0 (v := .bool (d.key.toList == d.key.toList)) h109 rfl fun a110 h110 => ?_; clear h109
 refine pk0 (v := .bool (d.key.toList == d.key.toList)) h110 rfl fun a111 h111 => ?_; clear h110
 refine pk0 (v := .bool (d.key.toList == d.key.toList)) h111 rfl fun a112 h112 => ?_; clear h111
 have hc113 : (d.key.toList == d.key.toList) = true := by simp
 rw [hc113] at h112; clear hc113
 refine pk0 (v := pt N3 12) h112 rfl fun a114 h114 => ?_; clear h112
 refine pk (v := .string d.to_) h114 rfl (rn_load1 rfl rfl Try.isAgg9 (hk19.cell rfl)) fun a115 h115 => ?_; clear h114
 refine pk0 (v := pt N11 12) h115 rfl fun a116 h116 => ?_; clear h115
 refine pk (v := .string d.to_) h116 rfl (rn_load1 rfl rfl Try.isAgg9 (hk13.cell rfl)) fun a117 h117 => ?_; clear h116
 refine pk0 (v := .bool (d.to_.toList == d.to_.toList)) h117 rfl fun a118 h118 => ?_; clear h117
 refine pk0 (v := .bool (d.to_.toList == d.to_.toList)) h118 rfl fun a119 h119 => ?_; clear h118
 refine pk0 (v := .bool (d.to_.toList == d.to_.toList)) h119 rfl fun a120 h120 => ?_; clear h119
 have hc121 : (d.to_.toList == d.to_.toList) = true := by simp
 rw [hc121] at h120; clear hc121
 refine pk0 (v := pt N3 13) h120 rfl fun a122 h122 => ?_; clear h120
 refine pk (v := .agg #[.int .i64 d.cep, mv, .int .u64 d.cfl]) h122 rfl (rn_loadN rfl rfl Try.underlying29 rfl (by kernel_rfl) (blk_part hk19 13 (by rfl))) fun a123 h123 => ?_; clear h122
 refine pk0 (v := pt N11 13) h123 rfl fun a124 h124 => ?_; clear h123
 refine pk (v := .agg #[.int .i64 d.cep, mv2, .int .u64 d.cfl]) h124 rfl (rn_loadN rfl rfl Try.underlying29 rfl (by kernel_rfl) (blk_part hk13 13 (by rfl))) fun a125 h125 => ?_; clear h124
 have hB128 := hb_new hB0 hg4
 have hB129 := hb_new hB128 hg12
 refine pw h125 rfl (op_call (args := #[.agg #[.int .i64 d.cep, mv, .int .u64 d.cfl], .agg #[.int .i64 d.cep, mv2, .int .u64 d.cfl]]) (R := fun res xw => res = .bool (sameCf d.cep d.cms d.cfl d.cep d.cms d.cfl) ∧ Below w10.heap.size w10 xw) rfl rfl rfl (by kernel_rfl) (by kernel_rfl) (Try.call48 _ _) (wrsame_any d.cep mv d.cms d.cfl d.cep mv2 d.cms d.cfl w10 (hm.below hB129) hR.mem (by omega) (by omega) (hm2.below hB129) hR.mem (by omega) (by omega)) (by rintro e x ⟨rfl, hb130⟩; exact ⟨_, rfl, ⟨rfl, hb130⟩⟩)) ?_; clear h125
 rintro _ w127 a126 ⟨rfl, hb130⟩ h126
 have hz131 := hb130.size
 refine pk0 (v := .bool (sameCf d.cep d.cms d.cfl d.cep d.cms d.cfl)) h126 rfl fun a132 h132 => ?_; clear h126
 refine pk0 (v := .bool (sameCf d.cep d.cms d.cfl d.cep d.cms d.cfl)) h132 rfl fun a133 h133 => ?_; clear h132
 have hc134 : (sameCf d.cep d.cms d.cfl d.cep d.cms d.cfl) = true := by first | exact sameCf_refl _ _ _ | simp [sameCf_refl]
 rw [hc134] at h133; clear hc134
 refine pk0 (v := pt N3 16) h133 rfl fun a135 h135 => ?_; clear h133
 have hk136 := hk19.below hb130
 refine pk (v := .agg #[.int .i64 d.bc, .int .i64 d.br, bv]) h135 rfl (rn_loadN rfl rfl Try.underlying32 rfl (by kernel_rfl) (blk_part hk136 16 (by rfl))) fun a137 h137 => ?_; clear h135
 refine pk0 (v := pt N11 16) h137 rfl fun a138 h138 => ?_; clear h137
 have hk139 := hk13.below hb130
 refine pk (v := .agg #[.int .i64 d.bc, .int .i64 d.br, bv2]) h138 rfl (rn_loadN rfl rfl Try.underlying32 rfl (by kernel_rfl) (blk_part hk139 16 (by rfl))) fun a140 h140 => ?_; clear h138
 have hB143 := hb_call hB129 hb130
 refine pw h140 rfl (op_call (args := #[.agg #[.int .i64 d.bc, .int .i64 d.br, bv], .agg #[.int .i64 d.bc, .int .i64 d.br, bv2]]) (R := fun res xw => res = .bool true ∧ Below w127.heap.size w127 xw) rfl rfl rfl (by kernel_rfl) (by kernel_rfl) (Try.call49 _ _) (sameBatM d.bc d.br bv d.bl bv2 w127 (hb.below hB143) (hb2.below hB143)) (by rintro e x ⟨rfl, hb144⟩; exact ⟨_, rfl, ⟨rfl, hb144⟩⟩)) ?_; clear h140
 rintro _ w142 a141 ⟨rfl, hb144⟩ h141
 have hz145 := hb144.size
 refine pk0 (v := .bool true) h141 rfl fun a146 h146 => ?_; clear h141
 refine pk0 (v := .bool true) h146 rfl fun a147 h147 => ?_; clear h146
 refine pk0 (v := pt N3 19) h147 rfl fun a148 h148 => ?_; clear h147
 have hk149 := hk136.below hb144
 refine pk (v := ev) h148 rfl (rn_load1 rfl rfl Try.isAgg33 (hk149.cell rfl)) fun a150 h150 => ?_; clear h148
 refine pk0 (v := pt N11 19) h150 rfl fun a151 h151 => ?_; clear h150
 have hk152 := hk139.below hb144
 refine pk (v := ev2) h151 rfl (rn_load1 rfl rfl Try.isAgg33 (hk152.cell rfl)) fun a153 h153 => ?_; clear h151
 have hB156 := hb_call hB143 hb144
 refine pw h153 rfl (op_call (args := #[ev, ev2]) (R := fun res xw => res = .bool true ∧ Below w142.heap.size w142 xw) rfl rfl rfl (by kernel_rfl) (by kernel_rfl) (Try.call42 _ _) (sameAllM ev d.en ev2 en2 w142 (he.below hB156) (fun z hz => (hok z hz).below hB156) (he2.below hB156) (fun z hz => (hok2 z hz).below hB156) heq) (by rintro e x ⟨rfl, hb157⟩; exact ⟨_, rfl, ⟨rfl, hb157⟩⟩)) ?_; clear h153
 rintro _ w155 a154 ⟨rfl, hb157⟩ h154
 have hz158 := hb157.size
 refine pk0 (v := .bool true) h154 rfl fun a159 h159 => ?_; clear h154
 refine pk0 (v := .bool true) h159 rfl fun a160 h160 => ?_; clear h159
 refine pk0 (v := pt N3 20) h160 rfl fun a161 h161 => ?_; clear h160
 have hk162 := hk149.below hb157
 refine pk (v := sv) h161 rfl (rn_load1 rfl rfl Try.isAgg34 (hk162.cell rfl)) fun a163 h163 => ?_; clear h161
 refine pk0 (v := pt N11 20) h163 rfl fun a164 h164 => ?_; clear h163
 have hk165 := hk152.below hb157
 refine pk (v := sv2) h164 rfl (rn_load1 rfl rfl Try.isAgg34 (hk165.cell rfl)) fun a166 h166 => ?_; clear h164
 have hB169 := hb_call hB156 hb157
 refine pw h166 rfl (op_call (args := #[sv, sv2]) (R := fun res xw => res = .bool true ∧ Below w155.heap.size w155 xw) rfl rfl rfl (by kernel_rfl) (by kernel_rfl) (Try.call50 _ _) (sameStM sv d.st sv2 w155 (ht.below hB169) (ht2.below hB169)) (by rintro e x ⟨rfl, hb170⟩; exact ⟨_, rfl, ⟨rfl, hb170⟩⟩)) ?_; clear h166
 rintro _ w168 a167 ⟨rfl, hb170⟩ h167
 have hz171 := hb170.size
 refine pk0 (v := .bool true) h167 rfl fun a172 h172 => ?_; clear h167
 refine pk0 (v := .bool true) h172 rfl fun a173 h173 => ?_; clear h172
 refine pk0 (v := pt N3 21) h173 rfl fun a174 h174 => ?_; clear h173
 have hk175 := hk162.below hb170
 refine pk (v := pv) h174 rfl (rn_load1 rfl rfl Try.isAgg35 (hk175.cell rfl)) fun a176 h176 => ?_; clear h174
 refine pk0 (v := pt N11 21) h176 rfl fun a177 h177 => ?_; clear h176
 have hk178 := hk165.below hb170
 refine pk (v := pv2) h177 rfl (rn_load1 rfl rfl Try.isAgg35 (hk178.cell rfl)) fun a179 h179 => ?_; clear h177
 have hB182 := hb_call hB169 hb170
 refine pw h179 rfl (op_call (args := #[pv, pv2]) (R := fun res xw => res = .bool true ∧ Below w168.heap.size w168 xw) rfl rfl rfl (by kernel_rfl) (by kernel_rfl) (Try.call25 _ _) (samePrM pv d.pr pv2 w168 (hp.below hB182) (hp2.below hB182)) (by rintro e x ⟨rfl, hb183⟩; exact ⟨_, rfl, ⟨rfl, hb183⟩⟩)) ?_; clear h179
 rintro _ w181 a180 ⟨rfl, hb183⟩ h180
 have hz184 := hb183.size
 refine pk0 (v := .bool true) h180 rfl fun a185 h185 => ?_; clear h180
 refine pk0 (v := .bool true) h185 rfl fun a186 h186 => ?_; clear h185
 refine pl_nil ?_
 refine co_then ?_
 refine wp_ret ?_
 refine co_ret1 h186 rfl rfl ?_
 have hB187 := hb_call hB182 hb183
 exact ⟨rfl, hB187⟩
end Go.Proofs.Ytbjbcbbhmbpndaa

/- catenalaw31: ServePlays. Conditions: none. -/
namespace Go.Proofs.Ytbjbcbbhmbpndaa
open Go.RowKit Go.PlainAid
set_option linter.unusedVariables false
set_option linter.unusedSimpArgs false

set_option maxRecDepth 100000 in
set_option maxHeartbeats 6400000 in
theorem servePlays_any (v : Value) (l : List PutT) (mk : Int) (hz : Int) (ep : Int) (hd : Int) (d : MsgD) (mv : Value) (bv : Value) (ev : Value) (sv : Value) (pv : Value) (w : World) (hs : SliceOf putTE 2 w v l) (hok : ∀ z ∈ l, PutOk w z) (hm : SliceOf memE 2 w mv d.cms) (hb : SliceOf opE 3 w bv d.bl) (he : SliceOf entE 4 w ev d.en) (ht : SliceOf (intE .u64) 1 w sv d.st) (hp : SliceOf prE 2 w pv d.pr) (hM : MsgOk w ⟨d, mv, bv, ev, sv, pv⟩) (hu : 0 ≤ mk ∧ mk < 18446744073709551616 ∧ 0 ≤ hz ∧ hz < 18446744073709551616) :
    Calls Try.prog 3 #[v, .agg #[.int .u64 mk, .int .u64 hz, .int .i64 ep, .int .i64 hd], .agg #[.int .i64 d.k, .int .i64 d.ep, .int .i64 d.rq, .int .i64 d.sr, .bool d.fg, .int .u64 d.at_, .int .u64 d.la, .int .i64 d.n, .int .i64 d.m, .int .i64 d.p, .int .i64 d.e, .string d.key, .string d.to_, .int .i64 d.cep, mv, .int .u64 d.cfl, .int .i64 d.bc, .int .i64 d.br, bv, ev, sv, pv]] w fun e w' => e = .returned (.bool true) ∧ Below w.heap.size w w' := by
 have hrng := (show MsgR d from hM.hR).rng
 have hB0 := Below.refl w.heap.size w
 have hl_hs := sl_len hs
 have hl_hm := sl_len hm
 have hl_hb := sl_len hb
 have hl_he := sl_len he
 have hl_ht := sl_len ht
 have hl_hp := sl_len hp
 by_cases hfew : FewP l 40
 · skip
   refine co_enter (n := 135) Try.func3 rfl rfl rfl [(0, v), (1, .agg #[.int .u64 mk, .int .u64 hz, .int .i64 ep, .int .i64 hd]), (2, .agg #[.int .i64 d.k, .int .i64 d.ep, .int .i64 d.rq, .int .i64 d.sr, .bool d.fg, .int .u64 d.at_, .int .u64 d.la, .int .i64 d.n, .int .i64 d.m, .int .i64 d.p, .int .i64 d.e, .string d.key, .string d.to_, .int .i64 d.cep, mv, .int .u64 d.cfl, .int .i64 d.bc, .int .i64 d.br, bv, ev, sv, pv])] rfl (fun a h0 => ?_)
   refine co_seq ?_
   refine co_reg ?_
   refine pw h0 rfl (op_new (v := fun N => pt N 0) (T := 25) (cs := #[.int .u64 mk, .int .u64 hz, .int .i64 ep, .int .i64 hd]) (by kernel_rfl) (by kernel_rfl) (by kernel_rfl)) ?_; clear h0
   rintro _ w2 a1 ⟨N3, rfl, hN6, hz7, hk5, hg4⟩ h1
   have hz8 := hg4.size
   try dsimp only at h1
   refine pw h1 rfl (op_new (v := fun N => pt N 0) (T := 37) (cs := #[.int .i64 d.k, .int .i64 d.ep, .int .i64 d.rq, .int .i64 d.sr, .bool d.fg, .int .u64 d.at_, .int .u64 d.la, .int .i64 d.n, .int .i64 d.m, .int .i64 d.p, .int .i64 d.e, .string d.key, .string d.to_, .int .i64 d.cep, mv, .int .u64 d.cfl, .int .i64 d.bc, .int .i64 d.br, bv, ev, sv, pv]) (by kernel_rfl) (by kernel_rfl) (by kernel_rfl)) ?_; clear h1
   rintro _ w10 a9 ⟨N11, rfl, hN14, hz15, hk13, hg12⟩ h9
   have hz16 := hg12.size
   try dsimp only at h9
   refine pk0 (v := .bool false) h9 rfl fun a17 h17 => ?_; clear h9
   refine pl_nil ?_
   refine co_then ?_
   refine co_seq ?_
   refine co_seq ?_
   refine co_reg ?_
   refine pk0 (v := v) h17 rfl fun a18 h18 => ?_; clear h17
   have hB21 := hb_new hB0 hg4
   have hB22 := hb_new hB21 hg12
   refine pw h18 rfl (op_call (args := #[v]) (R := fun res xw => res = .bool (decide (FewP l 40)) ∧ Below w10.heap.size w10 xw) rfl rfl rfl (by kernel_rfl) (by kernel_rfl) (Try.call9 _ _) (few31_any v l w10 (hs.below hB22) (fun z hz => (hok z hz).below hB22)) (by rintro e x ⟨rfl, h⟩; exact ⟨_, rfl, rfl, h⟩)) ?_; clear h18
   rintro _ w20 a19 ⟨rfl, hb23⟩ h19
   have hz24 := hb23.size
   have hc25 : (decide (FewP l 40)) = true := by simp [hfew]
   rw [hc25] at h19; clear hc25
   refine pk0 (v := .bool false) h19 rfl fun a26 h26 => ?_; clear h19
   refine pk0 (v := .bool false) h26 rfl fun a27 h27 => ?_; clear h26
   refine pk0 (v := pt N11 13) h27 rfl fun a28 h28 => ?_; clear h27
   refine pk0 (v := pt N11 14) h28 rfl fun a29 h29 => ?_; clear h28
   have hk30 := hk13.below hb23
   refine pk (v := mv) h29 rfl (rn_load1 rfl rfl Try.isAgg27 (hk30.cell rfl)) fun a31 h31 => ?_; clear h29
   have hB32 := hb_call hB22 hb23
   refine pk (v := .int .i64 ((d.cms.length : Nat) : Int)) h31 rfl (rn_len rfl rfl Try.underlying27 (hm.below hB32)) fun a33 h33 => ?_; clear h31
   refine pk0 (v := .bool (decide (((d.cms.length : Nat) : Int) > 20))) h33 rfl fun a34 h34 => ?_; clear h33
   refine pk0 (v := .bool (decide (((d.cms.length : Nat) : Int) > 20))) h34 rfl fun a35 h35 => ?_; clear h34
   refine pk0 (v := .bool (decide (((d.cms.length : Nat) : Int) > 20))) h35 rfl fun a36 h36 => ?_; clear h35
   have hk38 := hk5.kept hg12 (by simp)
   have hk39 := hk38.below hb23
   cases hc37 : (decide (((d.cms.length : Nat) : Int) > 20))
   ·
    rw [hc37] at h36
    have hp40 : ¬ (((d.cms.length : Nat) : Int) > 20) := of_decide_eq_false hc37
    clear hc37
    refine pk0 (v := pt N11 16) h36 rfl fun a41 h41 => ?_; clear h36
    refine pk0 (v := pt N11 18) h41 rfl fun a42 h42 => ?_; clear h41
    refine pk (v := bv) h42 rfl (rn_load1 rfl rfl Try.isAgg30 (hk30.cell rfl)) fun a43 h43 => ?_; clear h42
    refine pk (v := .int .i64 ((d.bl.length : Nat) : Int)) h43 rfl (rn_len rfl rfl Try.underlying30 (hb.below hB32)) fun a44 h44 => ?_; clear h43
    refine pk0 (v := .bool (decide (((d.bl.length : Nat) : Int) > 20))) h44 rfl fun a45 h45 => ?_; clear h44
    refine pk0 (v := .bool (decide (((d.bl.length : Nat) : Int) > 20))) h45 rfl fun a46 h46 => ?_; clear h45
    refine pk0 (v := .bool (decide (((d.bl.length : Nat) : Int) > 20))) h46 rfl fun a47 h47 => ?_; clear h46
    cases hc48 : (decide (((d.bl.length : Nat) : Int) > 20))
    ·
     rw [hc48] at h47
     have hp49 : ¬ (((d.bl.length : Nat) : Int) > 20) := of_decide_eq_false hc48
     clear hc48
     refine pk0 (v := pt N11 19) h47 rfl fun a50 h50 => ?_; clear h47
     refine pk (v := ev) h50 rfl (rn_load1 rfl rfl Try.isAgg33 (hk30.cell rfl)) fun a51 h51 => ?_; clear h50
     refine pk (v := .int .i64 ((d.en.length : Nat) : Int)) h51 rfl (rn_len rfl rfl Try.underlying33 (he.below hB32)) fun a52 h52 => ?_; clear h51
     refine pk0 (v := .bool (decide (((d.en.length : Nat) : Int) > 20))) h52 rfl fun a53 h53 => ?_; clear h52
     refine pk0 (v := .bool (decide (((d.en.length : Nat) : Int) > 20))) h53 rfl fun a54 h54 => ?_; clear h53
     refine pk0 (v := .bool (decide (((d.en.length : Nat) : Int) > 20))) h54 rfl fun a55 h55 => ?_; clear h54
     cases hc56 : (decide (((d.en.length : Nat) : Int) > 20))
     ·
      rw [hc56] at h55
      have hp57 : ¬ (((d.en.length : Nat) : Int) > 20) := of_decide_eq_false hc56
      clear hc56
      refine pk0 (v := pt N11 20) h55 rfl fun a58 h58 => ?_; clear h55
      refine pk (v := sv) h58 rfl (rn_load1 rfl rfl Try.isAgg34 (hk30.cell rfl)) fun a59 h59 => ?_; clear h58
      refine pk (v := .int .i64 ((d.st.length : Nat) : Int)) h59 rfl (rn_len rfl rfl Try.underlying34 (ht.below hB32)) fun a60 h60 => ?_; clear h59
      refine pk0 (v := .bool (decide (((d.st.length : Nat) : Int) > 20))) h60 rfl fun a61 h61 => ?_; clear h60
      refine pk0 (v := .bool (decide (((d.st.length : Nat) : Int) > 20))) h61 rfl fun a62 h62 => ?_; clear h61
      refine pk0 (v := .bool (decide (((d.st.length : Nat) : Int) > 20))) h62 rfl fun a63 h63 => ?_; clear h62
      cases hc64 : (decide (((d.st.length : Nat) : Int) > 20))
      ·
       rw [hc64] at h63
       have hp65 : ¬ (((d.st.length : Nat) : Int) > 20) := of_decide_eq_false hc64
       clear hc64
       refine pk0 (v := pt N11 21) h63 rfl fun a66 h66 => ?_; clear h63
       refine pk (v := pv) h66 rfl (rn_load1 rfl rfl Try.isAgg35 (hk30.cell rfl)) fun a67 h67 => ?_; clear h66
       refine pk (v := .int .i64 ((d.pr.length : Nat) : Int)) h67 rfl (rn_len rfl rfl Try.underlying35 (hp.below hB32)) fun a68 h68 => ?_; clear h67
       refine pk0 (v := .bool (decide (((d.pr.length : Nat) : Int) > 40))) h68 rfl fun a69 h69 => ?_; clear h68
       refine pk0 (v := .bool (decide (((d.pr.length : Nat) : Int) > 40))) h69 rfl fun a70 h70 => ?_; clear h69
       refine pl_nil ?_
       refine co_then ?_
       cases hc71 : (decide (((d.pr.length : Nat) : Int) > 40))
       ·
        rw [hc71] at h70
        have hp72 : ¬ (((d.pr.length : Nat) : Int) > 40) := of_decide_eq_false hc71
        clear hc71
        refine co_false h70 rfl ?_
        refine wp_skip ?_
        refine co_then ?_
        refine co_seq ?_
        refine co_reg ?_
        refine pk0 (v := v) h70 rfl fun a73 h73 => ?_; clear h70
        refine pw h73 rfl (op_call (args := #[v]) (R := fun res xw => ∃ (N d : Nat) (S D : Nat → Prop) (f : Fv) (la ce : Int) (m : Nat), res = .tuple #[pt N 0, pt d 0] ∧ MvO S xw N f la ce m ∧ RsO D xw d f la m ∧ m ≤ 30 ∧ (∀ q, S q → w20.heap.size ≤ q) ∧ (∀ q, D q → w20.heap.size ≤ q) ∧ (∀ q, S q → D q → False) ∧ Below w20.heap.size w20 xw) rfl rfl rfl (by kernel_rfl) (by kernel_rfl) (Try.call11 _ _) (stores31_any v l w20 (hs.below hB32) (fun z hz => (hok z hz).below hB32) hfew) (by rintro e x ⟨N, d, S, D, f, la, ce, m, rfl, h⟩; exact ⟨_, rfl, N, d, S, D, f, la, ce, m, rfl, h⟩)) ?_; clear h73
        rintro _ w75 a74 ⟨N76, d77, S78, D79, f80, la81, ce82, m83, rfl, hO84, hO85, hm86, hlo87, hlo88, hap89, hb90⟩ h74
        have hz91 := hb90.size
        have hlo92 : ∀ q, S78 q → w.heap.size ≤ q := fun q hq => by have := hlo87 q hq; omega
        have hlo93 : ∀ q, D79 q → w.heap.size ≤ q := fun q hq => by have := hlo88 q hq; omega
        have ho94 := off_lo (N := N3) hlo87 (by omega)
        have ho95 := off_lo (N := N11) hlo87 (by omega)
        have ho96 := off_lo (N := N3) hlo88 (by omega)
        have ho97 := off_lo (N := N11) hlo88 (by omega)
        have hla98 := MvO.laB hO84
        refine pk0 (v := .tuple #[pt N76 0, pt d77 0]) h74 rfl fun a99 h99 => ?_; clear h74
        refine pk0 (v := pt N76 0) h99 rfl fun a100 h100 => ?_; clear h99
        refine pk0 (v := pt d77 0) h100 rfl fun a101 h101 => ?_; clear h100
        refine pk0 (v := pt N76 0) h101 rfl fun a102 h102 => ?_; clear h101
        refine pk0 (v := pt d77 0) h102 rfl fun a103 h103 => ?_; clear h102
        refine pl_nil ?_
        refine co_then ?_
        refine co_seq ?_
        refine co_reg ?_
        refine pk0 (v := pt N3 0) h103 rfl fun a104 h104 => ?_; clear h103
        have hk105 := hk39.below hb90
        refine pk (v := .int .u64 mk) h104 rfl (rn_load1 rfl rfl Try.isAgg23 (hk105.cell rfl)) fun a106 h106 => ?_; clear h104
        refine pk0 (v := pt N3 1) h106 rfl fun a107 h107 => ?_; clear h106
        refine pk (v := .int .u64 hz) h107 rfl (rn_load1 rfl rfl Try.isAgg23 (hk105.cell rfl)) fun a108 h108 => ?_; clear h107
        refine pk0 (v := pt N3 2) h108 rfl fun a109 h109 => ?_; clear h108
        refine pk (v := .int .i64 ep) h109 rfl (rn_load1 rfl rfl Try.isAgg3 (hk105.cell rfl)) fun a110 h110 => ?_; clear h109
        refine pk0 (v := pt N3 3) h110 rfl fun a111 h111 => ?_; clear h110
        refine pk (v := .int .i64 hd) h111 rfl (rn_load1 rfl rfl Try.isAgg3 (hk105.cell rfl)) fun a112 h112 => ?_; clear h111
        refine pw h112 rfl (op_call (args := #[.int .u64 mk, .int .u64 hz, .int .i64 ep, .int .i64 hd]) (R := fun res xw => res = .agg #[.int .u64 mk, .int .u64 hz, .int .i64 (mxI ep 0), .int .i64 (mxI hd 0)] ∧ Below w75.heap.size w75 xw) rfl rfl rfl (by kernel_rfl) (by kernel_rfl) (Try.call12 _ _) (srvAt_any mk hz ep hd w75 ) (by rintro e x ⟨rfl, hb115⟩; exact ⟨_, rfl, ⟨rfl, hb115⟩⟩)) ?_; clear h112
        rintro _ w114 a113 ⟨rfl, hb115⟩ h113
        have hz116 := hb115.size
        have ho117 := MvO.ofS hO84
        have ho118 := RsO.ofS hO85
        refine pw h113 rfl (op_new (v := fun N => pt N 0) (T := 45) (cs := #[.int .u64 0, .int .u64 0, .int .i64 0, .int .i64 0]) (by kernel_rfl) (by kernel_rfl) (by kernel_rfl)) ?_; clear h113
        rintro _ w120 a119 ⟨N121, rfl, hN124, hz125, hk123, hg122⟩ h119
        have hz126 := hg122.size
        have hO128 := MvO.gr hO84 (below_grown hb115) (fun k e => by cases e)
        have ho127 := off_new (MvO.ofS hO128) hN124
        have hO130 := RsO.gr hO85 (below_grown hb115) (fun k e => by cases e)
        have ho129 := off_new (RsO.ofS hO130) hN124
        try dsimp only at h119
        refine pwD h119 rfl (op_storeN rfl rfl rfl (by kernel_rfl) (by kernel_rfl) hk123 rfl) ?_; clear h119
        rintro _ w132 a131 ⟨hk133, hz134, hg135⟩ h131
        have hk133' : Blk w132 N121 45 #[.int .u64 mk, .int .u64 hz, .int .i64 (mxI ep 0), .int .i64 (mxI hd 0)] := hk133; clear hk133
        have hz136 := hg135.size
        refine pl_nil ?_
        refine co_then ?_
        refine co_seq ?_
        refine co_reg ?_
        refine pk0 (v := pt N3 0) h131 rfl fun a137 h137 => ?_; clear h131
        have hk138 := hk105.below hb115
        have hk139 := hk138.kept hg122 (by simp)
        have hk140 := hk139.kept hg135 (by simp; omega)
        refine pk (v := .int .u64 mk) h137 rfl (rn_load1 rfl rfl Try.isAgg23 (hk140.cell rfl)) fun a141 h141 => ?_; clear h137
        refine pk0 (v := pt N3 1) h141 rfl fun a142 h142 => ?_; clear h141
        refine pk (v := .int .u64 hz) h142 rfl (rn_load1 rfl rfl Try.isAgg23 (hk140.cell rfl)) fun a143 h143 => ?_; clear h142
        refine pk0 (v := pt N3 2) h143 rfl fun a144 h144 => ?_; clear h143
        refine pk (v := .int .i64 ep) h144 rfl (rn_load1 rfl rfl Try.isAgg3 (hk140.cell rfl)) fun a145 h145 => ?_; clear h144
        refine pk0 (v := pt N3 3) h145 rfl fun a146 h146 => ?_; clear h145
        refine pk (v := .int .i64 hd) h146 rfl (rn_load1 rfl rfl Try.isAgg3 (hk140.cell rfl)) fun a147 h147 => ?_; clear h146
        refine pk0 (v := .agg #[.int .u64 mk, .int .u64 hz, .int .i64 ep, .int .i64 hd]) h147 rfl fun a148 h148 => ?_; clear h147
        refine pw h148 rfl (op_new (v := fun N => pt N 0) (T := 47) (cs := #[.int .u64 0, .int .u64 0, .int .i64 0, .int .i64 0]) (by kernel_rfl) (by kernel_rfl) (by kernel_rfl)) ?_; clear h148
        rintro _ w150 a149 ⟨N151, rfl, hN154, hz155, hk153, hg152⟩ h149
        have hz156 := hg152.size
        have hO158 := MvO.gr hO128 hg122 (fun k e => by cases e)
        have hO159 := MvO.gr hO158 hg135 (fun k e => by cases e; exact ho127)
        have ho157 := off_new (MvO.ofS hO159) hN154
        have hO161 := RsO.gr hO130 hg122 (fun k e => by cases e)
        have hO162 := RsO.gr hO161 hg135 (fun k e => by cases e; exact ho129)
        have ho160 := off_new (RsO.ofS hO162) hN154
        try dsimp only at h149
        refine pwD h149 rfl (op_storeN rfl rfl rfl (by kernel_rfl) (by kernel_rfl) hk153 rfl) ?_; clear h149
        rintro _ w164 a163 ⟨hk165, hz166, hg167⟩ h163
        have hk165' : Blk w164 N151 47 #[.int .u64 mk, .int .u64 hz, .int .i64 ep, .int .i64 hd] := hk165; clear hk165
        have hz168 := hg167.size
        refine pl_nil ?_
        refine co_then ?_
        refine co_seq ?_
        refine co_reg ?_
        refine pk0 (v := pt N76 0) h163 rfl fun a169 h169 => ?_; clear h163
        have hk170 := hk133'.kept hg152 (by simp)
        have hk171 := hk170.kept hg167 (by simp; omega)
        refine pk (v := .agg #[.int .u64 mk, .int .u64 hz, .int .i64 (mxI ep 0), .int .i64 (mxI hd 0)]) h169 rfl (rn_loadN rfl rfl Try.underlying45 rfl (by kernel_rfl) hk171.all) fun a172 h172 => ?_; clear h169
        have hk173 := hk30.below hb90
        have hk174 := hk173.below hb115
        have hk175 := hk174.kept hg122 (by simp)
        have hk176 := hk175.kept hg135 (by simp; omega)
        have hk177 := hk176.kept hg152 (by simp)
        have hk178 := hk177.kept hg167 (by simp; omega)
        refine pk (v := .agg #[.int .i64 d.k, .int .i64 d.ep, .int .i64 d.rq, .int .i64 d.sr, .bool d.fg, .int .u64 d.at_, .int .u64 d.la, .int .i64 d.n, .int .i64 d.m, .int .i64 d.p, .int .i64 d.e, .string d.key, .string d.to_, .int .i64 d.cep, mv, .int .u64 d.cfl, .int .i64 d.bc, .int .i64 d.br, bv, ev, sv, pv]) h172 rfl (rn_loadN rfl rfl Try.underlying37 rfl (by kernel_rfl) hk178.all) fun a179 h179 => ?_; clear h172
        have hB182 := hb_call hB32 hb90
        have hB183 := hb_call hB182 hb115
        have hB184 := hb_new hB183 hg122
        have hB185 := hb_at hB184 hg135 (by omega)
        have hB186 := hb_new hB185 hg152
        have hB187 := hb_at hB186 hg167 (by omega)
        have hk188 := hk140.kept hg152 (by simp)
        have hk189 := hk188.kept hg167 (by simp; omega)
        have hO190 := MvO.gr hO159 hg152 (fun k e => by cases e)
        have hO191 := MvO.gr hO190 hg167 (fun k e => by cases e; exact ho157)
        have hO192 := RsO.gr hO162 hg152 (fun k e => by cases e)
        have hO193 := RsO.gr hO192 hg167 (fun k e => by cases e; exact ho160)
        have ho194 := MvO.ofS hO191
        have ho195 := RsO.ofS hO193
        obtain ⟨an196, han196⟩ : ∃ a, a = ansF f80 d mk hz (mxI ep 0) (mxI hd 0) := ⟨_, rfl⟩
        have ban196 : AnB an196 := by rw [han196]; exact ansF_b (by omega)
        refine pw h179 rfl (op_call (args := #[pt N76 0, .agg #[.int .u64 mk, .int .u64 hz, .int .i64 (mxI ep 0), .int .i64 (mxI hd 0)], .agg #[.int .i64 d.k, .int .i64 d.ep, .int .i64 d.rq, .int .i64 d.sr, .bool d.fg, .int .u64 d.at_, .int .u64 d.la, .int .i64 d.n, .int .i64 d.m, .int .i64 d.p, .int .i64 d.e, .string d.key, .string d.to_, .int .i64 d.cep, mv, .int .u64 d.cfl, .int .i64 d.bc, .int .i64 d.br, bv, ev, sv, pv]]) (R := fun res xw => ∃ (ao : Option Addr) (nn cap : Nat), res = .tuple #[.agg #[.int .i64 an196.k, .int .i64 an196.ep, .int .i64 an196.rq, .int .i64 0, .bool an196.fg, .int .u64 an196.at_, .int .u64 0, .int .i64 an196.n, .int .i64 0, .int .i64 0, .int .i64 an196.e, .string an196.key, .string (⟨#[]⟩), .int .i64 0, .slice none 0 0, .int .u64 0, .int .i64 0, .int .i64 0, .slice none 0 0, .slice none 0 0, .slice none 0 0, .slice ao nn cap], .bool (decide (chkMg d = 0 ∧ (d.k = 8 ∨ d.k = 9)))] ∧ xw.ownsRow w164.heap.size 88 2 (.slice ao nn cap) an196.pr.length (an196.pr.flatMap pairE) ∧ Below w164.heap.size w164 xw) rfl rfl rfl (by kernel_rfl) (by kernel_rfl) (Try.call13 _ _) (uAns S78 N76 f80 la81 ce82 m83 mk hz (mxI ep 0) (mxI hd 0) d mv bv ev sv pv w164 hO191 (by omega) (hM.below hB187)) (by rintro e x ⟨a, u, ha, h0, h⟩; obtain ⟨ao, nn, cap, rfl⟩ := own_sliceT h.1; rw [← han196] at ha; subst ha; exact ⟨_, h0, ao, nn, cap, rfl, h⟩)) ?_; clear h179
        rintro _ w181 a180 ⟨ao197, nn198, cp199, rfl, hr200, hb201⟩ h180
        have hz202 := hb201.size
        have ho203 := MvO.ofS hO191
        have ho204 := RsO.ofS hO193
        refine pk0 (v := .tuple #[.agg #[.int .i64 an196.k, .int .i64 an196.ep, .int .i64 an196.rq, .int .i64 0, .bool an196.fg, .int .u64 an196.at_, .int .u64 0, .int .i64 an196.n, .int .i64 0, .int .i64 0, .int .i64 an196.e, .string an196.key, .string (⟨#[]⟩), .int .i64 0, .slice none 0 0, .int .u64 0, .int .i64 0, .int .i64 0, .slice none 0 0, .slice none 0 0, .slice none 0 0, .slice ao197 nn198 cp199], .bool (decide (chkMg d = 0 ∧ (d.k = 8 ∨ d.k = 9)))]) h180 rfl fun a205 h205 => ?_; clear h180
        refine pk0 (v := .agg #[.int .i64 an196.k, .int .i64 an196.ep, .int .i64 an196.rq, .int .i64 0, .bool an196.fg, .int .u64 an196.at_, .int .u64 0, .int .i64 an196.n, .int .i64 0, .int .i64 0, .int .i64 an196.e, .string an196.key, .string (⟨#[]⟩), .int .i64 0, .slice none 0 0, .int .u64 0, .int .i64 0, .int .i64 0, .slice none 0 0, .slice none 0 0, .slice none 0 0, .slice ao197 nn198 cp199]) h205 rfl fun a206 h206 => ?_; clear h205
        refine pk0 (v := .bool (decide (chkMg d = 0 ∧ (d.k = 8 ∨ d.k = 9)))) h206 rfl fun a207 h207 => ?_; clear h206
        refine pw h207 rfl (op_new (v := fun N => pt N 0) (T := 37) (cs := #[.int .i64 0, .int .i64 0, .int .i64 0, .int .i64 0, .bool false, .int .u64 0, .int .u64 0, .int .i64 0, .int .i64 0, .int .i64 0, .int .i64 0, .string (⟨#[]⟩), .string (⟨#[]⟩), .int .i64 0, .slice none 0 0, .int .u64 0, .int .i64 0, .int .i64 0, .slice none 0 0, .slice none 0 0, .slice none 0 0, .slice none 0 0]) (by kernel_rfl) (by kernel_rfl) (by kernel_rfl)) ?_; clear h207
        rintro _ w209 a208 ⟨N210, rfl, hN213, hz214, hk212, hg211⟩ h208
        have ha215 := row_fresh hr200 hN213
        have hz216 := hg211.size
        have hO218 := MvO.gr hO191 (below_grown hb201) (fun k e => by cases e)
        have ho217 := off_new (MvO.ofS hO218) hN213
        have hO220 := RsO.gr hO193 (below_grown hb201) (fun k e => by cases e)
        have ho219 := off_new (RsO.ofS hO220) hN213
        try dsimp only at h208
        refine pwD h208 rfl (op_storeN rfl rfl rfl (all_cons rfl (all_cons rfl (all_cons rfl (all_cons rfl (all_cons rfl (all_cons rfl (all_cons rfl (all_cons rfl (all_cons rfl (all_cons rfl (all_cons rfl (all_cons rfl (all_cons rfl (all_cons rfl (all_cons rfl (all_cons rfl (all_cons rfl (all_cons rfl (all_cons rfl (all_cons rfl (all_cons rfl (all_cons rfl all_nil)))))))))))))))))))))) (by kernel_rfl) hk212 rfl) ?_; clear h208
        rintro _ w222 a221 ⟨hk223, hz224, hg225⟩ h221
        have hk223' : Blk w222 N210 37 #[.int .i64 an196.k, .int .i64 an196.ep, .int .i64 an196.rq, .int .i64 0, .bool an196.fg, .int .u64 an196.at_, .int .u64 0, .int .i64 an196.n, .int .i64 0, .int .i64 0, .int .i64 an196.e, .string an196.key, .string (⟨#[]⟩), .int .i64 0, .slice none 0 0, .int .u64 0, .int .i64 0, .int .i64 0, .slice none 0 0, .slice none 0 0, .slice none 0 0, .slice ao197 nn198 cp199] := hk223; clear hk223
        have hz226 := hg225.size
        refine pk0 (v := .bool (decide (chkMg d = 0 ∧ (d.k = 8 ∨ d.k = 9)))) h221 rfl fun a227 h227 => ?_; clear h221
        refine pl_nil ?_
        refine co_then ?_
        refine co_seq ?_
        refine co_reg ?_
        refine pk0 (v := pt d77 0) h227 rfl fun a228 h228 => ?_; clear h227
        have hk229 := hk165'.below hb201
        have hk230 := hk229.kept hg211 (by simp)
        have hk231 := hk230.kept hg225 (by simp; omega)
        refine pk (v := .agg #[.int .u64 mk, .int .u64 hz, .int .i64 ep, .int .i64 hd]) h228 rfl (rn_loadN rfl rfl Try.underlying47 rfl (by kernel_rfl) hk231.all) fun a232 h232 => ?_; clear h228
        have hk233 := hk178.below hb201
        have hk234 := hk233.kept hg211 (by simp)
        have hk235 := hk234.kept hg225 (by simp; omega)
        refine pk (v := .agg #[.int .i64 d.k, .int .i64 d.ep, .int .i64 d.rq, .int .i64 d.sr, .bool d.fg, .int .u64 d.at_, .int .u64 d.la, .int .i64 d.n, .int .i64 d.m, .int .i64 d.p, .int .i64 d.e, .string d.key, .string d.to_, .int .i64 d.cep, mv, .int .u64 d.cfl, .int .i64 d.bc, .int .i64 d.br, bv, ev, sv, pv]) h232 rfl (rn_loadN rfl rfl Try.underlying37 rfl (by kernel_rfl) hk235.all) fun a236 h236 => ?_; clear h232
        have hB239 := hb_call hB187 hb201
        have hB240 := hb_new hB239 hg211
        have hB241 := hb_at hB240 hg225 (by omega)
        have hk242 := hk189.below hb201
        have hk243 := hk242.kept hg211 (by simp)
        have hk244 := hk243.kept hg225 (by simp; omega)
        have hO245 := MvO.gr hO218 hg211 (fun k e => by cases e)
        have hO246 := MvO.gr hO245 hg225 (fun k e => by cases e; exact ho217)
        have hO247 := RsO.gr hO220 hg211 (fun k e => by cases e)
        have hO248 := RsO.gr hO247 hg225 (fun k e => by cases e; exact ho219)
        have hk249 := hk171.below hb201
        have hk250 := hk249.kept hg211 (by simp)
        have hk251 := hk250.kept hg225 (by simp; omega)
        have hr252 := row_kept_new hr200 hg211
        have hr253 := row_kept_at hr252 hg225 (ha215)
        have ho254 := MvO.ofS hO246
        have ho255 := RsO.ofS hO248
        refine pw h236 rfl (op_call (args := #[pt d77 0, .agg #[.int .u64 mk, .int .u64 hz, .int .i64 ep, .int .i64 hd], .agg #[.int .i64 d.k, .int .i64 d.ep, .int .i64 d.rq, .int .i64 d.sr, .bool d.fg, .int .u64 d.at_, .int .u64 d.la, .int .i64 d.n, .int .i64 d.m, .int .i64 d.p, .int .i64 d.e, .string d.key, .string d.to_, .int .i64 d.cep, mv, .int .u64 d.cfl, .int .i64 d.bc, .int .i64 d.br, bv, ev, sv, pv]]) (R := fun res xw => ∃ (ao : Option Addr) (nn cap : Nat), res = .tuple #[.agg #[.int .i64 an196.k, .int .i64 an196.ep, .int .i64 an196.rq, .int .i64 0, .bool an196.fg, .int .u64 an196.at_, .int .u64 0, .int .i64 an196.n, .int .i64 0, .int .i64 0, .int .i64 an196.e, .string an196.key, .string (⟨#[]⟩), .int .i64 0, .slice none 0 0, .int .u64 0, .int .i64 0, .int .i64 0, .slice none 0 0, .slice none 0 0, .slice none 0 0, .slice ao nn cap], .bool (decide (chkMg d = 0 ∧ (d.k = 8 ∨ d.k = 9)))] ∧ xw.ownsRow w222.heap.size 88 2 (.slice ao nn cap) an196.pr.length (an196.pr.flatMap pairE) ∧ Below w222.heap.size w222 xw) rfl rfl rfl (by kernel_rfl) (by kernel_rfl) (Try.call14 _ _) (vAns D79 d77 f80 la81 m83 mk hz ep hd d mv bv ev sv pv w222 hO248 (by omega) (hM.below hB241)) (by rintro e x ⟨a, u, ha, h0, h⟩; obtain ⟨ao, nn, cap, rfl⟩ := own_sliceT h.1; rw [← han196] at ha; subst ha; exact ⟨_, h0, ao, nn, cap, rfl, h⟩)) ?_; clear h236
        rintro _ w238 a237 ⟨ao256, nn257, cp258, rfl, hr259, hb260⟩ h237
        have hz261 := hb260.size
        have ho262 := MvO.ofS hO246
        have ho263 := RsO.ofS hO248
        have hra264 : ∀ i, (Value.slice ao256 nn257 cp258).ownBlock = some i → Value.ownBlock (.slice ao197 nn198 cp199) ≠ some i := fun i hi h1 => by have e1 := (hr259.lt i hi).1; have e2 := (hr253.lt i h1).2; omega
        refine pk0 (v := .tuple #[.agg #[.int .i64 an196.k, .int .i64 an196.ep, .int .i64 an196.rq, .int .i64 0, .bool an196.fg, .int .u64 an196.at_, .int .u64 0, .int .i64 an196.n, .int .i64 0, .int .i64 0, .int .i64 an196.e, .string an196.key, .string (⟨#[]⟩), .int .i64 0, .slice none 0 0, .int .u64 0, .int .i64 0, .int .i64 0, .slice none 0 0, .slice none 0 0, .slice none 0 0, .slice ao256 nn257 cp258], .bool (decide (chkMg d = 0 ∧ (d.k = 8 ∨ d.k = 9)))]) h237 rfl fun a265 h265 => ?_; clear h237
        refine pk0 (v := .agg #[.int .i64 an196.k, .int .i64 an196.ep, .int .i64 an196.rq, .int .i64 0, .bool an196.fg, .int .u64 an196.at_, .int .u64 0, .int .i64 an196.n, .int .i64 0, .int .i64 0, .int .i64 an196.e, .string an196.key, .string (⟨#[]⟩), .int .i64 0, .slice none 0 0, .int .u64 0, .int .i64 0, .int .i64 0, .slice none 0 0, .slice none 0 0, .slice none 0 0, .slice ao256 nn257 cp258]) h265 rfl fun a266 h266 => ?_; clear h265
        refine pk0 (v := .bool (decide (chkMg d = 0 ∧ (d.k = 8 ∨ d.k = 9)))) h266 rfl fun a267 h267 => ?_; clear h266
        refine pw h267 rfl (op_new (v := fun N => pt N 0) (T := 37) (cs := #[.int .i64 0, .int .i64 0, .int .i64 0, .int .i64 0, .bool false, .int .u64 0, .int .u64 0, .int .i64 0, .int .i64 0, .int .i64 0, .int .i64 0, .string (⟨#[]⟩), .string (⟨#[]⟩), .int .i64 0, .slice none 0 0, .int .u64 0, .int .i64 0, .int .i64 0, .slice none 0 0, .slice none 0 0, .slice none 0 0, .slice none 0 0]) (by kernel_rfl) (by kernel_rfl) (by kernel_rfl)) ?_; clear h267
        rintro _ w269 a268 ⟨N270, rfl, hN273, hz274, hk272, hg271⟩ h268
        have hr276 := row_kept_new hr253 (below_grown hb260)
        have ha275 := row_fresh hr276 hN273
        have ha277 := row_fresh hr259 hN273
        have hz278 := hg271.size
        have hO280 := MvO.gr hO246 (below_grown hb260) (fun k e => by cases e)
        have ho279 := off_new (MvO.ofS hO280) hN273
        have hO282 := RsO.gr hO248 (below_grown hb260) (fun k e => by cases e)
        have ho281 := off_new (RsO.ofS hO282) hN273
        try dsimp only at h268
        refine pwD h268 rfl (op_storeN rfl rfl rfl (all_cons rfl (all_cons rfl (all_cons rfl (all_cons rfl (all_cons rfl (all_cons rfl (all_cons rfl (all_cons rfl (all_cons rfl (all_cons rfl (all_cons rfl (all_cons rfl (all_cons rfl (all_cons rfl (all_cons rfl (all_cons rfl (all_cons rfl (all_cons rfl (all_cons rfl (all_cons rfl (all_cons rfl (all_cons rfl all_nil)))))))))))))))))))))) (by kernel_rfl) hk272 rfl) ?_; clear h268
        rintro _ w284 a283 ⟨hk285, hz286, hg287⟩ h283
        have hk285' : Blk w284 N270 37 #[.int .i64 an196.k, .int .i64 an196.ep, .int .i64 an196.rq, .int .i64 0, .bool an196.fg, .int .u64 an196.at_, .int .u64 0, .int .i64 an196.n, .int .i64 0, .int .i64 0, .int .i64 an196.e, .string an196.key, .string (⟨#[]⟩), .int .i64 0, .slice none 0 0, .int .u64 0, .int .i64 0, .int .i64 0, .slice none 0 0, .slice none 0 0, .slice none 0 0, .slice ao256 nn257 cp258] := hk285; clear hk285
        have hz288 := hg287.size
        refine pk0 (v := .bool (decide (chkMg d = 0 ∧ (d.k = 8 ∨ d.k = 9)))) h283 rfl fun a289 h289 => ?_; clear h283
        refine pl_nil ?_
        refine co_then ?_
        refine co_seq ?_
        refine co_seq ?_
        refine co_reg ?_
        have hk290 := hk223'.below hb260
        have hk291 := hk290.kept hg271 (by simp)
        have hk292 := hk291.kept hg287 (by simp; omega)
        refine pk (v := .agg #[.int .i64 an196.k, .int .i64 an196.ep, .int .i64 an196.rq, .int .i64 0, .bool an196.fg, .int .u64 an196.at_, .int .u64 0, .int .i64 an196.n, .int .i64 0, .int .i64 0, .int .i64 an196.e, .string an196.key, .string (⟨#[]⟩), .int .i64 0, .slice none 0 0, .int .u64 0, .int .i64 0, .int .i64 0, .slice none 0 0, .slice none 0 0, .slice none 0 0, .slice ao197 nn198 cp199]) h289 rfl (rn_loadN rfl rfl Try.underlying37 rfl (by kernel_rfl) hk292.all) fun a293 h293 => ?_; clear h289
        refine pk (v := .agg #[.int .i64 an196.k, .int .i64 an196.ep, .int .i64 an196.rq, .int .i64 0, .bool an196.fg, .int .u64 an196.at_, .int .u64 0, .int .i64 an196.n, .int .i64 0, .int .i64 0, .int .i64 an196.e, .string an196.key, .string (⟨#[]⟩), .int .i64 0, .slice none 0 0, .int .u64 0, .int .i64 0, .int .i64 0, .slice none 0 0, .slice none 0 0, .slice none 0 0, .slice ao256 nn257 cp258]) h293 rfl (rn_loadN rfl rfl Try.underlying37 rfl (by kernel_rfl) hk285'.all) fun a294 h294 => ?_; clear h293
        have hB297 := hb_call hB241 hb260
        have hB298 := hb_new hB297 hg271
        have hB299 := hb_at hB298 hg287 (by omega)
        have hk300 := hk244.below hb260
        have hk301 := hk300.kept hg271 (by simp)
        have hk302 := hk301.kept hg287 (by simp; omega)
        have hk303 := hk235.below hb260
        have hk304 := hk303.kept hg271 (by simp)
        have hk305 := hk304.kept hg287 (by simp; omega)
        have hO306 := MvO.gr hO280 hg271 (fun k e => by cases e)
        have hO307 := MvO.gr hO306 hg287 (fun k e => by cases e; exact ho279)
        have hO308 := RsO.gr hO282 hg271 (fun k e => by cases e)
        have hO309 := RsO.gr hO308 hg287 (fun k e => by cases e; exact ho281)
        have hk310 := hk251.below hb260
        have hk311 := hk310.kept hg271 (by simp)
        have hk312 := hk311.kept hg287 (by simp; omega)
        have hk313 := hk231.below hb260
        have hk314 := hk313.kept hg271 (by simp)
        have hk315 := hk314.kept hg287 (by simp; omega)
        have hr316 := row_kept_new hr276 hg271
        have hr317 := row_kept_at hr316 hg287 (ha275)
        have hr318 := row_kept_new hr259 hg271
        have hr319 := row_kept_at hr318 hg287 (ha277)
        refine pw h294 rfl (op_call (args := #[.agg #[.int .i64 an196.k, .int .i64 an196.ep, .int .i64 an196.rq, .int .i64 0, .bool an196.fg, .int .u64 an196.at_, .int .u64 0, .int .i64 an196.n, .int .i64 0, .int .i64 0, .int .i64 an196.e, .string an196.key, .string (⟨#[]⟩), .int .i64 0, .slice none 0 0, .int .u64 0, .int .i64 0, .int .i64 0, .slice none 0 0, .slice none 0 0, .slice none 0 0, .slice ao197 nn198 cp199], .agg #[.int .i64 an196.k, .int .i64 an196.ep, .int .i64 an196.rq, .int .i64 0, .bool an196.fg, .int .u64 an196.at_, .int .u64 0, .int .i64 an196.n, .int .i64 0, .int .i64 0, .int .i64 an196.e, .string an196.key, .string (⟨#[]⟩), .int .i64 0, .slice none 0 0, .int .u64 0, .int .i64 0, .int .i64 0, .slice none 0 0, .slice none 0 0, .slice none 0 0, .slice ao256 nn257 cp258]]) (R := fun res xw => res = .bool true ∧ Below w284.heap.size w284 xw) rfl rfl rfl (by kernel_rfl) (by kernel_rfl) (Try.call15 _ _) (sameMsgM (AnT.d an196) (.slice none 0 0) (.slice none 0 0) (.slice none 0 0) (.slice none 0 0) (.slice ao197 nn198 cp199) (.slice none 0 0) (.slice none 0 0) (.slice none 0 0) [] (.slice none 0 0) (.slice ao256 nn257 cp258) w284 (sl_nil _) (sl_nil _) (sl_nil _) (sl_nil _) (row_sl hr317 pairE_len) (fun _ h => by cases h) (an_R ban196) (sl_nil _) (sl_nil _) (sl_nil _) (sl_nil _) (row_sl hr319 pairE_len) (fun _ h => by cases h) EqEn.nil) (by rintro e x ⟨rfl, h⟩; exact ⟨_, rfl, rfl, h⟩)) ?_; clear h294
        rintro _ w296 a295 ⟨rfl, hb320⟩ h295
        have hz321 := hb320.size
        have ho322 := MvO.ofS hO307
        have ho323 := RsO.ofS hO309
        refine pk0 (v := .bool false) h295 rfl fun a324 h324 => ?_; clear h295
        refine pk0 (v := .bool false) h324 rfl fun a325 h325 => ?_; clear h324
        refine pk0 (v := .bool (decide (chkMg d = 0 ∧ (d.k = 8 ∨ d.k = 9)))) h325 rfl fun a326 h326 => ?_; clear h325
        refine pk0 (v := .bool (decide (chkMg d = 0 ∧ (d.k = 8 ∨ d.k = 9)))) h326 rfl fun a327 h327 => ?_; clear h326
        refine pk0 (v := .bool ((decide (chkMg d = 0 ∧ (d.k = 8 ∨ d.k = 9))) != (decide (chkMg d = 0 ∧ (d.k = 8 ∨ d.k = 9))))) h327 rfl fun a328 h328 => ?_; clear h327
        refine pk0 (v := .bool ((decide (chkMg d = 0 ∧ (d.k = 8 ∨ d.k = 9))) != (decide (chkMg d = 0 ∧ (d.k = 8 ∨ d.k = 9))))) h328 rfl fun a329 h329 => ?_; clear h328
        refine pl_nil ?_
        refine co_then ?_
        have hc330 : ((decide (chkMg d = 0 ∧ (d.k = 8 ∨ d.k = 9))) != (decide (chkMg d = 0 ∧ (d.k = 8 ∨ d.k = 9)))) = false := by first | (simp; done) | (simp; omega) | (rw [bne_eq_false_iff_eq]; omega)
        rw [hc330] at h329; clear hc330
        refine co_false h329 rfl ?_
        refine wp_skip ?_
        refine co_then ?_
        refine co_seq ?_
        refine dr_gen (fun x => Below w.heap.size w x ∧ Blk x N11 37 #[.int .i64 d.k, .int .i64 d.ep, .int .i64 d.rq, .int .i64 d.sr, .bool d.fg, .int .u64 d.at_, .int .u64 d.la, .int .i64 d.n, .int .i64 d.m, .int .i64 d.p, .int .i64 d.e, .string d.key, .string d.to_, .int .i64 d.cep, mv, .int .u64 d.cfl, .int .i64 d.bc, .int .i64 d.br, bv, ev, sv, pv] ∧ Blk x N121 45 #[.int .u64 mk, .int .u64 hz, .int .i64 (mxI ep 0), .int .i64 (mxI hd 0)] ∧ Blk x N151 47 #[.int .u64 mk, .int .u64 hz, .int .i64 ep, .int .i64 hd]) (by kernel_rfl) (fun w331 hg332 => ?_) (fun w331 hg332 => ?_)
        ·
         have hz333 := hg332.size
         have hB334 := hb_call hB299 hb320
         have hB335 := hb_new hB334 hg332
         have hk336 := hk305.below hb320
         have hk337 := hk336.kept hg332 (by simp)
         have hk338 := hk312.below hb320
         have hk339 := hk338.kept hg332 (by simp)
         have hk340 := hk315.below hb320
         have hk341 := hk340.kept hg332 (by simp)
         exact ⟨hB335, hk337, hk339, hk341⟩
        have hz342 := hg332.size
        have hB343 := hb_call hB299 hb320
        have hB344 := hb_new hB343 hg332
        have hk345 := hk305.below hb320
        have hk346 := hk345.kept hg332 (by simp)
        have hk347 := hk312.below hb320
        have hk348 := hk347.kept hg332 (by simp)
        have hk349 := hk315.below hb320
        have hk350 := hk349.kept hg332 (by simp)
        refine dk0 0 (v := pt N76 0) h329 rfl rfl ⟨hB344, hk346, hk348, hk350⟩ fun a351 h351 => ?_; clear h329
        refine dk 1 (v := .agg #[.int .u64 mk, .int .u64 hz, .int .i64 (mxI ep 0), .int .i64 (mxI hd 0)]) h351 rfl rfl ⟨hB344, hk346, hk348, hk350⟩ (fun x hx => (rn_loadN rfl rfl Try.underlying45 rfl (by kernel_rfl) hx.2.2.1.all)) fun a352 h352 => ?_; clear h351
        refine dk 2 (v := .agg #[.int .i64 d.k, .int .i64 d.ep, .int .i64 d.rq, .int .i64 d.sr, .bool d.fg, .int .u64 d.at_, .int .u64 d.la, .int .i64 d.n, .int .i64 d.m, .int .i64 d.p, .int .i64 d.e, .string d.key, .string d.to_, .int .i64 d.cep, mv, .int .u64 d.cfl, .int .i64 d.bc, .int .i64 d.br, bv, ev, sv, pv]) h352 rfl rfl ⟨hB344, hk346, hk348, hk350⟩ (fun x hx => (rn_loadN rfl rfl Try.underlying37 rfl (by kernel_rfl) hx.2.1.all)) fun a353 h353 => ?_; clear h352
        refine dk0 4 (v := pt d77 0) h353 rfl rfl ⟨hB344, hk346, hk348, hk350⟩ fun a354 h354 => ?_; clear h353
        refine dk 5 (v := .agg #[.int .u64 mk, .int .u64 hz, .int .i64 ep, .int .i64 hd]) h354 rfl rfl ⟨hB344, hk346, hk348, hk350⟩ (fun x hx => (rn_loadN rfl rfl Try.underlying47 rfl (by kernel_rfl) hx.2.2.2.all)) fun a355 h355 => ?_; clear h354
        refine dk 6 (v := .agg #[.int .i64 d.k, .int .i64 d.ep, .int .i64 d.rq, .int .i64 d.sr, .bool d.fg, .int .u64 d.at_, .int .u64 d.la, .int .i64 d.n, .int .i64 d.m, .int .i64 d.p, .int .i64 d.e, .string d.key, .string d.to_, .int .i64 d.cep, mv, .int .u64 d.cfl, .int .i64 d.bc, .int .i64 d.br, bv, ev, sv, pv]) h355 rfl rfl ⟨hB344, hk346, hk348, hk350⟩ (fun x hx => (rn_loadN rfl rfl Try.underlying37 rfl (by kernel_rfl) hx.2.1.all)) fun a356 h356 => ?_; clear h355
        have hk359 := hk302.below hb320
        have hk360 := hk359.kept hg332 (by simp)
        have hO361 := MvO.gr hO307 (below_grown hb320) (fun k e => by cases e)
        have hO362 := MvO.gr hO361 hg332 (fun k e => by cases e)
        have hO363 := RsO.gr hO309 (below_grown hb320) (fun k e => by cases e)
        have hO364 := RsO.gr hO363 hg332 (fun k e => by cases e)
        have hr365 := row_kept_new hr317 (below_grown hb320)
        have hr366 := row_kept_new hr365 hg332
        have hk367 := hk292.below hb320
        have hk368 := hk367.kept hg332 (by simp)
        have hr369 := row_kept_new hr319 (below_grown hb320)
        have hr370 := row_kept_new hr369 hg332
        have hk371 := hk285'.below hb320
        have hk372 := hk371.kept hg332 (by simp)
        have ho373 := MvO.ofS hO362
        have ho374 := RsO.ofS hO364
        obtain ⟨an375, han375⟩ : ∃ a, a = getF f80 d mk hz (mxI ep 0) (mxI hd 0) := ⟨_, rfl⟩
        have ban375 : AnB an375 := by rw [han375]; exact getF_b (by omega)
        refine d1 3 h356 rfl rfl (op_call (args := #[pt N76 0, .agg #[.int .u64 mk, .int .u64 hz, .int .i64 (mxI ep 0), .int .i64 (mxI hd 0)], .agg #[.int .i64 d.k, .int .i64 d.ep, .int .i64 d.rq, .int .i64 d.sr, .bool d.fg, .int .u64 d.at_, .int .u64 d.la, .int .i64 d.n, .int .i64 d.m, .int .i64 d.p, .int .i64 d.e, .string d.key, .string d.to_, .int .i64 d.cep, mv, .int .u64 d.cfl, .int .i64 d.bc, .int .i64 d.br, bv, ev, sv, pv]]) (R := fun res xw => ∃ (ao : Option Addr) (nn cap : Nat), res = .agg #[.int .i64 an375.k, .int .i64 an375.ep, .int .i64 an375.rq, .int .i64 0, .bool an375.fg, .int .u64 an375.at_, .int .u64 0, .int .i64 an375.n, .int .i64 0, .int .i64 0, .int .i64 an375.e, .string an375.key, .string (⟨#[]⟩), .int .i64 0, .slice none 0 0, .int .u64 0, .int .i64 0, .int .i64 0, .slice none 0 0, .slice none 0 0, .slice none 0 0, .slice ao nn cap] ∧ xw.ownsRow w331.heap.size 88 2 (.slice ao nn cap) an375.pr.length (an375.pr.flatMap pairE) ∧ Below w331.heap.size w331 xw) rfl rfl rfl (by kernel_rfl) (by kernel_rfl) (Try.call16 _ _) (uGet S78 N76 f80 la81 ce82 m83 mk hz (mxI ep 0) (mxI hd 0) d mv bv ev sv pv w331 hO362 (by omega) (hM.below hB344)) (by rintro e x ⟨a, u, ha, h0, h⟩; obtain ⟨ao, nn, cap, rfl⟩ := own_sliceT h.1; rw [← han375] at ha; subst ha; exact ⟨_, h0, ao, nn, cap, rfl, h⟩)) ?_ ?_; clear h356
        ·
         rintro _ w358 ⟨ao376, nn377, cp378, rfl, hr379, hb380⟩
         have hz381 := hb380.size
         have ho382 := MvO.ofS hO362
         have ho383 := RsO.ofS hO364
         have hra384 : ∀ i, (Value.slice ao376 nn377 cp378).ownBlock = some i → Value.ownBlock (.slice ao197 nn198 cp199) ≠ some i := fun i hi h1 => by have e1 := (hr379.lt i hi).1; have e2 := (hr366.lt i h1).2; omega
         have hra385 : ∀ i, (Value.slice ao376 nn377 cp378).ownBlock = some i → Value.ownBlock (.slice ao256 nn257 cp258) ≠ some i := fun i hi h1 => by have e1 := (hr379.lt i hi).1; have e2 := (hr370.lt i h1).2; omega
         have hB386 := hb_call hB344 hb380
         have hk387 := hk346.below hb380
         have hk388 := hk348.below hb380
         have hk389 := hk350.below hb380
         exact ⟨hB386, hk387, hk388, hk389⟩
        rintro _ w358 a357 ⟨ao376, nn377, cp378, rfl, hr379, hb380⟩ h357
        have hz381 := hb380.size
        have ho382 := MvO.ofS hO362
        have ho383 := RsO.ofS hO364
        have hra384 : ∀ i, (Value.slice ao376 nn377 cp378).ownBlock = some i → Value.ownBlock (.slice ao197 nn198 cp199) ≠ some i := fun i hi h1 => by have e1 := (hr379.lt i hi).1; have e2 := (hr366.lt i h1).2; omega
        have hra385 : ∀ i, (Value.slice ao376 nn377 cp378).ownBlock = some i → Value.ownBlock (.slice ao256 nn257 cp258) ≠ some i := fun i hi h1 => by have e1 := (hr379.lt i hi).1; have e2 := (hr370.lt i h1).2; omega
        have hB386 := hb_call hB344 hb380
        have hk387 := hk346.below hb380
        have hk388 := hk348.below hb380
        have hk389 := hk350.below hb380
        have hO393 := MvO.gr hO362 (below_grown hb380) (fun k e => by cases e)
        have ho392 := MvO.ofS hO393
        have hO395 := RsO.gr hO364 (below_grown hb380) (fun k e => by cases e)
        have ho394 := RsO.ofS hO395
        have hr401 := row_kept_new hr366 (below_grown hb380)
        have hr402 := row_kept_new hr370 (below_grown hb380)
        refine d1 7 h357 rfl rfl (op_call (args := #[pt d77 0, .agg #[.int .u64 mk, .int .u64 hz, .int .i64 ep, .int .i64 hd], .agg #[.int .i64 d.k, .int .i64 d.ep, .int .i64 d.rq, .int .i64 d.sr, .bool d.fg, .int .u64 d.at_, .int .u64 d.la, .int .i64 d.n, .int .i64 d.m, .int .i64 d.p, .int .i64 d.e, .string d.key, .string d.to_, .int .i64 d.cep, mv, .int .u64 d.cfl, .int .i64 d.bc, .int .i64 d.br, bv, ev, sv, pv]]) (R := fun res xw => ∃ (ao : Option Addr) (nn cap : Nat), res = .agg #[.int .i64 an375.k, .int .i64 an375.ep, .int .i64 an375.rq, .int .i64 0, .bool an375.fg, .int .u64 an375.at_, .int .u64 0, .int .i64 an375.n, .int .i64 0, .int .i64 0, .int .i64 an375.e, .string an375.key, .string (⟨#[]⟩), .int .i64 0, .slice none 0 0, .int .u64 0, .int .i64 0, .int .i64 0, .slice none 0 0, .slice none 0 0, .slice none 0 0, .slice ao nn cap] ∧ xw.ownsRow w358.heap.size 88 2 (.slice ao nn cap) an375.pr.length (an375.pr.flatMap pairE) ∧ Below w358.heap.size w358 xw) rfl rfl rfl (by kernel_rfl) (by kernel_rfl) (Try.call17 _ _) (vGet D79 d77 f80 la81 m83 mk hz ep hd d mv bv ev sv pv w358 hO395 (by omega) (hM.below hB386)) (by rintro e x ⟨a, u, ha, h0, h⟩; obtain ⟨ao, nn, cap, rfl⟩ := own_sliceT h.1; rw [← han375] at ha; subst ha; exact ⟨_, h0, ao, nn, cap, rfl, h⟩)) ?_ ?_; clear h357
        ·
         rintro _ w391 ⟨ao396, nn397, cp398, rfl, hr399, hb400⟩
         have hz403 := hb400.size
         have ho404 := MvO.ofS hO393
         have ho405 := RsO.ofS hO395
         have hra406 : ∀ i, (Value.slice ao396 nn397 cp398).ownBlock = some i → Value.ownBlock (.slice ao197 nn198 cp199) ≠ some i := fun i hi h1 => by have e1 := (hr399.lt i hi).1; have e2 := (hr401.lt i h1).2; omega
         have hra407 : ∀ i, (Value.slice ao396 nn397 cp398).ownBlock = some i → Value.ownBlock (.slice ao256 nn257 cp258) ≠ some i := fun i hi h1 => by have e1 := (hr399.lt i hi).1; have e2 := (hr402.lt i h1).2; omega
         have hra408 : ∀ i, (Value.slice ao396 nn397 cp398).ownBlock = some i → Value.ownBlock (.slice ao376 nn377 cp378) ≠ some i := fun i hi h1 => by have e1 := (hr399.lt i hi).1; have e2 := (hr379.lt i h1).2; omega
         have hB409 := hb_call hB386 hb400
         have hk410 := hk387.below hb400
         have hk411 := hk388.below hb400
         have hk412 := hk389.below hb400
         exact ⟨hB409, hk410, hk411, hk412⟩
        rintro _ w391 a390 ⟨ao396, nn397, cp398, rfl, hr399, hb400⟩ h390
        have hz403 := hb400.size
        have ho404 := MvO.ofS hO393
        have ho405 := RsO.ofS hO395
        have hra406 : ∀ i, (Value.slice ao396 nn397 cp398).ownBlock = some i → Value.ownBlock (.slice ao197 nn198 cp199) ≠ some i := fun i hi h1 => by have e1 := (hr399.lt i hi).1; have e2 := (hr401.lt i h1).2; omega
        have hra407 : ∀ i, (Value.slice ao396 nn397 cp398).ownBlock = some i → Value.ownBlock (.slice ao256 nn257 cp258) ≠ some i := fun i hi h1 => by have e1 := (hr399.lt i hi).1; have e2 := (hr402.lt i h1).2; omega
        have hra408 : ∀ i, (Value.slice ao396 nn397 cp398).ownBlock = some i → Value.ownBlock (.slice ao376 nn377 cp378) ≠ some i := fun i hi h1 => by have e1 := (hr399.lt i hi).1; have e2 := (hr379.lt i h1).2; omega
        have hB409 := hb_call hB386 hb400
        have hk410 := hk387.below hb400
        have hk411 := hk388.below hb400
        have hk412 := hk389.below hb400
        have hk415 := hk360.below hb380
        have hk416 := hk415.below hb400
        have hk417 := hk368.below hb380
        have hk418 := hk417.below hb400
        have hk419 := hk372.below hb380
        have hk420 := hk419.below hb400
        have hr421 := row_kept_new hr379 (below_grown hb400)
        refine d1 8 h390 rfl rfl (op_call (args := #[.agg #[.int .i64 an375.k, .int .i64 an375.ep, .int .i64 an375.rq, .int .i64 0, .bool an375.fg, .int .u64 an375.at_, .int .u64 0, .int .i64 an375.n, .int .i64 0, .int .i64 0, .int .i64 an375.e, .string an375.key, .string (⟨#[]⟩), .int .i64 0, .slice none 0 0, .int .u64 0, .int .i64 0, .int .i64 0, .slice none 0 0, .slice none 0 0, .slice none 0 0, .slice ao376 nn377 cp378], .agg #[.int .i64 an375.k, .int .i64 an375.ep, .int .i64 an375.rq, .int .i64 0, .bool an375.fg, .int .u64 an375.at_, .int .u64 0, .int .i64 an375.n, .int .i64 0, .int .i64 0, .int .i64 an375.e, .string an375.key, .string (⟨#[]⟩), .int .i64 0, .slice none 0 0, .int .u64 0, .int .i64 0, .int .i64 0, .slice none 0 0, .slice none 0 0, .slice none 0 0, .slice ao396 nn397 cp398]]) (R := fun res xw => res = .bool true ∧ Below w391.heap.size w391 xw) rfl rfl rfl (by kernel_rfl) (by kernel_rfl) (Try.call15 _ _) (sameMsgM (AnT.d an375) (.slice none 0 0) (.slice none 0 0) (.slice none 0 0) (.slice none 0 0) (.slice ao376 nn377 cp378) (.slice none 0 0) (.slice none 0 0) (.slice none 0 0) [] (.slice none 0 0) (.slice ao396 nn397 cp398) w391 (sl_nil _) (sl_nil _) (sl_nil _) (sl_nil _) (row_sl hr421 pairE_len) (fun _ h => by cases h) (an_R ban375) (sl_nil _) (sl_nil _) (sl_nil _) (sl_nil _) (row_sl hr399 pairE_len) (fun _ h => by cases h) EqEn.nil) (by rintro e x ⟨rfl, h⟩; exact ⟨_, rfl, rfl, h⟩)) ?_ ?_; clear h390
        ·
         rintro _ w414 ⟨rfl, hb422⟩
         have hz423 := hb422.size
         have hO425 := MvO.gr hO393 (below_grown hb400) (fun k e => by cases e)
         have ho424 := MvO.ofS hO425
         have hO427 := RsO.gr hO395 (below_grown hb400) (fun k e => by cases e)
         have ho426 := RsO.ofS hO427
         have hB428 := hb_call hB409 hb422
         have hk429 := hk410.below hb422
         have hk430 := hk411.below hb422
         have hk431 := hk412.below hb422
         exact ⟨hB428, hk429, hk430, hk431⟩
        rintro _ w414 a413 ⟨rfl, hb422⟩ h413
        have hz423 := hb422.size
        have hO425 := MvO.gr hO393 (below_grown hb400) (fun k e => by cases e)
        have ho424 := MvO.ofS hO425
        have hO427 := RsO.gr hO395 (below_grown hb400) (fun k e => by cases e)
        have ho426 := RsO.ofS hO427
        have hB428 := hb_call hB409 hb422
        have hk429 := hk410.below hb422
        have hk430 := hk411.below hb422
        have hk431 := hk412.below hb422
        refine dk0 9 (v := .bool true) h413 rfl rfl ⟨hB428, hk429, hk430, hk431⟩ fun a432 h432 => ?_; clear h413
        refine dk0 10 (v := pt N76 0) h432 rfl rfl ⟨hB428, hk429, hk430, hk431⟩ fun a433 h433 => ?_; clear h432
        refine dk 11 (v := .agg #[.int .u64 mk, .int .u64 hz, .int .i64 (mxI ep 0), .int .i64 (mxI hd 0)]) h433 rfl rfl ⟨hB428, hk429, hk430, hk431⟩ (fun x hx => (rn_loadN rfl rfl Try.underlying45 rfl (by kernel_rfl) hx.2.2.1.all)) fun a434 h434 => ?_; clear h433
        refine dk 12 (v := .agg #[.int .i64 d.k, .int .i64 d.ep, .int .i64 d.rq, .int .i64 d.sr, .bool d.fg, .int .u64 d.at_, .int .u64 d.la, .int .i64 d.n, .int .i64 d.m, .int .i64 d.p, .int .i64 d.e, .string d.key, .string d.to_, .int .i64 d.cep, mv, .int .u64 d.cfl, .int .i64 d.bc, .int .i64 d.br, bv, ev, sv, pv]) h434 rfl rfl ⟨hB428, hk429, hk430, hk431⟩ (fun x hx => (rn_loadN rfl rfl Try.underlying37 rfl (by kernel_rfl) hx.2.1.all)) fun a435 h435 => ?_; clear h434
        refine dk0 14 (v := pt d77 0) h435 rfl rfl ⟨hB428, hk429, hk430, hk431⟩ fun a436 h436 => ?_; clear h435
        refine dk 15 (v := .agg #[.int .u64 mk, .int .u64 hz, .int .i64 ep, .int .i64 hd]) h436 rfl rfl ⟨hB428, hk429, hk430, hk431⟩ (fun x hx => (rn_loadN rfl rfl Try.underlying47 rfl (by kernel_rfl) hx.2.2.2.all)) fun a437 h437 => ?_; clear h436
        refine dk 16 (v := .agg #[.int .i64 d.k, .int .i64 d.ep, .int .i64 d.rq, .int .i64 d.sr, .bool d.fg, .int .u64 d.at_, .int .u64 d.la, .int .i64 d.n, .int .i64 d.m, .int .i64 d.p, .int .i64 d.e, .string d.key, .string d.to_, .int .i64 d.cep, mv, .int .u64 d.cfl, .int .i64 d.bc, .int .i64 d.br, bv, ev, sv, pv]) h437 rfl rfl ⟨hB428, hk429, hk430, hk431⟩ (fun x hx => (rn_loadN rfl rfl Try.underlying37 rfl (by kernel_rfl) hx.2.1.all)) fun a438 h438 => ?_; clear h437
        have hr441 := row_kept_new hr401 (below_grown hb400)
        have hr442 := row_kept_new hr441 (below_grown hb422)
        have hr443 := row_kept_new hr402 (below_grown hb400)
        have hr444 := row_kept_new hr443 (below_grown hb422)
        have hO446 := MvO.gr hO425 (below_grown hb422) (fun k e => by cases e)
        have ho445 := MvO.ofS hO446
        have hO448 := RsO.gr hO427 (below_grown hb422) (fun k e => by cases e)
        have ho447 := RsO.ofS hO448
        obtain ⟨an449, han449⟩ : ∃ a, a = scanF f80 d mk hz (mxI ep 0) (mxI hd 0) := ⟨_, rfl⟩
        have ban449 : AnB an449 := by rw [han449]; exact scanF_b (by omega)
        have hr455 := row_kept_new hr421 (below_grown hb422)
        have hr456 := row_kept_new hr399 (below_grown hb422)
        refine d1 13 h438 rfl rfl (op_call (args := #[pt N76 0, .agg #[.int .u64 mk, .int .u64 hz, .int .i64 (mxI ep 0), .int .i64 (mxI hd 0)], .agg #[.int .i64 d.k, .int .i64 d.ep, .int .i64 d.rq, .int .i64 d.sr, .bool d.fg, .int .u64 d.at_, .int .u64 d.la, .int .i64 d.n, .int .i64 d.m, .int .i64 d.p, .int .i64 d.e, .string d.key, .string d.to_, .int .i64 d.cep, mv, .int .u64 d.cfl, .int .i64 d.bc, .int .i64 d.br, bv, ev, sv, pv]]) (R := fun res xw => ∃ (ao : Option Addr) (nn cap : Nat), res = .agg #[.int .i64 an449.k, .int .i64 an449.ep, .int .i64 an449.rq, .int .i64 0, .bool an449.fg, .int .u64 an449.at_, .int .u64 0, .int .i64 an449.n, .int .i64 0, .int .i64 0, .int .i64 an449.e, .string an449.key, .string (⟨#[]⟩), .int .i64 0, .slice none 0 0, .int .u64 0, .int .i64 0, .int .i64 0, .slice none 0 0, .slice none 0 0, .slice none 0 0, .slice ao nn cap] ∧ xw.ownsRow w414.heap.size 88 2 (.slice ao nn cap) an449.pr.length (an449.pr.flatMap pairE) ∧ Below w414.heap.size w414 xw) rfl rfl rfl (by kernel_rfl) (by kernel_rfl) (Try.call18 _ _) (uScan S78 N76 f80 la81 ce82 m83 mk hz (mxI ep 0) (mxI hd 0) d mv bv ev sv pv w414 hO446 (by omega) (hM.below hB428)) (by rintro e x ⟨a, u, ha, h0, h⟩; obtain ⟨ao, nn, cap, rfl⟩ := own_sliceT h.1; rw [← han449] at ha; subst ha; exact ⟨_, h0, ao, nn, cap, rfl, h⟩)) ?_ ?_; clear h438
        ·
         rintro _ w440 ⟨ao450, nn451, cp452, rfl, hr453, hb454⟩
         have hz457 := hb454.size
         have ho458 := MvO.ofS hO446
         have ho459 := RsO.ofS hO448
         have hra460 : ∀ i, (Value.slice ao450 nn451 cp452).ownBlock = some i → Value.ownBlock (.slice ao197 nn198 cp199) ≠ some i := fun i hi h1 => by have e1 := (hr453.lt i hi).1; have e2 := (hr442.lt i h1).2; omega
         have hra461 : ∀ i, (Value.slice ao450 nn451 cp452).ownBlock = some i → Value.ownBlock (.slice ao256 nn257 cp258) ≠ some i := fun i hi h1 => by have e1 := (hr453.lt i hi).1; have e2 := (hr444.lt i h1).2; omega
         have hra462 : ∀ i, (Value.slice ao450 nn451 cp452).ownBlock = some i → Value.ownBlock (.slice ao376 nn377 cp378) ≠ some i := fun i hi h1 => by have e1 := (hr453.lt i hi).1; have e2 := (hr455.lt i h1).2; omega
         have hra463 : ∀ i, (Value.slice ao450 nn451 cp452).ownBlock = some i → Value.ownBlock (.slice ao396 nn397 cp398) ≠ some i := fun i hi h1 => by have e1 := (hr453.lt i hi).1; have e2 := (hr456.lt i h1).2; omega
         have hB464 := hb_call hB428 hb454
         have hk465 := hk429.below hb454
         have hk466 := hk430.below hb454
         have hk467 := hk431.below hb454
         exact ⟨hB464, hk465, hk466, hk467⟩
        rintro _ w440 a439 ⟨ao450, nn451, cp452, rfl, hr453, hb454⟩ h439
        have hz457 := hb454.size
        have ho458 := MvO.ofS hO446
        have ho459 := RsO.ofS hO448
        have hra460 : ∀ i, (Value.slice ao450 nn451 cp452).ownBlock = some i → Value.ownBlock (.slice ao197 nn198 cp199) ≠ some i := fun i hi h1 => by have e1 := (hr453.lt i hi).1; have e2 := (hr442.lt i h1).2; omega
        have hra461 : ∀ i, (Value.slice ao450 nn451 cp452).ownBlock = some i → Value.ownBlock (.slice ao256 nn257 cp258) ≠ some i := fun i hi h1 => by have e1 := (hr453.lt i hi).1; have e2 := (hr444.lt i h1).2; omega
        have hra462 : ∀ i, (Value.slice ao450 nn451 cp452).ownBlock = some i → Value.ownBlock (.slice ao376 nn377 cp378) ≠ some i := fun i hi h1 => by have e1 := (hr453.lt i hi).1; have e2 := (hr455.lt i h1).2; omega
        have hra463 : ∀ i, (Value.slice ao450 nn451 cp452).ownBlock = some i → Value.ownBlock (.slice ao396 nn397 cp398) ≠ some i := fun i hi h1 => by have e1 := (hr453.lt i hi).1; have e2 := (hr456.lt i h1).2; omega
        have hB464 := hb_call hB428 hb454
        have hk465 := hk429.below hb454
        have hk466 := hk430.below hb454
        have hk467 := hk431.below hb454
        have hk470 := hk416.below hb422
        have hk471 := hk470.below hb454
        have hk472 := hk418.below hb422
        have hk473 := hk472.below hb454
        have hk474 := hk420.below hb422
        have hk475 := hk474.below hb454
        have hO477 := MvO.gr hO446 (below_grown hb454) (fun k e => by cases e)
        have ho476 := MvO.ofS hO477
        have hO479 := RsO.gr hO448 (below_grown hb454) (fun k e => by cases e)
        have ho478 := RsO.ofS hO479
        have hr485 := row_kept_new hr442 (below_grown hb454)
        have hr486 := row_kept_new hr444 (below_grown hb454)
        have hr487 := row_kept_new hr455 (below_grown hb454)
        have hr488 := row_kept_new hr456 (below_grown hb454)
        refine d1 17 h439 rfl rfl (op_call (args := #[pt d77 0, .agg #[.int .u64 mk, .int .u64 hz, .int .i64 ep, .int .i64 hd], .agg #[.int .i64 d.k, .int .i64 d.ep, .int .i64 d.rq, .int .i64 d.sr, .bool d.fg, .int .u64 d.at_, .int .u64 d.la, .int .i64 d.n, .int .i64 d.m, .int .i64 d.p, .int .i64 d.e, .string d.key, .string d.to_, .int .i64 d.cep, mv, .int .u64 d.cfl, .int .i64 d.bc, .int .i64 d.br, bv, ev, sv, pv]]) (R := fun res xw => ∃ (ao : Option Addr) (nn cap : Nat), res = .agg #[.int .i64 an449.k, .int .i64 an449.ep, .int .i64 an449.rq, .int .i64 0, .bool an449.fg, .int .u64 an449.at_, .int .u64 0, .int .i64 an449.n, .int .i64 0, .int .i64 0, .int .i64 an449.e, .string an449.key, .string (⟨#[]⟩), .int .i64 0, .slice none 0 0, .int .u64 0, .int .i64 0, .int .i64 0, .slice none 0 0, .slice none 0 0, .slice none 0 0, .slice ao nn cap] ∧ xw.ownsRow w440.heap.size 88 2 (.slice ao nn cap) an449.pr.length (an449.pr.flatMap pairE) ∧ Below w440.heap.size w440 xw) rfl rfl rfl (by kernel_rfl) (by kernel_rfl) (Try.call19 _ _) (vScan D79 d77 f80 la81 m83 mk hz ep hd d mv bv ev sv pv w440 hO479 (by omega) (hM.below hB464)) (by rintro e x ⟨a, u, ha, h0, h⟩; obtain ⟨ao, nn, cap, rfl⟩ := own_sliceT h.1; rw [← han449] at ha; subst ha; exact ⟨_, h0, ao, nn, cap, rfl, h⟩)) ?_ ?_; clear h439
        ·
         rintro _ w469 ⟨ao480, nn481, cp482, rfl, hr483, hb484⟩
         have hz489 := hb484.size
         have ho490 := MvO.ofS hO477
         have ho491 := RsO.ofS hO479
         have hra492 : ∀ i, (Value.slice ao480 nn481 cp482).ownBlock = some i → Value.ownBlock (.slice ao197 nn198 cp199) ≠ some i := fun i hi h1 => by have e1 := (hr483.lt i hi).1; have e2 := (hr485.lt i h1).2; omega
         have hra493 : ∀ i, (Value.slice ao480 nn481 cp482).ownBlock = some i → Value.ownBlock (.slice ao256 nn257 cp258) ≠ some i := fun i hi h1 => by have e1 := (hr483.lt i hi).1; have e2 := (hr486.lt i h1).2; omega
         have hra494 : ∀ i, (Value.slice ao480 nn481 cp482).ownBlock = some i → Value.ownBlock (.slice ao376 nn377 cp378) ≠ some i := fun i hi h1 => by have e1 := (hr483.lt i hi).1; have e2 := (hr487.lt i h1).2; omega
         have hra495 : ∀ i, (Value.slice ao480 nn481 cp482).ownBlock = some i → Value.ownBlock (.slice ao396 nn397 cp398) ≠ some i := fun i hi h1 => by have e1 := (hr483.lt i hi).1; have e2 := (hr488.lt i h1).2; omega
         have hra496 : ∀ i, (Value.slice ao480 nn481 cp482).ownBlock = some i → Value.ownBlock (.slice ao450 nn451 cp452) ≠ some i := fun i hi h1 => by have e1 := (hr483.lt i hi).1; have e2 := (hr453.lt i h1).2; omega
         have hB497 := hb_call hB464 hb484
         have hk498 := hk465.below hb484
         have hk499 := hk466.below hb484
         have hk500 := hk467.below hb484
         exact ⟨hB497, hk498, hk499, hk500⟩
        rintro _ w469 a468 ⟨ao480, nn481, cp482, rfl, hr483, hb484⟩ h468
        have hz489 := hb484.size
        have ho490 := MvO.ofS hO477
        have ho491 := RsO.ofS hO479
        have hra492 : ∀ i, (Value.slice ao480 nn481 cp482).ownBlock = some i → Value.ownBlock (.slice ao197 nn198 cp199) ≠ some i := fun i hi h1 => by have e1 := (hr483.lt i hi).1; have e2 := (hr485.lt i h1).2; omega
        have hra493 : ∀ i, (Value.slice ao480 nn481 cp482).ownBlock = some i → Value.ownBlock (.slice ao256 nn257 cp258) ≠ some i := fun i hi h1 => by have e1 := (hr483.lt i hi).1; have e2 := (hr486.lt i h1).2; omega
        have hra494 : ∀ i, (Value.slice ao480 nn481 cp482).ownBlock = some i → Value.ownBlock (.slice ao376 nn377 cp378) ≠ some i := fun i hi h1 => by have e1 := (hr483.lt i hi).1; have e2 := (hr487.lt i h1).2; omega
        have hra495 : ∀ i, (Value.slice ao480 nn481 cp482).ownBlock = some i → Value.ownBlock (.slice ao396 nn397 cp398) ≠ some i := fun i hi h1 => by have e1 := (hr483.lt i hi).1; have e2 := (hr488.lt i h1).2; omega
        have hra496 : ∀ i, (Value.slice ao480 nn481 cp482).ownBlock = some i → Value.ownBlock (.slice ao450 nn451 cp452) ≠ some i := fun i hi h1 => by have e1 := (hr483.lt i hi).1; have e2 := (hr453.lt i h1).2; omega
        have hB497 := hb_call hB464 hb484
        have hk498 := hk465.below hb484
        have hk499 := hk466.below hb484
        have hk500 := hk467.below hb484
        have hr503 := row_kept_new hr453 (below_grown hb484)
        refine d1 18 h468 rfl rfl (op_call (args := #[.agg #[.int .i64 an449.k, .int .i64 an449.ep, .int .i64 an449.rq, .int .i64 0, .bool an449.fg, .int .u64 an449.at_, .int .u64 0, .int .i64 an449.n, .int .i64 0, .int .i64 0, .int .i64 an449.e, .string an449.key, .string (⟨#[]⟩), .int .i64 0, .slice none 0 0, .int .u64 0, .int .i64 0, .int .i64 0, .slice none 0 0, .slice none 0 0, .slice none 0 0, .slice ao450 nn451 cp452], .agg #[.int .i64 an449.k, .int .i64 an449.ep, .int .i64 an449.rq, .int .i64 0, .bool an449.fg, .int .u64 an449.at_, .int .u64 0, .int .i64 an449.n, .int .i64 0, .int .i64 0, .int .i64 an449.e, .string an449.key, .string (⟨#[]⟩), .int .i64 0, .slice none 0 0, .int .u64 0, .int .i64 0, .int .i64 0, .slice none 0 0, .slice none 0 0, .slice none 0 0, .slice ao480 nn481 cp482]]) (R := fun res xw => res = .bool true ∧ Below w469.heap.size w469 xw) rfl rfl rfl (by kernel_rfl) (by kernel_rfl) (Try.call15 _ _) (sameMsgM (AnT.d an449) (.slice none 0 0) (.slice none 0 0) (.slice none 0 0) (.slice none 0 0) (.slice ao450 nn451 cp452) (.slice none 0 0) (.slice none 0 0) (.slice none 0 0) [] (.slice none 0 0) (.slice ao480 nn481 cp482) w469 (sl_nil _) (sl_nil _) (sl_nil _) (sl_nil _) (row_sl hr503 pairE_len) (fun _ h => by cases h) (an_R ban449) (sl_nil _) (sl_nil _) (sl_nil _) (sl_nil _) (row_sl hr483 pairE_len) (fun _ h => by cases h) EqEn.nil) (by rintro e x ⟨rfl, h⟩; exact ⟨_, rfl, rfl, h⟩)) ?_ ?_; clear h468
        ·
         rintro _ w502 ⟨rfl, hb504⟩
         have hz505 := hb504.size
         have hO507 := MvO.gr hO477 (below_grown hb484) (fun k e => by cases e)
         have ho506 := MvO.ofS hO507
         have hO509 := RsO.gr hO479 (below_grown hb484) (fun k e => by cases e)
         have ho508 := RsO.ofS hO509
         have hB510 := hb_call hB497 hb504
         have hk511 := hk498.below hb504
         have hk512 := hk499.below hb504
         have hk513 := hk500.below hb504
         exact ⟨hB510, hk511, hk512, hk513⟩
        rintro _ w502 a501 ⟨rfl, hb504⟩ h501
        have hz505 := hb504.size
        have hO507 := MvO.gr hO477 (below_grown hb484) (fun k e => by cases e)
        have ho506 := MvO.ofS hO507
        have hO509 := RsO.gr hO479 (below_grown hb484) (fun k e => by cases e)
        have ho508 := RsO.ofS hO509
        have hB510 := hb_call hB497 hb504
        have hk511 := hk498.below hb504
        have hk512 := hk499.below hb504
        have hk513 := hk500.below hb504
        refine dk0 19 (v := .bool true) h501 rfl rfl ⟨hB510, hk511, hk512, hk513⟩ fun a514 h514 => ?_; clear h501
        refine dk0 20 (v := .bool true) h514 rfl rfl ⟨hB510, hk511, hk512, hk513⟩ fun a515 h515 => ?_; clear h514
        refine dk 21 (v := .agg #[.int .u64 mk, .int .u64 hz, .int .i64 (mxI ep 0), .int .i64 (mxI hd 0)]) h515 rfl rfl ⟨hB510, hk511, hk512, hk513⟩ (fun x hx => (rn_loadN rfl rfl Try.underlying45 rfl (by kernel_rfl) hx.2.2.1.all)) fun a516 h516 => ?_; clear h515
        refine dk0 22 (v := pt N11 2) h516 rfl rfl ⟨hB510, hk511, hk512, hk513⟩ fun a517 h517 => ?_; clear h516
        refine dk 23 (v := .int .i64 d.rq) h517 rfl rfl ⟨hB510, hk511, hk512, hk513⟩ (fun x hx => (rn_load1 rfl rfl Try.isAgg3 (hx.2.1.cell rfl))) fun a518 h518 => ?_; clear h517
        refine dk0 24 (v := pt N11 10) h518 rfl rfl ⟨hB510, hk511, hk512, hk513⟩ fun a519 h519 => ?_; clear h518
        refine dk 25 (v := .int .i64 d.e) h519 rfl rfl ⟨hB510, hk511, hk512, hk513⟩ (fun x hx => (rn_load1 rfl rfl Try.isAgg26 (hx.2.1.cell rfl))) fun a520 h520 => ?_; clear h519
        refine dk 27 (v := .agg #[.int .u64 mk, .int .u64 hz, .int .i64 ep, .int .i64 hd]) h520 rfl rfl ⟨hB510, hk511, hk512, hk513⟩ (fun x hx => (rn_loadN rfl rfl Try.underlying47 rfl (by kernel_rfl) hx.2.2.2.all)) fun a521 h521 => ?_; clear h520
        refine dk0 28 (v := pt N11 2) h521 rfl rfl ⟨hB510, hk511, hk512, hk513⟩ fun a522 h522 => ?_; clear h521
        refine dk 29 (v := .int .i64 d.rq) h522 rfl rfl ⟨hB510, hk511, hk512, hk513⟩ (fun x hx => (rn_load1 rfl rfl Try.isAgg3 (hx.2.1.cell rfl))) fun a523 h523 => ?_; clear h522
        refine dk0 30 (v := pt N11 10) h523 rfl rfl ⟨hB510, hk511, hk512, hk513⟩ fun a524 h524 => ?_; clear h523
        refine dk 31 (v := .int .i64 d.e) h524 rfl rfl ⟨hB510, hk511, hk512, hk513⟩ (fun x hx => (rn_load1 rfl rfl Try.isAgg26 (hx.2.1.cell rfl))) fun a525 h525 => ?_; clear h524
        refine d1 26 h525 rfl rfl (op_call (args := #[.agg #[.int .u64 mk, .int .u64 hz, .int .i64 (mxI ep 0), .int .i64 (mxI hd 0)], .int .i64 d.rq, .int .i64 d.e]) (R := fun res xw => res = .agg #[.int .i64 7, .int .i64 (mxI ep 0), .int .i64 d.rq, .int .i64 0, .bool false, .int .u64 0, .int .u64 0, .int .i64 (mxI hd 0), .int .i64 0, .int .i64 0, .int .i64 d.e, .string (⟨#[]⟩), .string (⟨#[]⟩), .int .i64 0, .slice none 0 0, .int .u64 0, .int .i64 0, .int .i64 0, .slice none 0 0, .slice none 0 0, .slice none 0 0, .slice none 0 0] ∧ Below w502.heap.size w502 xw) rfl rfl rfl (by kernel_rfl) (by kernel_rfl) (Try.call20 _ _) (srvNo_any mk hz (mxI ep 0) (mxI hd 0) d.rq d.e w502 ) (by rintro e x ⟨rfl, hb528⟩; exact ⟨_, rfl, ⟨rfl, hb528⟩⟩)) ?_ ?_; clear h525
        ·
         rintro _ w527 ⟨rfl, hb528⟩
         have hz529 := hb528.size
         have hO531 := MvO.gr hO507 (below_grown hb504) (fun k e => by cases e)
         have ho530 := MvO.ofS hO531
         have hO533 := RsO.gr hO509 (below_grown hb504) (fun k e => by cases e)
         have ho532 := RsO.ofS hO533
         have hB534 := hb_call hB510 hb528
         have hk535 := hk511.below hb528
         have hk536 := hk512.below hb528
         have hk537 := hk513.below hb528
         exact ⟨hB534, hk535, hk536, hk537⟩
        rintro _ w527 a526 ⟨rfl, hb528⟩ h526
        have hz529 := hb528.size
        have hO531 := MvO.gr hO507 (below_grown hb504) (fun k e => by cases e)
        have ho530 := MvO.ofS hO531
        have hO533 := RsO.gr hO509 (below_grown hb504) (fun k e => by cases e)
        have ho532 := RsO.ofS hO533
        have hB534 := hb_call hB510 hb528
        have hk535 := hk511.below hb528
        have hk536 := hk512.below hb528
        have hk537 := hk513.below hb528
        refine d1 32 h526 rfl rfl (op_call (args := #[.agg #[.int .u64 mk, .int .u64 hz, .int .i64 ep, .int .i64 hd], .int .i64 d.rq, .int .i64 d.e]) (R := fun res xw => res = .agg #[.int .i64 7, .int .i64 (mxI ep 0), .int .i64 d.rq, .int .i64 0, .bool false, .int .u64 0, .int .u64 0, .int .i64 (mxI hd 0), .int .i64 0, .int .i64 0, .int .i64 d.e, .string (⟨#[]⟩), .string (⟨#[]⟩), .int .i64 0, .slice none 0 0, .int .u64 0, .int .i64 0, .int .i64 0, .slice none 0 0, .slice none 0 0, .slice none 0 0, .slice none 0 0] ∧ Below w527.heap.size w527 xw) rfl rfl rfl (by kernel_rfl) (by kernel_rfl) (Try.call21 _ _) (r31No_any mk hz ep hd d.rq d.e w527 ) (by rintro e x ⟨rfl, hb540⟩; exact ⟨_, rfl, ⟨rfl, hb540⟩⟩)) ?_ ?_; clear h526
        ·
         rintro _ w539 ⟨rfl, hb540⟩
         have hz541 := hb540.size
         have hO543 := MvO.gr hO531 (below_grown hb528) (fun k e => by cases e)
         have ho542 := MvO.ofS hO543
         have hO545 := RsO.gr hO533 (below_grown hb528) (fun k e => by cases e)
         have ho544 := RsO.ofS hO545
         have hB546 := hb_call hB534 hb540
         have hk547 := hk535.below hb540
         have hk548 := hk536.below hb540
         have hk549 := hk537.below hb540
         exact ⟨hB546, hk547, hk548, hk549⟩
        rintro _ w539 a538 ⟨rfl, hb540⟩ h538
        have hz541 := hb540.size
        have hO543 := MvO.gr hO531 (below_grown hb528) (fun k e => by cases e)
        have ho542 := MvO.ofS hO543
        have hO545 := RsO.gr hO533 (below_grown hb528) (fun k e => by cases e)
        have ho544 := RsO.ofS hO545
        have hB546 := hb_call hB534 hb540
        have hk547 := hk535.below hb540
        have hk548 := hk536.below hb540
        have hk549 := hk537.below hb540
        have hk552 := hk471.below hb484
        have hk553 := hk552.below hb504
        have hk554 := hk553.below hb528
        have hk555 := hk554.below hb540
        have hr556 := row_kept_new hr485 (below_grown hb484)
        have hr557 := row_kept_new hr556 (below_grown hb504)
        have hr558 := row_kept_new hr557 (below_grown hb528)
        have hr559 := row_kept_new hr558 (below_grown hb540)
        have hk560 := hk473.below hb484
        have hk561 := hk560.below hb504
        have hk562 := hk561.below hb528
        have hk563 := hk562.below hb540
        have hr564 := row_kept_new hr486 (below_grown hb484)
        have hr565 := row_kept_new hr564 (below_grown hb504)
        have hr566 := row_kept_new hr565 (below_grown hb528)
        have hr567 := row_kept_new hr566 (below_grown hb540)
        have hk568 := hk475.below hb484
        have hk569 := hk568.below hb504
        have hk570 := hk569.below hb528
        have hk571 := hk570.below hb540
        have hr572 := row_kept_new hr487 (below_grown hb484)
        have hr573 := row_kept_new hr572 (below_grown hb504)
        have hr574 := row_kept_new hr573 (below_grown hb528)
        have hr575 := row_kept_new hr574 (below_grown hb540)
        have hr576 := row_kept_new hr488 (below_grown hb484)
        have hr577 := row_kept_new hr576 (below_grown hb504)
        have hr578 := row_kept_new hr577 (below_grown hb528)
        have hr579 := row_kept_new hr578 (below_grown hb540)
        have hr580 := row_kept_new hr503 (below_grown hb504)
        have hr581 := row_kept_new hr580 (below_grown hb528)
        have hr582 := row_kept_new hr581 (below_grown hb540)
        have hr583 := row_kept_new hr483 (below_grown hb504)
        have hr584 := row_kept_new hr583 (below_grown hb528)
        have hr585 := row_kept_new hr584 (below_grown hb540)
        refine d1 33 h538 rfl rfl (op_call (args := #[.agg #[.int .i64 7, .int .i64 (mxI ep 0), .int .i64 d.rq, .int .i64 0, .bool false, .int .u64 0, .int .u64 0, .int .i64 (mxI hd 0), .int .i64 0, .int .i64 0, .int .i64 d.e, .string (⟨#[]⟩), .string (⟨#[]⟩), .int .i64 0, .slice none 0 0, .int .u64 0, .int .i64 0, .int .i64 0, .slice none 0 0, .slice none 0 0, .slice none 0 0, .slice none 0 0], .agg #[.int .i64 7, .int .i64 (mxI ep 0), .int .i64 d.rq, .int .i64 0, .bool false, .int .u64 0, .int .u64 0, .int .i64 (mxI hd 0), .int .i64 0, .int .i64 0, .int .i64 d.e, .string (⟨#[]⟩), .string (⟨#[]⟩), .int .i64 0, .slice none 0 0, .int .u64 0, .int .i64 0, .int .i64 0, .slice none 0 0, .slice none 0 0, .slice none 0 0, .slice none 0 0]]) (R := fun res xw => res = .bool true ∧ Below w539.heap.size w539 xw) rfl rfl rfl (by kernel_rfl) (by kernel_rfl) (Try.call15 _ _) (sameMsgM (MsgD.mk 7 (mxI ep 0) d.rq 0 false 0 0 (mxI hd 0) 0 0 d.e (⟨#[]⟩) (⟨#[]⟩) 0 ([]) 0 0 0 ([]) ([]) ([]) ([])) (.slice none 0 0) (.slice none 0 0) (.slice none 0 0) (.slice none 0 0) (.slice none 0 0) (.slice none 0 0) (.slice none 0 0) (.slice none 0 0) ([]) (.slice none 0 0) (.slice none 0 0) w539 (sl_nil _) (sl_nil _) (sl_nil _) (sl_nil _) (sl_nil _) (fun _ h => by cases h) (msgR0 (by omega)) (sl_nil _) (sl_nil _) (sl_nil _) (sl_nil _) (sl_nil _) (fun _ h => by cases h) EqEn.nil) (by rintro e x ⟨rfl, hb586⟩; exact ⟨_, rfl, ⟨rfl, hb586⟩⟩)) ?_ ?_; clear h538
        ·
         rintro _ w551 ⟨rfl, hb586⟩
         have hz587 := hb586.size
         have hO589 := MvO.gr hO543 (below_grown hb540) (fun k e => by cases e)
         have ho588 := MvO.ofS hO589
         have hO591 := RsO.gr hO545 (below_grown hb540) (fun k e => by cases e)
         have ho590 := RsO.ofS hO591
         have hB592 := hb_call hB546 hb586
         have hk593 := hk547.below hb586
         have hk594 := hk548.below hb586
         have hk595 := hk549.below hb586
         exact ⟨hB592, hk593, hk594, hk595⟩
        rintro _ w551 a550 ⟨rfl, hb586⟩ h550
        have hz587 := hb586.size
        have hO589 := MvO.gr hO543 (below_grown hb540) (fun k e => by cases e)
        have ho588 := MvO.ofS hO589
        have hO591 := RsO.gr hO545 (below_grown hb540) (fun k e => by cases e)
        have ho590 := RsO.ofS hO591
        have hB592 := hb_call hB546 hb586
        have hk593 := hk547.below hb586
        have hk594 := hk548.below hb586
        have hk595 := hk549.below hb586
        refine dk0 34 (v := .bool true) h550 rfl rfl ⟨hB592, hk593, hk594, hk595⟩ fun a596 h596 => ?_; clear h550
        refine dk0 35 (v := .bool true) h596 rfl rfl ⟨hB592, hk593, hk594, hk595⟩ fun a597 h597 => ?_; clear h596
        refine d1 36 h597 rfl rfl (op_call (args := #[]) (R := fun res xw => res = .bool true ∧ Below w551.heap.size w551 xw) rfl rfl rfl (by kernel_rfl) (by kernel_rfl) (Try.call10 _ _) (awake31 w551) (by rintro e x ⟨rfl, h⟩; exact ⟨_, rfl, rfl, h⟩)) ?_ ?_; clear h597
        ·
         rintro _ w599 ⟨rfl, hb600⟩
         have hz601 := hb600.size
         have hO603 := MvO.gr hO589 (below_grown hb586) (fun k e => by cases e)
         have ho602 := MvO.ofS hO603
         have hO605 := RsO.gr hO591 (below_grown hb586) (fun k e => by cases e)
         have ho604 := RsO.ofS hO605
         have hB606 := hb_call hB592 hb600
         have hk607 := hk593.below hb600
         have hk608 := hk594.below hb600
         have hk609 := hk595.below hb600
         exact ⟨hB606, hk607, hk608, hk609⟩
        rintro _ w599 a598 ⟨rfl, hb600⟩ h598
        have hz601 := hb600.size
        have hO603 := MvO.gr hO589 (below_grown hb586) (fun k e => by cases e)
        have ho602 := MvO.ofS hO603
        have hO605 := RsO.gr hO591 (below_grown hb586) (fun k e => by cases e)
        have ho604 := RsO.ofS hO605
        have hB606 := hb_call hB592 hb600
        have hk607 := hk593.below hb600
        have hk608 := hk594.below hb600
        have hk609 := hk595.below hb600
        refine dk0 37 (v := .bool true) h598 rfl rfl ⟨hB606, hk607, hk608, hk609⟩ fun a610 h610 => ?_; clear h598
        refine dk0 38 (v := .bool true) h610 rfl rfl ⟨hB606, hk607, hk608, hk609⟩ fun a611 h611 => ?_; clear h610
        refine dr_done (by kernel_rfl) ?_
        refine co_then ?_
        refine wp_ret ?_
        refine co_ret1 h611 rfl rfl ?_
        exact ⟨rfl, hB606⟩
       ·
        rw [hc71] at h70
        have hp612 : ((d.pr.length : Nat) : Int) > 40 := of_decide_eq_true hc71
        clear hc71
        refine co_true h70 rfl ?_
        refine co_seq ?_
        refine co_reg ?_
        refine pw h70 rfl (op_call (args := #[]) (R := fun res xw => res = .bool true ∧ Below w20.heap.size w20 xw) rfl rfl rfl (by kernel_rfl) (by kernel_rfl) (Try.call10 _ _) (awake31 w20) (by rintro e x ⟨rfl, h⟩; exact ⟨_, rfl, rfl, h⟩)) ?_; clear h70
        rintro _ w614 a613 ⟨rfl, hb615⟩ h613
        have hz616 := hb615.size
        refine pk0 (v := .bool true) h613 rfl fun a617 h617 => ?_; clear h613
        refine pl_nil ?_
        refine co_then ?_
        refine wp_ret ?_
        refine co_thenR ?_
        refine co_ret1 h617 rfl rfl ?_
        have hB618 := hb_call hB32 hb615
        exact ⟨rfl, hB618⟩
      ·
       rw [hc64] at h63
       have hp619 : ((d.st.length : Nat) : Int) > 20 := of_decide_eq_true hc64
       clear hc64
       refine psk h63 rfl fun a620 h620 => ?_; clear h63
       refine psk h620 rfl fun a621 h621 => ?_; clear h620
       refine psk h621 rfl fun a622 h622 => ?_; clear h621
       refine psk h622 rfl fun a623 h623 => ?_; clear h622
       refine pk0 (v := .bool true) h623 rfl fun a624 h624 => ?_; clear h623
       refine pl_nil ?_
       refine co_then ?_
       refine co_true h624 rfl ?_
       refine co_seq ?_
       refine co_reg ?_
       refine pw h624 rfl (op_call (args := #[]) (R := fun res xw => res = .bool true ∧ Below w20.heap.size w20 xw) rfl rfl rfl (by kernel_rfl) (by kernel_rfl) (Try.call10 _ _) (awake31 w20) (by rintro e x ⟨rfl, h⟩; exact ⟨_, rfl, rfl, h⟩)) ?_; clear h624
       rintro _ w626 a625 ⟨rfl, hb627⟩ h625
       have hz628 := hb627.size
       refine pk0 (v := .bool true) h625 rfl fun a629 h629 => ?_; clear h625
       refine pl_nil ?_
       refine co_then ?_
       refine wp_ret ?_
       refine co_thenR ?_
       refine co_ret1 h629 rfl rfl ?_
       have hB630 := hb_call hB32 hb627
       exact ⟨rfl, hB630⟩
     ·
      rw [hc56] at h55
      have hp631 : ((d.en.length : Nat) : Int) > 20 := of_decide_eq_true hc56
      clear hc56
      refine psk h55 rfl fun a632 h632 => ?_; clear h55
      refine psk h632 rfl fun a633 h633 => ?_; clear h632
      refine psk h633 rfl fun a634 h634 => ?_; clear h633
      refine psk h634 rfl fun a635 h635 => ?_; clear h634
      refine pk0 (v := .bool true) h635 rfl fun a636 h636 => ?_; clear h635
      refine pk0 (v := .bool true) h636 rfl fun a637 h637 => ?_; clear h636
      refine psk h637 rfl fun a638 h638 => ?_; clear h637
      refine psk h638 rfl fun a639 h639 => ?_; clear h638
      refine psk h639 rfl fun a640 h640 => ?_; clear h639
      refine psk h640 rfl fun a641 h641 => ?_; clear h640
      refine pk0 (v := .bool true) h641 rfl fun a642 h642 => ?_; clear h641
      refine pl_nil ?_
      refine co_then ?_
      refine co_true h642 rfl ?_
      refine co_seq ?_
      refine co_reg ?_
      refine pw h642 rfl (op_call (args := #[]) (R := fun res xw => res = .bool true ∧ Below w20.heap.size w20 xw) rfl rfl rfl (by kernel_rfl) (by kernel_rfl) (Try.call10 _ _) (awake31 w20) (by rintro e x ⟨rfl, h⟩; exact ⟨_, rfl, rfl, h⟩)) ?_; clear h642
      rintro _ w644 a643 ⟨rfl, hb645⟩ h643
      have hz646 := hb645.size
      refine pk0 (v := .bool true) h643 rfl fun a647 h647 => ?_; clear h643
      refine pl_nil ?_
      refine co_then ?_
      refine wp_ret ?_
      refine co_thenR ?_
      refine co_ret1 h647 rfl rfl ?_
      have hB648 := hb_call hB32 hb645
      exact ⟨rfl, hB648⟩
    ·
     rw [hc48] at h47
     have hp649 : ((d.bl.length : Nat) : Int) > 20 := of_decide_eq_true hc48
     clear hc48
     refine psk h47 rfl fun a650 h650 => ?_; clear h47
     refine psk h650 rfl fun a651 h651 => ?_; clear h650
     refine psk h651 rfl fun a652 h652 => ?_; clear h651
     refine psk h652 rfl fun a653 h653 => ?_; clear h652
     refine pk0 (v := .bool true) h653 rfl fun a654 h654 => ?_; clear h653
     refine pk0 (v := .bool true) h654 rfl fun a655 h655 => ?_; clear h654
     refine psk h655 rfl fun a656 h656 => ?_; clear h655
     refine psk h656 rfl fun a657 h657 => ?_; clear h656
     refine psk h657 rfl fun a658 h658 => ?_; clear h657
     refine psk h658 rfl fun a659 h659 => ?_; clear h658
     refine pk0 (v := .bool true) h659 rfl fun a660 h660 => ?_; clear h659
     refine pk0 (v := .bool true) h660 rfl fun a661 h661 => ?_; clear h660
     refine psk h661 rfl fun a662 h662 => ?_; clear h661
     refine psk h662 rfl fun a663 h663 => ?_; clear h662
     refine psk h663 rfl fun a664 h664 => ?_; clear h663
     refine psk h664 rfl fun a665 h665 => ?_; clear h664
     refine pk0 (v := .bool true) h665 rfl fun a666 h666 => ?_; clear h665
     refine pl_nil ?_
     refine co_then ?_
     refine co_true h666 rfl ?_
     refine co_seq ?_
     refine co_reg ?_
     refine pw h666 rfl (op_call (args := #[]) (R := fun res xw => res = .bool true ∧ Below w20.heap.size w20 xw) rfl rfl rfl (by kernel_rfl) (by kernel_rfl) (Try.call10 _ _) (awake31 w20) (by rintro e x ⟨rfl, h⟩; exact ⟨_, rfl, rfl, h⟩)) ?_; clear h666
     rintro _ w668 a667 ⟨rfl, hb669⟩ h667
     have hz670 := hb669.size
     refine pk0 (v := .bool true) h667 rfl fun a671 h671 => ?_; clear h667
     refine pl_nil ?_
     refine co_then ?_
     refine wp_ret ?_
     refine co_thenR ?_
     refine co_ret1 h671 rfl rfl ?_
     have hB672 := hb_call hB32 hb669
     exact ⟨rfl, hB672⟩
   ·
    rw [hc37] at h36
    have hp673 : ((d.cms.length : Nat) : Int) > 20 := of_decide_eq_true hc37
    clear hc37
    refine psk h36 rfl fun a674 h674 => ?_; clear h36
    refine psk h674 rfl fun a675 h675 => ?_; clear h674
    refine psk h675 rfl fun a676 h676 => ?_; clear h675
    refine psk h676 rfl fun a677 h677 => ?_; clear h676
    refine psk h677 rfl fun a678 h678 => ?_; clear h677
    refine pk0 (v := .bool true) h678 rfl fun a679 h679 => ?_; clear h678
    refine pk0 (v := .bool true) h679 rfl fun a680 h680 => ?_; clear h679
    refine psk h680 rfl fun a681 h681 => ?_; clear h680
    refine psk h681 rfl fun a682 h682 => ?_; clear h681
    refine psk h682 rfl fun a683 h683 => ?_; clear h682
    refine psk h683 rfl fun a684 h684 => ?_; clear h683
    refine pk0 (v := .bool true) h684 rfl fun a685 h685 => ?_; clear h684
    refine pk0 (v := .bool true) h685 rfl fun a686 h686 => ?_; clear h685
    refine psk h686 rfl fun a687 h687 => ?_; clear h686
    refine psk h687 rfl fun a688 h688 => ?_; clear h687
    refine psk h688 rfl fun a689 h689 => ?_; clear h688
    refine psk h689 rfl fun a690 h690 => ?_; clear h689
    refine pk0 (v := .bool true) h690 rfl fun a691 h691 => ?_; clear h690
    refine pk0 (v := .bool true) h691 rfl fun a692 h692 => ?_; clear h691
    refine psk h692 rfl fun a693 h693 => ?_; clear h692
    refine psk h693 rfl fun a694 h694 => ?_; clear h693
    refine psk h694 rfl fun a695 h695 => ?_; clear h694
    refine psk h695 rfl fun a696 h696 => ?_; clear h695
    refine pk0 (v := .bool true) h696 rfl fun a697 h697 => ?_; clear h696
    refine pl_nil ?_
    refine co_then ?_
    refine co_true h697 rfl ?_
    refine co_seq ?_
    refine co_reg ?_
    refine pw h697 rfl (op_call (args := #[]) (R := fun res xw => res = .bool true ∧ Below w20.heap.size w20 xw) rfl rfl rfl (by kernel_rfl) (by kernel_rfl) (Try.call10 _ _) (awake31 w20) (by rintro e x ⟨rfl, h⟩; exact ⟨_, rfl, rfl, h⟩)) ?_; clear h697
    rintro _ w699 a698 ⟨rfl, hb700⟩ h698
    have hz701 := hb700.size
    refine pk0 (v := .bool true) h698 rfl fun a702 h702 => ?_; clear h698
    refine pl_nil ?_
    refine co_then ?_
    refine wp_ret ?_
    refine co_thenR ?_
    refine co_ret1 h702 rfl rfl ?_
    have hB703 := hb_call hB32 hb700
    exact ⟨rfl, hB703⟩
 · skip
   refine co_enter (n := 135) Try.func3 rfl rfl rfl [(0, v), (1, .agg #[.int .u64 mk, .int .u64 hz, .int .i64 ep, .int .i64 hd]), (2, .agg #[.int .i64 d.k, .int .i64 d.ep, .int .i64 d.rq, .int .i64 d.sr, .bool d.fg, .int .u64 d.at_, .int .u64 d.la, .int .i64 d.n, .int .i64 d.m, .int .i64 d.p, .int .i64 d.e, .string d.key, .string d.to_, .int .i64 d.cep, mv, .int .u64 d.cfl, .int .i64 d.bc, .int .i64 d.br, bv, ev, sv, pv])] rfl (fun a h0 => ?_)
   refine co_seq ?_
   refine co_reg ?_
   refine pw h0 rfl (op_new (v := fun N => pt N 0) (T := 25) (cs := #[.int .u64 mk, .int .u64 hz, .int .i64 ep, .int .i64 hd]) (by kernel_rfl) (by kernel_rfl) (by kernel_rfl)) ?_; clear h0
   rintro _ w705 a704 ⟨N706, rfl, hN709, hz710, hk708, hg707⟩ h704
   have hz711 := hg707.size
   try dsimp only at h704
   refine pw h704 rfl (op_new (v := fun N => pt N 0) (T := 37) (cs := #[.int .i64 d.k, .int .i64 d.ep, .int .i64 d.rq, .int .i64 d.sr, .bool d.fg, .int .u64 d.at_, .int .u64 d.la, .int .i64 d.n, .int .i64 d.m, .int .i64 d.p, .int .i64 d.e, .string d.key, .string d.to_, .int .i64 d.cep, mv, .int .u64 d.cfl, .int .i64 d.bc, .int .i64 d.br, bv, ev, sv, pv]) (by kernel_rfl) (by kernel_rfl) (by kernel_rfl)) ?_; clear h704
   rintro _ w713 a712 ⟨N714, rfl, hN717, hz718, hk716, hg715⟩ h712
   have hz719 := hg715.size
   try dsimp only at h712
   refine pk0 (v := .bool false) h712 rfl fun a720 h720 => ?_; clear h712
   refine pl_nil ?_
   refine co_then ?_
   refine co_seq ?_
   refine co_seq ?_
   refine co_reg ?_
   refine pk0 (v := v) h720 rfl fun a721 h721 => ?_; clear h720
   have hB724 := hb_new hB0 hg707
   have hB725 := hb_new hB724 hg715
   refine pw h721 rfl (op_call (args := #[v]) (R := fun res xw => res = .bool (decide (FewP l 40)) ∧ Below w713.heap.size w713 xw) rfl rfl rfl (by kernel_rfl) (by kernel_rfl) (Try.call9 _ _) (few31_any v l w713 (hs.below hB725) (fun z hz => (hok z hz).below hB725)) (by rintro e x ⟨rfl, h⟩; exact ⟨_, rfl, rfl, h⟩)) ?_; clear h721
   rintro _ w723 a722 ⟨rfl, hb726⟩ h722
   have hz727 := hb726.size
   have hc728 : (decide (FewP l 40)) = false := by simp [hfew]
   rw [hc728] at h722; clear hc728
   refine pk0 (v := .bool true) h722 rfl fun a729 h729 => ?_; clear h722
   refine pk0 (v := .bool true) h729 rfl fun a730 h730 => ?_; clear h729
   refine psk h730 rfl fun a731 h731 => ?_; clear h730
   refine psk h731 rfl fun a732 h732 => ?_; clear h731
   refine psk h732 rfl fun a733 h733 => ?_; clear h732
   refine psk h733 rfl fun a734 h734 => ?_; clear h733
   refine psk h734 rfl fun a735 h735 => ?_; clear h734
   refine pk0 (v := .bool true) h735 rfl fun a736 h736 => ?_; clear h735
   refine pk0 (v := .bool true) h736 rfl fun a737 h737 => ?_; clear h736
   refine psk h737 rfl fun a738 h738 => ?_; clear h737
   refine psk h738 rfl fun a739 h739 => ?_; clear h738
   refine psk h739 rfl fun a740 h740 => ?_; clear h739
   refine psk h740 rfl fun a741 h741 => ?_; clear h740
   refine psk h741 rfl fun a742 h742 => ?_; clear h741
   refine pk0 (v := .bool true) h742 rfl fun a743 h743 => ?_; clear h742
   refine pk0 (v := .bool true) h743 rfl fun a744 h744 => ?_; clear h743
   refine psk h744 rfl fun a745 h745 => ?_; clear h744
   refine psk h745 rfl fun a746 h746 => ?_; clear h745
   refine psk h746 rfl fun a747 h747 => ?_; clear h746
   refine psk h747 rfl fun a748 h748 => ?_; clear h747
   refine pk0 (v := .bool true) h748 rfl fun a749 h749 => ?_; clear h748
   refine pk0 (v := .bool true) h749 rfl fun a750 h750 => ?_; clear h749
   refine psk h750 rfl fun a751 h751 => ?_; clear h750
   refine psk h751 rfl fun a752 h752 => ?_; clear h751
   refine psk h752 rfl fun a753 h753 => ?_; clear h752
   refine psk h753 rfl fun a754 h754 => ?_; clear h753
   refine pk0 (v := .bool true) h754 rfl fun a755 h755 => ?_; clear h754
   refine pk0 (v := .bool true) h755 rfl fun a756 h756 => ?_; clear h755
   refine psk h756 rfl fun a757 h757 => ?_; clear h756
   refine psk h757 rfl fun a758 h758 => ?_; clear h757
   refine psk h758 rfl fun a759 h759 => ?_; clear h758
   refine psk h759 rfl fun a760 h760 => ?_; clear h759
   refine pk0 (v := .bool true) h760 rfl fun a761 h761 => ?_; clear h760
   refine pl_nil ?_
   refine co_then ?_
   refine co_true h761 rfl ?_
   refine co_seq ?_
   refine co_reg ?_
   have hB764 := hb_call hB725 hb726
   have hk765 := hk708.kept hg715 (by simp)
   have hk766 := hk765.below hb726
   refine pw h761 rfl (op_call (args := #[]) (R := fun res xw => res = .bool true ∧ Below w723.heap.size w723 xw) rfl rfl rfl (by kernel_rfl) (by kernel_rfl) (Try.call10 _ _) (awake31 w723) (by rintro e x ⟨rfl, h⟩; exact ⟨_, rfl, rfl, h⟩)) ?_; clear h761
   rintro _ w763 a762 ⟨rfl, hb767⟩ h762
   have hz768 := hb767.size
   refine pk0 (v := .bool true) h762 rfl fun a769 h769 => ?_; clear h762
   refine pl_nil ?_
   refine co_then ?_
   refine wp_ret ?_
   refine co_thenR ?_
   refine co_ret1 h769 rfl rfl ?_
   have hB770 := hb_call hB764 hb767
   exact ⟨rfl, hB770⟩
end Go.Proofs.Ytbjbcbbhmbpndaa

/- catenalaw31: a view that came in by value, opened. Conditions: none. -/
namespace Go.Proofs.Ytbjbcbbhmbpndaa
open Go.RowKit Go.PlainAid
set_option linter.unusedVariables false
set_option linter.unusedSimpArgs false

structure ViewT where
  mrk : Int
  hz : Int
  ep : Int
  hd : Int
def viewV (x : ViewT) : Value := .agg #[.int .u64 x.mrk, .int .u64 x.hz, .int .i64 x.ep, .int .i64 x.hd]
structure ViewOk (x : ViewT) : Prop where
  mrk : 0 ≤ x.mrk ∧ x.mrk < 18446744073709551616
  hz : 0 ≤ x.hz ∧ x.hz < 18446744073709551616
open Go.ChangeShapes Go.WideShapes Go.Deep in
set_option maxRecDepth 10000 in
theorem open_view {H : Type} {enc : TypeId × Value → H} {w W0 : World} {base b0 : Nat} {spare : Nat → Bool} {held : Bool} {r : Reach} {v : Value} {n : Nat} {x : DataW H × List MemPlace}
    (hv : Value.okWide Try.prog w r b0 25 v) (h : DataW.trod enc Try.prog W0 base spare held n 25 v.cells.toList = some x) :
    ∃ y : ViewT, v = viewV y ∧ ViewOk y := by
  obtain ⟨cs, rfl, hsz⟩ := okWide_struct Try.underlying25 hv
  obtain ⟨hl, m, hf⟩ := trod_fields Try.underlying25 (by kernel_rfl) (by kernel_rfl) h
  obtain ⟨cl⟩ := cs
  have hl4 : cl.length = 4 := hl
  clear hl
  match cl, hl4 with
  | [c0, c1, c2, c3], _ =>
    obtain ⟨_, y0, e0, h0⟩ := hf 0 _ rfl
    obtain ⟨_, y1, e1, h1⟩ := hf 1 _ rfl
    obtain ⟨_, y2, e2, h2⟩ := hf 2 _ rfl
    obtain ⟨_, y3, e3, h3⟩ := hf 3 _ rfl
    cases e0; cases e1; cases e2; cases e3
    obtain ⟨a, e0, _, w0⟩ := DataW.trod_int Try.underlying23 h0
    obtain ⟨b, e1, _, w1⟩ := DataW.trod_int Try.underlying23 h1
    obtain ⟨c, e2, _, _⟩ := DataW.trod_int Try.underlying3 h2
    obtain ⟨d, e3, _, _⟩ := DataW.trod_int Try.underlying3 h3
    simp only [List.cons.injEq, and_true] at e0 e1 e2 e3
    subst e0 e1 e2 e3
    exact ⟨⟨a, b, c, d⟩, rfl, wf_u64 w0, wf_u64 w1⟩

end Go.Proofs.Ytbjbcbbhmbpndaa

/- catenalaw31: ServePlays, as the closing text wants it. Conditions: none. -/
namespace Go.Proofs.Ytbjbcbbhmbpndaa
open Go.RowKit Go.PlainAid
set_option linter.unusedVariables false
set_option linter.unusedSimpArgs false


theorem servePlays_law (v : Value) (l : List PutT) (vw : ViewT) (y : MsgX) (w : World) (hs : SliceOf putTE 2 w v l) (hok : ∀ z ∈ l, PutOk w z) (hv : ViewOk vw) (hM : MsgOk w y) :
    Calls Try.prog 3 #[v, viewV vw, msgV y] w fun e w' => e = .returned (.bool true) ∧ Below w.heap.size w w' :=
  servePlays_any v l vw.mrk vw.hz vw.ep vw.hd y.d y.mv y.bv y.ev y.sv y.pv w hs hok hM.hm hM.hb hM.he hM.ht hM.hp hM ⟨hv.mrk.1, hv.mrk.2, hv.hz.1, hv.hz.2⟩

end Go.Proofs.Ytbjbcbbhmbpndaa
