/- The document's Same, SameAll, Find, Top. Conditions: none. -/
import Derived.Test.YthmnndbpadegnaaRlgV
namespace Go.Proofs.Ythmnndbpadegnaa
open Go.RowKit Go.PlainAid
set_option linter.unusedVariables false


section
variable {L X A B : List EntT} {i : Nat} {y z : EntT} {c r a : Int}
theorem e0_both (h : A.map e0 = B.map e0) (hy : A[i]? = some y) (hz : B[i]? = some z) : y.client = z.client ∧ y.req = z.req ∧ y.opl = z.opl ∧ y.ts = z.ts := by
  obtain ⟨x, hx, e⟩ := e0_at h hy
  rw [hz] at hx; cases hx
  obtain ⟨k1, k2, k3, k4⟩ := e0_ts e
  exact ⟨k2.symm, k3.symm, k4.symm, k1.symm⟩
theorem fnd_hit (h0 : findN (L.take i) (c, r) = none) (hy : L[i]? = some y) (h : y.client = c ∧ y.req = r) : ((i : Nat) : Int) = fndI L c r := by
  have h1 : findN (L.take (i + 1)) (c, r) = some ((i : Nat) : Int) := by
    have hl := (List.getElem?_eq_some_iff.1 hy).1
    have := findN_snoc (A := L.take i) (e := y) (by rw [nmE_y h]; exact h0)
    rw [takeE hy, this, nmE_y h]; simp; omega
  have h2 : findN L (c, r) = some ((i : Nat) : Int) := by
    unfold findN at h1 ⊢
    rw [← List.take_append_drop (i + 1) L, List.map_append, List.findIdx?_append]
    rw [Option.map_eq_some_iff] at h1
    obtain ⟨k, hk, e⟩ := h1
    rw [hk]; simp; omega
  unfold fndI; rw [h2]; rfl
theorem fnd_end (h0 : findN (L.take i) (c, r) = none) (h : L.length ≤ i) : -1 = fndI L c r := by
  rw [List.take_of_length_le h] at h0; unfold fndI; rw [h0]; rfl
theorem atE_X (h : L.map e0 = X.map e0) (hz : X[a.toNat]? = some z) (ha : 0 ≤ a ∧ a < (L.length : Int)) : (atE L a).client = z.client ∧ (atE L a).req = z.req ∧ (atE L a).opl = z.opl ∧ (atE L a).ts = z.ts := by
  have hl : a.toNat < L.length := by omega
  rw [atE_y (y := L[a.toNat]) (by omega) (List.getElem?_eq_getElem hl)]
  exact e0_both h (List.getElem?_eq_getElem hl) hz
theorem atE_wf {w : World} (h : ∀ z ∈ L, EntOk w z) (a : Int) : 0 ≤ (atE L a).ts ∧ (atE L a).ts < 18446744073709551616 := by
  by_cases ha : a < 0 ∨ (L.length : Int) ≤ a
  · rw [atE_n ha]; exact ⟨by decide, by decide⟩
  · have hl : a.toNat < L.length := by omega
    rw [atE_y ha (List.getElem?_eq_getElem hl)]
    have := h _ (List.getElem_mem hl)
    exact ⟨this.ts0, this.ts1⟩
end

set_option maxRecDepth 100000 in
theorem sameOpsE_any (v : Value) (l : List OpT) (v2 : Value) (w : World) (hs : SliceOf opE 3 w v l) (hs2 : SliceOf opE 3 w v2 l) :
    Calls Try.prog 107 #[v, v2] w fun e w' => e = .returned (.bool true) ∧ Below w.heap.size w w' := by
 have hB0 := Below.refl w.heap.size w
 have hl_hs := sl_len hs
 have hl_hs2 := sl_len hs2
 refine co_enter (n := 32) Try.func107 rfl rfl rfl [(0, v), (1, v2)] rfl (fun a h0 => ?_)
 refine co_seq ?_
 refine co_reg ?_
 refine pk0 (v := .bool false) h0 rfl fun a1 h1 => ?_; clear h0
 refine pl_nil ?_
 refine co_then ?_
 refine co_seq ?_
 refine co_seq ?_
 refine co_reg ?_
 refine pk0 (v := v) h1 rfl fun a2 h2 => ?_; clear h1
 refine pk (v := .int .i64 ((l.length : Nat) : Int)) h2 rfl (rn_len rfl rfl Try.underlying42 hs) fun a3 h3 => ?_; clear h2
 refine pk0 (v := v2) h3 rfl fun a4 h4 => ?_; clear h3
 refine pk (v := .int .i64 ((l.length : Nat) : Int)) h4 rfl (rn_len rfl rfl Try.underlying42 hs2) fun a5 h5 => ?_; clear h4
 refine pk0 (v := .bool (((l.length : Nat) : Int) != ((l.length : Nat) : Int))) h5 rfl fun a6 h6 => ?_; clear h5
 refine pl_nil ?_
 refine co_then ?_
 have hc7 : (((l.length : Nat) : Int) != ((l.length : Nat) : Int)) = false := by first | (simp; done) | (simp; omega)
 rw [hc7] at h6; clear hc7
 refine co_false h6 rfl ?_
 refine wp_skip ?_
 refine co_then ?_
 refine co_seq ?_
 refine co_seq ?_
 refine co_reg ?_
 refine pk0 (v := .int .i64 0) h6 rfl fun a8 h8 => ?_; clear h6
 refine pl_nil ?_
 refine co_then ?_
 refine wp_block ?_
 have h9 : Slots 32 [(0, v), (1, v2), (5, .int .i64 0)] _ := h8.sub ⟨rfl, rfl, rfl, trivial⟩; clear h8
 refine co_loop (fun mm a x => ∃ (i : Nat), Slots 32 [(0, v), (1, v2), (5, .int .i64 ((i : Nat) : Int))] a ∧ mm = l.length - i ∧ (i ≤ l.length) ∧ Below w.heap.size w x) (l.length - 0) ?_ ?_
 · exact ⟨0, h9.sub ⟨rfl, rfl, (slot_eq rfl (congrArg (Value.int .i64) (by first | rfl | omega))), trivial⟩, rfl, by omega, hB0⟩
 · rintro k10 a11 w12 ⟨i, h11, rfl, hi13, hB14⟩
   have hz15 := hB14.size
   refine co_seq ?_
   refine co_seq ?_
   refine co_reg ?_
   refine pk0 (v := .int .i64 ((i : Nat) : Int)) h11 rfl fun a16 h16 => ?_; clear h11
   refine pk0 (v := v) h16 rfl fun a17 h17 => ?_; clear h16
   refine pk (v := .int .i64 ((l.length : Nat) : Int)) h17 rfl (rn_len rfl rfl Try.underlying42 (hs.below hB14)) fun a18 h18 => ?_; clear h17
   refine pk0 (v := .bool (decide (((i : Nat) : Int) < ((l.length : Nat) : Int)))) h18 rfl fun a19 h19 => ?_; clear h18
   refine pk0 (v := .bool (decide (((i : Nat) : Int) < ((l.length : Nat) : Int)))) h19 rfl fun a20 h20 => ?_; clear h19
   cases hc21 : (decide (((i : Nat) : Int) < ((l.length : Nat) : Int)))
   ·
    rw [hc21] at h20
    have hp22 : ¬ (((i : Nat) : Int) < ((l.length : Nat) : Int)) := of_decide_eq_false hc21
    clear hc21
    refine psk h20 rfl fun a23 h23 => ?_; clear h20
    refine psk h23 rfl fun a24 h24 => ?_; clear h23
    refine psk h24 rfl fun a25 h25 => ?_; clear h24
    refine psk h25 rfl fun a26 h26 => ?_; clear h25
    refine pk0 (v := .bool false) h26 rfl fun a27 h27 => ?_; clear h26
    refine pl_nil ?_
    refine co_then ?_
    refine co_false h27 rfl ?_
    refine wp_exit ?_
    refine co_thenX ?_
    refine co_thenX ?_
    refine co_blockX ?_
    refine co_then ?_
    refine co_seq ?_
    refine co_reg ?_
    refine pk0 (v := .bool true) h27 rfl fun a28 h28 => ?_; clear h27
    refine pl_nil ?_
    refine co_then ?_
    refine wp_ret ?_
    refine co_ret1 h28 rfl rfl ?_
    exact ⟨rfl, hB14⟩
   ·
    rw [hc21] at h20
    have hp29 : ((i : Nat) : Int) < ((l.length : Nat) : Int) := of_decide_eq_true hc21
    clear hc21
    refine pk0 (v := .int .i64 ((i : Nat) : Int)) h20 rfl fun a30 h30 => ?_; clear h20
    refine pk0 (v := v2) h30 rfl fun a31 h31 => ?_; clear h30
    refine pk (v := .int .i64 ((l.length : Nat) : Int)) h31 rfl (rn_len rfl rfl Try.underlying42 (hs2.below hB14)) fun a32 h32 => ?_; clear h31
    refine pk0 (v := .bool (decide (((i : Nat) : Int) < ((l.length : Nat) : Int)))) h32 rfl fun a33 h33 => ?_; clear h32
    refine pk0 (v := .bool (decide (((i : Nat) : Int) < ((l.length : Nat) : Int)))) h33 rfl fun a34 h34 => ?_; clear h33
    refine pl_nil ?_
    refine co_then ?_
    have hc35 : (decide (((i : Nat) : Int) < ((l.length : Nat) : Int))) = true := decide_eq_true (by omega)
    rw [hc35] at h34; clear hc35
    refine co_true h34 rfl ?_
    refine wp_skip ?_
    refine co_then ?_
    refine co_seq ?_
    refine wp_block ?_
    refine co_seq ?_
    refine dr_eq (by kernel_rfl) (fun w36 hg37 => ?_)
    have hz38 := hg37.size
    refine dk0 0 (v := v) h34 rfl rfl rfl fun a39 h39 => ?_; clear h34
    refine dk0 1 (v := .int .i64 ((i : Nat) : Int)) h39 rfl rfl rfl fun a40 h40 => ?_; clear h39
    have hB42 := hb_new hB14 hg37
    obtain ⟨y41, hy41⟩ : ∃ z, l[i]? = some z := ⟨_, List.getElem?_eq_getElem (by first | omega | (simp; done) | (simp; omega))⟩
    refine dk 2 (v := pt (blkOf v) (offOf v + i * 3)) h40 rfl rfl rfl (fun x hx => by subst hx; exact (rn_index rfl rfl rfl Try.underlying42 Try.sizeOf127 (hs.below hB42) (by omega) (by first | omega | (simp; done) | (simp; omega)))) fun a43 h43 => ?_; clear h40
    refine dk 3 (v := .agg #[.string y41.1, .string y41.2.1, .bool y41.2.2]) h43 rfl rfl rfl (fun x hx => by subst hx; exact (rn_loadN rfl rfl Try.underlying127 rfl (by kernel_rfl) (sl_at (hs.below hB42) hy41))) fun a44 h44 => ?_; clear h43
    refine dk0 4 (v := v2) h44 rfl rfl rfl fun a45 h45 => ?_; clear h44
    refine dk0 5 (v := .int .i64 ((i : Nat) : Int)) h45 rfl rfl rfl fun a46 h46 => ?_; clear h45
    refine dk 6 (v := pt (blkOf v2) (offOf v2 + i * 3)) h46 rfl rfl rfl (fun x hx => by subst hx; exact (rn_index rfl rfl rfl Try.underlying42 Try.sizeOf127 (hs2.below hB42) (by omega) (by first | omega | (simp; done) | (simp; omega)))) fun a47 h47 => ?_; clear h46
    refine dk 7 (v := .agg #[.string y41.1, .string y41.2.1, .bool y41.2.2]) h47 rfl rfl rfl (fun x hx => by subst hx; exact (rn_loadN rfl rfl Try.underlying127 rfl (by kernel_rfl) (sl_at (hs2.below hB42) hy41))) fun a48 h48 => ?_; clear h47
    refine dk 8 (v := .bool (!(y41.1.toList == y41.1.toList && y41.2.1.toList == y41.2.1.toList && y41.2.2 == y41.2.2))) h48 rfl rfl rfl (fun x hx => by subst hx; exact (rn_neS rfl rfl rfl Try.eqGuardType127 (eq_op _ _ _ _ _ _ _))) fun a49 h49 => ?_; clear h48
    refine dr_done (by kernel_rfl) ?_
    refine co_then ?_
    have hc50 : (!(y41.1.toList == y41.1.toList && y41.2.1.toList == y41.2.1.toList && y41.2.2 == y41.2.2)) = false := by simp
    rw [hc50] at h49; clear hc50
    refine co_false h49 rfl ?_
    refine wp_skip ?_
    refine co_blockN ?_
    refine co_then ?_
    refine co_reg ?_
    refine pk0 (v := .int .i64 ((i : Nat) : Int)) h49 rfl fun a51 h51 => ?_; clear h49
    refine pk (v := .int .i64 ((i + 1 : Nat) : Int)) h51 rfl (rn_arith' rfl rfl rfl rfl rfl rfl (IntWalk.i64_in _ (by omega)) (by omega)) fun a52 h52 => ?_; clear h51
    refine pk0 (v := .int .i64 ((i + 1 : Nat) : Int)) h52 rfl fun a53 h53 => ?_; clear h52
    refine pl_nil ?_
    refine co_then ?_
    refine ⟨(l.length - (i + 1)), by omega, ?_⟩
    exact ⟨i + 1, h53.sub ⟨rfl, rfl, rfl, trivial⟩, rfl, by omega, hB42⟩
set_option maxRecDepth 100000 in
theorem sameBatE_any (c : Int) (r : Int) (v : Value) (l : List OpT) (v2 : Value) (w : World) (hs : SliceOf opE 3 w v l) (hs2 : SliceOf opE 3 w v2 l) :
    Calls Try.prog 82 #[.agg #[.int .i64 c, .int .i64 r, v], .agg #[.int .i64 c, .int .i64 r, v2]] w fun e w' => e = .returned (.bool true) ∧ Below w.heap.size w w' := by
 have hB0 := Below.refl w.heap.size w
 have hl_hs := sl_len hs
 have hl_hs2 := sl_len hs2
 refine co_enter (n := 24) Try.func82 rfl rfl rfl [(0, .agg #[.int .i64 c, .int .i64 r, v]), (1, .agg #[.int .i64 c, .int .i64 r, v2])] rfl (fun a h0 => ?_)
 refine co_seq ?_
 refine co_reg ?_
 refine pw h0 rfl (op_new (v := fun N => pt N 0) (T := 44) (cs := #[.int .i64 c, .int .i64 r, v]) (by kernel_rfl) (by kernel_rfl) (by kernel_rfl)) ?_; clear h0
 rintro _ w2 a1 ⟨N3, rfl, hN6, hz7, hk5, hg4⟩ h1
 have hz8 := hg4.size
 try dsimp only at h1
 refine pw h1 rfl (op_new (v := fun N => pt N 0) (T := 44) (cs := #[.int .i64 c, .int .i64 r, v2]) (by kernel_rfl) (by kernel_rfl) (by kernel_rfl)) ?_; clear h1
 rintro _ w10 a9 ⟨N11, rfl, hN14, hz15, hk13, hg12⟩ h9
 have hz16 := hg12.size
 try dsimp only at h9
 refine pk0 (v := .bool false) h9 rfl fun a17 h17 => ?_; clear h9
 refine pl_nil ?_
 refine co_then ?_
 refine co_seq ?_
 refine co_reg ?_
 refine pk0 (v := pt N3 0) h17 rfl fun a18 h18 => ?_; clear h17
 have hk19 := hk5.kept hg12 (by simp)
 refine pk (v := .int .i64 c) h18 rfl (rn_load1 rfl rfl Try.isAgg3 (hk19.cell rfl)) fun a20 h20 => ?_; clear h18
 refine pk0 (v := pt N11 0) h20 rfl fun a21 h21 => ?_; clear h20
 refine pk (v := .int .i64 c) h21 rfl (rn_load1 rfl rfl Try.isAgg3 (hk13.cell rfl)) fun a22 h22 => ?_; clear h21
 refine pk0 (v := .bool (c == c)) h22 rfl fun a23 h23 => ?_; clear h22
 refine pk0 (v := .bool (c == c)) h23 rfl fun a24 h24 => ?_; clear h23
 have hc25 : (c == c) = true := by first | (simp; done) | (simp; omega)
 rw [hc25] at h24; clear hc25
 refine pk0 (v := pt N3 1) h24 rfl fun a26 h26 => ?_; clear h24
 refine pk (v := .int .i64 r) h26 rfl (rn_load1 rfl rfl Try.isAgg3 (hk19.cell rfl)) fun a27 h27 => ?_; clear h26
 refine pk0 (v := pt N11 1) h27 rfl fun a28 h28 => ?_; clear h27
 refine pk (v := .int .i64 r) h28 rfl (rn_load1 rfl rfl Try.isAgg3 (hk13.cell rfl)) fun a29 h29 => ?_; clear h28
 refine pk0 (v := .bool (r == r)) h29 rfl fun a30 h30 => ?_; clear h29
 refine pk0 (v := .bool (r == r)) h30 rfl fun a31 h31 => ?_; clear h30
 refine pk0 (v := .bool (r == r)) h31 rfl fun a32 h32 => ?_; clear h31
 have hc33 : (r == r) = true := by first | (simp; done) | (simp; omega)
 rw [hc33] at h32; clear hc33
 refine pk0 (v := pt N3 2) h32 rfl fun a34 h34 => ?_; clear h32
 refine pk (v := v) h34 rfl (rn_load1 rfl rfl Try.isAgg42 (hk19.cell rfl)) fun a35 h35 => ?_; clear h34
 refine pk0 (v := pt N11 2) h35 rfl fun a36 h36 => ?_; clear h35
 refine pk (v := v2) h36 rfl (rn_load1 rfl rfl Try.isAgg42 (hk13.cell rfl)) fun a37 h37 => ?_; clear h36
 have hB40 := hb_new hB0 hg4
 have hB41 := hb_new hB40 hg12
 refine pw h37 rfl (op_call (args := #[v, v2]) (R := fun res xw => res = .bool true ∧ Below w10.heap.size w10 xw) rfl rfl rfl (by kernel_rfl) (by kernel_rfl) (Try.call107 _ _) (sameOpsE_any v l v2 w10 (hs.below hB41) (hs2.below hB41)) (by rintro e x ⟨rfl, hb42⟩; exact ⟨_, rfl, ⟨rfl, hb42⟩⟩)) ?_; clear h37
 rintro _ w39 a38 ⟨rfl, hb42⟩ h38
 have hz43 := hb42.size
 refine pk0 (v := .bool true) h38 rfl fun a44 h44 => ?_; clear h38
 refine pk0 (v := .bool true) h44 rfl fun a45 h45 => ?_; clear h44
 refine pl_nil ?_
 refine co_then ?_
 refine wp_ret ?_
 refine co_ret1 h45 rfl rfl ?_
 have hB46 := hb_call hB41 hb42
 exact ⟨rfl, hB46⟩
set_option maxRecDepth 100000 in
theorem sameEntE_any (c : Int) (r : Int) (v : Value) (l : List OpT) (ts : Int) (v2 : Value) (w : World) (hs : SliceOf opE 3 w v l) (hs2 : SliceOf opE 3 w v2 l) :
    Calls Try.prog 29 #[.agg #[.int .i64 c, .int .i64 r, v, .int .u64 ts], .agg #[.int .i64 c, .int .i64 r, v2, .int .u64 ts]] w fun e w' => e = .returned (.bool true) ∧ Below w.heap.size w w' := by
 have hB0 := Below.refl w.heap.size w
 have hl_hs := sl_len hs
 have hl_hs2 := sl_len hs2
 refine co_enter (n := 17) Try.func29 rfl rfl rfl [(0, .agg #[.int .i64 c, .int .i64 r, v, .int .u64 ts]), (1, .agg #[.int .i64 c, .int .i64 r, v2, .int .u64 ts])] rfl (fun a h0 => ?_)
 refine co_seq ?_
 refine co_reg ?_
 refine pw h0 rfl (op_new (v := fun N => pt N 0) (T := 47) (cs := #[.int .i64 c, .int .i64 r, v, .int .u64 ts]) (by kernel_rfl) (by kernel_rfl) (by kernel_rfl)) ?_; clear h0
 rintro _ w2 a1 ⟨N3, rfl, hN6, hz7, hk5, hg4⟩ h1
 have hz8 := hg4.size
 try dsimp only at h1
 refine pw h1 rfl (op_new (v := fun N => pt N 0) (T := 47) (cs := #[.int .i64 c, .int .i64 r, v2, .int .u64 ts]) (by kernel_rfl) (by kernel_rfl) (by kernel_rfl)) ?_; clear h1
 rintro _ w10 a9 ⟨N11, rfl, hN14, hz15, hk13, hg12⟩ h9
 have hz16 := hg12.size
 try dsimp only at h9
 refine pk0 (v := .bool false) h9 rfl fun a17 h17 => ?_; clear h9
 refine pl_nil ?_
 refine co_then ?_
 refine co_seq ?_
 refine co_reg ?_
 refine pk0 (v := pt N3 3) h17 rfl fun a18 h18 => ?_; clear h17
 have hk19 := hk5.kept hg12 (by simp)
 refine pk (v := .int .u64 ts) h18 rfl (rn_load1 rfl rfl Try.isAgg45 (hk19.cell rfl)) fun a20 h20 => ?_; clear h18
 refine pk0 (v := pt N11 3) h20 rfl fun a21 h21 => ?_; clear h20
 refine pk (v := .int .u64 ts) h21 rfl (rn_load1 rfl rfl Try.isAgg45 (hk13.cell rfl)) fun a22 h22 => ?_; clear h21
 refine pk0 (v := .bool (ts == ts)) h22 rfl fun a23 h23 => ?_; clear h22
 refine pk0 (v := .bool (ts == ts)) h23 rfl fun a24 h24 => ?_; clear h23
 have hc25 : (ts == ts) = true := by first | (simp; done) | (simp; omega)
 rw [hc25] at h24; clear hc25
 refine pk0 (v := pt N3 0) h24 rfl fun a26 h26 => ?_; clear h24
 refine pk (v := .agg #[.int .i64 c, .int .i64 r, v]) h26 rfl (rn_loadN rfl rfl Try.underlying44 rfl (by kernel_rfl) (blk_part hk19 0 (by rfl))) fun a27 h27 => ?_; clear h26
 refine pk0 (v := pt N11 0) h27 rfl fun a28 h28 => ?_; clear h27
 refine pk (v := .agg #[.int .i64 c, .int .i64 r, v2]) h28 rfl (rn_loadN rfl rfl Try.underlying44 rfl (by kernel_rfl) (blk_part hk13 0 (by rfl))) fun a29 h29 => ?_; clear h28
 have hB32 := hb_new hB0 hg4
 have hB33 := hb_new hB32 hg12
 refine pw h29 rfl (op_call (args := #[.agg #[.int .i64 c, .int .i64 r, v], .agg #[.int .i64 c, .int .i64 r, v2]]) (R := fun res xw => res = .bool true ∧ Below w10.heap.size w10 xw) rfl rfl rfl (by kernel_rfl) (by kernel_rfl) (Try.call82 _ _) (sameBatE_any c r v l v2 w10 (hs.below hB33) (hs2.below hB33)) (by rintro e x ⟨rfl, hb34⟩; exact ⟨_, rfl, ⟨rfl, hb34⟩⟩)) ?_; clear h29
 rintro _ w31 a30 ⟨rfl, hb34⟩ h30
 have hz35 := hb34.size
 refine pk0 (v := .bool true) h30 rfl fun a36 h36 => ?_; clear h30
 refine pk0 (v := .bool true) h36 rfl fun a37 h37 => ?_; clear h36
 refine pl_nil ?_
 refine co_then ?_
 refine wp_ret ?_
 refine co_ret1 h37 rfl rfl ?_
 have hB38 := hb_call hB33 hb34
 exact ⟨rfl, hB38⟩

theorem sameEntG (c r : Int) (v : Value) (l : List OpT) (ts c2 r2 : Int) (v2 : Value) (l2 : List OpT) (ts2 : Int) (w : World) (hs : SliceOf opE 3 w v l) (hs2 : SliceOf opE 3 w v2 l2) (heq : c = c2 ∧ r = r2 ∧ l = l2 ∧ ts = ts2) :
    Calls Try.prog 29 #[.agg #[.int .i64 c, .int .i64 r, v, .int .u64 ts], .agg #[.int .i64 c2, .int .i64 r2, v2, .int .u64 ts2]] w fun e w' => e = .returned (.bool true) ∧ Below w.heap.size w w' := by
  obtain ⟨rfl, rfl, rfl, rfl⟩ := heq
  exact sameEntE_any c r v l ts v2 w hs hs2

set_option maxRecDepth 100000 in
theorem sameAllE_any (v : Value) (l : List EntT) (v2 : Value) (l2 : List EntT) (w : World) (hs : SliceOf entE 4 w v l) (hok : ∀ z ∈ l, EntOk w z) (hs2 : SliceOf entE 4 w v2 l2) (hok2 : ∀ z ∈ l2, EntOk w z) (heq : l.map e0 = l2.map e0) :
    Calls Try.prog 23 #[v, v2] w fun e w' => e = .returned (.bool true) ∧ Below w.heap.size w w' := by
 have hll := e0_len heq
 have hB0 := Below.refl w.heap.size w
 have hl_hs := sl_len hs
 have hl_hs2 := sl_len hs2
 refine co_enter (n := 33) Try.func23 rfl rfl rfl [(0, v), (1, v2)] rfl (fun a h0 => ?_)
 refine co_seq ?_
 refine co_reg ?_
 refine pk0 (v := .bool false) h0 rfl fun a1 h1 => ?_; clear h0
 refine pl_nil ?_
 refine co_then ?_
 refine co_seq ?_
 refine co_seq ?_
 refine co_reg ?_
 refine pk0 (v := v) h1 rfl fun a2 h2 => ?_; clear h1
 refine pk (v := .int .i64 ((l.length : Nat) : Int)) h2 rfl (rn_len rfl rfl Try.underlying39 hs) fun a3 h3 => ?_; clear h2
 refine pk0 (v := v2) h3 rfl fun a4 h4 => ?_; clear h3
 refine pk (v := .int .i64 ((l2.length : Nat) : Int)) h4 rfl (rn_len rfl rfl Try.underlying39 hs2) fun a5 h5 => ?_; clear h4
 refine pk0 (v := .bool (((l.length : Nat) : Int) != ((l2.length : Nat) : Int))) h5 rfl fun a6 h6 => ?_; clear h5
 refine pl_nil ?_
 refine co_then ?_
 have hc7 : (((l.length : Nat) : Int) != ((l2.length : Nat) : Int)) = false := by first | (simp; done) | (simp; omega)
 rw [hc7] at h6; clear hc7
 refine co_false h6 rfl ?_
 refine wp_skip ?_
 refine co_then ?_
 refine co_seq ?_
 refine co_seq ?_
 refine co_reg ?_
 refine pk0 (v := .int .i64 0) h6 rfl fun a8 h8 => ?_; clear h6
 refine pl_nil ?_
 refine co_then ?_
 refine wp_block ?_
 have h9 : Slots 33 [(0, v), (1, v2), (5, .int .i64 0)] _ := h8.sub ⟨rfl, rfl, rfl, trivial⟩; clear h8
 refine co_loop (fun mm a x => ∃ (i : Nat), Slots 33 [(0, v), (1, v2), (5, .int .i64 ((i : Nat) : Int))] a ∧ mm = l.length - i ∧ (i ≤ l.length) ∧ Below w.heap.size w x) (l.length - 0) ?_ ?_
 · exact ⟨0, h9.sub ⟨rfl, rfl, (slot_eq rfl (congrArg (Value.int .i64) (by first | rfl | omega))), trivial⟩, rfl, by omega, hB0⟩
 · rintro k10 a11 w12 ⟨i, h11, rfl, hi13, hB14⟩
   have hz15 := hB14.size
   refine co_seq ?_
   refine co_seq ?_
   refine co_reg ?_
   refine pk0 (v := .int .i64 ((i : Nat) : Int)) h11 rfl fun a16 h16 => ?_; clear h11
   refine pk0 (v := v) h16 rfl fun a17 h17 => ?_; clear h16
   refine pk (v := .int .i64 ((l.length : Nat) : Int)) h17 rfl (rn_len rfl rfl Try.underlying39 (hs.below hB14)) fun a18 h18 => ?_; clear h17
   refine pk0 (v := .bool (decide (((i : Nat) : Int) < ((l.length : Nat) : Int)))) h18 rfl fun a19 h19 => ?_; clear h18
   refine pk0 (v := .bool (decide (((i : Nat) : Int) < ((l.length : Nat) : Int)))) h19 rfl fun a20 h20 => ?_; clear h19
   cases hc21 : (decide (((i : Nat) : Int) < ((l.length : Nat) : Int)))
   ·
    rw [hc21] at h20
    have hp22 : ¬ (((i : Nat) : Int) < ((l.length : Nat) : Int)) := of_decide_eq_false hc21
    clear hc21
    refine psk h20 rfl fun a23 h23 => ?_; clear h20
    refine psk h23 rfl fun a24 h24 => ?_; clear h23
    refine psk h24 rfl fun a25 h25 => ?_; clear h24
    refine psk h25 rfl fun a26 h26 => ?_; clear h25
    refine pk0 (v := .bool false) h26 rfl fun a27 h27 => ?_; clear h26
    refine pl_nil ?_
    refine co_then ?_
    refine co_false h27 rfl ?_
    refine wp_exit ?_
    refine co_thenX ?_
    refine co_thenX ?_
    refine co_blockX ?_
    refine co_then ?_
    refine co_seq ?_
    refine co_reg ?_
    refine pk0 (v := .bool true) h27 rfl fun a28 h28 => ?_; clear h27
    refine pl_nil ?_
    refine co_then ?_
    refine wp_ret ?_
    refine co_ret1 h28 rfl rfl ?_
    exact ⟨rfl, hB14⟩
   ·
    rw [hc21] at h20
    have hp29 : ((i : Nat) : Int) < ((l.length : Nat) : Int) := of_decide_eq_true hc21
    clear hc21
    refine pk0 (v := .int .i64 ((i : Nat) : Int)) h20 rfl fun a30 h30 => ?_; clear h20
    refine pk0 (v := v2) h30 rfl fun a31 h31 => ?_; clear h30
    refine pk (v := .int .i64 ((l2.length : Nat) : Int)) h31 rfl (rn_len rfl rfl Try.underlying39 (hs2.below hB14)) fun a32 h32 => ?_; clear h31
    refine pk0 (v := .bool (decide (((i : Nat) : Int) < ((l2.length : Nat) : Int)))) h32 rfl fun a33 h33 => ?_; clear h32
    refine pk0 (v := .bool (decide (((i : Nat) : Int) < ((l2.length : Nat) : Int)))) h33 rfl fun a34 h34 => ?_; clear h33
    refine pl_nil ?_
    refine co_then ?_
    have hc35 : (decide (((i : Nat) : Int) < ((l2.length : Nat) : Int))) = true := decide_eq_true (by omega)
    rw [hc35] at h34; clear hc35
    refine co_true h34 rfl ?_
    refine wp_skip ?_
    refine co_then ?_
    refine co_seq ?_
    refine wp_block ?_
    refine co_seq ?_
    refine dr_gen (fun x => Below w.heap.size w x) (by kernel_rfl) (fun w36 hg37 => ?_) (fun w36 hg37 => ?_)
    ·
     have hz38 := hg37.size
     have hB39 := hb_new hB14 hg37
     exact hB39
    have hz40 := hg37.size
    have hB41 := hb_new hB14 hg37
    refine dk0 0 (v := v) h34 rfl rfl hB41 fun a42 h42 => ?_; clear h34
    refine dk0 1 (v := .int .i64 ((i : Nat) : Int)) h42 rfl rfl hB41 fun a43 h43 => ?_; clear h42
    obtain ⟨y44, hy44⟩ : ∃ z, l[i]? = some z := ⟨_, List.getElem?_eq_getElem (by first | omega | (simp; done) | (simp; omega))⟩
    have oky44 := hok _ (List.mem_of_getElem? hy44)
    have k45 : 0 ≤ y44.ts := oky44.ts0
    have k46 : y44.ts < 18446744073709551616 := oky44.ts1
    refine dk 2 (v := pt (blkOf v) (offOf v + i * 4)) h43 rfl rfl hB41 (fun x hx => (rn_index rfl rfl rfl Try.underlying39 Try.sizeOf47 (hs.below hx) (by omega) (by first | omega | (simp; done) | (simp; omega)))) fun a47 h47 => ?_; clear h43
    refine dk 3 (v := .agg #[.int .i64 y44.client, .int .i64 y44.req, y44.ops, .int .u64 y44.ts]) h47 rfl rfl hB41 (fun x hx => (rn_loadN rfl rfl Try.underlying47 rfl (by kernel_rfl) (sl_at (hs.below hx) hy44))) fun a48 h48 => ?_; clear h47
    refine dk0 4 (v := v2) h48 rfl rfl hB41 fun a49 h49 => ?_; clear h48
    refine dk0 5 (v := .int .i64 ((i : Nat) : Int)) h49 rfl rfl hB41 fun a50 h50 => ?_; clear h49
    obtain ⟨y51, hy51⟩ : ∃ z, l2[i]? = some z := ⟨_, List.getElem?_eq_getElem (by first | omega | (simp; done) | (simp; omega))⟩
    have oky51 := hok2 _ (List.mem_of_getElem? hy51)
    have k52 : 0 ≤ y51.ts := oky51.ts0
    have k53 : y51.ts < 18446744073709551616 := oky51.ts1
    refine dk 6 (v := pt (blkOf v2) (offOf v2 + i * 4)) h50 rfl rfl hB41 (fun x hx => (rn_index rfl rfl rfl Try.underlying39 Try.sizeOf47 (hs2.below hx) (by omega) (by first | omega | (simp; done) | (simp; omega)))) fun a54 h54 => ?_; clear h50
    refine dk 7 (v := .agg #[.int .i64 y51.client, .int .i64 y51.req, y51.ops, .int .u64 y51.ts]) h54 rfl rfl hB41 (fun x hx => (rn_loadN rfl rfl Try.underlying47 rfl (by kernel_rfl) (sl_at (hs2.below hx) hy51))) fun a55 h55 => ?_; clear h54
    refine d1 8 h55 rfl rfl (op_call (args := #[.agg #[.int .i64 y44.client, .int .i64 y44.req, y44.ops, .int .u64 y44.ts], .agg #[.int .i64 y51.client, .int .i64 y51.req, y51.ops, .int .u64 y51.ts]]) (R := fun res xw => res = .bool true ∧ Below w36.heap.size w36 xw) rfl rfl rfl (by kernel_rfl) (by kernel_rfl) (Try.call29 _ _) (sameEntG y44.client y44.req y44.ops y44.opl y44.ts y51.client y51.req y51.ops y51.opl y51.ts w36 (oky44.ops.below hB41) (oky51.ops.below hB41) (e0_both heq hy44 hy51)) (by rintro e x ⟨rfl, hb58⟩; exact ⟨_, rfl, ⟨rfl, hb58⟩⟩)) ?_ ?_; clear h55
    ·
     rintro _ w57 ⟨rfl, hb58⟩
     have hz59 := hb58.size
     have hB60 := hb_call hB41 hb58
     exact hB60
    rintro _ w57 a56 ⟨rfl, hb58⟩ h56
    have hz59 := hb58.size
    have hB60 := hb_call hB41 hb58
    refine dk0 9 (v := .bool false) h56 rfl rfl hB60 fun a61 h61 => ?_; clear h56
    refine dr_done (by kernel_rfl) ?_
    refine co_then ?_
    refine co_false h61 rfl ?_
    refine wp_skip ?_
    refine co_blockN ?_
    refine co_then ?_
    refine co_reg ?_
    refine pk0 (v := .int .i64 ((i : Nat) : Int)) h61 rfl fun a62 h62 => ?_; clear h61
    refine pk (v := .int .i64 ((i + 1 : Nat) : Int)) h62 rfl (rn_arith' rfl rfl rfl rfl rfl rfl (IntWalk.i64_in _ (by omega)) (by omega)) fun a63 h63 => ?_; clear h62
    refine pk0 (v := .int .i64 ((i + 1 : Nat) : Int)) h63 rfl fun a64 h64 => ?_; clear h63
    refine pl_nil ?_
    refine co_then ?_
    refine ⟨(l.length - (i + 1)), by omega, ?_⟩
    exact ⟨i + 1, h64.sub ⟨rfl, rfl, rfl, trivial⟩, rfl, by omega, hB60⟩
set_option maxRecDepth 100000 in
theorem rFind17_any (b : Nat) (u : Value) (l : List EntT) (c : Int) (r : Int) (w : World) (hD : Blk w b 41 #[u]) (hs : SliceOf entE 4 w u l) (hok : ∀ z ∈ l, EntOk w z) :
    Calls Try.prog 31 #[pt b 0, .int .i64 c, .int .i64 r] w fun e w' => e = .returned (.int .i64 (fndI l c r)) ∧ Below w.heap.size w w' := by
 have hB0 := Below.refl w.heap.size w
 have hl_hD := hD.lt
 have hl_hs := sl_len hs
 refine co_enter (n := 42) Try.func31 rfl rfl rfl [(0, pt b 0), (1, .int .i64 c), (2, .int .i64 r)] rfl (fun a h0 => ?_)
 refine co_seq ?_
 refine co_reg ?_
 refine pk0 (v := .int .i64 0) h0 rfl fun a1 h1 => ?_; clear h0
 refine pl_nil ?_
 refine co_then ?_
 refine co_seq ?_
 refine co_seq ?_
 refine co_reg ?_
 refine pk0 (v := .int .i64 0) h1 rfl fun a2 h2 => ?_; clear h1
 refine pl_nil ?_
 refine co_then ?_
 refine wp_block ?_
 have h3 : Slots 42 [(0, pt b 0), (1, .int .i64 c), (2, .int .i64 r), (7, .int .i64 0)] _ := h2.sub ⟨rfl, rfl, rfl, rfl, trivial⟩; clear h2
 refine co_loop (fun mm a x => ∃ (i : Nat), Slots 42 [(0, pt b 0), (1, .int .i64 c), (2, .int .i64 r), (7, .int .i64 ((i : Nat) : Int))] a ∧ mm = l.length - i ∧ (i ≤ l.length) ∧ (findN (l.take i) (c, r) = none) ∧ Below w.heap.size w x ∧ Blk x b 41 #[u]) (l.length - 0) ?_ ?_
 · exact ⟨0, h3.sub ⟨rfl, rfl, rfl, (slot_eq rfl (congrArg (Value.int .i64) (by first | rfl | omega))), trivial⟩, rfl, by omega, by first | exact hn' | exact findN_nil _, hB0, hD⟩
 · rintro k4 a5 w6 ⟨i, h5, rfl, hi7, hi8, hB9, hk10⟩
   have hz11 := hB9.size
   have hl12 := hk10.lt
   refine co_seq ?_
   refine co_seq ?_
   refine co_reg ?_
   refine pk0 (v := .int .i64 ((i : Nat) : Int)) h5 rfl fun a13 h13 => ?_; clear h5
   refine pk0 (v := pt b 0) h13 rfl fun a14 h14 => ?_; clear h13
   refine pk0 (v := pt b 0) h14 rfl fun a15 h15 => ?_; clear h14
   refine pk0 (v := pt b 0) h15 rfl fun a16 h16 => ?_; clear h15
   refine pk (v := u) h16 rfl (rn_load1 rfl rfl Try.isAgg39 (hk10.cell rfl)) fun a17 h17 => ?_; clear h16
   refine pk (v := .int .i64 ((l.length : Nat) : Int)) h17 rfl (rn_len rfl rfl Try.underlying39 (hs.below hB9)) fun a18 h18 => ?_; clear h17
   refine pk0 (v := .bool (decide (((i : Nat) : Int) < ((l.length : Nat) : Int)))) h18 rfl fun a19 h19 => ?_; clear h18
   refine pl_nil ?_
   refine co_then ?_
   cases hc20 : (decide (((i : Nat) : Int) < ((l.length : Nat) : Int)))
   ·
    rw [hc20] at h19
    have hp21 : ¬ (((i : Nat) : Int) < ((l.length : Nat) : Int)) := of_decide_eq_false hc20
    clear hc20
    refine co_false h19 rfl ?_
    refine wp_exit ?_
    refine co_thenX ?_
    refine co_thenX ?_
    refine co_blockX ?_
    refine co_then ?_
    refine co_seq ?_
    refine co_reg ?_
    refine pk0 (v := .int .i64 (-1)) h19 rfl fun a22 h22 => ?_; clear h19
    refine pl_nil ?_
    refine co_then ?_
    refine wp_ret ?_
    refine co_ret1 h22 rfl rfl ?_
    exact ⟨ret_int (by first | exact fnd_end (by assumption) (by omega) | exact fnd_hit (by assumption) rfl (by omega)), hB9⟩
   ·
    rw [hc20] at h19
    have hp23 : ((i : Nat) : Int) < ((l.length : Nat) : Int) := of_decide_eq_true hc20
    clear hc20
    refine co_true h19 rfl ?_
    refine wp_skip ?_
    refine co_then ?_
    refine co_seq ?_
    refine wp_block ?_
    refine co_seq ?_
    refine co_reg ?_
    refine pk0 (v := pt b 0) h19 rfl fun a24 h24 => ?_; clear h19
    refine pk0 (v := pt b 0) h24 rfl fun a25 h25 => ?_; clear h24
    refine pk0 (v := pt b 0) h25 rfl fun a26 h26 => ?_; clear h25
    refine pk (v := u) h26 rfl (rn_load1 rfl rfl Try.isAgg39 (hk10.cell rfl)) fun a27 h27 => ?_; clear h26
    refine pk0 (v := .int .i64 ((i : Nat) : Int)) h27 rfl fun a28 h28 => ?_; clear h27
    obtain ⟨y29, hy29⟩ : ∃ z, l[i]? = some z := ⟨_, List.getElem?_eq_getElem (by first | omega | (simp; done) | (simp; omega))⟩
    have oky29 := hok _ (List.mem_of_getElem? hy29)
    have k30 : 0 ≤ y29.ts := oky29.ts0
    have k31 : y29.ts < 18446744073709551616 := oky29.ts1
    have hq32 := wf_i64 oky29.rq
    refine pk (v := pt (blkOf u) (offOf u + i * 4)) h28 rfl (rn_index rfl rfl rfl Try.underlying39 Try.sizeOf47 (hs.below hB9) (by omega) (by first | omega | (simp; done) | (simp; omega))) fun a33 h33 => ?_; clear h28
    refine pk0 (v := pt (blkOf u) (offOf u + i * 4)) h33 rfl fun a34 h34 => ?_; clear h33
    refine pk0 (v := pt (blkOf u) (offOf u + i * 4)) h34 rfl fun a35 h35 => ?_; clear h34
    refine pk (v := .int .i64 y29.client) h35 rfl (rn_load1 rfl rfl Try.isAgg3 ((sl_at (hs.below hB9) hy29) 0 _ rfl)) fun a36 h36 => ?_; clear h35
    refine pk0 (v := .int .i64 c) h36 rfl fun a37 h37 => ?_; clear h36
    refine pk0 (v := .bool (y29.client == c)) h37 rfl fun a38 h38 => ?_; clear h37
    refine pk0 (v := .bool (y29.client == c)) h38 rfl fun a39 h39 => ?_; clear h38
    cases hc40 : (y29.client == c)
    ·
     rw [hc40] at h39
     have hp41 : ¬ (y29.client = c) := by first | simpa using hc40 | simpa [and_assoc] using hc40
     clear hc40
     refine psk h39 rfl fun a42 h42 => ?_; clear h39
     refine psk h42 rfl fun a43 h43 => ?_; clear h42
     refine psk h43 rfl fun a44 h44 => ?_; clear h43
     refine psk h44 rfl fun a45 h45 => ?_; clear h44
     refine psk h45 rfl fun a46 h46 => ?_; clear h45
     refine psk h46 rfl fun a47 h47 => ?_; clear h46
     refine psk h47 rfl fun a48 h48 => ?_; clear h47
     refine psk h48 rfl fun a49 h49 => ?_; clear h48
     refine psk h49 rfl fun a50 h50 => ?_; clear h49
     refine psk h50 rfl fun a51 h51 => ?_; clear h50
     refine psk h51 rfl fun a52 h52 => ?_; clear h51
     refine pk0 (v := .bool false) h52 rfl fun a53 h53 => ?_; clear h52
     refine pl_nil ?_
     refine co_then ?_
     refine co_false h53 rfl ?_
     refine wp_skip ?_
     refine co_blockN ?_
     refine co_then ?_
     refine co_reg ?_
     refine pk0 (v := .int .i64 ((i : Nat) : Int)) h53 rfl fun a54 h54 => ?_; clear h53
     refine pk (v := .int .i64 ((i + 1 : Nat) : Int)) h54 rfl (rn_arith' rfl rfl rfl rfl rfl rfl (IntWalk.i64_in _ (by omega)) (by omega)) fun a55 h55 => ?_; clear h54
     refine pk0 (v := .int .i64 ((i + 1 : Nat) : Int)) h55 rfl fun a56 h56 => ?_; clear h55
     refine pl_nil ?_
     refine co_then ?_
     refine ⟨(l.length - (i + 1)), by omega, ?_⟩
     have hn' := findN_next (by assumption : findN (l.take i) (c, r) = none) hy29 (nmE_n (by omega))
     exact ⟨i + 1, h56.sub ⟨rfl, rfl, rfl, rfl, trivial⟩, rfl, by omega, by first | exact hn' | exact findN_nil _, hB9, hk10⟩
    ·
     rw [hc40] at h39
     have hp57 : y29.client = c := by first | simpa using hc40 | simpa [and_assoc] using hc40
     clear hc40
     refine pk0 (v := pt b 0) h39 rfl fun a58 h58 => ?_; clear h39
     refine pk0 (v := pt b 0) h58 rfl fun a59 h59 => ?_; clear h58
     refine pk0 (v := pt b 0) h59 rfl fun a60 h60 => ?_; clear h59
     refine pk (v := u) h60 rfl (rn_load1 rfl rfl Try.isAgg39 (hk10.cell rfl)) fun a61 h61 => ?_; clear h60
     refine pk0 (v := .int .i64 ((i : Nat) : Int)) h61 rfl fun a62 h62 => ?_; clear h61
     refine pk (v := pt (blkOf u) (offOf u + i * 4)) h62 rfl (rn_index rfl rfl rfl Try.underlying39 Try.sizeOf47 (hs.below hB9) (by omega) (by first | omega | (simp; done) | (simp; omega))) fun a63 h63 => ?_; clear h62
     refine pk0 (v := pt (blkOf u) (offOf u + i * 4)) h63 rfl fun a64 h64 => ?_; clear h63
     refine pk0 (v := pt (blkOf u) (offOf u + i * 4 + 1)) h64 rfl fun a65 h65 => ?_; clear h64
     refine pk (v := .int .i64 y29.req) h65 rfl (rn_load1 rfl rfl Try.isAgg3 ((sl_at (hs.below hB9) hy29) 1 _ rfl)) fun a66 h66 => ?_; clear h65
     refine pk0 (v := .int .i64 r) h66 rfl fun a67 h67 => ?_; clear h66
     refine pk0 (v := .bool (y29.req == r)) h67 rfl fun a68 h68 => ?_; clear h67
     refine pk0 (v := .bool (y29.req == r)) h68 rfl fun a69 h69 => ?_; clear h68
     refine pl_nil ?_
     refine co_then ?_
     cases hc70 : (y29.req == r)
     ·
      rw [hc70] at h69
      have hp71 : ¬ (y29.req = r) := by first | simpa using hc70 | simpa [and_assoc] using hc70
      clear hc70
      refine co_false h69 rfl ?_
      refine wp_skip ?_
      refine co_blockN ?_
      refine co_then ?_
      refine co_reg ?_
      refine pk0 (v := .int .i64 ((i : Nat) : Int)) h69 rfl fun a72 h72 => ?_; clear h69
      refine pk (v := .int .i64 ((i + 1 : Nat) : Int)) h72 rfl (rn_arith' rfl rfl rfl rfl rfl rfl (IntWalk.i64_in _ (by omega)) (by omega)) fun a73 h73 => ?_; clear h72
      refine pk0 (v := .int .i64 ((i + 1 : Nat) : Int)) h73 rfl fun a74 h74 => ?_; clear h73
      refine pl_nil ?_
      refine co_then ?_
      refine ⟨(l.length - (i + 1)), by omega, ?_⟩
      have hn' := findN_next (by assumption : findN (l.take i) (c, r) = none) hy29 (nmE_n (by omega))
      exact ⟨i + 1, h74.sub ⟨rfl, rfl, rfl, rfl, trivial⟩, rfl, by omega, by first | exact hn' | exact findN_nil _, hB9, hk10⟩
     ·
      rw [hc70] at h69
      have hp75 : y29.req = r := by first | simpa using hc70 | simpa [and_assoc] using hc70
      clear hc70
      refine co_true h69 rfl ?_
      refine co_seq ?_
      refine co_reg ?_
      refine pk0 (v := .int .i64 ((i : Nat) : Int)) h69 rfl fun a76 h76 => ?_; clear h69
      refine pk0 (v := .int .i64 ((i : Nat) : Int)) h76 rfl fun a77 h77 => ?_; clear h76
      refine pl_nil ?_
      refine co_then ?_
      refine wp_ret ?_
      refine co_blockR ?_
      refine co_thenR ?_
      refine co_thenR ?_
      refine co_blockR ?_
      refine co_thenR ?_
      refine co_ret1 h77 rfl rfl ?_
      exact ⟨ret_int (by first | exact fnd_end (by assumption) (by omega) | exact fnd_hit (by assumption) hy29 (by omega)), hB9⟩
set_option maxRecDepth 100000 in
theorem rTop17_any (b : Nat) (u : Value) (l : List EntT) (c : Int) (w : World) (hD : Blk w b 41 #[u]) (hs : SliceOf entE 4 w u l) (hok : ∀ z ∈ l, EntOk w z) :
    Calls Try.prog 33 #[pt b 0, .int .i64 c] w fun e w' => e = .returned (.int .i64 (topN l c)) ∧ Below w.heap.size w w' := by
 have hB0 := Below.refl w.heap.size w
 have hl_hD := hD.lt
 have hl_hs := sl_len hs
 refine co_enter (n := 39) Try.func33 rfl rfl rfl [(0, pt b 0), (1, .int .i64 c)] rfl (fun a h0 => ?_)
 refine co_seq ?_
 refine co_reg ?_
 refine pk0 (v := .int .i64 0) h0 rfl fun a1 h1 => ?_; clear h0
 refine pl_nil ?_
 refine co_then ?_
 refine co_seq ?_
 refine co_reg ?_
 refine pk0 (v := .int .i64 0) h1 rfl fun a2 h2 => ?_; clear h1
 refine pl_nil ?_
 refine co_then ?_
 refine co_seq ?_
 refine co_seq ?_
 refine co_reg ?_
 refine pk0 (v := .int .i64 0) h2 rfl fun a3 h3 => ?_; clear h2
 refine pl_nil ?_
 refine co_then ?_
 refine wp_block ?_
 have h4 : Slots 39 [(0, pt b 0), (1, .int .i64 c), (5, .int .i64 0), (6, .int .i64 0)] _ := h3.sub ⟨rfl, rfl, rfl, rfl, trivial⟩; clear h3
 refine co_loop (fun mm a x => ∃ (i : Nat), Slots 39 [(0, pt b 0), (1, .int .i64 c), (5, .int .i64 (topN (l.take i) c)), (6, .int .i64 ((i : Nat) : Int))] a ∧ mm = l.length - i ∧ (i ≤ l.length) ∧ Below w.heap.size w x ∧ Blk x b 41 #[u]) (l.length - 0) ?_ ?_
 · exact ⟨0, h4.sub ⟨rfl, rfl, (slot_eq rfl (congrArg (Value.int .i64) (by first | rfl | (rw [topN_at (by assumption)]; first | (rw [if_pos (by omega)]; first | rfl | assumption | omega | (split <;> omega)) | (rw [if_neg (by omega)]))))), (slot_eq rfl (congrArg (Value.int .i64) (by first | rfl | omega))), trivial⟩, rfl, by omega, hB0, hD⟩
 · rintro k5 a6 w7 ⟨i, h6, rfl, hi8, hB9, hk10⟩
   have hz11 := hB9.size
   have hl12 := hk10.lt
   refine co_seq ?_
   refine co_seq ?_
   refine co_reg ?_
   refine pk0 (v := .int .i64 ((i : Nat) : Int)) h6 rfl fun a13 h13 => ?_; clear h6
   refine pk0 (v := pt b 0) h13 rfl fun a14 h14 => ?_; clear h13
   refine pk0 (v := pt b 0) h14 rfl fun a15 h15 => ?_; clear h14
   refine pk0 (v := pt b 0) h15 rfl fun a16 h16 => ?_; clear h15
   refine pk (v := u) h16 rfl (rn_load1 rfl rfl Try.isAgg39 (hk10.cell rfl)) fun a17 h17 => ?_; clear h16
   refine pk (v := .int .i64 ((l.length : Nat) : Int)) h17 rfl (rn_len rfl rfl Try.underlying39 (hs.below hB9)) fun a18 h18 => ?_; clear h17
   refine pk0 (v := .bool (decide (((i : Nat) : Int) < ((l.length : Nat) : Int)))) h18 rfl fun a19 h19 => ?_; clear h18
   refine pl_nil ?_
   refine co_then ?_
   cases hc20 : (decide (((i : Nat) : Int) < ((l.length : Nat) : Int)))
   ·
    rw [hc20] at h19
    have hp21 : ¬ (((i : Nat) : Int) < ((l.length : Nat) : Int)) := of_decide_eq_false hc20
    clear hc20
    refine co_false h19 rfl ?_
    refine wp_exit ?_
    refine co_thenX ?_
    refine co_thenX ?_
    refine co_blockX ?_
    refine co_then ?_
    refine co_seq ?_
    refine co_reg ?_
    refine pk0 (v := .int .i64 (topN (l.take i) c)) h19 rfl fun a22 h22 => ?_; clear h19
    refine pk0 (v := .int .i64 (topN (l.take i) c)) h22 rfl fun a23 h23 => ?_; clear h22
    refine pl_nil ?_
    refine co_then ?_
    refine wp_ret ?_
    refine co_ret1 h23 rfl rfl ?_
    exact ⟨by rw [List.take_of_length_le (by omega)], hB9⟩
   ·
    rw [hc20] at h19
    have hp24 : ((i : Nat) : Int) < ((l.length : Nat) : Int) := of_decide_eq_true hc20
    clear hc20
    refine co_true h19 rfl ?_
    refine wp_skip ?_
    refine co_then ?_
    refine co_seq ?_
    refine wp_block ?_
    refine co_seq ?_
    refine co_reg ?_
    refine pk0 (v := pt b 0) h19 rfl fun a25 h25 => ?_; clear h19
    refine pk0 (v := pt b 0) h25 rfl fun a26 h26 => ?_; clear h25
    refine pk0 (v := pt b 0) h26 rfl fun a27 h27 => ?_; clear h26
    refine pk (v := u) h27 rfl (rn_load1 rfl rfl Try.isAgg39 (hk10.cell rfl)) fun a28 h28 => ?_; clear h27
    refine pk0 (v := .int .i64 ((i : Nat) : Int)) h28 rfl fun a29 h29 => ?_; clear h28
    obtain ⟨y30, hy30⟩ : ∃ z, l[i]? = some z := ⟨_, List.getElem?_eq_getElem (by first | omega | (simp; done) | (simp; omega))⟩
    have oky30 := hok _ (List.mem_of_getElem? hy30)
    have k31 : 0 ≤ y30.ts := oky30.ts0
    have k32 : y30.ts < 18446744073709551616 := oky30.ts1
    have hq33 := wf_i64 oky30.rq
    refine pk (v := pt (blkOf u) (offOf u + i * 4)) h29 rfl (rn_index rfl rfl rfl Try.underlying39 Try.sizeOf47 (hs.below hB9) (by omega) (by first | omega | (simp; done) | (simp; omega))) fun a34 h34 => ?_; clear h29
    refine pk0 (v := pt (blkOf u) (offOf u + i * 4)) h34 rfl fun a35 h35 => ?_; clear h34
    refine pk0 (v := pt (blkOf u) (offOf u + i * 4)) h35 rfl fun a36 h36 => ?_; clear h35
    refine pk (v := .int .i64 y30.client) h36 rfl (rn_load1 rfl rfl Try.isAgg3 ((sl_at (hs.below hB9) hy30) 0 _ rfl)) fun a37 h37 => ?_; clear h36
    refine pk0 (v := .int .i64 c) h37 rfl fun a38 h38 => ?_; clear h37
    refine pk0 (v := .bool (y30.client == c)) h38 rfl fun a39 h39 => ?_; clear h38
    refine pl_nil ?_
    refine co_then ?_
    cases hc40 : (y30.client == c)
    ·
     rw [hc40] at h39
     have hp41 : ¬ (y30.client = c) := by first | simpa using hc40 | simpa [and_assoc] using hc40
     clear hc40
     refine co_false h39 rfl ?_
     refine wp_skip ?_
     refine co_blockN ?_
     refine co_then ?_
     refine co_reg ?_
     refine pk0 (v := .int .i64 ((i : Nat) : Int)) h39 rfl fun a42 h42 => ?_; clear h39
     refine pk (v := .int .i64 ((i + 1 : Nat) : Int)) h42 rfl (rn_arith' rfl rfl rfl rfl rfl rfl (IntWalk.i64_in _ (by omega)) (by omega)) fun a43 h43 => ?_; clear h42
     refine pk0 (v := .int .i64 ((i + 1 : Nat) : Int)) h43 rfl fun a44 h44 => ?_; clear h43
     refine pl_nil ?_
     refine co_then ?_
     refine ⟨(l.length - (i + 1)), by omega, ?_⟩
     exact ⟨i + 1, h44.sub ⟨rfl, rfl, (slot_eq rfl (congrArg (Value.int .i64) (by first | rfl | (rw [topN_at (by assumption)]; first | (rw [if_pos (by omega)]; first | rfl | assumption | omega | (split <;> omega)) | (rw [if_neg (by omega)]))))), rfl, trivial⟩, rfl, by omega, hB9, hk10⟩
    ·
     rw [hc40] at h39
     have hp45 : y30.client = c := by first | simpa using hc40 | simpa [and_assoc] using hc40
     clear hc40
     refine co_true h39 rfl ?_
     refine co_reg ?_
     refine pk0 (v := .int .i64 (topN (l.take i) c)) h39 rfl fun a46 h46 => ?_; clear h39
     refine pk0 (v := pt b 0) h46 rfl fun a47 h47 => ?_; clear h46
     refine pk0 (v := pt b 0) h47 rfl fun a48 h48 => ?_; clear h47
     refine pk0 (v := pt b 0) h48 rfl fun a49 h49 => ?_; clear h48
     refine pk (v := u) h49 rfl (rn_load1 rfl rfl Try.isAgg39 (hk10.cell rfl)) fun a50 h50 => ?_; clear h49
     refine pk0 (v := .int .i64 ((i : Nat) : Int)) h50 rfl fun a51 h51 => ?_; clear h50
     refine pk (v := pt (blkOf u) (offOf u + i * 4)) h51 rfl (rn_index rfl rfl rfl Try.underlying39 Try.sizeOf47 (hs.below hB9) (by omega) (by first | omega | (simp; done) | (simp; omega))) fun a52 h52 => ?_; clear h51
     refine pk0 (v := pt (blkOf u) (offOf u + i * 4)) h52 rfl fun a53 h53 => ?_; clear h52
     refine pk0 (v := pt (blkOf u) (offOf u + i * 4 + 1)) h53 rfl fun a54 h54 => ?_; clear h53
     refine pk (v := .int .i64 y30.req) h54 rfl (rn_load1 rfl rfl Try.isAgg3 ((sl_at (hs.below hB9) hy30) 1 _ rfl)) fun a55 h55 => ?_; clear h54
     obtain ⟨kp56, hkp57⟩ : ∃ z : Int, z = (if topN (l.take i) c < y30.req then y30.req else topN (l.take i) c) := ⟨_, rfl⟩
     have hq58 : kp56 ≥ topN (l.take i) c ∧ kp56 ≥ y30.req ∧ (kp56 = topN (l.take i) c ∨ kp56 = y30.req) := by rw [hkp57]; split <;> omega
     refine pk (v := .int .i64 kp56) h55 rfl (by rw [hkp57]; kernel_rfl) fun a59 h59 => ?_; clear h55
     refine pk0 (v := .int .i64 kp56) h59 rfl fun a60 h60 => ?_; clear h59
     refine pl_nil ?_
     refine co_blockN ?_
     refine co_then ?_
     refine co_reg ?_
     refine pk0 (v := .int .i64 ((i : Nat) : Int)) h60 rfl fun a61 h61 => ?_; clear h60
     refine pk (v := .int .i64 ((i + 1 : Nat) : Int)) h61 rfl (rn_arith' rfl rfl rfl rfl rfl rfl (IntWalk.i64_in _ (by omega)) (by omega)) fun a62 h62 => ?_; clear h61
     refine pk0 (v := .int .i64 ((i + 1 : Nat) : Int)) h62 rfl fun a63 h63 => ?_; clear h62
     refine pl_nil ?_
     refine co_then ?_
     refine ⟨(l.length - (i + 1)), by omega, ?_⟩
     exact ⟨i + 1, h63.sub ⟨rfl, rfl, (slot_eq rfl (congrArg (Value.int .i64) (by first | rfl | (rw [topN_at (by assumption)]; first | (rw [if_pos (by omega)]; first | rfl | assumption | omega | (split <;> omega)) | (rw [if_neg (by omega)]))))), rfl, trivial⟩, rfl, by omega, hB9, hk10⟩
end Go.Proofs.Ythmnndbpadegnaa
