/- catenalaw22: LinkBytes. Conditions: none. -/
import Derived.Test.YthmljllgfigebaaLinkTLb
import Derived.Test.YthmljllgfigebaaLinkOLb
import Derived.OpenShut
namespace Go.Proofs.Ythmljllgfigebaa
open Go.RowKit Go.PlainAid
set_option linter.unusedVariables false


def mxI (a b : Int) : Int := if a < b then b else a
theorem mxI_ge (a b : Int) : a ≤ mxI a b ∧ b ≤ mxI a b := by unfold mxI; split <;> omega
theorem rdSeg_b (t : ByteArray) : SegB (rdSeg t).1 := by
  unfold rdSeg SegB
  dsimp only
  split
  · exact ⟨by simp [zSeg], by show (⟨#[]⟩ : ByteArray).size ≤ 140737488351232; decide⟩
  · dsimp only
    have hn : ∀ a x, (numR t a x 1073741824).1 ≤ 9223372036854775807 := fun a x => by have := numR_le (s := t) (a := a) (x := x) (m := 1073741824) (by omega); omega
    have ht : ∀ a x, (textR t a x 65536).1.size ≤ 140737488351232 := fun a x => by have := textR_le (s := t) (a := a) (x := x) (m := 65536) (by omega); omega
    exact ⟨⟨hn _ _, hn _ _, hn _ _, hn _ _, hn _ _, hn _ _⟩, ht _ _⟩
section
variable {H : Type} {enc : TypeId × Value → H} {w : World} {base : Nat} {spare : Nat → Bool} {held : Bool}
set_option maxRecDepth 10000 in
theorem elem_segS (n : Nat) (cs : List Value) (x : DataW H × List MemPlace) (h : DataW.trod enc Try.prog w base spare held n 61 cs = some x) (hw : ∀ n ∈ x.1.weights Try.prog 61, n ≤ reachBytes) : ∃ p, cs = segE p ∧ SegB p := by
  obtain ⟨xs, m, _, hx, hl, hxl, hf⟩ := DataW.trod_struct Try.underlying61 h
  have hl8 : cs.length = 8 := hl
  have hx8 : xs.length = 8 := hxl
  clear hl hxl
  match cs, hl8, xs, hx8 with
  | [c0, c1, c2, c3, c4, c5, c6, c7], _, [y0, y1, y2, y3, y4, y5, y6, y7], _ =>
    have h0 : DataW.trod enc Try.prog w base spare held m 3 [c0] = some y0 := hf 0 _ rfl
    have h1 : DataW.trod enc Try.prog w base spare held m 3 [c1] = some y1 := hf 1 _ rfl
    have h2 : DataW.trod enc Try.prog w base spare held m 3 [c2] = some y2 := hf 2 _ rfl
    have h3 : DataW.trod enc Try.prog w base spare held m 3 [c3] = some y3 := hf 3 _ rfl
    have h4 : DataW.trod enc Try.prog w base spare held m 3 [c4] = some y4 := hf 4 _ rfl
    have h5 : DataW.trod enc Try.prog w base spare held m 3 [c5] = some y5 := hf 5 _ rfl
    have h6 : DataW.trod enc Try.prog w base spare held m 4 [c6] = some y6 := hf 6 _ rfl
    have h7 : DataW.trod enc Try.prog w base spare held m 9 [c7] = some y7 := hf 7 _ rfl
    obtain ⟨a0, e0, _, w0⟩ := DataW.trod_int Try.underlying3 h0
    obtain ⟨a1, e1, _, w1⟩ := DataW.trod_int Try.underlying3 h1
    obtain ⟨a2, e2, _, w2⟩ := DataW.trod_int Try.underlying3 h2
    obtain ⟨a3, e3, _, w3⟩ := DataW.trod_int Try.underlying3 h3
    obtain ⟨a4, e4, _, w4⟩ := DataW.trod_int Try.underlying3 h4
    obtain ⟨a5, e5, _, w5⟩ := DataW.trod_int Try.underlying3 h5
    obtain ⟨a6, e6, _⟩ := DataW.trod_bool Try.underlying4 h6
    obtain ⟨a7, e7, d7, w7⟩ := DataW.trod_string Try.underlying9 h7
    have hw7 : ∀ n ∈ y7.1.weights Try.prog 9, n ≤ reachBytes := fun n hn => hw n (by
      have e1 : x.1 = .agg [y0.1, y1.1, y2.1, y3.1, y4.1, y5.1, y6.1, y7.1] := by rw [hx]; rfl
      rw [e1]
      unfold DataW.weights
      rw [Try.underlying61]
      exact DataW.weights_mem_each (j := 7) rfl rfl n hn)
    have hs7 : a7.size ≤ 140737488351232 := by
      have := hw7 a7.size (by rw [d7]; simp [DataW.weights])
      simpa [reachBytes] using this
    simp only [List.cons.injEq, and_true] at e0 e1 e2 e3 e4 e5 e6 e7
    subst e0 e1 e2 e3 e4 e5 e6 e7
    exact ⟨⟨a0, a1, a2, a3, a4, a5, a6, a7⟩, rfl, ⟨(wf_i64 w0).2, (wf_i64 w1).2, (wf_i64 w2).2, (wf_i64 w3).2, (wf_i64 w4).2, (wf_i64 w5).2⟩, hs7⟩
end


theorem segB_size {s : SegT} (h : SegB s) : (⟨(segB s).toArray⟩ : ByteArray).size ≤ 9223372036854775807 := by
  show (segB s).toArray.size ≤ _
  have h1 := putL_le s.boot; have h2 := putL_le s.stream; have h3 := putL_le s.seq; have h4 := putL_le s.ab; have h5 := putL_le s.ast; have h6 := putL_le s.asq; have h7 := putL_le (s.body.size : Int)
  have hs : s.body.data.toList.length = s.body.size := by simp
  have := h.2
  simp only [List.size_toArray, segB, List.length_append, List.length_singleton, hs]
  omega

set_option maxRecDepth 100000 in
set_option maxHeartbeats 3200000 in
theorem linkBytes_law (s : SegT) (t : ByteArray) (w : World) (hsb : SegB s) (ht : t.size ≤ 140737488351232) :
    Calls Try.prog 8 #[.agg #[.int .i64 s.boot, .int .i64 s.stream, .int .i64 s.seq, .int .i64 s.ab, .int .i64 s.ast, .int .i64 s.asq, .bool s.has, .string s.body], .string t] w fun e w' => e = .returned (.bool true) ∧ Below w.heap.size w w' := by
 have hB0 := Below.refl w.heap.size w
 refine co_enter (n := 103) Try.func8 rfl rfl rfl [(0, .agg #[.int .i64 s.boot, .int .i64 s.stream, .int .i64 s.seq, .int .i64 s.ab, .int .i64 s.ast, .int .i64 s.asq, .bool s.has, .string s.body]), (1, .string t)] rfl (fun a h0 => ?_)
 refine co_seq ?_
 refine co_reg ?_
 refine pw h0 rfl (op_new (v := fun N => pt N 0) (T := 61) (cs := #[.int .i64 s.boot, .int .i64 s.stream, .int .i64 s.seq, .int .i64 s.ab, .int .i64 s.ast, .int .i64 s.asq, .bool s.has, .string s.body]) (by kernel_rfl) (by kernel_rfl) (by kernel_rfl)) ?_; clear h0
 rintro _ w2 a1 ⟨N3, rfl, hN6, hz7, hk5, hg4⟩ h1
 have hz8 := hg4.size
 try dsimp only at h1
 refine pk0 (v := .bool false) h1 rfl fun a9 h9 => ?_; clear h1
 refine pl_nil ?_
 refine co_then ?_
 refine co_seq ?_
 refine co_reg ?_
 refine pk (v := .agg #[.int .i64 s.boot, .int .i64 s.stream, .int .i64 s.seq, .int .i64 s.ab, .int .i64 s.ast, .int .i64 s.asq, .bool s.has, .string s.body]) h9 rfl (rn_loadN rfl rfl Try.underlying61 rfl (by kernel_rfl) hk5.all) fun a10 h10 => ?_; clear h9
 have hB13 := hb_new hB0 hg4
 refine pw h10 rfl (op_call (args := #[.agg #[.int .i64 s.boot, .int .i64 s.stream, .int .i64 s.seq, .int .i64 s.ab, .int .i64 s.ast, .int .i64 s.asq, .bool s.has, .string s.body]]) (R := fun res xw => res = .tuple #[.string ((putG s).1), .int .i64 ((putG s).2)] ∧ Below w2.heap.size w2 xw) rfl rfl rfl (by kernel_rfl) (by kernel_rfl) (Try.call44 _ _) (lkPut_any s w2 hsb) (by rintro e x ⟨rfl, h⟩; exact ⟨_, rfl, rfl, h⟩)) ?_; clear h10
 rintro _ w12 a11 ⟨rfl, hb14⟩ h11
 have hz15 := hb14.size
 refine pk0 (v := .tuple #[.string ((putG s).1), .int .i64 ((putG s).2)]) h11 rfl fun a16 h16 => ?_; clear h11
 refine pk0 (v := .string ((putG s).1)) h16 rfl fun a17 h17 => ?_; clear h16
 refine pk0 (v := .int .i64 ((putG s).2)) h17 rfl fun a18 h18 => ?_; clear h17
 refine pk0 (v := .string ((putG s).1)) h18 rfl fun a19 h19 => ?_; clear h18
 refine pk0 (v := .int .i64 ((putG s).2)) h19 rfl fun a20 h20 => ?_; clear h19
 refine pl_nil ?_
 refine co_then ?_
 refine co_seq ?_
 refine co_reg ?_
 have hk21 := hk5.below hb14
 refine pk (v := .agg #[.int .i64 s.boot, .int .i64 s.stream, .int .i64 s.seq, .int .i64 s.ab, .int .i64 s.ast, .int .i64 s.asq, .bool s.has, .string s.body]) h20 rfl (rn_loadN rfl rfl Try.underlying61 rfl (by kernel_rfl) hk21.all) fun a22 h22 => ?_; clear h20
 have hB25 := hb_call hB13 hb14
 refine pw h22 rfl (op_call (args := #[.agg #[.int .i64 s.boot, .int .i64 s.stream, .int .i64 s.seq, .int .i64 s.ab, .int .i64 s.ast, .int .i64 s.asq, .bool s.has, .string s.body]]) (R := fun res xw => res = .tuple #[.string ((putG s).1), .int .i64 ((putG s).2)] ∧ Below w12.heap.size w12 xw) rfl rfl rfl (by kernel_rfl) (by kernel_rfl) (Try.call45 _ _) (rlPut_any s w12 hsb) (by rintro e x ⟨rfl, h⟩; exact ⟨_, rfl, rfl, h⟩)) ?_; clear h22
 rintro _ w24 a23 ⟨rfl, hb26⟩ h23
 have hz27 := hb26.size
 refine pk0 (v := .tuple #[.string ((putG s).1), .int .i64 ((putG s).2)]) h23 rfl fun a28 h28 => ?_; clear h23
 refine pk0 (v := .string ((putG s).1)) h28 rfl fun a29 h29 => ?_; clear h28
 refine pk0 (v := .int .i64 ((putG s).2)) h29 rfl fun a30 h30 => ?_; clear h29
 refine pk0 (v := .string ((putG s).1)) h30 rfl fun a31 h31 => ?_; clear h30
 refine pk0 (v := .int .i64 ((putG s).2)) h31 rfl fun a32 h32 => ?_; clear h31
 refine pl_nil ?_
 refine co_then ?_
 refine co_seq ?_
 refine co_reg ?_
 refine pk0 (v := .string t) h32 rfl fun a33 h33 => ?_; clear h32
 have hB36 := hb_call hB25 hb26
 refine pw h33 rfl (op_call (args := #[.string t]) (R := fun res xw => res = .tuple #[.agg #[.int .i64 ((rdSeg t).1.boot), .int .i64 ((rdSeg t).1.stream), .int .i64 ((rdSeg t).1.seq), .int .i64 ((rdSeg t).1.ab), .int .i64 ((rdSeg t).1.ast), .int .i64 ((rdSeg t).1.asq), .bool ((rdSeg t).1.has), .string ((rdSeg t).1.body)], .int .i64 ((rdSeg t).2)] ∧ Below w24.heap.size w24 xw) rfl rfl rfl (by kernel_rfl) (by kernel_rfl) (Try.call46 _ _) (lkOf_any t w24 (by omega)) (by rintro e x ⟨rfl, h⟩; exact ⟨_, rfl, rfl, h⟩)) ?_; clear h33
 rintro _ w35 a34 ⟨rfl, hb37⟩ h34
 have hz38 := hb37.size
 refine pk0 (v := .tuple #[.agg #[.int .i64 ((rdSeg t).1.boot), .int .i64 ((rdSeg t).1.stream), .int .i64 ((rdSeg t).1.seq), .int .i64 ((rdSeg t).1.ab), .int .i64 ((rdSeg t).1.ast), .int .i64 ((rdSeg t).1.asq), .bool ((rdSeg t).1.has), .string ((rdSeg t).1.body)], .int .i64 ((rdSeg t).2)]) h34 rfl fun a39 h39 => ?_; clear h34
 refine pk0 (v := .agg #[.int .i64 ((rdSeg t).1.boot), .int .i64 ((rdSeg t).1.stream), .int .i64 ((rdSeg t).1.seq), .int .i64 ((rdSeg t).1.ab), .int .i64 ((rdSeg t).1.ast), .int .i64 ((rdSeg t).1.asq), .bool ((rdSeg t).1.has), .string ((rdSeg t).1.body)]) h39 rfl fun a40 h40 => ?_; clear h39
 refine pk0 (v := .int .i64 ((rdSeg t).2)) h40 rfl fun a41 h41 => ?_; clear h40
 refine pw h41 rfl (op_new (v := fun N => pt N 0) (T := 61) (cs := #[.int .i64 0, .int .i64 0, .int .i64 0, .int .i64 0, .int .i64 0, .int .i64 0, .bool false, .string (⟨#[]⟩)]) (by kernel_rfl) (by kernel_rfl) (by kernel_rfl)) ?_; clear h41
 rintro _ w43 a42 ⟨N44, rfl, hN47, hz48, hk46, hg45⟩ h42
 have hz49 := hg45.size
 try dsimp only at h42
 refine pwD h42 rfl (op_storeN rfl rfl rfl (by kernel_rfl) (by kernel_rfl) hk46 rfl) ?_; clear h42
 rintro _ w51 a50 ⟨hk52, hz53, hg54⟩ h50
 have hk52' : Blk w51 N44 61 #[.int .i64 ((rdSeg t).1.boot), .int .i64 ((rdSeg t).1.stream), .int .i64 ((rdSeg t).1.seq), .int .i64 ((rdSeg t).1.ab), .int .i64 ((rdSeg t).1.ast), .int .i64 ((rdSeg t).1.asq), .bool ((rdSeg t).1.has), .string ((rdSeg t).1.body)] := hk52; clear hk52
 have hz55 := hg54.size
 refine pk0 (v := .int .i64 ((rdSeg t).2)) h50 rfl fun a56 h56 => ?_; clear h50
 refine pl_nil ?_
 refine co_then ?_
 refine co_seq ?_
 refine co_reg ?_
 refine pk0 (v := .string t) h56 rfl fun a57 h57 => ?_; clear h56
 have hB60 := hb_call hB36 hb37
 have hB61 := hb_new hB60 hg45
 have hB62 := hb_at hB61 hg54 (by omega)
 have hk63 := hk21.below hb26
 have hk64 := hk63.below hb37
 have hk65 := hk64.kept hg45 (by simp)
 have hk66 := hk65.kept hg54 (by simp; omega)
 refine pw h57 rfl (op_call (args := #[.string t]) (R := fun res xw => res = .tuple #[.agg #[.int .i64 ((rdSeg t).1.boot), .int .i64 ((rdSeg t).1.stream), .int .i64 ((rdSeg t).1.seq), .int .i64 ((rdSeg t).1.ab), .int .i64 ((rdSeg t).1.ast), .int .i64 ((rdSeg t).1.asq), .bool ((rdSeg t).1.has), .string ((rdSeg t).1.body)], .int .i64 ((rdSeg t).2)] ∧ Below w51.heap.size w51 xw) rfl rfl rfl (by kernel_rfl) (by kernel_rfl) (Try.call47 _ _) (rlOf_any t w51 (by omega)) (by rintro e x ⟨rfl, h⟩; exact ⟨_, rfl, rfl, h⟩)) ?_; clear h57
 rintro _ w59 a58 ⟨rfl, hb67⟩ h58
 have hz68 := hb67.size
 refine pk0 (v := .tuple #[.agg #[.int .i64 ((rdSeg t).1.boot), .int .i64 ((rdSeg t).1.stream), .int .i64 ((rdSeg t).1.seq), .int .i64 ((rdSeg t).1.ab), .int .i64 ((rdSeg t).1.ast), .int .i64 ((rdSeg t).1.asq), .bool ((rdSeg t).1.has), .string ((rdSeg t).1.body)], .int .i64 ((rdSeg t).2)]) h58 rfl fun a69 h69 => ?_; clear h58
 refine pk0 (v := .agg #[.int .i64 ((rdSeg t).1.boot), .int .i64 ((rdSeg t).1.stream), .int .i64 ((rdSeg t).1.seq), .int .i64 ((rdSeg t).1.ab), .int .i64 ((rdSeg t).1.ast), .int .i64 ((rdSeg t).1.asq), .bool ((rdSeg t).1.has), .string ((rdSeg t).1.body)]) h69 rfl fun a70 h70 => ?_; clear h69
 refine pk0 (v := .int .i64 ((rdSeg t).2)) h70 rfl fun a71 h71 => ?_; clear h70
 refine pw h71 rfl (op_new (v := fun N => pt N 0) (T := 61) (cs := #[.int .i64 0, .int .i64 0, .int .i64 0, .int .i64 0, .int .i64 0, .int .i64 0, .bool false, .string (⟨#[]⟩)]) (by kernel_rfl) (by kernel_rfl) (by kernel_rfl)) ?_; clear h71
 rintro _ w73 a72 ⟨N74, rfl, hN77, hz78, hk76, hg75⟩ h72
 have hz79 := hg75.size
 try dsimp only at h72
 refine pwD h72 rfl (op_storeN rfl rfl rfl (by kernel_rfl) (by kernel_rfl) hk76 rfl) ?_; clear h72
 rintro _ w81 a80 ⟨hk82, hz83, hg84⟩ h80
 have hk82' : Blk w81 N74 61 #[.int .i64 ((rdSeg t).1.boot), .int .i64 ((rdSeg t).1.stream), .int .i64 ((rdSeg t).1.seq), .int .i64 ((rdSeg t).1.ab), .int .i64 ((rdSeg t).1.ast), .int .i64 ((rdSeg t).1.asq), .bool ((rdSeg t).1.has), .string ((rdSeg t).1.body)] := hk82; clear hk82
 have hz85 := hg84.size
 refine pk0 (v := .int .i64 ((rdSeg t).2)) h80 rfl fun a86 h86 => ?_; clear h80
 refine pl_nil ?_
 refine co_then ?_
 refine co_seq ?_
 refine co_seq ?_
 refine co_reg ?_
 refine pk0 (v := .string ((putG s).1)) h86 rfl fun a87 h87 => ?_; clear h86
 refine pk0 (v := .string ((putG s).1)) h87 rfl fun a88 h88 => ?_; clear h87
 refine pk0 (v := .bool (!(((putG s).1 : ByteArray).toList == ((putG s).1 : ByteArray).toList))) h88 rfl fun a89 h89 => ?_; clear h88
 refine pk0 (v := .bool (!(((putG s).1 : ByteArray).toList == ((putG s).1 : ByteArray).toList))) h89 rfl fun a90 h90 => ?_; clear h89
 have hc91 : (!(((putG s).1 : ByteArray).toList == ((putG s).1 : ByteArray).toList)) = false := by first | (simp; done) | (simp; omega) | exact beq_false_of_ne (by omega) | exact beq_iff_eq.2 (by omega)
 rw [hc91] at h90; clear hc91
 refine pk0 (v := .int .i64 ((putG s).2)) h90 rfl fun a92 h92 => ?_; clear h90
 refine pk0 (v := .int .i64 ((putG s).2)) h92 rfl fun a93 h93 => ?_; clear h92
 refine pk0 (v := .bool ((putG s).2 != (putG s).2)) h93 rfl fun a94 h94 => ?_; clear h93
 refine pk0 (v := .bool ((putG s).2 != (putG s).2)) h94 rfl fun a95 h95 => ?_; clear h94
 refine pk0 (v := .bool ((putG s).2 != (putG s).2)) h95 rfl fun a96 h96 => ?_; clear h95
 have hc97 : ((putG s).2 != (putG s).2) = false := by first | (simp; done) | (simp; omega) | exact beq_false_of_ne (by omega) | exact beq_iff_eq.2 (by omega)
 rw [hc97] at h96; clear hc97
 have hk98 := hk52'.below hb67
 have hk99 := hk98.kept hg75 (by simp)
 have hk100 := hk99.kept hg84 (by simp; omega)
 refine pk (v := .agg #[.int .i64 ((rdSeg t).1.boot), .int .i64 ((rdSeg t).1.stream), .int .i64 ((rdSeg t).1.seq), .int .i64 ((rdSeg t).1.ab), .int .i64 ((rdSeg t).1.ast), .int .i64 ((rdSeg t).1.asq), .bool ((rdSeg t).1.has), .string ((rdSeg t).1.body)]) h96 rfl (rn_loadN rfl rfl Try.underlying61 rfl (by kernel_rfl) hk100.all) fun a101 h101 => ?_; clear h96
 refine pk (v := .agg #[.int .i64 ((rdSeg t).1.boot), .int .i64 ((rdSeg t).1.stream), .int .i64 ((rdSeg t).1.seq), .int .i64 ((rdSeg t).1.ab), .int .i64 ((rdSeg t).1.ast), .int .i64 ((rdSeg t).1.asq), .bool ((rdSeg t).1.has), .string ((rdSeg t).1.body)]) h101 rfl (rn_loadN rfl rfl Try.underlying61 rfl (by kernel_rfl) hk82'.all) fun a102 h102 => ?_; clear h101
 refine pk (v := .bool (!(segEq ((rdSeg t).1) ((rdSeg t).1)))) h102 rfl (rn_neS rfl rfl rfl Try.eqGuardType61 (eq_seg ((rdSeg t).1) ((rdSeg t).1) _)) fun a103 h103 => ?_; clear h102
 refine pk0 (v := .bool (!(segEq ((rdSeg t).1) ((rdSeg t).1)))) h103 rfl fun a104 h104 => ?_; clear h103
 refine pk0 (v := .bool (!(segEq ((rdSeg t).1) ((rdSeg t).1)))) h104 rfl fun a105 h105 => ?_; clear h104
 have hc106 : (!(segEq ((rdSeg t).1) ((rdSeg t).1))) = false := by rw [segEq_self]; rfl
 rw [hc106] at h105; clear hc106
 refine pk0 (v := .int .i64 ((rdSeg t).2)) h105 rfl fun a107 h107 => ?_; clear h105
 refine pk0 (v := .int .i64 ((rdSeg t).2)) h107 rfl fun a108 h108 => ?_; clear h107
 refine pk0 (v := .bool ((rdSeg t).2 != (rdSeg t).2)) h108 rfl fun a109 h109 => ?_; clear h108
 refine pk0 (v := .bool ((rdSeg t).2 != (rdSeg t).2)) h109 rfl fun a110 h110 => ?_; clear h109
 refine pl_nil ?_
 refine co_then ?_
 have hc111 : ((rdSeg t).2 != (rdSeg t).2) = false := by first | (simp; done) | (simp; omega) | exact beq_false_of_ne (by omega) | exact beq_iff_eq.2 (by omega)
 rw [hc111] at h110; clear hc111
 refine co_false h110 rfl ?_
 refine wp_skip ?_
 refine co_then ?_
 refine co_seq ?_
 refine co_seq ?_
 refine co_reg ?_
 refine pk0 (v := .int .i64 ((rdSeg t).2)) h110 rfl fun a112 h112 => ?_; clear h110
 refine pk0 (v := .bool ((rdSeg t).2 == 0)) h112 rfl fun a113 h113 => ?_; clear h112
 refine pl_nil ?_
 refine co_then ?_
 have hB115 := hb_call hB62 hb67
 have hB116 := hb_new hB115 hg75
 have hB117 := hb_at hB116 hg84 (by omega)
 have hk118 := hk66.below hb67
 have hk119 := hk118.kept hg75 (by simp)
 have hk120 := hk119.kept hg84 (by simp; omega)
 cases hc114 : ((rdSeg t).2 == 0)
 ·
  rw [hc114] at h113
  have hp121 : ¬ ((rdSeg t).2 = 0) := by first | simpa using hc114 | simpa [and_assoc] using hc114
  clear hc114
  refine co_false h113 rfl ?_
  refine wp_skip ?_
  refine co_then ?_
  refine co_seq ?_
  refine co_seq ?_
  refine co_reg ?_
  refine pk0 (v := .int .i64 ((putG s).2)) h113 rfl fun a122 h122 => ?_; clear h113
  refine pk0 (v := .bool ((putG s).2 != 0)) h122 rfl fun a123 h123 => ?_; clear h122
  refine pk0 (v := .bool ((putG s).2 != 0)) h123 rfl fun a124 h124 => ?_; clear h123
  cases hc125 : ((putG s).2 != 0)
  ·
   rw [hc125] at h124
   have hp126 : ¬ ((putG s).2 ≠ 0) := by first | simpa using hc125 | simpa [and_assoc] using hc125
   clear hc125
   refine pk0 (v := pt N3 0) h124 rfl fun a127 h127 => ?_; clear h124
   refine pk (v := .int .i64 s.boot) h127 rfl (rn_load1 rfl rfl Try.isAgg3 (hk120.cell rfl)) fun a128 h128 => ?_; clear h127
   refine pk0 (v := pt N3 1) h128 rfl fun a129 h129 => ?_; clear h128
   refine pk (v := .int .i64 s.stream) h129 rfl (rn_load1 rfl rfl Try.isAgg3 (hk120.cell rfl)) fun a130 h130 => ?_; clear h129
   refine pk0 (v := pt N3 2) h130 rfl fun a131 h131 => ?_; clear h130
   refine pk (v := .int .i64 s.seq) h131 rfl (rn_load1 rfl rfl Try.isAgg3 (hk120.cell rfl)) fun a132 h132 => ?_; clear h131
   refine pk0 (v := pt N3 3) h132 rfl fun a133 h133 => ?_; clear h132
   refine pk (v := .int .i64 s.ab) h133 rfl (rn_load1 rfl rfl Try.isAgg3 (hk120.cell rfl)) fun a134 h134 => ?_; clear h133
   refine pk0 (v := pt N3 4) h134 rfl fun a135 h135 => ?_; clear h134
   refine pk (v := .int .i64 s.ast) h135 rfl (rn_load1 rfl rfl Try.isAgg3 (hk120.cell rfl)) fun a136 h136 => ?_; clear h135
   refine pk0 (v := pt N3 5) h136 rfl fun a137 h137 => ?_; clear h136
   refine pk (v := .int .i64 s.asq) h137 rfl (rn_load1 rfl rfl Try.isAgg3 (hk120.cell rfl)) fun a138 h138 => ?_; clear h137
   obtain ⟨kp139, hkp140⟩ : ∃ z : Int, z = (mxI (mxI (mxI (mxI (mxI s.boot s.stream) s.seq) s.ab) s.ast) s.asq) := ⟨_, rfl⟩
   have hq141 : s.boot ≤ kp139 := by have := mxI_ge s.boot s.stream; have := mxI_ge (mxI s.boot s.stream) s.seq; have := mxI_ge (mxI (mxI s.boot s.stream) s.seq) s.ab; have := mxI_ge (mxI (mxI (mxI s.boot s.stream) s.seq) s.ab) s.ast; have := mxI_ge (mxI (mxI (mxI (mxI s.boot s.stream) s.seq) s.ab) s.ast) s.asq; omega
   have hq142 : s.stream ≤ kp139 := by have := mxI_ge s.boot s.stream; have := mxI_ge (mxI s.boot s.stream) s.seq; have := mxI_ge (mxI (mxI s.boot s.stream) s.seq) s.ab; have := mxI_ge (mxI (mxI (mxI s.boot s.stream) s.seq) s.ab) s.ast; have := mxI_ge (mxI (mxI (mxI (mxI s.boot s.stream) s.seq) s.ab) s.ast) s.asq; omega
   have hq143 : s.seq ≤ kp139 := by have := mxI_ge s.boot s.stream; have := mxI_ge (mxI s.boot s.stream) s.seq; have := mxI_ge (mxI (mxI s.boot s.stream) s.seq) s.ab; have := mxI_ge (mxI (mxI (mxI s.boot s.stream) s.seq) s.ab) s.ast; have := mxI_ge (mxI (mxI (mxI (mxI s.boot s.stream) s.seq) s.ab) s.ast) s.asq; omega
   have hq144 : s.ab ≤ kp139 := by have := mxI_ge s.boot s.stream; have := mxI_ge (mxI s.boot s.stream) s.seq; have := mxI_ge (mxI (mxI s.boot s.stream) s.seq) s.ab; have := mxI_ge (mxI (mxI (mxI s.boot s.stream) s.seq) s.ab) s.ast; have := mxI_ge (mxI (mxI (mxI (mxI s.boot s.stream) s.seq) s.ab) s.ast) s.asq; omega
   have hq145 : s.ast ≤ kp139 := by have := mxI_ge s.boot s.stream; have := mxI_ge (mxI s.boot s.stream) s.seq; have := mxI_ge (mxI (mxI s.boot s.stream) s.seq) s.ab; have := mxI_ge (mxI (mxI (mxI s.boot s.stream) s.seq) s.ab) s.ast; have := mxI_ge (mxI (mxI (mxI (mxI s.boot s.stream) s.seq) s.ab) s.ast) s.asq; omega
   have hq146 : s.asq ≤ kp139 := by have := mxI_ge s.boot s.stream; have := mxI_ge (mxI s.boot s.stream) s.seq; have := mxI_ge (mxI (mxI s.boot s.stream) s.seq) s.ab; have := mxI_ge (mxI (mxI (mxI s.boot s.stream) s.seq) s.ab) s.ast; have := mxI_ge (mxI (mxI (mxI (mxI s.boot s.stream) s.seq) s.ab) s.ast) s.asq; omega
   refine pk (v := .int .i64 kp139) h138 rfl (by rw [hkp140]; kernel_rfl) fun a147 h147 => ?_; clear h138
   refine pk0 (v := .bool (decide (kp139 > 1073741824))) h147 rfl fun a148 h148 => ?_; clear h147
   refine pk0 (v := .bool (decide (kp139 > 1073741824))) h148 rfl fun a149 h149 => ?_; clear h148
   refine pl_nil ?_
   refine co_then ?_
   cases hc150 : (decide (kp139 > 1073741824))
   ·
    rw [hc150] at h149
    have hp151 : ¬ (kp139 > 1073741824) := of_decide_eq_false hc150
    clear hc150
    refine co_false h149 rfl ?_
    refine wp_skip ?_
    refine co_then ?_
    refine co_seq ?_
    refine co_reg ?_
    refine pk0 (v := .string ((putG s).1)) h149 rfl fun a152 h152 => ?_; clear h149
    have hpr := put_read (s := s) (by omega) ⟨by omega, by omega, by omega, by omega, by omega, by omega⟩
    have hps : (putG s).1.size ≤ 9223372036854775807 := by have hq := (putG_ok (s := s) (by omega)).2.2; rw [hq]; exact segB_size hsb
    refine pw h152 rfl (op_call (args := #[.string ((putG s).1)]) (R := fun res xw => res = .tuple #[.agg #[.int .i64 s.boot, .int .i64 s.stream, .int .i64 s.seq, .int .i64 s.ab, .int .i64 s.ast, .int .i64 s.asq, .bool s.has, .string s.body], .int .i64 0] ∧ Below w81.heap.size w81 xw) rfl rfl rfl (by kernel_rfl) (by kernel_rfl) (Try.call46 _ _) (lkOf_any (putG s).1 w81 hps) (by rintro e x ⟨rfl, h⟩; rw [hpr]; exact ⟨_, rfl, rfl, h⟩)) ?_; clear h152
    rintro _ w154 a153 ⟨rfl, hb155⟩ h153
    have hz156 := hb155.size
    refine pk0 (v := .tuple #[.agg #[.int .i64 s.boot, .int .i64 s.stream, .int .i64 s.seq, .int .i64 s.ab, .int .i64 s.ast, .int .i64 s.asq, .bool s.has, .string s.body], .int .i64 0]) h153 rfl fun a157 h157 => ?_; clear h153
    refine pk0 (v := .agg #[.int .i64 s.boot, .int .i64 s.stream, .int .i64 s.seq, .int .i64 s.ab, .int .i64 s.ast, .int .i64 s.asq, .bool s.has, .string s.body]) h157 rfl fun a158 h158 => ?_; clear h157
    refine pk0 (v := .int .i64 0) h158 rfl fun a159 h159 => ?_; clear h158
    refine pw h159 rfl (op_new (v := fun N => pt N 0) (T := 61) (cs := #[.int .i64 0, .int .i64 0, .int .i64 0, .int .i64 0, .int .i64 0, .int .i64 0, .bool false, .string (⟨#[]⟩)]) (by kernel_rfl) (by kernel_rfl) (by kernel_rfl)) ?_; clear h159
    rintro _ w161 a160 ⟨N162, rfl, hN165, hz166, hk164, hg163⟩ h160
    have hz167 := hg163.size
    try dsimp only at h160
    refine pwD h160 rfl (op_storeN rfl rfl rfl (by kernel_rfl) (by kernel_rfl) hk164 rfl) ?_; clear h160
    rintro _ w169 a168 ⟨hk170, hz171, hg172⟩ h168
    have hk170' : Blk w169 N162 61 #[.int .i64 s.boot, .int .i64 s.stream, .int .i64 s.seq, .int .i64 s.ab, .int .i64 s.ast, .int .i64 s.asq, .bool s.has, .string s.body] := hk170; clear hk170
    have hz173 := hg172.size
    refine pk0 (v := .int .i64 0) h168 rfl fun a174 h174 => ?_; clear h168
    refine pl_nil ?_
    refine co_then ?_
    refine co_seq ?_
    refine co_reg ?_
    refine pk0 (v := .int .i64 0) h174 rfl fun a175 h175 => ?_; clear h174
    refine pk0 (v := .bool ((0 : Int) == 0)) h175 rfl fun a176 h176 => ?_; clear h175
    refine pk0 (v := .bool ((0 : Int) == 0)) h176 rfl fun a177 h177 => ?_; clear h176
    have hc178 : ((0 : Int) == 0) = true := by first | (simp; done) | (simp; omega) | exact beq_false_of_ne (by omega) | exact beq_iff_eq.2 (by omega)
    rw [hc178] at h177; clear hc178
    refine pk (v := .agg #[.int .i64 s.boot, .int .i64 s.stream, .int .i64 s.seq, .int .i64 s.ab, .int .i64 s.ast, .int .i64 s.asq, .bool s.has, .string s.body]) h177 rfl (rn_loadN rfl rfl Try.underlying61 rfl (by kernel_rfl) hk170'.all) fun a179 h179 => ?_; clear h177
    have hk180 := hk120.below hb155
    have hk181 := hk180.kept hg163 (by simp)
    have hk182 := hk181.kept hg172 (by simp; omega)
    refine pk (v := .agg #[.int .i64 s.boot, .int .i64 s.stream, .int .i64 s.seq, .int .i64 s.ab, .int .i64 s.ast, .int .i64 s.asq, .bool s.has, .string s.body]) h179 rfl (rn_loadN rfl rfl Try.underlying61 rfl (by kernel_rfl) hk182.all) fun a183 h183 => ?_; clear h179
    refine pk (v := .bool (segEq s s)) h183 rfl (rn_eqS rfl rfl rfl Try.eqGuardType61 (eq_seg s s _)) fun a184 h184 => ?_; clear h183
    refine pk0 (v := .bool (segEq s s)) h184 rfl fun a185 h185 => ?_; clear h184
    refine pk0 (v := .bool (segEq s s)) h185 rfl fun a186 h186 => ?_; clear h185
    have hc187 : (segEq s s) = true := by rw [segEq_self]
    rw [hc187] at h186; clear hc187
    have hB190 := hb_call hB117 hb155
    have hB191 := hb_new hB190 hg163
    have hB192 := hb_at hB191 hg172 (by omega)
    have hk193 := hk100.below hb155
    have hk194 := hk193.kept hg163 (by simp)
    have hk195 := hk194.kept hg172 (by simp; omega)
    have hk196 := hk82'.below hb155
    have hk197 := hk196.kept hg163 (by simp)
    have hk198 := hk197.kept hg172 (by simp; omega)
    refine pw h186 rfl (op_call (args := #[]) (R := fun res xw => res = .bool true ∧ Below w169.heap.size w169 xw) rfl rfl rfl (by kernel_rfl) (by kernel_rfl) (Try.call43 _ _) (awake22 w169) (by rintro e x ⟨rfl, h⟩; exact ⟨_, rfl, rfl, h⟩)) ?_; clear h186
    rintro _ w189 a188 ⟨rfl, hb199⟩ h188
    have hz200 := hb199.size
    refine pk0 (v := .bool true) h188 rfl fun a201 h201 => ?_; clear h188
    refine pk0 (v := .bool true) h201 rfl fun a202 h202 => ?_; clear h201
    refine pl_nil ?_
    refine co_then ?_
    refine wp_ret ?_
    refine co_ret1 h202 rfl rfl ?_
    have hB203 := hb_call hB192 hb199
    exact ⟨rfl, hB203⟩
   ·
    rw [hc150] at h149
    have hp204 : kp139 > 1073741824 := of_decide_eq_true hc150
    clear hc150
    refine co_true h149 rfl ?_
    refine co_seq ?_
    refine co_reg ?_
    refine pw h149 rfl (op_call (args := #[]) (R := fun res xw => res = .bool true ∧ Below w81.heap.size w81 xw) rfl rfl rfl (by kernel_rfl) (by kernel_rfl) (Try.call43 _ _) (awake22 w81) (by rintro e x ⟨rfl, h⟩; exact ⟨_, rfl, rfl, h⟩)) ?_; clear h149
    rintro _ w206 a205 ⟨rfl, hb207⟩ h205
    have hz208 := hb207.size
    refine pk0 (v := .bool true) h205 rfl fun a209 h209 => ?_; clear h205
    refine pl_nil ?_
    refine co_then ?_
    refine wp_ret ?_
    refine co_thenR ?_
    refine co_ret1 h209 rfl rfl ?_
    have hB210 := hb_call hB117 hb207
    exact ⟨rfl, hB210⟩
  ·
   rw [hc125] at h124
   have hp211 : (putG s).2 ≠ 0 := by first | simpa using hc125 | simpa [and_assoc] using hc125
   clear hc125
   refine psk h124 rfl fun a212 h212 => ?_; clear h124
   refine psk h212 rfl fun a213 h213 => ?_; clear h212
   refine psk h213 rfl fun a214 h214 => ?_; clear h213
   refine psk h214 rfl fun a215 h215 => ?_; clear h214
   refine psk h215 rfl fun a216 h216 => ?_; clear h215
   refine psk h216 rfl fun a217 h217 => ?_; clear h216
   refine psk h217 rfl fun a218 h218 => ?_; clear h217
   refine psk h218 rfl fun a219 h219 => ?_; clear h218
   refine psk h219 rfl fun a220 h220 => ?_; clear h219
   refine psk h220 rfl fun a221 h221 => ?_; clear h220
   refine psk h221 rfl fun a222 h222 => ?_; clear h221
   refine psk h222 rfl fun a223 h223 => ?_; clear h222
   refine psk h223 rfl fun a224 h224 => ?_; clear h223
   refine psk h224 rfl fun a225 h225 => ?_; clear h224
   refine pk0 (v := .bool true) h225 rfl fun a226 h226 => ?_; clear h225
   refine pl_nil ?_
   refine co_then ?_
   refine co_true h226 rfl ?_
   refine co_seq ?_
   refine co_reg ?_
   refine pw h226 rfl (op_call (args := #[]) (R := fun res xw => res = .bool true ∧ Below w81.heap.size w81 xw) rfl rfl rfl (by kernel_rfl) (by kernel_rfl) (Try.call43 _ _) (awake22 w81) (by rintro e x ⟨rfl, h⟩; exact ⟨_, rfl, rfl, h⟩)) ?_; clear h226
   rintro _ w228 a227 ⟨rfl, hb229⟩ h227
   have hz230 := hb229.size
   refine pk0 (v := .bool true) h227 rfl fun a231 h231 => ?_; clear h227
   refine pl_nil ?_
   refine co_then ?_
   refine wp_ret ?_
   refine co_thenR ?_
   refine co_ret1 h231 rfl rfl ?_
   have hB232 := hb_call hB117 hb229
   exact ⟨rfl, hB232⟩
 ·
  rw [hc114] at h113
  have hp233 : (rdSeg t).2 = 0 := by first | simpa using hc114 | simpa [and_assoc] using hc114
  clear hc114
  refine co_true h113 rfl ?_
  refine co_seq ?_
  refine co_reg ?_
  refine pk (v := .agg #[.int .i64 ((rdSeg t).1.boot), .int .i64 ((rdSeg t).1.stream), .int .i64 ((rdSeg t).1.seq), .int .i64 ((rdSeg t).1.ab), .int .i64 ((rdSeg t).1.ast), .int .i64 ((rdSeg t).1.asq), .bool ((rdSeg t).1.has), .string ((rdSeg t).1.body)]) h113 rfl (rn_loadN rfl rfl Try.underlying61 rfl (by kernel_rfl) hk100.all) fun a234 h234 => ?_; clear h113
  have hrp := read_put (t := t) (by omega)
  refine pw h234 rfl (op_call (args := #[.agg #[.int .i64 ((rdSeg t).1.boot), .int .i64 ((rdSeg t).1.stream), .int .i64 ((rdSeg t).1.seq), .int .i64 ((rdSeg t).1.ab), .int .i64 ((rdSeg t).1.ast), .int .i64 ((rdSeg t).1.asq), .bool ((rdSeg t).1.has), .string ((rdSeg t).1.body)]]) (R := fun res xw => res = .tuple #[.string t, .int .i64 0] ∧ Below w81.heap.size w81 xw) rfl rfl rfl (by kernel_rfl) (by kernel_rfl) (Try.call44 _ _) (lkPut_any (rdSeg t).1 w81 (rdSeg_b t)) (by rintro e x ⟨rfl, h⟩; rw [hrp]; exact ⟨_, rfl, rfl, h⟩)) ?_; clear h234
  rintro _ w236 a235 ⟨rfl, hb237⟩ h235
  have hz238 := hb237.size
  refine pk0 (v := .tuple #[.string t, .int .i64 0]) h235 rfl fun a239 h239 => ?_; clear h235
  refine pk0 (v := .string t) h239 rfl fun a240 h240 => ?_; clear h239
  refine pk0 (v := .int .i64 0) h240 rfl fun a241 h241 => ?_; clear h240
  refine pk0 (v := .string t) h241 rfl fun a242 h242 => ?_; clear h241
  refine pk0 (v := .int .i64 0) h242 rfl fun a243 h243 => ?_; clear h242
  refine pl_nil ?_
  refine co_then ?_
  refine co_seq ?_
  refine co_reg ?_
  refine pk0 (v := .string t) h243 rfl fun a244 h244 => ?_; clear h243
  refine pk0 (v := .string t) h244 rfl fun a245 h245 => ?_; clear h244
  refine pk0 (v := .bool (!(t.toList == t.toList))) h245 rfl fun a246 h246 => ?_; clear h245
  refine pk0 (v := .bool (!(t.toList == t.toList))) h246 rfl fun a247 h247 => ?_; clear h246
  have hc248 : (!(t.toList == t.toList)) = false := by first | (simp; done) | (simp; omega) | exact beq_false_of_ne (by omega) | exact beq_iff_eq.2 (by omega)
  rw [hc248] at h247; clear hc248
  refine pk0 (v := .int .i64 0) h247 rfl fun a249 h249 => ?_; clear h247
  refine pk0 (v := .bool ((0 : Int) != 0)) h249 rfl fun a250 h250 => ?_; clear h249
  refine pk0 (v := .bool ((0 : Int) != 0)) h250 rfl fun a251 h251 => ?_; clear h250
  refine pl_nil ?_
  refine co_then ?_
  have hc252 : ((0 : Int) != 0) = false := by first | (simp; done) | (simp; omega) | exact beq_false_of_ne (by omega) | exact beq_iff_eq.2 (by omega)
  rw [hc252] at h251; clear hc252
  refine co_false h251 rfl ?_
  refine wp_skip ?_
  refine co_then ?_
  refine co_seq ?_
  refine co_seq ?_
  refine co_reg ?_
  refine pk0 (v := .int .i64 ((putG s).2)) h251 rfl fun a253 h253 => ?_; clear h251
  refine pk0 (v := .bool ((putG s).2 != 0)) h253 rfl fun a254 h254 => ?_; clear h253
  refine pk0 (v := .bool ((putG s).2 != 0)) h254 rfl fun a255 h255 => ?_; clear h254
  have hB257 := hb_call hB117 hb237
  cases hc256 : ((putG s).2 != 0)
  ·
   rw [hc256] at h255
   have hp258 : ¬ ((putG s).2 ≠ 0) := by first | simpa using hc256 | simpa [and_assoc] using hc256
   clear hc256
   refine pk0 (v := pt N3 0) h255 rfl fun a259 h259 => ?_; clear h255
   have hk260 := hk120.below hb237
   refine pk (v := .int .i64 s.boot) h259 rfl (rn_load1 rfl rfl Try.isAgg3 (hk260.cell rfl)) fun a261 h261 => ?_; clear h259
   refine pk0 (v := pt N3 1) h261 rfl fun a262 h262 => ?_; clear h261
   refine pk (v := .int .i64 s.stream) h262 rfl (rn_load1 rfl rfl Try.isAgg3 (hk260.cell rfl)) fun a263 h263 => ?_; clear h262
   refine pk0 (v := pt N3 2) h263 rfl fun a264 h264 => ?_; clear h263
   refine pk (v := .int .i64 s.seq) h264 rfl (rn_load1 rfl rfl Try.isAgg3 (hk260.cell rfl)) fun a265 h265 => ?_; clear h264
   refine pk0 (v := pt N3 3) h265 rfl fun a266 h266 => ?_; clear h265
   refine pk (v := .int .i64 s.ab) h266 rfl (rn_load1 rfl rfl Try.isAgg3 (hk260.cell rfl)) fun a267 h267 => ?_; clear h266
   refine pk0 (v := pt N3 4) h267 rfl fun a268 h268 => ?_; clear h267
   refine pk (v := .int .i64 s.ast) h268 rfl (rn_load1 rfl rfl Try.isAgg3 (hk260.cell rfl)) fun a269 h269 => ?_; clear h268
   refine pk0 (v := pt N3 5) h269 rfl fun a270 h270 => ?_; clear h269
   refine pk (v := .int .i64 s.asq) h270 rfl (rn_load1 rfl rfl Try.isAgg3 (hk260.cell rfl)) fun a271 h271 => ?_; clear h270
   obtain ⟨kp272, hkp273⟩ : ∃ z : Int, z = (mxI (mxI (mxI (mxI (mxI s.boot s.stream) s.seq) s.ab) s.ast) s.asq) := ⟨_, rfl⟩
   have hq274 : s.boot ≤ kp272 := by have := mxI_ge s.boot s.stream; have := mxI_ge (mxI s.boot s.stream) s.seq; have := mxI_ge (mxI (mxI s.boot s.stream) s.seq) s.ab; have := mxI_ge (mxI (mxI (mxI s.boot s.stream) s.seq) s.ab) s.ast; have := mxI_ge (mxI (mxI (mxI (mxI s.boot s.stream) s.seq) s.ab) s.ast) s.asq; omega
   have hq275 : s.stream ≤ kp272 := by have := mxI_ge s.boot s.stream; have := mxI_ge (mxI s.boot s.stream) s.seq; have := mxI_ge (mxI (mxI s.boot s.stream) s.seq) s.ab; have := mxI_ge (mxI (mxI (mxI s.boot s.stream) s.seq) s.ab) s.ast; have := mxI_ge (mxI (mxI (mxI (mxI s.boot s.stream) s.seq) s.ab) s.ast) s.asq; omega
   have hq276 : s.seq ≤ kp272 := by have := mxI_ge s.boot s.stream; have := mxI_ge (mxI s.boot s.stream) s.seq; have := mxI_ge (mxI (mxI s.boot s.stream) s.seq) s.ab; have := mxI_ge (mxI (mxI (mxI s.boot s.stream) s.seq) s.ab) s.ast; have := mxI_ge (mxI (mxI (mxI (mxI s.boot s.stream) s.seq) s.ab) s.ast) s.asq; omega
   have hq277 : s.ab ≤ kp272 := by have := mxI_ge s.boot s.stream; have := mxI_ge (mxI s.boot s.stream) s.seq; have := mxI_ge (mxI (mxI s.boot s.stream) s.seq) s.ab; have := mxI_ge (mxI (mxI (mxI s.boot s.stream) s.seq) s.ab) s.ast; have := mxI_ge (mxI (mxI (mxI (mxI s.boot s.stream) s.seq) s.ab) s.ast) s.asq; omega
   have hq278 : s.ast ≤ kp272 := by have := mxI_ge s.boot s.stream; have := mxI_ge (mxI s.boot s.stream) s.seq; have := mxI_ge (mxI (mxI s.boot s.stream) s.seq) s.ab; have := mxI_ge (mxI (mxI (mxI s.boot s.stream) s.seq) s.ab) s.ast; have := mxI_ge (mxI (mxI (mxI (mxI s.boot s.stream) s.seq) s.ab) s.ast) s.asq; omega
   have hq279 : s.asq ≤ kp272 := by have := mxI_ge s.boot s.stream; have := mxI_ge (mxI s.boot s.stream) s.seq; have := mxI_ge (mxI (mxI s.boot s.stream) s.seq) s.ab; have := mxI_ge (mxI (mxI (mxI s.boot s.stream) s.seq) s.ab) s.ast; have := mxI_ge (mxI (mxI (mxI (mxI s.boot s.stream) s.seq) s.ab) s.ast) s.asq; omega
   refine pk (v := .int .i64 kp272) h271 rfl (by rw [hkp273]; kernel_rfl) fun a280 h280 => ?_; clear h271
   refine pk0 (v := .bool (decide (kp272 > 1073741824))) h280 rfl fun a281 h281 => ?_; clear h280
   refine pk0 (v := .bool (decide (kp272 > 1073741824))) h281 rfl fun a282 h282 => ?_; clear h281
   refine pl_nil ?_
   refine co_then ?_
   cases hc283 : (decide (kp272 > 1073741824))
   ·
    rw [hc283] at h282
    have hp284 : ¬ (kp272 > 1073741824) := of_decide_eq_false hc283
    clear hc283
    refine co_false h282 rfl ?_
    refine wp_skip ?_
    refine co_then ?_
    refine co_seq ?_
    refine co_reg ?_
    refine pk0 (v := .string ((putG s).1)) h282 rfl fun a285 h285 => ?_; clear h282
    have hpr := put_read (s := s) (by omega) ⟨by omega, by omega, by omega, by omega, by omega, by omega⟩
    have hps : (putG s).1.size ≤ 9223372036854775807 := by have hq := (putG_ok (s := s) (by omega)).2.2; rw [hq]; exact segB_size hsb
    refine pw h285 rfl (op_call (args := #[.string ((putG s).1)]) (R := fun res xw => res = .tuple #[.agg #[.int .i64 s.boot, .int .i64 s.stream, .int .i64 s.seq, .int .i64 s.ab, .int .i64 s.ast, .int .i64 s.asq, .bool s.has, .string s.body], .int .i64 0] ∧ Below w236.heap.size w236 xw) rfl rfl rfl (by kernel_rfl) (by kernel_rfl) (Try.call46 _ _) (lkOf_any (putG s).1 w236 hps) (by rintro e x ⟨rfl, h⟩; rw [hpr]; exact ⟨_, rfl, rfl, h⟩)) ?_; clear h285
    rintro _ w287 a286 ⟨rfl, hb288⟩ h286
    have hz289 := hb288.size
    refine pk0 (v := .tuple #[.agg #[.int .i64 s.boot, .int .i64 s.stream, .int .i64 s.seq, .int .i64 s.ab, .int .i64 s.ast, .int .i64 s.asq, .bool s.has, .string s.body], .int .i64 0]) h286 rfl fun a290 h290 => ?_; clear h286
    refine pk0 (v := .agg #[.int .i64 s.boot, .int .i64 s.stream, .int .i64 s.seq, .int .i64 s.ab, .int .i64 s.ast, .int .i64 s.asq, .bool s.has, .string s.body]) h290 rfl fun a291 h291 => ?_; clear h290
    refine pk0 (v := .int .i64 0) h291 rfl fun a292 h292 => ?_; clear h291
    refine pw h292 rfl (op_new (v := fun N => pt N 0) (T := 61) (cs := #[.int .i64 0, .int .i64 0, .int .i64 0, .int .i64 0, .int .i64 0, .int .i64 0, .bool false, .string (⟨#[]⟩)]) (by kernel_rfl) (by kernel_rfl) (by kernel_rfl)) ?_; clear h292
    rintro _ w294 a293 ⟨N295, rfl, hN298, hz299, hk297, hg296⟩ h293
    have hz300 := hg296.size
    try dsimp only at h293
    refine pwD h293 rfl (op_storeN rfl rfl rfl (by kernel_rfl) (by kernel_rfl) hk297 rfl) ?_; clear h293
    rintro _ w302 a301 ⟨hk303, hz304, hg305⟩ h301
    have hk303' : Blk w302 N295 61 #[.int .i64 s.boot, .int .i64 s.stream, .int .i64 s.seq, .int .i64 s.ab, .int .i64 s.ast, .int .i64 s.asq, .bool s.has, .string s.body] := hk303; clear hk303
    have hz306 := hg305.size
    refine pk0 (v := .int .i64 0) h301 rfl fun a307 h307 => ?_; clear h301
    refine pl_nil ?_
    refine co_then ?_
    refine co_seq ?_
    refine co_reg ?_
    refine pk0 (v := .int .i64 0) h307 rfl fun a308 h308 => ?_; clear h307
    refine pk0 (v := .bool ((0 : Int) == 0)) h308 rfl fun a309 h309 => ?_; clear h308
    refine pk0 (v := .bool ((0 : Int) == 0)) h309 rfl fun a310 h310 => ?_; clear h309
    have hc311 : ((0 : Int) == 0) = true := by first | (simp; done) | (simp; omega) | exact beq_false_of_ne (by omega) | exact beq_iff_eq.2 (by omega)
    rw [hc311] at h310; clear hc311
    refine pk (v := .agg #[.int .i64 s.boot, .int .i64 s.stream, .int .i64 s.seq, .int .i64 s.ab, .int .i64 s.ast, .int .i64 s.asq, .bool s.has, .string s.body]) h310 rfl (rn_loadN rfl rfl Try.underlying61 rfl (by kernel_rfl) hk303'.all) fun a312 h312 => ?_; clear h310
    have hk313 := hk260.below hb288
    have hk314 := hk313.kept hg296 (by simp)
    have hk315 := hk314.kept hg305 (by simp; omega)
    refine pk (v := .agg #[.int .i64 s.boot, .int .i64 s.stream, .int .i64 s.seq, .int .i64 s.ab, .int .i64 s.ast, .int .i64 s.asq, .bool s.has, .string s.body]) h312 rfl (rn_loadN rfl rfl Try.underlying61 rfl (by kernel_rfl) hk315.all) fun a316 h316 => ?_; clear h312
    refine pk (v := .bool (segEq s s)) h316 rfl (rn_eqS rfl rfl rfl Try.eqGuardType61 (eq_seg s s _)) fun a317 h317 => ?_; clear h316
    refine pk0 (v := .bool (segEq s s)) h317 rfl fun a318 h318 => ?_; clear h317
    refine pk0 (v := .bool (segEq s s)) h318 rfl fun a319 h319 => ?_; clear h318
    have hc320 : (segEq s s) = true := by rw [segEq_self]
    rw [hc320] at h319; clear hc320
    have hB323 := hb_call hB257 hb288
    have hB324 := hb_new hB323 hg296
    have hB325 := hb_at hB324 hg305 (by omega)
    have hk326 := hk100.below hb237
    have hk327 := hk326.below hb288
    have hk328 := hk327.kept hg296 (by simp)
    have hk329 := hk328.kept hg305 (by simp; omega)
    have hk330 := hk82'.below hb237
    have hk331 := hk330.below hb288
    have hk332 := hk331.kept hg296 (by simp)
    have hk333 := hk332.kept hg305 (by simp; omega)
    refine pw h319 rfl (op_call (args := #[]) (R := fun res xw => res = .bool true ∧ Below w302.heap.size w302 xw) rfl rfl rfl (by kernel_rfl) (by kernel_rfl) (Try.call43 _ _) (awake22 w302) (by rintro e x ⟨rfl, h⟩; exact ⟨_, rfl, rfl, h⟩)) ?_; clear h319
    rintro _ w322 a321 ⟨rfl, hb334⟩ h321
    have hz335 := hb334.size
    refine pk0 (v := .bool true) h321 rfl fun a336 h336 => ?_; clear h321
    refine pk0 (v := .bool true) h336 rfl fun a337 h337 => ?_; clear h336
    refine pl_nil ?_
    refine co_then ?_
    refine wp_ret ?_
    refine co_ret1 h337 rfl rfl ?_
    have hB338 := hb_call hB325 hb334
    exact ⟨rfl, hB338⟩
   ·
    rw [hc283] at h282
    have hp339 : kp272 > 1073741824 := of_decide_eq_true hc283
    clear hc283
    refine co_true h282 rfl ?_
    refine co_seq ?_
    refine co_reg ?_
    refine pw h282 rfl (op_call (args := #[]) (R := fun res xw => res = .bool true ∧ Below w236.heap.size w236 xw) rfl rfl rfl (by kernel_rfl) (by kernel_rfl) (Try.call43 _ _) (awake22 w236) (by rintro e x ⟨rfl, h⟩; exact ⟨_, rfl, rfl, h⟩)) ?_; clear h282
    rintro _ w341 a340 ⟨rfl, hb342⟩ h340
    have hz343 := hb342.size
    refine pk0 (v := .bool true) h340 rfl fun a344 h344 => ?_; clear h340
    refine pl_nil ?_
    refine co_then ?_
    refine wp_ret ?_
    refine co_thenR ?_
    refine co_ret1 h344 rfl rfl ?_
    have hB345 := hb_call hB257 hb342
    exact ⟨rfl, hB345⟩
  ·
   rw [hc256] at h255
   have hp346 : (putG s).2 ≠ 0 := by first | simpa using hc256 | simpa [and_assoc] using hc256
   clear hc256
   refine psk h255 rfl fun a347 h347 => ?_; clear h255
   refine psk h347 rfl fun a348 h348 => ?_; clear h347
   refine psk h348 rfl fun a349 h349 => ?_; clear h348
   refine psk h349 rfl fun a350 h350 => ?_; clear h349
   refine psk h350 rfl fun a351 h351 => ?_; clear h350
   refine psk h351 rfl fun a352 h352 => ?_; clear h351
   refine psk h352 rfl fun a353 h353 => ?_; clear h352
   refine psk h353 rfl fun a354 h354 => ?_; clear h353
   refine psk h354 rfl fun a355 h355 => ?_; clear h354
   refine psk h355 rfl fun a356 h356 => ?_; clear h355
   refine psk h356 rfl fun a357 h357 => ?_; clear h356
   refine psk h357 rfl fun a358 h358 => ?_; clear h357
   refine psk h358 rfl fun a359 h359 => ?_; clear h358
   refine psk h359 rfl fun a360 h360 => ?_; clear h359
   refine pk0 (v := .bool true) h360 rfl fun a361 h361 => ?_; clear h360
   refine pl_nil ?_
   refine co_then ?_
   refine co_true h361 rfl ?_
   refine co_seq ?_
   refine co_reg ?_
   refine pw h361 rfl (op_call (args := #[]) (R := fun res xw => res = .bool true ∧ Below w236.heap.size w236 xw) rfl rfl rfl (by kernel_rfl) (by kernel_rfl) (Try.call43 _ _) (awake22 w236) (by rintro e x ⟨rfl, h⟩; exact ⟨_, rfl, rfl, h⟩)) ?_; clear h361
   rintro _ w363 a362 ⟨rfl, hb364⟩ h362
   have hz365 := hb364.size
   refine pk0 (v := .bool true) h362 rfl fun a366 h366 => ?_; clear h362
   refine pl_nil ?_
   refine co_then ?_
   refine wp_ret ?_
   refine co_thenR ?_
   refine co_ret1 h366 rfl rfl ?_
   have hB367 := hb_call hB257 hb364
   exact ⟨rfl, hB367⟩
end Go.Proofs.Ythmljllgfigebaa
