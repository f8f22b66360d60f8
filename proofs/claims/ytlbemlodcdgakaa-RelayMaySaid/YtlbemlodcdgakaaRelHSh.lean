/- catenalaw32: RelayMay. Conditions: none. -/
import Derived.Test.YtlbemlodcdgakaaRelGSh
import Derived.OpenShut
namespace Go.Proofs.Ytlbemlodcdgakaa
open Go.RowKit Go.PlainAid
set_option linter.unusedVariables false
set_option linter.unusedSimpArgs false


theorem much_len80 {l : List EntT} (h : ¬ muchN l > 80) : l.length ≤ 80 := by
  have hs : 0 ≤ sumN (l.take 200) := fold_nn _ 0
  unfold muchN at h; omega
structure T5b where
  a : Int
  b : Int
  c : Int
  d : Int
  e : Int
def a5bV (x : T5b) : Value := .agg #[.int .u8 x.a, .int .u8 x.b, .int .u8 x.c, .int .u8 x.d, .int .u8 x.e]
structure T5bOk (x : T5b) : Prop where
  a : 0 ≤ x.a ∧ x.a ≤ 255
  b : 0 ≤ x.b ∧ x.b ≤ 255
  c : 0 ≤ x.c ∧ x.c ≤ 255
  d : 0 ≤ x.d ∧ x.d ≤ 255
  e : 0 ≤ x.e ∧ x.e ≤ 255
theorem u8_le {n : Int} (h : (Lit.int .u8 n).wf = true) : 0 ≤ n ∧ n ≤ 255 := by have := wf_u8 h; omega

theorem okWide_arr {P : Program} {w : World} {r : Reach} {base n : Nat} {e t : TypeId} {v : Value} (ht : P.underlying t = some (.array n e)) (h : Value.okWide P w r base t v) : ∃ cs, v = .agg cs ∧ cs.size = P.cellsOf t := by
  simp only [Value.okWide, ht] at h
  obtain ⟨cs, h1, h2, _⟩ := h
  exact ⟨cs, h1, h2⟩
set_option maxRecDepth 10000 in
theorem open_a5b {H : Type} {enc : TypeId × Value → H} {w W0 : World} {base b0 : Nat} {spare : Nat → Bool} {held : Bool} {r : Reach} {v : Value} {n : Nat} {x : DataW H × List MemPlace}
    (hv : Value.okWide Try.prog w r b0 91 v) (h : DataW.trod enc Try.prog W0 base spare held n 91 v.cells.toList = some x) :
    ∃ c : T5b, v = a5bV c ∧ T5bOk c := by
  obtain ⟨cs, rfl, hsz⟩ := okWide_arr Try.underlying91 hv
  obtain ⟨xs, m, _, _, hl, hxl, hf⟩ := DataW.trod_array Try.underlying91 h
  have hl5 : cs.toList.length = 5 := hl
  have hc : Try.prog.cellsOf 5 = 1 := by kernel_rfl
  rw [hc] at hf
  obtain ⟨l, hcs⟩ : ∃ l, l = cs.toList := ⟨_, rfl⟩
  have e0 : (Value.agg cs).cells.toList = l := by rw [hcs]; rfl
  rw [e0] at hf
  rw [← hcs] at hl5
  match l, hl5, xs, hxl with
  | [c0, c1, c2, c3, c4], _, [x0, x1, x2, x3, x4], _ =>
    have h0 : DataW.trod enc Try.prog W0 base spare held m 5 [c0] = some x0 := hf 0 (by omega)
    have h1 : DataW.trod enc Try.prog W0 base spare held m 5 [c1] = some x1 := hf 1 (by omega)
    have h2 : DataW.trod enc Try.prog W0 base spare held m 5 [c2] = some x2 := hf 2 (by omega)
    have h3 : DataW.trod enc Try.prog W0 base spare held m 5 [c3] = some x3 := hf 3 (by omega)
    have h4 : DataW.trod enc Try.prog W0 base spare held m 5 [c4] = some x4 := hf 4 (by omega)
    obtain ⟨a, e0, _, z0⟩ := DataW.trod_int Try.underlying5 h0
    obtain ⟨b, e1, _, z1⟩ := DataW.trod_int Try.underlying5 h1
    obtain ⟨c, e2, _, z2⟩ := DataW.trod_int Try.underlying5 h2
    obtain ⟨d, e3, _, z3⟩ := DataW.trod_int Try.underlying5 h3
    obtain ⟨f, e4, _, z4⟩ := DataW.trod_int Try.underlying5 h4
    simp only [List.cons.injEq, and_true] at e0 e1 e2 e3 e4
    subst e0 e1 e2 e3 e4
    refine ⟨⟨a, b, c, d, f⟩, ?_, ⟨u8_le z0, u8_le z1, u8_le z2, u8_le z3, u8_le z4⟩⟩
    rw [show cs = (cs.toList).toArray by simp, ← hcs]; rfl

set_option maxRecDepth 100000 in
theorem relayMay_any (v : Value) (l : List EntT) (n : T5b) (hz : Int) (w : World) (hs : SliceOf entE 4 w v l) (hok : ∀ z ∈ l, EntOkS w z) (hlA : l.length ≤ 2932031007403) (hn : T5bOk n) (hhz : 0 ≤ hz ∧ hz < 18446744073709551616) :
    Calls Try.prog 8 #[v, .agg #[.int .u8 n.a, .int .u8 n.b, .int .u8 n.c, .int .u8 n.d, .int .u8 n.e], .int .u64 hz] w fun e w' => e = .returned (.bool true) ∧ Below w.heap.size w w' := by
 have ⟨ha_, hb_, hc_, hd_, he_⟩ := hn
 have hB0 := Below.refl w.heap.size w
 have hl_hs := sl_len hs
 refine co_enter (n := 67) Try.func8 rfl rfl rfl [(0, v), (1, .agg #[.int .u8 n.a, .int .u8 n.b, .int .u8 n.c, .int .u8 n.d, .int .u8 n.e]), (2, .int .u64 hz)] rfl (fun a h0 => ?_)
 refine co_seq ?_
 refine co_reg ?_
 refine pw h0 rfl (op_new (v := fun N => pt N 0) (T := 91) (cs := #[.int .u8 n.a, .int .u8 n.b, .int .u8 n.c, .int .u8 n.d, .int .u8 n.e]) (by kernel_rfl) (by kernel_rfl) (by kernel_rfl)) ?_; clear h0
 rintro _ w2 a1 ⟨N3, rfl, hN6, hz7, hk5, hg4⟩ h1
 have hz8 := hg4.size
 try dsimp only at h1
 refine pk0 (v := .bool false) h1 rfl fun a9 h9 => ?_; clear h1
 refine pl_nil ?_
 refine co_then ?_
 refine co_seq ?_
 refine co_seq ?_
 refine co_reg ?_
 refine pk0 (v := v) h9 rfl fun a10 h10 => ?_; clear h9
 have hB13 := hb_new hB0 hg4
 refine pw h10 rfl (op_call (args := #[v]) (R := fun res xw => res = .int .i64 (muchN l) ∧ Below w2.heap.size w2 xw) rfl rfl rfl (by kernel_rfl) (by kernel_rfl) (Try.call24 _ _) (much_any v l w2 (hs.below hB13) (fun z hz => ⟨(hok z hz).1.below hB13, (hok z hz).2⟩) hlA) (by rintro e x ⟨rfl, h⟩; exact ⟨_, rfl, rfl, h⟩)) ?_; clear h10
 rintro _ w12 a11 ⟨rfl, hb14⟩ h11
 have hz15 := hb14.size
 refine pk0 (v := .bool (decide (muchN l > 80))) h11 rfl fun a16 h16 => ?_; clear h11
 refine pk0 (v := .bool (decide (muchN l > 80))) h16 rfl fun a17 h17 => ?_; clear h16
 have hB19 := hb_call hB13 hb14
 cases hc18 : (decide (muchN l > 80))
 ·
  rw [hc18] at h17
  have hp20 : ¬ (muchN l > 80) := of_decide_eq_false hc18
  clear hc18
  refine pk0 (v := v) h17 rfl fun a21 h21 => ?_; clear h17
  refine pw h21 rfl (op_call (args := #[v]) (R := fun res xw => res = .int .i64 (rightI l) ∧ Below w12.heap.size w12 xw) rfl rfl rfl (by kernel_rfl) (by kernel_rfl) (Try.call38 _ _) (ritemRight_any v l w12 (hs.below hB19) (fun z hz => (hok z hz).1.below hB19)) (by rintro e x ⟨rfl, h⟩; exact ⟨_, rfl, rfl, h⟩)) ?_; clear h21
  rintro _ w23 a22 ⟨rfl, hb24⟩ h22
  have hz25 := hb24.size
  refine pk0 (v := .bool (rightI l != 0)) h22 rfl fun a26 h26 => ?_; clear h22
  refine pk0 (v := .bool (rightI l != 0)) h26 rfl fun a27 h27 => ?_; clear h26
  refine pl_nil ?_
  refine co_then ?_
  have hB29 := hb_call hB19 hb24
  have hk30 := hk5.below hb14
  have hk31 := hk30.below hb24
  cases hc28 : (rightI l != 0)
  ·
   rw [hc28] at h27
   have hp32 : ¬ (rightI l ≠ 0) := by first | simpa using hc28 | simpa [and_assoc] using hc28
   clear hc28
   refine co_false h27 rfl ?_
   refine wp_skip ?_
   refine co_then ?_
   refine co_seq ?_
   refine co_reg ?_
   refine pk0 (v := pt N3 0) h27 rfl fun a33 h33 => ?_; clear h27
   refine pk (v := .int .u8 n.a) h33 rfl (rn_load1 rfl rfl Try.isAgg5 (hk31.cell rfl)) fun a34 h34 => ?_; clear h33
   refine pk (v := .int .i64 n.a) h34 rfl (rn_conv rfl rfl Try.underlying5 Try.underlying3 (IntWalk.i64_in _ (by omega))) fun a35 h35 => ?_; clear h34
   refine pk0 (v := pt N3 1) h35 rfl fun a36 h36 => ?_; clear h35
   refine pk (v := .int .u8 n.b) h36 rfl (rn_load1 rfl rfl Try.isAgg5 (hk31.cell rfl)) fun a37 h37 => ?_; clear h36
   refine pk (v := .int .i64 n.b) h37 rfl (rn_conv rfl rfl Try.underlying5 Try.underlying3 (IntWalk.i64_in _ (by omega))) fun a38 h38 => ?_; clear h37
   refine pk0 (v := pt N3 2) h38 rfl fun a39 h39 => ?_; clear h38
   refine pk (v := .int .u8 n.c) h39 rfl (rn_load1 rfl rfl Try.isAgg5 (hk31.cell rfl)) fun a40 h40 => ?_; clear h39
   refine pk (v := .int .i64 n.c) h40 rfl (rn_conv rfl rfl Try.underlying5 Try.underlying3 (IntWalk.i64_in _ (by omega))) fun a41 h41 => ?_; clear h40
   refine pk0 (v := pt N3 3) h41 rfl fun a42 h42 => ?_; clear h41
   refine pk (v := .int .u8 n.d) h42 rfl (rn_load1 rfl rfl Try.isAgg5 (hk31.cell rfl)) fun a43 h43 => ?_; clear h42
   refine pk (v := .int .i64 n.d) h43 rfl (rn_conv rfl rfl Try.underlying5 Try.underlying3 (IntWalk.i64_in _ (by omega))) fun a44 h44 => ?_; clear h43
   refine pk0 (v := .int .u64 hz) h44 rfl fun a45 h45 => ?_; clear h44
   refine pk0 (v := v) h45 rfl fun a46 h46 => ?_; clear h45
   refine pk0 (v := pt N3 4) h46 rfl fun a47 h47 => ?_; clear h46
   refine pk (v := .int .u8 n.e) h47 rfl (rn_load1 rfl rfl Try.isAgg5 (hk31.cell rfl)) fun a48 h48 => ?_; clear h47
   refine pk (v := .int .i64 n.e) h48 rfl (rn_conv rfl rfl Try.underlying5 Try.underlying3 (IntWalk.i64_in _ (by omega))) fun a49 h49 => ?_; clear h48
   have hRI : RI l := RI.of_right (by omega)
   have hl80 := much_len80 (l := l) (by omega)
   refine pw h49 rfl (op_call (args := #[.int .i64 n.a, .int .i64 n.b, .int .i64 n.c, .int .i64 n.d, .int .u64 hz, v, .int .i64 n.e]) (R := fun res xw => ∃ L2 : List EntT, ∃ u : Value, res = .agg #[.int .i64 3, .int .i64 (mxI n.a 0), .int .i64 (mxI n.d 0), .int .i64 0, .bool false, .int .u64 hz, .int .u64 0, .int .i64 (mxI n.b 0), .int .i64 (mxI (fwF l n.e n.c) 0), .int .i64 (mxI ((stN (fwA l n.e) : Nat) : Int) 0), .int .i64 0, .string (⟨#[]⟩), .string (⟨#[]⟩), .int .i64 0, .slice none 0 0, .int .u64 0, .int .i64 0, .int .i64 0, .slice none 0 0, u, .slice none 0 0, .slice none 0 0] ∧ xw.ownsRow w23.heap.size 38 4 u L2.length (L2.flatMap entE) ∧ EntsH (fun _ => False) w23.heap.size xw L2 ∧ L2.map e0 = (fwE l n.e n.c).map e0 ∧ Below w23.heap.size w23 xw) rfl rfl rfl (by kernel_rfl) (by kernel_rfl) (Try.call26 _ _) (fwd_any n.a n.b n.c n.d hz v l n.e w23 (hs.below hB29) (fun z hz => (hok z hz).1.below hB29) (fun z hz => by have := ri_len4 hRI z hz; omega)) (by rintro e x ⟨L2, u, rfl, hq54, hq55, hq56, hb57⟩; exact ⟨_, rfl, ⟨L2, u, rfl, hq54, hq55, hq56, hb57⟩⟩)) ?_; clear h49
   rintro _ w51 a50 ⟨L252, u53, rfl, hq54, hq55, hq56, hb57⟩ h50
   have hz58 := hb57.size
   have hl59 := sl_len (row_sl hq54 entE_len)
   refine pw h50 rfl (op_new (v := fun N => pt N 0) (T := 74) (cs := #[.int .i64 0, .int .i64 0, .int .i64 0, .int .i64 0, .bool false, .int .u64 0, .int .u64 0, .int .i64 0, .int .i64 0, .int .i64 0, .int .i64 0, .string (⟨#[]⟩), .string (⟨#[]⟩), .int .i64 0, .slice none 0 0, .int .u64 0, .int .i64 0, .int .i64 0, .slice none 0 0, .slice none 0 0, .slice none 0 0, .slice none 0 0]) (by kernel_rfl) (by kernel_rfl) (by kernel_rfl)) ?_; clear h50
   rintro _ w61 a60 ⟨N62, rfl, hN65, hz66, hk64, hg63⟩ h60
   have ha67 := row_fresh hq54 hN65
   have hz68 := hg63.size
   try dsimp only at h60
   have hr74 := row_kept_new hq54 hg63
   refine pwD h60 rfl (op_storeN rfl rfl rfl (all_cons rfl (all_cons rfl (all_cons rfl (all_cons rfl (all_cons rfl (all_cons rfl (all_cons rfl (all_cons rfl (all_cons rfl (all_cons rfl (all_cons rfl (all_cons rfl (all_cons rfl (all_cons rfl (all_cons rfl (all_cons rfl (all_cons rfl (all_cons rfl (all_cons rfl (all_cons (row_one hr74) (all_cons rfl (all_cons rfl all_nil)))))))))))))))))))))) (by kernel_rfl) hk64 rfl) ?_; clear h60
   rintro _ w70 a69 ⟨hk71, hz72, hg73⟩ h69
   have hk71' : Blk w70 N62 74 #[.int .i64 3, .int .i64 (mxI n.a 0), .int .i64 (mxI n.d 0), .int .i64 0, .bool false, .int .u64 hz, .int .u64 0, .int .i64 (mxI n.b 0), .int .i64 (mxI (fwF l n.e n.c) 0), .int .i64 (mxI ((stN (fwA l n.e) : Nat) : Int) 0), .int .i64 0, .string (⟨#[]⟩), .string (⟨#[]⟩), .int .i64 0, .slice none 0 0, .int .u64 0, .int .i64 0, .int .i64 0, .slice none 0 0, u53, .slice none 0 0, .slice none 0 0] := hk71; clear hk71
   have hz75 := hg73.size
   refine pl_nil ?_
   refine co_then ?_
   refine co_seq ?_
   refine co_reg ?_
   refine pk0 (v := pt N3 0) h69 rfl fun a76 h76 => ?_; clear h69
   have hk77 := hk31.below hb57
   have hk78 := hk77.kept hg63 (by simp)
   have hk79 := hk78.kept hg73 (by simp; omega)
   refine pk (v := .int .u8 n.a) h76 rfl (rn_load1 rfl rfl Try.isAgg5 (hk79.cell rfl)) fun a80 h80 => ?_; clear h76
   refine pk (v := .int .i64 n.a) h80 rfl (rn_conv rfl rfl Try.underlying5 Try.underlying3 (IntWalk.i64_in _ (by omega))) fun a81 h81 => ?_; clear h80
   refine pk0 (v := pt N3 4) h81 rfl fun a82 h82 => ?_; clear h81
   refine pk (v := .int .u8 n.e) h82 rfl (rn_load1 rfl rfl Try.isAgg5 (hk79.cell rfl)) fun a83 h83 => ?_; clear h82
   refine pk (v := .int .i64 n.e) h83 rfl (rn_conv rfl rfl Try.underlying5 Try.underlying3 (IntWalk.i64_in _ (by omega))) fun a84 h84 => ?_; clear h83
   refine pk0 (v := pt N3 1) h84 rfl fun a85 h85 => ?_; clear h84
   refine pk (v := .int .u8 n.b) h85 rfl (rn_load1 rfl rfl Try.isAgg5 (hk79.cell rfl)) fun a86 h86 => ?_; clear h85
   refine pk (v := .int .i64 n.b) h86 rfl (rn_conv rfl rfl Try.underlying5 Try.underlying3 (IntWalk.i64_in _ (by omega))) fun a87 h87 => ?_; clear h86
   refine pk0 (v := pt N3 2) h87 rfl fun a88 h88 => ?_; clear h87
   refine pk (v := .int .u8 n.c) h88 rfl (rn_load1 rfl rfl Try.isAgg5 (hk79.cell rfl)) fun a89 h89 => ?_; clear h88
   refine pk (v := .int .i64 n.c) h89 rfl (rn_conv rfl rfl Try.underlying5 Try.underlying3 (IntWalk.i64_in _ (by omega))) fun a90 h90 => ?_; clear h89
   refine pk0 (v := v) h90 rfl fun a91 h91 => ?_; clear h90
   have hB94 := hb_call hB29 hb57
   have hB95 := hb_new hB94 hg63
   have hB96 := hb_at hB95 hg73 (by omega)
   have hE97 := hq55.new hg63
   have hE98 := hE97.blk hk64 (by decide) hg73
   refine pw h91 rfl (op_call (args := #[.int .i64 n.a, .int .i64 n.e, .int .i64 n.b, .int .i64 n.c, v]) (R := fun res xw => ∃ u : Value, res = .agg #[.int .i64 4, .int .i64 (mxI n.a 0), .int .i64 0, .int .i64 0, .bool false, .int .u64 0, .int .u64 0, .int .i64 (mxI (((fwA l n.e).length : Nat) : Int) 0), .int .i64 (mxI n.b 0), .int .i64 (mxI (fwF l n.e n.c) 0), .int .i64 0, .string (⟨#[]⟩), .string (⟨#[]⟩), .int .i64 0, .slice none 0 0, .int .u64 0, .int .i64 0, .int .i64 0, .slice none 0 0, .slice none 0 0, u, .slice none 0 0] ∧ xw.ownsRow w70.heap.size 29 1 u (akS l n.e n.c).length ((akS l n.e n.c).flatMap (intE .u64)) ∧ Below w70.heap.size w70 xw) rfl rfl rfl (by kernel_rfl) (by kernel_rfl) (Try.call28 _ _) (ack_any n.a n.e n.b n.c v l w70 (hs.below hB96) (fun z hz => (hok z hz).1.below hB96)) (by rintro e x ⟨u, rfl, hq100, hb101⟩; exact ⟨_, rfl, ⟨u, rfl, hq100, hb101⟩⟩)) ?_; clear h91
   rintro _ w93 a92 ⟨u99, rfl, hq100, hb101⟩ h92
   have hz102 := hb101.size
   have hl103 := sl_len (row_sl hq100 (intE_len .u64))
   refine pw h92 rfl (op_new (v := fun N => pt N 0) (T := 74) (cs := #[.int .i64 0, .int .i64 0, .int .i64 0, .int .i64 0, .bool false, .int .u64 0, .int .u64 0, .int .i64 0, .int .i64 0, .int .i64 0, .int .i64 0, .string (⟨#[]⟩), .string (⟨#[]⟩), .int .i64 0, .slice none 0 0, .int .u64 0, .int .i64 0, .int .i64 0, .slice none 0 0, .slice none 0 0, .slice none 0 0, .slice none 0 0]) (by kernel_rfl) (by kernel_rfl) (by kernel_rfl)) ?_; clear h92
   rintro _ w105 a104 ⟨N106, rfl, hN109, hz110, hk108, hg107⟩ h104
   have hr112 := row_kept_at hr74 hg73 (ha67)
   have hr113 := row_kept_new hr112 (below_grown hb101)
   have ha111 := row_fresh hr113 hN109
   have ha114 := row_fresh hq100 hN109
   have hz115 := hg107.size
   try dsimp only at h104
   have hr121 := row_kept_new hq100 hg107
   refine pwD h104 rfl (op_storeN rfl rfl rfl (all_cons rfl (all_cons rfl (all_cons rfl (all_cons rfl (all_cons rfl (all_cons rfl (all_cons rfl (all_cons rfl (all_cons rfl (all_cons rfl (all_cons rfl (all_cons rfl (all_cons rfl (all_cons rfl (all_cons rfl (all_cons rfl (all_cons rfl (all_cons rfl (all_cons rfl (all_cons rfl (all_cons (row_one hr121) (all_cons rfl all_nil)))))))))))))))))))))) (by kernel_rfl) hk108 rfl) ?_; clear h104
   rintro _ w117 a116 ⟨hk118, hz119, hg120⟩ h116
   have hk118' : Blk w117 N106 74 #[.int .i64 4, .int .i64 (mxI n.a 0), .int .i64 0, .int .i64 0, .bool false, .int .u64 0, .int .u64 0, .int .i64 (mxI (((fwA l n.e).length : Nat) : Int) 0), .int .i64 (mxI n.b 0), .int .i64 (mxI (fwF l n.e n.c) 0), .int .i64 0, .string (⟨#[]⟩), .string (⟨#[]⟩), .int .i64 0, .slice none 0 0, .int .u64 0, .int .i64 0, .int .i64 0, .slice none 0 0, .slice none 0 0, u99, .slice none 0 0] := hk118; clear hk118
   have hz122 := hg120.size
   refine pl_nil ?_
   refine co_then ?_
   refine co_seq ?_
   refine co_reg ?_
   have hk123 := hk71'.below hb101
   have hk124 := hk123.kept hg107 (by simp)
   have hk125 := hk124.kept hg120 (by simp; omega)
   refine pk (v := .agg #[.int .i64 3, .int .i64 (mxI n.a 0), .int .i64 (mxI n.d 0), .int .i64 0, .bool false, .int .u64 hz, .int .u64 0, .int .i64 (mxI n.b 0), .int .i64 (mxI (fwF l n.e n.c) 0), .int .i64 (mxI ((stN (fwA l n.e) : Nat) : Int) 0), .int .i64 0, .string (⟨#[]⟩), .string (⟨#[]⟩), .int .i64 0, .slice none 0 0, .int .u64 0, .int .i64 0, .int .i64 0, .slice none 0 0, u53, .slice none 0 0, .slice none 0 0]) h116 rfl (rn_loadN rfl rfl Try.underlying74 rfl (by kernel_rfl) hk125.all) fun a126 h126 => ?_; clear h116
   have hB129 := hb_call hB96 hb101
   have hB130 := hb_new hB129 hg107
   have hB131 := hb_at hB130 hg120 (by omega)
   have hk132 := hk79.below hb101
   have hk133 := hk132.kept hg107 (by simp)
   have hk134 := hk133.kept hg120 (by simp; omega)
   have hr135 := row_kept_new hr113 hg107
   have hr136 := row_kept_at hr135 hg120 (ha111)
   have hE137 := hE98.new (below_grown hb101)
   have hE138 := hE137.new hg107
   have hE139 := hE138.blk hk108 (by decide) hg120
   refine pw h126 rfl (op_call (args := #[.agg #[.int .i64 3, .int .i64 (mxI n.a 0), .int .i64 (mxI n.d 0), .int .i64 0, .bool false, .int .u64 hz, .int .u64 0, .int .i64 (mxI n.b 0), .int .i64 (mxI (fwF l n.e n.c) 0), .int .i64 (mxI ((stN (fwA l n.e) : Nat) : Int) 0), .int .i64 0, .string (⟨#[]⟩), .string (⟨#[]⟩), .int .i64 0, .slice none 0 0, .int .u64 0, .int .i64 0, .int .i64 0, .slice none 0 0, u53, .slice none 0 0, .slice none 0 0]]) (R := fun res xw => res = .int .i64 0 ∧ Below w117.heap.size w117 xw) rfl rfl rfl (by kernel_rfl) (by kernel_rfl) (Try.call45 _ _) (rmCheck_any (fwD n.a n.b n.c n.d hz n.e l L252) (.slice none 0 0) (.slice none 0 0) u53 (.slice none 0 0) (.slice none 0 0) w117 (sl_nil _) (sl_nil _) (row_sl hr136 entE_len) (sl_nil _) (sl_nil _) (entsH_got hE139) (fwD_R (by omega))) (by rintro e x ⟨h0, h⟩; rw [may_fwd (by omega) (by omega) (by omega) (by omega) hRI hq56] at h0; exact ⟨_, h0, rfl, h⟩)) ?_; clear h126
   rintro _ w128 a127 ⟨rfl, hb140⟩ h127
   have hz141 := hb140.size
   refine pk0 (v := .bool ((0 : Int) == 0)) h127 rfl fun a142 h142 => ?_; clear h127
   refine pk0 (v := .bool ((0 : Int) == 0)) h142 rfl fun a143 h143 => ?_; clear h142
   have hc144 : ((0 : Int) == 0) = true := by first | (simp; done) | (simp; omega) | exact beq_false_of_ne (by omega) | exact beq_iff_eq.2 (by omega)
   rw [hc144] at h143; clear hc144
   have hk145 := hk118'.below hb140
   refine pk (v := .agg #[.int .i64 4, .int .i64 (mxI n.a 0), .int .i64 0, .int .i64 0, .bool false, .int .u64 0, .int .u64 0, .int .i64 (mxI (((fwA l n.e).length : Nat) : Int) 0), .int .i64 (mxI n.b 0), .int .i64 (mxI (fwF l n.e n.c) 0), .int .i64 0, .string (⟨#[]⟩), .string (⟨#[]⟩), .int .i64 0, .slice none 0 0, .int .u64 0, .int .i64 0, .int .i64 0, .slice none 0 0, .slice none 0 0, u99, .slice none 0 0]) h143 rfl (rn_loadN rfl rfl Try.underlying74 rfl (by kernel_rfl) hk145.all) fun a146 h146 => ?_; clear h143
   have hB149 := hb_call hB131 hb140
   have hr150 := row_kept_at hr121 hg120 (ha114)
   have hr151 := row_kept_new hr150 (below_grown hb140)
   refine pw h146 rfl (op_call (args := #[.agg #[.int .i64 4, .int .i64 (mxI n.a 0), .int .i64 0, .int .i64 0, .bool false, .int .u64 0, .int .u64 0, .int .i64 (mxI (((fwA l n.e).length : Nat) : Int) 0), .int .i64 (mxI n.b 0), .int .i64 (mxI (fwF l n.e n.c) 0), .int .i64 0, .string (⟨#[]⟩), .string (⟨#[]⟩), .int .i64 0, .slice none 0 0, .int .u64 0, .int .i64 0, .int .i64 0, .slice none 0 0, .slice none 0 0, u99, .slice none 0 0]]) (R := fun res xw => res = .int .i64 0 ∧ Below w128.heap.size w128 xw) rfl rfl rfl (by kernel_rfl) (by kernel_rfl) (Try.call45 _ _) (rmCheck_any (akD n.a n.e n.b n.c l (akS l n.e n.c)) (.slice none 0 0) (.slice none 0 0) (.slice none 0 0) u99 (.slice none 0 0) w128 (sl_nil _) (sl_nil _) (sl_nil _) (row_sl hr151 (intE_len .u64)) (sl_nil _) (fun _ h => by cases h) (akD_R (akS_bd (fun z hz => (hok z hz).1) _ _))) (by rintro e x ⟨h0, h⟩; rw [may_ack (by omega) (by omega) (by omega) (akS_len _ _ _)] at h0; exact ⟨_, h0, rfl, h⟩)) ?_; clear h146
   rintro _ w148 a147 ⟨rfl, hb152⟩ h147
   have hz153 := hb152.size
   refine pk0 (v := .bool ((0 : Int) == 0)) h147 rfl fun a154 h154 => ?_; clear h147
   refine pk0 (v := .bool ((0 : Int) == 0)) h154 rfl fun a155 h155 => ?_; clear h154
   refine pk0 (v := .bool ((0 : Int) == 0)) h155 rfl fun a156 h156 => ?_; clear h155
   have hc157 : ((0 : Int) == 0) = true := by first | (simp; done) | (simp; omega) | exact beq_false_of_ne (by omega) | exact beq_iff_eq.2 (by omega)
   rw [hc157] at h156; clear hc157
   refine pk0 (v := pt N62 19) h156 rfl fun a158 h158 => ?_; clear h156
   have hk159 := hk125.below hb140
   have hk160 := hk159.below hb152
   refine pk (v := u53) h158 rfl (rn_load1 rfl rfl Try.isAgg69 (hk160.cell rfl)) fun a161 h161 => ?_; clear h158
   have hB164 := hb_call hB149 hb152
   have hk165 := hk134.below hb140
   have hk166 := hk165.below hb152
   have hr167 := row_kept_new hr136 (below_grown hb140)
   have hr168 := row_kept_new hr167 (below_grown hb152)
   have hE169 := hE139.new (below_grown hb140)
   have hE170 := hE169.new (below_grown hb152)
   refine pw h161 rfl (op_call (args := #[u53]) (R := fun res xw => res = .int .i64 0 ∧ Below w148.heap.size w148 xw) rfl rfl rfl (by kernel_rfl) (by kernel_rfl) (Try.call38 _ _) (ritemRight_any u53 L252 w148 (row_sl hr168 entE_len) (entsH_got hE170)) (by rintro e x ⟨h0, h⟩; rw [ri_L2 hRI hq56] at h0; exact ⟨_, h0, rfl, h⟩)) ?_; clear h161
   rintro _ w163 a162 ⟨rfl, hb171⟩ h162
   have hz172 := hb171.size
   refine pk0 (v := .bool ((0 : Int) == 0)) h162 rfl fun a173 h173 => ?_; clear h162
   refine pk0 (v := .bool ((0 : Int) == 0)) h173 rfl fun a174 h174 => ?_; clear h173
   refine pk0 (v := .bool ((0 : Int) == 0)) h174 rfl fun a175 h175 => ?_; clear h174
   have hc176 : ((0 : Int) == 0) = true := by first | (simp; done) | (simp; omega) | exact beq_false_of_ne (by omega) | exact beq_iff_eq.2 (by omega)
   rw [hc176] at h175; clear hc176
   have hB179 := hb_call hB164 hb171
   have hr180 := row_kept_new hr151 (below_grown hb152)
   have hr181 := row_kept_new hr180 (below_grown hb171)
   have hk182 := hk145.below hb152
   have hk183 := hk182.below hb171
   refine pw h175 rfl (op_call (args := #[]) (R := fun res xw => res = .bool true ∧ Below w163.heap.size w163 xw) rfl rfl rfl (by kernel_rfl) (by kernel_rfl) (Try.call25 _ _) (awake32 w163) (by rintro e x ⟨rfl, h⟩; exact ⟨_, rfl, rfl, h⟩)) ?_; clear h175
   rintro _ w178 a177 ⟨rfl, hb184⟩ h177
   have hz185 := hb184.size
   refine pk0 (v := .bool true) h177 rfl fun a186 h186 => ?_; clear h177
   refine pk0 (v := .bool true) h186 rfl fun a187 h187 => ?_; clear h186
   refine pl_nil ?_
   refine co_then ?_
   refine wp_ret ?_
   refine co_ret1 h187 rfl rfl ?_
   have hB188 := hb_call hB179 hb184
   exact ⟨rfl, hB188⟩
  ·
   rw [hc28] at h27
   have hp189 : rightI l ≠ 0 := by first | simpa using hc28 | simpa [and_assoc] using hc28
   clear hc28
   refine co_true h27 rfl ?_
   refine co_seq ?_
   refine co_reg ?_
   refine pw h27 rfl (op_call (args := #[]) (R := fun res xw => res = .bool true ∧ Below w23.heap.size w23 xw) rfl rfl rfl (by kernel_rfl) (by kernel_rfl) (Try.call25 _ _) (awake32 w23) (by rintro e x ⟨rfl, h⟩; exact ⟨_, rfl, rfl, h⟩)) ?_; clear h27
   rintro _ w191 a190 ⟨rfl, hb192⟩ h190
   have hz193 := hb192.size
   refine pk0 (v := .bool true) h190 rfl fun a194 h194 => ?_; clear h190
   refine pl_nil ?_
   refine co_then ?_
   refine wp_ret ?_
   refine co_thenR ?_
   refine co_ret1 h194 rfl rfl ?_
   have hB195 := hb_call hB29 hb192
   exact ⟨rfl, hB195⟩
 ·
  rw [hc18] at h17
  have hp196 : muchN l > 80 := of_decide_eq_true hc18
  clear hc18
  refine psk h17 rfl fun a197 h197 => ?_; clear h17
  refine psk h197 rfl fun a198 h198 => ?_; clear h197
  refine psk h198 rfl fun a199 h199 => ?_; clear h198
  refine pk0 (v := .bool true) h199 rfl fun a200 h200 => ?_; clear h199
  refine pl_nil ?_
  refine co_then ?_
  refine co_true h200 rfl ?_
  refine co_seq ?_
  refine co_reg ?_
  refine pw h200 rfl (op_call (args := #[]) (R := fun res xw => res = .bool true ∧ Below w12.heap.size w12 xw) rfl rfl rfl (by kernel_rfl) (by kernel_rfl) (Try.call25 _ _) (awake32 w12) (by rintro e x ⟨rfl, h⟩; exact ⟨_, rfl, rfl, h⟩)) ?_; clear h200
  rintro _ w202 a201 ⟨rfl, hb203⟩ h201
  have hz204 := hb203.size
  refine pk0 (v := .bool true) h201 rfl fun a205 h205 => ?_; clear h201
  refine pl_nil ?_
  refine co_then ?_
  refine wp_ret ?_
  refine co_thenR ?_
  refine co_ret1 h205 rfl rfl ?_
  have hB206 := hb_call hB19 hb203
  exact ⟨rfl, hB206⟩

theorem relayMay_law (v : Value) (l : List EntT) (n : T5b) (hz : Int) (w : World) (hs : SliceOf entE 4 w v l) (g : (∀ z ∈ l, EntOkS w z) ∧ l.length ≤ 2932031007403) (hn : T5bOk n) (hhz : (Lit.int .u64 hz).wf = true) :
    Calls Try.prog 8 #[v, a5bV n, .int .u64 hz] w fun e w' => e = .returned (.bool true) ∧ Below w.heap.size w w' :=
  relayMay_any v l n hz w hs g.1 g.2 hn (wf_u64 hhz)

end Go.Proofs.Ytlbemlodcdgakaa
