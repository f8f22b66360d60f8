/- Put together: SrvISp, MeCSp, MeDSp, SrvJSp, SrvMSp. Conditions: as each says. -/
import Derived.Test.YtbjbcbbhmbpndaaSq5
import Derived.Test.YtbjbcbbhmbpndaaSq2
/- The document's own serve: No, Get, Scan. Conditions: at most 100 calls, 20 operations each. -/
namespace Go.Proofs.Ytbjbcbbhmbpndaa
open Go.RowKit Go.PlainAid
set_option linter.unusedVariables false
set_option linter.unusedSimpArgs false


theorem msgR0 {k ep rq sr at_ n m p e bc br : Int} {fg : Bool} {key to_ : ByteArray} {bl : List OpT} {en : List EntT} {pr : List PrT} (h : 0 ≤ at_ ∧ at_ < 18446744073709551616) : MsgR ⟨k, ep, rq, sr, fg, at_, 0, n, m, p, e, key, to_, 0, [], 0, bc, br, bl, en, [], pr⟩ :=
  ⟨(fun m hm => by cases hm), ⟨⟨by show (-9223372036854775808 : Int) ≤ 0; omega, by show (0 : Int) ≤ _; omega⟩, ⟨by show (0 : Int) ≤ 0; omega, by show (0 : Int) < _; omega⟩, h, ⟨by show (0 : Int) ≤ 0; omega, by show (0 : Int) < _; omega⟩⟩, (fun t ht => by cases ht)⟩

set_option maxRecDepth 100000 in
theorem r31No_any (mk : Int) (hz : Int) (ep : Int) (hd : Int) (rq : Int) (er : Int) (w : World)  :
    Calls Try.prog 21 #[.agg #[.int .u64 mk, .int .u64 hz, .int .i64 ep, .int .i64 hd], .int .i64 rq, .int .i64 er] w fun e w' => e = .returned (.agg #[.int .i64 7, .int .i64 (mxI ep 0), .int .i64 rq, .int .i64 0, .bool false, .int .u64 0, .int .u64 0, .int .i64 (mxI hd 0), .int .i64 0, .int .i64 0, .int .i64 er, .string (⟨#[]⟩), .string (⟨#[]⟩), .int .i64 0, .slice none 0 0, .int .u64 0, .int .i64 0, .int .i64 0, .slice none 0 0, .slice none 0 0, .slice none 0 0, .slice none 0 0]) ∧ Below w.heap.size w w' := by
 have hB0 := Below.refl w.heap.size w
 refine co_enter (n := 16) Try.func21 rfl rfl rfl [(0, .agg #[.int .u64 mk, .int .u64 hz, .int .i64 ep, .int .i64 hd]), (1, .int .i64 rq), (2, .int .i64 er)] rfl (fun a h0 => ?_)
 refine co_seq ?_
 refine co_reg ?_
 refine pw h0 rfl (op_new (v := fun N => pt N 0) (T := 47) (cs := #[.int .u64 mk, .int .u64 hz, .int .i64 ep, .int .i64 hd]) (by kernel_rfl) (by kernel_rfl) (by kernel_rfl)) ?_; clear h0
 rintro _ w2 a1 ⟨N3, rfl, hN6, hz7, hk5, hg4⟩ h1
 have hz8 := hg4.size
 try dsimp only at h1
 refine pw h1 rfl (op_new (v := fun N => pt N 0) (T := 37) (cs := #[.int .i64 0, .int .i64 0, .int .i64 0, .int .i64 0, .bool false, .int .u64 0, .int .u64 0, .int .i64 0, .int .i64 0, .int .i64 0, .int .i64 0, .string (⟨#[]⟩), .string (⟨#[]⟩), .int .i64 0, .slice none 0 0, .int .u64 0, .int .i64 0, .int .i64 0, .slice none 0 0, .slice none 0 0, .slice none 0 0, .slice none 0 0]) (by kernel_rfl) (by kernel_rfl) (by kernel_rfl)) ?_; clear h1
 rintro _ w10 a9 ⟨N11, rfl, hN14, hz15, hk13, hg12⟩ h9
 have hz16 := hg12.size
 try dsimp only at h9
 refine pl_nil ?_
 refine co_then ?_
 refine co_seq ?_
 refine co_reg ?_
 refine pk0 (v := .int .i64 rq) h9 rfl fun a17 h17 => ?_; clear h9
 refine pk0 (v := .int .i64 er) h17 rfl fun a18 h18 => ?_; clear h17
 refine pk0 (v := pt N3 2) h18 rfl fun a19 h19 => ?_; clear h18
 have hk20 := hk5.kept hg12 (by simp)
 refine pk (v := .int .i64 ep) h19 rfl (rn_load1 rfl rfl Try.isAgg3 (hk20.cell rfl)) fun a21 h21 => ?_; clear h19
 have hmm22 := mxI_p ep 0
 refine pk0 (v := .int .i64 (mxI ep 0)) h21 rfl fun a23 h23 => ?_; clear h21
 refine pk0 (v := pt N3 3) h23 rfl fun a24 h24 => ?_; clear h23
 refine pk (v := .int .i64 hd) h24 rfl (rn_load1 rfl rfl Try.isAgg3 (hk20.cell rfl)) fun a25 h25 => ?_; clear h24
 have hmm26 := mxI_p hd 0
 refine pk0 (v := .int .i64 (mxI hd 0)) h25 rfl fun a27 h27 => ?_; clear h25
 refine pk0 (v := .agg #[.int .i64 7, .int .i64 (mxI ep 0), .int .i64 rq, .int .i64 0, .bool false, .int .u64 0, .int .u64 0, .int .i64 (mxI hd 0), .int .i64 0, .int .i64 0, .int .i64 er, .string (⟨#[]⟩), .string (⟨#[]⟩), .int .i64 0, .slice none 0 0, .int .u64 0, .int .i64 0, .int .i64 0, .slice none 0 0, .slice none 0 0, .slice none 0 0, .slice none 0 0]) h27 rfl fun a28 h28 => ?_; clear h27
 refine pwD h28 rfl (op_storeN rfl rfl rfl (all_cons rfl (all_cons rfl (all_cons rfl (all_cons rfl (all_cons rfl (all_cons rfl (all_cons rfl (all_cons rfl (all_cons rfl (all_cons rfl (all_cons rfl (all_cons rfl (all_cons rfl (all_cons rfl (all_cons rfl (all_cons rfl (all_cons rfl (all_cons rfl (all_cons rfl (all_cons rfl (all_cons rfl (all_cons rfl all_nil)))))))))))))))))))))) (by kernel_rfl) hk13 rfl) ?_; clear h28
 rintro _ w30 a29 ⟨hk31, hz32, hg33⟩ h29
 have hk31' : Blk w30 N11 37 #[.int .i64 7, .int .i64 (mxI ep 0), .int .i64 rq, .int .i64 0, .bool false, .int .u64 0, .int .u64 0, .int .i64 (mxI hd 0), .int .i64 0, .int .i64 0, .int .i64 er, .string (⟨#[]⟩), .string (⟨#[]⟩), .int .i64 0, .slice none 0 0, .int .u64 0, .int .i64 0, .int .i64 0, .slice none 0 0, .slice none 0 0, .slice none 0 0, .slice none 0 0] := hk31; clear hk31
 have hz34 := hg33.size
 refine pl_nil ?_
 refine co_then ?_
 refine wp_ret ?_
 refine co_retC (Q := fun _ _ _ => True) h29 rfl rfl hk31' Try.underlying37 rfl (by kernel_rfl) ?_
 have hB35 := hb_new hB0 hg4
 have hB36 := hb_new hB35 hg12
 have hB37 := hb_at hB36 hg33 (by omega)
 exact ⟨rfl, hB37⟩
set_option maxRecDepth 100000 in
theorem r31GetN_any (dd : Nat) (mk : Int) (hz : Int) (ep : Int) (hd : Int) (d : MsgD) (mv : Value) (bv : Value) (ev : Value) (sv : Value) (pv : Value) (w : World) (hm : SliceOf memE 2 w mv d.cms) (hb : SliceOf opE 3 w bv d.bl) (he : SliceOf entE 4 w ev d.en) (ht : SliceOf (intE .u64) 1 w sv d.st) (hp : SliceOf prE 2 w pv d.pr) (hbd : ¬ bdC d.at_ mk hz = 0) :
    Calls Try.prog 17 #[pt dd 0, .agg #[.int .u64 mk, .int .u64 hz, .int .i64 ep, .int .i64 hd], .agg #[.int .i64 d.k, .int .i64 d.ep, .int .i64 d.rq, .int .i64 d.sr, .bool d.fg, .int .u64 d.at_, .int .u64 d.la, .int .i64 d.n, .int .i64 d.m, .int .i64 d.p, .int .i64 d.e, .string d.key, .string d.to_, .int .i64 d.cep, mv, .int .u64 d.cfl, .int .i64 d.bc, .int .i64 d.br, bv, ev, sv, pv]] w fun e w' => e = .returned (.agg #[.int .i64 7, .int .i64 (mxI ep 0), .int .i64 d.rq, .int .i64 0, .bool false, .int .u64 0, .int .u64 0, .int .i64 (mxI hd 0), .int .i64 0, .int .i64 0, .int .i64 (bdC d.at_ mk hz), .string (⟨#[]⟩), .string (⟨#[]⟩), .int .i64 0, .slice none 0 0, .int .u64 0, .int .i64 0, .int .i64 0, .slice none 0 0, .slice none 0 0, .slice none 0 0, .slice none 0 0]) ∧ Below w.heap.size w w' := by
 have hB0 := Below.refl w.heap.size w
 have hl_hm := sl_len hm
 have hl_hb := sl_len hb
 have hl_he := sl_len he
 have hl_ht := sl_len ht
 have hl_hp := sl_len hp
 refine co_enter (n := 52) Try.func17 rfl rfl rfl [(0, pt dd 0), (1, .agg #[.int .u64 mk, .int .u64 hz, .int .i64 ep, .int .i64 hd]), (2, .agg #[.int .i64 d.k, .int .i64 d.ep, .int .i64 d.rq, .int .i64 d.sr, .bool d.fg, .int .u64 d.at_, .int .u64 d.la, .int .i64 d.n, .int .i64 d.m, .int .i64 d.p, .int .i64 d.e, .string d.key, .string d.to_, .int .i64 d.cep, mv, .int .u64 d.cfl, .int .i64 d.bc, .int .i64 d.br, bv, ev, sv, pv])] rfl (fun a h0 => ?_)
 refine co_seq ?_
 refine co_reg ?_
 refine pw h0 rfl (op_new (v := fun N => pt N 0) (T := 47) (cs := #[.int .u64 mk, .int .u64 hz, .int .i64 ep, .int .i64 hd]) (by kernel_rfl) (by kernel_rfl) (by kernel_rfl)) ?_; clear h0
 rintro _ w2 a1 ⟨N3, rfl, hN6, hz7, hk5, hg4⟩ h1
 have hz8 := hg4.size
 try dsimp only at h1
 refine pw h1 rfl (op_new (v := fun N => pt N 0) (T := 37) (cs := #[.int .i64 d.k, .int .i64 d.ep, .int .i64 d.rq, .int .i64 d.sr, .bool d.fg, .int .u64 d.at_, .int .u64 d.la, .int .i64 d.n, .int .i64 d.m, .int .i64 d.p, .int .i64 d.e, .string d.key, .string d.to_, .int .i64 d.cep, mv, .int .u64 d.cfl, .int .i64 d.bc, .int .i64 d.br, bv, ev, sv, pv]) (by kernel_rfl) (by kernel_rfl) (by kernel_rfl)) ?_; clear h1
 rintro _ w10 a9 ⟨N11, rfl, hN14, hz15, hk13, hg12⟩ h9
 have hz16 := hg12.size
 try dsimp only at h9
 refine pw h9 rfl (op_new (v := fun N => pt N 0) (T := 37) (cs := #[.int .i64 0, .int .i64 0, .int .i64 0, .int .i64 0, .bool false, .int .u64 0, .int .u64 0, .int .i64 0, .int .i64 0, .int .i64 0, .int .i64 0, .string (⟨#[]⟩), .string (⟨#[]⟩), .int .i64 0, .slice none 0 0, .int .u64 0, .int .i64 0, .int .i64 0, .slice none 0 0, .slice none 0 0, .slice none 0 0, .slice none 0 0]) (by kernel_rfl) (by kernel_rfl) (by kernel_rfl)) ?_; clear h9
 rintro _ w18 a17 ⟨N19, rfl, hN22, hz23, hk21, hg20⟩ h17
 have hz24 := hg20.size
 try dsimp only at h17
 refine pl_nil ?_
 refine co_then ?_
 refine co_seq ?_
 refine co_seq ?_
 refine co_reg ?_
 refine pk0 (v := pt N11 5) h17 rfl fun a25 h25 => ?_; clear h17
 have hk26 := hk13.kept hg20 (by simp)
 refine pk (v := .int .u64 d.at_) h25 rfl (rn_load1 rfl rfl Try.isAgg23 (hk26.cell rfl)) fun a27 h27 => ?_; clear h25
 refine pk0 (v := pt N3 0) h27 rfl fun a28 h28 => ?_; clear h27
 have hk29 := hk5.kept hg12 (by simp)
 have hk30 := hk29.kept hg20 (by simp)
 refine pk (v := .int .u64 mk) h28 rfl (rn_load1 rfl rfl Try.isAgg23 (hk30.cell rfl)) fun a31 h31 => ?_; clear h28
 refine pk0 (v := pt N3 1) h31 rfl fun a32 h32 => ?_; clear h31
 refine pk (v := .int .u64 hz) h32 rfl (rn_load1 rfl rfl Try.isAgg23 (hk30.cell rfl)) fun a33 h33 => ?_; clear h32
 refine pw h33 rfl (op_call (args := #[.int .u64 d.at_, .int .u64 mk, .int .u64 hz]) (R := fun res xw => res = .int .i64 (bdC d.at_ mk hz) ∧ Below w18.heap.size w18 xw) rfl rfl rfl (by kernel_rfl) (by kernel_rfl) (Try.call54 _ _) (rbd_any d.at_ mk hz w18 ) (by rintro e x ⟨rfl, hb36⟩; exact ⟨_, rfl, ⟨rfl, hb36⟩⟩)) ?_; clear h33
 rintro _ w35 a34 ⟨rfl, hb36⟩ h34
 have hz37 := hb36.size
 refine pk0 (v := .int .i64 (bdC d.at_ mk hz)) h34 rfl fun a38 h38 => ?_; clear h34
 refine pl_nil ?_
 refine co_then ?_
 refine co_seq ?_
 refine co_reg ?_
 refine pk0 (v := .int .i64 (bdC d.at_ mk hz)) h38 rfl fun a39 h39 => ?_; clear h38
 refine pk0 (v := .bool (bdC d.at_ mk hz != 0)) h39 rfl fun a40 h40 => ?_; clear h39
 refine pl_nil ?_
 refine co_then ?_
 have hc41 : (bdC d.at_ mk hz != 0) = true := by first | (simp; done) | (simp; omega) | exact beq_false_of_ne (by omega) | exact beq_iff_eq.2 (by omega)
 rw [hc41] at h40; clear hc41
 refine co_true h40 rfl ?_
 refine co_seq ?_
 refine co_reg ?_
 have hk42 := hk30.below hb36
 refine pk (v := .agg #[.int .u64 mk, .int .u64 hz, .int .i64 ep, .int .i64 hd]) h40 rfl (rn_loadN rfl rfl Try.underlying47 rfl (by kernel_rfl) hk42.all) fun a43 h43 => ?_; clear h40
 refine pk0 (v := pt N11 2) h43 rfl fun a44 h44 => ?_; clear h43
 have hk45 := hk26.below hb36
 refine pk (v := .int .i64 d.rq) h44 rfl (rn_load1 rfl rfl Try.isAgg3 (hk45.cell rfl)) fun a46 h46 => ?_; clear h44
 refine pk0 (v := .int .i64 (bdC d.at_ mk hz)) h46 rfl fun a47 h47 => ?_; clear h46
 refine pw h47 rfl (op_call (args := #[.agg #[.int .u64 mk, .int .u64 hz, .int .i64 ep, .int .i64 hd], .int .i64 d.rq, .int .i64 (bdC d.at_ mk hz)]) (R := fun res xw => res = .agg #[.int .i64 7, .int .i64 (mxI ep 0), .int .i64 d.rq, .int .i64 0, .bool false, .int .u64 0, .int .u64 0, .int .i64 (mxI hd 0), .int .i64 0, .int .i64 0, .int .i64 (bdC d.at_ mk hz), .string (⟨#[]⟩), .string (⟨#[]⟩), .int .i64 0, .slice none 0 0, .int .u64 0, .int .i64 0, .int .i64 0, .slice none 0 0, .slice none 0 0, .slice none 0 0, .slice none 0 0] ∧ Below w35.heap.size w35 xw) rfl rfl rfl (by kernel_rfl) (by kernel_rfl) (Try.call21 _ _) (r31No_any mk hz ep hd d.rq (bdC d.at_ mk hz) w35 ) (by rintro e x ⟨rfl, hb50⟩; exact ⟨_, rfl, ⟨rfl, hb50⟩⟩)) ?_; clear h47
 rintro _ w49 a48 ⟨rfl, hb50⟩ h48
 have hz51 := hb50.size
 have hk57 := hk21.below hb36
 have hk58 := hk57.below hb50
 refine pwD h48 rfl (op_storeN rfl rfl rfl (all_cons rfl (all_cons rfl (all_cons rfl (all_cons rfl (all_cons rfl (all_cons rfl (all_cons rfl (all_cons rfl (all_cons rfl (all_cons rfl (all_cons rfl (all_cons rfl (all_cons rfl (all_cons rfl (all_cons rfl (all_cons rfl (all_cons rfl (all_cons rfl (all_cons rfl (all_cons rfl (all_cons rfl (all_cons rfl all_nil)))))))))))))))))))))) (by kernel_rfl) hk58 rfl) ?_; clear h48
 rintro _ w53 a52 ⟨hk54, hz55, hg56⟩ h52
 have hk54' : Blk w53 N19 37 #[.int .i64 7, .int .i64 (mxI ep 0), .int .i64 d.rq, .int .i64 0, .bool false, .int .u64 0, .int .u64 0, .int .i64 (mxI hd 0), .int .i64 0, .int .i64 0, .int .i64 (bdC d.at_ mk hz), .string (⟨#[]⟩), .string (⟨#[]⟩), .int .i64 0, .slice none 0 0, .int .u64 0, .int .i64 0, .int .i64 0, .slice none 0 0, .slice none 0 0, .slice none 0 0, .slice none 0 0] := hk54; clear hk54
 have hz59 := hg56.size
 refine pl_nil ?_
 refine co_then ?_
 refine wp_ret ?_
 refine co_thenR ?_
 refine co_retC (Q := fun _ _ _ => True) h52 rfl rfl hk54' Try.underlying37 rfl (by kernel_rfl) ?_
 have hB60 := hb_new hB0 hg4
 have hB61 := hb_new hB60 hg12
 have hB62 := hb_new hB61 hg20
 have hB63 := hb_call hB62 hb36
 have hB64 := hb_call hB63 hb50
 have hB65 := hb_at hB64 hg56 (by omega)
 exact ⟨rfl, hB65⟩
set_option maxRecDepth 100000 in
theorem r31Get_any (D : Nat → Prop) (dd : Nat) (f : Fv) (la : Int) (m : Nat) (mk : Int) (hz : Int) (ep : Int) (hd : Int) (d : MsgD) (mv : Value) (bv : Value) (ev : Value) (sv : Value) (pv : Value) (w : World) (hRs : RsO D w dd f la m) (hm : m ≤ 100) (hm : SliceOf memE 2 w mv d.cms) (hb : SliceOf opE 3 w bv d.bl) (he : SliceOf entE 4 w ev d.en) (ht : SliceOf (intE .u64) 1 w sv d.st) (hp : SliceOf prE 2 w pv d.pr) (hbd : bdC d.at_ mk hz = 0) :
    Calls Try.prog 17 #[pt dd 0, .agg #[.int .u64 mk, .int .u64 hz, .int .i64 ep, .int .i64 hd], .agg #[.int .i64 d.k, .int .i64 d.ep, .int .i64 d.rq, .int .i64 d.sr, .bool d.fg, .int .u64 d.at_, .int .u64 d.la, .int .i64 d.n, .int .i64 d.m, .int .i64 d.p, .int .i64 d.e, .string d.key, .string d.to_, .int .i64 d.cep, mv, .int .u64 d.cfl, .int .i64 d.bc, .int .i64 d.br, bv, ev, sv, pv]] w fun e w' => ∃ (u : Value), e = .returned (.agg #[.int .i64 10, .int .i64 0, .int .i64 d.rq, .int .i64 0, .bool false, .int .u64 d.at_, .int .u64 0, .int .i64 0, .int .i64 0, .int .i64 0, .int .i64 0, .string d.key, .string (⟨#[]⟩), .int .i64 0, .slice none 0 0, .int .u64 0, .int .i64 0, .int .i64 0, .slice none 0 0, .slice none 0 0, .slice none 0 0, u]) ∧ w'.ownsRow w.heap.size 88 2 u (rdL f d.key d.at_).length ((rdL f d.key d.at_).flatMap pairE) ∧ Below w.heap.size w w' := by
 have hB0 := Below.refl w.heap.size w
 have hl_hm := sl_len hm
 have hl_hb := sl_len hb
 have hl_he := sl_len he
 have hl_ht := sl_len ht
 have hl_hp := sl_len hp
 have hoD := RsO.ofS hRs
 refine co_enter (n := 52) Try.func17 rfl rfl rfl [(0, pt dd 0), (1, .agg #[.int .u64 mk, .int .u64 hz, .int .i64 ep, .int .i64 hd]), (2, .agg #[.int .i64 d.k, .int .i64 d.ep, .int .i64 d.rq, .int .i64 d.sr, .bool d.fg, .int .u64 d.at_, .int .u64 d.la, .int .i64 d.n, .int .i64 d.m, .int .i64 d.p, .int .i64 d.e, .string d.key, .string d.to_, .int .i64 d.cep, mv, .int .u64 d.cfl, .int .i64 d.bc, .int .i64 d.br, bv, ev, sv, pv])] rfl (fun a h0 => ?_)
 refine co_seq ?_
 refine co_reg ?_
 refine pw h0 rfl (op_new (v := fun N => pt N 0) (T := 47) (cs := #[.int .u64 mk, .int .u64 hz, .int .i64 ep, .int .i64 hd]) (by kernel_rfl) (by kernel_rfl) (by kernel_rfl)) ?_; clear h0
 rintro _ w2 a1 ⟨N3, rfl, hN6, hz7, hk5, hg4⟩ h1
 have hz8 := hg4.size
 have ho9 := off_new (RsO.ofS hRs) hN6
 try dsimp only at h1
 refine pw h1 rfl (op_new (v := fun N => pt N 0) (T := 37) (cs := #[.int .i64 d.k, .int .i64 d.ep, .int .i64 d.rq, .int .i64 d.sr, .bool d.fg, .int .u64 d.at_, .int .u64 d.la, .int .i64 d.n, .int .i64 d.m, .int .i64 d.p, .int .i64 d.e, .string d.key, .string d.to_, .int .i64 d.cep, mv, .int .u64 d.cfl, .int .i64 d.bc, .int .i64 d.br, bv, ev, sv, pv]) (by kernel_rfl) (by kernel_rfl) (by kernel_rfl)) ?_; clear h1
 rintro _ w11 a10 ⟨N12, rfl, hN15, hz16, hk14, hg13⟩ h10
 have hz17 := hg13.size
 have hO19 := RsO.gr hRs hg4 (fun k e => by cases e)
 have ho18 := off_new (RsO.ofS hO19) hN15
 try dsimp only at h10
 refine pw h10 rfl (op_new (v := fun N => pt N 0) (T := 37) (cs := #[.int .i64 0, .int .i64 0, .int .i64 0, .int .i64 0, .bool false, .int .u64 0, .int .u64 0, .int .i64 0, .int .i64 0, .int .i64 0, .int .i64 0, .string (⟨#[]⟩), .string (⟨#[]⟩), .int .i64 0, .slice none 0 0, .int .u64 0, .int .i64 0, .int .i64 0, .slice none 0 0, .slice none 0 0, .slice none 0 0, .slice none 0 0]) (by kernel_rfl) (by kernel_rfl) (by kernel_rfl)) ?_; clear h10
 rintro _ w21 a20 ⟨N22, rfl, hN25, hz26, hk24, hg23⟩ h20
 have hz27 := hg23.size
 have hO29 := RsO.gr hO19 hg13 (fun k e => by cases e)
 have ho28 := off_new (RsO.ofS hO29) hN25
 try dsimp only at h20
 refine pl_nil ?_
 refine co_then ?_
 refine co_seq ?_
 refine co_seq ?_
 refine co_reg ?_
 refine pk0 (v := pt N12 5) h20 rfl fun a30 h30 => ?_; clear h20
 have hk31 := hk14.kept hg23 (by simp)
 refine pk (v := .int .u64 d.at_) h30 rfl (rn_load1 rfl rfl Try.isAgg23 (hk31.cell rfl)) fun a32 h32 => ?_; clear h30
 refine pk0 (v := pt N3 0) h32 rfl fun a33 h33 => ?_; clear h32
 have hk34 := hk5.kept hg13 (by simp)
 have hk35 := hk34.kept hg23 (by simp)
 refine pk (v := .int .u64 mk) h33 rfl (rn_load1 rfl rfl Try.isAgg23 (hk35.cell rfl)) fun a36 h36 => ?_; clear h33
 refine pk0 (v := pt N3 1) h36 rfl fun a37 h37 => ?_; clear h36
 refine pk (v := .int .u64 hz) h37 rfl (rn_load1 rfl rfl Try.isAgg23 (hk35.cell rfl)) fun a38 h38 => ?_; clear h37
 refine pw h38 rfl (op_call (args := #[.int .u64 d.at_, .int .u64 mk, .int .u64 hz]) (R := fun res xw => res = .int .i64 (bdC d.at_ mk hz) ∧ Below w21.heap.size w21 xw) rfl rfl rfl (by kernel_rfl) (by kernel_rfl) (Try.call54 _ _) (rbd_any d.at_ mk hz w21 ) (by rintro e x ⟨rfl, hb41⟩; exact ⟨_, rfl, ⟨rfl, hb41⟩⟩)) ?_; clear h38
 rintro _ w40 a39 ⟨rfl, hb41⟩ h39
 have hz42 := hb41.size
 have hO44 := RsO.gr hO29 hg23 (fun k e => by cases e)
 have ho43 := RsO.ofS hO44
 refine pk0 (v := .int .i64 (bdC d.at_ mk hz)) h39 rfl fun a45 h45 => ?_; clear h39
 refine pl_nil ?_
 refine co_then ?_
 refine co_seq ?_
 refine co_reg ?_
 refine pk0 (v := .int .i64 (bdC d.at_ mk hz)) h45 rfl fun a46 h46 => ?_; clear h45
 refine pk0 (v := .bool (bdC d.at_ mk hz != 0)) h46 rfl fun a47 h47 => ?_; clear h46
 refine pl_nil ?_
 refine co_then ?_
 have hc48 : (bdC d.at_ mk hz != 0) = false := by first | (simp; done) | (simp; omega) | exact beq_false_of_ne (by omega) | exact beq_iff_eq.2 (by omega)
 rw [hc48] at h47; clear hc48
 refine co_false h47 rfl ?_
 refine wp_skip ?_
 refine co_then ?_
 refine co_seq ?_
 refine co_reg ?_
 refine pk0 (v := pt N12 2) h47 rfl fun a49 h49 => ?_; clear h47
 have hk50 := hk31.below hb41
 refine pk (v := .int .i64 d.rq) h49 rfl (rn_load1 rfl rfl Try.isAgg3 (hk50.cell rfl)) fun a51 h51 => ?_; clear h49
 refine pk0 (v := pt N12 11) h51 rfl fun a52 h52 => ?_; clear h51
 refine pk (v := .string d.key) h52 rfl (rn_load1 rfl rfl Try.isAgg9 (hk50.cell rfl)) fun a53 h53 => ?_; clear h52
 refine pk0 (v := pt N12 5) h53 rfl fun a54 h54 => ?_; clear h53
 refine pk (v := .int .u64 d.at_) h54 rfl (rn_load1 rfl rfl Try.isAgg23 (hk50.cell rfl)) fun a55 h55 => ?_; clear h54
 refine pk0 (v := .agg #[.int .i64 10, .int .i64 0, .int .i64 d.rq, .int .i64 0, .bool false, .int .u64 d.at_, .int .u64 0, .int .i64 0, .int .i64 0, .int .i64 0, .int .i64 0, .string d.key, .string (⟨#[]⟩), .int .i64 0, .slice none 0 0, .int .u64 0, .int .i64 0, .int .i64 0, .slice none 0 0, .slice none 0 0, .slice none 0 0, .slice none 0 0]) h55 rfl fun a56 h56 => ?_; clear h55
 refine pw h56 rfl (op_new (v := fun N => pt N 0) (T := 37) (cs := #[.int .i64 0, .int .i64 0, .int .i64 0, .int .i64 0, .bool false, .int .u64 0, .int .u64 0, .int .i64 0, .int .i64 0, .int .i64 0, .int .i64 0, .string (⟨#[]⟩), .string (⟨#[]⟩), .int .i64 0, .slice none 0 0, .int .u64 0, .int .i64 0, .int .i64 0, .slice none 0 0, .slice none 0 0, .slice none 0 0, .slice none 0 0]) (by kernel_rfl) (by kernel_rfl) (by kernel_rfl)) ?_; clear h56
 rintro _ w58 a57 ⟨N59, rfl, hN62, hz63, hk61, hg60⟩ h57
 have hz64 := hg60.size
 have hO66 := RsO.gr hO44 (below_grown hb41) (fun k e => by cases e)
 have ho65 := off_new (RsO.ofS hO66) hN62
 try dsimp only at h57
 refine pwD h57 rfl (op_storeN rfl rfl rfl (all_cons rfl (all_cons rfl (all_cons rfl (all_cons rfl (all_cons rfl (all_cons rfl (all_cons rfl (all_cons rfl (all_cons rfl (all_cons rfl (all_cons rfl (all_cons rfl (all_cons rfl (all_cons rfl (all_cons rfl (all_cons rfl (all_cons rfl (all_cons rfl (all_cons rfl (all_cons rfl (all_cons rfl (all_cons rfl all_nil)))))))))))))))))))))) (by kernel_rfl) hk61 rfl) ?_; clear h57
 rintro _ w68 a67 ⟨hk69, hz70, hg71⟩ h67
 have hk69' : Blk w68 N59 37 #[.int .i64 10, .int .i64 0, .int .i64 d.rq, .int .i64 0, .bool false, .int .u64 d.at_, .int .u64 0, .int .i64 0, .int .i64 0, .int .i64 0, .int .i64 0, .string d.key, .string (⟨#[]⟩), .int .i64 0, .slice none 0 0, .int .u64 0, .int .i64 0, .int .i64 0, .slice none 0 0, .slice none 0 0, .slice none 0 0, .slice none 0 0] := hk69; clear hk69
 have hz72 := hg71.size
 refine pl_nil ?_
 refine co_then ?_
 refine co_seq ?_
 refine co_seq ?_
 refine co_reg ?_
 refine pk0 (v := pt dd 0) h67 rfl fun a73 h73 => ?_; clear h67
 refine pk0 (v := pt N12 11) h73 rfl fun a74 h74 => ?_; clear h73
 have hk75 := hk50.kept hg60 (by simp)
 have hk76 := hk75.kept hg71 (by simp; omega)
 refine pk (v := .string d.key) h74 rfl (rn_load1 rfl rfl Try.isAgg9 (hk76.cell rfl)) fun a77 h77 => ?_; clear h74
 refine pk0 (v := pt N12 5) h77 rfl fun a78 h78 => ?_; clear h77
 refine pk (v := .int .u64 d.at_) h78 rfl (rn_load1 rfl rfl Try.isAgg23 (hk76.cell rfl)) fun a79 h79 => ?_; clear h78
 have hB82 := hb_new hB0 hg4
 have hB83 := hb_new hB82 hg13
 have hB84 := hb_new hB83 hg23
 have hB85 := hb_call hB84 hb41
 have hB86 := hb_new hB85 hg60
 have hB87 := hb_at hB86 hg71 (by omega)
 have hO88 := RsO.gr hO66 hg60 (fun k e => by cases e)
 have hO89 := RsO.gr hO88 hg71 (fun k e => by cases e; exact ho65)
 have hk90 := hk35.below hb41
 have hk91 := hk90.kept hg60 (by simp)
 have hk92 := hk91.kept hg71 (by simp; omega)
 have hk93 := hk24.below hb41
 have hk94 := hk93.kept hg60 (by simp)
 have hk95 := hk94.kept hg71 (by simp; omega)
 have ho96 := RsO.ofS hO89
 refine pw h79 rfl (op_call (args := #[pt dd 0, .string d.key, .int .u64 d.at_]) (R := fun res xw => res = .tuple #[.string ((atS (f d.key) d.at_).1), .bool ((atS (f d.key) d.at_).2)] ∧ Below w68.heap.size w68 xw) rfl rfl rfl (by kernel_rfl) (by kernel_rfl) (Try.call55 _ _) (rsGet w68 d.key d.at_ hO89 (by omega)) (by rintro e x ⟨rfl, h⟩; exact ⟨_, rfl, rfl, h⟩)) ?_; clear h79
 rintro _ w81 a80 ⟨rfl, hb97⟩ h80
 have hz98 := hb97.size
 have ho99 := RsO.ofS hO89
 refine pk0 (v := .tuple #[.string ((atS (f d.key) d.at_).1), .bool ((atS (f d.key) d.at_).2)]) h80 rfl fun a100 h100 => ?_; clear h80
 refine pk0 (v := .string ((atS (f d.key) d.at_).1)) h100 rfl fun a101 h101 => ?_; clear h100
 refine pk0 (v := .bool ((atS (f d.key) d.at_).2)) h101 rfl fun a102 h102 => ?_; clear h101
 refine pk0 (v := .string ((atS (f d.key) d.at_).1)) h102 rfl fun a103 h103 => ?_; clear h102
 refine pk0 (v := .bool ((atS (f d.key) d.at_).2)) h103 rfl fun a104 h104 => ?_; clear h103
 refine pl_nil ?_
 refine co_then ?_
 refine co_seq ?_
 refine co_reg ?_
 refine pk0 (v := .bool ((atS (f d.key) d.at_).2)) h104 rfl fun a105 h105 => ?_; clear h104
 refine pl_nil ?_
 refine co_then ?_
 have hB107 := hb_call hB87 hb97
 cases hc106 : ((atS (f d.key) d.at_).2)
 ·
  rw [hc106] at h105
  refine co_false h105 rfl ?_
  refine wp_skip ?_
  refine co_then ?_
  refine co_seq ?_
  refine co_reg ?_
  have hk108 := hk69'.below hb97
  refine pk (v := .agg #[.int .i64 10, .int .i64 0, .int .i64 d.rq, .int .i64 0, .bool false, .int .u64 d.at_, .int .u64 0, .int .i64 0, .int .i64 0, .int .i64 0, .int .i64 0, .string d.key, .string (⟨#[]⟩), .int .i64 0, .slice none 0 0, .int .u64 0, .int .i64 0, .int .i64 0, .slice none 0 0, .slice none 0 0, .slice none 0 0, .slice none 0 0]) h105 rfl (rn_loadN rfl rfl Try.underlying37 rfl (by kernel_rfl) hk108.all) fun a109 h109 => ?_; clear h105
  have hk115 := hk95.below hb97
  refine pwD h109 rfl (op_storeN rfl rfl rfl (all_cons rfl (all_cons rfl (all_cons rfl (all_cons rfl (all_cons rfl (all_cons rfl (all_cons rfl (all_cons rfl (all_cons rfl (all_cons rfl (all_cons rfl (all_cons rfl (all_cons rfl (all_cons rfl (all_cons rfl (all_cons rfl (all_cons rfl (all_cons rfl (all_cons rfl (all_cons rfl (all_cons rfl (all_cons rfl all_nil)))))))))))))))))))))) (by kernel_rfl) hk115 rfl) ?_; clear h109
  rintro _ w111 a110 ⟨hk112, hz113, hg114⟩ h110
  have hk112' : Blk w111 N22 37 #[.int .i64 10, .int .i64 0, .int .i64 d.rq, .int .i64 0, .bool false, .int .u64 d.at_, .int .u64 0, .int .i64 0, .int .i64 0, .int .i64 0, .int .i64 0, .string d.key, .string (⟨#[]⟩), .int .i64 0, .slice none 0 0, .int .u64 0, .int .i64 0, .int .i64 0, .slice none 0 0, .slice none 0 0, .slice none 0 0, .slice none 0 0] := hk112; clear hk112
  have hz116 := hg114.size
  refine pl_nil ?_
  refine co_then ?_
  refine wp_ret ?_
  refine co_retC (Q := fun _ _ _ => True) h110 rfl rfl hk112' Try.underlying37 rfl (by kernel_rfl) ?_
  have hB117 := hb_at hB107 hg114 (by omega)
  have hgg := get_n (f := f) (k := d.key) (t := d.at_) (by assumption)
  exact ⟨_, rfl, (row_eq (row_nilL _ _ _ _ _) hgg), hB117⟩
 ·
  rw [hc106] at h105
  refine co_true h105 rfl ?_
  refine co_reg ?_
  refine pk0 (v := pt N59 21) h105 rfl fun a118 h118 => ?_; clear h105
  have hk119 := hk69'.below hb97
  refine pk (v := .slice none 0 0) h118 rfl (rn_load1 rfl rfl Try.isAgg35 (hk119.cell rfl)) fun a120 h120 => ?_; clear h118
  refine pk0 (v := pt N12 11) h120 rfl fun a121 h121 => ?_; clear h120
  have hk122 := hk76.below hb97
  refine pk (v := .string d.key) h121 rfl (rn_load1 rfl rfl Try.isAgg9 (hk122.cell rfl)) fun a123 h123 => ?_; clear h121
  refine pk0 (v := .string ((atS (f d.key) d.at_).1)) h123 rfl fun a124 h124 => ?_; clear h123
  refine pk0 (v := .agg #[.string d.key, .string ((atS (f d.key) d.at_).1)]) h124 rfl fun a125 h125 => ?_; clear h124
  refine pw h125 rfl (op_new (v := fun N => .slice (some ⟨N, 0, none⟩) 1 1) (T := 88) (cs := #[.string d.key, .string ((atS (f d.key) d.at_).1)]) (by kernel_rfl) (by kernel_rfl) (by kernel_rfl)) ?_; clear h125
  rintro _ w127 a126 ⟨N128, rfl, hN131, hz132, hk130, hg129⟩ h126
  have hz133 := hg129.size
  have hO135 := RsO.gr hO89 (below_grown hb97) (fun k e => by cases e)
  have ho134 := off_new (RsO.ofS hO135) hN131
  try dsimp only at h126
  obtain ⟨base139, hb_base139⟩ : ∃ b, b = w127.heap.size := ⟨_, rfl⟩
  have hr138 := row_nilL w127 base139 88 2 pairE
  refine pw h126 rfl (op_append rfl base139 88 (z := .agg #[.string (⟨#[]⟩), .string (⟨#[]⟩)]) (size := 2) (bytes := 32) Try.underlying35 (by kernel_rfl) rfl rfl rfl hr138 rfl hk130 rfl (by kernel_rfl) (by first | omega | (simp only [List.length_nil, List.length_append, List.length_cons, List.length_take, List.length_drop]; omega)) (by first | omega | (simp only [List.length_nil, List.length_append, List.length_cons, List.length_take, List.length_drop]; omega)) (by omega)) ?_; clear h126
  rintro v140 w137 a136 ⟨hr141, hg142⟩ h136
  have hr141' : w137.ownsRow base139 88 2 v140 (([(d.key, (atS (f d.key) d.at_).1)]).length) (([(d.key, (atS (f d.key) d.at_).1)]).flatMap pairE) := row_push (l := []) (y := (d.key, (atS (f d.key) d.at_).1)) hr141 rfl rfl; clear hr141
  have hz144 := hg142.size
  refine pk0 (v := pt N59 21) h136 rfl fun a145 h145 => ?_; clear h136
  have hk151 := hk119.kept hg129 (by simp)
  have hk152 := hk151.kept hg142 (own_neT hr138 hk151 (by decide))
  refine pwD h145 rfl (op_store1 rfl rfl rfl (row_one hr141') Try.sizeOf35 hk152 rfl) ?_; clear h145
  rintro _ w147 a146 ⟨hk148, hz149, hg150⟩ h146
  have hk148' : Blk w147 N59 37 #[.int .i64 10, .int .i64 0, .int .i64 d.rq, .int .i64 0, .bool false, .int .u64 d.at_, .int .u64 0, .int .i64 0, .int .i64 0, .int .i64 0, .int .i64 0, .string d.key, .string (⟨#[]⟩), .int .i64 0, .slice none 0 0, .int .u64 0, .int .i64 0, .int .i64 0, .slice none 0 0, .slice none 0 0, .slice none 0 0, v140] := hk148; clear hk148
  have hz153 := hg150.size
  refine pl_nil ?_
  refine co_then ?_
  refine co_seq ?_
  refine co_reg ?_
  refine pk (v := .agg #[.int .i64 10, .int .i64 0, .int .i64 d.rq, .int .i64 0, .bool false, .int .u64 d.at_, .int .u64 0, .int .i64 0, .int .i64 0, .int .i64 0, .int .i64 0, .string d.key, .string (⟨#[]⟩), .int .i64 0, .slice none 0 0, .int .u64 0, .int .i64 0, .int .i64 0, .slice none 0 0, .slice none 0 0, .slice none 0 0, v140]) h146 rfl (rn_loadN rfl rfl Try.underlying37 rfl (by kernel_rfl) hk148'.all) fun a154 h154 => ?_; clear h146
  have hr160 := row_kept_at hr141' hg150 (own_neT hr141' hk152 (by decide))
  have hk161 := hk95.below hb97
  have hk162 := hk161.kept hg129 (by simp)
  have hk163 := hk162.kept hg142 (own_neT hr138 hk162 (by decide))
  have hk164 := hk163.kept hg150 (by simp; omega)
  refine pwD h154 rfl (op_storeN rfl rfl rfl (all_cons rfl (all_cons rfl (all_cons rfl (all_cons rfl (all_cons rfl (all_cons rfl (all_cons rfl (all_cons rfl (all_cons rfl (all_cons rfl (all_cons rfl (all_cons rfl (all_cons rfl (all_cons rfl (all_cons rfl (all_cons rfl (all_cons rfl (all_cons rfl (all_cons rfl (all_cons rfl (all_cons rfl (all_cons (row_one hr160) all_nil)))))))))))))))))))))) (by kernel_rfl) hk164 rfl) ?_; clear h154
  rintro _ w156 a155 ⟨hk157, hz158, hg159⟩ h155
  have hk157' : Blk w156 N22 37 #[.int .i64 10, .int .i64 0, .int .i64 d.rq, .int .i64 0, .bool false, .int .u64 d.at_, .int .u64 0, .int .i64 0, .int .i64 0, .int .i64 0, .int .i64 0, .string d.key, .string (⟨#[]⟩), .int .i64 0, .slice none 0 0, .int .u64 0, .int .i64 0, .int .i64 0, .slice none 0 0, .slice none 0 0, .slice none 0 0, v140] := hk157; clear hk157
  have hz165 := hg159.size
  refine pl_nil ?_
  refine co_then ?_
  refine wp_ret ?_
  refine co_retC (Q := fun _ _ _ => True) h155 rfl rfl hk157' Try.underlying37 rfl (by kernel_rfl) ?_
  have hr166 := row_kept_at hr160 hg159 (own_neT hr160 hk164 (by decide))
  have hB167 := hb_new hB107 hg129
  have hB168 := hb_row hB167 hr138 (by omega) hg142
  have hB169 := hb_at hB168 hg150 (by omega)
  have hB170 := hb_at hB169 hg159 (by omega)
  have hgg := get_y (f := f) (k := d.key) (t := d.at_) (by assumption)
  exact ⟨_, rfl, (row_eq (row_lows hr166 (by omega)) (by exact hgg)), hB170⟩
set_option maxRecDepth 100000 in
theorem r31ScanN_any (dd : Nat) (mk : Int) (hz : Int) (ep : Int) (hd : Int) (d : MsgD) (mv : Value) (bv : Value) (ev : Value) (sv : Value) (pv : Value) (w : World) (hm : SliceOf memE 2 w mv d.cms) (hb : SliceOf opE 3 w bv d.bl) (he : SliceOf entE 4 w ev d.en) (ht : SliceOf (intE .u64) 1 w sv d.st) (hp : SliceOf prE 2 w pv d.pr) (hbd : ¬ bdC d.at_ mk hz = 0) :
    Calls Try.prog 19 #[pt dd 0, .agg #[.int .u64 mk, .int .u64 hz, .int .i64 ep, .int .i64 hd], .agg #[.int .i64 d.k, .int .i64 d.ep, .int .i64 d.rq, .int .i64 d.sr, .bool d.fg, .int .u64 d.at_, .int .u64 d.la, .int .i64 d.n, .int .i64 d.m, .int .i64 d.p, .int .i64 d.e, .string d.key, .string d.to_, .int .i64 d.cep, mv, .int .u64 d.cfl, .int .i64 d.bc, .int .i64 d.br, bv, ev, sv, pv]] w fun e w' => e = .returned (.agg #[.int .i64 7, .int .i64 (mxI ep 0), .int .i64 d.rq, .int .i64 0, .bool false, .int .u64 0, .int .u64 0, .int .i64 (mxI hd 0), .int .i64 0, .int .i64 0, .int .i64 (bdC d.at_ mk hz), .string (⟨#[]⟩), .string (⟨#[]⟩), .int .i64 0, .slice none 0 0, .int .u64 0, .int .i64 0, .int .i64 0, .slice none 0 0, .slice none 0 0, .slice none 0 0, .slice none 0 0]) ∧ Below w.heap.size w w' := by
 have hB0 := Below.refl w.heap.size w
 have hl_hm := sl_len hm
 have hl_hb := sl_len hb
 have hl_he := sl_len he
 have hl_ht := sl_len ht
 have hl_hp := sl_len hp
 refine co_enter (n := 47) Try.func19 rfl rfl rfl [(0, pt dd 0), (1, .agg #[.int .u64 mk, .int .u64 hz, .int .i64 ep, .int .i64 hd]), (2, .agg #[.int .i64 d.k, .int .i64 d.ep, .int .i64 d.rq, .int .i64 d.sr, .bool d.fg, .int .u64 d.at_, .int .u64 d.la, .int .i64 d.n, .int .i64 d.m, .int .i64 d.p, .int .i64 d.e, .string d.key, .string d.to_, .int .i64 d.cep, mv, .int .u64 d.cfl, .int .i64 d.bc, .int .i64 d.br, bv, ev, sv, pv])] rfl (fun a h0 => ?_)
 refine co_seq ?_
 refine co_reg ?_
 refine pw h0 rfl (op_new (v := fun N => pt N 0) (T := 47) (cs := #[.int .u64 mk, .int .u64 hz, .int .i64 ep, .int .i64 hd]) (by kernel_rfl) (by kernel_rfl) (by kernel_rfl)) ?_; clear h0
 rintro _ w2 a1 ⟨N3, rfl, hN6, hz7, hk5, hg4⟩ h1
 have hz8 := hg4.size
 try dsimp only at h1
 refine pw h1 rfl (op_new (v := fun N => pt N 0) (T := 37) (cs := #[.int .i64 d.k, .int .i64 d.ep, .int .i64 d.rq, .int .i64 d.sr, .bool d.fg, .int .u64 d.at_, .int .u64 d.la, .int .i64 d.n, .int .i64 d.m, .int .i64 d.p, .int .i64 d.e, .string d.key, .string d.to_, .int .i64 d.cep, mv, .int .u64 d.cfl, .int .i64 d.bc, .int .i64 d.br, bv, ev, sv, pv]) (by kernel_rfl) (by kernel_rfl) (by kernel_rfl)) ?_; clear h1
 rintro _ w10 a9 ⟨N11, rfl, hN14, hz15, hk13, hg12⟩ h9
 have hz16 := hg12.size
 try dsimp only at h9
 refine pw h9 rfl (op_new (v := fun N => pt N 0) (T := 37) (cs := #[.int .i64 0, .int .i64 0, .int .i64 0, .int .i64 0, .bool false, .int .u64 0, .int .u64 0, .int .i64 0, .int .i64 0, .int .i64 0, .int .i64 0, .string (⟨#[]⟩), .string (⟨#[]⟩), .int .i64 0, .slice none 0 0, .int .u64 0, .int .i64 0, .int .i64 0, .slice none 0 0, .slice none 0 0, .slice none 0 0, .slice none 0 0]) (by kernel_rfl) (by kernel_rfl) (by kernel_rfl)) ?_; clear h9
 rintro _ w18 a17 ⟨N19, rfl, hN22, hz23, hk21, hg20⟩ h17
 have hz24 := hg20.size
 try dsimp only at h17
 refine pl_nil ?_
 refine co_then ?_
 refine co_seq ?_
 refine co_seq ?_
 refine co_reg ?_
 refine pk0 (v := pt N11 5) h17 rfl fun a25 h25 => ?_; clear h17
 have hk26 := hk13.kept hg20 (by simp)
 refine pk (v := .int .u64 d.at_) h25 rfl (rn_load1 rfl rfl Try.isAgg23 (hk26.cell rfl)) fun a27 h27 => ?_; clear h25
 refine pk0 (v := pt N3 0) h27 rfl fun a28 h28 => ?_; clear h27
 have hk29 := hk5.kept hg12 (by simp)
 have hk30 := hk29.kept hg20 (by simp)
 refine pk (v := .int .u64 mk) h28 rfl (rn_load1 rfl rfl Try.isAgg23 (hk30.cell rfl)) fun a31 h31 => ?_; clear h28
 refine pk0 (v := pt N3 1) h31 rfl fun a32 h32 => ?_; clear h31
 refine pk (v := .int .u64 hz) h32 rfl (rn_load1 rfl rfl Try.isAgg23 (hk30.cell rfl)) fun a33 h33 => ?_; clear h32
 refine pw h33 rfl (op_call (args := #[.int .u64 d.at_, .int .u64 mk, .int .u64 hz]) (R := fun res xw => res = .int .i64 (bdC d.at_ mk hz) ∧ Below w18.heap.size w18 xw) rfl rfl rfl (by kernel_rfl) (by kernel_rfl) (Try.call54 _ _) (rbd_any d.at_ mk hz w18 ) (by rintro e x ⟨rfl, hb36⟩; exact ⟨_, rfl, ⟨rfl, hb36⟩⟩)) ?_; clear h33
 rintro _ w35 a34 ⟨rfl, hb36⟩ h34
 have hz37 := hb36.size
 refine pk0 (v := .int .i64 (bdC d.at_ mk hz)) h34 rfl fun a38 h38 => ?_; clear h34
 refine pl_nil ?_
 refine co_then ?_
 refine co_seq ?_
 refine co_reg ?_
 refine pk0 (v := .int .i64 (bdC d.at_ mk hz)) h38 rfl fun a39 h39 => ?_; clear h38
 refine pk0 (v := .bool (bdC d.at_ mk hz != 0)) h39 rfl fun a40 h40 => ?_; clear h39
 refine pl_nil ?_
 refine co_then ?_
 have hc41 : (bdC d.at_ mk hz != 0) = true := by first | (simp; done) | (simp; omega) | exact beq_false_of_ne (by omega) | exact beq_iff_eq.2 (by omega)
 rw [hc41] at h40; clear hc41
 refine co_true h40 rfl ?_
 refine co_seq ?_
 refine co_reg ?_
 have hk42 := hk30.below hb36
 refine pk (v := .agg #[.int .u64 mk, .int .u64 hz, .int .i64 ep, .int .i64 hd]) h40 rfl (rn_loadN rfl rfl Try.underlying47 rfl (by kernel_rfl) hk42.all) fun a43 h43 => ?_; clear h40
 refine pk0 (v := pt N11 2) h43 rfl fun a44 h44 => ?_; clear h43
 have hk45 := hk26.below hb36
 refine pk (v := .int .i64 d.rq) h44 rfl (rn_load1 rfl rfl Try.isAgg3 (hk45.cell rfl)) fun a46 h46 => ?_; clear h44
 refine pk0 (v := .int .i64 (bdC d.at_ mk hz)) h46 rfl fun a47 h47 => ?_; clear h46
 refine pw h47 rfl (op_call (args := #[.agg #[.int .u64 mk, .int .u64 hz, .int .i64 ep, .int .i64 hd], .int .i64 d.rq, .int .i64 (bdC d.at_ mk hz)]) (R := fun res xw => res = .agg #[.int .i64 7, .int .i64 (mxI ep 0), .int .i64 d.rq, .int .i64 0, .bool false, .int .u64 0, .int .u64 0, .int .i64 (mxI hd 0), .int .i64 0, .int .i64 0, .int .i64 (bdC d.at_ mk hz), .string (⟨#[]⟩), .string (⟨#[]⟩), .int .i64 0, .slice none 0 0, .int .u64 0, .int .i64 0, .int .i64 0, .slice none 0 0, .slice none 0 0, .slice none 0 0, .slice none 0 0] ∧ Below w35.heap.size w35 xw) rfl rfl rfl (by kernel_rfl) (by kernel_rfl) (Try.call21 _ _) (r31No_any mk hz ep hd d.rq (bdC d.at_ mk hz) w35 ) (by rintro e x ⟨rfl, hb50⟩; exact ⟨_, rfl, ⟨rfl, hb50⟩⟩)) ?_; clear h47
 rintro _ w49 a48 ⟨rfl, hb50⟩ h48
 have hz51 := hb50.size
 have hk57 := hk21.below hb36
 have hk58 := hk57.below hb50
 refine pwD h48 rfl (op_storeN rfl rfl rfl (all_cons rfl (all_cons rfl (all_cons rfl (all_cons rfl (all_cons rfl (all_cons rfl (all_cons rfl (all_cons rfl (all_cons rfl (all_cons rfl (all_cons rfl (all_cons rfl (all_cons rfl (all_cons rfl (all_cons rfl (all_cons rfl (all_cons rfl (all_cons rfl (all_cons rfl (all_cons rfl (all_cons rfl (all_cons rfl all_nil)))))))))))))))))))))) (by kernel_rfl) hk58 rfl) ?_; clear h48
 rintro _ w53 a52 ⟨hk54, hz55, hg56⟩ h52
 have hk54' : Blk w53 N19 37 #[.int .i64 7, .int .i64 (mxI ep 0), .int .i64 d.rq, .int .i64 0, .bool false, .int .u64 0, .int .u64 0, .int .i64 (mxI hd 0), .int .i64 0, .int .i64 0, .int .i64 (bdC d.at_ mk hz), .string (⟨#[]⟩), .string (⟨#[]⟩), .int .i64 0, .slice none 0 0, .int .u64 0, .int .i64 0, .int .i64 0, .slice none 0 0, .slice none 0 0, .slice none 0 0, .slice none 0 0] := hk54; clear hk54
 have hz59 := hg56.size
 refine pl_nil ?_
 refine co_then ?_
 refine wp_ret ?_
 refine co_thenR ?_
 refine co_retC (Q := fun _ _ _ => True) h52 rfl rfl hk54' Try.underlying37 rfl (by kernel_rfl) ?_
 have hB60 := hb_new hB0 hg4
 have hB61 := hb_new hB60 hg12
 have hB62 := hb_new hB61 hg20
 have hB63 := hb_call hB62 hb36
 have hB64 := hb_call hB63 hb50
 have hB65 := hb_at hB64 hg56 (by omega)
 exact ⟨rfl, hB65⟩
set_option maxRecDepth 100000 in
theorem r31Scan_any (D : Nat → Prop) (dd : Nat) (f : Fv) (la : Int) (m : Nat) (mk : Int) (hz : Int) (ep : Int) (hd : Int) (d : MsgD) (mv : Value) (bv : Value) (ev : Value) (sv : Value) (pv : Value) (w : World) (hRs : RsO D w dd f la m) (hm : m ≤ 100) (hm : SliceOf memE 2 w mv d.cms) (hb : SliceOf opE 3 w bv d.bl) (he : SliceOf entE 4 w ev d.en) (ht : SliceOf (intE .u64) 1 w sv d.st) (hp : SliceOf prE 2 w pv d.pr) (hbd : bdC d.at_ mk hz = 0) (hn : -9223372036854775808 ≤ d.n ∧ d.n ≤ 9223372036854775807) :
    Calls Try.prog 19 #[pt dd 0, .agg #[.int .u64 mk, .int .u64 hz, .int .i64 ep, .int .i64 hd], .agg #[.int .i64 d.k, .int .i64 d.ep, .int .i64 d.rq, .int .i64 d.sr, .bool d.fg, .int .u64 d.at_, .int .u64 d.la, .int .i64 d.n, .int .i64 d.m, .int .i64 d.p, .int .i64 d.e, .string d.key, .string d.to_, .int .i64 d.cep, mv, .int .u64 d.cfl, .int .i64 d.bc, .int .i64 d.br, bv, ev, sv, pv]] w fun e w' => ∃ (u : Value), e = .returned (.agg #[.int .i64 10, .int .i64 0, .int .i64 d.rq, .int .i64 0, .bool (scanM (hitsF f d.at_ d.key d.to_) (mnI d.n 32)), .int .u64 d.at_, .int .u64 0, .int .i64 0, .int .i64 0, .int .i64 0, .int .i64 0, .string d.key, .string (⟨#[]⟩), .int .i64 0, .slice none 0 0, .int .u64 0, .int .i64 0, .int .i64 0, .slice none 0 0, .slice none 0 0, .slice none 0 0, u]) ∧ w'.ownsRow w.heap.size 88 2 u (scanL (hitsF f d.at_ d.key d.to_) (mnI d.n 32)).length ((scanL (hitsF f d.at_ d.key d.to_) (mnI d.n 32)).flatMap pairE) ∧ Below w.heap.size w w' := by
 have hB0 := Below.refl w.heap.size w
 have hl_hm := sl_len hm
 have hl_hb := sl_len hb
 have hl_he := sl_len he
 have hl_ht := sl_len ht
 have hl_hp := sl_len hp
 have hoD := RsO.ofS hRs
 refine co_enter (n := 47) Try.func19 rfl rfl rfl [(0, pt dd 0), (1, .agg #[.int .u64 mk, .int .u64 hz, .int .i64 ep, .int .i64 hd]), (2, .agg #[.int .i64 d.k, .int .i64 d.ep, .int .i64 d.rq, .int .i64 d.sr, .bool d.fg, .int .u64 d.at_, .int .u64 d.la, .int .i64 d.n, .int .i64 d.m, .int .i64 d.p, .int .i64 d.e, .string d.key, .string d.to_, .int .i64 d.cep, mv, .int .u64 d.cfl, .int .i64 d.bc, .int .i64 d.br, bv, ev, sv, pv])] rfl (fun a h0 => ?_)
 refine co_seq ?_
 refine co_reg ?_
 refine pw h0 rfl (op_new (v := fun N => pt N 0) (T := 47) (cs := #[.int .u64 mk, .int .u64 hz, .int .i64 ep, .int .i64 hd]) (by kernel_rfl) (by kernel_rfl) (by kernel_rfl)) ?_; clear h0
 rintro _ w2 a1 ⟨N3, rfl, hN6, hz7, hk5, hg4⟩ h1
 have hz8 := hg4.size
 have ho9 := off_new (RsO.ofS hRs) hN6
 try dsimp only at h1
 refine pw h1 rfl (op_new (v := fun N => pt N 0) (T := 37) (cs := #[.int .i64 d.k, .int .i64 d.ep, .int .i64 d.rq, .int .i64 d.sr, .bool d.fg, .int .u64 d.at_, .int .u64 d.la, .int .i64 d.n, .int .i64 d.m, .int .i64 d.p, .int .i64 d.e, .string d.key, .string d.to_, .int .i64 d.cep, mv, .int .u64 d.cfl, .int .i64 d.bc, .int .i64 d.br, bv, ev, sv, pv]) (by kernel_rfl) (by kernel_rfl) (by kernel_rfl)) ?_; clear h1
 rintro _ w11 a10 ⟨N12, rfl, hN15, hz16, hk14, hg13⟩ h10
 have hz17 := hg13.size
 have hO19 := RsO.gr hRs hg4 (fun k e => by cases e)
 have ho18 := off_new (RsO.ofS hO19) hN15
 try dsimp only at h10
 refine pw h10 rfl (op_new (v := fun N => pt N 0) (T := 37) (cs := #[.int .i64 0, .int .i64 0, .int .i64 0, .int .i64 0, .bool false, .int .u64 0, .int .u64 0, .int .i64 0, .int .i64 0, .int .i64 0, .int .i64 0, .string (⟨#[]⟩), .string (⟨#[]⟩), .int .i64 0, .slice none 0 0, .int .u64 0, .int .i64 0, .int .i64 0, .slice none 0 0, .slice none 0 0, .slice none 0 0, .slice none 0 0]) (by kernel_rfl) (by kernel_rfl) (by kernel_rfl)) ?_; clear h10
 rintro _ w21 a20 ⟨N22, rfl, hN25, hz26, hk24, hg23⟩ h20
 have hz27 := hg23.size
 have hO29 := RsO.gr hO19 hg13 (fun k e => by cases e)
 have ho28 := off_new (RsO.ofS hO29) hN25
 try dsimp only at h20
 refine pl_nil ?_
 refine co_then ?_
 refine co_seq ?_
 refine co_seq ?_
 refine co_reg ?_
 refine pk0 (v := pt N12 5) h20 rfl fun a30 h30 => ?_; clear h20
 have hk31 := hk14.kept hg23 (by simp)
 refine pk (v := .int .u64 d.at_) h30 rfl (rn_load1 rfl rfl Try.isAgg23 (hk31.cell rfl)) fun a32 h32 => ?_; clear h30
 refine pk0 (v := pt N3 0) h32 rfl fun a33 h33 => ?_; clear h32
 have hk34 := hk5.kept hg13 (by simp)
 have hk35 := hk34.kept hg23 (by simp)
 refine pk (v := .int .u64 mk) h33 rfl (rn_load1 rfl rfl Try.isAgg23 (hk35.cell rfl)) fun a36 h36 => ?_; clear h33
 refine pk0 (v := pt N3 1) h36 rfl fun a37 h37 => ?_; clear h36
 refine pk (v := .int .u64 hz) h37 rfl (rn_load1 rfl rfl Try.isAgg23 (hk35.cell rfl)) fun a38 h38 => ?_; clear h37
 refine pw h38 rfl (op_call (args := #[.int .u64 d.at_, .int .u64 mk, .int .u64 hz]) (R := fun res xw => res = .int .i64 (bdC d.at_ mk hz) ∧ Below w21.heap.size w21 xw) rfl rfl rfl (by kernel_rfl) (by kernel_rfl) (Try.call54 _ _) (rbd_any d.at_ mk hz w21 ) (by rintro e x ⟨rfl, hb41⟩; exact ⟨_, rfl, ⟨rfl, hb41⟩⟩)) ?_; clear h38
 rintro _ w40 a39 ⟨rfl, hb41⟩ h39
 have hz42 := hb41.size
 have hO44 := RsO.gr hO29 hg23 (fun k e => by cases e)
 have ho43 := RsO.ofS hO44
 refine pk0 (v := .int .i64 (bdC d.at_ mk hz)) h39 rfl fun a45 h45 => ?_; clear h39
 refine pl_nil ?_
 refine co_then ?_
 refine co_seq ?_
 refine co_reg ?_
 refine pk0 (v := .int .i64 (bdC d.at_ mk hz)) h45 rfl fun a46 h46 => ?_; clear h45
 refine pk0 (v := .bool (bdC d.at_ mk hz != 0)) h46 rfl fun a47 h47 => ?_; clear h46
 refine pl_nil ?_
 refine co_then ?_
 have hc48 : (bdC d.at_ mk hz != 0) = false := by first | (simp; done) | (simp; omega) | exact beq_false_of_ne (by omega) | exact beq_iff_eq.2 (by omega)
 rw [hc48] at h47; clear hc48
 refine co_false h47 rfl ?_
 refine wp_skip ?_
 refine co_then ?_
 refine co_seq ?_
 refine co_reg ?_
 refine pk0 (v := pt N12 2) h47 rfl fun a49 h49 => ?_; clear h47
 have hk50 := hk31.below hb41
 refine pk (v := .int .i64 d.rq) h49 rfl (rn_load1 rfl rfl Try.isAgg3 (hk50.cell rfl)) fun a51 h51 => ?_; clear h49
 refine pk0 (v := pt N12 11) h51 rfl fun a52 h52 => ?_; clear h51
 refine pk (v := .string d.key) h52 rfl (rn_load1 rfl rfl Try.isAgg9 (hk50.cell rfl)) fun a53 h53 => ?_; clear h52
 refine pk0 (v := pt N12 5) h53 rfl fun a54 h54 => ?_; clear h53
 refine pk (v := .int .u64 d.at_) h54 rfl (rn_load1 rfl rfl Try.isAgg23 (hk50.cell rfl)) fun a55 h55 => ?_; clear h54
 refine pk0 (v := .agg #[.int .i64 10, .int .i64 0, .int .i64 d.rq, .int .i64 0, .bool false, .int .u64 d.at_, .int .u64 0, .int .i64 0, .int .i64 0, .int .i64 0, .int .i64 0, .string d.key, .string (⟨#[]⟩), .int .i64 0, .slice none 0 0, .int .u64 0, .int .i64 0, .int .i64 0, .slice none 0 0, .slice none 0 0, .slice none 0 0, .slice none 0 0]) h55 rfl fun a56 h56 => ?_; clear h55
 refine pw h56 rfl (op_new (v := fun N => pt N 0) (T := 37) (cs := #[.int .i64 0, .int .i64 0, .int .i64 0, .int .i64 0, .bool false, .int .u64 0, .int .u64 0, .int .i64 0, .int .i64 0, .int .i64 0, .int .i64 0, .string (⟨#[]⟩), .string (⟨#[]⟩), .int .i64 0, .slice none 0 0, .int .u64 0, .int .i64 0, .int .i64 0, .slice none 0 0, .slice none 0 0, .slice none 0 0, .slice none 0 0]) (by kernel_rfl) (by kernel_rfl) (by kernel_rfl)) ?_; clear h56
 rintro _ w58 a57 ⟨N59, rfl, hN62, hz63, hk61, hg60⟩ h57
 have hz64 := hg60.size
 have hO66 := RsO.gr hO44 (below_grown hb41) (fun k e => by cases e)
 have ho65 := off_new (RsO.ofS hO66) hN62
 try dsimp only at h57
 refine pwD h57 rfl (op_storeN rfl rfl rfl (all_cons rfl (all_cons rfl (all_cons rfl (all_cons rfl (all_cons rfl (all_cons rfl (all_cons rfl (all_cons rfl (all_cons rfl (all_cons rfl (all_cons rfl (all_cons rfl (all_cons rfl (all_cons rfl (all_cons rfl (all_cons rfl (all_cons rfl (all_cons rfl (all_cons rfl (all_cons rfl (all_cons rfl (all_cons rfl all_nil)))))))))))))))))))))) (by kernel_rfl) hk61 rfl) ?_; clear h57
 rintro _ w68 a67 ⟨hk69, hz70, hg71⟩ h67
 have hk69' : Blk w68 N59 37 #[.int .i64 10, .int .i64 0, .int .i64 d.rq, .int .i64 0, .bool false, .int .u64 d.at_, .int .u64 0, .int .i64 0, .int .i64 0, .int .i64 0, .int .i64 0, .string d.key, .string (⟨#[]⟩), .int .i64 0, .slice none 0 0, .int .u64 0, .int .i64 0, .int .i64 0, .slice none 0 0, .slice none 0 0, .slice none 0 0, .slice none 0 0] := hk69; clear hk69
 have hz72 := hg71.size
 refine pl_nil ?_
 refine co_then ?_
 refine co_seq ?_
 refine co_reg ?_
 refine pk0 (v := pt dd 0) h67 rfl fun a73 h73 => ?_; clear h67
 refine pk0 (v := pt N12 11) h73 rfl fun a74 h74 => ?_; clear h73
 have hk75 := hk50.kept hg60 (by simp)
 have hk76 := hk75.kept hg71 (by simp; omega)
 refine pk (v := .string d.key) h74 rfl (rn_load1 rfl rfl Try.isAgg9 (hk76.cell rfl)) fun a77 h77 => ?_; clear h74
 refine pk0 (v := pt N12 12) h77 rfl fun a78 h78 => ?_; clear h77
 refine pk (v := .string d.to_) h78 rfl (rn_load1 rfl rfl Try.isAgg9 (hk76.cell rfl)) fun a79 h79 => ?_; clear h78
 refine pk0 (v := pt N12 5) h79 rfl fun a80 h80 => ?_; clear h79
 refine pk (v := .int .u64 d.at_) h80 rfl (rn_load1 rfl rfl Try.isAgg23 (hk76.cell rfl)) fun a81 h81 => ?_; clear h80
 refine pk0 (v := pt N12 7) h81 rfl fun a82 h82 => ?_; clear h81
 refine pk (v := .int .i64 d.n) h82 rfl (rn_load1 rfl rfl Try.isAgg3 (hk76.cell rfl)) fun a83 h83 => ?_; clear h82
 have hmm84 := mnI_p d.n 32
 refine pk0 (v := .int .i64 (mnI d.n 32)) h83 rfl fun a85 h85 => ?_; clear h83
 have hB88 := hb_new hB0 hg4
 have hB89 := hb_new hB88 hg13
 have hB90 := hb_new hB89 hg23
 have hB91 := hb_call hB90 hb41
 have hB92 := hb_new hB91 hg60
 have hB93 := hb_at hB92 hg71 (by omega)
 have hO94 := RsO.gr hO66 hg60 (fun k e => by cases e)
 have hO95 := RsO.gr hO94 hg71 (fun k e => by cases e; exact ho65)
 have hk96 := hk35.below hb41
 have hk97 := hk96.kept hg60 (by simp)
 have hk98 := hk97.kept hg71 (by simp; omega)
 have hk99 := hk24.below hb41
 have hk100 := hk99.kept hg60 (by simp)
 have hk101 := hk100.kept hg71 (by simp; omega)
 have ho102 := RsO.ofS hO95
 refine pw h85 rfl (op_call (args := #[pt dd 0, .string d.key, .string d.to_, .int .u64 d.at_, .int .i64 (mnI d.n 32)]) (R := fun res xw => ∃ (ao : Option Addr) (nn cap : Nat), res = .tuple #[.slice ao nn cap, .bool (scanM (hitsF f d.at_ d.key d.to_) (mnI d.n 32))] ∧ xw.ownsRow w68.heap.size 88 2 (.slice ao nn cap) (scanL (hitsF f d.at_ d.key d.to_) (mnI d.n 32)).length ((scanL (hitsF f d.at_ d.key d.to_) (mnI d.n 32)).flatMap pairE) ∧ Below w68.heap.size w68 xw) rfl rfl rfl (by kernel_rfl) (by kernel_rfl) (Try.call58 _ _) (rsScan w68 d.key d.to_ d.at_ (mnI d.n 32) hO95 (by omega) (by omega)) (by rintro e x ⟨u, h0, h⟩; obtain ⟨ao, nn, cap, rfl⟩ := own_sliceT h.1; exact ⟨_, h0, ao, nn, cap, rfl, h⟩)) ?_; clear h85
 rintro _ w87 a86 ⟨ao103, nn104, cp105, rfl, hr106, hb107⟩ h86
 have hz108 := hb107.size
 have ho109 := RsO.ofS hO95
 refine pk0 (v := .tuple #[.slice ao103 nn104 cp105, .bool (scanM (hitsF f d.at_ d.key d.to_) (mnI d.n 32))]) h86 rfl fun a110 h110 => ?_; clear h86
 refine pk0 (v := .slice ao103 nn104 cp105) h110 rfl fun a111 h111 => ?_; clear h110
 refine pk0 (v := .bool (scanM (hitsF f d.at_ d.key d.to_) (mnI d.n 32))) h111 rfl fun a112 h112 => ?_; clear h111
 refine pk0 (v := pt N59 21) h112 rfl fun a113 h113 => ?_; clear h112
 have hk119 := hk69'.below hb107
 refine pwD h113 rfl (op_store1 rfl rfl rfl rfl Try.sizeOf35 hk119 rfl) ?_; clear h113
 rintro _ w115 a114 ⟨hk116, hz117, hg118⟩ h114
 have hk116' : Blk w115 N59 37 #[.int .i64 10, .int .i64 0, .int .i64 d.rq, .int .i64 0, .bool false, .int .u64 d.at_, .int .u64 0, .int .i64 0, .int .i64 0, .int .i64 0, .int .i64 0, .string d.key, .string (⟨#[]⟩), .int .i64 0, .slice none 0 0, .int .u64 0, .int .i64 0, .int .i64 0, .slice none 0 0, .slice none 0 0, .slice none 0 0, .slice ao103 nn104 cp105] := hk116; clear hk116
 have hz120 := hg118.size
 refine pk0 (v := pt N59 4) h114 rfl fun a121 h121 => ?_; clear h114
 refine pwD h121 rfl (op_store1 rfl rfl rfl rfl Try.sizeOf4 hk116' rfl) ?_; clear h121
 rintro _ w123 a122 ⟨hk124, hz125, hg126⟩ h122
 have hk124' : Blk w123 N59 37 #[.int .i64 10, .int .i64 0, .int .i64 d.rq, .int .i64 0, .bool (scanM (hitsF f d.at_ d.key d.to_) (mnI d.n 32)), .int .u64 d.at_, .int .u64 0, .int .i64 0, .int .i64 0, .int .i64 0, .int .i64 0, .string d.key, .string (⟨#[]⟩), .int .i64 0, .slice none 0 0, .int .u64 0, .int .i64 0, .int .i64 0, .slice none 0 0, .slice none 0 0, .slice none 0 0, .slice ao103 nn104 cp105] := hk124; clear hk124
 have hz127 := hg126.size
 refine pl_nil ?_
 refine co_then ?_
 refine co_seq ?_
 refine co_reg ?_
 refine pk (v := .agg #[.int .i64 10, .int .i64 0, .int .i64 d.rq, .int .i64 0, .bool (scanM (hitsF f d.at_ d.key d.to_) (mnI d.n 32)), .int .u64 d.at_, .int .u64 0, .int .i64 0, .int .i64 0, .int .i64 0, .int .i64 0, .string d.key, .string (⟨#[]⟩), .int .i64 0, .slice none 0 0, .int .u64 0, .int .i64 0, .int .i64 0, .slice none 0 0, .slice none 0 0, .slice none 0 0, .slice ao103 nn104 cp105]) h122 rfl (rn_loadN rfl rfl Try.underlying37 rfl (by kernel_rfl) hk124'.all) fun a128 h128 => ?_; clear h122
 have hk134 := hk101.below hb107
 have hk135 := hk134.kept hg118 (by simp; omega)
 have hk136 := hk135.kept hg126 (by simp; omega)
 refine pwD h128 rfl (op_storeN rfl rfl rfl (all_cons rfl (all_cons rfl (all_cons rfl (all_cons rfl (all_cons rfl (all_cons rfl (all_cons rfl (all_cons rfl (all_cons rfl (all_cons rfl (all_cons rfl (all_cons rfl (all_cons rfl (all_cons rfl (all_cons rfl (all_cons rfl (all_cons rfl (all_cons rfl (all_cons rfl (all_cons rfl (all_cons rfl (all_cons rfl all_nil)))))))))))))))))))))) (by kernel_rfl) hk136 rfl) ?_; clear h128
 rintro _ w130 a129 ⟨hk131, hz132, hg133⟩ h129
 have hk131' : Blk w130 N22 37 #[.int .i64 10, .int .i64 0, .int .i64 d.rq, .int .i64 0, .bool (scanM (hitsF f d.at_ d.key d.to_) (mnI d.n 32)), .int .u64 d.at_, .int .u64 0, .int .i64 0, .int .i64 0, .int .i64 0, .int .i64 0, .string d.key, .string (⟨#[]⟩), .int .i64 0, .slice none 0 0, .int .u64 0, .int .i64 0, .int .i64 0, .slice none 0 0, .slice none 0 0, .slice none 0 0, .slice ao103 nn104 cp105] := hk131; clear hk131
 have hz137 := hg133.size
 refine pl_nil ?_
 refine co_then ?_
 refine wp_ret ?_
 refine co_retC (Q := fun _ _ _ => True) h129 rfl rfl hk131' Try.underlying37 rfl (by kernel_rfl) ?_
 have hr138 := row_kept_at hr106 hg118 (own_neT hr106 hk119 (by decide))
 have hr139 := row_kept_at hr138 hg126 (own_neT hr138 hk116' (by decide))
 have hr140 := row_kept_at hr139 hg133 (own_neT hr139 hk136 (by decide))
 have hB141 := hb_call hB93 hb107
 have hB142 := hb_at hB141 hg118 (by omega)
 have hB143 := hb_at hB142 hg126 (by omega)
 have hB144 := hb_at hB143 hg133 (by omega)
 exact ⟨_, rfl, (row_lows hr140 (by omega)), hB144⟩
end Go.Proofs.Ytbjbcbbhmbpndaa

/- The document's own messages: what is wrong with a part. Conditions: none. -/
namespace Go.Proofs.Ytbjbcbbhmbpndaa
open Go.RowKit Go.PlainAid
set_option linter.unusedVariables false


/-- The document's letters. -/
def plet (c : Int) : Int := if c = 114 then 113 else if c = 69 then 76 else c
theorem pl_114 {c : Int} (h : c = 114) : plet c = 113 := by unfold plet; rw [if_pos h]
theorem pl_69 {c : Int} (h : c = 69) : plet c = 76 := by unfold plet; rw [if_neg (by omega), if_pos h]
theorem pl_o {c : Int} (h : ¬ c = 114) (h1 : ¬ c = 69) : plet c = c := by unfold plet; rw [if_neg h, if_neg h1]
def dlet (c : UInt8) : UInt8 := if c = 113 then 114 else if c = 76 then 69 else c
def rL (k : Int) : List UInt8 := if 1 ≤ k ∧ k ≤ 15 then (ptL k).map dlet else [63]
def rstr (k : Int) : ByteArray := ⟨(rL k).toArray⟩
theorem rstr_len (k : Int) : (rstr k).size = (rL k).length := by simp [rstr, ByteArray.size]
theorem rL_len {k : Int} (h : 1 ≤ k ∧ k ≤ 15) : (rL k).length = (ptL k).length := by unfold rL; rw [if_pos h]; simp
theorem u8_ne {c e : UInt8} (h : c ≠ e) : ((c.toNat : Nat) : Int) ≠ ((e.toNat : Nat) : Int) := fun q => h (UInt8.toNat.inj (by omega))
theorem dlet_back (c : UInt8) (h1 : c ≠ 114) (h2 : c ≠ 69) : plet ((dlet c).toNat : Int) = ((c.toNat : Nat) : Int) := by
  unfold dlet
  split
  · rename_i h; subst h; rfl
  split
  · rename_i h; subst h; rfl
  · exact pl_o (c := ((c.toNat : Nat) : Int)) (u8_ne (e := 114) h1) (u8_ne (e := 69) h2)
theorem ptL_no (k : Int) : (ptL k).all (fun c => decide (c ≠ 114) && decide (c ≠ 69)) = true := by
  unfold ptL
  repeat' split
  all_goals rfl
theorem plet_dlet {k : Int} {c : UInt8} (h : c ∈ ptL k) : plet ((dlet c).toNat : Int) = ((c.toNat : Nat) : Int) := by
  have := List.all_eq_true.1 (ptL_no k) c h
  simp only [Bool.and_eq_true, decide_eq_true_eq] at this
  exact dlet_back c this.1 this.2
theorem ptL_small (k : Int) : (ptL k).length ≤ 7 := by
  unfold ptL
  repeat' split
  all_goals decide
theorem rstr_small (k : Int) : (rstr k).size ≤ 7 := by
  rw [rstr_len]; unfold rL
  split
  · rw [List.length_map]; exact ptL_small k
  · decide
theorem dlet_no (c : UInt8) : (dlet c).toNat ≠ 113 ∧ (dlet c).toNat ≠ 76 := by
  unfold dlet
  split
  · decide
  split
  · decide
  · rename_i h1 h2; exact ⟨fun e => h1 (UInt8.toNat.inj e), fun e => h2 (UInt8.toNat.inj e)⟩
theorem byteAt_rstr {k : Int} {i : Nat} (hk : 1 ≤ k ∧ k ≤ 15) (h : i < (rstr k).size) : ∃ c, (ptL k)[i]? = some c ∧ plet (byteAt (rstr k) i) = ((c.toNat : Nat) : Int) ∧ byteAt (rstr k) i ≠ 113 ∧ byteAt (rstr k) i ≠ 76 := by
  have h' : i < (ptL k).length := by rw [rstr_len, rL_len hk] at h; exact h
  have e : byteAt (rstr k) i = ((dlet (ptL k)[i]).toNat : Int) := by
    unfold byteAt rstr rL
    rw [if_pos hk]; simp [h']
  refine ⟨(ptL k)[i], List.getElem?_eq_getElem h', ?_, ?_⟩
  · rw [e]; exact plet_dlet (List.getElem_mem h')
  · have := dlet_no (ptL k)[i]; rw [e]; omega
theorem rstr_q {k : Int} (h : 1 ≤ k ∧ k ≤ 15) : ¬ (rstr k).toList = (⟨#[63]⟩ : ByteArray).toList := by
  rcases (show k = 1 ∨ k = 2 ∨ k = 3 ∨ k = 4 ∨ k = 5 ∨ k = 6 ∨ k = 7 ∨ k = 8 ∨ k = 9 ∨ k = 10 ∨ k = 11 ∨ k = 12 ∨ k = 13 ∨ k = 14 ∨ k = 15 by omega) with e | e | e | e | e | e | e | e | e | e | e | e | e | e | e <;> subst e <;> decide +kernel
theorem rstr_n {k : Int} (h : ¬ (1 ≤ k ∧ k ≤ 15)) : rstr k = (⟨#[63]⟩ : ByteArray) := by unfold rstr rL; rw [if_neg h]
theorem cS_all {l : List Int} : chkF chkSt l = 0 := by
  induction l with
  | nil => rfl
  | cons x r ih => unfold chkF; rw [if_neg (by simp [chkSt])]; exact ih

set_option maxRecDepth 100000 in
theorem rmParts_any (k : Int) (w : World)  :
    Calls Try.prog 72 #[.int .i64 k] w fun e w' => e = .returned (.string (rstr k)) ∧ Below w.heap.size w w' := by
 have hB0 := Below.refl w.heap.size w
 refine co_enter (n := 31) Try.func72 rfl rfl rfl [(0, .int .i64 k)] rfl (fun a h0 => ?_)
 refine co_seq ?_
 refine co_reg ?_
 refine pk0 (v := .string (⟨#[]⟩)) h0 rfl fun a1 h1 => ?_; clear h0
 refine pl_nil ?_
 refine co_then ?_
 refine co_seq ?_
 refine co_seq ?_
 refine co_reg ?_
 refine pk0 (v := .int .i64 k) h1 rfl fun a2 h2 => ?_; clear h1
 refine pl_nil ?_
 refine co_then ?_
 refine wp_block ?_
 refine co_seq ?_
 refine co_reg ?_
 refine pk0 (v := .bool (k == 1)) h2 rfl fun a3 h3 => ?_; clear h2
 refine pk0 (v := .bool (k == 1)) h3 rfl fun a4 h4 => ?_; clear h3
 refine pl_nil ?_
 refine co_then ?_
 cases hc5 : (k == 1)
 ·
  rw [hc5] at h4
  have hp6 : ¬ (k = 1) := by first | simpa using hc5 | simpa [and_assoc] using hc5
  clear hc5
  refine co_false h4 rfl ?_
  refine co_seq ?_
  refine co_reg ?_
  refine pk0 (v := .bool (k == 2)) h4 rfl fun a7 h7 => ?_; clear h4
  refine pk0 (v := .bool (k == 2)) h7 rfl fun a8 h8 => ?_; clear h7
  refine pl_nil ?_
  refine co_then ?_
  cases hc9 : (k == 2)
  ·
   rw [hc9] at h8
   have hp10 : ¬ (k = 2) := by first | simpa using hc9 | simpa [and_assoc] using hc9
   clear hc9
   refine co_false h8 rfl ?_
   refine co_seq ?_
   refine co_reg ?_
   refine pk0 (v := .bool (k == 3)) h8 rfl fun a11 h11 => ?_; clear h8
   refine pk0 (v := .bool (k == 3)) h11 rfl fun a12 h12 => ?_; clear h11
   refine pl_nil ?_
   refine co_then ?_
   cases hc13 : (k == 3)
   ·
    rw [hc13] at h12
    have hp14 : ¬ (k = 3) := by first | simpa using hc13 | simpa [and_assoc] using hc13
    clear hc13
    refine co_false h12 rfl ?_
    refine co_seq ?_
    refine co_reg ?_
    refine pk0 (v := .bool (k == 4)) h12 rfl fun a15 h15 => ?_; clear h12
    refine pk0 (v := .bool (k == 4)) h15 rfl fun a16 h16 => ?_; clear h15
    refine pl_nil ?_
    refine co_then ?_
    cases hc17 : (k == 4)
    ·
     rw [hc17] at h16
     have hp18 : ¬ (k = 4) := by first | simpa using hc17 | simpa [and_assoc] using hc17
     clear hc17
     refine co_false h16 rfl ?_
     refine co_seq ?_
     refine co_reg ?_
     refine pk0 (v := .bool (k == 5)) h16 rfl fun a19 h19 => ?_; clear h16
     refine pk0 (v := .bool (k == 5)) h19 rfl fun a20 h20 => ?_; clear h19
     refine pl_nil ?_
     refine co_then ?_
     cases hc21 : (k == 5)
     ·
      rw [hc21] at h20
      have hp22 : ¬ (k = 5) := by first | simpa using hc21 | simpa [and_assoc] using hc21
      clear hc21
      refine co_false h20 rfl ?_
      refine co_seq ?_
      refine co_seq ?_
      refine co_reg ?_
      refine pk0 (v := .bool (k == 6)) h20 rfl fun a23 h23 => ?_; clear h20
      refine pk0 (v := .bool (k == 6)) h23 rfl fun a24 h24 => ?_; clear h23
      refine pl_nil ?_
      refine co_then ?_
      cases hc25 : (k == 6)
      ·
       rw [hc25] at h24
       have hp26 : ¬ (k = 6) := by first | simpa using hc25 | simpa [and_assoc] using hc25
       clear hc25
       refine co_false h24 rfl ?_
       refine co_reg ?_
       refine pk0 (v := .bool (k == 11)) h24 rfl fun a27 h27 => ?_; clear h24
       refine pk0 (v := .bool (k == 11)) h27 rfl fun a28 h28 => ?_; clear h27
       refine pl_nil ?_
       refine co_then ?_
       cases hc29 : (k == 11)
       ·
        rw [hc29] at h28
        have hp30 : ¬ (k = 11) := by first | simpa using hc29 | simpa [and_assoc] using hc29
        clear hc29
        refine co_false h28 rfl ?_
        refine co_seq ?_
        refine co_reg ?_
        refine pk0 (v := .bool (k == 7)) h28 rfl fun a31 h31 => ?_; clear h28
        refine pk0 (v := .bool (k == 7)) h31 rfl fun a32 h32 => ?_; clear h31
        refine pl_nil ?_
        refine co_then ?_
        cases hc33 : (k == 7)
        ·
         rw [hc33] at h32
         have hp34 : ¬ (k = 7) := by first | simpa using hc33 | simpa [and_assoc] using hc33
         clear hc33
         refine co_false h32 rfl ?_
         refine co_seq ?_
         refine co_reg ?_
         refine pk0 (v := .bool (k == 8)) h32 rfl fun a35 h35 => ?_; clear h32
         refine pk0 (v := .bool (k == 8)) h35 rfl fun a36 h36 => ?_; clear h35
         refine pl_nil ?_
         refine co_then ?_
         cases hc37 : (k == 8)
         ·
          rw [hc37] at h36
          have hp38 : ¬ (k = 8) := by first | simpa using hc37 | simpa [and_assoc] using hc37
          clear hc37
          refine co_false h36 rfl ?_
          refine co_seq ?_
          refine co_reg ?_
          refine pk0 (v := .bool (k == 9)) h36 rfl fun a39 h39 => ?_; clear h36
          refine pk0 (v := .bool (k == 9)) h39 rfl fun a40 h40 => ?_; clear h39
          refine pl_nil ?_
          refine co_then ?_
          cases hc41 : (k == 9)
          ·
           rw [hc41] at h40
           have hp42 : ¬ (k = 9) := by first | simpa using hc41 | simpa [and_assoc] using hc41
           clear hc41
           refine co_false h40 rfl ?_
           refine co_seq ?_
           refine co_reg ?_
           refine pk0 (v := .bool (k == 10)) h40 rfl fun a43 h43 => ?_; clear h40
           refine pk0 (v := .bool (k == 10)) h43 rfl fun a44 h44 => ?_; clear h43
           refine pl_nil ?_
           refine co_then ?_
           cases hc45 : (k == 10)
           ·
            rw [hc45] at h44
            have hp46 : ¬ (k = 10) := by first | simpa using hc45 | simpa [and_assoc] using hc45
            clear hc45
            refine co_false h44 rfl ?_
            refine co_seq ?_
            refine co_seq ?_
            refine co_reg ?_
            refine pk0 (v := .bool (k == 12)) h44 rfl fun a47 h47 => ?_; clear h44
            refine pk0 (v := .bool (k == 12)) h47 rfl fun a48 h48 => ?_; clear h47
            refine pl_nil ?_
            refine co_then ?_
            cases hc49 : (k == 12)
            ·
             rw [hc49] at h48
             have hp50 : ¬ (k = 12) := by first | simpa using hc49 | simpa [and_assoc] using hc49
             clear hc49
             refine co_false h48 rfl ?_
             refine co_seq ?_
             refine co_reg ?_
             refine pk0 (v := .bool (k == 13)) h48 rfl fun a51 h51 => ?_; clear h48
             refine pk0 (v := .bool (k == 13)) h51 rfl fun a52 h52 => ?_; clear h51
             refine pl_nil ?_
             refine co_then ?_
             cases hc53 : (k == 13)
             ·
              rw [hc53] at h52
              have hp54 : ¬ (k = 13) := by first | simpa using hc53 | simpa [and_assoc] using hc53
              clear hc53
              refine co_false h52 rfl ?_
              refine co_reg ?_
              refine pk0 (v := .bool (k == 14)) h52 rfl fun a55 h55 => ?_; clear h52
              refine pk0 (v := .bool (k == 14)) h55 rfl fun a56 h56 => ?_; clear h55
              refine pl_nil ?_
              refine co_then ?_
              cases hc57 : (k == 14)
              ·
               rw [hc57] at h56
               have hp58 : ¬ (k = 14) := by first | simpa using hc57 | simpa [and_assoc] using hc57
               clear hc57
               refine co_false h56 rfl ?_
               refine co_seq ?_
               refine co_reg ?_
               refine pk0 (v := .bool (k == 15)) h56 rfl fun a59 h59 => ?_; clear h56
               refine pk0 (v := .bool (k == 15)) h59 rfl fun a60 h60 => ?_; clear h59
               refine pl_nil ?_
               refine co_then ?_
               cases hc61 : (k == 15)
               ·
                rw [hc61] at h60
                have hp62 : ¬ (k = 15) := by first | simpa using hc61 | simpa [and_assoc] using hc61
                clear hc61
                refine co_false h60 rfl ?_
                refine wp_skip ?_
                refine co_blockN ?_
                refine co_then ?_
                refine co_seq ?_
                refine co_reg ?_
                refine pk0 (v := .string (⟨#[63]⟩)) h60 rfl fun a63 h63 => ?_; clear h60
                refine pl_nil ?_
                refine co_then ?_
                refine wp_ret ?_
                refine co_ret1 h63 rfl rfl ?_
                exact ⟨by rw [rstr_n (by omega)], hB0⟩
               ·
                rw [hc61] at h60
                have hp64 : k = 15 := by first | simpa using hc61 | simpa [and_assoc] using hc61
                clear hc61
                refine co_true h60 rfl ?_
                refine co_seq ?_
                refine co_reg ?_
                refine pk0 (v := .string (⟨#[]⟩)) h60 rfl fun a65 h65 => ?_; clear h60
                refine pl_nil ?_
                refine co_then ?_
                refine wp_ret ?_
                refine co_blockR ?_
                refine co_thenR ?_
                refine co_ret1 h65 rfl rfl ?_
                exact ⟨by rw [show k = 15 by omega]; rfl, hB0⟩
              ·
               rw [hc57] at h56
               have hp66 : k = 14 := by first | simpa using hc57 | simpa [and_assoc] using hc57
               clear hc57
               refine co_true h56 rfl ?_
               refine co_seq ?_
               refine co_reg ?_
               refine pk0 (v := .string (⟨#[114, 110]⟩)) h56 rfl fun a67 h67 => ?_; clear h56
               refine pl_nil ?_
               refine co_then ?_
               refine wp_ret ?_
               refine co_blockR ?_
               refine co_thenR ?_
               refine co_ret1 h67 rfl rfl ?_
               exact ⟨by rw [show k = 14 by omega]; rfl, hB0⟩
             ·
              rw [hc53] at h52
              have hp68 : k = 13 := by first | simpa using hc53 | simpa [and_assoc] using hc53
              clear hc53
              refine co_true h52 rfl ?_
              refine wp_skip ?_
              refine co_then ?_
              refine co_true h52 rfl ?_
              refine co_seq ?_
              refine co_reg ?_
              refine pk0 (v := .string (⟨#[114, 110]⟩)) h52 rfl fun a69 h69 => ?_; clear h52
              refine pl_nil ?_
              refine co_then ?_
              refine wp_ret ?_
              refine co_blockR ?_
              refine co_thenR ?_
              refine co_ret1 h69 rfl rfl ?_
              exact ⟨by rw [show k = 13 by omega]; rfl, hB0⟩
            ·
             rw [hc49] at h48
             have hp70 : k = 12 := by first | simpa using hc49 | simpa [and_assoc] using hc49
             clear hc49
             refine co_true h48 rfl ?_
             refine wp_skip ?_
             refine co_then ?_
             refine co_true h48 rfl ?_
             refine co_seq ?_
             refine co_reg ?_
             refine pk0 (v := .string (⟨#[114, 110]⟩)) h48 rfl fun a71 h71 => ?_; clear h48
             refine pl_nil ?_
             refine co_then ?_
             refine wp_ret ?_
             refine co_blockR ?_
             refine co_thenR ?_
             refine co_ret1 h71 rfl rfl ?_
             exact ⟨by rw [show k = 12 by omega]; rfl, hB0⟩
           ·
            rw [hc45] at h44
            have hp72 : k = 10 := by first | simpa using hc45 | simpa [and_assoc] using hc45
            clear hc45
            refine co_true h44 rfl ?_
            refine co_seq ?_
            refine co_reg ?_
            refine pk0 (v := .string (⟨#[114, 107, 97, 102, 82]⟩)) h44 rfl fun a73 h73 => ?_; clear h44
            refine pl_nil ?_
            refine co_then ?_
            refine wp_ret ?_
            refine co_blockR ?_
            refine co_thenR ?_
            refine co_ret1 h73 rfl rfl ?_
            exact ⟨by rw [show k = 10 by omega]; rfl, hB0⟩
          ·
           rw [hc41] at h40
           have hp74 : k = 9 := by first | simpa using hc41 | simpa [and_assoc] using hc41
           clear hc41
           refine co_true h40 rfl ?_
           refine co_seq ?_
           refine co_reg ?_
           refine pk0 (v := .string (⟨#[114, 107, 116, 97, 110]⟩)) h40 rfl fun a75 h75 => ?_; clear h40
           refine pl_nil ?_
           refine co_then ?_
           refine wp_ret ?_
           refine co_blockR ?_
           refine co_thenR ?_
           refine co_ret1 h75 rfl rfl ?_
           exact ⟨by rw [show k = 9 by omega]; rfl, hB0⟩
         ·
          rw [hc37] at h36
          have hp76 : k = 8 := by first | simpa using hc37 | simpa [and_assoc] using hc37
          clear hc37
          refine co_true h36 rfl ?_
          refine co_seq ?_
          refine co_reg ?_
          refine pk0 (v := .string (⟨#[114, 107, 97]⟩)) h36 rfl fun a77 h77 => ?_; clear h36
          refine pl_nil ?_
          refine co_then ?_
          refine wp_ret ?_
          refine co_blockR ?_
          refine co_thenR ?_
          refine co_ret1 h77 rfl rfl ?_
          exact ⟨by rw [show k = 8 by omega]; rfl, hB0⟩
        ·
         rw [hc33] at h32
         have hp78 : k = 7 := by first | simpa using hc33 | simpa [and_assoc] using hc33
         clear hc33
         refine co_true h32 rfl ?_
         refine co_seq ?_
         refine co_reg ?_
         refine pk0 (v := .string (⟨#[114, 120, 101, 110]⟩)) h32 rfl fun a79 h79 => ?_; clear h32
         refine pl_nil ?_
         refine co_then ?_
         refine wp_ret ?_
         refine co_blockR ?_
         refine co_thenR ?_
         refine co_ret1 h79 rfl rfl ?_
         exact ⟨by rw [show k = 7 by omega]; rfl, hB0⟩
       ·
        rw [hc29] at h28
        have hp80 : k = 11 := by first | simpa using hc29 | simpa [and_assoc] using hc29
        clear hc29
        refine co_true h28 rfl ?_
        refine co_seq ?_
        refine co_reg ?_
        refine pk0 (v := .string (⟨#[114, 97]⟩)) h28 rfl fun a81 h81 => ?_; clear h28
        refine pl_nil ?_
        refine co_then ?_
        refine wp_ret ?_
        refine co_blockR ?_
        refine co_thenR ?_
        refine co_ret1 h81 rfl rfl ?_
        exact ⟨by rw [show k = 11 by omega]; rfl, hB0⟩
      ·
       rw [hc25] at h24
       have hp82 : k = 6 := by first | simpa using hc25 | simpa [and_assoc] using hc25
       clear hc25
       refine co_true h24 rfl ?_
       refine wp_skip ?_
       refine co_then ?_
       refine co_true h24 rfl ?_
       refine co_seq ?_
       refine co_reg ?_
       refine pk0 (v := .string (⟨#[114, 97]⟩)) h24 rfl fun a83 h83 => ?_; clear h24
       refine pl_nil ?_
       refine co_then ?_
       refine wp_ret ?_
       refine co_blockR ?_
       refine co_thenR ?_
       refine co_ret1 h83 rfl rfl ?_
       exact ⟨by rw [show k = 6 by omega]; rfl, hB0⟩
     ·
      rw [hc21] at h20
      have hp84 : k = 5 := by first | simpa using hc21 | simpa [and_assoc] using hc21
      clear hc21
      refine co_true h20 rfl ?_
      refine co_seq ?_
      refine co_reg ?_
      refine pk0 (v := .string (⟨#[101, 66]⟩)) h20 rfl fun a85 h85 => ?_; clear h20
      refine pl_nil ?_
      refine co_then ?_
      refine wp_ret ?_
      refine co_blockR ?_
      refine co_thenR ?_
      refine co_ret1 h85 rfl rfl ?_
      exact ⟨by rw [show k = 5 by omega]; rfl, hB0⟩
    ·
     rw [hc17] at h16
     have hp86 : k = 4 := by first | simpa using hc17 | simpa [and_assoc] using hc17
     clear hc17
     refine co_true h16 rfl ?_
     refine co_seq ?_
     refine co_reg ?_
     refine pk0 (v := .string (⟨#[101, 110, 109, 112, 83]⟩)) h16 rfl fun a87 h87 => ?_; clear h16
     refine pl_nil ?_
     refine co_then ?_
     refine wp_ret ?_
     refine co_blockR ?_
     refine co_thenR ?_
     refine co_ret1 h87 rfl rfl ?_
     exact ⟨by rw [show k = 4 by omega]; rfl, hB0⟩
   ·
    rw [hc13] at h12
    have hp88 : k = 3 := by first | simpa using hc13 | simpa [and_assoc] using hc13
    clear hc13
    refine co_true h12 rfl ?_
    refine co_seq ?_
    refine co_reg ?_
    refine pk0 (v := .string (⟨#[101, 110, 109, 112, 114, 97, 69]⟩)) h12 rfl fun a89 h89 => ?_; clear h12
    refine pl_nil ?_
    refine co_then ?_
    refine wp_ret ?_
    refine co_blockR ?_
    refine co_thenR ?_
    refine co_ret1 h89 rfl rfl ?_
    exact ⟨by rw [show k = 3 by omega]; rfl, hB0⟩
  ·
   rw [hc9] at h8
   have hp90 : k = 2 := by first | simpa using hc9 | simpa [and_assoc] using hc9
   clear hc9
   refine co_true h8 rfl ?_
   refine co_seq ?_
   refine co_reg ?_
   refine pk0 (v := .string (⟨#[101, 115, 102, 97, 108]⟩)) h8 rfl fun a91 h91 => ?_; clear h8
   refine pl_nil ?_
   refine co_then ?_
   refine wp_ret ?_
   refine co_blockR ?_
   refine co_thenR ?_
   refine co_ret1 h91 rfl rfl ?_
   exact ⟨by rw [show k = 2 by omega]; rfl, hB0⟩
 ·
  rw [hc5] at h4
  have hp92 : k = 1 := by first | simpa using hc5 | simpa [and_assoc] using hc5
  clear hc5
  refine co_true h4 rfl ?_
  refine co_seq ?_
  refine co_reg ?_
  refine pk0 (v := .string (⟨#[67, 97]⟩)) h4 rfl fun a93 h93 => ?_; clear h4
  refine pl_nil ?_
  refine co_then ?_
  refine wp_ret ?_
  refine co_blockR ?_
  refine co_thenR ?_
  refine co_ret1 h93 rfl rfl ?_
  exact ⟨by rw [show k = 1 by omega]; rfl, hB0⟩
set_option maxRecDepth 100000 in
theorem rmNumber_any (d : MsgD) (mv : Value) (bv : Value) (ev : Value) (sv : Value) (pv : Value) (c : Int) (w : World) (hm : SliceOf memE 2 w mv d.cms) (hb : SliceOf opE 3 w bv d.bl) (he : SliceOf entE 4 w ev d.en) (ht : SliceOf (intE .u64) 1 w sv d.st) (hp : SliceOf prE 2 w pv d.pr) (hnl : c = 101 ∨ c = 115 ∨ c = 114 ∨ c = 110 ∨ c = 109 ∨ c = 112) :
    Calls Try.prog 103 #[.agg #[.int .i64 d.k, .int .i64 d.ep, .int .i64 d.rq, .int .i64 d.sr, .bool d.fg, .int .u64 d.at_, .int .u64 d.la, .int .i64 d.n, .int .i64 d.m, .int .i64 d.p, .int .i64 d.e, .string d.key, .string d.to_, .int .i64 d.cep, mv, .int .u64 d.cfl, .int .i64 d.bc, .int .i64 d.br, bv, ev, sv, pv], .int .u8 c] w fun e w' => e = .returned (.int .i64 (numP d (plet c))) ∧ Below w.heap.size w w' := by
 have hpl : (c = 114 → plet c = 113) ∧ (c = 69 → plet c = 76) ∧ (c ≠ 114 ∧ c ≠ 69 → plet c = c) := ⟨pl_114, pl_69, fun h => pl_o h.1 h.2⟩
 have hB0 := Below.refl w.heap.size w
 have hl_hm := sl_len hm
 have hl_hb := sl_len hb
 have hl_he := sl_len he
 have hl_ht := sl_len ht
 have hl_hp := sl_len hp
 refine co_enter (n := 28) Try.func103 rfl rfl rfl [(0, .agg #[.int .i64 d.k, .int .i64 d.ep, .int .i64 d.rq, .int .i64 d.sr, .bool d.fg, .int .u64 d.at_, .int .u64 d.la, .int .i64 d.n, .int .i64 d.m, .int .i64 d.p, .int .i64 d.e, .string d.key, .string d.to_, .int .i64 d.cep, mv, .int .u64 d.cfl, .int .i64 d.bc, .int .i64 d.br, bv, ev, sv, pv]), (1, .int .u8 c)] rfl (fun a h0 => ?_)
 refine co_seq ?_
 refine co_reg ?_
 refine pw h0 rfl (op_new (v := fun N => pt N 0) (T := 37) (cs := #[.int .i64 d.k, .int .i64 d.ep, .int .i64 d.rq, .int .i64 d.sr, .bool d.fg, .int .u64 d.at_, .int .u64 d.la, .int .i64 d.n, .int .i64 d.m, .int .i64 d.p, .int .i64 d.e, .string d.key, .string d.to_, .int .i64 d.cep, mv, .int .u64 d.cfl, .int .i64 d.bc, .int .i64 d.br, bv, ev, sv, pv]) (by kernel_rfl) (by kernel_rfl) (by kernel_rfl)) ?_; clear h0
 rintro _ w2 a1 ⟨N3, rfl, hN6, hz7, hk5, hg4⟩ h1
 have hz8 := hg4.size
 try dsimp only at h1
 refine pk0 (v := .int .i64 0) h1 rfl fun a9 h9 => ?_; clear h1
 refine pl_nil ?_
 refine co_then ?_
 refine co_seq ?_
 refine co_seq ?_
 refine co_reg ?_
 refine pk0 (v := .int .u8 c) h9 rfl fun a10 h10 => ?_; clear h9
 refine pl_nil ?_
 refine co_then ?_
 refine wp_block ?_
 refine co_seq ?_
 refine co_reg ?_
 refine pk0 (v := .bool (c == 101)) h10 rfl fun a11 h11 => ?_; clear h10
 refine pk0 (v := .bool (c == 101)) h11 rfl fun a12 h12 => ?_; clear h11
 refine pl_nil ?_
 refine co_then ?_
 have hB14 := hb_new hB0 hg4
 cases hc13 : (c == 101)
 ·
  rw [hc13] at h12
  have hp15 : ¬ (c = 101) := by first | simpa using hc13 | simpa [and_assoc] using hc13
  clear hc13
  refine co_false h12 rfl ?_
  refine co_seq ?_
  refine co_reg ?_
  refine pk0 (v := .bool (c == 115)) h12 rfl fun a16 h16 => ?_; clear h12
  refine pk0 (v := .bool (c == 115)) h16 rfl fun a17 h17 => ?_; clear h16
  refine pl_nil ?_
  refine co_then ?_
  cases hc18 : (c == 115)
  ·
   rw [hc18] at h17
   have hp19 : ¬ (c = 115) := by first | simpa using hc18 | simpa [and_assoc] using hc18
   clear hc18
   refine co_false h17 rfl ?_
   refine co_seq ?_
   refine co_reg ?_
   refine pk0 (v := .bool (c == 114)) h17 rfl fun a20 h20 => ?_; clear h17
   refine pk0 (v := .bool (c == 114)) h20 rfl fun a21 h21 => ?_; clear h20
   refine pl_nil ?_
   refine co_then ?_
   cases hc22 : (c == 114)
   ·
    rw [hc22] at h21
    have hp23 : ¬ (c = 114) := by first | simpa using hc22 | simpa [and_assoc] using hc22
    clear hc22
    refine co_false h21 rfl ?_
    refine co_seq ?_
    refine co_reg ?_
    refine pk0 (v := .bool (c == 110)) h21 rfl fun a24 h24 => ?_; clear h21
    refine pk0 (v := .bool (c == 110)) h24 rfl fun a25 h25 => ?_; clear h24
    refine pl_nil ?_
    refine co_then ?_
    cases hc26 : (c == 110)
    ·
     rw [hc26] at h25
     have hp27 : ¬ (c = 110) := by first | simpa using hc26 | simpa [and_assoc] using hc26
     clear hc26
     refine co_false h25 rfl ?_
     refine co_seq ?_
     refine co_reg ?_
     refine pk0 (v := .bool (c == 109)) h25 rfl fun a28 h28 => ?_; clear h25
     refine pk0 (v := .bool (c == 109)) h28 rfl fun a29 h29 => ?_; clear h28
     refine pl_nil ?_
     refine co_then ?_
     cases hc30 : (c == 109)
     ·
      rw [hc30] at h29
      have hp31 : ¬ (c = 109) := by first | simpa using hc30 | simpa [and_assoc] using hc30
      clear hc30
      refine co_false h29 rfl ?_
      refine wp_skip ?_
      refine co_blockN ?_
      refine co_then ?_
      refine co_seq ?_
      refine co_reg ?_
      refine pk0 (v := pt N3 9) h29 rfl fun a32 h32 => ?_; clear h29
      refine pk (v := .int .i64 d.p) h32 rfl (rn_load1 rfl rfl Try.isAgg3 (hk5.cell rfl)) fun a33 h33 => ?_; clear h32
      refine pk0 (v := .int .i64 d.p) h33 rfl fun a34 h34 => ?_; clear h33
      refine pl_nil ?_
      refine co_then ?_
      refine wp_ret ?_
      refine co_ret1 h34 rfl rfl ?_
      exact ⟨ret_int (np_6 (by omega)), hB14⟩
     ·
      rw [hc30] at h29
      have hp35 : c = 109 := by first | simpa using hc30 | simpa [and_assoc] using hc30
      clear hc30
      refine co_true h29 rfl ?_
      refine co_seq ?_
      refine co_reg ?_
      refine pk0 (v := pt N3 8) h29 rfl fun a36 h36 => ?_; clear h29
      refine pk (v := .int .i64 d.m) h36 rfl (rn_load1 rfl rfl Try.isAgg3 (hk5.cell rfl)) fun a37 h37 => ?_; clear h36
      refine pk0 (v := .int .i64 d.m) h37 rfl fun a38 h38 => ?_; clear h37
      refine pl_nil ?_
      refine co_then ?_
      refine wp_ret ?_
      refine co_blockR ?_
      refine co_thenR ?_
      refine co_ret1 h38 rfl rfl ?_
      exact ⟨ret_int (np_5 (by omega)), hB14⟩
    ·
     rw [hc26] at h25
     have hp39 : c = 110 := by first | simpa using hc26 | simpa [and_assoc] using hc26
     clear hc26
     refine co_true h25 rfl ?_
     refine co_seq ?_
     refine co_reg ?_
     refine pk0 (v := pt N3 7) h25 rfl fun a40 h40 => ?_; clear h25
     refine pk (v := .int .i64 d.n) h40 rfl (rn_load1 rfl rfl Try.isAgg3 (hk5.cell rfl)) fun a41 h41 => ?_; clear h40
     refine pk0 (v := .int .i64 d.n) h41 rfl fun a42 h42 => ?_; clear h41
     refine pl_nil ?_
     refine co_then ?_
     refine wp_ret ?_
     refine co_blockR ?_
     refine co_thenR ?_
     refine co_ret1 h42 rfl rfl ?_
     exact ⟨ret_int (np_4 (by omega)), hB14⟩
   ·
    rw [hc22] at h21
    have hp43 : c = 114 := by first | simpa using hc22 | simpa [and_assoc] using hc22
    clear hc22
    refine co_true h21 rfl ?_
    refine co_seq ?_
    refine co_reg ?_
    refine pk0 (v := pt N3 2) h21 rfl fun a44 h44 => ?_; clear h21
    refine pk (v := .int .i64 d.rq) h44 rfl (rn_load1 rfl rfl Try.isAgg3 (hk5.cell rfl)) fun a45 h45 => ?_; clear h44
    refine pk0 (v := .int .i64 d.rq) h45 rfl fun a46 h46 => ?_; clear h45
    refine pl_nil ?_
    refine co_then ?_
    refine wp_ret ?_
    refine co_blockR ?_
    refine co_thenR ?_
    refine co_ret1 h46 rfl rfl ?_
    exact ⟨ret_int (np_3 (by omega)), hB14⟩
  ·
   rw [hc18] at h17
   have hp47 : c = 115 := by first | simpa using hc18 | simpa [and_assoc] using hc18
   clear hc18
   refine co_true h17 rfl ?_
   refine co_seq ?_
   refine co_reg ?_
   refine pk0 (v := pt N3 3) h17 rfl fun a48 h48 => ?_; clear h17
   refine pk (v := .int .i64 d.sr) h48 rfl (rn_load1 rfl rfl Try.isAgg3 (hk5.cell rfl)) fun a49 h49 => ?_; clear h48
   refine pk0 (v := .int .i64 d.sr) h49 rfl fun a50 h50 => ?_; clear h49
   refine pl_nil ?_
   refine co_then ?_
   refine wp_ret ?_
   refine co_blockR ?_
   refine co_thenR ?_
   refine co_ret1 h50 rfl rfl ?_
   exact ⟨ret_int (np_2 (by omega)), hB14⟩
 ·
  rw [hc13] at h12
  have hp51 : c = 101 := by first | simpa using hc13 | simpa [and_assoc] using hc13
  clear hc13
  refine co_true h12 rfl ?_
  refine co_seq ?_
  refine co_reg ?_
  refine pk0 (v := pt N3 1) h12 rfl fun a52 h52 => ?_; clear h12
  refine pk (v := .int .i64 d.ep) h52 rfl (rn_load1 rfl rfl Try.isAgg3 (hk5.cell rfl)) fun a53 h53 => ?_; clear h52
  refine pk0 (v := .int .i64 d.ep) h53 rfl fun a54 h54 => ?_; clear h53
  refine pl_nil ?_
  refine co_then ?_
  refine wp_ret ?_
  refine co_blockR ?_
  refine co_thenR ?_
  refine co_ret1 h54 rfl rfl ?_
  exact ⟨ret_int (np_1 (by omega)), hB14⟩
set_option maxRecDepth 100000 in
theorem rmPairs_any (v : Value) (l : List PrT) (w : World) (hs : SliceOf prE 2 w v l) :
    Calls Try.prog 106 #[v] w fun e w' => e = .returned (.int .i64 (chkLs 32 chkPair l)) ∧ Below w.heap.size w w' := by
 have hB0 := Below.refl w.heap.size w
 have hl_hs := sl_len hs
 refine co_enter (n := 27) Try.func106 rfl rfl rfl [(0, v)] rfl (fun a h0 => ?_)
 refine co_seq ?_
 refine co_reg ?_
 refine pk0 (v := .int .i64 0) h0 rfl fun a1 h1 => ?_; clear h0
 refine pl_nil ?_
 refine co_then ?_
 refine co_seq ?_
 refine co_seq ?_
 refine co_reg ?_
 refine pk0 (v := v) h1 rfl fun a2 h2 => ?_; clear h1
 refine pk (v := .int .i64 ((l.length : Nat) : Int)) h2 rfl (rn_len rfl rfl Try.underlying35 hs) fun a3 h3 => ?_; clear h2
 refine pk0 (v := .bool (decide (((l.length : Nat) : Int) > 32))) h3 rfl fun a4 h4 => ?_; clear h3
 refine pl_nil ?_
 refine co_then ?_
 cases hc5 : (decide (((l.length : Nat) : Int) > 32))
 ·
  rw [hc5] at h4
  have hp6 : ¬ (((l.length : Nat) : Int) > 32) := of_decide_eq_false hc5
  clear hc5
  refine co_false h4 rfl ?_
  refine wp_skip ?_
  refine co_then ?_
  refine co_seq ?_
  refine co_seq ?_
  refine co_reg ?_
  refine pk0 (v := .int .i64 0) h4 rfl fun a7 h7 => ?_; clear h4
  refine pl_nil ?_
  refine co_then ?_
  refine wp_block ?_
  have h8 : Slots 27 [(0, v), (2, .int .i64 0), (3, .int .i64 0)] _ := h7.sub ⟨rfl, rfl, rfl, trivial⟩; clear h7
  refine co_loop (fun mm a x => ∃ (i : Nat), Slots 27 [(0, v), (2, .int .i64 0), (3, .int .i64 ((i : Nat) : Int))] a ∧ mm = l.length - i ∧ (i ≤ l.length) ∧ (chkF chkPair (l.drop i) = chkF chkPair l) ∧ Below w.heap.size w x) (l.length - 0) ?_ ?_
  · exact ⟨0, h8.sub ⟨rfl, rfl, (slot_eq rfl (congrArg (Value.int .i64) (by first | rfl | omega))), trivial⟩, rfl, by omega, by first | rfl | exact hL', hB0⟩
  · rintro k9 a10 w11 ⟨i, h10, rfl, hi12, hi13, hB14⟩
    have hz15 := hB14.size
    have hL : chkF chkPair (l.drop i) = chkF chkPair l := by assumption
    refine co_seq ?_
    refine co_seq ?_
    refine co_reg ?_
    refine pk0 (v := .int .i64 ((i : Nat) : Int)) h10 rfl fun a16 h16 => ?_; clear h10
    refine pk0 (v := v) h16 rfl fun a17 h17 => ?_; clear h16
    refine pk (v := .int .i64 ((l.length : Nat) : Int)) h17 rfl (rn_len rfl rfl Try.underlying35 (hs.below hB14)) fun a18 h18 => ?_; clear h17
    refine pk0 (v := .bool (decide (((i : Nat) : Int) < ((l.length : Nat) : Int)))) h18 rfl fun a19 h19 => ?_; clear h18
    refine pl_nil ?_
    refine co_then ?_
    cases hc20 : (decide (((i : Nat) : Int) < ((l.length : Nat) : Int)))
    ·
     rw [hc20] at h19
     have hp21 : ¬ (((i : Nat) : Int) < ((l.length : Nat) : Int)) := of_decide_eq_false hc20
     clear hc20
     refine co_false h19 rfl ?_
     refine wp_exit ?_
     refine co_thenX ?_
     refine co_thenX ?_
     refine co_blockX ?_
     refine co_then ?_
     refine co_seq ?_
     refine co_reg ?_
     refine pk0 (v := .int .i64 0) h19 rfl fun a22 h22 => ?_; clear h19
     refine pl_nil ?_
     refine co_then ?_
     refine wp_ret ?_
     refine co_ret1 h22 rfl rfl ?_
     exact ⟨ret_int (by unfold chkLs; rw [if_neg (by omega)]; exact cF_end (i := i) hL (by omega)), hB14⟩
    ·
     rw [hc20] at h19
     have hp23 : ((i : Nat) : Int) < ((l.length : Nat) : Int) := of_decide_eq_true hc20
     clear hc20
     refine co_true h19 rfl ?_
     refine wp_skip ?_
     refine co_then ?_
     refine co_seq ?_
     refine wp_block ?_
     refine co_seq ?_
     refine co_seq ?_
     refine co_reg ?_
     refine pk0 (v := v) h19 rfl fun a24 h24 => ?_; clear h19
     refine pk0 (v := .int .i64 ((i : Nat) : Int)) h24 rfl fun a25 h25 => ?_; clear h24
     obtain ⟨y26, hy26⟩ : ∃ z, l[i]? = some z := ⟨_, List.getElem?_eq_getElem (by first | omega | (simp; done) | (simp; omega))⟩
     refine pk (v := pt (blkOf v) (offOf v + i * 2)) h25 rfl (rn_index rfl rfl rfl Try.underlying35 Try.sizeOf88 (hs.below hB14) (by omega) (by first | omega | (simp; done) | (simp; omega))) fun a27 h27 => ?_; clear h25
     refine pk0 (v := pt (blkOf v) (offOf v + i * 2)) h27 rfl fun a28 h28 => ?_; clear h27
     refine pk (v := .string y26.1) h28 rfl (rn_load1 rfl rfl Try.isAgg9 ((sl_at (hs.below hB14) hy26) 0 _ rfl)) fun a29 h29 => ?_; clear h28
     refine pw h29 rfl (op_call (args := #[.string y26.1]) (R := fun res xw => res = .int .i64 (keyC y26.1) ∧ Below w11.heap.size w11 xw) rfl rfl rfl (by kernel_rfl) (by kernel_rfl) (Try.call35 _ _) (rKey_any y26.1 w11 ) (by rintro e x ⟨rfl, hb32⟩; exact ⟨_, rfl, ⟨rfl, hb32⟩⟩)) ?_; clear h29
     rintro _ w31 a30 ⟨rfl, hb32⟩ h30
     have hz33 := hb32.size
     refine pk0 (v := .bool (keyC y26.1 != 0)) h30 rfl fun a34 h34 => ?_; clear h30
     refine pl_nil ?_
     refine co_then ?_
     have hB36 := hb_call hB14 hb32
     cases hc35 : (keyC y26.1 != 0)
     ·
      rw [hc35] at h34
      have hp37 : ¬ (keyC y26.1 ≠ 0) := by first | simpa using hc35 | simpa [and_assoc] using hc35
      clear hc35
      refine co_false h34 rfl ?_
      refine wp_skip ?_
      refine co_then ?_
      refine co_seq ?_
      refine co_reg ?_
      refine pk0 (v := v) h34 rfl fun a38 h38 => ?_; clear h34
      refine pk0 (v := .int .i64 ((i : Nat) : Int)) h38 rfl fun a39 h39 => ?_; clear h38
      refine pk (v := pt (blkOf v) (offOf v + i * 2)) h39 rfl (rn_index rfl rfl rfl Try.underlying35 Try.sizeOf88 (hs.below hB36) (by omega) (by first | omega | (simp; done) | (simp; omega))) fun a40 h40 => ?_; clear h39
      refine pk0 (v := pt (blkOf v) (offOf v + i * 2 + 1)) h40 rfl fun a41 h41 => ?_; clear h40
      refine pk (v := .string y26.2) h41 rfl (rn_load1 rfl rfl Try.isAgg9 ((sl_at (hs.below hB36) hy26) 1 _ rfl)) fun a42 h42 => ?_; clear h41
      refine pk (v := .int .i64 ((y26.2.size : Nat) : Int)) h42 rfl (rn_lenStr rfl rfl Try.underlying9) fun a43 h43 => ?_; clear h42
      refine pk0 (v := .bool (decide (((y26.2.size : Nat) : Int) > 8))) h43 rfl fun a44 h44 => ?_; clear h43
      refine pl_nil ?_
      refine co_then ?_
      cases hc45 : (decide (((y26.2.size : Nat) : Int) > 8))
      ·
       rw [hc45] at h44
       have hp46 : ¬ (((y26.2.size : Nat) : Int) > 8) := of_decide_eq_false hc45
       clear hc45
       refine co_false h44 rfl ?_
       refine wp_skip ?_
       refine co_blockN ?_
       refine co_then ?_
       refine co_reg ?_
       refine pk0 (v := .int .i64 ((i : Nat) : Int)) h44 rfl fun a47 h47 => ?_; clear h44
       refine pk (v := .int .i64 ((i + 1 : Nat) : Int)) h47 rfl (rn_arith' rfl rfl rfl rfl rfl rfl (IntWalk.i64_in _ (by omega)) (by omega)) fun a48 h48 => ?_; clear h47
       refine pk0 (v := .int .i64 ((i + 1 : Nat) : Int)) h48 rfl fun a49 h49 => ?_; clear h48
       refine pl_nil ?_
       refine co_then ?_
       refine ⟨(l.length - (i + 1)), by omega, ?_⟩
       have hbd : 0 = chkPair y26 := by unfold chkPair keyC at *; repeat' split; all_goals omega
       have hL' := cF_step (f := chkPair) hL hy26 hbd.symm
       exact ⟨i + 1, h49.sub ⟨rfl, rfl, rfl, trivial⟩, rfl, by omega, by first | rfl | exact hL', hB36⟩
      ·
       rw [hc45] at h44
       have hp50 : ((y26.2.size : Nat) : Int) > 8 := of_decide_eq_true hc45
       clear hc45
       refine co_true h44 rfl ?_
       refine co_seq ?_
       refine co_reg ?_
       refine pk0 (v := .int .i64 3) h44 rfl fun a51 h51 => ?_; clear h44
       refine pl_nil ?_
       refine co_then ?_
       refine wp_ret ?_
       refine co_blockR ?_
       refine co_thenR ?_
       refine co_thenR ?_
       refine co_blockR ?_
       refine co_thenR ?_
       refine co_ret1 h51 rfl rfl ?_
       have hbd : 3 = chkPair y26 := by unfold chkPair keyC at *; repeat' split; all_goals omega
       exact ⟨ret_int (by unfold chkLs; rw [if_neg (by omega), hbd]; exact cF_bad (f := chkPair) (i := i) hL hy26 (by omega)), hB36⟩
     ·
      rw [hc35] at h34
      have hp52 : keyC y26.1 ≠ 0 := by first | simpa using hc35 | simpa [and_assoc] using hc35
      clear hc35
      refine co_true h34 rfl ?_
      refine co_seq ?_
      refine co_reg ?_
      refine pk0 (v := .int .i64 10) h34 rfl fun a53 h53 => ?_; clear h34
      refine pl_nil ?_
      refine co_then ?_
      refine wp_ret ?_
      refine co_thenR ?_
      refine co_blockR ?_
      refine co_thenR ?_
      refine co_thenR ?_
      refine co_blockR ?_
      refine co_thenR ?_
      refine co_ret1 h53 rfl rfl ?_
      have hbd : 10 = chkPair y26 := by unfold chkPair keyC at *; repeat' split; all_goals omega
      exact ⟨ret_int (by unfold chkLs; rw [if_neg (by omega), hbd]; exact cF_bad (f := chkPair) (i := i) hL hy26 (by omega)), hB36⟩
 ·
  rw [hc5] at h4
  have hp54 : ((l.length : Nat) : Int) > 32 := of_decide_eq_true hc5
  clear hc5
  refine co_true h4 rfl ?_
  refine co_seq ?_
  refine co_reg ?_
  refine pk0 (v := .int .i64 6) h4 rfl fun a55 h55 => ?_; clear h4
  refine pl_nil ?_
  refine co_then ?_
  refine wp_ret ?_
  refine co_thenR ?_
  refine co_ret1 h55 rfl rfl ?_
  exact ⟨ret_int (by unfold chkLs; rw [if_pos (by omega)]), hB0⟩
set_option maxRecDepth 100000 in
theorem rmEntries_any (v : Value) (l : List EntT) (w : World) (hs : SliceOf entE 4 w v l) (hok : ∀ z ∈ l, EntOk w z) :
    Calls Try.prog 105 #[v] w fun e w' => e = .returned (.int .i64 (chkLs 4 chkEn l)) ∧ Below w.heap.size w w' := by
 have hB0 := Below.refl w.heap.size w
 have hl_hs := sl_len hs
 refine co_enter (n := 22) Try.func105 rfl rfl rfl [(0, v)] rfl (fun a h0 => ?_)
 refine co_seq ?_
 refine co_reg ?_
 refine pk0 (v := .int .i64 0) h0 rfl fun a1 h1 => ?_; clear h0
 refine pl_nil ?_
 refine co_then ?_
 refine co_seq ?_
 refine co_seq ?_
 refine co_reg ?_
 refine pk0 (v := v) h1 rfl fun a2 h2 => ?_; clear h1
 refine pk (v := .int .i64 ((l.length : Nat) : Int)) h2 rfl (rn_len rfl rfl Try.underlying33 hs) fun a3 h3 => ?_; clear h2
 refine pk0 (v := .bool (decide (((l.length : Nat) : Int) > 4))) h3 rfl fun a4 h4 => ?_; clear h3
 refine pl_nil ?_
 refine co_then ?_
 cases hc5 : (decide (((l.length : Nat) : Int) > 4))
 ·
  rw [hc5] at h4
  have hp6 : ¬ (((l.length : Nat) : Int) > 4) := of_decide_eq_false hc5
  clear hc5
  refine co_false h4 rfl ?_
  refine wp_skip ?_
  refine co_then ?_
  refine co_seq ?_
  refine co_seq ?_
  refine co_reg ?_
  refine pk0 (v := .int .i64 0) h4 rfl fun a7 h7 => ?_; clear h4
  refine pl_nil ?_
  refine co_then ?_
  refine wp_block ?_
  have h8 : Slots 22 [(0, v), (2, .int .i64 0), (3, .int .i64 0)] _ := h7.sub ⟨rfl, rfl, rfl, trivial⟩; clear h7
  refine co_loop (fun mm a x => ∃ (i : Nat), Slots 22 [(0, v), (2, .int .i64 0), (3, .int .i64 ((i : Nat) : Int))] a ∧ mm = l.length - i ∧ (i ≤ l.length) ∧ (chkF chkEn (l.drop i) = chkF chkEn l) ∧ Below w.heap.size w x) (l.length - 0) ?_ ?_
  · exact ⟨0, h8.sub ⟨rfl, rfl, (slot_eq rfl (congrArg (Value.int .i64) (by first | rfl | omega))), trivial⟩, rfl, by omega, by first | rfl | exact hL', hB0⟩
  · rintro k9 a10 w11 ⟨i, h10, rfl, hi12, hi13, hB14⟩
    have hz15 := hB14.size
    have hL : chkF chkEn (l.drop i) = chkF chkEn l := by assumption
    refine co_seq ?_
    refine co_seq ?_
    refine co_reg ?_
    refine pk0 (v := .int .i64 ((i : Nat) : Int)) h10 rfl fun a16 h16 => ?_; clear h10
    refine pk0 (v := v) h16 rfl fun a17 h17 => ?_; clear h16
    refine pk (v := .int .i64 ((l.length : Nat) : Int)) h17 rfl (rn_len rfl rfl Try.underlying33 (hs.below hB14)) fun a18 h18 => ?_; clear h17
    refine pk0 (v := .bool (decide (((i : Nat) : Int) < ((l.length : Nat) : Int)))) h18 rfl fun a19 h19 => ?_; clear h18
    refine pl_nil ?_
    refine co_then ?_
    cases hc20 : (decide (((i : Nat) : Int) < ((l.length : Nat) : Int)))
    ·
     rw [hc20] at h19
     have hp21 : ¬ (((i : Nat) : Int) < ((l.length : Nat) : Int)) := of_decide_eq_false hc20
     clear hc20
     refine co_false h19 rfl ?_
     refine wp_exit ?_
     refine co_thenX ?_
     refine co_thenX ?_
     refine co_blockX ?_
     refine co_then ?_
     refine co_seq ?_
     refine co_reg ?_
     refine pk0 (v := .int .i64 0) h19 rfl fun a22 h22 => ?_; clear h19
     refine pl_nil ?_
     refine co_then ?_
     refine wp_ret ?_
     refine co_ret1 h22 rfl rfl ?_
     exact ⟨ret_int (by unfold chkLs; rw [if_neg (by omega)]; exact cF_end (i := i) hL (by omega)), hB14⟩
    ·
     rw [hc20] at h19
     have hp23 : ((i : Nat) : Int) < ((l.length : Nat) : Int) := of_decide_eq_true hc20
     clear hc20
     refine co_true h19 rfl ?_
     refine wp_skip ?_
     refine co_then ?_
     refine co_seq ?_
     refine wp_block ?_
     refine co_seq ?_
     refine co_reg ?_
     refine pk0 (v := v) h19 rfl fun a24 h24 => ?_; clear h19
     refine pk0 (v := .int .i64 ((i : Nat) : Int)) h24 rfl fun a25 h25 => ?_; clear h24
     obtain ⟨y26, hy26⟩ : ∃ z, l[i]? = some z := ⟨_, List.getElem?_eq_getElem (by first | omega | (simp; done) | (simp; omega))⟩
     have oky26 := hok _ (List.mem_of_getElem? hy26)
     have k27 : 0 ≤ y26.ts := oky26.ts0
     have k28 : y26.ts < 18446744073709551616 := oky26.ts1
     refine pk (v := pt (blkOf v) (offOf v + i * 4)) h25 rfl (rn_index rfl rfl rfl Try.underlying33 Try.sizeOf154 (hs.below hB14) (by omega) (by first | omega | (simp; done) | (simp; omega))) fun a29 h29 => ?_; clear h25
     refine pk (v := .agg #[.int .i64 y26.client, .int .i64 y26.req, y26.ops, .int .u64 y26.ts]) h29 rfl (rn_loadN rfl rfl Try.underlying154 rfl (by kernel_rfl) (sl_at (hs.below hB14) hy26)) fun a30 h30 => ?_; clear h29
     refine pw h30 rfl (op_call (args := #[.agg #[.int .i64 y26.client, .int .i64 y26.req, y26.ops, .int .u64 y26.ts]]) (R := fun res xw => res = .int .i64 (chkB y26.client y26.req y26.opl) ∧ Below w11.heap.size w11 xw) rfl rfl rfl (by kernel_rfl) (by kernel_rfl) (Try.call129 _ _) (ritemCheck_any y26.client y26.req y26.ops y26.opl y26.ts w11 (oky26.ops.below hB14)) (by rintro e x ⟨rfl, hb33⟩; exact ⟨_, rfl, ⟨rfl, hb33⟩⟩)) ?_; clear h30
     rintro _ w32 a31 ⟨rfl, hb33⟩ h31
     have hz34 := hb33.size
     refine pk0 (v := .int .i64 (chkB y26.client y26.req y26.opl)) h31 rfl fun a35 h35 => ?_; clear h31
     refine pl_nil ?_
     refine co_then ?_
     refine co_seq ?_
     refine co_reg ?_
     refine pk0 (v := .int .i64 (chkB y26.client y26.req y26.opl)) h35 rfl fun a36 h36 => ?_; clear h35
     refine pk0 (v := .bool (chkB y26.client y26.req y26.opl != 0)) h36 rfl fun a37 h37 => ?_; clear h36
     refine pl_nil ?_
     refine co_then ?_
     have hB39 := hb_call hB14 hb33
     cases hc38 : (chkB y26.client y26.req y26.opl != 0)
     ·
      rw [hc38] at h37
      have hp40 : ¬ (chkB y26.client y26.req y26.opl ≠ 0) := by first | simpa using hc38 | simpa [and_assoc] using hc38
      clear hc38
      refine co_false h37 rfl ?_
      refine wp_skip ?_
      refine co_blockN ?_
      refine co_then ?_
      refine co_reg ?_
      refine pk0 (v := .int .i64 ((i : Nat) : Int)) h37 rfl fun a41 h41 => ?_; clear h37
      refine pk (v := .int .i64 ((i + 1 : Nat) : Int)) h41 rfl (rn_arith' rfl rfl rfl rfl rfl rfl (IntWalk.i64_in _ (by omega)) (by omega)) fun a42 h42 => ?_; clear h41
      refine pk0 (v := .int .i64 ((i + 1 : Nat) : Int)) h42 rfl fun a43 h43 => ?_; clear h42
      refine pl_nil ?_
      refine co_then ?_
      refine ⟨(l.length - (i + 1)), by omega, ?_⟩
      have hbd : 0 = chkEn y26 := by unfold chkEn; omega
      have hL' := cF_step (f := chkEn) hL hy26 hbd.symm
      exact ⟨i + 1, h43.sub ⟨rfl, rfl, rfl, trivial⟩, rfl, by omega, by first | rfl | exact hL', hB39⟩
     ·
      rw [hc38] at h37
      have hp44 : chkB y26.client y26.req y26.opl ≠ 0 := by first | simpa using hc38 | simpa [and_assoc] using hc38
      clear hc38
      refine co_true h37 rfl ?_
      refine co_seq ?_
      refine co_reg ?_
      refine pk0 (v := .int .i64 (chkB y26.client y26.req y26.opl)) h37 rfl fun a45 h45 => ?_; clear h37
      refine pk0 (v := .int .i64 (chkB y26.client y26.req y26.opl)) h45 rfl fun a46 h46 => ?_; clear h45
      refine pl_nil ?_
      refine co_then ?_
      refine wp_ret ?_
      refine co_blockR ?_
      refine co_thenR ?_
      refine co_thenR ?_
      refine co_blockR ?_
      refine co_thenR ?_
      refine co_ret1 h46 rfl rfl ?_
      have hbd : chkB y26.client y26.req y26.opl = chkEn y26 := by unfold chkEn; omega
      exact ⟨ret_int (by unfold chkLs; rw [if_neg (by omega), hbd]; exact cF_bad (f := chkEn) (i := i) hL hy26 (by omega)), hB39⟩
 ·
  rw [hc5] at h4
  have hp47 : ((l.length : Nat) : Int) > 4 := of_decide_eq_true hc5
  clear hc5
  refine co_true h4 rfl ?_
  refine co_seq ?_
  refine co_reg ?_
  refine pk0 (v := .int .i64 6) h4 rfl fun a48 h48 => ?_; clear h4
  refine pl_nil ?_
  refine co_then ?_
  refine wp_ret ?_
  refine co_thenR ?_
  refine co_ret1 h48 rfl rfl ?_
  exact ⟨ret_int (by unfold chkLs; rw [if_pos (by omega)]), hB0⟩
set_option maxRecDepth 100000 in
theorem rmWrong_any (d : MsgD) (mv : Value) (bv : Value) (ev : Value) (sv : Value) (pv : Value) (c : Int) (w : World) (hm : SliceOf memE 2 w mv d.cms) (hb : SliceOf opE 3 w bv d.bl) (he : SliceOf entE 4 w ev d.en) (ht : SliceOf (intE .u64) 1 w sv d.st) (hp : SliceOf prE 2 w pv d.pr) (hok : ∀ z ∈ d.en, EntOk w z) (hR : MsgR d) (hc : c ≠ 113 ∧ c ≠ 76) :
    Calls Try.prog 73 #[.agg #[.int .i64 d.k, .int .i64 d.ep, .int .i64 d.rq, .int .i64 d.sr, .bool d.fg, .int .u64 d.at_, .int .u64 d.la, .int .i64 d.n, .int .i64 d.m, .int .i64 d.p, .int .i64 d.e, .string d.key, .string d.to_, .int .i64 d.cep, mv, .int .u64 d.cfl, .int .i64 d.bc, .int .i64 d.br, bv, ev, sv, pv], .int .u8 c] w fun e w' => e = .returned (.int .i64 (chkP d (plet c))) ∧ Below w.heap.size w w' := by
 have hrng := hR.rng
 have hpl : (c = 114 → plet c = 113) ∧ (c = 69 → plet c = 76) ∧ (c ≠ 114 ∧ c ≠ 69 → plet c = c) := ⟨pl_114, pl_69, fun h => pl_o h.1 h.2⟩
 have hB0 := Below.refl w.heap.size w
 have hl_hm := sl_len hm
 have hl_hb := sl_len hb
 have hl_he := sl_len he
 have hl_ht := sl_len ht
 have hl_hp := sl_len hp
 refine co_enter (n := 71) Try.func73 rfl rfl rfl [(0, .agg #[.int .i64 d.k, .int .i64 d.ep, .int .i64 d.rq, .int .i64 d.sr, .bool d.fg, .int .u64 d.at_, .int .u64 d.la, .int .i64 d.n, .int .i64 d.m, .int .i64 d.p, .int .i64 d.e, .string d.key, .string d.to_, .int .i64 d.cep, mv, .int .u64 d.cfl, .int .i64 d.bc, .int .i64 d.br, bv, ev, sv, pv]), (1, .int .u8 c)] rfl (fun a h0 => ?_)
 refine co_seq ?_
 refine co_reg ?_
 refine pw h0 rfl (op_new (v := fun N => pt N 0) (T := 37) (cs := #[.int .i64 d.k, .int .i64 d.ep, .int .i64 d.rq, .int .i64 d.sr, .bool d.fg, .int .u64 d.at_, .int .u64 d.la, .int .i64 d.n, .int .i64 d.m, .int .i64 d.p, .int .i64 d.e, .string d.key, .string d.to_, .int .i64 d.cep, mv, .int .u64 d.cfl, .int .i64 d.bc, .int .i64 d.br, bv, ev, sv, pv]) (by kernel_rfl) (by kernel_rfl) (by kernel_rfl)) ?_; clear h0
 rintro _ w2 a1 ⟨N3, rfl, hN6, hz7, hk5, hg4⟩ h1
 have hz8 := hg4.size
 try dsimp only at h1
 refine pk0 (v := .int .i64 0) h1 rfl fun a9 h9 => ?_; clear h1
 refine pl_nil ?_
 refine co_then ?_
 refine co_seq ?_
 refine co_seq ?_
 refine co_reg ?_
 refine pk0 (v := .int .u8 c) h9 rfl fun a10 h10 => ?_; clear h9
 refine pl_nil ?_
 refine co_then ?_
 refine wp_block ?_
 refine co_seq ?_
 refine co_seq ?_
 refine co_reg ?_
 refine pk0 (v := .bool (c == 101)) h10 rfl fun a11 h11 => ?_; clear h10
 refine pk0 (v := .bool (c == 101)) h11 rfl fun a12 h12 => ?_; clear h11
 refine pl_nil ?_
 refine co_then ?_
 have hB14 := hb_new hB0 hg4
 cases hc13 : (c == 101)
 ·
  rw [hc13] at h12
  have hp15 : ¬ (c = 101) := by first | simpa using hc13 | simpa [and_assoc] using hc13
  clear hc13
  refine co_false h12 rfl ?_
  refine co_seq ?_
  refine co_reg ?_
  refine pk0 (v := .bool (c == 115)) h12 rfl fun a16 h16 => ?_; clear h12
  refine pk0 (v := .bool (c == 115)) h16 rfl fun a17 h17 => ?_; clear h16
  refine pl_nil ?_
  refine co_then ?_
  cases hc18 : (c == 115)
  ·
   rw [hc18] at h17
   have hp19 : ¬ (c = 115) := by first | simpa using hc18 | simpa [and_assoc] using hc18
   clear hc18
   refine co_false h17 rfl ?_
   refine co_seq ?_
   refine co_reg ?_
   refine pk0 (v := .bool (c == 114)) h17 rfl fun a20 h20 => ?_; clear h17
   refine pk0 (v := .bool (c == 114)) h20 rfl fun a21 h21 => ?_; clear h20
   refine pl_nil ?_
   refine co_then ?_
   cases hc22 : (c == 114)
   ·
    rw [hc22] at h21
    have hp23 : ¬ (c = 114) := by first | simpa using hc22 | simpa [and_assoc] using hc22
    clear hc22
    refine co_false h21 rfl ?_
    refine co_seq ?_
    refine co_reg ?_
    refine pk0 (v := .bool (c == 110)) h21 rfl fun a24 h24 => ?_; clear h21
    refine pk0 (v := .bool (c == 110)) h24 rfl fun a25 h25 => ?_; clear h24
    refine pl_nil ?_
    refine co_then ?_
    cases hc26 : (c == 110)
    ·
     rw [hc26] at h25
     have hp27 : ¬ (c = 110) := by first | simpa using hc26 | simpa [and_assoc] using hc26
     clear hc26
     refine co_false h25 rfl ?_
     refine co_seq ?_
     refine co_reg ?_
     refine pk0 (v := .bool (c == 109)) h25 rfl fun a28 h28 => ?_; clear h25
     refine pk0 (v := .bool (c == 109)) h28 rfl fun a29 h29 => ?_; clear h28
     refine pl_nil ?_
     refine co_then ?_
     cases hc30 : (c == 109)
     ·
      rw [hc30] at h29
      have hp31 : ¬ (c = 109) := by first | simpa using hc30 | simpa [and_assoc] using hc30
      clear hc30
      refine co_false h29 rfl ?_
      refine co_reg ?_
      refine pk0 (v := .bool (c == 112)) h29 rfl fun a32 h32 => ?_; clear h29
      refine pk0 (v := .bool (c == 112)) h32 rfl fun a33 h33 => ?_; clear h32
      refine pl_nil ?_
      refine co_then ?_
      cases hc34 : (c == 112)
      ·
       rw [hc34] at h33
       have hp35 : ¬ (c = 112) := by first | simpa using hc34 | simpa [and_assoc] using hc34
       clear hc34
       refine co_false h33 rfl ?_
       refine co_seq ?_
       refine co_reg ?_
       refine pk0 (v := .bool (c == 120)) h33 rfl fun a36 h36 => ?_; clear h33
       refine pk0 (v := .bool (c == 120)) h36 rfl fun a37 h37 => ?_; clear h36
       refine pl_nil ?_
       refine co_then ?_
       cases hc38 : (c == 120)
       ·
        rw [hc38] at h37
        have hp39 : ¬ (c = 120) := by first | simpa using hc38 | simpa [and_assoc] using hc38
        clear hc38
        refine co_false h37 rfl ?_
        refine co_seq ?_
        refine co_reg ?_
        refine pk0 (v := .bool (c == 107)) h37 rfl fun a40 h40 => ?_; clear h37
        refine pk0 (v := .bool (c == 107)) h40 rfl fun a41 h41 => ?_; clear h40
        refine pl_nil ?_
        refine co_then ?_
        cases hc42 : (c == 107)
        ·
         rw [hc42] at h41
         have hp43 : ¬ (c = 107) := by first | simpa using hc42 | simpa [and_assoc] using hc42
         clear hc42
         refine co_false h41 rfl ?_
         refine co_seq ?_
         refine co_reg ?_
         refine pk0 (v := .bool (c == 116)) h41 rfl fun a44 h44 => ?_; clear h41
         refine pk0 (v := .bool (c == 116)) h44 rfl fun a45 h45 => ?_; clear h44
         refine pl_nil ?_
         refine co_then ?_
         cases hc46 : (c == 116)
         ·
          rw [hc46] at h45
          have hp47 : ¬ (c = 116) := by first | simpa using hc46 | simpa [and_assoc] using hc46
          clear hc46
          refine co_false h45 rfl ?_
          refine co_seq ?_
          refine co_reg ?_
          refine pk0 (v := .bool (c == 67)) h45 rfl fun a48 h48 => ?_; clear h45
          refine pk0 (v := .bool (c == 67)) h48 rfl fun a49 h49 => ?_; clear h48
          refine pl_nil ?_
          refine co_then ?_
          cases hc50 : (c == 67)
          ·
           rw [hc50] at h49
           have hp51 : ¬ (c = 67) := by first | simpa using hc50 | simpa [and_assoc] using hc50
           clear hc50
           refine co_false h49 rfl ?_
           refine co_seq ?_
           refine co_reg ?_
           refine pk0 (v := .bool (c == 66)) h49 rfl fun a52 h52 => ?_; clear h49
           refine pk0 (v := .bool (c == 66)) h52 rfl fun a53 h53 => ?_; clear h52
           refine pl_nil ?_
           refine co_then ?_
           cases hc54 : (c == 66)
           ·
            rw [hc54] at h53
            have hp55 : ¬ (c = 66) := by first | simpa using hc54 | simpa [and_assoc] using hc54
            clear hc54
            refine co_false h53 rfl ?_
            refine co_seq ?_
            refine co_reg ?_
            refine pk0 (v := .bool (c == 69)) h53 rfl fun a56 h56 => ?_; clear h53
            refine pk0 (v := .bool (c == 69)) h56 rfl fun a57 h57 => ?_; clear h56
            refine pl_nil ?_
            refine co_then ?_
            cases hc58 : (c == 69)
            ·
             rw [hc58] at h57
             have hp59 : ¬ (c = 69) := by first | simpa using hc58 | simpa [and_assoc] using hc58
             clear hc58
             refine co_false h57 rfl ?_
             refine co_seq ?_
             refine co_reg ?_
             refine pk0 (v := .bool (c == 83)) h57 rfl fun a60 h60 => ?_; clear h57
             refine pk0 (v := .bool (c == 83)) h60 rfl fun a61 h61 => ?_; clear h60
             refine pl_nil ?_
             refine co_then ?_
             cases hc62 : (c == 83)
             ·
              rw [hc62] at h61
              have hp63 : ¬ (c = 83) := by first | simpa using hc62 | simpa [and_assoc] using hc62
              clear hc62
              refine co_false h61 rfl ?_
              refine co_seq ?_
              refine co_reg ?_
              refine pk0 (v := .bool (c == 82)) h61 rfl fun a64 h64 => ?_; clear h61
              refine pk0 (v := .bool (c == 82)) h64 rfl fun a65 h65 => ?_; clear h64
              refine pl_nil ?_
              refine co_then ?_
              cases hc66 : (c == 82)
              ·
               rw [hc66] at h65
               have hp67 : ¬ (c = 82) := by first | simpa using hc66 | simpa [and_assoc] using hc66
               clear hc66
               refine co_false h65 rfl ?_
               refine wp_skip ?_
               refine co_blockN ?_
               refine co_then ?_
               refine co_seq ?_
               refine co_reg ?_
               refine pk0 (v := .int .i64 0) h65 rfl fun a68 h68 => ?_; clear h65
               refine pl_nil ?_
               refine co_then ?_
               refine wp_ret ?_
               refine co_ret1 h68 rfl rfl ?_
               exact ⟨ret_int (by rw [cp_0 (by omega)]), hB14⟩
              ·
               rw [hc66] at h65
               have hp69 : c = 82 := by first | simpa using hc66 | simpa [and_assoc] using hc66
               clear hc66
               refine co_true h65 rfl ?_
               refine co_seq ?_
               refine co_reg ?_
               refine pk0 (v := pt N3 21) h65 rfl fun a70 h70 => ?_; clear h65
               refine pk (v := pv) h70 rfl (rn_load1 rfl rfl Try.isAgg35 (hk5.cell rfl)) fun a71 h71 => ?_; clear h70
               refine pw h71 rfl (op_call (args := #[pv]) (R := fun res xw => res = .int .i64 (chkLs 32 chkPair d.pr) ∧ Below w2.heap.size w2 xw) rfl rfl rfl (by kernel_rfl) (by kernel_rfl) (Try.call106 _ _) (rmPairs_any pv d.pr w2 (hp.below hB14)) (by rintro e x ⟨rfl, hb74⟩; exact ⟨_, rfl, ⟨rfl, hb74⟩⟩)) ?_; clear h71
               rintro _ w73 a72 ⟨rfl, hb74⟩ h72
               have hz75 := hb74.size
               refine pk0 (v := .int .i64 (chkLs 32 chkPair d.pr)) h72 rfl fun a76 h76 => ?_; clear h72
               refine pl_nil ?_
               refine co_then ?_
               refine wp_ret ?_
               refine co_blockR ?_
               refine co_thenR ?_
               refine co_ret1 h76 rfl rfl ?_
               have hB77 := hb_call hB14 hb74
               exact ⟨ret_int (by rw [cp_R (by omega)]), hB77⟩
             ·
              rw [hc62] at h61
              have hp78 : c = 83 := by first | simpa using hc62 | simpa [and_assoc] using hc62
              clear hc62
              refine co_true h61 rfl ?_
              refine co_seq ?_
              refine co_reg ?_
              refine pk0 (v := pt N3 20) h61 rfl fun a79 h79 => ?_; clear h61
              refine pk (v := sv) h79 rfl (rn_load1 rfl rfl Try.isAgg34 (hk5.cell rfl)) fun a80 h80 => ?_; clear h79
              refine pk (v := .int .i64 ((d.st.length : Nat) : Int)) h80 rfl (rn_len rfl rfl Try.underlying34 (ht.below hB14)) fun a81 h81 => ?_; clear h80
              refine pk0 (v := .bool (decide (((d.st.length : Nat) : Int) > 8))) h81 rfl fun a82 h82 => ?_; clear h81
              refine pl_nil ?_
              refine co_then ?_
              cases hc83 : (decide (((d.st.length : Nat) : Int) > 8))
              ·
               rw [hc83] at h82
               have hp84 : ¬ (((d.st.length : Nat) : Int) > 8) := of_decide_eq_false hc83
               clear hc83
               refine co_false h82 rfl ?_
               refine wp_skip ?_
               refine co_blockN ?_
               refine co_then ?_
               refine co_seq ?_
               refine co_reg ?_
               refine pk0 (v := .int .i64 0) h82 rfl fun a85 h85 => ?_; clear h82
               refine pl_nil ?_
               refine co_then ?_
               refine wp_ret ?_
               refine co_ret1 h85 rfl rfl ?_
               exact ⟨ret_int (by rw [cp_S (by omega)]; unfold chkLs; first | rw [if_pos (by omega)] | rw [if_neg (by omega), cS_all]), hB14⟩
              ·
               rw [hc83] at h82
               have hp86 : ((d.st.length : Nat) : Int) > 8 := of_decide_eq_true hc83
               clear hc83
               refine co_true h82 rfl ?_
               refine co_seq ?_
               refine co_reg ?_
               refine pk0 (v := .int .i64 6) h82 rfl fun a87 h87 => ?_; clear h82
               refine pl_nil ?_
               refine co_then ?_
               refine wp_ret ?_
               refine co_blockR ?_
               refine co_thenR ?_
               refine co_ret1 h87 rfl rfl ?_
               exact ⟨ret_int (by rw [cp_S (by omega)]; unfold chkLs; first | rw [if_pos (by omega)] | rw [if_neg (by omega), cS_all]), hB14⟩
            ·
             rw [hc58] at h57
             have hp88 : c = 69 := by first | simpa using hc58 | simpa [and_assoc] using hc58
             clear hc58
             refine co_true h57 rfl ?_
             refine co_seq ?_
             refine co_reg ?_
             refine pk0 (v := pt N3 19) h57 rfl fun a89 h89 => ?_; clear h57
             refine pk (v := ev) h89 rfl (rn_load1 rfl rfl Try.isAgg33 (hk5.cell rfl)) fun a90 h90 => ?_; clear h89
             refine pw h90 rfl (op_call (args := #[ev]) (R := fun res xw => res = .int .i64 (chkLs 4 chkEn d.en) ∧ Below w2.heap.size w2 xw) rfl rfl rfl (by kernel_rfl) (by kernel_rfl) (Try.call105 _ _) (rmEntries_any ev d.en w2 (he.below hB14) (fun z hz => (hok z hz).below hB14)) (by rintro e x ⟨rfl, hb93⟩; exact ⟨_, rfl, ⟨rfl, hb93⟩⟩)) ?_; clear h90
             rintro _ w92 a91 ⟨rfl, hb93⟩ h91
             have hz94 := hb93.size
             refine pk0 (v := .int .i64 (chkLs 4 chkEn d.en)) h91 rfl fun a95 h95 => ?_; clear h91
             refine pl_nil ?_
             refine co_then ?_
             refine wp_ret ?_
             refine co_blockR ?_
             refine co_thenR ?_
             refine co_ret1 h95 rfl rfl ?_
             have hB96 := hb_call hB14 hb93
             exact ⟨ret_int (by rw [cp_L (by omega)]), hB96⟩
           ·
            rw [hc54] at h53
            have hp97 : c = 66 := by first | simpa using hc54 | simpa [and_assoc] using hc54
            clear hc54
            refine co_true h53 rfl ?_
            refine co_seq ?_
            refine co_reg ?_
            refine pk0 (v := pt N3 16) h53 rfl fun a98 h98 => ?_; clear h53
            refine pk (v := .agg #[.int .i64 d.bc, .int .i64 d.br, bv]) h98 rfl (rn_loadN rfl rfl Try.underlying32 rfl (by kernel_rfl) (blk_part hk5 16 (by rfl))) fun a99 h99 => ?_; clear h98
            refine pw h99 rfl (op_call (args := #[.agg #[.int .i64 d.bc, .int .i64 d.br, bv]]) (R := fun res xw => res = .int .i64 (chkB d.bc d.br d.bl) ∧ Below w2.heap.size w2 xw) rfl rfl rfl (by kernel_rfl) (by kernel_rfl) (Try.call82 _ _) (ropsCheck_any d.bc d.br bv d.bl w2 (hb.below hB14)) (by rintro e x ⟨rfl, hb102⟩; exact ⟨_, rfl, ⟨rfl, hb102⟩⟩)) ?_; clear h99
            rintro _ w101 a100 ⟨rfl, hb102⟩ h100
            have hz103 := hb102.size
            refine pk0 (v := .int .i64 (chkB d.bc d.br d.bl)) h100 rfl fun a104 h104 => ?_; clear h100
            refine pl_nil ?_
            refine co_then ?_
            refine wp_ret ?_
            refine co_blockR ?_
            refine co_thenR ?_
            refine co_ret1 h104 rfl rfl ?_
            have hB105 := hb_call hB14 hb102
            exact ⟨ret_int (by rw [cp_B (by omega)]), hB105⟩
          ·
           rw [hc50] at h49
           have hp106 : c = 67 := by first | simpa using hc50 | simpa [and_assoc] using hc50
           clear hc50
           refine co_true h49 rfl ?_
           refine co_seq ?_
           refine co_reg ?_
           refine pk0 (v := pt N3 13) h49 rfl fun a107 h107 => ?_; clear h49
           refine pk (v := .agg #[.int .i64 d.cep, mv, .int .u64 d.cfl]) h107 rfl (rn_loadN rfl rfl Try.underlying29 rfl (by kernel_rfl) (blk_part hk5 13 (by rfl))) fun a108 h108 => ?_; clear h107
           refine pw h108 rfl (op_call (args := #[.agg #[.int .i64 d.cep, mv, .int .u64 d.cfl]]) (R := fun res xw => res = .int .i64 (chkC d.cep d.cms) ∧ Below w2.heap.size w2 xw) rfl rfl rfl (by kernel_rfl) (by kernel_rfl) (Try.call104 _ _) (wrcheck_any d.cep mv d.cms d.cfl w2 (hm.below hB14) hR.mem (by omega) (by omega)) (by rintro e x ⟨rfl, hb111⟩; exact ⟨_, rfl, ⟨rfl, hb111⟩⟩)) ?_; clear h108
           rintro _ w110 a109 ⟨rfl, hb111⟩ h109
           have hz112 := hb111.size
           refine pk0 (v := .int .i64 (chkC d.cep d.cms)) h109 rfl fun a113 h113 => ?_; clear h109
           refine pl_nil ?_
           refine co_then ?_
           refine wp_ret ?_
           refine co_blockR ?_
           refine co_thenR ?_
           refine co_ret1 h113 rfl rfl ?_
           have hB114 := hb_call hB14 hb111
           exact ⟨ret_int (by rw [cp_C (by omega)]), hB114⟩
         ·
          rw [hc46] at h45
          have hp115 : c = 116 := by first | simpa using hc46 | simpa [and_assoc] using hc46
          clear hc46
          refine co_true h45 rfl ?_
          refine co_seq ?_
          refine co_reg ?_
          refine pk0 (v := pt N3 12) h45 rfl fun a116 h116 => ?_; clear h45
          refine pk (v := .string d.to_) h116 rfl (rn_load1 rfl rfl Try.isAgg9 (hk5.cell rfl)) fun a117 h117 => ?_; clear h116
          refine pk (v := .int .i64 ((d.to_.size : Nat) : Int)) h117 rfl (rn_lenStr rfl rfl Try.underlying9) fun a118 h118 => ?_; clear h117
          refine pk0 (v := .bool (decide (((d.to_.size : Nat) : Int) > 8))) h118 rfl fun a119 h119 => ?_; clear h118
          refine pl_nil ?_
          refine co_then ?_
          cases hc120 : (decide (((d.to_.size : Nat) : Int) > 8))
          ·
           rw [hc120] at h119
           have hp121 : ¬ (((d.to_.size : Nat) : Int) > 8) := of_decide_eq_false hc120
           clear hc120
           refine co_false h119 rfl ?_
           refine wp_skip ?_
           refine co_blockN ?_
           refine co_then ?_
           refine co_seq ?_
           refine co_reg ?_
           refine pk0 (v := .int .i64 0) h119 rfl fun a122 h122 => ?_; clear h119
           refine pl_nil ?_
           refine co_then ?_
           refine wp_ret ?_
           refine co_ret1 h122 rfl rfl ?_
           exact ⟨ret_int (by rw [cp_t (by omega)]; first | rw [if_pos (by omega)] | rw [if_neg (by omega)]), hB14⟩
          ·
           rw [hc120] at h119
           have hp123 : ((d.to_.size : Nat) : Int) > 8 := of_decide_eq_true hc120
           clear hc120
           refine co_true h119 rfl ?_
           refine co_seq ?_
           refine co_reg ?_
           refine pk0 (v := .int .i64 3) h119 rfl fun a124 h124 => ?_; clear h119
           refine pl_nil ?_
           refine co_then ?_
           refine wp_ret ?_
           refine co_blockR ?_
           refine co_thenR ?_
           refine co_ret1 h124 rfl rfl ?_
           exact ⟨ret_int (by rw [cp_t (by omega)]; first | rw [if_pos (by omega)] | rw [if_neg (by omega)]), hB14⟩
        ·
         rw [hc42] at h41
         have hp125 : c = 107 := by first | simpa using hc42 | simpa [and_assoc] using hc42
         clear hc42
         refine co_true h41 rfl ?_
         refine co_seq ?_
         refine co_reg ?_
         refine pk0 (v := pt N3 11) h41 rfl fun a126 h126 => ?_; clear h41
         refine pk (v := .string d.key) h126 rfl (rn_load1 rfl rfl Try.isAgg9 (hk5.cell rfl)) fun a127 h127 => ?_; clear h126
         refine pk (v := .int .i64 ((d.key.size : Nat) : Int)) h127 rfl (rn_lenStr rfl rfl Try.underlying9) fun a128 h128 => ?_; clear h127
         refine pk0 (v := .bool (decide (((d.key.size : Nat) : Int) > 8))) h128 rfl fun a129 h129 => ?_; clear h128
         refine pl_nil ?_
         refine co_then ?_
         cases hc130 : (decide (((d.key.size : Nat) : Int) > 8))
         ·
          rw [hc130] at h129
          have hp131 : ¬ (((d.key.size : Nat) : Int) > 8) := of_decide_eq_false hc130
          clear hc130
          refine co_false h129 rfl ?_
          refine wp_skip ?_
          refine co_blockN ?_
          refine co_then ?_
          refine co_seq ?_
          refine co_reg ?_
          refine pk0 (v := .int .i64 0) h129 rfl fun a132 h132 => ?_; clear h129
          refine pl_nil ?_
          refine co_then ?_
          refine wp_ret ?_
          refine co_ret1 h132 rfl rfl ?_
          exact ⟨ret_int (by rw [cp_k (by omega)]; first | rw [if_pos (by omega)] | rw [if_neg (by omega)]), hB14⟩
         ·
          rw [hc130] at h129
          have hp133 : ((d.key.size : Nat) : Int) > 8 := of_decide_eq_true hc130
          clear hc130
          refine co_true h129 rfl ?_
          refine co_seq ?_
          refine co_reg ?_
          refine pk0 (v := .int .i64 3) h129 rfl fun a134 h134 => ?_; clear h129
          refine pl_nil ?_
          refine co_then ?_
          refine wp_ret ?_
          refine co_blockR ?_
          refine co_thenR ?_
          refine co_ret1 h134 rfl rfl ?_
          exact ⟨ret_int (by rw [cp_k (by omega)]; first | rw [if_pos (by omega)] | rw [if_neg (by omega)]), hB14⟩
       ·
        rw [hc38] at h37
        have hp135 : c = 120 := by first | simpa using hc38 | simpa [and_assoc] using hc38
        clear hc38
        refine co_true h37 rfl ?_
        refine co_seq ?_
        refine co_reg ?_
        refine pk0 (v := pt N3 10) h37 rfl fun a136 h136 => ?_; clear h37
        refine pk (v := .int .i64 d.e) h136 rfl (rn_load1 rfl rfl Try.isAgg26 (hk5.cell rfl)) fun a137 h137 => ?_; clear h136
        refine pk0 (v := .bool (decide (d.e < 0))) h137 rfl fun a138 h138 => ?_; clear h137
        refine pk0 (v := .bool (decide (d.e < 0))) h138 rfl fun a139 h139 => ?_; clear h138
        cases hc140 : (decide (d.e < 0))
        ·
         rw [hc140] at h139
         have hp141 : ¬ (d.e < 0) := of_decide_eq_false hc140
         clear hc140
         refine pk0 (v := pt N3 10) h139 rfl fun a142 h142 => ?_; clear h139
         refine pk (v := .int .i64 d.e) h142 rfl (rn_load1 rfl rfl Try.isAgg26 (hk5.cell rfl)) fun a143 h143 => ?_; clear h142
         refine pk0 (v := .bool (decide (d.e > 21))) h143 rfl fun a144 h144 => ?_; clear h143
         refine pk0 (v := .bool (decide (d.e > 21))) h144 rfl fun a145 h145 => ?_; clear h144
         refine pl_nil ?_
         refine co_then ?_
         cases hc146 : (decide (d.e > 21))
         ·
          rw [hc146] at h145
          have hp147 : ¬ (d.e > 21) := of_decide_eq_false hc146
          clear hc146
          refine co_false h145 rfl ?_
          refine wp_skip ?_
          refine co_blockN ?_
          refine co_then ?_
          refine co_seq ?_
          refine co_reg ?_
          refine pk0 (v := .int .i64 0) h145 rfl fun a148 h148 => ?_; clear h145
          refine pl_nil ?_
          refine co_then ?_
          refine wp_ret ?_
          refine co_ret1 h148 rfl rfl ?_
          exact ⟨ret_int (by rw [cp_x (by omega)]; first | rw [if_pos (by omega)] | rw [if_neg (by omega)]), hB14⟩
         ·
          rw [hc146] at h145
          have hp149 : d.e > 21 := of_decide_eq_true hc146
          clear hc146
          refine co_true h145 rfl ?_
          refine co_seq ?_
          refine co_reg ?_
          refine pk0 (v := .int .i64 1) h145 rfl fun a150 h150 => ?_; clear h145
          refine pl_nil ?_
          refine co_then ?_
          refine wp_ret ?_
          refine co_blockR ?_
          refine co_thenR ?_
          refine co_ret1 h150 rfl rfl ?_
          exact ⟨ret_int (by rw [cp_x (by omega)]; first | rw [if_pos (by omega)] | rw [if_neg (by omega)]), hB14⟩
        ·
         rw [hc140] at h139
         have hp151 : d.e < 0 := of_decide_eq_true hc140
         clear hc140
         refine psk h139 rfl fun a152 h152 => ?_; clear h139
         refine psk h152 rfl fun a153 h153 => ?_; clear h152
         refine psk h153 rfl fun a154 h154 => ?_; clear h153
         refine pk0 (v := .bool true) h154 rfl fun a155 h155 => ?_; clear h154
         refine pl_nil ?_
         refine co_then ?_
         refine co_true h155 rfl ?_
         refine co_seq ?_
         refine co_reg ?_
         refine pk0 (v := .int .i64 1) h155 rfl fun a156 h156 => ?_; clear h155
         refine pl_nil ?_
         refine co_then ?_
         refine wp_ret ?_
         refine co_blockR ?_
         refine co_thenR ?_
         refine co_ret1 h156 rfl rfl ?_
         exact ⟨ret_int (by rw [cp_x (by omega)]; first | rw [if_pos (by omega)] | rw [if_neg (by omega)]), hB14⟩
      ·
       rw [hc34] at h33
       have hp157 : c = 112 := by first | simpa using hc34 | simpa [and_assoc] using hc34
       clear hc34
       refine co_true h33 rfl ?_
       refine co_seq ?_
       refine co_reg ?_
       refine pk (v := .agg #[.int .i64 d.k, .int .i64 d.ep, .int .i64 d.rq, .int .i64 d.sr, .bool d.fg, .int .u64 d.at_, .int .u64 d.la, .int .i64 d.n, .int .i64 d.m, .int .i64 d.p, .int .i64 d.e, .string d.key, .string d.to_, .int .i64 d.cep, mv, .int .u64 d.cfl, .int .i64 d.bc, .int .i64 d.br, bv, ev, sv, pv]) h33 rfl (rn_loadN rfl rfl Try.underlying37 rfl (by kernel_rfl) hk5.all) fun a158 h158 => ?_; clear h33
       refine pk0 (v := .int .u8 c) h158 rfl fun a159 h159 => ?_; clear h158
       refine pw h159 rfl (op_call (args := #[.agg #[.int .i64 d.k, .int .i64 d.ep, .int .i64 d.rq, .int .i64 d.sr, .bool d.fg, .int .u64 d.at_, .int .u64 d.la, .int .i64 d.n, .int .i64 d.m, .int .i64 d.p, .int .i64 d.e, .string d.key, .string d.to_, .int .i64 d.cep, mv, .int .u64 d.cfl, .int .i64 d.bc, .int .i64 d.br, bv, ev, sv, pv], .int .u8 c]) (R := fun res xw => res = .int .i64 (numP d (plet c)) ∧ Below w2.heap.size w2 xw) rfl rfl rfl (by kernel_rfl) (by kernel_rfl) (Try.call103 _ _) (rmNumber_any d mv bv ev sv pv c w2 (hm.below hB14) (hb.below hB14) (he.below hB14) (ht.below hB14) (hp.below hB14) (by omega)) (by rintro e x ⟨rfl, hb162⟩; exact ⟨_, rfl, ⟨rfl, hb162⟩⟩)) ?_; clear h159
       rintro _ w161 a160 ⟨rfl, hb162⟩ h160
       have hz163 := hb162.size
       refine pk0 (v := .int .i64 (numP d (plet c))) h160 rfl fun a164 h164 => ?_; clear h160
       refine pl_nil ?_
       refine co_then ?_
       refine co_seq ?_
       refine co_reg ?_
       refine pk0 (v := .int .i64 (numP d (plet c))) h164 rfl fun a165 h165 => ?_; clear h164
       refine pk0 (v := .bool (decide (numP d (plet c) < 0))) h165 rfl fun a166 h166 => ?_; clear h165
       refine pk0 (v := .bool (decide (numP d (plet c) < 0))) h166 rfl fun a167 h167 => ?_; clear h166
       have hB169 := hb_call hB14 hb162
       cases hc168 : (decide (numP d (plet c) < 0))
       ·
        rw [hc168] at h167
        have hp170 : ¬ (numP d (plet c) < 0) := of_decide_eq_false hc168
        clear hc168
        refine pk0 (v := .int .i64 (numP d (plet c))) h167 rfl fun a171 h171 => ?_; clear h167
        refine pk0 (v := .bool (decide (numP d (plet c) > 1073741824))) h171 rfl fun a172 h172 => ?_; clear h171
        refine pk0 (v := .bool (decide (numP d (plet c) > 1073741824))) h172 rfl fun a173 h173 => ?_; clear h172
        refine pl_nil ?_
        refine co_then ?_
        cases hc174 : (decide (numP d (plet c) > 1073741824))
        ·
         rw [hc174] at h173
         have hp175 : ¬ (numP d (plet c) > 1073741824) := of_decide_eq_false hc174
         clear hc174
         refine co_false h173 rfl ?_
         refine wp_skip ?_
         refine co_blockN ?_
         refine co_then ?_
         refine co_seq ?_
         refine co_reg ?_
         refine pk0 (v := .int .i64 0) h173 rfl fun a176 h176 => ?_; clear h173
         refine pl_nil ?_
         refine co_then ?_
         refine wp_ret ?_
         refine co_ret1 h176 rfl rfl ?_
         exact ⟨ret_int (by rw [cp_n (by omega)]; first | rw [if_pos (by omega)] | rw [if_neg (by omega)]), hB169⟩
        ·
         rw [hc174] at h173
         have hp177 : numP d (plet c) > 1073741824 := of_decide_eq_true hc174
         clear hc174
         refine co_true h173 rfl ?_
         refine co_seq ?_
         refine co_reg ?_
         refine pk0 (v := .int .i64 5) h173 rfl fun a178 h178 => ?_; clear h173
         refine pl_nil ?_
         refine co_then ?_
         refine wp_ret ?_
         refine co_blockR ?_
         refine co_thenR ?_
         refine co_ret1 h178 rfl rfl ?_
         exact ⟨ret_int (by rw [cp_n (by omega)]; first | rw [if_pos (by omega)] | rw [if_neg (by omega)]), hB169⟩
       ·
        rw [hc168] at h167
        have hp179 : numP d (plet c) < 0 := of_decide_eq_true hc168
        clear hc168
        refine psk h167 rfl fun a180 h180 => ?_; clear h167
        refine psk h180 rfl fun a181 h181 => ?_; clear h180
        refine pk0 (v := .bool true) h181 rfl fun a182 h182 => ?_; clear h181
        refine pl_nil ?_
        refine co_then ?_
        refine co_true h182 rfl ?_
        refine co_seq ?_
        refine co_reg ?_
        refine pk0 (v := .int .i64 5) h182 rfl fun a183 h183 => ?_; clear h182
        refine pl_nil ?_
        refine co_then ?_
        refine wp_ret ?_
        refine co_blockR ?_
        refine co_thenR ?_
        refine co_ret1 h183 rfl rfl ?_
        exact ⟨ret_int (by rw [cp_n (by omega)]; first | rw [if_pos (by omega)] | rw [if_neg (by omega)]), hB169⟩
     ·
      rw [hc30] at h29
      have hp184 : c = 109 := by first | simpa using hc30 | simpa [and_assoc] using hc30
      clear hc30
      refine co_true h29 rfl ?_
      refine wp_skip ?_
      refine co_then ?_
      refine co_true h29 rfl ?_
      refine co_seq ?_
      refine co_reg ?_
      refine pk (v := .agg #[.int .i64 d.k, .int .i64 d.ep, .int .i64 d.rq, .int .i64 d.sr, .bool d.fg, .int .u64 d.at_, .int .u64 d.la, .int .i64 d.n, .int .i64 d.m, .int .i64 d.p, .int .i64 d.e, .string d.key, .string d.to_, .int .i64 d.cep, mv, .int .u64 d.cfl, .int .i64 d.bc, .int .i64 d.br, bv, ev, sv, pv]) h29 rfl (rn_loadN rfl rfl Try.underlying37 rfl (by kernel_rfl) hk5.all) fun a185 h185 => ?_; clear h29
      refine pk0 (v := .int .u8 c) h185 rfl fun a186 h186 => ?_; clear h185
      refine pw h186 rfl (op_call (args := #[.agg #[.int .i64 d.k, .int .i64 d.ep, .int .i64 d.rq, .int .i64 d.sr, .bool d.fg, .int .u64 d.at_, .int .u64 d.la, .int .i64 d.n, .int .i64 d.m, .int .i64 d.p, .int .i64 d.e, .string d.key, .string d.to_, .int .i64 d.cep, mv, .int .u64 d.cfl, .int .i64 d.bc, .int .i64 d.br, bv, ev, sv, pv], .int .u8 c]) (R := fun res xw => res = .int .i64 (numP d (plet c)) ∧ Below w2.heap.size w2 xw) rfl rfl rfl (by kernel_rfl) (by kernel_rfl) (Try.call103 _ _) (rmNumber_any d mv bv ev sv pv c w2 (hm.below hB14) (hb.below hB14) (he.below hB14) (ht.below hB14) (hp.below hB14) (by omega)) (by rintro e x ⟨rfl, hb189⟩; exact ⟨_, rfl, ⟨rfl, hb189⟩⟩)) ?_; clear h186
      rintro _ w188 a187 ⟨rfl, hb189⟩ h187
      have hz190 := hb189.size
      refine pk0 (v := .int .i64 (numP d (plet c))) h187 rfl fun a191 h191 => ?_; clear h187
      refine pl_nil ?_
      refine co_then ?_
      refine co_seq ?_
      refine co_reg ?_
      refine pk0 (v := .int .i64 (numP d (plet c))) h191 rfl fun a192 h192 => ?_; clear h191
      refine pk0 (v := .bool (decide (numP d (plet c) < 0))) h192 rfl fun a193 h193 => ?_; clear h192
      refine pk0 (v := .bool (decide (numP d (plet c) < 0))) h193 rfl fun a194 h194 => ?_; clear h193
      have hB196 := hb_call hB14 hb189
      cases hc195 : (decide (numP d (plet c) < 0))
      ·
       rw [hc195] at h194
       have hp197 : ¬ (numP d (plet c) < 0) := of_decide_eq_false hc195
       clear hc195
       refine pk0 (v := .int .i64 (numP d (plet c))) h194 rfl fun a198 h198 => ?_; clear h194
       refine pk0 (v := .bool (decide (numP d (plet c) > 1073741824))) h198 rfl fun a199 h199 => ?_; clear h198
       refine pk0 (v := .bool (decide (numP d (plet c) > 1073741824))) h199 rfl fun a200 h200 => ?_; clear h199
       refine pl_nil ?_
       refine co_then ?_
       cases hc201 : (decide (numP d (plet c) > 1073741824))
       ·
        rw [hc201] at h200
        have hp202 : ¬ (numP d (plet c) > 1073741824) := of_decide_eq_false hc201
        clear hc201
        refine co_false h200 rfl ?_
        refine wp_skip ?_
        refine co_blockN ?_
        refine co_then ?_
        refine co_seq ?_
        refine co_reg ?_
        refine pk0 (v := .int .i64 0) h200 rfl fun a203 h203 => ?_; clear h200
        refine pl_nil ?_
        refine co_then ?_
        refine wp_ret ?_
        refine co_ret1 h203 rfl rfl ?_
        exact ⟨ret_int (by rw [cp_n (by omega)]; first | rw [if_pos (by omega)] | rw [if_neg (by omega)]), hB196⟩
       ·
        rw [hc201] at h200
        have hp204 : numP d (plet c) > 1073741824 := of_decide_eq_true hc201
        clear hc201
        refine co_true h200 rfl ?_
        refine co_seq ?_
        refine co_reg ?_
        refine pk0 (v := .int .i64 5) h200 rfl fun a205 h205 => ?_; clear h200
        refine pl_nil ?_
        refine co_then ?_
        refine wp_ret ?_
        refine co_blockR ?_
        refine co_thenR ?_
        refine co_ret1 h205 rfl rfl ?_
        exact ⟨ret_int (by rw [cp_n (by omega)]; first | rw [if_pos (by omega)] | rw [if_neg (by omega)]), hB196⟩
      ·
       rw [hc195] at h194
       have hp206 : numP d (plet c) < 0 := of_decide_eq_true hc195
       clear hc195
       refine psk h194 rfl fun a207 h207 => ?_; clear h194
       refine psk h207 rfl fun a208 h208 => ?_; clear h207
       refine pk0 (v := .bool true) h208 rfl fun a209 h209 => ?_; clear h208
       refine pl_nil ?_
       refine co_then ?_
       refine co_true h209 rfl ?_
       refine co_seq ?_
       refine co_reg ?_
       refine pk0 (v := .int .i64 5) h209 rfl fun a210 h210 => ?_; clear h209
       refine pl_nil ?_
       refine co_then ?_
       refine wp_ret ?_
       refine co_blockR ?_
       refine co_thenR ?_
       refine co_ret1 h210 rfl rfl ?_
       exact ⟨ret_int (by rw [cp_n (by omega)]; first | rw [if_pos (by omega)] | rw [if_neg (by omega)]), hB196⟩
    ·
     rw [hc26] at h25
     have hp211 : c = 110 := by first | simpa using hc26 | simpa [and_assoc] using hc26
     clear hc26
     refine co_true h25 rfl ?_
     refine wp_skip ?_
     refine co_then ?_
     refine co_true h25 rfl ?_
     refine co_seq ?_
     refine co_reg ?_
     refine pk (v := .agg #[.int .i64 d.k, .int .i64 d.ep, .int .i64 d.rq, .int .i64 d.sr, .bool d.fg, .int .u64 d.at_, .int .u64 d.la, .int .i64 d.n, .int .i64 d.m, .int .i64 d.p, .int .i64 d.e, .string d.key, .string d.to_, .int .i64 d.cep, mv, .int .u64 d.cfl, .int .i64 d.bc, .int .i64 d.br, bv, ev, sv, pv]) h25 rfl (rn_loadN rfl rfl Try.underlying37 rfl (by kernel_rfl) hk5.all) fun a212 h212 => ?_; clear h25
     refine pk0 (v := .int .u8 c) h212 rfl fun a213 h213 => ?_; clear h212
     refine pw h213 rfl (op_call (args := #[.agg #[.int .i64 d.k, .int .i64 d.ep, .int .i64 d.rq, .int .i64 d.sr, .bool d.fg, .int .u64 d.at_, .int .u64 d.la, .int .i64 d.n, .int .i64 d.m, .int .i64 d.p, .int .i64 d.e, .string d.key, .string d.to_, .int .i64 d.cep, mv, .int .u64 d.cfl, .int .i64 d.bc, .int .i64 d.br, bv, ev, sv, pv], .int .u8 c]) (R := fun res xw => res = .int .i64 (numP d (plet c)) ∧ Below w2.heap.size w2 xw) rfl rfl rfl (by kernel_rfl) (by kernel_rfl) (Try.call103 _ _) (rmNumber_any d mv bv ev sv pv c w2 (hm.below hB14) (hb.below hB14) (he.below hB14) (ht.below hB14) (hp.below hB14) (by omega)) (by rintro e x ⟨rfl, hb216⟩; exact ⟨_, rfl, ⟨rfl, hb216⟩⟩)) ?_; clear h213
     rintro _ w215 a214 ⟨rfl, hb216⟩ h214
     have hz217 := hb216.size
     refine pk0 (v := .int .i64 (numP d (plet c))) h214 rfl fun a218 h218 => ?_; clear h214
     refine pl_nil ?_
     refine co_then ?_
     refine co_seq ?_
     refine co_reg ?_
     refine pk0 (v := .int .i64 (numP d (plet c))) h218 rfl fun a219 h219 => ?_; clear h218
     refine pk0 (v := .bool (decide (numP d (plet c) < 0))) h219 rfl fun a220 h220 => ?_; clear h219
     refine pk0 (v := .bool (decide (numP d (plet c) < 0))) h220 rfl fun a221 h221 => ?_; clear h220
     have hB223 := hb_call hB14 hb216
     cases hc222 : (decide (numP d (plet c) < 0))
     ·
      rw [hc222] at h221
      have hp224 : ¬ (numP d (plet c) < 0) := of_decide_eq_false hc222
      clear hc222
      refine pk0 (v := .int .i64 (numP d (plet c))) h221 rfl fun a225 h225 => ?_; clear h221
      refine pk0 (v := .bool (decide (numP d (plet c) > 1073741824))) h225 rfl fun a226 h226 => ?_; clear h225
      refine pk0 (v := .bool (decide (numP d (plet c) > 1073741824))) h226 rfl fun a227 h227 => ?_; clear h226
      refine pl_nil ?_
      refine co_then ?_
      cases hc228 : (decide (numP d (plet c) > 1073741824))
      ·
       rw [hc228] at h227
       have hp229 : ¬ (numP d (plet c) > 1073741824) := of_decide_eq_false hc228
       clear hc228
       refine co_false h227 rfl ?_
       refine wp_skip ?_
       refine co_blockN ?_
       refine co_then ?_
       refine co_seq ?_
       refine co_reg ?_
       refine pk0 (v := .int .i64 0) h227 rfl fun a230 h230 => ?_; clear h227
       refine pl_nil ?_
       refine co_then ?_
       refine wp_ret ?_
       refine co_ret1 h230 rfl rfl ?_
       exact ⟨ret_int (by rw [cp_n (by omega)]; first | rw [if_pos (by omega)] | rw [if_neg (by omega)]), hB223⟩
      ·
       rw [hc228] at h227
       have hp231 : numP d (plet c) > 1073741824 := of_decide_eq_true hc228
       clear hc228
       refine co_true h227 rfl ?_
       refine co_seq ?_
       refine co_reg ?_
       refine pk0 (v := .int .i64 5) h227 rfl fun a232 h232 => ?_; clear h227
       refine pl_nil ?_
       refine co_then ?_
       refine wp_ret ?_
       refine co_blockR ?_
       refine co_thenR ?_
       refine co_ret1 h232 rfl rfl ?_
       exact ⟨ret_int (by rw [cp_n (by omega)]; first | rw [if_pos (by omega)] | rw [if_neg (by omega)]), hB223⟩
     ·
      rw [hc222] at h221
      have hp233 : numP d (plet c) < 0 := of_decide_eq_true hc222
      clear hc222
      refine psk h221 rfl fun a234 h234 => ?_; clear h221
      refine psk h234 rfl fun a235 h235 => ?_; clear h234
      refine pk0 (v := .bool true) h235 rfl fun a236 h236 => ?_; clear h235
      refine pl_nil ?_
      refine co_then ?_
      refine co_true h236 rfl ?_
      refine co_seq ?_
      refine co_reg ?_
      refine pk0 (v := .int .i64 5) h236 rfl fun a237 h237 => ?_; clear h236
      refine pl_nil ?_
      refine co_then ?_
      refine wp_ret ?_
      refine co_blockR ?_
      refine co_thenR ?_
      refine co_ret1 h237 rfl rfl ?_
      exact ⟨ret_int (by rw [cp_n (by omega)]; first | rw [if_pos (by omega)] | rw [if_neg (by omega)]), hB223⟩
   ·
    rw [hc22] at h21
    have hp238 : c = 114 := by first | simpa using hc22 | simpa [and_assoc] using hc22
    clear hc22
    refine co_true h21 rfl ?_
    refine wp_skip ?_
    refine co_then ?_
    refine co_true h21 rfl ?_
    refine co_seq ?_
    refine co_reg ?_
    refine pk (v := .agg #[.int .i64 d.k, .int .i64 d.ep, .int .i64 d.rq, .int .i64 d.sr, .bool d.fg, .int .u64 d.at_, .int .u64 d.la, .int .i64 d.n, .int .i64 d.m, .int .i64 d.p, .int .i64 d.e, .string d.key, .string d.to_, .int .i64 d.cep, mv, .int .u64 d.cfl, .int .i64 d.bc, .int .i64 d.br, bv, ev, sv, pv]) h21 rfl (rn_loadN rfl rfl Try.underlying37 rfl (by kernel_rfl) hk5.all) fun a239 h239 => ?_; clear h21
    refine pk0 (v := .int .u8 c) h239 rfl fun a240 h240 => ?_; clear h239
    refine pw h240 rfl (op_call (args := #[.agg #[.int .i64 d.k, .int .i64 d.ep, .int .i64 d.rq, .int .i64 d.sr, .bool d.fg, .int .u64 d.at_, .int .u64 d.la, .int .i64 d.n, .int .i64 d.m, .int .i64 d.p, .int .i64 d.e, .string d.key, .string d.to_, .int .i64 d.cep, mv, .int .u64 d.cfl, .int .i64 d.bc, .int .i64 d.br, bv, ev, sv, pv], .int .u8 c]) (R := fun res xw => res = .int .i64 (numP d (plet c)) ∧ Below w2.heap.size w2 xw) rfl rfl rfl (by kernel_rfl) (by kernel_rfl) (Try.call103 _ _) (rmNumber_any d mv bv ev sv pv c w2 (hm.below hB14) (hb.below hB14) (he.below hB14) (ht.below hB14) (hp.below hB14) (by omega)) (by rintro e x ⟨rfl, hb243⟩; exact ⟨_, rfl, ⟨rfl, hb243⟩⟩)) ?_; clear h240
    rintro _ w242 a241 ⟨rfl, hb243⟩ h241
    have hz244 := hb243.size
    refine pk0 (v := .int .i64 (numP d (plet c))) h241 rfl fun a245 h245 => ?_; clear h241
    refine pl_nil ?_
    refine co_then ?_
    refine co_seq ?_
    refine co_reg ?_
    refine pk0 (v := .int .i64 (numP d (plet c))) h245 rfl fun a246 h246 => ?_; clear h245
    refine pk0 (v := .bool (decide (numP d (plet c) < 0))) h246 rfl fun a247 h247 => ?_; clear h246
    refine pk0 (v := .bool (decide (numP d (plet c) < 0))) h247 rfl fun a248 h248 => ?_; clear h247
    have hB250 := hb_call hB14 hb243
    cases hc249 : (decide (numP d (plet c) < 0))
    ·
     rw [hc249] at h248
     have hp251 : ¬ (numP d (plet c) < 0) := of_decide_eq_false hc249
     clear hc249
     refine pk0 (v := .int .i64 (numP d (plet c))) h248 rfl fun a252 h252 => ?_; clear h248
     refine pk0 (v := .bool (decide (numP d (plet c) > 1073741824))) h252 rfl fun a253 h253 => ?_; clear h252
     refine pk0 (v := .bool (decide (numP d (plet c) > 1073741824))) h253 rfl fun a254 h254 => ?_; clear h253
     refine pl_nil ?_
     refine co_then ?_
     cases hc255 : (decide (numP d (plet c) > 1073741824))
     ·
      rw [hc255] at h254
      have hp256 : ¬ (numP d (plet c) > 1073741824) := of_decide_eq_false hc255
      clear hc255
      refine co_false h254 rfl ?_
      refine wp_skip ?_
      refine co_blockN ?_
      refine co_then ?_
      refine co_seq ?_
      refine co_reg ?_
      refine pk0 (v := .int .i64 0) h254 rfl fun a257 h257 => ?_; clear h254
      refine pl_nil ?_
      refine co_then ?_
      refine wp_ret ?_
      refine co_ret1 h257 rfl rfl ?_
      exact ⟨ret_int (by rw [cp_n (by omega)]; first | rw [if_pos (by omega)] | rw [if_neg (by omega)]), hB250⟩
     ·
      rw [hc255] at h254
      have hp258 : numP d (plet c) > 1073741824 := of_decide_eq_true hc255
      clear hc255
      refine co_true h254 rfl ?_
      refine co_seq ?_
      refine co_reg ?_
      refine pk0 (v := .int .i64 5) h254 rfl fun a259 h259 => ?_; clear h254
      refine pl_nil ?_
      refine co_then ?_
      refine wp_ret ?_
      refine co_blockR ?_
      refine co_thenR ?_
      refine co_ret1 h259 rfl rfl ?_
      exact ⟨ret_int (by rw [cp_n (by omega)]; first | rw [if_pos (by omega)] | rw [if_neg (by omega)]), hB250⟩
    ·
     rw [hc249] at h248
     have hp260 : numP d (plet c) < 0 := of_decide_eq_true hc249
     clear hc249
     refine psk h248 rfl fun a261 h261 => ?_; clear h248
     refine psk h261 rfl fun a262 h262 => ?_; clear h261
     refine pk0 (v := .bool true) h262 rfl fun a263 h263 => ?_; clear h262
     refine pl_nil ?_
     refine co_then ?_
     refine co_true h263 rfl ?_
     refine co_seq ?_
     refine co_reg ?_
     refine pk0 (v := .int .i64 5) h263 rfl fun a264 h264 => ?_; clear h263
     refine pl_nil ?_
     refine co_then ?_
     refine wp_ret ?_
     refine co_blockR ?_
     refine co_thenR ?_
     refine co_ret1 h264 rfl rfl ?_
     exact ⟨ret_int (by rw [cp_n (by omega)]; first | rw [if_pos (by omega)] | rw [if_neg (by omega)]), hB250⟩
  ·
   rw [hc18] at h17
   have hp265 : c = 115 := by first | simpa using hc18 | simpa [and_assoc] using hc18
   clear hc18
   refine co_true h17 rfl ?_
   refine wp_skip ?_
   refine co_then ?_
   refine co_true h17 rfl ?_
   refine co_seq ?_
   refine co_reg ?_
   refine pk (v := .agg #[.int .i64 d.k, .int .i64 d.ep, .int .i64 d.rq, .int .i64 d.sr, .bool d.fg, .int .u64 d.at_, .int .u64 d.la, .int .i64 d.n, .int .i64 d.m, .int .i64 d.p, .int .i64 d.e, .string d.key, .string d.to_, .int .i64 d.cep, mv, .int .u64 d.cfl, .int .i64 d.bc, .int .i64 d.br, bv, ev, sv, pv]) h17 rfl (rn_loadN rfl rfl Try.underlying37 rfl (by kernel_rfl) hk5.all) fun a266 h266 => ?_; clear h17
   refine pk0 (v := .int .u8 c) h266 rfl fun a267 h267 => ?_; clear h266
   refine pw h267 rfl (op_call (args := #[.agg #[.int .i64 d.k, .int .i64 d.ep, .int .i64 d.rq, .int .i64 d.sr, .bool d.fg, .int .u64 d.at_, .int .u64 d.la, .int .i64 d.n, .int .i64 d.m, .int .i64 d.p, .int .i64 d.e, .string d.key, .string d.to_, .int .i64 d.cep, mv, .int .u64 d.cfl, .int .i64 d.bc, .int .i64 d.br, bv, ev, sv, pv], .int .u8 c]) (R := fun res xw => res = .int .i64 (numP d (plet c)) ∧ Below w2.heap.size w2 xw) rfl rfl rfl (by kernel_rfl) (by kernel_rfl) (Try.call103 _ _) (rmNumber_any d mv bv ev sv pv c w2 (hm.below hB14) (hb.below hB14) (he.below hB14) (ht.below hB14) (hp.below hB14) (by omega)) (by rintro e x ⟨rfl, hb270⟩; exact ⟨_, rfl, ⟨rfl, hb270⟩⟩)) ?_; clear h267
   rintro _ w269 a268 ⟨rfl, hb270⟩ h268
   have hz271 := hb270.size
   refine pk0 (v := .int .i64 (numP d (plet c))) h268 rfl fun a272 h272 => ?_; clear h268
   refine pl_nil ?_
   refine co_then ?_
   refine co_seq ?_
   refine co_reg ?_
   refine pk0 (v := .int .i64 (numP d (plet c))) h272 rfl fun a273 h273 => ?_; clear h272
   refine pk0 (v := .bool (decide (numP d (plet c) < 0))) h273 rfl fun a274 h274 => ?_; clear h273
   refine pk0 (v := .bool (decide (numP d (plet c) < 0))) h274 rfl fun a275 h275 => ?_; clear h274
   have hB277 := hb_call hB14 hb270
   cases hc276 : (decide (numP d (plet c) < 0))
   ·
    rw [hc276] at h275
    have hp278 : ¬ (numP d (plet c) < 0) := of_decide_eq_false hc276
    clear hc276
    refine pk0 (v := .int .i64 (numP d (plet c))) h275 rfl fun a279 h279 => ?_; clear h275
    refine pk0 (v := .bool (decide (numP d (plet c) > 1073741824))) h279 rfl fun a280 h280 => ?_; clear h279
    refine pk0 (v := .bool (decide (numP d (plet c) > 1073741824))) h280 rfl fun a281 h281 => ?_; clear h280
    refine pl_nil ?_
    refine co_then ?_
    cases hc282 : (decide (numP d (plet c) > 1073741824))
    ·
     rw [hc282] at h281
     have hp283 : ¬ (numP d (plet c) > 1073741824) := of_decide_eq_false hc282
     clear hc282
     refine co_false h281 rfl ?_
     refine wp_skip ?_
     refine co_blockN ?_
     refine co_then ?_
     refine co_seq ?_
     refine co_reg ?_
     refine pk0 (v := .int .i64 0) h281 rfl fun a284 h284 => ?_; clear h281
     refine pl_nil ?_
     refine co_then ?_
     refine wp_ret ?_
     refine co_ret1 h284 rfl rfl ?_
     exact ⟨ret_int (by rw [cp_n (by omega)]; first | rw [if_pos (by omega)] | rw [if_neg (by omega)]), hB277⟩
    ·
     rw [hc282] at h281
     have hp285 : numP d (plet c) > 1073741824 := of_decide_eq_true hc282
     clear hc282
     refine co_true h281 rfl ?_
     refine co_seq ?_
     refine co_reg ?_
     refine pk0 (v := .int .i64 5) h281 rfl fun a286 h286 => ?_; clear h281
     refine pl_nil ?_
     refine co_then ?_
     refine wp_ret ?_
     refine co_blockR ?_
     refine co_thenR ?_
     refine co_ret1 h286 rfl rfl ?_
     exact ⟨ret_int (by rw [cp_n (by omega)]; first | rw [if_pos (by omega)] | rw [if_neg (by omega)]), hB277⟩
   ·
    rw [hc276] at h275
    have hp287 : numP d (plet c) < 0 := of_decide_eq_true hc276
    clear hc276
    refine psk h275 rfl fun a288 h288 => ?_; clear h275
    refine psk h288 rfl fun a289 h289 => ?_; clear h288
    refine pk0 (v := .bool true) h289 rfl fun a290 h290 => ?_; clear h289
    refine pl_nil ?_
    refine co_then ?_
    refine co_true h290 rfl ?_
    refine co_seq ?_
    refine co_reg ?_
    refine pk0 (v := .int .i64 5) h290 rfl fun a291 h291 => ?_; clear h290
    refine pl_nil ?_
    refine co_then ?_
    refine wp_ret ?_
    refine co_blockR ?_
    refine co_thenR ?_
    refine co_ret1 h291 rfl rfl ?_
    exact ⟨ret_int (by rw [cp_n (by omega)]; first | rw [if_pos (by omega)] | rw [if_neg (by omega)]), hB277⟩
 ·
  rw [hc13] at h12
  have hp292 : c = 101 := by first | simpa using hc13 | simpa [and_assoc] using hc13
  clear hc13
  refine co_true h12 rfl ?_
  refine wp_skip ?_
  refine co_then ?_
  refine co_true h12 rfl ?_
  refine co_seq ?_
  refine co_reg ?_
  refine pk (v := .agg #[.int .i64 d.k, .int .i64 d.ep, .int .i64 d.rq, .int .i64 d.sr, .bool d.fg, .int .u64 d.at_, .int .u64 d.la, .int .i64 d.n, .int .i64 d.m, .int .i64 d.p, .int .i64 d.e, .string d.key, .string d.to_, .int .i64 d.cep, mv, .int .u64 d.cfl, .int .i64 d.bc, .int .i64 d.br, bv, ev, sv, pv]) h12 rfl (rn_loadN rfl rfl Try.underlying37 rfl (by kernel_rfl) hk5.all) fun a293 h293 => ?_; clear h12
  refine pk0 (v := .int .u8 c) h293 rfl fun a294 h294 => ?_; clear h293
  refine pw h294 rfl (op_call (args := #[.agg #[.int .i64 d.k, .int .i64 d.ep, .int .i64 d.rq, .int .i64 d.sr, .bool d.fg, .int .u64 d.at_, .int .u64 d.la, .int .i64 d.n, .int .i64 d.m, .int .i64 d.p, .int .i64 d.e, .string d.key, .string d.to_, .int .i64 d.cep, mv, .int .u64 d.cfl, .int .i64 d.bc, .int .i64 d.br, bv, ev, sv, pv], .int .u8 c]) (R := fun res xw => res = .int .i64 (numP d (plet c)) ∧ Below w2.heap.size w2 xw) rfl rfl rfl (by kernel_rfl) (by kernel_rfl) (Try.call103 _ _) (rmNumber_any d mv bv ev sv pv c w2 (hm.below hB14) (hb.below hB14) (he.below hB14) (ht.below hB14) (hp.below hB14) (by omega)) (by rintro e x ⟨rfl, hb297⟩; exact ⟨_, rfl, ⟨rfl, hb297⟩⟩)) ?_; clear h294
  rintro _ w296 a295 ⟨rfl, hb297⟩ h295
  have hz298 := hb297.size
  refine pk0 (v := .int .i64 (numP d (plet c))) h295 rfl fun a299 h299 => ?_; clear h295
  refine pl_nil ?_
  refine co_then ?_
  refine co_seq ?_
  refine co_reg ?_
  refine pk0 (v := .int .i64 (numP d (plet c))) h299 rfl fun a300 h300 => ?_; clear h299
  refine pk0 (v := .bool (decide (numP d (plet c) < 0))) h300 rfl fun a301 h301 => ?_; clear h300
  refine pk0 (v := .bool (decide (numP d (plet c) < 0))) h301 rfl fun a302 h302 => ?_; clear h301
  have hB304 := hb_call hB14 hb297
  cases hc303 : (decide (numP d (plet c) < 0))
  ·
   rw [hc303] at h302
   have hp305 : ¬ (numP d (plet c) < 0) := of_decide_eq_false hc303
   clear hc303
   refine pk0 (v := .int .i64 (numP d (plet c))) h302 rfl fun a306 h306 => ?_; clear h302
   refine pk0 (v := .bool (decide (numP d (plet c) > 1073741824))) h306 rfl fun a307 h307 => ?_; clear h306
   refine pk0 (v := .bool (decide (numP d (plet c) > 1073741824))) h307 rfl fun a308 h308 => ?_; clear h307
   refine pl_nil ?_
   refine co_then ?_
   cases hc309 : (decide (numP d (plet c) > 1073741824))
   ·
    rw [hc309] at h308
    have hp310 : ¬ (numP d (plet c) > 1073741824) := of_decide_eq_false hc309
    clear hc309
    refine co_false h308 rfl ?_
    refine wp_skip ?_
    refine co_blockN ?_
    refine co_then ?_
    refine co_seq ?_
    refine co_reg ?_
    refine pk0 (v := .int .i64 0) h308 rfl fun a311 h311 => ?_; clear h308
    refine pl_nil ?_
    refine co_then ?_
    refine wp_ret ?_
    refine co_ret1 h311 rfl rfl ?_
    exact ⟨ret_int (by rw [cp_n (by omega)]; first | rw [if_pos (by omega)] | rw [if_neg (by omega)]), hB304⟩
   ·
    rw [hc309] at h308
    have hp312 : numP d (plet c) > 1073741824 := of_decide_eq_true hc309
    clear hc309
    refine co_true h308 rfl ?_
    refine co_seq ?_
    refine co_reg ?_
    refine pk0 (v := .int .i64 5) h308 rfl fun a313 h313 => ?_; clear h308
    refine pl_nil ?_
    refine co_then ?_
    refine wp_ret ?_
    refine co_blockR ?_
    refine co_thenR ?_
    refine co_ret1 h313 rfl rfl ?_
    exact ⟨ret_int (by rw [cp_n (by omega)]; first | rw [if_pos (by omega)] | rw [if_neg (by omega)]), hB304⟩
  ·
   rw [hc303] at h302
   have hp314 : numP d (plet c) < 0 := of_decide_eq_true hc303
   clear hc303
   refine psk h302 rfl fun a315 h315 => ?_; clear h302
   refine psk h315 rfl fun a316 h316 => ?_; clear h315
   refine pk0 (v := .bool true) h316 rfl fun a317 h317 => ?_; clear h316
   refine pl_nil ?_
   refine co_then ?_
   refine co_true h317 rfl ?_
   refine co_seq ?_
   refine co_reg ?_
   refine pk0 (v := .int .i64 5) h317 rfl fun a318 h318 => ?_; clear h317
   refine pl_nil ?_
   refine co_then ?_
   refine wp_ret ?_
   refine co_blockR ?_
   refine co_thenR ?_
   refine co_ret1 h318 rfl rfl ?_
   exact ⟨ret_int (by rw [cp_n (by omega)]; first | rw [if_pos (by omega)] | rw [if_neg (by omega)]), hB304⟩
end Go.Proofs.Ytbjbcbbhmbpndaa

/- The document's own messages: Check. Conditions: none. -/
namespace Go.Proofs.Ytbjbcbbhmbpndaa
open Go.RowKit Go.PlainAid
set_option linter.unusedVariables false

set_option maxRecDepth 100000 in
theorem rmCheck_any (d : MsgD) (mv : Value) (bv : Value) (ev : Value) (sv : Value) (pv : Value) (w : World) (hm : SliceOf memE 2 w mv d.cms) (hb : SliceOf opE 3 w bv d.bl) (he : SliceOf entE 4 w ev d.en) (ht : SliceOf (intE .u64) 1 w sv d.st) (hp : SliceOf prE 2 w pv d.pr) (hok : ∀ z ∈ d.en, EntOk w z) (hR : MsgR d) :
    Calls Try.prog 34 #[.agg #[.int .i64 d.k, .int .i64 d.ep, .int .i64 d.rq, .int .i64 d.sr, .bool d.fg, .int .u64 d.at_, .int .u64 d.la, .int .i64 d.n, .int .i64 d.m, .int .i64 d.p, .int .i64 d.e, .string d.key, .string d.to_, .int .i64 d.cep, mv, .int .u64 d.cfl, .int .i64 d.bc, .int .i64 d.br, bv, ev, sv, pv]] w fun e w' => e = .returned (.int .i64 (chkMg d)) ∧ Below w.heap.size w w' := by
 have hrng := hR.rng
 have hrl := rstr_small d.k
 have hB0 := Below.refl w.heap.size w
 have hl_hm := sl_len hm
 have hl_hb := sl_len hb
 have hl_he := sl_len he
 have hl_ht := sl_len ht
 have hl_hp := sl_len hp
 by_cases hkk : 1 ≤ d.k ∧ d.k ≤ 15
 · skip
   refine co_enter (n := 25) Try.func34 rfl rfl rfl [(0, .agg #[.int .i64 d.k, .int .i64 d.ep, .int .i64 d.rq, .int .i64 d.sr, .bool d.fg, .int .u64 d.at_, .int .u64 d.la, .int .i64 d.n, .int .i64 d.m, .int .i64 d.p, .int .i64 d.e, .string d.key, .string d.to_, .int .i64 d.cep, mv, .int .u64 d.cfl, .int .i64 d.bc, .int .i64 d.br, bv, ev, sv, pv])] rfl (fun a h0 => ?_)
   refine co_seq ?_
   refine co_reg ?_
   refine pw h0 rfl (op_new (v := fun N => pt N 0) (T := 37) (cs := #[.int .i64 d.k, .int .i64 d.ep, .int .i64 d.rq, .int .i64 d.sr, .bool d.fg, .int .u64 d.at_, .int .u64 d.la, .int .i64 d.n, .int .i64 d.m, .int .i64 d.p, .int .i64 d.e, .string d.key, .string d.to_, .int .i64 d.cep, mv, .int .u64 d.cfl, .int .i64 d.bc, .int .i64 d.br, bv, ev, sv, pv]) (by kernel_rfl) (by kernel_rfl) (by kernel_rfl)) ?_; clear h0
   rintro _ w2 a1 ⟨N3, rfl, hN6, hz7, hk5, hg4⟩ h1
   have hz8 := hg4.size
   try dsimp only at h1
   refine pk0 (v := .int .i64 0) h1 rfl fun a9 h9 => ?_; clear h1
   refine pl_nil ?_
   refine co_then ?_
   refine co_seq ?_
   refine co_reg ?_
   refine pk0 (v := pt N3 0) h9 rfl fun a10 h10 => ?_; clear h9
   refine pk (v := .int .i64 d.k) h10 rfl (rn_load1 rfl rfl Try.isAgg3 (hk5.cell rfl)) fun a11 h11 => ?_; clear h10
   refine pw h11 rfl (op_call (args := #[.int .i64 d.k]) (R := fun res xw => res = .string (rstr d.k) ∧ Below w2.heap.size w2 xw) rfl rfl rfl (by kernel_rfl) (by kernel_rfl) (Try.call72 _ _) (rmParts_any d.k w2 ) (by rintro e x ⟨rfl, hb14⟩; exact ⟨_, rfl, ⟨rfl, hb14⟩⟩)) ?_; clear h11
   rintro _ w13 a12 ⟨rfl, hb14⟩ h12
   have hz15 := hb14.size
   refine pk0 (v := .string (rstr d.k)) h12 rfl fun a16 h16 => ?_; clear h12
   refine pl_nil ?_
   refine co_then ?_
   refine co_seq ?_
   refine co_seq ?_
   refine co_reg ?_
   refine pk0 (v := .string (rstr d.k)) h16 rfl fun a17 h17 => ?_; clear h16
   refine pk0 (v := .bool ((rstr d.k : ByteArray).toList == (⟨#[63]⟩ : ByteArray).toList)) h17 rfl fun a18 h18 => ?_; clear h17
   refine pl_nil ?_
   refine co_then ?_
   have hc19 : ((rstr d.k : ByteArray).toList == (⟨#[63]⟩ : ByteArray).toList) = false := by rw [beq_eq_false_iff_ne]; exact rstr_q hkk
   rw [hc19] at h18; clear hc19
   refine co_false h18 rfl ?_
   refine wp_skip ?_
   refine co_then ?_
   refine co_seq ?_
   refine co_seq ?_
   refine co_reg ?_
   refine pk0 (v := .int .i64 0) h18 rfl fun a20 h20 => ?_; clear h18
   refine pl_nil ?_
   refine co_then ?_
   refine wp_block ?_
   have h21 : Slots 25 [(1, pt N3 0), (2, .int .i64 0), (3, .string (rstr d.k)), (4, .int .i64 0)] _ := h20.sub ⟨rfl, rfl, rfl, rfl, trivial⟩; clear h20
   refine co_loop (fun mm a x => ∃ (i : Nat), Slots 25 [(1, pt N3 0), (2, .int .i64 0), (3, .string (rstr d.k)), (4, .int .i64 ((i : Nat) : Int))] a ∧ mm = (rstr d.k).size - i ∧ (i ≤ (rstr d.k).size) ∧ (chkF (cP d) ((ptL d.k).drop i) = chkF (cP d) (ptL d.k)) ∧ Below w.heap.size w x ∧ Blk x N3 37 #[.int .i64 d.k, .int .i64 d.ep, .int .i64 d.rq, .int .i64 d.sr, .bool d.fg, .int .u64 d.at_, .int .u64 d.la, .int .i64 d.n, .int .i64 d.m, .int .i64 d.p, .int .i64 d.e, .string d.key, .string d.to_, .int .i64 d.cep, mv, .int .u64 d.cfl, .int .i64 d.bc, .int .i64 d.br, bv, ev, sv, pv]) ((rstr d.k).size - 0) ?_ ?_
   have hB22 := hb_new hB0 hg4
   have hB23 := hb_call hB22 hb14
   have hk24 := hk5.below hb14
   · exact ⟨0, h21.sub ⟨rfl, rfl, rfl, (slot_eq rfl (congrArg (Value.int .i64) (by first | rfl | omega))), trivial⟩, rfl, by omega, by first | rfl | exact hL', hB23, hk24⟩
   · rintro k25 a26 w27 ⟨i, h26, rfl, hi28, hi29, hB30, hk31⟩
     have hz32 := hB30.size
     have hl33 := hk31.lt
     have hL : chkF (cP d) ((ptL d.k).drop i) = chkF (cP d) (ptL d.k) := by assumption
     refine co_seq ?_
     refine co_seq ?_
     refine co_reg ?_
     refine pk0 (v := .int .i64 ((i : Nat) : Int)) h26 rfl fun a34 h34 => ?_; clear h26
     refine pk0 (v := .string (rstr d.k)) h34 rfl fun a35 h35 => ?_; clear h34
     refine pk (v := .int .i64 (((rstr d.k : ByteArray).size : Nat) : Int)) h35 rfl (rn_lenStr rfl rfl Try.underlying9) fun a36 h36 => ?_; clear h35
     refine pk0 (v := .bool (decide (((i : Nat) : Int) < (((rstr d.k : ByteArray).size : Nat) : Int)))) h36 rfl fun a37 h37 => ?_; clear h36
     refine pl_nil ?_
     refine co_then ?_
     cases hc38 : (decide (((i : Nat) : Int) < (((rstr d.k : ByteArray).size : Nat) : Int)))
     ·
      rw [hc38] at h37
      have hp39 : ¬ (((i : Nat) : Int) < (((rstr d.k : ByteArray).size : Nat) : Int)) := of_decide_eq_false hc38
      clear hc38
      refine co_false h37 rfl ?_
      refine wp_exit ?_
      refine co_thenX ?_
      refine co_thenX ?_
      refine co_blockX ?_
      refine co_then ?_
      refine co_seq ?_
      refine co_reg ?_
      refine pk0 (v := .int .i64 0) h37 rfl fun a40 h40 => ?_; clear h37
      refine pl_nil ?_
      refine co_then ?_
      refine wp_ret ?_
      refine co_ret1 h40 rfl rfl ?_
      have hpl := rstr_len d.k
      have hpl2 := rL_len (k := d.k) (by omega)
      exact ⟨ret_int (by unfold chkMg; rw [if_pos (by omega)]; exact cF_end (i := i) hL (by omega)), hB30⟩
     ·
      rw [hc38] at h37
      have hp41 : ((i : Nat) : Int) < (((rstr d.k : ByteArray).size : Nat) : Int) := of_decide_eq_true hc38
      clear hc38
      refine co_true h37 rfl ?_
      refine wp_skip ?_
      refine co_then ?_
      refine co_seq ?_
      refine wp_block ?_
      refine co_seq ?_
      refine dr_gen (fun x => Below w.heap.size w x ∧ Blk x N3 37 #[.int .i64 d.k, .int .i64 d.ep, .int .i64 d.rq, .int .i64 d.sr, .bool d.fg, .int .u64 d.at_, .int .u64 d.la, .int .i64 d.n, .int .i64 d.m, .int .i64 d.p, .int .i64 d.e, .string d.key, .string d.to_, .int .i64 d.cep, mv, .int .u64 d.cfl, .int .i64 d.bc, .int .i64 d.br, bv, ev, sv, pv]) (by kernel_rfl) (fun w42 hg43 => ?_) (fun w42 hg43 => ?_)
      ·
       have hz44 := hg43.size
       have hB45 := hb_new hB30 hg43
       have hk46 := hk31.kept hg43 (by simp)
       exact ⟨hB45, hk46⟩
      have hz47 := hg43.size
      have hB48 := hb_new hB30 hg43
      have hk49 := hk31.kept hg43 (by simp)
      refine dk 0 (v := .agg #[.int .i64 d.k, .int .i64 d.ep, .int .i64 d.rq, .int .i64 d.sr, .bool d.fg, .int .u64 d.at_, .int .u64 d.la, .int .i64 d.n, .int .i64 d.m, .int .i64 d.p, .int .i64 d.e, .string d.key, .string d.to_, .int .i64 d.cep, mv, .int .u64 d.cfl, .int .i64 d.bc, .int .i64 d.br, bv, ev, sv, pv]) h37 rfl rfl ⟨hB48, hk49⟩ (fun x hx => (rn_loadN rfl rfl Try.underlying37 rfl (by kernel_rfl) hx.2.all)) fun a50 h50 => ?_; clear h37
      refine dk0 1 (v := .string (rstr d.k)) h50 rfl rfl ⟨hB48, hk49⟩ fun a51 h51 => ?_; clear h50
      refine dk0 2 (v := .int .i64 ((i : Nat) : Int)) h51 rfl rfl ⟨hB48, hk49⟩ fun a52 h52 => ?_; clear h51
      refine dk 3 (v := .int .u8 (byteAt (rstr d.k) i)) h52 rfl rfl ⟨hB48, hk49⟩ (fun x hx => (rn_indexStr rfl rfl rfl Try.underlying9 (by omega) (by omega))) fun a53 h53 => ?_; clear h52
      have hcn := byteAt_rstr (k := d.k) (i := i) (by omega) (by omega)
      refine d1 4 h53 rfl rfl (op_call (args := #[.agg #[.int .i64 d.k, .int .i64 d.ep, .int .i64 d.rq, .int .i64 d.sr, .bool d.fg, .int .u64 d.at_, .int .u64 d.la, .int .i64 d.n, .int .i64 d.m, .int .i64 d.p, .int .i64 d.e, .string d.key, .string d.to_, .int .i64 d.cep, mv, .int .u64 d.cfl, .int .i64 d.bc, .int .i64 d.br, bv, ev, sv, pv], .int .u8 (byteAt (rstr d.k) i)]) (R := fun res xw => res = .int .i64 (chkP d (plet (byteAt (rstr d.k) i))) ∧ Below w42.heap.size w42 xw) rfl rfl rfl (by kernel_rfl) (by kernel_rfl) (Try.call73 _ _) (rmWrong_any d mv bv ev sv pv (byteAt (rstr d.k) i) w42 (hm.below hB48) (hb.below hB48) (he.below hB48) (ht.below hB48) (hp.below hB48) (fun z hz => (hok z hz).below hB48) hR (by obtain ⟨_, _, _, h⟩ := hcn; exact h)) (by rintro e x ⟨rfl, hb56⟩; exact ⟨_, rfl, ⟨rfl, hb56⟩⟩)) ?_ ?_; clear h53
      ·
       rintro _ w55 ⟨rfl, hb56⟩
       have hz57 := hb56.size
       have hB58 := hb_call hB48 hb56
       have hk59 := hk49.below hb56
       exact ⟨hB58, hk59⟩
      rintro _ w55 a54 ⟨rfl, hb56⟩ h54
      have hz57 := hb56.size
      have hB58 := hb_call hB48 hb56
      have hk59 := hk49.below hb56
      refine dk0 5 (v := .int .i64 (chkP d (plet (byteAt (rstr d.k) i)))) h54 rfl rfl ⟨hB58, hk59⟩ fun a60 h60 => ?_; clear h54
      refine dr_done (by kernel_rfl) ?_
      refine co_then ?_
      refine co_seq ?_
      refine co_reg ?_
      refine pk0 (v := .int .i64 (chkP d (plet (byteAt (rstr d.k) i)))) h60 rfl fun a61 h61 => ?_; clear h60
      refine pk0 (v := .bool (chkP d (plet (byteAt (rstr d.k) i)) != 0)) h61 rfl fun a62 h62 => ?_; clear h61
      refine pl_nil ?_
      refine co_then ?_
      cases hc63 : (chkP d (plet (byteAt (rstr d.k) i)) != 0)
      ·
       rw [hc63] at h62
       have hp64 : ¬ (chkP d (plet (byteAt (rstr d.k) i)) ≠ 0) := by first | simpa using hc63 | simpa [and_assoc] using hc63
       clear hc63
       refine co_false h62 rfl ?_
       refine wp_skip ?_
       refine co_blockN ?_
       refine co_then ?_
       refine co_reg ?_
       refine pk0 (v := .int .i64 ((i : Nat) : Int)) h62 rfl fun a65 h65 => ?_; clear h62
       refine pk (v := .int .i64 ((i + 1 : Nat) : Int)) h65 rfl (rn_arith' rfl rfl rfl rfl rfl rfl (IntWalk.i64_in _ (by omega)) (by omega)) fun a66 h66 => ?_; clear h65
       refine pk0 (v := .int .i64 ((i + 1 : Nat) : Int)) h66 rfl fun a67 h67 => ?_; clear h66
       refine pl_nil ?_
       refine co_then ?_
       refine ⟨((rstr d.k).size - (i + 1)), by omega, ?_⟩
       obtain ⟨c, hc, hcb, _⟩ := byteAt_rstr (k := d.k) (i := i) (by omega) (by omega)
       have hL' := cF_step (f := cP d) hL hc (by show chkP d _ = 0; rw [← hcb]; omega)
       exact ⟨i + 1, h67.sub ⟨rfl, rfl, rfl, rfl, trivial⟩, rfl, by omega, by first | rfl | exact hL', hB58, hk59⟩
      ·
       rw [hc63] at h62
       have hp68 : chkP d (plet (byteAt (rstr d.k) i)) ≠ 0 := by first | simpa using hc63 | simpa [and_assoc] using hc63
       clear hc63
       refine co_true h62 rfl ?_
       refine co_seq ?_
       refine co_reg ?_
       refine pk0 (v := .int .i64 (chkP d (plet (byteAt (rstr d.k) i)))) h62 rfl fun a69 h69 => ?_; clear h62
       refine pk0 (v := .int .i64 (chkP d (plet (byteAt (rstr d.k) i)))) h69 rfl fun a70 h70 => ?_; clear h69
       refine pl_nil ?_
       refine co_then ?_
       refine wp_ret ?_
       refine co_blockR ?_
       refine co_thenR ?_
       refine co_thenR ?_
       refine co_blockR ?_
       refine co_thenR ?_
       refine co_ret1 h70 rfl rfl ?_
       obtain ⟨c, hc, hcb, _⟩ := hcn
       exact ⟨ret_int (by unfold chkMg; rw [if_pos (by omega), hcb]; exact cF_bad (f := cP d) (i := i) hL hc (by show chkP d _ ≠ 0; rw [← hcb]; omega)), hB58⟩
 · skip
   refine co_enter (n := 25) Try.func34 rfl rfl rfl [(0, .agg #[.int .i64 d.k, .int .i64 d.ep, .int .i64 d.rq, .int .i64 d.sr, .bool d.fg, .int .u64 d.at_, .int .u64 d.la, .int .i64 d.n, .int .i64 d.m, .int .i64 d.p, .int .i64 d.e, .string d.key, .string d.to_, .int .i64 d.cep, mv, .int .u64 d.cfl, .int .i64 d.bc, .int .i64 d.br, bv, ev, sv, pv])] rfl (fun a h0 => ?_)
   refine co_seq ?_
   refine co_reg ?_
   refine pw h0 rfl (op_new (v := fun N => pt N 0) (T := 37) (cs := #[.int .i64 d.k, .int .i64 d.ep, .int .i64 d.rq, .int .i64 d.sr, .bool d.fg, .int .u64 d.at_, .int .u64 d.la, .int .i64 d.n, .int .i64 d.m, .int .i64 d.p, .int .i64 d.e, .string d.key, .string d.to_, .int .i64 d.cep, mv, .int .u64 d.cfl, .int .i64 d.bc, .int .i64 d.br, bv, ev, sv, pv]) (by kernel_rfl) (by kernel_rfl) (by kernel_rfl)) ?_; clear h0
   rintro _ w72 a71 ⟨N73, rfl, hN76, hz77, hk75, hg74⟩ h71
   have hz78 := hg74.size
   try dsimp only at h71
   refine pk0 (v := .int .i64 0) h71 rfl fun a79 h79 => ?_; clear h71
   refine pl_nil ?_
   refine co_then ?_
   refine co_seq ?_
   refine co_reg ?_
   refine pk0 (v := pt N73 0) h79 rfl fun a80 h80 => ?_; clear h79
   refine pk (v := .int .i64 d.k) h80 rfl (rn_load1 rfl rfl Try.isAgg3 (hk75.cell rfl)) fun a81 h81 => ?_; clear h80
   refine pw h81 rfl (op_call (args := #[.int .i64 d.k]) (R := fun res xw => res = .string (rstr d.k) ∧ Below w72.heap.size w72 xw) rfl rfl rfl (by kernel_rfl) (by kernel_rfl) (Try.call72 _ _) (rmParts_any d.k w72 ) (by rintro e x ⟨rfl, hb84⟩; exact ⟨_, rfl, ⟨rfl, hb84⟩⟩)) ?_; clear h81
   rintro _ w83 a82 ⟨rfl, hb84⟩ h82
   have hz85 := hb84.size
   refine pk0 (v := .string (rstr d.k)) h82 rfl fun a86 h86 => ?_; clear h82
   refine pl_nil ?_
   refine co_then ?_
   refine co_seq ?_
   refine co_seq ?_
   refine co_reg ?_
   refine pk0 (v := .string (rstr d.k)) h86 rfl fun a87 h87 => ?_; clear h86
   refine pk0 (v := .bool ((rstr d.k : ByteArray).toList == (⟨#[63]⟩ : ByteArray).toList)) h87 rfl fun a88 h88 => ?_; clear h87
   refine pl_nil ?_
   refine co_then ?_
   have hc89 : ((rstr d.k : ByteArray).toList == (⟨#[63]⟩ : ByteArray).toList) = true := by rw [rstr_n hkk]; simp
   rw [hc89] at h88; clear hc89
   refine co_true h88 rfl ?_
   refine co_seq ?_
   refine co_reg ?_
   refine pk0 (v := .int .i64 11) h88 rfl fun a90 h90 => ?_; clear h88
   refine pl_nil ?_
   refine co_then ?_
   refine wp_ret ?_
   refine co_thenR ?_
   refine co_ret1 h90 rfl rfl ?_
   have hB91 := hb_new hB0 hg74
   have hB92 := hb_call hB91 hb84
   exact ⟨ret_int (by unfold chkMg; rw [if_neg (by omega)]), hB92⟩
end Go.Proofs.Ytbjbcbbhmbpndaa

/- The document's own serve: Answer. Conditions: at most 100 calls, 20 operations each. -/
namespace Go.Proofs.Ytbjbcbbhmbpndaa
open Go.RowKit Go.PlainAid
set_option linter.unusedVariables false
set_option linter.unusedSimpArgs false

set_option maxRecDepth 100000 in
theorem r31AnswerZ_any (dd : Nat) (mk : Int) (hz : Int) (ep : Int) (hd : Int) (d : MsgD) (mv : Value) (bv : Value) (ev : Value) (sv : Value) (pv : Value) (w : World) (hm : SliceOf memE 2 w mv d.cms) (hb : SliceOf opE 3 w bv d.bl) (he : SliceOf entE 4 w ev d.en) (ht : SliceOf (intE .u64) 1 w sv d.st) (hp : SliceOf prE 2 w pv d.pr) (hok : ∀ z ∈ d.en, EntOk w z) (hR : MsgR d) (hoka : ¬ (chkMg d = 0 ∧ (d.k = 8 ∨ d.k = 9))) :
    Calls Try.prog 14 #[pt dd 0, .agg #[.int .u64 mk, .int .u64 hz, .int .i64 ep, .int .i64 hd], .agg #[.int .i64 d.k, .int .i64 d.ep, .int .i64 d.rq, .int .i64 d.sr, .bool d.fg, .int .u64 d.at_, .int .u64 d.la, .int .i64 d.n, .int .i64 d.m, .int .i64 d.p, .int .i64 d.e, .string d.key, .string d.to_, .int .i64 d.cep, mv, .int .u64 d.cfl, .int .i64 d.bc, .int .i64 d.br, bv, ev, sv, pv]] w fun e w' => e = .returned (.tuple #[.agg #[.int .i64 0, .int .i64 0, .int .i64 0, .int .i64 0, .bool false, .int .u64 0, .int .u64 0, .int .i64 0, .int .i64 0, .int .i64 0, .int .i64 0, .string (⟨#[]⟩), .string (⟨#[]⟩), .int .i64 0, .slice none 0 0, .int .u64 0, .int .i64 0, .int .i64 0, .slice none 0 0, .slice none 0 0, .slice none 0 0, .slice none 0 0], .bool false]) ∧ Below w.heap.size w w' := by
 have hB0 := Below.refl w.heap.size w
 have hl_hm := sl_len hm
 have hl_hb := sl_len hb
 have hl_he := sl_len he
 have hl_ht := sl_len ht
 have hl_hp := sl_len hp
 refine co_enter (n := 27) Try.func14 rfl rfl rfl [(0, pt dd 0), (1, .agg #[.int .u64 mk, .int .u64 hz, .int .i64 ep, .int .i64 hd]), (2, .agg #[.int .i64 d.k, .int .i64 d.ep, .int .i64 d.rq, .int .i64 d.sr, .bool d.fg, .int .u64 d.at_, .int .u64 d.la, .int .i64 d.n, .int .i64 d.m, .int .i64 d.p, .int .i64 d.e, .string d.key, .string d.to_, .int .i64 d.cep, mv, .int .u64 d.cfl, .int .i64 d.bc, .int .i64 d.br, bv, ev, sv, pv])] rfl (fun a h0 => ?_)
 refine co_seq ?_
 refine co_reg ?_
 refine pw h0 rfl (op_new (v := fun N => pt N 0) (T := 47) (cs := #[.int .u64 mk, .int .u64 hz, .int .i64 ep, .int .i64 hd]) (by kernel_rfl) (by kernel_rfl) (by kernel_rfl)) ?_; clear h0
 rintro _ w2 a1 ⟨N3, rfl, hN6, hz7, hk5, hg4⟩ h1
 have hz8 := hg4.size
 try dsimp only at h1
 refine pw h1 rfl (op_new (v := fun N => pt N 0) (T := 37) (cs := #[.int .i64 d.k, .int .i64 d.ep, .int .i64 d.rq, .int .i64 d.sr, .bool d.fg, .int .u64 d.at_, .int .u64 d.la, .int .i64 d.n, .int .i64 d.m, .int .i64 d.p, .int .i64 d.e, .string d.key, .string d.to_, .int .i64 d.cep, mv, .int .u64 d.cfl, .int .i64 d.bc, .int .i64 d.br, bv, ev, sv, pv]) (by kernel_rfl) (by kernel_rfl) (by kernel_rfl)) ?_; clear h1
 rintro _ w10 a9 ⟨N11, rfl, hN14, hz15, hk13, hg12⟩ h9
 have hz16 := hg12.size
 try dsimp only at h9
 refine pw h9 rfl (op_new (v := fun N => pt N 0) (T := 37) (cs := #[.int .i64 0, .int .i64 0, .int .i64 0, .int .i64 0, .bool false, .int .u64 0, .int .u64 0, .int .i64 0, .int .i64 0, .int .i64 0, .int .i64 0, .string (⟨#[]⟩), .string (⟨#[]⟩), .int .i64 0, .slice none 0 0, .int .u64 0, .int .i64 0, .int .i64 0, .slice none 0 0, .slice none 0 0, .slice none 0 0, .slice none 0 0]) (by kernel_rfl) (by kernel_rfl) (by kernel_rfl)) ?_; clear h9
 rintro _ w18 a17 ⟨N19, rfl, hN22, hz23, hk21, hg20⟩ h17
 have hz24 := hg20.size
 try dsimp only at h17
 refine pk0 (v := .bool false) h17 rfl fun a25 h25 => ?_; clear h17
 refine pl_nil ?_
 refine co_then ?_
 refine co_seq ?_
 refine co_seq ?_
 refine co_reg ?_
 have hk26 := hk13.kept hg20 (by simp)
 refine pk (v := .agg #[.int .i64 d.k, .int .i64 d.ep, .int .i64 d.rq, .int .i64 d.sr, .bool d.fg, .int .u64 d.at_, .int .u64 d.la, .int .i64 d.n, .int .i64 d.m, .int .i64 d.p, .int .i64 d.e, .string d.key, .string d.to_, .int .i64 d.cep, mv, .int .u64 d.cfl, .int .i64 d.bc, .int .i64 d.br, bv, ev, sv, pv]) h25 rfl (rn_loadN rfl rfl Try.underlying37 rfl (by kernel_rfl) hk26.all) fun a27 h27 => ?_; clear h25
 have hB30 := hb_new hB0 hg4
 have hB31 := hb_new hB30 hg12
 have hB32 := hb_new hB31 hg20
 refine pw h27 rfl (op_call (args := #[.agg #[.int .i64 d.k, .int .i64 d.ep, .int .i64 d.rq, .int .i64 d.sr, .bool d.fg, .int .u64 d.at_, .int .u64 d.la, .int .i64 d.n, .int .i64 d.m, .int .i64 d.p, .int .i64 d.e, .string d.key, .string d.to_, .int .i64 d.cep, mv, .int .u64 d.cfl, .int .i64 d.bc, .int .i64 d.br, bv, ev, sv, pv]]) (R := fun res xw => res = .int .i64 (chkMg d) ∧ Below w18.heap.size w18 xw) rfl rfl rfl (by kernel_rfl) (by kernel_rfl) (Try.call34 _ _) (rmCheck_any d mv bv ev sv pv w18 (hm.below hB32) (hb.below hB32) (he.below hB32) (ht.below hB32) (hp.below hB32) (fun z hz => (hok z hz).below hB32) hR) (by rintro e x ⟨rfl, hb33⟩; exact ⟨_, rfl, ⟨rfl, hb33⟩⟩)) ?_; clear h27
 rintro _ w29 a28 ⟨rfl, hb33⟩ h28
 have hz34 := hb33.size
 refine pk0 (v := .bool (chkMg d != 0)) h28 rfl fun a35 h35 => ?_; clear h28
 refine pl_nil ?_
 refine co_then ?_
 have hB37 := hb_call hB32 hb33
 have hk38 := hk5.kept hg12 (by simp)
 have hk39 := hk38.kept hg20 (by simp)
 have hk40 := hk39.below hb33
 cases hc36 : (chkMg d != 0)
 ·
  rw [hc36] at h35
  have hp41 : ¬ (chkMg d ≠ 0) := by first | simpa using hc36 | simpa [and_assoc] using hc36
  clear hc36
  refine co_false h35 rfl ?_
  refine wp_skip ?_
  refine co_then ?_
  refine co_seq ?_
  refine co_seq ?_
  refine co_reg ?_
  refine pk0 (v := pt N11 0) h35 rfl fun a42 h42 => ?_; clear h35
  have hk43 := hk26.below hb33
  refine pk (v := .int .i64 d.k) h42 rfl (rn_load1 rfl rfl Try.isAgg3 (hk43.cell rfl)) fun a44 h44 => ?_; clear h42
  refine pk0 (v := .bool (d.k == 8)) h44 rfl fun a45 h45 => ?_; clear h44
  refine pl_nil ?_
  refine co_then ?_
  have hc46 : (d.k == 8) = false := by first | (simp; done) | (simp; omega) | exact beq_false_of_ne (by omega) | exact beq_iff_eq.2 (by omega)
  rw [hc46] at h45; clear hc46
  refine co_false h45 rfl ?_
  refine wp_skip ?_
  refine co_then ?_
  refine co_seq ?_
  refine co_seq ?_
  refine co_reg ?_
  refine pk0 (v := pt N11 0) h45 rfl fun a47 h47 => ?_; clear h45
  refine pk (v := .int .i64 d.k) h47 rfl (rn_load1 rfl rfl Try.isAgg3 (hk43.cell rfl)) fun a48 h48 => ?_; clear h47
  refine pk0 (v := .bool (d.k == 9)) h48 rfl fun a49 h49 => ?_; clear h48
  refine pl_nil ?_
  refine co_then ?_
  have hc50 : (d.k == 9) = false := by first | (simp; done) | (simp; omega) | exact beq_false_of_ne (by omega) | exact beq_iff_eq.2 (by omega)
  rw [hc50] at h49; clear hc50
  refine co_false h49 rfl ?_
  refine wp_skip ?_
  refine co_then ?_
  refine co_seq ?_
  refine co_reg ?_
  refine pk0 (v := .agg #[.int .i64 0, .int .i64 0, .int .i64 0, .int .i64 0, .bool false, .int .u64 0, .int .u64 0, .int .i64 0, .int .i64 0, .int .i64 0, .int .i64 0, .string (⟨#[]⟩), .string (⟨#[]⟩), .int .i64 0, .slice none 0 0, .int .u64 0, .int .i64 0, .int .i64 0, .slice none 0 0, .slice none 0 0, .slice none 0 0, .slice none 0 0]) h49 rfl fun a51 h51 => ?_; clear h49
  have hk57 := hk21.below hb33
  refine pwD h51 rfl (op_storeN rfl rfl rfl (all_cons rfl (all_cons rfl (all_cons rfl (all_cons rfl (all_cons rfl (all_cons rfl (all_cons rfl (all_cons rfl (all_cons rfl (all_cons rfl (all_cons rfl (all_cons rfl (all_cons rfl (all_cons rfl (all_cons rfl (all_cons rfl (all_cons rfl (all_cons rfl (all_cons rfl (all_cons rfl (all_cons rfl (all_cons rfl all_nil)))))))))))))))))))))) (by kernel_rfl) hk57 rfl) ?_; clear h51
  rintro _ w53 a52 ⟨hk54, hz55, hg56⟩ h52
  have hk54' : Blk w53 N19 37 #[.int .i64 0, .int .i64 0, .int .i64 0, .int .i64 0, .bool false, .int .u64 0, .int .u64 0, .int .i64 0, .int .i64 0, .int .i64 0, .int .i64 0, .string (⟨#[]⟩), .string (⟨#[]⟩), .int .i64 0, .slice none 0 0, .int .u64 0, .int .i64 0, .int .i64 0, .slice none 0 0, .slice none 0 0, .slice none 0 0, .slice none 0 0] := hk54; clear hk54
  have hz58 := hg56.size
  refine pk0 (v := .bool false) h52 rfl fun a59 h59 => ?_; clear h52
  refine pl_nil ?_
  refine co_then ?_
  refine wp_ret ?_
  refine co_retC1 (Q := fun _ _ _ => True) h59 rfl rfl rfl hk54' Try.underlying37 rfl (by kernel_rfl) ?_
  have hB60 := hb_at hB37 hg56 (by omega)
  exact ⟨rfl, hB60⟩
 ·
  rw [hc36] at h35
  have hp61 : chkMg d ≠ 0 := by first | simpa using hc36 | simpa [and_assoc] using hc36
  clear hc36
  refine co_true h35 rfl ?_
  refine co_seq ?_
  refine co_reg ?_
  refine pk0 (v := .agg #[.int .i64 0, .int .i64 0, .int .i64 0, .int .i64 0, .bool false, .int .u64 0, .int .u64 0, .int .i64 0, .int .i64 0, .int .i64 0, .int .i64 0, .string (⟨#[]⟩), .string (⟨#[]⟩), .int .i64 0, .slice none 0 0, .int .u64 0, .int .i64 0, .int .i64 0, .slice none 0 0, .slice none 0 0, .slice none 0 0, .slice none 0 0]) h35 rfl fun a62 h62 => ?_; clear h35
  have hk68 := hk21.below hb33
  refine pwD h62 rfl (op_storeN rfl rfl rfl (all_cons rfl (all_cons rfl (all_cons rfl (all_cons rfl (all_cons rfl (all_cons rfl (all_cons rfl (all_cons rfl (all_cons rfl (all_cons rfl (all_cons rfl (all_cons rfl (all_cons rfl (all_cons rfl (all_cons rfl (all_cons rfl (all_cons rfl (all_cons rfl (all_cons rfl (all_cons rfl (all_cons rfl (all_cons rfl all_nil)))))))))))))))))))))) (by kernel_rfl) hk68 rfl) ?_; clear h62
  rintro _ w64 a63 ⟨hk65, hz66, hg67⟩ h63
  have hk65' : Blk w64 N19 37 #[.int .i64 0, .int .i64 0, .int .i64 0, .int .i64 0, .bool false, .int .u64 0, .int .u64 0, .int .i64 0, .int .i64 0, .int .i64 0, .int .i64 0, .string (⟨#[]⟩), .string (⟨#[]⟩), .int .i64 0, .slice none 0 0, .int .u64 0, .int .i64 0, .int .i64 0, .slice none 0 0, .slice none 0 0, .slice none 0 0, .slice none 0 0] := hk65; clear hk65
  have hz69 := hg67.size
  refine pk0 (v := .bool false) h63 rfl fun a70 h70 => ?_; clear h63
  refine pl_nil ?_
  refine co_then ?_
  refine wp_ret ?_
  refine co_thenR ?_
  refine co_retC1 (Q := fun _ _ _ => True) h70 rfl rfl rfl hk65' Try.underlying37 rfl (by kernel_rfl) ?_
  have hB71 := hb_at hB37 hg67 (by omega)
  exact ⟨rfl, hB71⟩
set_option maxRecDepth 100000 in
theorem r31AnswerN_any (dd : Nat) (mk : Int) (hz : Int) (ep : Int) (hd : Int) (d : MsgD) (mv : Value) (bv : Value) (ev : Value) (sv : Value) (pv : Value) (w : World) (hm : SliceOf memE 2 w mv d.cms) (hb : SliceOf opE 3 w bv d.bl) (he : SliceOf entE 4 w ev d.en) (ht : SliceOf (intE .u64) 1 w sv d.st) (hp : SliceOf prE 2 w pv d.pr) (hok : ∀ z ∈ d.en, EntOk w z) (hR : MsgR d) (hoka : chkMg d = 0 ∧ (d.k = 8 ∨ d.k = 9)) (hbd : ¬ bdC d.at_ mk hz = 0) :
    Calls Try.prog 14 #[pt dd 0, .agg #[.int .u64 mk, .int .u64 hz, .int .i64 ep, .int .i64 hd], .agg #[.int .i64 d.k, .int .i64 d.ep, .int .i64 d.rq, .int .i64 d.sr, .bool d.fg, .int .u64 d.at_, .int .u64 d.la, .int .i64 d.n, .int .i64 d.m, .int .i64 d.p, .int .i64 d.e, .string d.key, .string d.to_, .int .i64 d.cep, mv, .int .u64 d.cfl, .int .i64 d.bc, .int .i64 d.br, bv, ev, sv, pv]] w fun e w' => e = .returned (.tuple #[.agg #[.int .i64 7, .int .i64 (mxI ep 0), .int .i64 d.rq, .int .i64 0, .bool false, .int .u64 0, .int .u64 0, .int .i64 (mxI hd 0), .int .i64 0, .int .i64 0, .int .i64 (bdC d.at_ mk hz), .string (⟨#[]⟩), .string (⟨#[]⟩), .int .i64 0, .slice none 0 0, .int .u64 0, .int .i64 0, .int .i64 0, .slice none 0 0, .slice none 0 0, .slice none 0 0, .slice none 0 0], .bool true]) ∧ Below w.heap.size w w' := by
 have hB0 := Below.refl w.heap.size w
 have hl_hm := sl_len hm
 have hl_hb := sl_len hb
 have hl_he := sl_len he
 have hl_ht := sl_len ht
 have hl_hp := sl_len hp
 refine co_enter (n := 27) Try.func14 rfl rfl rfl [(0, pt dd 0), (1, .agg #[.int .u64 mk, .int .u64 hz, .int .i64 ep, .int .i64 hd]), (2, .agg #[.int .i64 d.k, .int .i64 d.ep, .int .i64 d.rq, .int .i64 d.sr, .bool d.fg, .int .u64 d.at_, .int .u64 d.la, .int .i64 d.n, .int .i64 d.m, .int .i64 d.p, .int .i64 d.e, .string d.key, .string d.to_, .int .i64 d.cep, mv, .int .u64 d.cfl, .int .i64 d.bc, .int .i64 d.br, bv, ev, sv, pv])] rfl (fun a h0 => ?_)
 refine co_seq ?_
 refine co_reg ?_
 refine pw h0 rfl (op_new (v := fun N => pt N 0) (T := 47) (cs := #[.int .u64 mk, .int .u64 hz, .int .i64 ep, .int .i64 hd]) (by kernel_rfl) (by kernel_rfl) (by kernel_rfl)) ?_; clear h0
 rintro _ w2 a1 ⟨N3, rfl, hN6, hz7, hk5, hg4⟩ h1
 have hz8 := hg4.size
 try dsimp only at h1
 refine pw h1 rfl (op_new (v := fun N => pt N 0) (T := 37) (cs := #[.int .i64 d.k, .int .i64 d.ep, .int .i64 d.rq, .int .i64 d.sr, .bool d.fg, .int .u64 d.at_, .int .u64 d.la, .int .i64 d.n, .int .i64 d.m, .int .i64 d.p, .int .i64 d.e, .string d.key, .string d.to_, .int .i64 d.cep, mv, .int .u64 d.cfl, .int .i64 d.bc, .int .i64 d.br, bv, ev, sv, pv]) (by kernel_rfl) (by kernel_rfl) (by kernel_rfl)) ?_; clear h1
 rintro _ w10 a9 ⟨N11, rfl, hN14, hz15, hk13, hg12⟩ h9
 have hz16 := hg12.size
 try dsimp only at h9
 refine pw h9 rfl (op_new (v := fun N => pt N 0) (T := 37) (cs := #[.int .i64 0, .int .i64 0, .int .i64 0, .int .i64 0, .bool false, .int .u64 0, .int .u64 0, .int .i64 0, .int .i64 0, .int .i64 0, .int .i64 0, .string (⟨#[]⟩), .string (⟨#[]⟩), .int .i64 0, .slice none 0 0, .int .u64 0, .int .i64 0, .int .i64 0, .slice none 0 0, .slice none 0 0, .slice none 0 0, .slice none 0 0]) (by kernel_rfl) (by kernel_rfl) (by kernel_rfl)) ?_; clear h9
 rintro _ w18 a17 ⟨N19, rfl, hN22, hz23, hk21, hg20⟩ h17
 have hz24 := hg20.size
 try dsimp only at h17
 refine pk0 (v := .bool false) h17 rfl fun a25 h25 => ?_; clear h17
 refine pl_nil ?_
 refine co_then ?_
 refine co_seq ?_
 refine co_seq ?_
 refine co_reg ?_
 have hk26 := hk13.kept hg20 (by simp)
 refine pk (v := .agg #[.int .i64 d.k, .int .i64 d.ep, .int .i64 d.rq, .int .i64 d.sr, .bool d.fg, .int .u64 d.at_, .int .u64 d.la, .int .i64 d.n, .int .i64 d.m, .int .i64 d.p, .int .i64 d.e, .string d.key, .string d.to_, .int .i64 d.cep, mv, .int .u64 d.cfl, .int .i64 d.bc, .int .i64 d.br, bv, ev, sv, pv]) h25 rfl (rn_loadN rfl rfl Try.underlying37 rfl (by kernel_rfl) hk26.all) fun a27 h27 => ?_; clear h25
 have hB30 := hb_new hB0 hg4
 have hB31 := hb_new hB30 hg12
 have hB32 := hb_new hB31 hg20
 refine pw h27 rfl (op_call (args := #[.agg #[.int .i64 d.k, .int .i64 d.ep, .int .i64 d.rq, .int .i64 d.sr, .bool d.fg, .int .u64 d.at_, .int .u64 d.la, .int .i64 d.n, .int .i64 d.m, .int .i64 d.p, .int .i64 d.e, .string d.key, .string d.to_, .int .i64 d.cep, mv, .int .u64 d.cfl, .int .i64 d.bc, .int .i64 d.br, bv, ev, sv, pv]]) (R := fun res xw => res = .int .i64 (chkMg d) ∧ Below w18.heap.size w18 xw) rfl rfl rfl (by kernel_rfl) (by kernel_rfl) (Try.call34 _ _) (rmCheck_any d mv bv ev sv pv w18 (hm.below hB32) (hb.below hB32) (he.below hB32) (ht.below hB32) (hp.below hB32) (fun z hz => (hok z hz).below hB32) hR) (by rintro e x ⟨rfl, hb33⟩; exact ⟨_, rfl, ⟨rfl, hb33⟩⟩)) ?_; clear h27
 rintro _ w29 a28 ⟨rfl, hb33⟩ h28
 have hz34 := hb33.size
 refine pk0 (v := .bool (chkMg d != 0)) h28 rfl fun a35 h35 => ?_; clear h28
 refine pl_nil ?_
 refine co_then ?_
 have hc36 : (chkMg d != 0) = false := by first | (simp; done) | (simp; omega) | exact beq_false_of_ne (by omega) | exact beq_iff_eq.2 (by omega)
 rw [hc36] at h35; clear hc36
 refine co_false h35 rfl ?_
 refine wp_skip ?_
 refine co_then ?_
 refine co_seq ?_
 refine co_seq ?_
 refine co_reg ?_
 refine pk0 (v := pt N11 0) h35 rfl fun a37 h37 => ?_; clear h35
 have hk38 := hk26.below hb33
 refine pk (v := .int .i64 d.k) h37 rfl (rn_load1 rfl rfl Try.isAgg3 (hk38.cell rfl)) fun a39 h39 => ?_; clear h37
 refine pk0 (v := .bool (d.k == 8)) h39 rfl fun a40 h40 => ?_; clear h39
 refine pl_nil ?_
 refine co_then ?_
 have hB42 := hb_call hB32 hb33
 have hk43 := hk5.kept hg12 (by simp)
 have hk44 := hk43.kept hg20 (by simp)
 have hk45 := hk44.below hb33
 cases hc41 : (d.k == 8)
 ·
  rw [hc41] at h40
  have hp46 : ¬ (d.k = 8) := by first | simpa using hc41 | simpa [and_assoc] using hc41
  clear hc41
  refine co_false h40 rfl ?_
  refine wp_skip ?_
  refine co_then ?_
  refine co_seq ?_
  refine co_seq ?_
  refine co_reg ?_
  refine pk0 (v := pt N11 0) h40 rfl fun a47 h47 => ?_; clear h40
  refine pk (v := .int .i64 d.k) h47 rfl (rn_load1 rfl rfl Try.isAgg3 (hk38.cell rfl)) fun a48 h48 => ?_; clear h47
  refine pk0 (v := .bool (d.k == 9)) h48 rfl fun a49 h49 => ?_; clear h48
  refine pl_nil ?_
  refine co_then ?_
  have hc50 : (d.k == 9) = true := by first | (simp; done) | (simp; omega) | exact beq_false_of_ne (by omega) | exact beq_iff_eq.2 (by omega)
  rw [hc50] at h49; clear hc50
  refine co_true h49 rfl ?_
  refine co_seq ?_
  refine co_reg ?_
  refine pk0 (v := pt dd 0) h49 rfl fun a51 h51 => ?_; clear h49
  refine pk (v := .agg #[.int .u64 mk, .int .u64 hz, .int .i64 ep, .int .i64 hd]) h51 rfl (rn_loadN rfl rfl Try.underlying47 rfl (by kernel_rfl) hk45.all) fun a52 h52 => ?_; clear h51
  refine pk (v := .agg #[.int .i64 d.k, .int .i64 d.ep, .int .i64 d.rq, .int .i64 d.sr, .bool d.fg, .int .u64 d.at_, .int .u64 d.la, .int .i64 d.n, .int .i64 d.m, .int .i64 d.p, .int .i64 d.e, .string d.key, .string d.to_, .int .i64 d.cep, mv, .int .u64 d.cfl, .int .i64 d.bc, .int .i64 d.br, bv, ev, sv, pv]) h52 rfl (rn_loadN rfl rfl Try.underlying37 rfl (by kernel_rfl) hk38.all) fun a53 h53 => ?_; clear h52
  refine pw h53 rfl (op_call (args := #[pt dd 0, .agg #[.int .u64 mk, .int .u64 hz, .int .i64 ep, .int .i64 hd], .agg #[.int .i64 d.k, .int .i64 d.ep, .int .i64 d.rq, .int .i64 d.sr, .bool d.fg, .int .u64 d.at_, .int .u64 d.la, .int .i64 d.n, .int .i64 d.m, .int .i64 d.p, .int .i64 d.e, .string d.key, .string d.to_, .int .i64 d.cep, mv, .int .u64 d.cfl, .int .i64 d.bc, .int .i64 d.br, bv, ev, sv, pv]]) (R := fun res xw => res = .agg #[.int .i64 7, .int .i64 (mxI ep 0), .int .i64 d.rq, .int .i64 0, .bool false, .int .u64 0, .int .u64 0, .int .i64 (mxI hd 0), .int .i64 0, .int .i64 0, .int .i64 (bdC d.at_ mk hz), .string (⟨#[]⟩), .string (⟨#[]⟩), .int .i64 0, .slice none 0 0, .int .u64 0, .int .i64 0, .int .i64 0, .slice none 0 0, .slice none 0 0, .slice none 0 0, .slice none 0 0] ∧ Below w29.heap.size w29 xw) rfl rfl rfl (by kernel_rfl) (by kernel_rfl) (Try.call19 _ _) (r31ScanN_any dd mk hz ep hd d mv bv ev sv pv w29 (hm.below hB42) (hb.below hB42) (he.below hB42) (ht.below hB42) (hp.below hB42) (by omega)) (by rintro e x ⟨rfl, hb56⟩; exact ⟨_, rfl, ⟨rfl, hb56⟩⟩)) ?_; clear h53
  rintro _ w55 a54 ⟨rfl, hb56⟩ h54
  have hz57 := hb56.size
  have hk63 := hk21.below hb33
  have hk64 := hk63.below hb56
  refine pwD h54 rfl (op_storeN rfl rfl rfl (all_cons rfl (all_cons rfl (all_cons rfl (all_cons rfl (all_cons rfl (all_cons rfl (all_cons rfl (all_cons rfl (all_cons rfl (all_cons rfl (all_cons rfl (all_cons rfl (all_cons rfl (all_cons rfl (all_cons rfl (all_cons rfl (all_cons rfl (all_cons rfl (all_cons rfl (all_cons rfl (all_cons rfl (all_cons rfl all_nil)))))))))))))))))))))) (by kernel_rfl) hk64 rfl) ?_; clear h54
  rintro _ w59 a58 ⟨hk60, hz61, hg62⟩ h58
  have hk60' : Blk w59 N19 37 #[.int .i64 7, .int .i64 (mxI ep 0), .int .i64 d.rq, .int .i64 0, .bool false, .int .u64 0, .int .u64 0, .int .i64 (mxI hd 0), .int .i64 0, .int .i64 0, .int .i64 (bdC d.at_ mk hz), .string (⟨#[]⟩), .string (⟨#[]⟩), .int .i64 0, .slice none 0 0, .int .u64 0, .int .i64 0, .int .i64 0, .slice none 0 0, .slice none 0 0, .slice none 0 0, .slice none 0 0] := hk60; clear hk60
  have hz65 := hg62.size
  refine pk0 (v := .bool true) h58 rfl fun a66 h66 => ?_; clear h58
  refine pl_nil ?_
  refine co_then ?_
  refine wp_ret ?_
  refine co_thenR ?_
  refine co_retC1 (Q := fun _ _ _ => True) h66 rfl rfl rfl hk60' Try.underlying37 rfl (by kernel_rfl) ?_
  have hB67 := hb_call hB42 hb56
  have hB68 := hb_at hB67 hg62 (by omega)
  exact ⟨rfl, hB68⟩
 ·
  rw [hc41] at h40
  have hp69 : d.k = 8 := by first | simpa using hc41 | simpa [and_assoc] using hc41
  clear hc41
  refine co_true h40 rfl ?_
  refine co_seq ?_
  refine co_reg ?_
  refine pk0 (v := pt dd 0) h40 rfl fun a70 h70 => ?_; clear h40
  refine pk (v := .agg #[.int .u64 mk, .int .u64 hz, .int .i64 ep, .int .i64 hd]) h70 rfl (rn_loadN rfl rfl Try.underlying47 rfl (by kernel_rfl) hk45.all) fun a71 h71 => ?_; clear h70
  refine pk (v := .agg #[.int .i64 d.k, .int .i64 d.ep, .int .i64 d.rq, .int .i64 d.sr, .bool d.fg, .int .u64 d.at_, .int .u64 d.la, .int .i64 d.n, .int .i64 d.m, .int .i64 d.p, .int .i64 d.e, .string d.key, .string d.to_, .int .i64 d.cep, mv, .int .u64 d.cfl, .int .i64 d.bc, .int .i64 d.br, bv, ev, sv, pv]) h71 rfl (rn_loadN rfl rfl Try.underlying37 rfl (by kernel_rfl) hk38.all) fun a72 h72 => ?_; clear h71
  refine pw h72 rfl (op_call (args := #[pt dd 0, .agg #[.int .u64 mk, .int .u64 hz, .int .i64 ep, .int .i64 hd], .agg #[.int .i64 d.k, .int .i64 d.ep, .int .i64 d.rq, .int .i64 d.sr, .bool d.fg, .int .u64 d.at_, .int .u64 d.la, .int .i64 d.n, .int .i64 d.m, .int .i64 d.p, .int .i64 d.e, .string d.key, .string d.to_, .int .i64 d.cep, mv, .int .u64 d.cfl, .int .i64 d.bc, .int .i64 d.br, bv, ev, sv, pv]]) (R := fun res xw => res = .agg #[.int .i64 7, .int .i64 (mxI ep 0), .int .i64 d.rq, .int .i64 0, .bool false, .int .u64 0, .int .u64 0, .int .i64 (mxI hd 0), .int .i64 0, .int .i64 0, .int .i64 (bdC d.at_ mk hz), .string (⟨#[]⟩), .string (⟨#[]⟩), .int .i64 0, .slice none 0 0, .int .u64 0, .int .i64 0, .int .i64 0, .slice none 0 0, .slice none 0 0, .slice none 0 0, .slice none 0 0] ∧ Below w29.heap.size w29 xw) rfl rfl rfl (by kernel_rfl) (by kernel_rfl) (Try.call17 _ _) (r31GetN_any dd mk hz ep hd d mv bv ev sv pv w29 (hm.below hB42) (hb.below hB42) (he.below hB42) (ht.below hB42) (hp.below hB42) (by omega)) (by rintro e x ⟨rfl, hb75⟩; exact ⟨_, rfl, ⟨rfl, hb75⟩⟩)) ?_; clear h72
  rintro _ w74 a73 ⟨rfl, hb75⟩ h73
  have hz76 := hb75.size
  have hk82 := hk21.below hb33
  have hk83 := hk82.below hb75
  refine pwD h73 rfl (op_storeN rfl rfl rfl (all_cons rfl (all_cons rfl (all_cons rfl (all_cons rfl (all_cons rfl (all_cons rfl (all_cons rfl (all_cons rfl (all_cons rfl (all_cons rfl (all_cons rfl (all_cons rfl (all_cons rfl (all_cons rfl (all_cons rfl (all_cons rfl (all_cons rfl (all_cons rfl (all_cons rfl (all_cons rfl (all_cons rfl (all_cons rfl all_nil)))))))))))))))))))))) (by kernel_rfl) hk83 rfl) ?_; clear h73
  rintro _ w78 a77 ⟨hk79, hz80, hg81⟩ h77
  have hk79' : Blk w78 N19 37 #[.int .i64 7, .int .i64 (mxI ep 0), .int .i64 d.rq, .int .i64 0, .bool false, .int .u64 0, .int .u64 0, .int .i64 (mxI hd 0), .int .i64 0, .int .i64 0, .int .i64 (bdC d.at_ mk hz), .string (⟨#[]⟩), .string (⟨#[]⟩), .int .i64 0, .slice none 0 0, .int .u64 0, .int .i64 0, .int .i64 0, .slice none 0 0, .slice none 0 0, .slice none 0 0, .slice none 0 0] := hk79; clear hk79
  have hz84 := hg81.size
  refine pk0 (v := .bool true) h77 rfl fun a85 h85 => ?_; clear h77
  refine pl_nil ?_
  refine co_then ?_
  refine wp_ret ?_
  refine co_thenR ?_
  refine co_retC1 (Q := fun _ _ _ => True) h85 rfl rfl rfl hk79' Try.underlying37 rfl (by kernel_rfl) ?_
  have hB86 := hb_call hB42 hb75
  have hB87 := hb_at hB86 hg81 (by omega)
  exact ⟨rfl, hB87⟩
set_option maxRecDepth 100000 in
theorem r31Answer_any (D : Nat → Prop) (dd : Nat) (f : Fv) (la : Int) (m : Nat) (mk : Int) (hz : Int) (ep : Int) (hd : Int) (d : MsgD) (mv : Value) (bv : Value) (ev : Value) (sv : Value) (pv : Value) (w : World) (hRs : RsO D w dd f la m) (hm : m ≤ 100) (hm : SliceOf memE 2 w mv d.cms) (hb : SliceOf opE 3 w bv d.bl) (he : SliceOf entE 4 w ev d.en) (ht : SliceOf (intE .u64) 1 w sv d.st) (hp : SliceOf prE 2 w pv d.pr) (hok : ∀ z ∈ d.en, EntOk w z) (hR : MsgR d) (hoka : chkMg d = 0 ∧ (d.k = 8 ∨ d.k = 9)) (hbd : bdC d.at_ mk hz = 0) (hn : -9223372036854775808 ≤ d.n ∧ d.n ≤ 9223372036854775807) :
    Calls Try.prog 14 #[pt dd 0, .agg #[.int .u64 mk, .int .u64 hz, .int .i64 ep, .int .i64 hd], .agg #[.int .i64 d.k, .int .i64 d.ep, .int .i64 d.rq, .int .i64 d.sr, .bool d.fg, .int .u64 d.at_, .int .u64 d.la, .int .i64 d.n, .int .i64 d.m, .int .i64 d.p, .int .i64 d.e, .string d.key, .string d.to_, .int .i64 d.cep, mv, .int .u64 d.cfl, .int .i64 d.bc, .int .i64 d.br, bv, ev, sv, pv]] w fun e w' => ∃ (u : Value), e = .returned (.tuple #[.agg #[.int .i64 10, .int .i64 0, .int .i64 d.rq, .int .i64 0, .bool (flL f d), .int .u64 d.at_, .int .u64 0, .int .i64 0, .int .i64 0, .int .i64 0, .int .i64 0, .string d.key, .string (⟨#[]⟩), .int .i64 0, .slice none 0 0, .int .u64 0, .int .i64 0, .int .i64 0, .slice none 0 0, .slice none 0 0, .slice none 0 0, u], .bool true]) ∧ w'.ownsRow w.heap.size 88 2 u (psL f d).length ((psL f d).flatMap pairE) ∧ Below w.heap.size w w' := by
 have hB0 := Below.refl w.heap.size w
 have hl_hm := sl_len hm
 have hl_hb := sl_len hb
 have hl_he := sl_len he
 have hl_ht := sl_len ht
 have hl_hp := sl_len hp
 have hoD := RsO.ofS hRs
 refine co_enter (n := 27) Try.func14 rfl rfl rfl [(0, pt dd 0), (1, .agg #[.int .u64 mk, .int .u64 hz, .int .i64 ep, .int .i64 hd]), (2, .agg #[.int .i64 d.k, .int .i64 d.ep, .int .i64 d.rq, .int .i64 d.sr, .bool d.fg, .int .u64 d.at_, .int .u64 d.la, .int .i64 d.n, .int .i64 d.m, .int .i64 d.p, .int .i64 d.e, .string d.key, .string d.to_, .int .i64 d.cep, mv, .int .u64 d.cfl, .int .i64 d.bc, .int .i64 d.br, bv, ev, sv, pv])] rfl (fun a h0 => ?_)
 refine co_seq ?_
 refine co_reg ?_
 refine pw h0 rfl (op_new (v := fun N => pt N 0) (T := 47) (cs := #[.int .u64 mk, .int .u64 hz, .int .i64 ep, .int .i64 hd]) (by kernel_rfl) (by kernel_rfl) (by kernel_rfl)) ?_; clear h0
 rintro _ w2 a1 ⟨N3, rfl, hN6, hz7, hk5, hg4⟩ h1
 have hz8 := hg4.size
 have ho9 := off_new (RsO.ofS hRs) hN6
 try dsimp only at h1
 refine pw h1 rfl (op_new (v := fun N => pt N 0) (T := 37) (cs := #[.int .i64 d.k, .int .i64 d.ep, .int .i64 d.rq, .int .i64 d.sr, .bool d.fg, .int .u64 d.at_, .int .u64 d.la, .int .i64 d.n, .int .i64 d.m, .int .i64 d.p, .int .i64 d.e, .string d.key, .string d.to_, .int .i64 d.cep, mv, .int .u64 d.cfl, .int .i64 d.bc, .int .i64 d.br, bv, ev, sv, pv]) (by kernel_rfl) (by kernel_rfl) (by kernel_rfl)) ?_; clear h1
 rintro _ w11 a10 ⟨N12, rfl, hN15, hz16, hk14, hg13⟩ h10
 have hz17 := hg13.size
 have hO19 := RsO.gr hRs hg4 (fun k e => by cases e)
 have ho18 := off_new (RsO.ofS hO19) hN15
 try dsimp only at h10
 refine pw h10 rfl (op_new (v := fun N => pt N 0) (T := 37) (cs := #[.int .i64 0, .int .i64 0, .int .i64 0, .int .i64 0, .bool false, .int .u64 0, .int .u64 0, .int .i64 0, .int .i64 0, .int .i64 0, .int .i64 0, .string (⟨#[]⟩), .string (⟨#[]⟩), .int .i64 0, .slice none 0 0, .int .u64 0, .int .i64 0, .int .i64 0, .slice none 0 0, .slice none 0 0, .slice none 0 0, .slice none 0 0]) (by kernel_rfl) (by kernel_rfl) (by kernel_rfl)) ?_; clear h10
 rintro _ w21 a20 ⟨N22, rfl, hN25, hz26, hk24, hg23⟩ h20
 have hz27 := hg23.size
 have hO29 := RsO.gr hO19 hg13 (fun k e => by cases e)
 have ho28 := off_new (RsO.ofS hO29) hN25
 try dsimp only at h20
 refine pk0 (v := .bool false) h20 rfl fun a30 h30 => ?_; clear h20
 refine pl_nil ?_
 refine co_then ?_
 refine co_seq ?_
 refine co_seq ?_
 refine co_reg ?_
 have hk31 := hk14.kept hg23 (by simp)
 refine pk (v := .agg #[.int .i64 d.k, .int .i64 d.ep, .int .i64 d.rq, .int .i64 d.sr, .bool d.fg, .int .u64 d.at_, .int .u64 d.la, .int .i64 d.n, .int .i64 d.m, .int .i64 d.p, .int .i64 d.e, .string d.key, .string d.to_, .int .i64 d.cep, mv, .int .u64 d.cfl, .int .i64 d.bc, .int .i64 d.br, bv, ev, sv, pv]) h30 rfl (rn_loadN rfl rfl Try.underlying37 rfl (by kernel_rfl) hk31.all) fun a32 h32 => ?_; clear h30
 have hB35 := hb_new hB0 hg4
 have hB36 := hb_new hB35 hg13
 have hB37 := hb_new hB36 hg23
 refine pw h32 rfl (op_call (args := #[.agg #[.int .i64 d.k, .int .i64 d.ep, .int .i64 d.rq, .int .i64 d.sr, .bool d.fg, .int .u64 d.at_, .int .u64 d.la, .int .i64 d.n, .int .i64 d.m, .int .i64 d.p, .int .i64 d.e, .string d.key, .string d.to_, .int .i64 d.cep, mv, .int .u64 d.cfl, .int .i64 d.bc, .int .i64 d.br, bv, ev, sv, pv]]) (R := fun res xw => res = .int .i64 (chkMg d) ∧ Below w21.heap.size w21 xw) rfl rfl rfl (by kernel_rfl) (by kernel_rfl) (Try.call34 _ _) (rmCheck_any d mv bv ev sv pv w21 (hm.below hB37) (hb.below hB37) (he.below hB37) (ht.below hB37) (hp.below hB37) (fun z hz => (hok z hz).below hB37) hR) (by rintro e x ⟨rfl, hb38⟩; exact ⟨_, rfl, ⟨rfl, hb38⟩⟩)) ?_; clear h32
 rintro _ w34 a33 ⟨rfl, hb38⟩ h33
 have hz39 := hb38.size
 have hO41 := RsO.gr hO29 hg23 (fun k e => by cases e)
 have ho40 := RsO.ofS hO41
 refine pk0 (v := .bool (chkMg d != 0)) h33 rfl fun a42 h42 => ?_; clear h33
 refine pl_nil ?_
 refine co_then ?_
 have hc43 : (chkMg d != 0) = false := by first | (simp; done) | (simp; omega) | exact beq_false_of_ne (by omega) | exact beq_iff_eq.2 (by omega)
 rw [hc43] at h42; clear hc43
 refine co_false h42 rfl ?_
 refine wp_skip ?_
 refine co_then ?_
 refine co_seq ?_
 refine co_seq ?_
 refine co_reg ?_
 refine pk0 (v := pt N12 0) h42 rfl fun a44 h44 => ?_; clear h42
 have hk45 := hk31.below hb38
 refine pk (v := .int .i64 d.k) h44 rfl (rn_load1 rfl rfl Try.isAgg3 (hk45.cell rfl)) fun a46 h46 => ?_; clear h44
 refine pk0 (v := .bool (d.k == 8)) h46 rfl fun a47 h47 => ?_; clear h46
 refine pl_nil ?_
 refine co_then ?_
 have hB49 := hb_call hB37 hb38
 have hk50 := hk5.kept hg13 (by simp)
 have hk51 := hk50.kept hg23 (by simp)
 have hk52 := hk51.below hb38
 cases hc48 : (d.k == 8)
 ·
  rw [hc48] at h47
  have hp53 : ¬ (d.k = 8) := by first | simpa using hc48 | simpa [and_assoc] using hc48
  clear hc48
  refine co_false h47 rfl ?_
  refine wp_skip ?_
  refine co_then ?_
  refine co_seq ?_
  refine co_seq ?_
  refine co_reg ?_
  refine pk0 (v := pt N12 0) h47 rfl fun a54 h54 => ?_; clear h47
  refine pk (v := .int .i64 d.k) h54 rfl (rn_load1 rfl rfl Try.isAgg3 (hk45.cell rfl)) fun a55 h55 => ?_; clear h54
  refine pk0 (v := .bool (d.k == 9)) h55 rfl fun a56 h56 => ?_; clear h55
  refine pl_nil ?_
  refine co_then ?_
  have hc57 : (d.k == 9) = true := by first | (simp; done) | (simp; omega) | exact beq_false_of_ne (by omega) | exact beq_iff_eq.2 (by omega)
  rw [hc57] at h56; clear hc57
  refine co_true h56 rfl ?_
  refine co_seq ?_
  refine co_reg ?_
  refine pk0 (v := pt dd 0) h56 rfl fun a58 h58 => ?_; clear h56
  refine pk (v := .agg #[.int .u64 mk, .int .u64 hz, .int .i64 ep, .int .i64 hd]) h58 rfl (rn_loadN rfl rfl Try.underlying47 rfl (by kernel_rfl) hk52.all) fun a59 h59 => ?_; clear h58
  refine pk (v := .agg #[.int .i64 d.k, .int .i64 d.ep, .int .i64 d.rq, .int .i64 d.sr, .bool d.fg, .int .u64 d.at_, .int .u64 d.la, .int .i64 d.n, .int .i64 d.m, .int .i64 d.p, .int .i64 d.e, .string d.key, .string d.to_, .int .i64 d.cep, mv, .int .u64 d.cfl, .int .i64 d.bc, .int .i64 d.br, bv, ev, sv, pv]) h59 rfl (rn_loadN rfl rfl Try.underlying37 rfl (by kernel_rfl) hk45.all) fun a60 h60 => ?_; clear h59
  have hO63 := RsO.gr hO41 (below_grown hb38) (fun k e => by cases e)
  refine pw h60 rfl (op_call (args := #[pt dd 0, .agg #[.int .u64 mk, .int .u64 hz, .int .i64 ep, .int .i64 hd], .agg #[.int .i64 d.k, .int .i64 d.ep, .int .i64 d.rq, .int .i64 d.sr, .bool d.fg, .int .u64 d.at_, .int .u64 d.la, .int .i64 d.n, .int .i64 d.m, .int .i64 d.p, .int .i64 d.e, .string d.key, .string d.to_, .int .i64 d.cep, mv, .int .u64 d.cfl, .int .i64 d.bc, .int .i64 d.br, bv, ev, sv, pv]]) (R := fun res xw => ∃ u : Value, res = .agg #[.int .i64 10, .int .i64 0, .int .i64 d.rq, .int .i64 0, .bool (scanM (hitsF f d.at_ d.key d.to_) (mnI d.n 32)), .int .u64 d.at_, .int .u64 0, .int .i64 0, .int .i64 0, .int .i64 0, .int .i64 0, .string d.key, .string (⟨#[]⟩), .int .i64 0, .slice none 0 0, .int .u64 0, .int .i64 0, .int .i64 0, .slice none 0 0, .slice none 0 0, .slice none 0 0, u] ∧ xw.ownsRow w34.heap.size 88 2 u (scanL (hitsF f d.at_ d.key d.to_) (mnI d.n 32)).length ((scanL (hitsF f d.at_ d.key d.to_) (mnI d.n 32)).flatMap pairE) ∧ Below w34.heap.size w34 xw) rfl rfl rfl (by kernel_rfl) (by kernel_rfl) (Try.call19 _ _) (r31Scan_any D dd f la m mk hz ep hd d mv bv ev sv pv w34 hO63 (by omega) (hm.below hB49) (hb.below hB49) (he.below hB49) (ht.below hB49) (hp.below hB49) (by omega) (by omega)) (by rintro e x ⟨u, rfl, hq65, hb66⟩; exact ⟨_, rfl, ⟨u, rfl, hq65, hb66⟩⟩)) ?_; clear h60
  rintro _ w62 a61 ⟨u64, rfl, hq65, hb66⟩ h61
  have hz67 := hb66.size
  have ho68 := RsO.ofS hO63
  have hl69 := sl_len (row_sl hq65 pairE_len)
  have hk75 := hk24.below hb38
  have hk76 := hk75.below hb66
  refine pwD h61 rfl (op_storeN rfl rfl rfl (all_cons rfl (all_cons rfl (all_cons rfl (all_cons rfl (all_cons rfl (all_cons rfl (all_cons rfl (all_cons rfl (all_cons rfl (all_cons rfl (all_cons rfl (all_cons rfl (all_cons rfl (all_cons rfl (all_cons rfl (all_cons rfl (all_cons rfl (all_cons rfl (all_cons rfl (all_cons rfl (all_cons rfl (all_cons (row_one hq65) all_nil)))))))))))))))))))))) (by kernel_rfl) hk76 rfl) ?_; clear h61
  rintro _ w71 a70 ⟨hk72, hz73, hg74⟩ h70
  have hk72' : Blk w71 N22 37 #[.int .i64 10, .int .i64 0, .int .i64 d.rq, .int .i64 0, .bool (scanM (hitsF f d.at_ d.key d.to_) (mnI d.n 32)), .int .u64 d.at_, .int .u64 0, .int .i64 0, .int .i64 0, .int .i64 0, .int .i64 0, .string d.key, .string (⟨#[]⟩), .int .i64 0, .slice none 0 0, .int .u64 0, .int .i64 0, .int .i64 0, .slice none 0 0, .slice none 0 0, .slice none 0 0, u64] := hk72; clear hk72
  have hz77 := hg74.size
  refine pk0 (v := .bool true) h70 rfl fun a78 h78 => ?_; clear h70
  refine pl_nil ?_
  refine co_then ?_
  refine wp_ret ?_
  refine co_thenR ?_
  refine co_retC1 (Q := fun _ _ _ => True) h78 rfl rfl rfl hk72' Try.underlying37 rfl (by kernel_rfl) ?_
  have hr79 := row_kept_at hq65 hg74 (own_neT hq65 hk76 (by decide))
  have hB80 := hb_call hB49 hb66
  have hB81 := hb_at hB80 hg74 (by omega)
  have hfl := fl_9 (f := f) (d := d) (by omega)
  exact ⟨_, by rw [← hfl], (row_eq (row_lows hr79 (by omega)) (ps_9 (by omega))), hB81⟩
 ·
  rw [hc48] at h47
  have hp82 : d.k = 8 := by first | simpa using hc48 | simpa [and_assoc] using hc48
  clear hc48
  refine co_true h47 rfl ?_
  refine co_seq ?_
  refine co_reg ?_
  refine pk0 (v := pt dd 0) h47 rfl fun a83 h83 => ?_; clear h47
  refine pk (v := .agg #[.int .u64 mk, .int .u64 hz, .int .i64 ep, .int .i64 hd]) h83 rfl (rn_loadN rfl rfl Try.underlying47 rfl (by kernel_rfl) hk52.all) fun a84 h84 => ?_; clear h83
  refine pk (v := .agg #[.int .i64 d.k, .int .i64 d.ep, .int .i64 d.rq, .int .i64 d.sr, .bool d.fg, .int .u64 d.at_, .int .u64 d.la, .int .i64 d.n, .int .i64 d.m, .int .i64 d.p, .int .i64 d.e, .string d.key, .string d.to_, .int .i64 d.cep, mv, .int .u64 d.cfl, .int .i64 d.bc, .int .i64 d.br, bv, ev, sv, pv]) h84 rfl (rn_loadN rfl rfl Try.underlying37 rfl (by kernel_rfl) hk45.all) fun a85 h85 => ?_; clear h84
  have hO88 := RsO.gr hO41 (below_grown hb38) (fun k e => by cases e)
  refine pw h85 rfl (op_call (args := #[pt dd 0, .agg #[.int .u64 mk, .int .u64 hz, .int .i64 ep, .int .i64 hd], .agg #[.int .i64 d.k, .int .i64 d.ep, .int .i64 d.rq, .int .i64 d.sr, .bool d.fg, .int .u64 d.at_, .int .u64 d.la, .int .i64 d.n, .int .i64 d.m, .int .i64 d.p, .int .i64 d.e, .string d.key, .string d.to_, .int .i64 d.cep, mv, .int .u64 d.cfl, .int .i64 d.bc, .int .i64 d.br, bv, ev, sv, pv]]) (R := fun res xw => ∃ u : Value, res = .agg #[.int .i64 10, .int .i64 0, .int .i64 d.rq, .int .i64 0, .bool false, .int .u64 d.at_, .int .u64 0, .int .i64 0, .int .i64 0, .int .i64 0, .int .i64 0, .string d.key, .string (⟨#[]⟩), .int .i64 0, .slice none 0 0, .int .u64 0, .int .i64 0, .int .i64 0, .slice none 0 0, .slice none 0 0, .slice none 0 0, u] ∧ xw.ownsRow w34.heap.size 88 2 u (rdL f d.key d.at_).length ((rdL f d.key d.at_).flatMap pairE) ∧ Below w34.heap.size w34 xw) rfl rfl rfl (by kernel_rfl) (by kernel_rfl) (Try.call17 _ _) (r31Get_any D dd f la m mk hz ep hd d mv bv ev sv pv w34 hO88 (by omega) (hm.below hB49) (hb.below hB49) (he.below hB49) (ht.below hB49) (hp.below hB49) (by omega)) (by rintro e x ⟨u, rfl, hq90, hb91⟩; exact ⟨_, rfl, ⟨u, rfl, hq90, hb91⟩⟩)) ?_; clear h85
  rintro _ w87 a86 ⟨u89, rfl, hq90, hb91⟩ h86
  have hz92 := hb91.size
  have ho93 := RsO.ofS hO88
  have hl94 := sl_len (row_sl hq90 pairE_len)
  have hk100 := hk24.below hb38
  have hk101 := hk100.below hb91
  refine pwD h86 rfl (op_storeN rfl rfl rfl (all_cons rfl (all_cons rfl (all_cons rfl (all_cons rfl (all_cons rfl (all_cons rfl (all_cons rfl (all_cons rfl (all_cons rfl (all_cons rfl (all_cons rfl (all_cons rfl (all_cons rfl (all_cons rfl (all_cons rfl (all_cons rfl (all_cons rfl (all_cons rfl (all_cons rfl (all_cons rfl (all_cons rfl (all_cons (row_one hq90) all_nil)))))))))))))))))))))) (by kernel_rfl) hk101 rfl) ?_; clear h86
  rintro _ w96 a95 ⟨hk97, hz98, hg99⟩ h95
  have hk97' : Blk w96 N22 37 #[.int .i64 10, .int .i64 0, .int .i64 d.rq, .int .i64 0, .bool false, .int .u64 d.at_, .int .u64 0, .int .i64 0, .int .i64 0, .int .i64 0, .int .i64 0, .string d.key, .string (⟨#[]⟩), .int .i64 0, .slice none 0 0, .int .u64 0, .int .i64 0, .int .i64 0, .slice none 0 0, .slice none 0 0, .slice none 0 0, u89] := hk97; clear hk97
  have hz102 := hg99.size
  refine pk0 (v := .bool true) h95 rfl fun a103 h103 => ?_; clear h95
  refine pl_nil ?_
  refine co_then ?_
  refine wp_ret ?_
  refine co_thenR ?_
  refine co_retC1 (Q := fun _ _ _ => True) h103 rfl rfl rfl hk97' Try.underlying37 rfl (by kernel_rfl) ?_
  have hr104 := row_kept_at hq90 hg99 (own_neT hq90 hk101 (by decide))
  have hB105 := hb_call hB49 hb91
  have hB106 := hb_at hB105 hg99 (by omega)
  have hfl := fl_8 (f := f) (d := d) (by omega)
  exact ⟨_, by rw [← hfl], (row_eq (row_lows hr104 (by omega)) (ps_8 (by omega))), hB106⟩
end Go.Proofs.Ytbjbcbbhmbpndaa

/- catenalaw31: what both answer, by one function. Conditions: at most 100 calls, 20 operations each. -/
namespace Go.Proofs.Ytbjbcbbhmbpndaa
open Go.RowKit Go.PlainAid
set_option linter.unusedVariables false
set_option linter.unusedSimpArgs false


structure AnT where
  k : Int
  ep : Int
  rq : Int
  fg : Bool
  at_ : Int
  n : Int
  e : Int
  key : ByteArray
  pr : List PairT
def AnT.d (a : AnT) : MsgD := ⟨a.k, a.ep, a.rq, 0, a.fg, a.at_, 0, a.n, 0, 0, a.e, a.key, ⟨#[]⟩, 0, [], 0, 0, 0, [], [], [], a.pr⟩
def anZ : AnT := ⟨0, 0, 0, false, 0, 0, 0, ⟨#[]⟩, []⟩
def anN (d : MsgD) (mk hz ep hd : Int) : AnT := ⟨7, ep, d.rq, false, 0, hd, bdC d.at_ mk hz, ⟨#[]⟩, []⟩
def anR (d : MsgD) (fl : Bool) (L : List PairT) : AnT := ⟨10, 0, d.rq, fl, d.at_, 0, 0, d.key, L⟩
noncomputable def getF (f : Fv) (d : MsgD) (mk hz ep hd : Int) : AnT := if bdC d.at_ mk hz = 0 then anR d false (rdL f d.key d.at_) else anN d mk hz ep hd
noncomputable def scanF (f : Fv) (d : MsgD) (mk hz ep hd : Int) : AnT := if bdC d.at_ mk hz = 0 then anR d (scanM (hitsF f d.at_ d.key d.to_) (mnI d.n 32)) (scanL (hitsF f d.at_ d.key d.to_) (mnI d.n 32)) else anN d mk hz ep hd
noncomputable def ansF (f : Fv) (d : MsgD) (mk hz ep hd : Int) : AnT := if chkMg d = 0 ∧ (d.k = 8 ∨ d.k = 9) then (if bdC d.at_ mk hz = 0 then anR d (flL f d) (psL f d) else anN d mk hz ep hd) else anZ
def AnB (a : AnT) : Prop := 0 ≤ a.at_ ∧ a.at_ < 18446744073709551616
theorem anN_b (d : MsgD) (mk hz ep hd : Int) : AnB (anN d mk hz ep hd) := ⟨by show (0 : Int) ≤ 0; omega, by show (0 : Int) < _; omega⟩
theorem getF_b {f : Fv} {d : MsgD} {mk hz ep hd : Int} (h : 0 ≤ d.at_ ∧ d.at_ < 18446744073709551616) : AnB (getF f d mk hz ep hd) := by unfold getF; split; exact h; exact anN_b _ _ _ _ _
theorem scanF_b {f : Fv} {d : MsgD} {mk hz ep hd : Int} (h : 0 ≤ d.at_ ∧ d.at_ < 18446744073709551616) : AnB (scanF f d mk hz ep hd) := by unfold scanF; split; exact h; exact anN_b _ _ _ _ _
theorem ansF_b {f : Fv} {d : MsgD} {mk hz ep hd : Int} (h : 0 ≤ d.at_ ∧ d.at_ < 18446744073709551616) : AnB (ansF f d mk hz ep hd) := by
  unfold ansF; split
  · split; exact h; exact anN_b _ _ _ _ _
  · exact ⟨by show (0 : Int) ≤ 0; omega, by show (0 : Int) < _; omega⟩
theorem an_R {a : AnT} (h : AnB a) : MsgR a.d := msgR0 h

theorem uGet (S : Nat → Prop) (b : Nat) (f : Fv) (la ce : Int) (m : Nat) (mk hz ep hd : Int) (d : MsgD) (mv bv ev sv pv : Value) (w : World) (hO : MvO S w b f la ce m) (hm : m ≤ 100) (hM : MsgOk w ⟨d, mv, bv, ev, sv, pv⟩) :
    Calls Try.prog 16 #[pt b 0, .agg #[.int .u64 mk, .int .u64 hz, .int .i64 ep, .int .i64 hd], .agg #[.int .i64 d.k, .int .i64 d.ep, .int .i64 d.rq, .int .i64 d.sr, .bool d.fg, .int .u64 d.at_, .int .u64 d.la, .int .i64 d.n, .int .i64 d.m, .int .i64 d.p, .int .i64 d.e, .string d.key, .string d.to_, .int .i64 d.cep, mv, .int .u64 d.cfl, .int .i64 d.bc, .int .i64 d.br, bv, ev, sv, pv]] w fun e w' => ∃ (a : AnT) (u : Value), a = getF f d mk hz ep hd ∧ e = .returned (.agg #[.int .i64 a.k, .int .i64 a.ep, .int .i64 a.rq, .int .i64 0, .bool a.fg, .int .u64 a.at_, .int .u64 0, .int .i64 a.n, .int .i64 0, .int .i64 0, .int .i64 a.e, .string a.key, .string (⟨#[]⟩), .int .i64 0, .slice none 0 0, .int .u64 0, .int .i64 0, .int .i64 0, .slice none 0 0, .slice none 0 0, .slice none 0 0, u]) ∧ w'.ownsRow w.heap.size 88 2 u a.pr.length (a.pr.flatMap pairE) ∧ Below w.heap.size w w' := by
  obtain ⟨h1, h2, h3, h4, h5, h6, h7, h8, _⟩ := hM
  by_cases hb : bdC d.at_ mk hz = 0
  · refine (srvGet_any S b f la ce m mk hz ep hd d mv bv ev sv pv w hO hm h1 h2 h3 h4 h5 hb).mono ?_
    rintro e x ⟨u, rfl, hr, hx⟩
    exact ⟨_, u, by unfold getF; rw [if_pos hb], rfl, hr, hx⟩
  · refine (srvGetN_any b mk hz ep hd d mv bv ev sv pv w h1 h2 h3 h4 h5 hb).mono ?_
    rintro e x ⟨rfl, hx⟩
    exact ⟨_, .slice none 0 0, by unfold getF; rw [if_neg hb], rfl, World.ownsRow_nil _ _ _ _, hx⟩
theorem uScan (S : Nat → Prop) (b : Nat) (f : Fv) (la ce : Int) (m : Nat) (mk hz ep hd : Int) (d : MsgD) (mv bv ev sv pv : Value) (w : World) (hO : MvO S w b f la ce m) (hm : m ≤ 100) (hM : MsgOk w ⟨d, mv, bv, ev, sv, pv⟩) :
    Calls Try.prog 18 #[pt b 0, .agg #[.int .u64 mk, .int .u64 hz, .int .i64 ep, .int .i64 hd], .agg #[.int .i64 d.k, .int .i64 d.ep, .int .i64 d.rq, .int .i64 d.sr, .bool d.fg, .int .u64 d.at_, .int .u64 d.la, .int .i64 d.n, .int .i64 d.m, .int .i64 d.p, .int .i64 d.e, .string d.key, .string d.to_, .int .i64 d.cep, mv, .int .u64 d.cfl, .int .i64 d.bc, .int .i64 d.br, bv, ev, sv, pv]] w fun e w' => ∃ (a : AnT) (u : Value), a = scanF f d mk hz ep hd ∧ e = .returned (.agg #[.int .i64 a.k, .int .i64 a.ep, .int .i64 a.rq, .int .i64 0, .bool a.fg, .int .u64 a.at_, .int .u64 0, .int .i64 a.n, .int .i64 0, .int .i64 0, .int .i64 a.e, .string a.key, .string (⟨#[]⟩), .int .i64 0, .slice none 0 0, .int .u64 0, .int .i64 0, .int .i64 0, .slice none 0 0, .slice none 0 0, .slice none 0 0, u]) ∧ w'.ownsRow w.heap.size 88 2 u a.pr.length (a.pr.flatMap pairE) ∧ Below w.heap.size w w' := by
  obtain ⟨h1, h2, h3, h4, h5, h6, h7, h8, _⟩ := hM
  by_cases hb : bdC d.at_ mk hz = 0
  · refine (srvScan_any S b f la ce m mk hz ep hd d mv bv ev sv pv w hO hm h1 h2 h3 h4 h5 hb h8).mono ?_
    rintro e x ⟨u, rfl, hr, hx⟩
    exact ⟨_, u, by unfold scanF; rw [if_pos hb], rfl, hr, hx⟩
  · refine (srvScanN_any b mk hz ep hd d mv bv ev sv pv w h1 h2 h3 h4 h5 hb).mono ?_
    rintro e x ⟨rfl, hx⟩
    exact ⟨_, .slice none 0 0, by unfold scanF; rw [if_neg hb], rfl, World.ownsRow_nil _ _ _ _, hx⟩
theorem uAns (S : Nat → Prop) (b : Nat) (f : Fv) (la ce : Int) (m : Nat) (mk hz ep hd : Int) (d : MsgD) (mv bv ev sv pv : Value) (w : World) (hO : MvO S w b f la ce m) (hm : m ≤ 100) (hM : MsgOk w ⟨d, mv, bv, ev, sv, pv⟩) :
    Calls Try.prog 13 #[pt b 0, .agg #[.int .u64 mk, .int .u64 hz, .int .i64 ep, .int .i64 hd], .agg #[.int .i64 d.k, .int .i64 d.ep, .int .i64 d.rq, .int .i64 d.sr, .bool d.fg, .int .u64 d.at_, .int .u64 d.la, .int .i64 d.n, .int .i64 d.m, .int .i64 d.p, .int .i64 d.e, .string d.key, .string d.to_, .int .i64 d.cep, mv, .int .u64 d.cfl, .int .i64 d.bc, .int .i64 d.br, bv, ev, sv, pv]] w fun e w' => ∃ (a : AnT) (u : Value), a = ansF f d mk hz ep hd ∧ e = .returned (.tuple #[.agg #[.int .i64 a.k, .int .i64 a.ep, .int .i64 a.rq, .int .i64 0, .bool a.fg, .int .u64 a.at_, .int .u64 0, .int .i64 a.n, .int .i64 0, .int .i64 0, .int .i64 a.e, .string a.key, .string (⟨#[]⟩), .int .i64 0, .slice none 0 0, .int .u64 0, .int .i64 0, .int .i64 0, .slice none 0 0, .slice none 0 0, .slice none 0 0, u], .bool (decide (chkMg d = 0 ∧ (d.k = 8 ∨ d.k = 9)))]) ∧ w'.ownsRow w.heap.size 88 2 u a.pr.length (a.pr.flatMap pairE) ∧ Below w.heap.size w w' := by
  obtain ⟨h1, h2, h3, h4, h5, h6, h7, h8, _⟩ := hM
  by_cases ha : chkMg d = 0 ∧ (d.k = 8 ∨ d.k = 9)
  · by_cases hb : bdC d.at_ mk hz = 0
    · refine (srvAnswer_any S b f la ce m mk hz ep hd d mv bv ev sv pv w hO hm h1 h2 h3 h4 h5 h6 h7 ha hb h8).mono ?_
      rintro e x ⟨u, rfl, hr, hx⟩
      exact ⟨anR d (flL f d) (psL f d), u, by unfold ansF; rw [if_pos ha, if_pos hb], by rw [decide_eq_true ha]; rfl, hr, hx⟩
    · refine (srvAnswerN_any b mk hz ep hd d mv bv ev sv pv w h1 h2 h3 h4 h5 h6 h7 ha hb).mono ?_
      rintro e x ⟨rfl, hx⟩
      exact ⟨anN d mk hz ep hd, .slice none 0 0, by unfold ansF; rw [if_pos ha, if_neg hb], by rw [decide_eq_true ha]; rfl, World.ownsRow_nil _ _ _ _, hx⟩
  · refine (srvAnswerZ_any b mk hz ep hd d mv bv ev sv pv w h1 h2 h3 h4 h5 h6 h7 ha).mono ?_
    rintro e x ⟨rfl, hx⟩
    exact ⟨anZ, .slice none 0 0, by unfold ansF; rw [if_neg ha], by rw [decide_eq_false ha]; rfl, World.ownsRow_nil _ _ _ _, hx⟩
theorem vGet (D : Nat → Prop) (dd : Nat) (f : Fv) (la : Int) (m : Nat) (mk hz ep hd : Int) (d : MsgD) (mv bv ev sv pv : Value) (w : World) (hO : RsO D w dd f la m) (hm : m ≤ 100) (hM : MsgOk w ⟨d, mv, bv, ev, sv, pv⟩) :
    Calls Try.prog 17 #[pt dd 0, .agg #[.int .u64 mk, .int .u64 hz, .int .i64 ep, .int .i64 hd], .agg #[.int .i64 d.k, .int .i64 d.ep, .int .i64 d.rq, .int .i64 d.sr, .bool d.fg, .int .u64 d.at_, .int .u64 d.la, .int .i64 d.n, .int .i64 d.m, .int .i64 d.p, .int .i64 d.e, .string d.key, .string d.to_, .int .i64 d.cep, mv, .int .u64 d.cfl, .int .i64 d.bc, .int .i64 d.br, bv, ev, sv, pv]] w fun e w' => ∃ (a : AnT) (u : Value), a = getF f d mk hz (mxI ep 0) (mxI hd 0) ∧ e = .returned (.agg #[.int .i64 a.k, .int .i64 a.ep, .int .i64 a.rq, .int .i64 0, .bool a.fg, .int .u64 a.at_, .int .u64 0, .int .i64 a.n, .int .i64 0, .int .i64 0, .int .i64 a.e, .string a.key, .string (⟨#[]⟩), .int .i64 0, .slice none 0 0, .int .u64 0, .int .i64 0, .int .i64 0, .slice none 0 0, .slice none 0 0, .slice none 0 0, u]) ∧ w'.ownsRow w.heap.size 88 2 u a.pr.length (a.pr.flatMap pairE) ∧ Below w.heap.size w w' := by
  obtain ⟨h1, h2, h3, h4, h5, h6, h7, h8, _⟩ := hM
  by_cases hb : bdC d.at_ mk hz = 0
  · refine (r31Get_any D dd f la m mk hz ep hd d mv bv ev sv pv w hO hm h1 h2 h3 h4 h5 hb).mono ?_
    rintro e x ⟨u, rfl, hr, hx⟩
    exact ⟨_, u, by unfold getF; rw [if_pos hb], rfl, hr, hx⟩
  · refine (r31GetN_any dd mk hz ep hd d mv bv ev sv pv w h1 h2 h3 h4 h5 hb).mono ?_
    rintro e x ⟨rfl, hx⟩
    exact ⟨_, .slice none 0 0, by unfold getF; rw [if_neg hb], rfl, World.ownsRow_nil _ _ _ _, hx⟩
theorem vScan (D : Nat → Prop) (dd : Nat) (f : Fv) (la : Int) (m : Nat) (mk hz ep hd : Int) (d : MsgD) (mv bv ev sv pv : Value) (w : World) (hO : RsO D w dd f la m) (hm : m ≤ 100) (hM : MsgOk w ⟨d, mv, bv, ev, sv, pv⟩) :
    Calls Try.prog 19 #[pt dd 0, .agg #[.int .u64 mk, .int .u64 hz, .int .i64 ep, .int .i64 hd], .agg #[.int .i64 d.k, .int .i64 d.ep, .int .i64 d.rq, .int .i64 d.sr, .bool d.fg, .int .u64 d.at_, .int .u64 d.la, .int .i64 d.n, .int .i64 d.m, .int .i64 d.p, .int .i64 d.e, .string d.key, .string d.to_, .int .i64 d.cep, mv, .int .u64 d.cfl, .int .i64 d.bc, .int .i64 d.br, bv, ev, sv, pv]] w fun e w' => ∃ (a : AnT) (u : Value), a = scanF f d mk hz (mxI ep 0) (mxI hd 0) ∧ e = .returned (.agg #[.int .i64 a.k, .int .i64 a.ep, .int .i64 a.rq, .int .i64 0, .bool a.fg, .int .u64 a.at_, .int .u64 0, .int .i64 a.n, .int .i64 0, .int .i64 0, .int .i64 a.e, .string a.key, .string (⟨#[]⟩), .int .i64 0, .slice none 0 0, .int .u64 0, .int .i64 0, .int .i64 0, .slice none 0 0, .slice none 0 0, .slice none 0 0, u]) ∧ w'.ownsRow w.heap.size 88 2 u a.pr.length (a.pr.flatMap pairE) ∧ Below w.heap.size w w' := by
  obtain ⟨h1, h2, h3, h4, h5, h6, h7, h8, _⟩ := hM
  by_cases hb : bdC d.at_ mk hz = 0
  · refine (r31Scan_any D dd f la m mk hz ep hd d mv bv ev sv pv w hO hm h1 h2 h3 h4 h5 hb h8).mono ?_
    rintro e x ⟨u, rfl, hr, hx⟩
    exact ⟨_, u, by unfold scanF; rw [if_pos hb], rfl, hr, hx⟩
  · refine (r31ScanN_any dd mk hz ep hd d mv bv ev sv pv w h1 h2 h3 h4 h5 hb).mono ?_
    rintro e x ⟨rfl, hx⟩
    exact ⟨_, .slice none 0 0, by unfold scanF; rw [if_neg hb], rfl, World.ownsRow_nil _ _ _ _, hx⟩
theorem vAns (D : Nat → Prop) (dd : Nat) (f : Fv) (la : Int) (m : Nat) (mk hz ep hd : Int) (d : MsgD) (mv bv ev sv pv : Value) (w : World) (hO : RsO D w dd f la m) (hm : m ≤ 100) (hM : MsgOk w ⟨d, mv, bv, ev, sv, pv⟩) :
    Calls Try.prog 14 #[pt dd 0, .agg #[.int .u64 mk, .int .u64 hz, .int .i64 ep, .int .i64 hd], .agg #[.int .i64 d.k, .int .i64 d.ep, .int .i64 d.rq, .int .i64 d.sr, .bool d.fg, .int .u64 d.at_, .int .u64 d.la, .int .i64 d.n, .int .i64 d.m, .int .i64 d.p, .int .i64 d.e, .string d.key, .string d.to_, .int .i64 d.cep, mv, .int .u64 d.cfl, .int .i64 d.bc, .int .i64 d.br, bv, ev, sv, pv]] w fun e w' => ∃ (a : AnT) (u : Value), a = ansF f d mk hz (mxI ep 0) (mxI hd 0) ∧ e = .returned (.tuple #[.agg #[.int .i64 a.k, .int .i64 a.ep, .int .i64 a.rq, .int .i64 0, .bool a.fg, .int .u64 a.at_, .int .u64 0, .int .i64 a.n, .int .i64 0, .int .i64 0, .int .i64 a.e, .string a.key, .string (⟨#[]⟩), .int .i64 0, .slice none 0 0, .int .u64 0, .int .i64 0, .int .i64 0, .slice none 0 0, .slice none 0 0, .slice none 0 0, u], .bool (decide (chkMg d = 0 ∧ (d.k = 8 ∨ d.k = 9)))]) ∧ w'.ownsRow w.heap.size 88 2 u a.pr.length (a.pr.flatMap pairE) ∧ Below w.heap.size w w' := by
  obtain ⟨h1, h2, h3, h4, h5, h6, h7, h8, _⟩ := hM
  by_cases ha : chkMg d = 0 ∧ (d.k = 8 ∨ d.k = 9)
  · by_cases hb : bdC d.at_ mk hz = 0
    · refine (r31Answer_any D dd f la m mk hz ep hd d mv bv ev sv pv w hO hm h1 h2 h3 h4 h5 h6 h7 ha hb h8).mono ?_
      rintro e x ⟨u, rfl, hr, hx⟩
      exact ⟨anR d (flL f d) (psL f d), u, by unfold ansF; rw [if_pos ha, if_pos hb], by rw [decide_eq_true ha]; rfl, hr, hx⟩
    · refine (r31AnswerN_any dd mk hz ep hd d mv bv ev sv pv w h1 h2 h3 h4 h5 h6 h7 ha hb).mono ?_
      rintro e x ⟨rfl, hx⟩
      exact ⟨anN d mk hz (mxI ep 0) (mxI hd 0), .slice none 0 0, by unfold ansF; rw [if_pos ha, if_neg hb], by rw [decide_eq_true ha]; rfl, World.ownsRow_nil _ _ _ _, hx⟩
  · refine (r31AnswerZ_any dd mk hz ep hd d mv bv ev sv pv w h1 h2 h3 h4 h5 h6 h7 ha).mono ?_
    rintro e x ⟨rfl, hx⟩
    exact ⟨anZ, .slice none 0 0, by unfold ansF; rw [if_neg ha], by rw [decide_eq_false ha]; rfl, World.ownsRow_nil _ _ _ _, hx⟩

end Go.Proofs.Ytbjbcbbhmbpndaa
