/- Put together: SrvCSp, SrvDSp, VerCSp, MwASp, KeysASp, KeysBnSp, BytesSp, KeysGSp, MwBSp, MwCSp, MwDSp. Conditions: as each says. -/
import Derived.Test.YtbjbcbbhmbpndaaSq3
import Derived.Test.YtbjbcbbhmbpndaaSq1
import Derived.Laws.BytesArg
import Derived.Lib.ConvBytes
import Derived.Deep.AppendLies
/- Package serve: rows, Get, Scan. Conditions: at most 100 calls, 20 operations each. -/
namespace Go.Proofs.Ytbjbcbbhmbpndaa
open Go.RowKit Go.PlainAid
set_option linter.unusedVariables false
set_option linter.unusedSimpArgs false

set_option maxRecDepth 100000 in
theorem srvRowsN_any (mk : Int) (hz : Int) (ep : Int) (hd : Int) (d : MsgD) (mv : Value) (bv : Value) (ev : Value) (sv : Value) (pv : Value) (F : Value) (w : World) (hm : SliceOf memE 2 w mv d.cms) (hb : SliceOf opE 3 w bv d.bl) (he : SliceOf entE 4 w ev d.en) (ht : SliceOf (intE .u64) 1 w sv d.st) (hp : SliceOf prE 2 w pv d.pr) (hbd : ¬ bdC d.at_ mk hz = 0) :
    Calls Try.prog 52 #[.agg #[.int .u64 mk, .int .u64 hz, .int .i64 ep, .int .i64 hd], .agg #[.int .i64 d.k, .int .i64 d.ep, .int .i64 d.rq, .int .i64 d.sr, .bool d.fg, .int .u64 d.at_, .int .u64 d.la, .int .i64 d.n, .int .i64 d.m, .int .i64 d.p, .int .i64 d.e, .string d.key, .string d.to_, .int .i64 d.cep, mv, .int .u64 d.cfl, .int .i64 d.bc, .int .i64 d.br, bv, ev, sv, pv], F] w fun e w' => e = .returned (.agg #[.int .i64 7, .int .i64 ep, .int .i64 d.rq, .int .i64 0, .bool false, .int .u64 0, .int .u64 0, .int .i64 hd, .int .i64 0, .int .i64 0, .int .i64 (bdC d.at_ mk hz), .string (⟨#[]⟩), .string (⟨#[]⟩), .int .i64 0, .slice none 0 0, .int .u64 0, .int .i64 0, .int .i64 0, .slice none 0 0, .slice none 0 0, .slice none 0 0, .slice none 0 0]) ∧ Below w.heap.size w w' := by
 have hB0 := Below.refl w.heap.size w
 have hl_hm := sl_len hm
 have hl_hb := sl_len hb
 have hl_he := sl_len he
 have hl_ht := sl_len ht
 have hl_hp := sl_len hp
 refine co_enter (n := 38) Try.func52 rfl rfl rfl [(0, .agg #[.int .u64 mk, .int .u64 hz, .int .i64 ep, .int .i64 hd]), (1, .agg #[.int .i64 d.k, .int .i64 d.ep, .int .i64 d.rq, .int .i64 d.sr, .bool d.fg, .int .u64 d.at_, .int .u64 d.la, .int .i64 d.n, .int .i64 d.m, .int .i64 d.p, .int .i64 d.e, .string d.key, .string d.to_, .int .i64 d.cep, mv, .int .u64 d.cfl, .int .i64 d.bc, .int .i64 d.br, bv, ev, sv, pv]), (2, F)] rfl (fun a h0 => ?_)
 refine co_seq ?_
 refine co_reg ?_
 refine pw h0 rfl (op_new (v := fun N => pt N 0) (T := 45) (cs := #[.int .u64 mk, .int .u64 hz, .int .i64 ep, .int .i64 hd]) (by kernel_rfl) (by kernel_rfl) (by kernel_rfl)) ?_; clear h0
 rintro _ w2 a1 ⟨N3, rfl, hN6, hz7, hk5, hg4⟩ h1
 have hz8 := hg4.size
 try dsimp only at h1
 refine pw h1 rfl (op_new (v := fun N => pt N 0) (T := 37) (cs := #[.int .i64 d.k, .int .i64 d.ep, .int .i64 d.rq, .int .i64 d.sr, .bool d.fg, .int .u64 d.at_, .int .u64 d.la, .int .i64 d.n, .int .i64 d.m, .int .i64 d.p, .int .i64 d.e, .string d.key, .string d.to_, .int .i64 d.cep, mv, .int .u64 d.cfl, .int .i64 d.bc, .int .i64 d.br, bv, ev, sv, pv]) (by kernel_rfl) (by kernel_rfl) (by kernel_rfl)) ?_; clear h1
 rintro _ w10 a9 ⟨N11, rfl, hN14, hz15, hk13, hg12⟩ h9
 have hz16 := hg12.size
 try dsimp only at h9
 refine pw h9 rfl (op_new (v := fun N => pt N 0) (T := 37) (cs := #[.int .i64 0, .int .i64 0, .int .i64 0, .int .i64 0, .bool false, .int .u64 0, .int .u64 0, .int .i64 0, .int .i64 0, .int .i64 0, .int .i64 0, .string (⟨#[]⟩), .string (⟨#[]⟩), .int .i64 0, .slice none 0 0, .int .u64 0, .int .i64 0, .int .i64 0, .slice none 0 0, .slice none 0 0, .slice none 0 0, .slice none 0 0]) (by kernel_rfl) (by kernel_rfl) (by kernel_rfl)) ?_; clear h9
 rintro _ w18 a17 ⟨N19, rfl, hN22, hz23, hk21, hg20⟩ h17
 have hz24 := hg20.size
 try dsimp only at h17
 refine pl_nil ?_
 refine co_then ?_
 refine co_seq ?_
 refine co_seq ?_
 refine co_reg ?_
 refine pk0 (v := pt N11 5) h17 rfl fun a25 h25 => ?_; clear h17
 have hk26 := hk13.kept hg20 (by simp)
 refine pk (v := .int .u64 d.at_) h25 rfl (rn_load1 rfl rfl Try.isAgg23 (hk26.cell rfl)) fun a27 h27 => ?_; clear h25
 refine pk0 (v := pt N3 0) h27 rfl fun a28 h28 => ?_; clear h27
 have hk29 := hk5.kept hg12 (by simp)
 have hk30 := hk29.kept hg20 (by simp)
 refine pk (v := .int .u64 mk) h28 rfl (rn_load1 rfl rfl Try.isAgg23 (hk30.cell rfl)) fun a31 h31 => ?_; clear h28
 refine pk0 (v := pt N3 1) h31 rfl fun a32 h32 => ?_; clear h31
 refine pk (v := .int .u64 hz) h32 rfl (rn_load1 rfl rfl Try.isAgg23 (hk30.cell rfl)) fun a33 h33 => ?_; clear h32
 refine pw h33 rfl (op_call (args := #[.int .u64 d.at_, .int .u64 mk, .int .u64 hz]) (R := fun res xw => res = .int .i64 (bdC d.at_ mk hz) ∧ Below w18.heap.size w18 xw) rfl rfl rfl (by kernel_rfl) (by kernel_rfl) (Try.call89 _ _) (bd_any d.at_ mk hz w18 ) (by rintro e x ⟨rfl, hb36⟩; exact ⟨_, rfl, ⟨rfl, hb36⟩⟩)) ?_; clear h33
 rintro _ w35 a34 ⟨rfl, hb36⟩ h34
 have hz37 := hb36.size
 refine pk0 (v := .int .i64 (bdC d.at_ mk hz)) h34 rfl fun a38 h38 => ?_; clear h34
 refine pl_nil ?_
 refine co_then ?_
 refine co_seq ?_
 refine co_reg ?_
 refine pk0 (v := .int .i64 (bdC d.at_ mk hz)) h38 rfl fun a39 h39 => ?_; clear h38
 refine pk0 (v := .bool (bdC d.at_ mk hz != 0)) h39 rfl fun a40 h40 => ?_; clear h39
 refine pl_nil ?_
 refine co_then ?_
 have hc41 : (bdC d.at_ mk hz != 0) = true := by first | (simp; done) | (simp; omega) | exact beq_false_of_ne (by omega) | exact beq_iff_eq.2 (by omega)
 rw [hc41] at h40; clear hc41
 refine co_true h40 rfl ?_
 refine co_seq ?_
 refine co_reg ?_
 have hk42 := hk30.below hb36
 refine pk (v := .agg #[.int .u64 mk, .int .u64 hz, .int .i64 ep, .int .i64 hd]) h40 rfl (rn_loadN rfl rfl Try.underlying45 rfl (by kernel_rfl) hk42.all) fun a43 h43 => ?_; clear h40
 refine pk0 (v := pt N11 2) h43 rfl fun a44 h44 => ?_; clear h43
 have hk45 := hk26.below hb36
 refine pk (v := .int .i64 d.rq) h44 rfl (rn_load1 rfl rfl Try.isAgg3 (hk45.cell rfl)) fun a46 h46 => ?_; clear h44
 refine pk0 (v := .int .i64 (bdC d.at_ mk hz)) h46 rfl fun a47 h47 => ?_; clear h46
 refine pw h47 rfl (op_call (args := #[.agg #[.int .u64 mk, .int .u64 hz, .int .i64 ep, .int .i64 hd], .int .i64 d.rq, .int .i64 (bdC d.at_ mk hz)]) (R := fun res xw => res = .agg #[.int .i64 7, .int .i64 ep, .int .i64 d.rq, .int .i64 0, .bool false, .int .u64 0, .int .u64 0, .int .i64 hd, .int .i64 0, .int .i64 0, .int .i64 (bdC d.at_ mk hz), .string (⟨#[]⟩), .string (⟨#[]⟩), .int .i64 0, .slice none 0 0, .int .u64 0, .int .i64 0, .int .i64 0, .slice none 0 0, .slice none 0 0, .slice none 0 0, .slice none 0 0] ∧ Below w35.heap.size w35 xw) rfl rfl rfl (by kernel_rfl) (by kernel_rfl) (Try.call20 _ _) (srvNo_any mk hz ep hd d.rq (bdC d.at_ mk hz) w35 ) (by rintro e x ⟨rfl, hb50⟩; exact ⟨_, rfl, ⟨rfl, hb50⟩⟩)) ?_; clear h47
 rintro _ w49 a48 ⟨rfl, hb50⟩ h48
 have hz51 := hb50.size
 have hk57 := hk21.below hb36
 have hk58 := hk57.below hb50
 refine pwD h48 rfl (op_storeN rfl rfl rfl (all_cons rfl (all_cons rfl (all_cons rfl (all_cons rfl (all_cons rfl (all_cons rfl (all_cons rfl (all_cons rfl (all_cons rfl (all_cons rfl (all_cons rfl (all_cons rfl (all_cons rfl (all_cons rfl (all_cons rfl (all_cons rfl (all_cons rfl (all_cons rfl (all_cons rfl (all_cons rfl (all_cons rfl (all_cons rfl all_nil)))))))))))))))))))))) (by kernel_rfl) hk58 rfl) ?_; clear h48
 rintro _ w53 a52 ⟨hk54, hz55, hg56⟩ h52
 have hk54' : Blk w53 N19 37 #[.int .i64 7, .int .i64 ep, .int .i64 d.rq, .int .i64 0, .bool false, .int .u64 0, .int .u64 0, .int .i64 hd, .int .i64 0, .int .i64 0, .int .i64 (bdC d.at_ mk hz), .string (⟨#[]⟩), .string (⟨#[]⟩), .int .i64 0, .slice none 0 0, .int .u64 0, .int .i64 0, .int .i64 0, .slice none 0 0, .slice none 0 0, .slice none 0 0, .slice none 0 0] := hk54; clear hk54
 have hz59 := hg56.size
 refine pl_nil ?_
 refine co_then ?_
 refine wp_ret ?_
 refine co_thenR ?_
 refine co_retC (Q := fun _ _ _ => True) h52 rfl rfl hk54' Try.underlying37 rfl (by kernel_rfl) ?_
 have hB60 := hb_new hB0 hg4
 have hB61 := hb_new hB60 hg12
 have hB62 := hb_new hB61 hg20
 have hB63 := hb_call hB62 hb36
 have hB64 := hb_call hB63 hb50
 have hB65 := hb_at hB64 hg56 (by omega)
 exact ⟨rfl, hB65⟩
set_option maxRecDepth 100000 in
theorem srvRowsG_any (S : Nat → Prop) (b : Nat) (f : Fv) (la : Int) (ce : Int) (m : Nat) (mk : Int) (hz : Int) (ep : Int) (hd : Int) (G : Nat) (X : Nat) (d : MsgD) (mv : Value) (bv : Value) (ev : Value) (sv : Value) (pv : Value) (w : World) (hO : MvO S w b f la ce m) (hm : m ≤ 100) (hm : SliceOf memE 2 w mv d.cms) (hb : SliceOf opE 3 w bv d.bl) (he : SliceOf entE 4 w ev d.en) (ht : SliceOf (intE .u64) 1 w sv d.st) (hp : SliceOf prE 2 w pv d.pr) (hG : Blk w G 110 #[.func (.func 51) #[pt b 0] #[]]) (hX : Blk w X 37 #[.int .i64 d.k, .int .i64 d.ep, .int .i64 d.rq, .int .i64 d.sr, .bool d.fg, .int .u64 d.at_, .int .u64 d.la, .int .i64 d.n, .int .i64 d.m, .int .i64 d.p, .int .i64 d.e, .string d.key, .string d.to_, .int .i64 d.cep, mv, .int .u64 d.cfl, .int .i64 d.bc, .int .i64 d.br, bv, ev, sv, pv]) (hbd : bdC d.at_ mk hz = 0) :
    Calls Try.prog 52 #[.agg #[.int .u64 mk, .int .u64 hz, .int .i64 ep, .int .i64 hd], .agg #[.int .i64 d.k, .int .i64 d.ep, .int .i64 d.rq, .int .i64 d.sr, .bool d.fg, .int .u64 d.at_, .int .u64 d.la, .int .i64 d.n, .int .i64 d.m, .int .i64 d.p, .int .i64 d.e, .string d.key, .string d.to_, .int .i64 d.cep, mv, .int .u64 d.cfl, .int .i64 d.bc, .int .i64 d.br, bv, ev, sv, pv], .func (.func 53) #[] #[pt G 0, pt X 0]] w fun e w' => ∃ (u : Value), e = .returned (.agg #[.int .i64 10, .int .i64 0, .int .i64 d.rq, .int .i64 0, .bool false, .int .u64 d.at_, .int .u64 0, .int .i64 0, .int .i64 0, .int .i64 0, .int .i64 0, .string d.key, .string (⟨#[]⟩), .int .i64 0, .slice none 0 0, .int .u64 0, .int .i64 0, .int .i64 0, .slice none 0 0, .slice none 0 0, .slice none 0 0, u]) ∧ w'.ownsRow w.heap.size 88 2 u (rdL f d.key d.at_).length ((rdL f d.key d.at_).flatMap pairE) ∧ Below w.heap.size w w' := by
 have hB0 := Below.refl w.heap.size w
 have hl_hm := sl_len hm
 have hl_hb := sl_len hb
 have hl_he := sl_len he
 have hl_ht := sl_len ht
 have hl_hp := sl_len hp
 have hl_hG := hG.lt
 have hl_hX := hX.lt
 have hoS := MvO.ofS hO
 refine co_enter (n := 38) Try.func52 rfl rfl rfl [(0, .agg #[.int .u64 mk, .int .u64 hz, .int .i64 ep, .int .i64 hd]), (1, .agg #[.int .i64 d.k, .int .i64 d.ep, .int .i64 d.rq, .int .i64 d.sr, .bool d.fg, .int .u64 d.at_, .int .u64 d.la, .int .i64 d.n, .int .i64 d.m, .int .i64 d.p, .int .i64 d.e, .string d.key, .string d.to_, .int .i64 d.cep, mv, .int .u64 d.cfl, .int .i64 d.bc, .int .i64 d.br, bv, ev, sv, pv]), (2, .func (.func 53) #[] #[pt G 0, pt X 0])] rfl (fun a h0 => ?_)
 refine co_seq ?_
 refine co_reg ?_
 refine pw h0 rfl (op_new (v := fun N => pt N 0) (T := 45) (cs := #[.int .u64 mk, .int .u64 hz, .int .i64 ep, .int .i64 hd]) (by kernel_rfl) (by kernel_rfl) (by kernel_rfl)) ?_; clear h0
 rintro _ w2 a1 ⟨N3, rfl, hN6, hz7, hk5, hg4⟩ h1
 have hz8 := hg4.size
 have ho9 := off_new (MvO.ofS hO) hN6
 try dsimp only at h1
 refine pw h1 rfl (op_new (v := fun N => pt N 0) (T := 37) (cs := #[.int .i64 d.k, .int .i64 d.ep, .int .i64 d.rq, .int .i64 d.sr, .bool d.fg, .int .u64 d.at_, .int .u64 d.la, .int .i64 d.n, .int .i64 d.m, .int .i64 d.p, .int .i64 d.e, .string d.key, .string d.to_, .int .i64 d.cep, mv, .int .u64 d.cfl, .int .i64 d.bc, .int .i64 d.br, bv, ev, sv, pv]) (by kernel_rfl) (by kernel_rfl) (by kernel_rfl)) ?_; clear h1
 rintro _ w11 a10 ⟨N12, rfl, hN15, hz16, hk14, hg13⟩ h10
 have hz17 := hg13.size
 have hO19 := MvO.gr hO hg4 (fun k e => by cases e)
 have ho18 := off_new (MvO.ofS hO19) hN15
 try dsimp only at h10
 refine pw h10 rfl (op_new (v := fun N => pt N 0) (T := 37) (cs := #[.int .i64 0, .int .i64 0, .int .i64 0, .int .i64 0, .bool false, .int .u64 0, .int .u64 0, .int .i64 0, .int .i64 0, .int .i64 0, .int .i64 0, .string (⟨#[]⟩), .string (⟨#[]⟩), .int .i64 0, .slice none 0 0, .int .u64 0, .int .i64 0, .int .i64 0, .slice none 0 0, .slice none 0 0, .slice none 0 0, .slice none 0 0]) (by kernel_rfl) (by kernel_rfl) (by kernel_rfl)) ?_; clear h10
 rintro _ w21 a20 ⟨N22, rfl, hN25, hz26, hk24, hg23⟩ h20
 have hz27 := hg23.size
 have hO29 := MvO.gr hO19 hg13 (fun k e => by cases e)
 have ho28 := off_new (MvO.ofS hO29) hN25
 try dsimp only at h20
 refine pl_nil ?_
 refine co_then ?_
 refine co_seq ?_
 refine co_seq ?_
 refine co_reg ?_
 refine pk0 (v := pt N12 5) h20 rfl fun a30 h30 => ?_; clear h20
 have hk31 := hk14.kept hg23 (by simp)
 refine pk (v := .int .u64 d.at_) h30 rfl (rn_load1 rfl rfl Try.isAgg23 (hk31.cell rfl)) fun a32 h32 => ?_; clear h30
 refine pk0 (v := pt N3 0) h32 rfl fun a33 h33 => ?_; clear h32
 have hk34 := hk5.kept hg13 (by simp)
 have hk35 := hk34.kept hg23 (by simp)
 refine pk (v := .int .u64 mk) h33 rfl (rn_load1 rfl rfl Try.isAgg23 (hk35.cell rfl)) fun a36 h36 => ?_; clear h33
 refine pk0 (v := pt N3 1) h36 rfl fun a37 h37 => ?_; clear h36
 refine pk (v := .int .u64 hz) h37 rfl (rn_load1 rfl rfl Try.isAgg23 (hk35.cell rfl)) fun a38 h38 => ?_; clear h37
 refine pw h38 rfl (op_call (args := #[.int .u64 d.at_, .int .u64 mk, .int .u64 hz]) (R := fun res xw => res = .int .i64 (bdC d.at_ mk hz) ∧ Below w21.heap.size w21 xw) rfl rfl rfl (by kernel_rfl) (by kernel_rfl) (Try.call89 _ _) (bd_any d.at_ mk hz w21 ) (by rintro e x ⟨rfl, hb41⟩; exact ⟨_, rfl, ⟨rfl, hb41⟩⟩)) ?_; clear h38
 rintro _ w40 a39 ⟨rfl, hb41⟩ h39
 have hz42 := hb41.size
 have hO44 := MvO.gr hO29 hg23 (fun k e => by cases e)
 have ho43 := MvO.ofS hO44
 refine pk0 (v := .int .i64 (bdC d.at_ mk hz)) h39 rfl fun a45 h45 => ?_; clear h39
 refine pl_nil ?_
 refine co_then ?_
 refine co_seq ?_
 refine co_reg ?_
 refine pk0 (v := .int .i64 (bdC d.at_ mk hz)) h45 rfl fun a46 h46 => ?_; clear h45
 refine pk0 (v := .bool (bdC d.at_ mk hz != 0)) h46 rfl fun a47 h47 => ?_; clear h46
 refine pl_nil ?_
 refine co_then ?_
 have hc48 : (bdC d.at_ mk hz != 0) = false := by first | (simp; done) | (simp; omega) | exact beq_false_of_ne (by omega) | exact beq_iff_eq.2 (by omega)
 rw [hc48] at h47; clear hc48
 refine co_false h47 rfl ?_
 refine wp_skip ?_
 refine co_then ?_
 refine co_seq ?_
 refine co_reg ?_
 refine pk0 (v := .func (.func 53) #[] #[pt G 0, pt X 0]) h47 rfl fun a49 h49 => ?_; clear h47
 have hB52 := hb_new hB0 hg4
 have hB53 := hb_new hB52 hg13
 have hB54 := hb_new hB53 hg23
 have hB55 := hb_call hB54 hb41
 have hk56 := hG.kept hg4 (by simp)
 have hk57 := hk56.kept hg13 (by simp)
 have hk58 := hk57.kept hg23 (by simp)
 have hk59 := hk58.below hb41
 have hk60 := hX.kept hg4 (by simp)
 have hk61 := hk60.kept hg13 (by simp)
 have hk62 := hk61.kept hg23 (by simp)
 have hk63 := hk62.below hb41
 have hO64 := MvO.gr hO44 (below_grown hb41) (fun k e => by cases e)
 refine pw h49 rfl (op_callV (args := #[pt G 0, pt X 0]) (R := fun res xw => ∃ u : Value, res = .tuple #[u, .bool false] ∧ xw.ownsRow w40.heap.size 88 2 u (rdL f d.key d.at_).length ((rdL f d.key d.at_).flatMap pairE) ∧ Below w40.heap.size w40 xw) rfl rfl rfl (by kernel_rfl) (by kernel_rfl) (Try.call53 _ _) (srvGetF_any S b f la ce m G X d mv bv ev sv pv w40 hO64 (by omega) (hm.below hB55) (hb.below hB55) (he.below hB55) (ht.below hB55) (hp.below hB55) hk59 hk63) (by rintro e x ⟨u, rfl, hq66, hb67⟩; exact ⟨_, rfl, ⟨u, rfl, hq66, hb67⟩⟩)) ?_; clear h49
 rintro _ w51 a50 ⟨u65, rfl, hq66, hb67⟩ h50
 have hz68 := hb67.size
 have ho69 := MvO.ofS hO64
 have hl70 := sl_len (row_sl hq66 pairE_len)
 refine pk0 (v := .tuple #[u65, .bool false]) h50 rfl fun a71 h71 => ?_; clear h50
 refine pk0 (v := u65) h71 rfl fun a72 h72 => ?_; clear h71
 refine pk0 (v := .bool false) h72 rfl fun a73 h73 => ?_; clear h72
 refine pk0 (v := u65) h73 rfl fun a74 h74 => ?_; clear h73
 refine pk0 (v := .bool false) h74 rfl fun a75 h75 => ?_; clear h74
 refine pl_nil ?_
 refine co_then ?_
 refine co_seq ?_
 refine co_reg ?_
 refine pk0 (v := pt N12 2) h75 rfl fun a76 h76 => ?_; clear h75
 have hk77 := hk31.below hb41
 have hk78 := hk77.below hb67
 refine pk (v := .int .i64 d.rq) h76 rfl (rn_load1 rfl rfl Try.isAgg3 (hk78.cell rfl)) fun a79 h79 => ?_; clear h76
 refine pk0 (v := pt N12 11) h79 rfl fun a80 h80 => ?_; clear h79
 refine pk (v := .string d.key) h80 rfl (rn_load1 rfl rfl Try.isAgg9 (hk78.cell rfl)) fun a81 h81 => ?_; clear h80
 refine pk0 (v := pt N12 5) h81 rfl fun a82 h82 => ?_; clear h81
 refine pk (v := .int .u64 d.at_) h82 rfl (rn_load1 rfl rfl Try.isAgg23 (hk78.cell rfl)) fun a83 h83 => ?_; clear h82
 refine pk0 (v := u65) h83 rfl fun a84 h84 => ?_; clear h83
 refine pk0 (v := .bool false) h84 rfl fun a85 h85 => ?_; clear h84
 refine pk (v := .agg #[.int .i64 10, .int .i64 0, .int .i64 d.rq, .int .i64 0, .bool false, .int .u64 d.at_, .int .u64 0, .int .i64 0, .int .i64 0, .int .i64 0, .int .i64 0, .string d.key, .string (⟨#[]⟩), .int .i64 0, .slice none 0 0, .int .u64 0, .int .i64 0, .int .i64 0, .slice none 0 0, .slice none 0 0, .slice none 0 0, u65]) h85 rfl (by obtain ⟨_, _, _, hq⟩ := row_form hq66; subst hq; kernel_rfl) fun a86 h86 => ?_; clear h85
 have hk92 := hk24.below hb41
 have hk93 := hk92.below hb67
 refine pwD h86 rfl (op_storeN rfl rfl rfl (all_cons rfl (all_cons rfl (all_cons rfl (all_cons rfl (all_cons rfl (all_cons rfl (all_cons rfl (all_cons rfl (all_cons rfl (all_cons rfl (all_cons rfl (all_cons rfl (all_cons rfl (all_cons rfl (all_cons rfl (all_cons rfl (all_cons rfl (all_cons rfl (all_cons rfl (all_cons rfl (all_cons rfl (all_cons (row_one hq66) all_nil)))))))))))))))))))))) (by kernel_rfl) hk93 rfl) ?_; clear h86
 rintro _ w88 a87 ⟨hk89, hz90, hg91⟩ h87
 have hk89' : Blk w88 N22 37 #[.int .i64 10, .int .i64 0, .int .i64 d.rq, .int .i64 0, .bool false, .int .u64 d.at_, .int .u64 0, .int .i64 0, .int .i64 0, .int .i64 0, .int .i64 0, .string d.key, .string (⟨#[]⟩), .int .i64 0, .slice none 0 0, .int .u64 0, .int .i64 0, .int .i64 0, .slice none 0 0, .slice none 0 0, .slice none 0 0, u65] := hk89; clear hk89
 have hz94 := hg91.size
 refine pl_nil ?_
 refine co_then ?_
 refine wp_ret ?_
 refine co_retC (Q := fun _ _ _ => True) h87 rfl rfl hk89' Try.underlying37 rfl (by kernel_rfl) ?_
 have hr95 := row_kept_at hq66 hg91 (own_neT hq66 hk93 (by decide))
 have hB96 := hb_call hB55 hb67
 have hB97 := hb_at hB96 hg91 (by omega)
 exact ⟨_, rfl, (row_lows hr95 (by omega)), hB97⟩
set_option maxRecDepth 100000 in
theorem srvRowsS_any (S : Nat → Prop) (b : Nat) (f : Fv) (la : Int) (ce : Int) (m : Nat) (mk : Int) (hz : Int) (ep : Int) (hd : Int) (G : Nat) (X : Nat) (d : MsgD) (mv : Value) (bv : Value) (ev : Value) (sv : Value) (pv : Value) (w : World) (hO : MvO S w b f la ce m) (hm : m ≤ 100) (hm : SliceOf memE 2 w mv d.cms) (hb : SliceOf opE 3 w bv d.bl) (he : SliceOf entE 4 w ev d.en) (ht : SliceOf (intE .u64) 1 w sv d.st) (hp : SliceOf prE 2 w pv d.pr) (hG : Blk w G 115 #[.func (.func 56) #[pt b 0] #[]]) (hX : Blk w X 37 #[.int .i64 d.k, .int .i64 d.ep, .int .i64 d.rq, .int .i64 d.sr, .bool d.fg, .int .u64 d.at_, .int .u64 d.la, .int .i64 d.n, .int .i64 d.m, .int .i64 d.p, .int .i64 d.e, .string d.key, .string d.to_, .int .i64 d.cep, mv, .int .u64 d.cfl, .int .i64 d.bc, .int .i64 d.br, bv, ev, sv, pv]) (hbd : bdC d.at_ mk hz = 0) (hn : -9223372036854775808 ≤ d.n ∧ d.n ≤ 9223372036854775807) :
    Calls Try.prog 52 #[.agg #[.int .u64 mk, .int .u64 hz, .int .i64 ep, .int .i64 hd], .agg #[.int .i64 d.k, .int .i64 d.ep, .int .i64 d.rq, .int .i64 d.sr, .bool d.fg, .int .u64 d.at_, .int .u64 d.la, .int .i64 d.n, .int .i64 d.m, .int .i64 d.p, .int .i64 d.e, .string d.key, .string d.to_, .int .i64 d.cep, mv, .int .u64 d.cfl, .int .i64 d.bc, .int .i64 d.br, bv, ev, sv, pv], .func (.func 57) #[] #[pt G 0, pt X 0]] w fun e w' => ∃ (u : Value), e = .returned (.agg #[.int .i64 10, .int .i64 0, .int .i64 d.rq, .int .i64 0, .bool (scanM (hitsF f d.at_ d.key d.to_) (mnI d.n 32)), .int .u64 d.at_, .int .u64 0, .int .i64 0, .int .i64 0, .int .i64 0, .int .i64 0, .string d.key, .string (⟨#[]⟩), .int .i64 0, .slice none 0 0, .int .u64 0, .int .i64 0, .int .i64 0, .slice none 0 0, .slice none 0 0, .slice none 0 0, u]) ∧ w'.ownsRow w.heap.size 88 2 u (scanL (hitsF f d.at_ d.key d.to_) (mnI d.n 32)).length ((scanL (hitsF f d.at_ d.key d.to_) (mnI d.n 32)).flatMap pairE) ∧ Below w.heap.size w w' := by
 have hB0 := Below.refl w.heap.size w
 have hl_hm := sl_len hm
 have hl_hb := sl_len hb
 have hl_he := sl_len he
 have hl_ht := sl_len ht
 have hl_hp := sl_len hp
 have hl_hG := hG.lt
 have hl_hX := hX.lt
 have hoS := MvO.ofS hO
 refine co_enter (n := 38) Try.func52 rfl rfl rfl [(0, .agg #[.int .u64 mk, .int .u64 hz, .int .i64 ep, .int .i64 hd]), (1, .agg #[.int .i64 d.k, .int .i64 d.ep, .int .i64 d.rq, .int .i64 d.sr, .bool d.fg, .int .u64 d.at_, .int .u64 d.la, .int .i64 d.n, .int .i64 d.m, .int .i64 d.p, .int .i64 d.e, .string d.key, .string d.to_, .int .i64 d.cep, mv, .int .u64 d.cfl, .int .i64 d.bc, .int .i64 d.br, bv, ev, sv, pv]), (2, .func (.func 57) #[] #[pt G 0, pt X 0])] rfl (fun a h0 => ?_)
 refine co_seq ?_
 refine co_reg ?_
 refine pw h0 rfl (op_new (v := fun N => pt N 0) (T := 45) (cs := #[.int .u64 mk, .int .u64 hz, .int .i64 ep, .int .i64 hd]) (by kernel_rfl) (by kernel_rfl) (by kernel_rfl)) ?_; clear h0
 rintro _ w2 a1 ⟨N3, rfl, hN6, hz7, hk5, hg4⟩ h1
 have hz8 := hg4.size
 have ho9 := off_new (MvO.ofS hO) hN6
 try dsimp only at h1
 refine pw h1 rfl (op_new (v := fun N => pt N 0) (T := 37) (cs := #[.int .i64 d.k, .int .i64 d.ep, .int .i64 d.rq, .int .i64 d.sr, .bool d.fg, .int .u64 d.at_, .int .u64 d.la, .int .i64 d.n, .int .i64 d.m, .int .i64 d.p, .int .i64 d.e, .string d.key, .string d.to_, .int .i64 d.cep, mv, .int .u64 d.cfl, .int .i64 d.bc, .int .i64 d.br, bv, ev, sv, pv]) (by kernel_rfl) (by kernel_rfl) (by kernel_rfl)) ?_; clear h1
 rintro _ w11 a10 ⟨N12, rfl, hN15, hz16, hk14, hg13⟩ h10
 have hz17 := hg13.size
 have hO19 := MvO.gr hO hg4 (fun k e => by cases e)
 have ho18 := off_new (MvO.ofS hO19) hN15
 try dsimp only at h10
 refine pw h10 rfl (op_new (v := fun N => pt N 0) (T := 37) (cs := #[.int .i64 0, .int .i64 0, .int .i64 0, .int .i64 0, .bool false, .int .u64 0, .int .u64 0, .int .i64 0, .int .i64 0, .int .i64 0, .int .i64 0, .string (⟨#[]⟩), .string (⟨#[]⟩), .int .i64 0, .slice none 0 0, .int .u64 0, .int .i64 0, .int .i64 0, .slice none 0 0, .slice none 0 0, .slice none 0 0, .slice none 0 0]) (by kernel_rfl) (by kernel_rfl) (by kernel_rfl)) ?_; clear h10
 rintro _ w21 a20 ⟨N22, rfl, hN25, hz26, hk24, hg23⟩ h20
 have hz27 := hg23.size
 have hO29 := MvO.gr hO19 hg13 (fun k e => by cases e)
 have ho28 := off_new (MvO.ofS hO29) hN25
 try dsimp only at h20
 refine pl_nil ?_
 refine co_then ?_
 refine co_seq ?_
 refine co_seq ?_
 refine co_reg ?_
 refine pk0 (v := pt N12 5) h20 rfl fun a30 h30 => ?_; clear h20
 have hk31 := hk14.kept hg23 (by simp)
 refine pk (v := .int .u64 d.at_) h30 rfl (rn_load1 rfl rfl Try.isAgg23 (hk31.cell rfl)) fun a32 h32 => ?_; clear h30
 refine pk0 (v := pt N3 0) h32 rfl fun a33 h33 => ?_; clear h32
 have hk34 := hk5.kept hg13 (by simp)
 have hk35 := hk34.kept hg23 (by simp)
 refine pk (v := .int .u64 mk) h33 rfl (rn_load1 rfl rfl Try.isAgg23 (hk35.cell rfl)) fun a36 h36 => ?_; clear h33
 refine pk0 (v := pt N3 1) h36 rfl fun a37 h37 => ?_; clear h36
 refine pk (v := .int .u64 hz) h37 rfl (rn_load1 rfl rfl Try.isAgg23 (hk35.cell rfl)) fun a38 h38 => ?_; clear h37
 refine pw h38 rfl (op_call (args := #[.int .u64 d.at_, .int .u64 mk, .int .u64 hz]) (R := fun res xw => res = .int .i64 (bdC d.at_ mk hz) ∧ Below w21.heap.size w21 xw) rfl rfl rfl (by kernel_rfl) (by kernel_rfl) (Try.call89 _ _) (bd_any d.at_ mk hz w21 ) (by rintro e x ⟨rfl, hb41⟩; exact ⟨_, rfl, ⟨rfl, hb41⟩⟩)) ?_; clear h38
 rintro _ w40 a39 ⟨rfl, hb41⟩ h39
 have hz42 := hb41.size
 have hO44 := MvO.gr hO29 hg23 (fun k e => by cases e)
 have ho43 := MvO.ofS hO44
 refine pk0 (v := .int .i64 (bdC d.at_ mk hz)) h39 rfl fun a45 h45 => ?_; clear h39
 refine pl_nil ?_
 refine co_then ?_
 refine co_seq ?_
 refine co_reg ?_
 refine pk0 (v := .int .i64 (bdC d.at_ mk hz)) h45 rfl fun a46 h46 => ?_; clear h45
 refine pk0 (v := .bool (bdC d.at_ mk hz != 0)) h46 rfl fun a47 h47 => ?_; clear h46
 refine pl_nil ?_
 refine co_then ?_
 have hc48 : (bdC d.at_ mk hz != 0) = false := by first | (simp; done) | (simp; omega) | exact beq_false_of_ne (by omega) | exact beq_iff_eq.2 (by omega)
 rw [hc48] at h47; clear hc48
 refine co_false h47 rfl ?_
 refine wp_skip ?_
 refine co_then ?_
 refine co_seq ?_
 refine co_reg ?_
 refine pk0 (v := .func (.func 57) #[] #[pt G 0, pt X 0]) h47 rfl fun a49 h49 => ?_; clear h47
 have hB52 := hb_new hB0 hg4
 have hB53 := hb_new hB52 hg13
 have hB54 := hb_new hB53 hg23
 have hB55 := hb_call hB54 hb41
 have hk56 := hG.kept hg4 (by simp)
 have hk57 := hk56.kept hg13 (by simp)
 have hk58 := hk57.kept hg23 (by simp)
 have hk59 := hk58.below hb41
 have hk60 := hX.kept hg4 (by simp)
 have hk61 := hk60.kept hg13 (by simp)
 have hk62 := hk61.kept hg23 (by simp)
 have hk63 := hk62.below hb41
 have hO64 := MvO.gr hO44 (below_grown hb41) (fun k e => by cases e)
 refine pw h49 rfl (op_callV (args := #[pt G 0, pt X 0]) (R := fun res xw => ∃ u : Value, res = .tuple #[u, .bool (scanM (hitsF f d.at_ d.key d.to_) (mnI d.n 32))] ∧ xw.ownsRow w40.heap.size 88 2 u (scanL (hitsF f d.at_ d.key d.to_) (mnI d.n 32)).length ((scanL (hitsF f d.at_ d.key d.to_) (mnI d.n 32)).flatMap pairE) ∧ Below w40.heap.size w40 xw) rfl rfl rfl (by kernel_rfl) (by kernel_rfl) (Try.call57 _ _) (srvScanF_any S b f la ce m G X d mv bv ev sv pv w40 hO64 (by omega) (hm.below hB55) (hb.below hB55) (he.below hB55) (ht.below hB55) (hp.below hB55) hk59 hk63 (by omega)) (by rintro e x ⟨u, rfl, hq66, hb67⟩; exact ⟨_, rfl, ⟨u, rfl, hq66, hb67⟩⟩)) ?_; clear h49
 rintro _ w51 a50 ⟨u65, rfl, hq66, hb67⟩ h50
 have hz68 := hb67.size
 have ho69 := MvO.ofS hO64
 have hl70 := sl_len (row_sl hq66 pairE_len)
 refine pk0 (v := .tuple #[u65, .bool (scanM (hitsF f d.at_ d.key d.to_) (mnI d.n 32))]) h50 rfl fun a71 h71 => ?_; clear h50
 refine pk0 (v := u65) h71 rfl fun a72 h72 => ?_; clear h71
 refine pk0 (v := .bool (scanM (hitsF f d.at_ d.key d.to_) (mnI d.n 32))) h72 rfl fun a73 h73 => ?_; clear h72
 refine pk0 (v := u65) h73 rfl fun a74 h74 => ?_; clear h73
 refine pk0 (v := .bool (scanM (hitsF f d.at_ d.key d.to_) (mnI d.n 32))) h74 rfl fun a75 h75 => ?_; clear h74
 refine pl_nil ?_
 refine co_then ?_
 refine co_seq ?_
 refine co_reg ?_
 refine pk0 (v := pt N12 2) h75 rfl fun a76 h76 => ?_; clear h75
 have hk77 := hk31.below hb41
 have hk78 := hk77.below hb67
 refine pk (v := .int .i64 d.rq) h76 rfl (rn_load1 rfl rfl Try.isAgg3 (hk78.cell rfl)) fun a79 h79 => ?_; clear h76
 refine pk0 (v := pt N12 11) h79 rfl fun a80 h80 => ?_; clear h79
 refine pk (v := .string d.key) h80 rfl (rn_load1 rfl rfl Try.isAgg9 (hk78.cell rfl)) fun a81 h81 => ?_; clear h80
 refine pk0 (v := pt N12 5) h81 rfl fun a82 h82 => ?_; clear h81
 refine pk (v := .int .u64 d.at_) h82 rfl (rn_load1 rfl rfl Try.isAgg23 (hk78.cell rfl)) fun a83 h83 => ?_; clear h82
 refine pk0 (v := u65) h83 rfl fun a84 h84 => ?_; clear h83
 refine pk0 (v := .bool (scanM (hitsF f d.at_ d.key d.to_) (mnI d.n 32))) h84 rfl fun a85 h85 => ?_; clear h84
 refine pk (v := .agg #[.int .i64 10, .int .i64 0, .int .i64 d.rq, .int .i64 0, .bool (scanM (hitsF f d.at_ d.key d.to_) (mnI d.n 32)), .int .u64 d.at_, .int .u64 0, .int .i64 0, .int .i64 0, .int .i64 0, .int .i64 0, .string d.key, .string (⟨#[]⟩), .int .i64 0, .slice none 0 0, .int .u64 0, .int .i64 0, .int .i64 0, .slice none 0 0, .slice none 0 0, .slice none 0 0, u65]) h85 rfl (by obtain ⟨_, _, _, hq⟩ := row_form hq66; subst hq; kernel_rfl) fun a86 h86 => ?_; clear h85
 have hk92 := hk24.below hb41
 have hk93 := hk92.below hb67
 refine pwD h86 rfl (op_storeN rfl rfl rfl (all_cons rfl (all_cons rfl (all_cons rfl (all_cons rfl (all_cons rfl (all_cons rfl (all_cons rfl (all_cons rfl (all_cons rfl (all_cons rfl (all_cons rfl (all_cons rfl (all_cons rfl (all_cons rfl (all_cons rfl (all_cons rfl (all_cons rfl (all_cons rfl (all_cons rfl (all_cons rfl (all_cons rfl (all_cons (row_one hq66) all_nil)))))))))))))))))))))) (by kernel_rfl) hk93 rfl) ?_; clear h86
 rintro _ w88 a87 ⟨hk89, hz90, hg91⟩ h87
 have hk89' : Blk w88 N22 37 #[.int .i64 10, .int .i64 0, .int .i64 d.rq, .int .i64 0, .bool (scanM (hitsF f d.at_ d.key d.to_) (mnI d.n 32)), .int .u64 d.at_, .int .u64 0, .int .i64 0, .int .i64 0, .int .i64 0, .int .i64 0, .string d.key, .string (⟨#[]⟩), .int .i64 0, .slice none 0 0, .int .u64 0, .int .i64 0, .int .i64 0, .slice none 0 0, .slice none 0 0, .slice none 0 0, u65] := hk89; clear hk89
 have hz94 := hg91.size
 refine pl_nil ?_
 refine co_then ?_
 refine wp_ret ?_
 refine co_retC (Q := fun _ _ _ => True) h87 rfl rfl hk89' Try.underlying37 rfl (by kernel_rfl) ?_
 have hr95 := row_kept_at hq66 hg91 (own_neT hq66 hk93 (by decide))
 have hB96 := hb_call hB55 hb67
 have hB97 := hb_at hB96 hg91 (by omega)
 exact ⟨_, rfl, (row_lows hr95 (by omega)), hB97⟩
set_option maxRecDepth 100000 in
theorem srvGetN_any (b : Nat) (mk : Int) (hz : Int) (ep : Int) (hd : Int) (d : MsgD) (mv : Value) (bv : Value) (ev : Value) (sv : Value) (pv : Value) (w : World) (hm : SliceOf memE 2 w mv d.cms) (hb : SliceOf opE 3 w bv d.bl) (he : SliceOf entE 4 w ev d.en) (ht : SliceOf (intE .u64) 1 w sv d.st) (hp : SliceOf prE 2 w pv d.pr) (hbd : ¬ bdC d.at_ mk hz = 0) :
    Calls Try.prog 16 #[pt b 0, .agg #[.int .u64 mk, .int .u64 hz, .int .i64 ep, .int .i64 hd], .agg #[.int .i64 d.k, .int .i64 d.ep, .int .i64 d.rq, .int .i64 d.sr, .bool d.fg, .int .u64 d.at_, .int .u64 d.la, .int .i64 d.n, .int .i64 d.m, .int .i64 d.p, .int .i64 d.e, .string d.key, .string d.to_, .int .i64 d.cep, mv, .int .u64 d.cfl, .int .i64 d.bc, .int .i64 d.br, bv, ev, sv, pv]] w fun e w' => e = .returned (.agg #[.int .i64 7, .int .i64 ep, .int .i64 d.rq, .int .i64 0, .bool false, .int .u64 0, .int .u64 0, .int .i64 hd, .int .i64 0, .int .i64 0, .int .i64 (bdC d.at_ mk hz), .string (⟨#[]⟩), .string (⟨#[]⟩), .int .i64 0, .slice none 0 0, .int .u64 0, .int .i64 0, .int .i64 0, .slice none 0 0, .slice none 0 0, .slice none 0 0, .slice none 0 0]) ∧ Below w.heap.size w w' := by
 have hB0 := Below.refl w.heap.size w
 have hl_hm := sl_len hm
 have hl_hb := sl_len hb
 have hl_he := sl_len he
 have hl_ht := sl_len ht
 have hl_hp := sl_len hp
 refine co_enter (n := 14) Try.func16 rfl rfl rfl [(0, pt b 0), (1, .agg #[.int .u64 mk, .int .u64 hz, .int .i64 ep, .int .i64 hd]), (2, .agg #[.int .i64 d.k, .int .i64 d.ep, .int .i64 d.rq, .int .i64 d.sr, .bool d.fg, .int .u64 d.at_, .int .u64 d.la, .int .i64 d.n, .int .i64 d.m, .int .i64 d.p, .int .i64 d.e, .string d.key, .string d.to_, .int .i64 d.cep, mv, .int .u64 d.cfl, .int .i64 d.bc, .int .i64 d.br, bv, ev, sv, pv])] rfl (fun a h0 => ?_)
 refine co_seq ?_
 refine co_reg ?_
 refine pw h0 rfl (op_new (v := fun N => pt N 0) (T := 45) (cs := #[.int .u64 mk, .int .u64 hz, .int .i64 ep, .int .i64 hd]) (by kernel_rfl) (by kernel_rfl) (by kernel_rfl)) ?_; clear h0
 rintro _ w2 a1 ⟨N3, rfl, hN6, hz7, hk5, hg4⟩ h1
 have hz8 := hg4.size
 try dsimp only at h1
 refine pw h1 rfl (op_new (v := fun N => pt N 0) (T := 37) (cs := #[.int .i64 d.k, .int .i64 d.ep, .int .i64 d.rq, .int .i64 d.sr, .bool d.fg, .int .u64 d.at_, .int .u64 d.la, .int .i64 d.n, .int .i64 d.m, .int .i64 d.p, .int .i64 d.e, .string d.key, .string d.to_, .int .i64 d.cep, mv, .int .u64 d.cfl, .int .i64 d.bc, .int .i64 d.br, bv, ev, sv, pv]) (by kernel_rfl) (by kernel_rfl) (by kernel_rfl)) ?_; clear h1
 rintro _ w10 a9 ⟨N11, rfl, hN14, hz15, hk13, hg12⟩ h9
 have hz16 := hg12.size
 try dsimp only at h9
 refine pw h9 rfl (op_new (v := fun N => pt N 0) (T := 37) (cs := #[.int .i64 0, .int .i64 0, .int .i64 0, .int .i64 0, .bool false, .int .u64 0, .int .u64 0, .int .i64 0, .int .i64 0, .int .i64 0, .int .i64 0, .string (⟨#[]⟩), .string (⟨#[]⟩), .int .i64 0, .slice none 0 0, .int .u64 0, .int .i64 0, .int .i64 0, .slice none 0 0, .slice none 0 0, .slice none 0 0, .slice none 0 0]) (by kernel_rfl) (by kernel_rfl) (by kernel_rfl)) ?_; clear h9
 rintro _ w18 a17 ⟨N19, rfl, hN22, hz23, hk21, hg20⟩ h17
 have hz24 := hg20.size
 try dsimp only at h17
 refine pl_nil ?_
 refine co_then ?_
 refine co_seq ?_
 refine co_reg ?_
 refine pk0 (v := pt b 0) h17 rfl fun a25 h25 => ?_; clear h17
 refine pk0 (v := .func (.func 51) #[pt b 0] #[]) h25 rfl fun a26 h26 => ?_; clear h25
 refine pw h26 rfl (op_new (v := fun N => pt N 0) (T := 110) (cs := #[.nilFunc]) (by kernel_rfl) (by kernel_rfl) (by kernel_rfl)) ?_; clear h26
 rintro _ w28 a27 ⟨N29, rfl, hN32, hz33, hk31, hg30⟩ h27
 have hz34 := hg30.size
 try dsimp only at h27
 refine pwD h27 rfl (op_store1 rfl rfl rfl rfl Try.sizeOf110 hk31 rfl) ?_; clear h27
 rintro _ w36 a35 ⟨hk37, hz38, hg39⟩ h35
 have hk37' : Blk w36 N29 110 #[.func (.func 51) #[pt b 0] #[]] := hk37; clear hk37
 have hz40 := hg39.size
 refine pl_nil ?_
 refine co_then ?_
 refine co_seq ?_
 refine co_reg ?_
 have hk41 := hk5.kept hg12 (by simp)
 have hk42 := hk41.kept hg20 (by simp)
 have hk43 := hk42.kept hg30 (by simp)
 have hk44 := hk43.kept hg39 (by simp; omega)
 refine pk (v := .agg #[.int .u64 mk, .int .u64 hz, .int .i64 ep, .int .i64 hd]) h35 rfl (rn_loadN rfl rfl Try.underlying45 rfl (by kernel_rfl) hk44.all) fun a45 h45 => ?_; clear h35
 have hk46 := hk13.kept hg20 (by simp)
 have hk47 := hk46.kept hg30 (by simp)
 have hk48 := hk47.kept hg39 (by simp; omega)
 refine pk (v := .agg #[.int .i64 d.k, .int .i64 d.ep, .int .i64 d.rq, .int .i64 d.sr, .bool d.fg, .int .u64 d.at_, .int .u64 d.la, .int .i64 d.n, .int .i64 d.m, .int .i64 d.p, .int .i64 d.e, .string d.key, .string d.to_, .int .i64 d.cep, mv, .int .u64 d.cfl, .int .i64 d.bc, .int .i64 d.br, bv, ev, sv, pv]) h45 rfl (rn_loadN rfl rfl Try.underlying37 rfl (by kernel_rfl) hk48.all) fun a49 h49 => ?_; clear h45
 refine pk0 (v := .func (.func 53) #[] #[pt N29 0, pt N11 0]) h49 rfl fun a50 h50 => ?_; clear h49
 have hB53 := hb_new hB0 hg4
 have hB54 := hb_new hB53 hg12
 have hB55 := hb_new hB54 hg20
 have hB56 := hb_new hB55 hg30
 have hB57 := hb_at hB56 hg39 (by omega)
 refine pw h50 rfl (op_call (args := #[.agg #[.int .u64 mk, .int .u64 hz, .int .i64 ep, .int .i64 hd], .agg #[.int .i64 d.k, .int .i64 d.ep, .int .i64 d.rq, .int .i64 d.sr, .bool d.fg, .int .u64 d.at_, .int .u64 d.la, .int .i64 d.n, .int .i64 d.m, .int .i64 d.p, .int .i64 d.e, .string d.key, .string d.to_, .int .i64 d.cep, mv, .int .u64 d.cfl, .int .i64 d.bc, .int .i64 d.br, bv, ev, sv, pv], .func (.func 53) #[] #[pt N29 0, pt N11 0]]) (R := fun res xw => res = .agg #[.int .i64 7, .int .i64 ep, .int .i64 d.rq, .int .i64 0, .bool false, .int .u64 0, .int .u64 0, .int .i64 hd, .int .i64 0, .int .i64 0, .int .i64 (bdC d.at_ mk hz), .string (⟨#[]⟩), .string (⟨#[]⟩), .int .i64 0, .slice none 0 0, .int .u64 0, .int .i64 0, .int .i64 0, .slice none 0 0, .slice none 0 0, .slice none 0 0, .slice none 0 0] ∧ Below w36.heap.size w36 xw) rfl rfl rfl (by kernel_rfl) (by kernel_rfl) (Try.call52 _ _) (srvRowsN_any mk hz ep hd d mv bv ev sv pv (.func (.func 53) #[] #[pt N29 0, pt N11 0]) w36 (hm.below hB57) (hb.below hB57) (he.below hB57) (ht.below hB57) (hp.below hB57) (by omega)) (by rintro e x ⟨rfl, hb58⟩; exact ⟨_, rfl, ⟨rfl, hb58⟩⟩)) ?_; clear h50
 rintro _ w52 a51 ⟨rfl, hb58⟩ h51
 have hz59 := hb58.size
 have hk65 := hk21.kept hg30 (by simp)
 have hk66 := hk65.kept hg39 (by simp; omega)
 have hk67 := hk66.below hb58
 refine pwD h51 rfl (op_storeN rfl rfl rfl (all_cons rfl (all_cons rfl (all_cons rfl (all_cons rfl (all_cons rfl (all_cons rfl (all_cons rfl (all_cons rfl (all_cons rfl (all_cons rfl (all_cons rfl (all_cons rfl (all_cons rfl (all_cons rfl (all_cons rfl (all_cons rfl (all_cons rfl (all_cons rfl (all_cons rfl (all_cons rfl (all_cons rfl (all_cons rfl all_nil)))))))))))))))))))))) (by kernel_rfl) hk67 rfl) ?_; clear h51
 rintro _ w61 a60 ⟨hk62, hz63, hg64⟩ h60
 have hk62' : Blk w61 N19 37 #[.int .i64 7, .int .i64 ep, .int .i64 d.rq, .int .i64 0, .bool false, .int .u64 0, .int .u64 0, .int .i64 hd, .int .i64 0, .int .i64 0, .int .i64 (bdC d.at_ mk hz), .string (⟨#[]⟩), .string (⟨#[]⟩), .int .i64 0, .slice none 0 0, .int .u64 0, .int .i64 0, .int .i64 0, .slice none 0 0, .slice none 0 0, .slice none 0 0, .slice none 0 0] := hk62; clear hk62
 have hz68 := hg64.size
 refine pl_nil ?_
 refine co_then ?_
 refine wp_ret ?_
 refine co_retC (Q := fun _ _ _ => True) h60 rfl rfl hk62' Try.underlying37 rfl (by kernel_rfl) ?_
 have hB69 := hb_call hB57 hb58
 have hB70 := hb_at hB69 hg64 (by omega)
 exact ⟨rfl, hB70⟩
set_option maxRecDepth 100000 in
theorem srvGet_any (S : Nat → Prop) (b : Nat) (f : Fv) (la : Int) (ce : Int) (m : Nat) (mk : Int) (hz : Int) (ep : Int) (hd : Int) (d : MsgD) (mv : Value) (bv : Value) (ev : Value) (sv : Value) (pv : Value) (w : World) (hO : MvO S w b f la ce m) (hm : m ≤ 100) (hm : SliceOf memE 2 w mv d.cms) (hb : SliceOf opE 3 w bv d.bl) (he : SliceOf entE 4 w ev d.en) (ht : SliceOf (intE .u64) 1 w sv d.st) (hp : SliceOf prE 2 w pv d.pr) (hbd : bdC d.at_ mk hz = 0) :
    Calls Try.prog 16 #[pt b 0, .agg #[.int .u64 mk, .int .u64 hz, .int .i64 ep, .int .i64 hd], .agg #[.int .i64 d.k, .int .i64 d.ep, .int .i64 d.rq, .int .i64 d.sr, .bool d.fg, .int .u64 d.at_, .int .u64 d.la, .int .i64 d.n, .int .i64 d.m, .int .i64 d.p, .int .i64 d.e, .string d.key, .string d.to_, .int .i64 d.cep, mv, .int .u64 d.cfl, .int .i64 d.bc, .int .i64 d.br, bv, ev, sv, pv]] w fun e w' => ∃ (u : Value), e = .returned (.agg #[.int .i64 10, .int .i64 0, .int .i64 d.rq, .int .i64 0, .bool false, .int .u64 d.at_, .int .u64 0, .int .i64 0, .int .i64 0, .int .i64 0, .int .i64 0, .string d.key, .string (⟨#[]⟩), .int .i64 0, .slice none 0 0, .int .u64 0, .int .i64 0, .int .i64 0, .slice none 0 0, .slice none 0 0, .slice none 0 0, u]) ∧ w'.ownsRow w.heap.size 88 2 u (rdL f d.key d.at_).length ((rdL f d.key d.at_).flatMap pairE) ∧ Below w.heap.size w w' := by
 have hB0 := Below.refl w.heap.size w
 have hl_hm := sl_len hm
 have hl_hb := sl_len hb
 have hl_he := sl_len he
 have hl_ht := sl_len ht
 have hl_hp := sl_len hp
 have hoS := MvO.ofS hO
 refine co_enter (n := 14) Try.func16 rfl rfl rfl [(0, pt b 0), (1, .agg #[.int .u64 mk, .int .u64 hz, .int .i64 ep, .int .i64 hd]), (2, .agg #[.int .i64 d.k, .int .i64 d.ep, .int .i64 d.rq, .int .i64 d.sr, .bool d.fg, .int .u64 d.at_, .int .u64 d.la, .int .i64 d.n, .int .i64 d.m, .int .i64 d.p, .int .i64 d.e, .string d.key, .string d.to_, .int .i64 d.cep, mv, .int .u64 d.cfl, .int .i64 d.bc, .int .i64 d.br, bv, ev, sv, pv])] rfl (fun a h0 => ?_)
 refine co_seq ?_
 refine co_reg ?_
 refine pw h0 rfl (op_new (v := fun N => pt N 0) (T := 45) (cs := #[.int .u64 mk, .int .u64 hz, .int .i64 ep, .int .i64 hd]) (by kernel_rfl) (by kernel_rfl) (by kernel_rfl)) ?_; clear h0
 rintro _ w2 a1 ⟨N3, rfl, hN6, hz7, hk5, hg4⟩ h1
 have hz8 := hg4.size
 have ho9 := off_new (MvO.ofS hO) hN6
 try dsimp only at h1
 refine pw h1 rfl (op_new (v := fun N => pt N 0) (T := 37) (cs := #[.int .i64 d.k, .int .i64 d.ep, .int .i64 d.rq, .int .i64 d.sr, .bool d.fg, .int .u64 d.at_, .int .u64 d.la, .int .i64 d.n, .int .i64 d.m, .int .i64 d.p, .int .i64 d.e, .string d.key, .string d.to_, .int .i64 d.cep, mv, .int .u64 d.cfl, .int .i64 d.bc, .int .i64 d.br, bv, ev, sv, pv]) (by kernel_rfl) (by kernel_rfl) (by kernel_rfl)) ?_; clear h1
 rintro _ w11 a10 ⟨N12, rfl, hN15, hz16, hk14, hg13⟩ h10
 have hz17 := hg13.size
 have hO19 := MvO.gr hO hg4 (fun k e => by cases e)
 have ho18 := off_new (MvO.ofS hO19) hN15
 try dsimp only at h10
 refine pw h10 rfl (op_new (v := fun N => pt N 0) (T := 37) (cs := #[.int .i64 0, .int .i64 0, .int .i64 0, .int .i64 0, .bool false, .int .u64 0, .int .u64 0, .int .i64 0, .int .i64 0, .int .i64 0, .int .i64 0, .string (⟨#[]⟩), .string (⟨#[]⟩), .int .i64 0, .slice none 0 0, .int .u64 0, .int .i64 0, .int .i64 0, .slice none 0 0, .slice none 0 0, .slice none 0 0, .slice none 0 0]) (by kernel_rfl) (by kernel_rfl) (by kernel_rfl)) ?_; clear h10
 rintro _ w21 a20 ⟨N22, rfl, hN25, hz26, hk24, hg23⟩ h20
 have hz27 := hg23.size
 have hO29 := MvO.gr hO19 hg13 (fun k e => by cases e)
 have ho28 := off_new (MvO.ofS hO29) hN25
 try dsimp only at h20
 refine pl_nil ?_
 refine co_then ?_
 refine co_seq ?_
 refine co_reg ?_
 refine pk0 (v := pt b 0) h20 rfl fun a30 h30 => ?_; clear h20
 refine pk0 (v := .func (.func 51) #[pt b 0] #[]) h30 rfl fun a31 h31 => ?_; clear h30
 refine pw h31 rfl (op_new (v := fun N => pt N 0) (T := 110) (cs := #[.nilFunc]) (by kernel_rfl) (by kernel_rfl) (by kernel_rfl)) ?_; clear h31
 rintro _ w33 a32 ⟨N34, rfl, hN37, hz38, hk36, hg35⟩ h32
 have hz39 := hg35.size
 have hO41 := MvO.gr hO29 hg23 (fun k e => by cases e)
 have ho40 := off_new (MvO.ofS hO41) hN37
 try dsimp only at h32
 refine pwD h32 rfl (op_store1 rfl rfl rfl rfl Try.sizeOf110 hk36 rfl) ?_; clear h32
 rintro _ w43 a42 ⟨hk44, hz45, hg46⟩ h42
 have hk44' : Blk w43 N34 110 #[.func (.func 51) #[pt b 0] #[]] := hk44; clear hk44
 have hz47 := hg46.size
 refine pl_nil ?_
 refine co_then ?_
 refine co_seq ?_
 refine co_reg ?_
 have hk48 := hk5.kept hg13 (by simp)
 have hk49 := hk48.kept hg23 (by simp)
 have hk50 := hk49.kept hg35 (by simp)
 have hk51 := hk50.kept hg46 (by simp; omega)
 refine pk (v := .agg #[.int .u64 mk, .int .u64 hz, .int .i64 ep, .int .i64 hd]) h42 rfl (rn_loadN rfl rfl Try.underlying45 rfl (by kernel_rfl) hk51.all) fun a52 h52 => ?_; clear h42
 have hk53 := hk14.kept hg23 (by simp)
 have hk54 := hk53.kept hg35 (by simp)
 have hk55 := hk54.kept hg46 (by simp; omega)
 refine pk (v := .agg #[.int .i64 d.k, .int .i64 d.ep, .int .i64 d.rq, .int .i64 d.sr, .bool d.fg, .int .u64 d.at_, .int .u64 d.la, .int .i64 d.n, .int .i64 d.m, .int .i64 d.p, .int .i64 d.e, .string d.key, .string d.to_, .int .i64 d.cep, mv, .int .u64 d.cfl, .int .i64 d.bc, .int .i64 d.br, bv, ev, sv, pv]) h52 rfl (rn_loadN rfl rfl Try.underlying37 rfl (by kernel_rfl) hk55.all) fun a56 h56 => ?_; clear h52
 refine pk0 (v := .func (.func 53) #[] #[pt N34 0, pt N12 0]) h56 rfl fun a57 h57 => ?_; clear h56
 have hB60 := hb_new hB0 hg4
 have hB61 := hb_new hB60 hg13
 have hB62 := hb_new hB61 hg23
 have hB63 := hb_new hB62 hg35
 have hB64 := hb_at hB63 hg46 (by omega)
 have hO65 := MvO.gr hO41 hg35 (fun k e => by cases e)
 have hO66 := MvO.gr hO65 hg46 (fun k e => by cases e; exact ho40)
 have hk67 := hk24.kept hg35 (by simp)
 have hk68 := hk67.kept hg46 (by simp; omega)
 refine pw h57 rfl (op_call (args := #[.agg #[.int .u64 mk, .int .u64 hz, .int .i64 ep, .int .i64 hd], .agg #[.int .i64 d.k, .int .i64 d.ep, .int .i64 d.rq, .int .i64 d.sr, .bool d.fg, .int .u64 d.at_, .int .u64 d.la, .int .i64 d.n, .int .i64 d.m, .int .i64 d.p, .int .i64 d.e, .string d.key, .string d.to_, .int .i64 d.cep, mv, .int .u64 d.cfl, .int .i64 d.bc, .int .i64 d.br, bv, ev, sv, pv], .func (.func 53) #[] #[pt N34 0, pt N12 0]]) (R := fun res xw => ∃ u : Value, res = .agg #[.int .i64 10, .int .i64 0, .int .i64 d.rq, .int .i64 0, .bool false, .int .u64 d.at_, .int .u64 0, .int .i64 0, .int .i64 0, .int .i64 0, .int .i64 0, .string d.key, .string (⟨#[]⟩), .int .i64 0, .slice none 0 0, .int .u64 0, .int .i64 0, .int .i64 0, .slice none 0 0, .slice none 0 0, .slice none 0 0, u] ∧ xw.ownsRow w43.heap.size 88 2 u (rdL f d.key d.at_).length ((rdL f d.key d.at_).flatMap pairE) ∧ Below w43.heap.size w43 xw) rfl rfl rfl (by kernel_rfl) (by kernel_rfl) (Try.call52 _ _) (srvRowsG_any S b f la ce m mk hz ep hd N34 N12 d mv bv ev sv pv w43 hO66 (by omega) (hm.below hB64) (hb.below hB64) (he.below hB64) (ht.below hB64) (hp.below hB64) hk44' hk55 (by omega)) (by rintro e x ⟨u, rfl, hq70, hb71⟩; exact ⟨_, rfl, ⟨u, rfl, hq70, hb71⟩⟩)) ?_; clear h57
 rintro _ w59 a58 ⟨u69, rfl, hq70, hb71⟩ h58
 have hz72 := hb71.size
 have ho73 := MvO.ofS hO66
 have hl74 := sl_len (row_sl hq70 pairE_len)
 have hk80 := hk68.below hb71
 refine pwD h58 rfl (op_storeN rfl rfl rfl (all_cons rfl (all_cons rfl (all_cons rfl (all_cons rfl (all_cons rfl (all_cons rfl (all_cons rfl (all_cons rfl (all_cons rfl (all_cons rfl (all_cons rfl (all_cons rfl (all_cons rfl (all_cons rfl (all_cons rfl (all_cons rfl (all_cons rfl (all_cons rfl (all_cons rfl (all_cons rfl (all_cons rfl (all_cons (row_one hq70) all_nil)))))))))))))))))))))) (by kernel_rfl) hk80 rfl) ?_; clear h58
 rintro _ w76 a75 ⟨hk77, hz78, hg79⟩ h75
 have hk77' : Blk w76 N22 37 #[.int .i64 10, .int .i64 0, .int .i64 d.rq, .int .i64 0, .bool false, .int .u64 d.at_, .int .u64 0, .int .i64 0, .int .i64 0, .int .i64 0, .int .i64 0, .string d.key, .string (⟨#[]⟩), .int .i64 0, .slice none 0 0, .int .u64 0, .int .i64 0, .int .i64 0, .slice none 0 0, .slice none 0 0, .slice none 0 0, u69] := hk77; clear hk77
 have hz81 := hg79.size
 refine pl_nil ?_
 refine co_then ?_
 refine wp_ret ?_
 refine co_retC (Q := fun _ _ _ => True) h75 rfl rfl hk77' Try.underlying37 rfl (by kernel_rfl) ?_
 have hr82 := row_kept_at hq70 hg79 (own_neT hq70 hk80 (by decide))
 have hB83 := hb_call hB64 hb71
 have hB84 := hb_at hB83 hg79 (by omega)
 exact ⟨_, rfl, (row_lows hr82 (by omega)), hB84⟩
set_option maxRecDepth 100000 in
theorem srvScanN_any (b : Nat) (mk : Int) (hz : Int) (ep : Int) (hd : Int) (d : MsgD) (mv : Value) (bv : Value) (ev : Value) (sv : Value) (pv : Value) (w : World) (hm : SliceOf memE 2 w mv d.cms) (hb : SliceOf opE 3 w bv d.bl) (he : SliceOf entE 4 w ev d.en) (ht : SliceOf (intE .u64) 1 w sv d.st) (hp : SliceOf prE 2 w pv d.pr) (hbd : ¬ bdC d.at_ mk hz = 0) :
    Calls Try.prog 18 #[pt b 0, .agg #[.int .u64 mk, .int .u64 hz, .int .i64 ep, .int .i64 hd], .agg #[.int .i64 d.k, .int .i64 d.ep, .int .i64 d.rq, .int .i64 d.sr, .bool d.fg, .int .u64 d.at_, .int .u64 d.la, .int .i64 d.n, .int .i64 d.m, .int .i64 d.p, .int .i64 d.e, .string d.key, .string d.to_, .int .i64 d.cep, mv, .int .u64 d.cfl, .int .i64 d.bc, .int .i64 d.br, bv, ev, sv, pv]] w fun e w' => e = .returned (.agg #[.int .i64 7, .int .i64 ep, .int .i64 d.rq, .int .i64 0, .bool false, .int .u64 0, .int .u64 0, .int .i64 hd, .int .i64 0, .int .i64 0, .int .i64 (bdC d.at_ mk hz), .string (⟨#[]⟩), .string (⟨#[]⟩), .int .i64 0, .slice none 0 0, .int .u64 0, .int .i64 0, .int .i64 0, .slice none 0 0, .slice none 0 0, .slice none 0 0, .slice none 0 0]) ∧ Below w.heap.size w w' := by
 have hB0 := Below.refl w.heap.size w
 have hl_hm := sl_len hm
 have hl_hb := sl_len hb
 have hl_he := sl_len he
 have hl_ht := sl_len ht
 have hl_hp := sl_len hp
 refine co_enter (n := 14) Try.func18 rfl rfl rfl [(0, pt b 0), (1, .agg #[.int .u64 mk, .int .u64 hz, .int .i64 ep, .int .i64 hd]), (2, .agg #[.int .i64 d.k, .int .i64 d.ep, .int .i64 d.rq, .int .i64 d.sr, .bool d.fg, .int .u64 d.at_, .int .u64 d.la, .int .i64 d.n, .int .i64 d.m, .int .i64 d.p, .int .i64 d.e, .string d.key, .string d.to_, .int .i64 d.cep, mv, .int .u64 d.cfl, .int .i64 d.bc, .int .i64 d.br, bv, ev, sv, pv])] rfl (fun a h0 => ?_)
 refine co_seq ?_
 refine co_reg ?_
 refine pw h0 rfl (op_new (v := fun N => pt N 0) (T := 45) (cs := #[.int .u64 mk, .int .u64 hz, .int .i64 ep, .int .i64 hd]) (by kernel_rfl) (by kernel_rfl) (by kernel_rfl)) ?_; clear h0
 rintro _ w2 a1 ⟨N3, rfl, hN6, hz7, hk5, hg4⟩ h1
 have hz8 := hg4.size
 try dsimp only at h1
 refine pw h1 rfl (op_new (v := fun N => pt N 0) (T := 37) (cs := #[.int .i64 d.k, .int .i64 d.ep, .int .i64 d.rq, .int .i64 d.sr, .bool d.fg, .int .u64 d.at_, .int .u64 d.la, .int .i64 d.n, .int .i64 d.m, .int .i64 d.p, .int .i64 d.e, .string d.key, .string d.to_, .int .i64 d.cep, mv, .int .u64 d.cfl, .int .i64 d.bc, .int .i64 d.br, bv, ev, sv, pv]) (by kernel_rfl) (by kernel_rfl) (by kernel_rfl)) ?_; clear h1
 rintro _ w10 a9 ⟨N11, rfl, hN14, hz15, hk13, hg12⟩ h9
 have hz16 := hg12.size
 try dsimp only at h9
 refine pw h9 rfl (op_new (v := fun N => pt N 0) (T := 37) (cs := #[.int .i64 0, .int .i64 0, .int .i64 0, .int .i64 0, .bool false, .int .u64 0, .int .u64 0, .int .i64 0, .int .i64 0, .int .i64 0, .int .i64 0, .string (⟨#[]⟩), .string (⟨#[]⟩), .int .i64 0, .slice none 0 0, .int .u64 0, .int .i64 0, .int .i64 0, .slice none 0 0, .slice none 0 0, .slice none 0 0, .slice none 0 0]) (by kernel_rfl) (by kernel_rfl) (by kernel_rfl)) ?_; clear h9
 rintro _ w18 a17 ⟨N19, rfl, hN22, hz23, hk21, hg20⟩ h17
 have hz24 := hg20.size
 try dsimp only at h17
 refine pl_nil ?_
 refine co_then ?_
 refine co_seq ?_
 refine co_reg ?_
 refine pk0 (v := pt b 0) h17 rfl fun a25 h25 => ?_; clear h17
 refine pk0 (v := .func (.func 56) #[pt b 0] #[]) h25 rfl fun a26 h26 => ?_; clear h25
 refine pw h26 rfl (op_new (v := fun N => pt N 0) (T := 115) (cs := #[.nilFunc]) (by kernel_rfl) (by kernel_rfl) (by kernel_rfl)) ?_; clear h26
 rintro _ w28 a27 ⟨N29, rfl, hN32, hz33, hk31, hg30⟩ h27
 have hz34 := hg30.size
 try dsimp only at h27
 refine pwD h27 rfl (op_store1 rfl rfl rfl rfl Try.sizeOf115 hk31 rfl) ?_; clear h27
 rintro _ w36 a35 ⟨hk37, hz38, hg39⟩ h35
 have hk37' : Blk w36 N29 115 #[.func (.func 56) #[pt b 0] #[]] := hk37; clear hk37
 have hz40 := hg39.size
 refine pl_nil ?_
 refine co_then ?_
 refine co_seq ?_
 refine co_reg ?_
 have hk41 := hk5.kept hg12 (by simp)
 have hk42 := hk41.kept hg20 (by simp)
 have hk43 := hk42.kept hg30 (by simp)
 have hk44 := hk43.kept hg39 (by simp; omega)
 refine pk (v := .agg #[.int .u64 mk, .int .u64 hz, .int .i64 ep, .int .i64 hd]) h35 rfl (rn_loadN rfl rfl Try.underlying45 rfl (by kernel_rfl) hk44.all) fun a45 h45 => ?_; clear h35
 have hk46 := hk13.kept hg20 (by simp)
 have hk47 := hk46.kept hg30 (by simp)
 have hk48 := hk47.kept hg39 (by simp; omega)
 refine pk (v := .agg #[.int .i64 d.k, .int .i64 d.ep, .int .i64 d.rq, .int .i64 d.sr, .bool d.fg, .int .u64 d.at_, .int .u64 d.la, .int .i64 d.n, .int .i64 d.m, .int .i64 d.p, .int .i64 d.e, .string d.key, .string d.to_, .int .i64 d.cep, mv, .int .u64 d.cfl, .int .i64 d.bc, .int .i64 d.br, bv, ev, sv, pv]) h45 rfl (rn_loadN rfl rfl Try.underlying37 rfl (by kernel_rfl) hk48.all) fun a49 h49 => ?_; clear h45
 refine pk0 (v := .func (.func 57) #[] #[pt N29 0, pt N11 0]) h49 rfl fun a50 h50 => ?_; clear h49
 have hB53 := hb_new hB0 hg4
 have hB54 := hb_new hB53 hg12
 have hB55 := hb_new hB54 hg20
 have hB56 := hb_new hB55 hg30
 have hB57 := hb_at hB56 hg39 (by omega)
 refine pw h50 rfl (op_call (args := #[.agg #[.int .u64 mk, .int .u64 hz, .int .i64 ep, .int .i64 hd], .agg #[.int .i64 d.k, .int .i64 d.ep, .int .i64 d.rq, .int .i64 d.sr, .bool d.fg, .int .u64 d.at_, .int .u64 d.la, .int .i64 d.n, .int .i64 d.m, .int .i64 d.p, .int .i64 d.e, .string d.key, .string d.to_, .int .i64 d.cep, mv, .int .u64 d.cfl, .int .i64 d.bc, .int .i64 d.br, bv, ev, sv, pv], .func (.func 57) #[] #[pt N29 0, pt N11 0]]) (R := fun res xw => res = .agg #[.int .i64 7, .int .i64 ep, .int .i64 d.rq, .int .i64 0, .bool false, .int .u64 0, .int .u64 0, .int .i64 hd, .int .i64 0, .int .i64 0, .int .i64 (bdC d.at_ mk hz), .string (⟨#[]⟩), .string (⟨#[]⟩), .int .i64 0, .slice none 0 0, .int .u64 0, .int .i64 0, .int .i64 0, .slice none 0 0, .slice none 0 0, .slice none 0 0, .slice none 0 0] ∧ Below w36.heap.size w36 xw) rfl rfl rfl (by kernel_rfl) (by kernel_rfl) (Try.call52 _ _) (srvRowsN_any mk hz ep hd d mv bv ev sv pv (.func (.func 57) #[] #[pt N29 0, pt N11 0]) w36 (hm.below hB57) (hb.below hB57) (he.below hB57) (ht.below hB57) (hp.below hB57) (by omega)) (by rintro e x ⟨rfl, hb58⟩; exact ⟨_, rfl, ⟨rfl, hb58⟩⟩)) ?_; clear h50
 rintro _ w52 a51 ⟨rfl, hb58⟩ h51
 have hz59 := hb58.size
 have hk65 := hk21.kept hg30 (by simp)
 have hk66 := hk65.kept hg39 (by simp; omega)
 have hk67 := hk66.below hb58
 refine pwD h51 rfl (op_storeN rfl rfl rfl (all_cons rfl (all_cons rfl (all_cons rfl (all_cons rfl (all_cons rfl (all_cons rfl (all_cons rfl (all_cons rfl (all_cons rfl (all_cons rfl (all_cons rfl (all_cons rfl (all_cons rfl (all_cons rfl (all_cons rfl (all_cons rfl (all_cons rfl (all_cons rfl (all_cons rfl (all_cons rfl (all_cons rfl (all_cons rfl all_nil)))))))))))))))))))))) (by kernel_rfl) hk67 rfl) ?_; clear h51
 rintro _ w61 a60 ⟨hk62, hz63, hg64⟩ h60
 have hk62' : Blk w61 N19 37 #[.int .i64 7, .int .i64 ep, .int .i64 d.rq, .int .i64 0, .bool false, .int .u64 0, .int .u64 0, .int .i64 hd, .int .i64 0, .int .i64 0, .int .i64 (bdC d.at_ mk hz), .string (⟨#[]⟩), .string (⟨#[]⟩), .int .i64 0, .slice none 0 0, .int .u64 0, .int .i64 0, .int .i64 0, .slice none 0 0, .slice none 0 0, .slice none 0 0, .slice none 0 0] := hk62; clear hk62
 have hz68 := hg64.size
 refine pl_nil ?_
 refine co_then ?_
 refine wp_ret ?_
 refine co_retC (Q := fun _ _ _ => True) h60 rfl rfl hk62' Try.underlying37 rfl (by kernel_rfl) ?_
 have hB69 := hb_call hB57 hb58
 have hB70 := hb_at hB69 hg64 (by omega)
 exact ⟨rfl, hB70⟩
set_option maxRecDepth 100000 in
theorem srvScan_any (S : Nat → Prop) (b : Nat) (f : Fv) (la : Int) (ce : Int) (m : Nat) (mk : Int) (hz : Int) (ep : Int) (hd : Int) (d : MsgD) (mv : Value) (bv : Value) (ev : Value) (sv : Value) (pv : Value) (w : World) (hO : MvO S w b f la ce m) (hm : m ≤ 100) (hm : SliceOf memE 2 w mv d.cms) (hb : SliceOf opE 3 w bv d.bl) (he : SliceOf entE 4 w ev d.en) (ht : SliceOf (intE .u64) 1 w sv d.st) (hp : SliceOf prE 2 w pv d.pr) (hbd : bdC d.at_ mk hz = 0) (hn : -9223372036854775808 ≤ d.n ∧ d.n ≤ 9223372036854775807) :
    Calls Try.prog 18 #[pt b 0, .agg #[.int .u64 mk, .int .u64 hz, .int .i64 ep, .int .i64 hd], .agg #[.int .i64 d.k, .int .i64 d.ep, .int .i64 d.rq, .int .i64 d.sr, .bool d.fg, .int .u64 d.at_, .int .u64 d.la, .int .i64 d.n, .int .i64 d.m, .int .i64 d.p, .int .i64 d.e, .string d.key, .string d.to_, .int .i64 d.cep, mv, .int .u64 d.cfl, .int .i64 d.bc, .int .i64 d.br, bv, ev, sv, pv]] w fun e w' => ∃ (u : Value), e = .returned (.agg #[.int .i64 10, .int .i64 0, .int .i64 d.rq, .int .i64 0, .bool (scanM (hitsF f d.at_ d.key d.to_) (mnI d.n 32)), .int .u64 d.at_, .int .u64 0, .int .i64 0, .int .i64 0, .int .i64 0, .int .i64 0, .string d.key, .string (⟨#[]⟩), .int .i64 0, .slice none 0 0, .int .u64 0, .int .i64 0, .int .i64 0, .slice none 0 0, .slice none 0 0, .slice none 0 0, u]) ∧ w'.ownsRow w.heap.size 88 2 u (scanL (hitsF f d.at_ d.key d.to_) (mnI d.n 32)).length ((scanL (hitsF f d.at_ d.key d.to_) (mnI d.n 32)).flatMap pairE) ∧ Below w.heap.size w w' := by
 have hB0 := Below.refl w.heap.size w
 have hl_hm := sl_len hm
 have hl_hb := sl_len hb
 have hl_he := sl_len he
 have hl_ht := sl_len ht
 have hl_hp := sl_len hp
 have hoS := MvO.ofS hO
 refine co_enter (n := 14) Try.func18 rfl rfl rfl [(0, pt b 0), (1, .agg #[.int .u64 mk, .int .u64 hz, .int .i64 ep, .int .i64 hd]), (2, .agg #[.int .i64 d.k, .int .i64 d.ep, .int .i64 d.rq, .int .i64 d.sr, .bool d.fg, .int .u64 d.at_, .int .u64 d.la, .int .i64 d.n, .int .i64 d.m, .int .i64 d.p, .int .i64 d.e, .string d.key, .string d.to_, .int .i64 d.cep, mv, .int .u64 d.cfl, .int .i64 d.bc, .int .i64 d.br, bv, ev, sv, pv])] rfl (fun a h0 => ?_)
 refine co_seq ?_
 refine co_reg ?_
 refine pw h0 rfl (op_new (v := fun N => pt N 0) (T := 45) (cs := #[.int .u64 mk, .int .u64 hz, .int .i64 ep, .int .i64 hd]) (by kernel_rfl) (by kernel_rfl) (by kernel_rfl)) ?_; clear h0
 rintro _ w2 a1 ⟨N3, rfl, hN6, hz7, hk5, hg4⟩ h1
 have hz8 := hg4.size
 have ho9 := off_new (MvO.ofS hO) hN6
 try dsimp only at h1
 refine pw h1 rfl (op_new (v := fun N => pt N 0) (T := 37) (cs := #[.int .i64 d.k, .int .i64 d.ep, .int .i64 d.rq, .int .i64 d.sr, .bool d.fg, .int .u64 d.at_, .int .u64 d.la, .int .i64 d.n, .int .i64 d.m, .int .i64 d.p, .int .i64 d.e, .string d.key, .string d.to_, .int .i64 d.cep, mv, .int .u64 d.cfl, .int .i64 d.bc, .int .i64 d.br, bv, ev, sv, pv]) (by kernel_rfl) (by kernel_rfl) (by kernel_rfl)) ?_; clear h1
 rintro _ w11 a10 ⟨N12, rfl, hN15, hz16, hk14, hg13⟩ h10
 have hz17 := hg13.size
 have hO19 := MvO.gr hO hg4 (fun k e => by cases e)
 have ho18 := off_new (MvO.ofS hO19) hN15
 try dsimp only at h10
 refine pw h10 rfl (op_new (v := fun N => pt N 0) (T := 37) (cs := #[.int .i64 0, .int .i64 0, .int .i64 0, .int .i64 0, .bool false, .int .u64 0, .int .u64 0, .int .i64 0, .int .i64 0, .int .i64 0, .int .i64 0, .string (⟨#[]⟩), .string (⟨#[]⟩), .int .i64 0, .slice none 0 0, .int .u64 0, .int .i64 0, .int .i64 0, .slice none 0 0, .slice none 0 0, .slice none 0 0, .slice none 0 0]) (by kernel_rfl) (by kernel_rfl) (by kernel_rfl)) ?_; clear h10
 rintro _ w21 a20 ⟨N22, rfl, hN25, hz26, hk24, hg23⟩ h20
 have hz27 := hg23.size
 have hO29 := MvO.gr hO19 hg13 (fun k e => by cases e)
 have ho28 := off_new (MvO.ofS hO29) hN25
 try dsimp only at h20
 refine pl_nil ?_
 refine co_then ?_
 refine co_seq ?_
 refine co_reg ?_
 refine pk0 (v := pt b 0) h20 rfl fun a30 h30 => ?_; clear h20
 refine pk0 (v := .func (.func 56) #[pt b 0] #[]) h30 rfl fun a31 h31 => ?_; clear h30
 refine pw h31 rfl (op_new (v := fun N => pt N 0) (T := 115) (cs := #[.nilFunc]) (by kernel_rfl) (by kernel_rfl) (by kernel_rfl)) ?_; clear h31
 rintro _ w33 a32 ⟨N34, rfl, hN37, hz38, hk36, hg35⟩ h32
 have hz39 := hg35.size
 have hO41 := MvO.gr hO29 hg23 (fun k e => by cases e)
 have ho40 := off_new (MvO.ofS hO41) hN37
 try dsimp only at h32
 refine pwD h32 rfl (op_store1 rfl rfl rfl rfl Try.sizeOf115 hk36 rfl) ?_; clear h32
 rintro _ w43 a42 ⟨hk44, hz45, hg46⟩ h42
 have hk44' : Blk w43 N34 115 #[.func (.func 56) #[pt b 0] #[]] := hk44; clear hk44
 have hz47 := hg46.size
 refine pl_nil ?_
 refine co_then ?_
 refine co_seq ?_
 refine co_reg ?_
 have hk48 := hk5.kept hg13 (by simp)
 have hk49 := hk48.kept hg23 (by simp)
 have hk50 := hk49.kept hg35 (by simp)
 have hk51 := hk50.kept hg46 (by simp; omega)
 refine pk (v := .agg #[.int .u64 mk, .int .u64 hz, .int .i64 ep, .int .i64 hd]) h42 rfl (rn_loadN rfl rfl Try.underlying45 rfl (by kernel_rfl) hk51.all) fun a52 h52 => ?_; clear h42
 have hk53 := hk14.kept hg23 (by simp)
 have hk54 := hk53.kept hg35 (by simp)
 have hk55 := hk54.kept hg46 (by simp; omega)
 refine pk (v := .agg #[.int .i64 d.k, .int .i64 d.ep, .int .i64 d.rq, .int .i64 d.sr, .bool d.fg, .int .u64 d.at_, .int .u64 d.la, .int .i64 d.n, .int .i64 d.m, .int .i64 d.p, .int .i64 d.e, .string d.key, .string d.to_, .int .i64 d.cep, mv, .int .u64 d.cfl, .int .i64 d.bc, .int .i64 d.br, bv, ev, sv, pv]) h52 rfl (rn_loadN rfl rfl Try.underlying37 rfl (by kernel_rfl) hk55.all) fun a56 h56 => ?_; clear h52
 refine pk0 (v := .func (.func 57) #[] #[pt N34 0, pt N12 0]) h56 rfl fun a57 h57 => ?_; clear h56
 have hB60 := hb_new hB0 hg4
 have hB61 := hb_new hB60 hg13
 have hB62 := hb_new hB61 hg23
 have hB63 := hb_new hB62 hg35
 have hB64 := hb_at hB63 hg46 (by omega)
 have hO65 := MvO.gr hO41 hg35 (fun k e => by cases e)
 have hO66 := MvO.gr hO65 hg46 (fun k e => by cases e; exact ho40)
 have hk67 := hk24.kept hg35 (by simp)
 have hk68 := hk67.kept hg46 (by simp; omega)
 refine pw h57 rfl (op_call (args := #[.agg #[.int .u64 mk, .int .u64 hz, .int .i64 ep, .int .i64 hd], .agg #[.int .i64 d.k, .int .i64 d.ep, .int .i64 d.rq, .int .i64 d.sr, .bool d.fg, .int .u64 d.at_, .int .u64 d.la, .int .i64 d.n, .int .i64 d.m, .int .i64 d.p, .int .i64 d.e, .string d.key, .string d.to_, .int .i64 d.cep, mv, .int .u64 d.cfl, .int .i64 d.bc, .int .i64 d.br, bv, ev, sv, pv], .func (.func 57) #[] #[pt N34 0, pt N12 0]]) (R := fun res xw => ∃ u : Value, res = .agg #[.int .i64 10, .int .i64 0, .int .i64 d.rq, .int .i64 0, .bool (scanM (hitsF f d.at_ d.key d.to_) (mnI d.n 32)), .int .u64 d.at_, .int .u64 0, .int .i64 0, .int .i64 0, .int .i64 0, .int .i64 0, .string d.key, .string (⟨#[]⟩), .int .i64 0, .slice none 0 0, .int .u64 0, .int .i64 0, .int .i64 0, .slice none 0 0, .slice none 0 0, .slice none 0 0, u] ∧ xw.ownsRow w43.heap.size 88 2 u (scanL (hitsF f d.at_ d.key d.to_) (mnI d.n 32)).length ((scanL (hitsF f d.at_ d.key d.to_) (mnI d.n 32)).flatMap pairE) ∧ Below w43.heap.size w43 xw) rfl rfl rfl (by kernel_rfl) (by kernel_rfl) (Try.call52 _ _) (srvRowsS_any S b f la ce m mk hz ep hd N34 N12 d mv bv ev sv pv w43 hO66 (by omega) (hm.below hB64) (hb.below hB64) (he.below hB64) (ht.below hB64) (hp.below hB64) hk44' hk55 (by omega) (by omega)) (by rintro e x ⟨u, rfl, hq70, hb71⟩; exact ⟨_, rfl, ⟨u, rfl, hq70, hb71⟩⟩)) ?_; clear h57
 rintro _ w59 a58 ⟨u69, rfl, hq70, hb71⟩ h58
 have hz72 := hb71.size
 have ho73 := MvO.ofS hO66
 have hl74 := sl_len (row_sl hq70 pairE_len)
 have hk80 := hk68.below hb71
 refine pwD h58 rfl (op_storeN rfl rfl rfl (all_cons rfl (all_cons rfl (all_cons rfl (all_cons rfl (all_cons rfl (all_cons rfl (all_cons rfl (all_cons rfl (all_cons rfl (all_cons rfl (all_cons rfl (all_cons rfl (all_cons rfl (all_cons rfl (all_cons rfl (all_cons rfl (all_cons rfl (all_cons rfl (all_cons rfl (all_cons rfl (all_cons rfl (all_cons (row_one hq70) all_nil)))))))))))))))))))))) (by kernel_rfl) hk80 rfl) ?_; clear h58
 rintro _ w76 a75 ⟨hk77, hz78, hg79⟩ h75
 have hk77' : Blk w76 N22 37 #[.int .i64 10, .int .i64 0, .int .i64 d.rq, .int .i64 0, .bool (scanM (hitsF f d.at_ d.key d.to_) (mnI d.n 32)), .int .u64 d.at_, .int .u64 0, .int .i64 0, .int .i64 0, .int .i64 0, .int .i64 0, .string d.key, .string (⟨#[]⟩), .int .i64 0, .slice none 0 0, .int .u64 0, .int .i64 0, .int .i64 0, .slice none 0 0, .slice none 0 0, .slice none 0 0, u69] := hk77; clear hk77
 have hz81 := hg79.size
 refine pl_nil ?_
 refine co_then ?_
 refine wp_ret ?_
 refine co_retC (Q := fun _ _ _ => True) h75 rfl rfl hk77' Try.underlying37 rfl (by kernel_rfl) ?_
 have hr82 := row_kept_at hq70 hg79 (own_neT hq70 hk80 (by decide))
 have hB83 := hb_call hB64 hb71
 have hB84 := hb_at hB83 hg79 (by omega)
 exact ⟨_, rfl, (row_lows hr82 (by omega)), hB84⟩
end Go.Proofs.Ytbjbcbbhmbpndaa

/- Package serve: Answer. Conditions: at most 100 calls, 20 operations each. -/
namespace Go.Proofs.Ytbjbcbbhmbpndaa
open Go.RowKit Go.PlainAid
set_option linter.unusedVariables false
set_option linter.unusedSimpArgs false

set_option maxRecDepth 100000 in
theorem srvAnswerZ_any (b : Nat) (mk : Int) (hz : Int) (ep : Int) (hd : Int) (d : MsgD) (mv : Value) (bv : Value) (ev : Value) (sv : Value) (pv : Value) (w : World) (hm : SliceOf memE 2 w mv d.cms) (hb : SliceOf opE 3 w bv d.bl) (he : SliceOf entE 4 w ev d.en) (ht : SliceOf (intE .u64) 1 w sv d.st) (hp : SliceOf prE 2 w pv d.pr) (hok : ∀ z ∈ d.en, EntOk w z) (hR : MsgR d) (hoka : ¬ (chkMg d = 0 ∧ (d.k = 8 ∨ d.k = 9))) :
    Calls Try.prog 13 #[pt b 0, .agg #[.int .u64 mk, .int .u64 hz, .int .i64 ep, .int .i64 hd], .agg #[.int .i64 d.k, .int .i64 d.ep, .int .i64 d.rq, .int .i64 d.sr, .bool d.fg, .int .u64 d.at_, .int .u64 d.la, .int .i64 d.n, .int .i64 d.m, .int .i64 d.p, .int .i64 d.e, .string d.key, .string d.to_, .int .i64 d.cep, mv, .int .u64 d.cfl, .int .i64 d.bc, .int .i64 d.br, bv, ev, sv, pv]] w fun e w' => e = .returned (.tuple #[.agg #[.int .i64 0, .int .i64 0, .int .i64 0, .int .i64 0, .bool false, .int .u64 0, .int .u64 0, .int .i64 0, .int .i64 0, .int .i64 0, .int .i64 0, .string (⟨#[]⟩), .string (⟨#[]⟩), .int .i64 0, .slice none 0 0, .int .u64 0, .int .i64 0, .int .i64 0, .slice none 0 0, .slice none 0 0, .slice none 0 0, .slice none 0 0], .bool false]) ∧ Below w.heap.size w w' := by
 have hB0 := Below.refl w.heap.size w
 have hl_hm := sl_len hm
 have hl_hb := sl_len hb
 have hl_he := sl_len he
 have hl_ht := sl_len ht
 have hl_hp := sl_len hp
 refine co_enter (n := 27) Try.func13 rfl rfl rfl [(0, pt b 0), (1, .agg #[.int .u64 mk, .int .u64 hz, .int .i64 ep, .int .i64 hd]), (2, .agg #[.int .i64 d.k, .int .i64 d.ep, .int .i64 d.rq, .int .i64 d.sr, .bool d.fg, .int .u64 d.at_, .int .u64 d.la, .int .i64 d.n, .int .i64 d.m, .int .i64 d.p, .int .i64 d.e, .string d.key, .string d.to_, .int .i64 d.cep, mv, .int .u64 d.cfl, .int .i64 d.bc, .int .i64 d.br, bv, ev, sv, pv])] rfl (fun a h0 => ?_)
 refine co_seq ?_
 refine co_reg ?_
 refine pw h0 rfl (op_new (v := fun N => pt N 0) (T := 45) (cs := #[.int .u64 mk, .int .u64 hz, .int .i64 ep, .int .i64 hd]) (by kernel_rfl) (by kernel_rfl) (by kernel_rfl)) ?_; clear h0
 rintro _ w2 a1 ⟨N3, rfl, hN6, hz7, hk5, hg4⟩ h1
 have hz8 := hg4.size
 try dsimp only at h1
 refine pw h1 rfl (op_new (v := fun N => pt N 0) (T := 37) (cs := #[.int .i64 d.k, .int .i64 d.ep, .int .i64 d.rq, .int .i64 d.sr, .bool d.fg, .int .u64 d.at_, .int .u64 d.la, .int .i64 d.n, .int .i64 d.m, .int .i64 d.p, .int .i64 d.e, .string d.key, .string d.to_, .int .i64 d.cep, mv, .int .u64 d.cfl, .int .i64 d.bc, .int .i64 d.br, bv, ev, sv, pv]) (by kernel_rfl) (by kernel_rfl) (by kernel_rfl)) ?_; clear h1
 rintro _ w10 a9 ⟨N11, rfl, hN14, hz15, hk13, hg12⟩ h9
 have hz16 := hg12.size
 try dsimp only at h9
 refine pw h9 rfl (op_new (v := fun N => pt N 0) (T := 37) (cs := #[.int .i64 0, .int .i64 0, .int .i64 0, .int .i64 0, .bool false, .int .u64 0, .int .u64 0, .int .i64 0, .int .i64 0, .int .i64 0, .int .i64 0, .string (⟨#[]⟩), .string (⟨#[]⟩), .int .i64 0, .slice none 0 0, .int .u64 0, .int .i64 0, .int .i64 0, .slice none 0 0, .slice none 0 0, .slice none 0 0, .slice none 0 0]) (by kernel_rfl) (by kernel_rfl) (by kernel_rfl)) ?_; clear h9
 rintro _ w18 a17 ⟨N19, rfl, hN22, hz23, hk21, hg20⟩ h17
 have hz24 := hg20.size
 try dsimp only at h17
 refine pk0 (v := .bool false) h17 rfl fun a25 h25 => ?_; clear h17
 refine pl_nil ?_
 refine co_then ?_
 refine co_seq ?_
 refine co_seq ?_
 refine co_reg ?_
 have hk26 := hk13.kept hg20 (by simp)
 refine pk (v := .agg #[.int .i64 d.k, .int .i64 d.ep, .int .i64 d.rq, .int .i64 d.sr, .bool d.fg, .int .u64 d.at_, .int .u64 d.la, .int .i64 d.n, .int .i64 d.m, .int .i64 d.p, .int .i64 d.e, .string d.key, .string d.to_, .int .i64 d.cep, mv, .int .u64 d.cfl, .int .i64 d.bc, .int .i64 d.br, bv, ev, sv, pv]) h25 rfl (rn_loadN rfl rfl Try.underlying37 rfl (by kernel_rfl) hk26.all) fun a27 h27 => ?_; clear h25
 have hB30 := hb_new hB0 hg4
 have hB31 := hb_new hB30 hg12
 have hB32 := hb_new hB31 hg20
 refine pw h27 rfl (op_call (args := #[.agg #[.int .i64 d.k, .int .i64 d.ep, .int .i64 d.rq, .int .i64 d.sr, .bool d.fg, .int .u64 d.at_, .int .u64 d.la, .int .i64 d.n, .int .i64 d.m, .int .i64 d.p, .int .i64 d.e, .string d.key, .string d.to_, .int .i64 d.cep, mv, .int .u64 d.cfl, .int .i64 d.bc, .int .i64 d.br, bv, ev, sv, pv]]) (R := fun res xw => res = .int .i64 (chkMg d) ∧ Below w18.heap.size w18 xw) rfl rfl rfl (by kernel_rfl) (by kernel_rfl) (Try.call47 _ _) (mCheck_any d mv bv ev sv pv w18 (hm.below hB32) (hb.below hB32) (he.below hB32) (ht.below hB32) (hp.below hB32) (fun z hz => (hok z hz).below hB32) hR) (by rintro e x ⟨rfl, hb33⟩; exact ⟨_, rfl, ⟨rfl, hb33⟩⟩)) ?_; clear h27
 rintro _ w29 a28 ⟨rfl, hb33⟩ h28
 have hz34 := hb33.size
 refine pk0 (v := .bool (chkMg d != 0)) h28 rfl fun a35 h35 => ?_; clear h28
 refine pl_nil ?_
 refine co_then ?_
 have hB37 := hb_call hB32 hb33
 have hk38 := hk5.kept hg12 (by simp)
 have hk39 := hk38.kept hg20 (by simp)
 have hk40 := hk39.below hb33
 cases hc36 : (chkMg d != 0)
 ·
  rw [hc36] at h35
  have hp41 : ¬ (chkMg d ≠ 0) := by first | simpa using hc36 | simpa [and_assoc] using hc36
  clear hc36
  refine co_false h35 rfl ?_
  refine wp_skip ?_
  refine co_then ?_
  refine co_seq ?_
  refine co_seq ?_
  refine co_reg ?_
  refine pk0 (v := pt N11 0) h35 rfl fun a42 h42 => ?_; clear h35
  have hk43 := hk26.below hb33
  refine pk (v := .int .i64 d.k) h42 rfl (rn_load1 rfl rfl Try.isAgg3 (hk43.cell rfl)) fun a44 h44 => ?_; clear h42
  refine pl_nil ?_
  refine co_then ?_
  refine wp_block ?_
  refine co_seq ?_
  refine co_reg ?_
  refine pk0 (v := .bool (d.k == 8)) h44 rfl fun a45 h45 => ?_; clear h44
  refine pk0 (v := .bool (d.k == 8)) h45 rfl fun a46 h46 => ?_; clear h45
  refine pl_nil ?_
  refine co_then ?_
  have hc47 : (d.k == 8) = false := by first | (simp; done) | (simp; omega) | exact beq_false_of_ne (by omega) | exact beq_iff_eq.2 (by omega)
  rw [hc47] at h46; clear hc47
  refine co_false h46 rfl ?_
  refine co_seq ?_
  refine co_reg ?_
  refine pk0 (v := .bool (d.k == 9)) h46 rfl fun a48 h48 => ?_; clear h46
  refine pk0 (v := .bool (d.k == 9)) h48 rfl fun a49 h49 => ?_; clear h48
  refine pl_nil ?_
  refine co_then ?_
  have hc50 : (d.k == 9) = false := by first | (simp; done) | (simp; omega) | exact beq_false_of_ne (by omega) | exact beq_iff_eq.2 (by omega)
  rw [hc50] at h49; clear hc50
  refine co_false h49 rfl ?_
  refine wp_skip ?_
  refine co_blockN ?_
  refine co_then ?_
  refine co_seq ?_
  refine co_reg ?_
  refine pk0 (v := .agg #[.int .i64 0, .int .i64 0, .int .i64 0, .int .i64 0, .bool false, .int .u64 0, .int .u64 0, .int .i64 0, .int .i64 0, .int .i64 0, .int .i64 0, .string (⟨#[]⟩), .string (⟨#[]⟩), .int .i64 0, .slice none 0 0, .int .u64 0, .int .i64 0, .int .i64 0, .slice none 0 0, .slice none 0 0, .slice none 0 0, .slice none 0 0]) h49 rfl fun a51 h51 => ?_; clear h49
  have hk57 := hk21.below hb33
  refine pwD h51 rfl (op_storeN rfl rfl rfl (all_cons rfl (all_cons rfl (all_cons rfl (all_cons rfl (all_cons rfl (all_cons rfl (all_cons rfl (all_cons rfl (all_cons rfl (all_cons rfl (all_cons rfl (all_cons rfl (all_cons rfl (all_cons rfl (all_cons rfl (all_cons rfl (all_cons rfl (all_cons rfl (all_cons rfl (all_cons rfl (all_cons rfl (all_cons rfl all_nil)))))))))))))))))))))) (by kernel_rfl) hk57 rfl) ?_; clear h51
  rintro _ w53 a52 ⟨hk54, hz55, hg56⟩ h52
  have hk54' : Blk w53 N19 37 #[.int .i64 0, .int .i64 0, .int .i64 0, .int .i64 0, .bool false, .int .u64 0, .int .u64 0, .int .i64 0, .int .i64 0, .int .i64 0, .int .i64 0, .string (⟨#[]⟩), .string (⟨#[]⟩), .int .i64 0, .slice none 0 0, .int .u64 0, .int .i64 0, .int .i64 0, .slice none 0 0, .slice none 0 0, .slice none 0 0, .slice none 0 0] := hk54; clear hk54
  have hz58 := hg56.size
  refine pk0 (v := .bool false) h52 rfl fun a59 h59 => ?_; clear h52
  refine pl_nil ?_
  refine co_then ?_
  refine wp_ret ?_
  refine co_retC1 (Q := fun _ _ _ => True) h59 rfl rfl rfl hk54' Try.underlying37 rfl (by kernel_rfl) ?_
  have hB60 := hb_at hB37 hg56 (by omega)
  exact ⟨rfl, hB60⟩
 ·
  rw [hc36] at h35
  have hp61 : chkMg d ≠ 0 := by first | simpa using hc36 | simpa [and_assoc] using hc36
  clear hc36
  refine co_true h35 rfl ?_
  refine co_seq ?_
  refine co_reg ?_
  refine pk0 (v := .agg #[.int .i64 0, .int .i64 0, .int .i64 0, .int .i64 0, .bool false, .int .u64 0, .int .u64 0, .int .i64 0, .int .i64 0, .int .i64 0, .int .i64 0, .string (⟨#[]⟩), .string (⟨#[]⟩), .int .i64 0, .slice none 0 0, .int .u64 0, .int .i64 0, .int .i64 0, .slice none 0 0, .slice none 0 0, .slice none 0 0, .slice none 0 0]) h35 rfl fun a62 h62 => ?_; clear h35
  have hk68 := hk21.below hb33
  refine pwD h62 rfl (op_storeN rfl rfl rfl (all_cons rfl (all_cons rfl (all_cons rfl (all_cons rfl (all_cons rfl (all_cons rfl (all_cons rfl (all_cons rfl (all_cons rfl (all_cons rfl (all_cons rfl (all_cons rfl (all_cons rfl (all_cons rfl (all_cons rfl (all_cons rfl (all_cons rfl (all_cons rfl (all_cons rfl (all_cons rfl (all_cons rfl (all_cons rfl all_nil)))))))))))))))))))))) (by kernel_rfl) hk68 rfl) ?_; clear h62
  rintro _ w64 a63 ⟨hk65, hz66, hg67⟩ h63
  have hk65' : Blk w64 N19 37 #[.int .i64 0, .int .i64 0, .int .i64 0, .int .i64 0, .bool false, .int .u64 0, .int .u64 0, .int .i64 0, .int .i64 0, .int .i64 0, .int .i64 0, .string (⟨#[]⟩), .string (⟨#[]⟩), .int .i64 0, .slice none 0 0, .int .u64 0, .int .i64 0, .int .i64 0, .slice none 0 0, .slice none 0 0, .slice none 0 0, .slice none 0 0] := hk65; clear hk65
  have hz69 := hg67.size
  refine pk0 (v := .bool false) h63 rfl fun a70 h70 => ?_; clear h63
  refine pl_nil ?_
  refine co_then ?_
  refine wp_ret ?_
  refine co_thenR ?_
  refine co_retC1 (Q := fun _ _ _ => True) h70 rfl rfl rfl hk65' Try.underlying37 rfl (by kernel_rfl) ?_
  have hB71 := hb_at hB37 hg67 (by omega)
  exact ⟨rfl, hB71⟩
set_option maxRecDepth 100000 in
theorem srvAnswerN_any (b : Nat) (mk : Int) (hz : Int) (ep : Int) (hd : Int) (d : MsgD) (mv : Value) (bv : Value) (ev : Value) (sv : Value) (pv : Value) (w : World) (hm : SliceOf memE 2 w mv d.cms) (hb : SliceOf opE 3 w bv d.bl) (he : SliceOf entE 4 w ev d.en) (ht : SliceOf (intE .u64) 1 w sv d.st) (hp : SliceOf prE 2 w pv d.pr) (hok : ∀ z ∈ d.en, EntOk w z) (hR : MsgR d) (hoka : chkMg d = 0 ∧ (d.k = 8 ∨ d.k = 9)) (hbd : ¬ bdC d.at_ mk hz = 0) :
    Calls Try.prog 13 #[pt b 0, .agg #[.int .u64 mk, .int .u64 hz, .int .i64 ep, .int .i64 hd], .agg #[.int .i64 d.k, .int .i64 d.ep, .int .i64 d.rq, .int .i64 d.sr, .bool d.fg, .int .u64 d.at_, .int .u64 d.la, .int .i64 d.n, .int .i64 d.m, .int .i64 d.p, .int .i64 d.e, .string d.key, .string d.to_, .int .i64 d.cep, mv, .int .u64 d.cfl, .int .i64 d.bc, .int .i64 d.br, bv, ev, sv, pv]] w fun e w' => e = .returned (.tuple #[.agg #[.int .i64 7, .int .i64 ep, .int .i64 d.rq, .int .i64 0, .bool false, .int .u64 0, .int .u64 0, .int .i64 hd, .int .i64 0, .int .i64 0, .int .i64 (bdC d.at_ mk hz), .string (⟨#[]⟩), .string (⟨#[]⟩), .int .i64 0, .slice none 0 0, .int .u64 0, .int .i64 0, .int .i64 0, .slice none 0 0, .slice none 0 0, .slice none 0 0, .slice none 0 0], .bool true]) ∧ Below w.heap.size w w' := by
 have hB0 := Below.refl w.heap.size w
 have hl_hm := sl_len hm
 have hl_hb := sl_len hb
 have hl_he := sl_len he
 have hl_ht := sl_len ht
 have hl_hp := sl_len hp
 refine co_enter (n := 27) Try.func13 rfl rfl rfl [(0, pt b 0), (1, .agg #[.int .u64 mk, .int .u64 hz, .int .i64 ep, .int .i64 hd]), (2, .agg #[.int .i64 d.k, .int .i64 d.ep, .int .i64 d.rq, .int .i64 d.sr, .bool d.fg, .int .u64 d.at_, .int .u64 d.la, .int .i64 d.n, .int .i64 d.m, .int .i64 d.p, .int .i64 d.e, .string d.key, .string d.to_, .int .i64 d.cep, mv, .int .u64 d.cfl, .int .i64 d.bc, .int .i64 d.br, bv, ev, sv, pv])] rfl (fun a h0 => ?_)
 refine co_seq ?_
 refine co_reg ?_
 refine pw h0 rfl (op_new (v := fun N => pt N 0) (T := 45) (cs := #[.int .u64 mk, .int .u64 hz, .int .i64 ep, .int .i64 hd]) (by kernel_rfl) (by kernel_rfl) (by kernel_rfl)) ?_; clear h0
 rintro _ w2 a1 ⟨N3, rfl, hN6, hz7, hk5, hg4⟩ h1
 have hz8 := hg4.size
 try dsimp only at h1
 refine pw h1 rfl (op_new (v := fun N => pt N 0) (T := 37) (cs := #[.int .i64 d.k, .int .i64 d.ep, .int .i64 d.rq, .int .i64 d.sr, .bool d.fg, .int .u64 d.at_, .int .u64 d.la, .int .i64 d.n, .int .i64 d.m, .int .i64 d.p, .int .i64 d.e, .string d.key, .string d.to_, .int .i64 d.cep, mv, .int .u64 d.cfl, .int .i64 d.bc, .int .i64 d.br, bv, ev, sv, pv]) (by kernel_rfl) (by kernel_rfl) (by kernel_rfl)) ?_; clear h1
 rintro _ w10 a9 ⟨N11, rfl, hN14, hz15, hk13, hg12⟩ h9
 have hz16 := hg12.size
 try dsimp only at h9
 refine pw h9 rfl (op_new (v := fun N => pt N 0) (T := 37) (cs := #[.int .i64 0, .int .i64 0, .int .i64 0, .int .i64 0, .bool false, .int .u64 0, .int .u64 0, .int .i64 0, .int .i64 0, .int .i64 0, .int .i64 0, .string (⟨#[]⟩), .string (⟨#[]⟩), .int .i64 0, .slice none 0 0, .int .u64 0, .int .i64 0, .int .i64 0, .slice none 0 0, .slice none 0 0, .slice none 0 0, .slice none 0 0]) (by kernel_rfl) (by kernel_rfl) (by kernel_rfl)) ?_; clear h9
 rintro _ w18 a17 ⟨N19, rfl, hN22, hz23, hk21, hg20⟩ h17
 have hz24 := hg20.size
 try dsimp only at h17
 refine pk0 (v := .bool false) h17 rfl fun a25 h25 => ?_; clear h17
 refine pl_nil ?_
 refine co_then ?_
 refine co_seq ?_
 refine co_seq ?_
 refine co_reg ?_
 have hk26 := hk13.kept hg20 (by simp)
 refine pk (v := .agg #[.int .i64 d.k, .int .i64 d.ep, .int .i64 d.rq, .int .i64 d.sr, .bool d.fg, .int .u64 d.at_, .int .u64 d.la, .int .i64 d.n, .int .i64 d.m, .int .i64 d.p, .int .i64 d.e, .string d.key, .string d.to_, .int .i64 d.cep, mv, .int .u64 d.cfl, .int .i64 d.bc, .int .i64 d.br, bv, ev, sv, pv]) h25 rfl (rn_loadN rfl rfl Try.underlying37 rfl (by kernel_rfl) hk26.all) fun a27 h27 => ?_; clear h25
 have hB30 := hb_new hB0 hg4
 have hB31 := hb_new hB30 hg12
 have hB32 := hb_new hB31 hg20
 refine pw h27 rfl (op_call (args := #[.agg #[.int .i64 d.k, .int .i64 d.ep, .int .i64 d.rq, .int .i64 d.sr, .bool d.fg, .int .u64 d.at_, .int .u64 d.la, .int .i64 d.n, .int .i64 d.m, .int .i64 d.p, .int .i64 d.e, .string d.key, .string d.to_, .int .i64 d.cep, mv, .int .u64 d.cfl, .int .i64 d.bc, .int .i64 d.br, bv, ev, sv, pv]]) (R := fun res xw => res = .int .i64 (chkMg d) ∧ Below w18.heap.size w18 xw) rfl rfl rfl (by kernel_rfl) (by kernel_rfl) (Try.call47 _ _) (mCheck_any d mv bv ev sv pv w18 (hm.below hB32) (hb.below hB32) (he.below hB32) (ht.below hB32) (hp.below hB32) (fun z hz => (hok z hz).below hB32) hR) (by rintro e x ⟨rfl, hb33⟩; exact ⟨_, rfl, ⟨rfl, hb33⟩⟩)) ?_; clear h27
 rintro _ w29 a28 ⟨rfl, hb33⟩ h28
 have hz34 := hb33.size
 refine pk0 (v := .bool (chkMg d != 0)) h28 rfl fun a35 h35 => ?_; clear h28
 refine pl_nil ?_
 refine co_then ?_
 have hc36 : (chkMg d != 0) = false := by first | (simp; done) | (simp; omega) | exact beq_false_of_ne (by omega) | exact beq_iff_eq.2 (by omega)
 rw [hc36] at h35; clear hc36
 refine co_false h35 rfl ?_
 refine wp_skip ?_
 refine co_then ?_
 refine co_seq ?_
 refine co_seq ?_
 refine co_reg ?_
 refine pk0 (v := pt N11 0) h35 rfl fun a37 h37 => ?_; clear h35
 have hk38 := hk26.below hb33
 refine pk (v := .int .i64 d.k) h37 rfl (rn_load1 rfl rfl Try.isAgg3 (hk38.cell rfl)) fun a39 h39 => ?_; clear h37
 refine pl_nil ?_
 refine co_then ?_
 refine wp_block ?_
 refine co_seq ?_
 refine co_reg ?_
 refine pk0 (v := .bool (d.k == 8)) h39 rfl fun a40 h40 => ?_; clear h39
 refine pk0 (v := .bool (d.k == 8)) h40 rfl fun a41 h41 => ?_; clear h40
 refine pl_nil ?_
 refine co_then ?_
 have hB43 := hb_call hB32 hb33
 have hk44 := hk5.kept hg12 (by simp)
 have hk45 := hk44.kept hg20 (by simp)
 have hk46 := hk45.below hb33
 cases hc42 : (d.k == 8)
 ·
  rw [hc42] at h41
  have hp47 : ¬ (d.k = 8) := by first | simpa using hc42 | simpa [and_assoc] using hc42
  clear hc42
  refine co_false h41 rfl ?_
  refine co_seq ?_
  refine co_reg ?_
  refine pk0 (v := .bool (d.k == 9)) h41 rfl fun a48 h48 => ?_; clear h41
  refine pk0 (v := .bool (d.k == 9)) h48 rfl fun a49 h49 => ?_; clear h48
  refine pl_nil ?_
  refine co_then ?_
  have hc50 : (d.k == 9) = true := by first | (simp; done) | (simp; omega) | exact beq_false_of_ne (by omega) | exact beq_iff_eq.2 (by omega)
  rw [hc50] at h49; clear hc50
  refine co_true h49 rfl ?_
  refine co_seq ?_
  refine co_reg ?_
  refine pk0 (v := pt b 0) h49 rfl fun a51 h51 => ?_; clear h49
  refine pk (v := .agg #[.int .u64 mk, .int .u64 hz, .int .i64 ep, .int .i64 hd]) h51 rfl (rn_loadN rfl rfl Try.underlying45 rfl (by kernel_rfl) hk46.all) fun a52 h52 => ?_; clear h51
  refine pk (v := .agg #[.int .i64 d.k, .int .i64 d.ep, .int .i64 d.rq, .int .i64 d.sr, .bool d.fg, .int .u64 d.at_, .int .u64 d.la, .int .i64 d.n, .int .i64 d.m, .int .i64 d.p, .int .i64 d.e, .string d.key, .string d.to_, .int .i64 d.cep, mv, .int .u64 d.cfl, .int .i64 d.bc, .int .i64 d.br, bv, ev, sv, pv]) h52 rfl (rn_loadN rfl rfl Try.underlying37 rfl (by kernel_rfl) hk38.all) fun a53 h53 => ?_; clear h52
  refine pw h53 rfl (op_call (args := #[pt b 0, .agg #[.int .u64 mk, .int .u64 hz, .int .i64 ep, .int .i64 hd], .agg #[.int .i64 d.k, .int .i64 d.ep, .int .i64 d.rq, .int .i64 d.sr, .bool d.fg, .int .u64 d.at_, .int .u64 d.la, .int .i64 d.n, .int .i64 d.m, .int .i64 d.p, .int .i64 d.e, .string d.key, .string d.to_, .int .i64 d.cep, mv, .int .u64 d.cfl, .int .i64 d.bc, .int .i64 d.br, bv, ev, sv, pv]]) (R := fun res xw => res = .agg #[.int .i64 7, .int .i64 ep, .int .i64 d.rq, .int .i64 0, .bool false, .int .u64 0, .int .u64 0, .int .i64 hd, .int .i64 0, .int .i64 0, .int .i64 (bdC d.at_ mk hz), .string (⟨#[]⟩), .string (⟨#[]⟩), .int .i64 0, .slice none 0 0, .int .u64 0, .int .i64 0, .int .i64 0, .slice none 0 0, .slice none 0 0, .slice none 0 0, .slice none 0 0] ∧ Below w29.heap.size w29 xw) rfl rfl rfl (by kernel_rfl) (by kernel_rfl) (Try.call18 _ _) (srvScanN_any b mk hz ep hd d mv bv ev sv pv w29 (hm.below hB43) (hb.below hB43) (he.below hB43) (ht.below hB43) (hp.below hB43) (by omega)) (by rintro e x ⟨rfl, hb56⟩; exact ⟨_, rfl, ⟨rfl, hb56⟩⟩)) ?_; clear h53
  rintro _ w55 a54 ⟨rfl, hb56⟩ h54
  have hz57 := hb56.size
  have hk63 := hk21.below hb33
  have hk64 := hk63.below hb56
  refine pwD h54 rfl (op_storeN rfl rfl rfl (all_cons rfl (all_cons rfl (all_cons rfl (all_cons rfl (all_cons rfl (all_cons rfl (all_cons rfl (all_cons rfl (all_cons rfl (all_cons rfl (all_cons rfl (all_cons rfl (all_cons rfl (all_cons rfl (all_cons rfl (all_cons rfl (all_cons rfl (all_cons rfl (all_cons rfl (all_cons rfl (all_cons rfl (all_cons rfl all_nil)))))))))))))))))))))) (by kernel_rfl) hk64 rfl) ?_; clear h54
  rintro _ w59 a58 ⟨hk60, hz61, hg62⟩ h58
  have hk60' : Blk w59 N19 37 #[.int .i64 7, .int .i64 ep, .int .i64 d.rq, .int .i64 0, .bool false, .int .u64 0, .int .u64 0, .int .i64 hd, .int .i64 0, .int .i64 0, .int .i64 (bdC d.at_ mk hz), .string (⟨#[]⟩), .string (⟨#[]⟩), .int .i64 0, .slice none 0 0, .int .u64 0, .int .i64 0, .int .i64 0, .slice none 0 0, .slice none 0 0, .slice none 0 0, .slice none 0 0] := hk60; clear hk60
  have hz65 := hg62.size
  refine pk0 (v := .bool true) h58 rfl fun a66 h66 => ?_; clear h58
  refine pl_nil ?_
  refine co_then ?_
  refine wp_ret ?_
  refine co_blockR ?_
  refine co_thenR ?_
  refine co_retC1 (Q := fun _ _ _ => True) h66 rfl rfl rfl hk60' Try.underlying37 rfl (by kernel_rfl) ?_
  have hB67 := hb_call hB43 hb56
  have hB68 := hb_at hB67 hg62 (by omega)
  exact ⟨rfl, hB68⟩
 ·
  rw [hc42] at h41
  have hp69 : d.k = 8 := by first | simpa using hc42 | simpa [and_assoc] using hc42
  clear hc42
  refine co_true h41 rfl ?_
  refine co_seq ?_
  refine co_reg ?_
  refine pk0 (v := pt b 0) h41 rfl fun a70 h70 => ?_; clear h41
  refine pk (v := .agg #[.int .u64 mk, .int .u64 hz, .int .i64 ep, .int .i64 hd]) h70 rfl (rn_loadN rfl rfl Try.underlying45 rfl (by kernel_rfl) hk46.all) fun a71 h71 => ?_; clear h70
  refine pk (v := .agg #[.int .i64 d.k, .int .i64 d.ep, .int .i64 d.rq, .int .i64 d.sr, .bool d.fg, .int .u64 d.at_, .int .u64 d.la, .int .i64 d.n, .int .i64 d.m, .int .i64 d.p, .int .i64 d.e, .string d.key, .string d.to_, .int .i64 d.cep, mv, .int .u64 d.cfl, .int .i64 d.bc, .int .i64 d.br, bv, ev, sv, pv]) h71 rfl (rn_loadN rfl rfl Try.underlying37 rfl (by kernel_rfl) hk38.all) fun a72 h72 => ?_; clear h71
  refine pw h72 rfl (op_call (args := #[pt b 0, .agg #[.int .u64 mk, .int .u64 hz, .int .i64 ep, .int .i64 hd], .agg #[.int .i64 d.k, .int .i64 d.ep, .int .i64 d.rq, .int .i64 d.sr, .bool d.fg, .int .u64 d.at_, .int .u64 d.la, .int .i64 d.n, .int .i64 d.m, .int .i64 d.p, .int .i64 d.e, .string d.key, .string d.to_, .int .i64 d.cep, mv, .int .u64 d.cfl, .int .i64 d.bc, .int .i64 d.br, bv, ev, sv, pv]]) (R := fun res xw => res = .agg #[.int .i64 7, .int .i64 ep, .int .i64 d.rq, .int .i64 0, .bool false, .int .u64 0, .int .u64 0, .int .i64 hd, .int .i64 0, .int .i64 0, .int .i64 (bdC d.at_ mk hz), .string (⟨#[]⟩), .string (⟨#[]⟩), .int .i64 0, .slice none 0 0, .int .u64 0, .int .i64 0, .int .i64 0, .slice none 0 0, .slice none 0 0, .slice none 0 0, .slice none 0 0] ∧ Below w29.heap.size w29 xw) rfl rfl rfl (by kernel_rfl) (by kernel_rfl) (Try.call16 _ _) (srvGetN_any b mk hz ep hd d mv bv ev sv pv w29 (hm.below hB43) (hb.below hB43) (he.below hB43) (ht.below hB43) (hp.below hB43) (by omega)) (by rintro e x ⟨rfl, hb75⟩; exact ⟨_, rfl, ⟨rfl, hb75⟩⟩)) ?_; clear h72
  rintro _ w74 a73 ⟨rfl, hb75⟩ h73
  have hz76 := hb75.size
  have hk82 := hk21.below hb33
  have hk83 := hk82.below hb75
  refine pwD h73 rfl (op_storeN rfl rfl rfl (all_cons rfl (all_cons rfl (all_cons rfl (all_cons rfl (all_cons rfl (all_cons rfl (all_cons rfl (all_cons rfl (all_cons rfl (all_cons rfl (all_cons rfl (all_cons rfl (all_cons rfl (all_cons rfl (all_cons rfl (all_cons rfl (all_cons rfl (all_cons rfl (all_cons rfl (all_cons rfl (all_cons rfl (all_cons rfl all_nil)))))))))))))))))))))) (by kernel_rfl) hk83 rfl) ?_; clear h73
  rintro _ w78 a77 ⟨hk79, hz80, hg81⟩ h77
  have hk79' : Blk w78 N19 37 #[.int .i64 7, .int .i64 ep, .int .i64 d.rq, .int .i64 0, .bool false, .int .u64 0, .int .u64 0, .int .i64 hd, .int .i64 0, .int .i64 0, .int .i64 (bdC d.at_ mk hz), .string (⟨#[]⟩), .string (⟨#[]⟩), .int .i64 0, .slice none 0 0, .int .u64 0, .int .i64 0, .int .i64 0, .slice none 0 0, .slice none 0 0, .slice none 0 0, .slice none 0 0] := hk79; clear hk79
  have hz84 := hg81.size
  refine pk0 (v := .bool true) h77 rfl fun a85 h85 => ?_; clear h77
  refine pl_nil ?_
  refine co_then ?_
  refine wp_ret ?_
  refine co_blockR ?_
  refine co_thenR ?_
  refine co_retC1 (Q := fun _ _ _ => True) h85 rfl rfl rfl hk79' Try.underlying37 rfl (by kernel_rfl) ?_
  have hB86 := hb_call hB43 hb75
  have hB87 := hb_at hB86 hg81 (by omega)
  exact ⟨rfl, hB87⟩
set_option maxRecDepth 100000 in
theorem srvAnswer_any (S : Nat → Prop) (b : Nat) (f : Fv) (la : Int) (ce : Int) (m : Nat) (mk : Int) (hz : Int) (ep : Int) (hd : Int) (d : MsgD) (mv : Value) (bv : Value) (ev : Value) (sv : Value) (pv : Value) (w : World) (hO : MvO S w b f la ce m) (hm : m ≤ 100) (hm : SliceOf memE 2 w mv d.cms) (hb : SliceOf opE 3 w bv d.bl) (he : SliceOf entE 4 w ev d.en) (ht : SliceOf (intE .u64) 1 w sv d.st) (hp : SliceOf prE 2 w pv d.pr) (hok : ∀ z ∈ d.en, EntOk w z) (hR : MsgR d) (hoka : chkMg d = 0 ∧ (d.k = 8 ∨ d.k = 9)) (hbd : bdC d.at_ mk hz = 0) (hn : -9223372036854775808 ≤ d.n ∧ d.n ≤ 9223372036854775807) :
    Calls Try.prog 13 #[pt b 0, .agg #[.int .u64 mk, .int .u64 hz, .int .i64 ep, .int .i64 hd], .agg #[.int .i64 d.k, .int .i64 d.ep, .int .i64 d.rq, .int .i64 d.sr, .bool d.fg, .int .u64 d.at_, .int .u64 d.la, .int .i64 d.n, .int .i64 d.m, .int .i64 d.p, .int .i64 d.e, .string d.key, .string d.to_, .int .i64 d.cep, mv, .int .u64 d.cfl, .int .i64 d.bc, .int .i64 d.br, bv, ev, sv, pv]] w fun e w' => ∃ (u : Value), e = .returned (.tuple #[.agg #[.int .i64 10, .int .i64 0, .int .i64 d.rq, .int .i64 0, .bool (flL f d), .int .u64 d.at_, .int .u64 0, .int .i64 0, .int .i64 0, .int .i64 0, .int .i64 0, .string d.key, .string (⟨#[]⟩), .int .i64 0, .slice none 0 0, .int .u64 0, .int .i64 0, .int .i64 0, .slice none 0 0, .slice none 0 0, .slice none 0 0, u], .bool true]) ∧ w'.ownsRow w.heap.size 88 2 u (psL f d).length ((psL f d).flatMap pairE) ∧ Below w.heap.size w w' := by
 have hB0 := Below.refl w.heap.size w
 have hl_hm := sl_len hm
 have hl_hb := sl_len hb
 have hl_he := sl_len he
 have hl_ht := sl_len ht
 have hl_hp := sl_len hp
 have hoS := MvO.ofS hO
 refine co_enter (n := 27) Try.func13 rfl rfl rfl [(0, pt b 0), (1, .agg #[.int .u64 mk, .int .u64 hz, .int .i64 ep, .int .i64 hd]), (2, .agg #[.int .i64 d.k, .int .i64 d.ep, .int .i64 d.rq, .int .i64 d.sr, .bool d.fg, .int .u64 d.at_, .int .u64 d.la, .int .i64 d.n, .int .i64 d.m, .int .i64 d.p, .int .i64 d.e, .string d.key, .string d.to_, .int .i64 d.cep, mv, .int .u64 d.cfl, .int .i64 d.bc, .int .i64 d.br, bv, ev, sv, pv])] rfl (fun a h0 => ?_)
 refine co_seq ?_
 refine co_reg ?_
 refine pw h0 rfl (op_new (v := fun N => pt N 0) (T := 45) (cs := #[.int .u64 mk, .int .u64 hz, .int .i64 ep, .int .i64 hd]) (by kernel_rfl) (by kernel_rfl) (by kernel_rfl)) ?_; clear h0
 rintro _ w2 a1 ⟨N3, rfl, hN6, hz7, hk5, hg4⟩ h1
 have hz8 := hg4.size
 have ho9 := off_new (MvO.ofS hO) hN6
 try dsimp only at h1
 refine pw h1 rfl (op_new (v := fun N => pt N 0) (T := 37) (cs := #[.int .i64 d.k, .int .i64 d.ep, .int .i64 d.rq, .int .i64 d.sr, .bool d.fg, .int .u64 d.at_, .int .u64 d.la, .int .i64 d.n, .int .i64 d.m, .int .i64 d.p, .int .i64 d.e, .string d.key, .string d.to_, .int .i64 d.cep, mv, .int .u64 d.cfl, .int .i64 d.bc, .int .i64 d.br, bv, ev, sv, pv]) (by kernel_rfl) (by kernel_rfl) (by kernel_rfl)) ?_; clear h1
 rintro _ w11 a10 ⟨N12, rfl, hN15, hz16, hk14, hg13⟩ h10
 have hz17 := hg13.size
 have hO19 := MvO.gr hO hg4 (fun k e => by cases e)
 have ho18 := off_new (MvO.ofS hO19) hN15
 try dsimp only at h10
 refine pw h10 rfl (op_new (v := fun N => pt N 0) (T := 37) (cs := #[.int .i64 0, .int .i64 0, .int .i64 0, .int .i64 0, .bool false, .int .u64 0, .int .u64 0, .int .i64 0, .int .i64 0, .int .i64 0, .int .i64 0, .string (⟨#[]⟩), .string (⟨#[]⟩), .int .i64 0, .slice none 0 0, .int .u64 0, .int .i64 0, .int .i64 0, .slice none 0 0, .slice none 0 0, .slice none 0 0, .slice none 0 0]) (by kernel_rfl) (by kernel_rfl) (by kernel_rfl)) ?_; clear h10
 rintro _ w21 a20 ⟨N22, rfl, hN25, hz26, hk24, hg23⟩ h20
 have hz27 := hg23.size
 have hO29 := MvO.gr hO19 hg13 (fun k e => by cases e)
 have ho28 := off_new (MvO.ofS hO29) hN25
 try dsimp only at h20
 refine pk0 (v := .bool false) h20 rfl fun a30 h30 => ?_; clear h20
 refine pl_nil ?_
 refine co_then ?_
 refine co_seq ?_
 refine co_seq ?_
 refine co_reg ?_
 have hk31 := hk14.kept hg23 (by simp)
 refine pk (v := .agg #[.int .i64 d.k, .int .i64 d.ep, .int .i64 d.rq, .int .i64 d.sr, .bool d.fg, .int .u64 d.at_, .int .u64 d.la, .int .i64 d.n, .int .i64 d.m, .int .i64 d.p, .int .i64 d.e, .string d.key, .string d.to_, .int .i64 d.cep, mv, .int .u64 d.cfl, .int .i64 d.bc, .int .i64 d.br, bv, ev, sv, pv]) h30 rfl (rn_loadN rfl rfl Try.underlying37 rfl (by kernel_rfl) hk31.all) fun a32 h32 => ?_; clear h30
 have hB35 := hb_new hB0 hg4
 have hB36 := hb_new hB35 hg13
 have hB37 := hb_new hB36 hg23
 refine pw h32 rfl (op_call (args := #[.agg #[.int .i64 d.k, .int .i64 d.ep, .int .i64 d.rq, .int .i64 d.sr, .bool d.fg, .int .u64 d.at_, .int .u64 d.la, .int .i64 d.n, .int .i64 d.m, .int .i64 d.p, .int .i64 d.e, .string d.key, .string d.to_, .int .i64 d.cep, mv, .int .u64 d.cfl, .int .i64 d.bc, .int .i64 d.br, bv, ev, sv, pv]]) (R := fun res xw => res = .int .i64 (chkMg d) ∧ Below w21.heap.size w21 xw) rfl rfl rfl (by kernel_rfl) (by kernel_rfl) (Try.call47 _ _) (mCheck_any d mv bv ev sv pv w21 (hm.below hB37) (hb.below hB37) (he.below hB37) (ht.below hB37) (hp.below hB37) (fun z hz => (hok z hz).below hB37) hR) (by rintro e x ⟨rfl, hb38⟩; exact ⟨_, rfl, ⟨rfl, hb38⟩⟩)) ?_; clear h32
 rintro _ w34 a33 ⟨rfl, hb38⟩ h33
 have hz39 := hb38.size
 have hO41 := MvO.gr hO29 hg23 (fun k e => by cases e)
 have ho40 := MvO.ofS hO41
 refine pk0 (v := .bool (chkMg d != 0)) h33 rfl fun a42 h42 => ?_; clear h33
 refine pl_nil ?_
 refine co_then ?_
 have hc43 : (chkMg d != 0) = false := by first | (simp; done) | (simp; omega) | exact beq_false_of_ne (by omega) | exact beq_iff_eq.2 (by omega)
 rw [hc43] at h42; clear hc43
 refine co_false h42 rfl ?_
 refine wp_skip ?_
 refine co_then ?_
 refine co_seq ?_
 refine co_seq ?_
 refine co_reg ?_
 refine pk0 (v := pt N12 0) h42 rfl fun a44 h44 => ?_; clear h42
 have hk45 := hk31.below hb38
 refine pk (v := .int .i64 d.k) h44 rfl (rn_load1 rfl rfl Try.isAgg3 (hk45.cell rfl)) fun a46 h46 => ?_; clear h44
 refine pl_nil ?_
 refine co_then ?_
 refine wp_block ?_
 refine co_seq ?_
 refine co_reg ?_
 refine pk0 (v := .bool (d.k == 8)) h46 rfl fun a47 h47 => ?_; clear h46
 refine pk0 (v := .bool (d.k == 8)) h47 rfl fun a48 h48 => ?_; clear h47
 refine pl_nil ?_
 refine co_then ?_
 have hB50 := hb_call hB37 hb38
 have hk51 := hk5.kept hg13 (by simp)
 have hk52 := hk51.kept hg23 (by simp)
 have hk53 := hk52.below hb38
 cases hc49 : (d.k == 8)
 ·
  rw [hc49] at h48
  have hp54 : ¬ (d.k = 8) := by first | simpa using hc49 | simpa [and_assoc] using hc49
  clear hc49
  refine co_false h48 rfl ?_
  refine co_seq ?_
  refine co_reg ?_
  refine pk0 (v := .bool (d.k == 9)) h48 rfl fun a55 h55 => ?_; clear h48
  refine pk0 (v := .bool (d.k == 9)) h55 rfl fun a56 h56 => ?_; clear h55
  refine pl_nil ?_
  refine co_then ?_
  have hc57 : (d.k == 9) = true := by first | (simp; done) | (simp; omega) | exact beq_false_of_ne (by omega) | exact beq_iff_eq.2 (by omega)
  rw [hc57] at h56; clear hc57
  refine co_true h56 rfl ?_
  refine co_seq ?_
  refine co_reg ?_
  refine pk0 (v := pt b 0) h56 rfl fun a58 h58 => ?_; clear h56
  refine pk (v := .agg #[.int .u64 mk, .int .u64 hz, .int .i64 ep, .int .i64 hd]) h58 rfl (rn_loadN rfl rfl Try.underlying45 rfl (by kernel_rfl) hk53.all) fun a59 h59 => ?_; clear h58
  refine pk (v := .agg #[.int .i64 d.k, .int .i64 d.ep, .int .i64 d.rq, .int .i64 d.sr, .bool d.fg, .int .u64 d.at_, .int .u64 d.la, .int .i64 d.n, .int .i64 d.m, .int .i64 d.p, .int .i64 d.e, .string d.key, .string d.to_, .int .i64 d.cep, mv, .int .u64 d.cfl, .int .i64 d.bc, .int .i64 d.br, bv, ev, sv, pv]) h59 rfl (rn_loadN rfl rfl Try.underlying37 rfl (by kernel_rfl) hk45.all) fun a60 h60 => ?_; clear h59
  have hO63 := MvO.gr hO41 (below_grown hb38) (fun k e => by cases e)
  refine pw h60 rfl (op_call (args := #[pt b 0, .agg #[.int .u64 mk, .int .u64 hz, .int .i64 ep, .int .i64 hd], .agg #[.int .i64 d.k, .int .i64 d.ep, .int .i64 d.rq, .int .i64 d.sr, .bool d.fg, .int .u64 d.at_, .int .u64 d.la, .int .i64 d.n, .int .i64 d.m, .int .i64 d.p, .int .i64 d.e, .string d.key, .string d.to_, .int .i64 d.cep, mv, .int .u64 d.cfl, .int .i64 d.bc, .int .i64 d.br, bv, ev, sv, pv]]) (R := fun res xw => ∃ u : Value, res = .agg #[.int .i64 10, .int .i64 0, .int .i64 d.rq, .int .i64 0, .bool (scanM (hitsF f d.at_ d.key d.to_) (mnI d.n 32)), .int .u64 d.at_, .int .u64 0, .int .i64 0, .int .i64 0, .int .i64 0, .int .i64 0, .string d.key, .string (⟨#[]⟩), .int .i64 0, .slice none 0 0, .int .u64 0, .int .i64 0, .int .i64 0, .slice none 0 0, .slice none 0 0, .slice none 0 0, u] ∧ xw.ownsRow w34.heap.size 88 2 u (scanL (hitsF f d.at_ d.key d.to_) (mnI d.n 32)).length ((scanL (hitsF f d.at_ d.key d.to_) (mnI d.n 32)).flatMap pairE) ∧ Below w34.heap.size w34 xw) rfl rfl rfl (by kernel_rfl) (by kernel_rfl) (Try.call18 _ _) (srvScan_any S b f la ce m mk hz ep hd d mv bv ev sv pv w34 hO63 (by omega) (hm.below hB50) (hb.below hB50) (he.below hB50) (ht.below hB50) (hp.below hB50) (by omega) (by omega)) (by rintro e x ⟨u, rfl, hq65, hb66⟩; exact ⟨_, rfl, ⟨u, rfl, hq65, hb66⟩⟩)) ?_; clear h60
  rintro _ w62 a61 ⟨u64, rfl, hq65, hb66⟩ h61
  have hz67 := hb66.size
  have ho68 := MvO.ofS hO63
  have hl69 := sl_len (row_sl hq65 pairE_len)
  have hk75 := hk24.below hb38
  have hk76 := hk75.below hb66
  refine pwD h61 rfl (op_storeN rfl rfl rfl (all_cons rfl (all_cons rfl (all_cons rfl (all_cons rfl (all_cons rfl (all_cons rfl (all_cons rfl (all_cons rfl (all_cons rfl (all_cons rfl (all_cons rfl (all_cons rfl (all_cons rfl (all_cons rfl (all_cons rfl (all_cons rfl (all_cons rfl (all_cons rfl (all_cons rfl (all_cons rfl (all_cons rfl (all_cons (row_one hq65) all_nil)))))))))))))))))))))) (by kernel_rfl) hk76 rfl) ?_; clear h61
  rintro _ w71 a70 ⟨hk72, hz73, hg74⟩ h70
  have hk72' : Blk w71 N22 37 #[.int .i64 10, .int .i64 0, .int .i64 d.rq, .int .i64 0, .bool (scanM (hitsF f d.at_ d.key d.to_) (mnI d.n 32)), .int .u64 d.at_, .int .u64 0, .int .i64 0, .int .i64 0, .int .i64 0, .int .i64 0, .string d.key, .string (⟨#[]⟩), .int .i64 0, .slice none 0 0, .int .u64 0, .int .i64 0, .int .i64 0, .slice none 0 0, .slice none 0 0, .slice none 0 0, u64] := hk72; clear hk72
  have hz77 := hg74.size
  refine pk0 (v := .bool true) h70 rfl fun a78 h78 => ?_; clear h70
  refine pl_nil ?_
  refine co_then ?_
  refine wp_ret ?_
  refine co_blockR ?_
  refine co_thenR ?_
  refine co_retC1 (Q := fun _ _ _ => True) h78 rfl rfl rfl hk72' Try.underlying37 rfl (by kernel_rfl) ?_
  have hr79 := row_kept_at hq65 hg74 (own_neT hq65 hk76 (by decide))
  have hB80 := hb_call hB50 hb66
  have hB81 := hb_at hB80 hg74 (by omega)
  have hfl := fl_9 (f := f) (d := d) (by omega)
  exact ⟨_, by rw [← hfl], (row_eq (row_lows hr79 (by omega)) (ps_9 (by omega))), hB81⟩
 ·
  rw [hc49] at h48
  have hp82 : d.k = 8 := by first | simpa using hc49 | simpa [and_assoc] using hc49
  clear hc49
  refine co_true h48 rfl ?_
  refine co_seq ?_
  refine co_reg ?_
  refine pk0 (v := pt b 0) h48 rfl fun a83 h83 => ?_; clear h48
  refine pk (v := .agg #[.int .u64 mk, .int .u64 hz, .int .i64 ep, .int .i64 hd]) h83 rfl (rn_loadN rfl rfl Try.underlying45 rfl (by kernel_rfl) hk53.all) fun a84 h84 => ?_; clear h83
  refine pk (v := .agg #[.int .i64 d.k, .int .i64 d.ep, .int .i64 d.rq, .int .i64 d.sr, .bool d.fg, .int .u64 d.at_, .int .u64 d.la, .int .i64 d.n, .int .i64 d.m, .int .i64 d.p, .int .i64 d.e, .string d.key, .string d.to_, .int .i64 d.cep, mv, .int .u64 d.cfl, .int .i64 d.bc, .int .i64 d.br, bv, ev, sv, pv]) h84 rfl (rn_loadN rfl rfl Try.underlying37 rfl (by kernel_rfl) hk45.all) fun a85 h85 => ?_; clear h84
  have hO88 := MvO.gr hO41 (below_grown hb38) (fun k e => by cases e)
  refine pw h85 rfl (op_call (args := #[pt b 0, .agg #[.int .u64 mk, .int .u64 hz, .int .i64 ep, .int .i64 hd], .agg #[.int .i64 d.k, .int .i64 d.ep, .int .i64 d.rq, .int .i64 d.sr, .bool d.fg, .int .u64 d.at_, .int .u64 d.la, .int .i64 d.n, .int .i64 d.m, .int .i64 d.p, .int .i64 d.e, .string d.key, .string d.to_, .int .i64 d.cep, mv, .int .u64 d.cfl, .int .i64 d.bc, .int .i64 d.br, bv, ev, sv, pv]]) (R := fun res xw => ∃ u : Value, res = .agg #[.int .i64 10, .int .i64 0, .int .i64 d.rq, .int .i64 0, .bool false, .int .u64 d.at_, .int .u64 0, .int .i64 0, .int .i64 0, .int .i64 0, .int .i64 0, .string d.key, .string (⟨#[]⟩), .int .i64 0, .slice none 0 0, .int .u64 0, .int .i64 0, .int .i64 0, .slice none 0 0, .slice none 0 0, .slice none 0 0, u] ∧ xw.ownsRow w34.heap.size 88 2 u (rdL f d.key d.at_).length ((rdL f d.key d.at_).flatMap pairE) ∧ Below w34.heap.size w34 xw) rfl rfl rfl (by kernel_rfl) (by kernel_rfl) (Try.call16 _ _) (srvGet_any S b f la ce m mk hz ep hd d mv bv ev sv pv w34 hO88 (by omega) (hm.below hB50) (hb.below hB50) (he.below hB50) (ht.below hB50) (hp.below hB50) (by omega)) (by rintro e x ⟨u, rfl, hq90, hb91⟩; exact ⟨_, rfl, ⟨u, rfl, hq90, hb91⟩⟩)) ?_; clear h85
  rintro _ w87 a86 ⟨u89, rfl, hq90, hb91⟩ h86
  have hz92 := hb91.size
  have ho93 := MvO.ofS hO88
  have hl94 := sl_len (row_sl hq90 pairE_len)
  have hk100 := hk24.below hb38
  have hk101 := hk100.below hb91
  refine pwD h86 rfl (op_storeN rfl rfl rfl (all_cons rfl (all_cons rfl (all_cons rfl (all_cons rfl (all_cons rfl (all_cons rfl (all_cons rfl (all_cons rfl (all_cons rfl (all_cons rfl (all_cons rfl (all_cons rfl (all_cons rfl (all_cons rfl (all_cons rfl (all_cons rfl (all_cons rfl (all_cons rfl (all_cons rfl (all_cons rfl (all_cons rfl (all_cons (row_one hq90) all_nil)))))))))))))))))))))) (by kernel_rfl) hk101 rfl) ?_; clear h86
  rintro _ w96 a95 ⟨hk97, hz98, hg99⟩ h95
  have hk97' : Blk w96 N22 37 #[.int .i64 10, .int .i64 0, .int .i64 d.rq, .int .i64 0, .bool false, .int .u64 d.at_, .int .u64 0, .int .i64 0, .int .i64 0, .int .i64 0, .int .i64 0, .string d.key, .string (⟨#[]⟩), .int .i64 0, .slice none 0 0, .int .u64 0, .int .i64 0, .int .i64 0, .slice none 0 0, .slice none 0 0, .slice none 0 0, u89] := hk97; clear hk97
  have hz102 := hg99.size
  refine pk0 (v := .bool true) h95 rfl fun a103 h103 => ?_; clear h95
  refine pl_nil ?_
  refine co_then ?_
  refine wp_ret ?_
  refine co_blockR ?_
  refine co_thenR ?_
  refine co_retC1 (Q := fun _ _ _ => True) h103 rfl rfl rfl hk97' Try.underlying37 rfl (by kernel_rfl) ?_
  have hr104 := row_kept_at hq90 hg99 (own_neT hq90 hk101 (by decide))
  have hB105 := hb_call hB50 hb91
  have hB106 := hb_at hB105 hg99 (by omega)
  have hfl := fl_8 (f := f) (d := d) (by omega)
  exact ⟨_, by rw [← hfl], (row_eq (row_lows hr104 (by omega)) (ps_8 (by omega))), hB106⟩
end Go.Proofs.Ytbjbcbbhmbpndaa

/- catenaref14: the last place, At. Conditions: none. -/
namespace Go.Proofs.Ytbjbcbbhmbpndaa
open Go.RowKit Go.PlainAid

set_option maxRecDepth 100000 in
set_option maxHeartbeats 400000 in
theorem rlast_same (v : Value) (l : List CellT) (t : Int) (w : World) (hs : SliceOf cellE 3 w v l) :
    Calls Try.prog 120 #[v, .int .u64 t] w fun e w' => e = .returned (.int .i64 (lastI l t)) ∧ w = w' := by
  obtain ⟨ao, cap, rfl, hcap, hcm, _, hcell⟩ := hs
  have HC := Lib.hid hcell; clear hcell
  go_enter Try.func120, Try.ntmps120
  go_wp2
  go_loopg [5] (l.length + 1) (fun g s5 wr => ∃ k : Nat, s5 = .int .i64 ((k : Int) - 1) ∧ k ≤ l.length ∧ k + 1 ≤ g ∧ lastI l t = down l t k ∧ w = wr)
  case atStart => exact ⟨l.length, rfl, by omega, by omega, rfl, rfl⟩
  case round =>
    obtain ⟨k, rfl, hk, hg, hd, rfl⟩ := hrel
    have HD := Lib.hid hd; clear hd
    by_cases h0 : 0 < k
    · obtain ⟨i, rfl⟩ : ∃ i, k = i + 1 := ⟨k - 1, by omega⟩
      have hi : i < l.length := by omega
      obtain ⟨b, off, rfl, hr⟩ := HC.out i hi
      have hc := hr 0 _ rfl
      rw [Nat.add_zero] at hc
      have hix : ((i + 1 : Nat) : Int) - 1 = (i : Int) := by omega
      have hx := ts_get hi
      obtain ⟨x, hxe⟩ : ∃ x, x = l[i].1 := ⟨_, rfl⟩
      rw [← hxe] at hc hx
      have HX := Lib.hid hx
      clear hr hx hxe
      by_cases hle : x ≤ t
      · have HF := Lib.hid (show lastI l t = i by rw [HD.out, down, HX.out, if_pos hle])
        clear HD
        go_wp2
        go_ret
        exact ⟨ret_int (by rw [HF.out]; omega), rfl⟩
      · have HF := Lib.hid (show lastI l t = down l t i by rw [HD.out, down, HX.out, if_neg hle])
        clear HD
        go_wp2
        go_roundg (gk - 1)
        case rel => exact ⟨i, rfl, by omega, by omega, HF.out, rfl⟩
        case measure => omega
    · obtain rfl : k = 0 := by omega
      have HF := Lib.hid (show lastI l t = -1 from HD.out)
      have hneg : ((0 : Nat) : Int) - 1 = -1 := by omega
      clear HD
      go_wp2
      go_ret
      exact ⟨by rw [HF.out]; rfl, rfl⟩
theorem rlast_any (v : Value) (l : List CellT) (t : Int) (w : World) (hs : SliceOf cellE 3 w v l) (_hw : ∀ c ∈ l, cellOk c) :
    Calls Try.prog 120 #[v, .int .u64 t] w fun e w' => e = .returned (.int .i64 (lastI l t)) ∧ Below w.heap.size w w' :=
  (rlast_same v l t w hs).mono fun e w' ⟨h, hw⟩ => ⟨h, hw ▸ Below.refl _ _⟩

set_option maxRecDepth 100000 in
set_option maxHeartbeats 400000 in
theorem rat_any (v : Value) (l : List CellT) (t : Int) (w : World) (hs : SliceOf cellE 3 w v l) (hw : ∀ c ∈ l, cellOk c) :
    Calls Try.prog 90 #[v, .int .u64 t] w fun e w' => e = .returned (.tuple #[.string (atS l t).1, .bool (atS l t).2]) ∧ Below w.heap.size w w' := by
  have HS := Lib.hid hs; have HW := Lib.hid hw
  obtain ⟨ao, cap, rfl, hcap, hcm, _, hcell⟩ := hs
  have HC := Lib.hid hcell; clear hcell hw
  have hbd := down_bd l t l.length
  by_cases h0 : lastI l t < 0
  · have HA := Lib.hid (atS_none h0)
    clear hbd
    go_enter Try.func90, Try.ntmps90
    go_wp2_with fail
    refine (rlast_any _ _ _ _ HS.out HW.out).mono ?_
    rintro e w1 ⟨rfl, hb1⟩
    have HB := Lib.hid hb1; clear hb1
    go_wp2
    go_ret2
    exact ⟨by rw [HA.out]; rfl, HB.out⟩
  · obtain ⟨k, hk⟩ := Int.eq_ofNat_of_zero_le (show 0 ≤ lastI l t by omega)
    have hkl : k < l.length := by have : lastI l t < l.length := hbd.2.1; omega
    have ha := atS_some hk
    have hg := cellAt_get hkl
    obtain ⟨b, off, rfl, hr⟩ := HC.out k hkl
    obtain ⟨c, hc⟩ : ∃ c, c = l[k] := ⟨_, rfl⟩
    rw [← hc] at hr hg
    rw [hg] at ha
    have HK := Lib.hid hk; have HR := Lib.hid hr
    clear hbd hk hg hc h0 hr
    cases hdel : c.2.2 with
    | true =>
      rw [hdel, if_pos rfl] at ha
      have HA := Lib.hid ha; have HDel := Lib.hid hdel
      clear ha hdel
      go_enter Try.func90, Try.ntmps90
      go_wp2_with fail
      refine (rlast_any _ _ _ _ HS.out HW.out).mono ?_
      rintro e w1 ⟨rfl, hb1⟩
      rw [HK.out]
      have k2 := cell_below hb1 (HR.out 2 _ rfl)
      rw [HDel.out] at k2
      have HB := Lib.hid hb1; clear hb1
      go_wp2
      go_ret2
      exact ⟨by rw [HA.out]; rfl, HB.out⟩
    | false =>
      rw [hdel, if_neg (by simp)] at ha
      have HA := Lib.hid ha; have HDel := Lib.hid hdel
      clear ha hdel
      go_enter Try.func90, Try.ntmps90
      go_wp2_with fail
      refine (rlast_any _ _ _ _ HS.out HW.out).mono ?_
      rintro e w1 ⟨rfl, hb1⟩
      rw [HK.out]
      have k2 := cell_below hb1 (HR.out 2 _ rfl)
      have k1 := cell_below hb1 (HR.out 1 _ rfl)
      rw [HDel.out] at k2
      have HB := Lib.hid hb1; clear hb1
      go_wp2
      go_ret2
      exact ⟨by rw [HA.out]; rfl, HB.out⟩

end Go.Proofs.Ytbjbcbbhmbpndaa

/- The document's store: Get. Conditions: at most 70000 keys. -/
namespace Go.Proofs.Ytbjbcbbhmbpndaa
open Go.RowKit Go.PlainAid
set_option linter.unusedVariables false
set_option linter.unusedSimpArgs false


def rwE (a : Kv) : List Value := [.string a.1, .slice a.2.a a.2.n a.2.c]
theorem rwE_len (a : Kv) : (rwE a).length = 2 := rfl
theorem rwE_one (a : Kv) : ∀ u ∈ rwE a, u.oneCell' = true := by intro u hu; simp [rwE] at hu; rcases hu with rfl | rfl <;> rfl
/-- A row's versions, where they lie. -/
def RwOk (w : World) (f : Fv) (a : Kv) : Prop := SliceOf cellE 3 w (slV a.2) (f a.1)
theorem off_step {L : List Kv} {i : Nat} {y : Kv} {k : ByteArray} (h : ∀ a ∈ L.take i, a.1 ≠ k) (hy : L[i]? = some y) (hk : (y.1.toList == k.toList) = false) : ∀ a ∈ L.take (i + 1), a.1 ≠ k := by
  rw [takeO_at hy]
  intro a ha
  rcases List.mem_append.1 ha with ha | ha
  · exact h a ha
  · simp only [List.mem_singleton] at ha
    subst ha
    intro e; subst e; simp at hk
theorem toL_eq {a b : ByteArray} (h : (a.toList == b.toList) = true) : a = b := by
  rw [Go.ByteArray.toList_eq, Go.ByteArray.toList_eq] at h
  exact Go.WideShapes.bytes_inj (by simpa using h)
theorem none_of {L : List Kv} {f : Fv} {k : ByteArray} (hK : KOf (L.map (·.1)) f) (h : ∀ a ∈ L, a.1 ≠ k) : f k = [] := by
  by_cases e : f k = []
  · exact e
  · obtain ⟨a, ha, e2⟩ := List.mem_map.1 ((hK.mem k).2 e); exact absurd e2 (h a ha)

set_option maxRecDepth 100000 in
set_option maxHeartbeats 1600000 in
theorem rget_blk (d : Nat) (u : Value) (la : Int) (L : List Kv) (f : Fv) (n : Nat) (k : ByteArray) (t : Int) (w : World) (hB : Blk w d 59 #[u, .int .u64 la]) (hs : SliceOf rwE 2 w u L) (hok : ∀ z ∈ L, (fun a => RwOk w f a) z) (hK : KOf (L.map (·.1)) f) (hF : FOk f la n) (hL : L.length ≤ 70000) (hn : n ≤ 800) :
    Calls Try.prog 55 #[pt d 0, .string k, .int .u64 t] w fun e w' => e = .returned (.tuple #[.string ((atS (f k) t).1), .bool ((atS (f k) t).2)]) ∧ Below w.heap.size w w' := by
 have hB0 := Below.refl w.heap.size w
 have hl_hB := hB.lt
 have hl_hs := sl_len hs
 refine co_enter (n := 40) Try.func55 rfl rfl rfl [(0, pt d 0), (1, .string k), (2, .int .u64 t)] rfl (fun a h0 => ?_)
 refine co_seq ?_
 refine co_reg ?_
 refine pk0 (v := .string (⟨#[]⟩)) h0 rfl fun a1 h1 => ?_; clear h0
 refine pk0 (v := .bool false) h1 rfl fun a2 h2 => ?_; clear h1
 refine pl_nil ?_
 refine co_then ?_
 refine co_seq ?_
 refine co_seq ?_
 refine co_reg ?_
 refine pk0 (v := .int .i64 0) h2 rfl fun a3 h3 => ?_; clear h2
 refine pl_nil ?_
 refine co_then ?_
 refine wp_block ?_
 have hof9 : ∀ a ∈ L.take 0, a.1 ≠ k := fun a ha => by simp at ha
 have h4 : Slots 40 [(0, pt d 0), (1, .string k), (2, .int .u64 t), (8, .int .i64 0)] _ := h3.sub ⟨rfl, rfl, rfl, rfl, trivial⟩; clear h3
 refine co_loop (fun mm a x => ∃ (i : Nat), Slots 40 [(0, pt d 0), (1, .string k), (2, .int .u64 t), (8, .int .i64 ((i : Nat) : Int))] a ∧ mm = L.length - i ∧ (i ≤ L.length) ∧ (∀ a ∈ L.take i, a.1 ≠ k) ∧ Blk x d 59 #[u, .int .u64 la] ∧ Below w.heap.size w x) (L.length - 0) ?_ ?_
 · exact ⟨0, h4.sub ⟨rfl, rfl, rfl, (slot_eq rfl (congrArg (Value.int .i64) (by first | rfl | omega))), trivial⟩, rfl, by omega, by exact hof9, hB, hB0⟩
 · rintro k5 a6 w7 ⟨i, h6, rfl, hi8, hi9, hf10, hB11⟩
   have hz12 := hB11.size
   have hl13 := hf10.lt
   have hofA : ∀ a ∈ L.take i, a.1 ≠ k := by assumption
   refine co_seq ?_
   refine co_seq ?_
   refine co_reg ?_
   refine pk0 (v := .int .i64 ((i : Nat) : Int)) h6 rfl fun a14 h14 => ?_; clear h6
   refine pk0 (v := pt d 0) h14 rfl fun a15 h15 => ?_; clear h14
   refine pk0 (v := pt d 0) h15 rfl fun a16 h16 => ?_; clear h15
   refine pk0 (v := pt d 0) h16 rfl fun a17 h17 => ?_; clear h16
   refine pk (v := u) h17 rfl (rn_load1 rfl rfl Try.isAgg57 (hf10.cell rfl)) fun a18 h18 => ?_; clear h17
   refine pk (v := .int .i64 ((L.length : Nat) : Int)) h18 rfl (rn_len rfl rfl Try.underlying57 (hs.below hB11)) fun a19 h19 => ?_; clear h18
   refine pk0 (v := .bool (decide (((i : Nat) : Int) < ((L.length : Nat) : Int)))) h19 rfl fun a20 h20 => ?_; clear h19
   refine pl_nil ?_
   refine co_then ?_
   cases hc21 : (decide (((i : Nat) : Int) < ((L.length : Nat) : Int)))
   ·
    rw [hc21] at h20
    have hp22 : ¬ (((i : Nat) : Int) < ((L.length : Nat) : Int)) := of_decide_eq_false hc21
    clear hc21
    refine co_false h20 rfl ?_
    refine wp_exit ?_
    refine co_thenX ?_
    refine co_thenX ?_
    refine co_blockX ?_
    refine co_then ?_
    refine co_seq ?_
    refine co_reg ?_
    refine pk0 (v := .string (⟨#[]⟩)) h20 rfl fun a23 h23 => ?_; clear h20
    refine pk0 (v := .bool false) h23 rfl fun a24 h24 => ?_; clear h23
    refine pl_nil ?_
    refine co_then ?_
    refine wp_ret ?_
    refine co_ret2 h24 rfl rfl rfl ?_
    have hk9 : L.take i = L := List.take_of_length_le (by omega)
    rw [hk9] at hofA
    have he9 := none_of hK hofA
    exact ⟨by rw [he9]; rfl, hB11⟩
   ·
    rw [hc21] at h20
    have hp25 : ((i : Nat) : Int) < ((L.length : Nat) : Int) := of_decide_eq_true hc21
    clear hc21
    refine co_true h20 rfl ?_
    refine wp_skip ?_
    refine co_then ?_
    refine co_seq ?_
    refine wp_block ?_
    refine co_seq ?_
    refine co_reg ?_
    refine pk0 (v := pt d 0) h20 rfl fun a26 h26 => ?_; clear h20
    refine pk0 (v := pt d 0) h26 rfl fun a27 h27 => ?_; clear h26
    refine pk0 (v := pt d 0) h27 rfl fun a28 h28 => ?_; clear h27
    refine pk (v := u) h28 rfl (rn_load1 rfl rfl Try.isAgg57 (hf10.cell rfl)) fun a29 h29 => ?_; clear h28
    refine pk0 (v := .int .i64 ((i : Nat) : Int)) h29 rfl fun a30 h30 => ?_; clear h29
    obtain ⟨y31, hy31⟩ : ∃ z, L[i]? = some z := ⟨_, List.getElem?_eq_getElem (by first | omega | (simp; done) | (simp; omega))⟩
    have oky31 := hok _ (List.mem_of_getElem? hy31)
    refine pk (v := pt (blkOf u) (offOf u + i * 2)) h30 rfl (rn_index rfl rfl rfl Try.underlying57 Try.sizeOf174 (hs.below hB11) (by omega) (by first | omega | (simp; done) | (simp; omega))) fun a32 h32 => ?_; clear h30
    refine pk0 (v := pt (blkOf u) (offOf u + i * 2)) h32 rfl fun a33 h33 => ?_; clear h32
    refine pk (v := .string y31.1) h33 rfl (rn_load1 rfl rfl Try.isAgg9 ((sl_at (hs.below hB11) hy31) 0 _ rfl)) fun a34 h34 => ?_; clear h33
    refine pk0 (v := .string k) h34 rfl fun a35 h35 => ?_; clear h34
    refine pk0 (v := .bool (y31.1.toList == k.toList)) h35 rfl fun a36 h36 => ?_; clear h35
    refine pl_nil ?_
    refine co_then ?_
    cases hc37 : (y31.1.toList == k.toList)
    ·
     rw [hc37] at h36
     refine co_false h36 rfl ?_
     refine wp_skip ?_
     refine co_blockN ?_
     refine co_then ?_
     refine co_reg ?_
     refine pk0 (v := .int .i64 ((i : Nat) : Int)) h36 rfl fun a38 h38 => ?_; clear h36
     refine pk (v := .int .i64 ((i + 1 : Nat) : Int)) h38 rfl (rn_arith' rfl rfl rfl rfl rfl rfl (IntWalk.i64_in _ (by omega)) (by omega)) fun a39 h39 => ?_; clear h38
     refine pk0 (v := .int .i64 ((i + 1 : Nat) : Int)) h39 rfl fun a40 h40 => ?_; clear h39
     refine pl_nil ?_
     refine co_then ?_
     refine ⟨(L.length - (i + 1)), by omega, ?_⟩
     have hof9 := off_step hofA hy31 (by assumption)
     exact ⟨i + 1, h40.sub ⟨rfl, rfl, rfl, rfl, trivial⟩, rfl, by omega, by exact hof9, hf10, hB11⟩
    ·
     rw [hc37] at h36
     refine co_true h36 rfl ?_
     refine co_seq ?_
     refine co_reg ?_
     refine pk0 (v := pt d 0) h36 rfl fun a41 h41 => ?_; clear h36
     refine pk0 (v := pt d 0) h41 rfl fun a42 h42 => ?_; clear h41
     refine pk0 (v := pt d 0) h42 rfl fun a43 h43 => ?_; clear h42
     refine pk (v := u) h43 rfl (rn_load1 rfl rfl Try.isAgg57 (hf10.cell rfl)) fun a44 h44 => ?_; clear h43
     refine pk0 (v := .int .i64 ((i : Nat) : Int)) h44 rfl fun a45 h45 => ?_; clear h44
     refine pk (v := pt (blkOf u) (offOf u + i * 2)) h45 rfl (rn_index rfl rfl rfl Try.underlying57 Try.sizeOf174 (hs.below hB11) (by omega) (by first | omega | (simp; done) | (simp; omega))) fun a46 h46 => ?_; clear h45
     refine pk0 (v := pt (blkOf u) (offOf u + i * 2 + 1)) h46 rfl fun a47 h47 => ?_; clear h46
     refine pk (v := .slice y31.2.a y31.2.n y31.2.c) h47 rfl (rn_load1 rfl rfl Try.isAgg121 ((sl_at (hs.below hB11) hy31) 1 _ rfl)) fun a48 h48 => ?_; clear h47
     refine pk0 (v := .int .u64 t) h48 rfl fun a49 h49 => ?_; clear h48
     refine pw h49 rfl (op_call (args := #[.slice y31.2.a y31.2.n y31.2.c, .int .u64 t]) (R := fun res xw => res = .tuple #[.string (atS (f k) t).1, .bool (atS (f k) t).2] ∧ Below w7.heap.size w7 xw) rfl rfl rfl (by kernel_rfl) (by kernel_rfl) (Try.call90 _ _) (rat_any (.slice y31.2.a y31.2.n y31.2.c) (f y31.1) t w7 (SliceOf.below (show SliceOf cellE 3 _ (.slice y31.2.a y31.2.n y31.2.c) _ from oky31) hB11) (hF.ok _)) (by rintro e x ⟨rfl, h⟩; rw [toL_eq (by assumption : (y31.1.toList == k.toList) = true)]; exact ⟨_, rfl, rfl, h⟩)) ?_; clear h49
     rintro _ w51 a50 ⟨rfl, hb52⟩ h50
     have hz53 := hb52.size
     refine pk0 (v := .string ((atS (f k) t).1)) h50 rfl fun a54 h54 => ?_; clear h50
     refine pk0 (v := .bool ((atS (f k) t).2)) h54 rfl fun a55 h55 => ?_; clear h54
     refine pk0 (v := .string ((atS (f k) t).1)) h55 rfl fun a56 h56 => ?_; clear h55
     refine pk0 (v := .bool ((atS (f k) t).2)) h56 rfl fun a57 h57 => ?_; clear h56
     refine pl_nil ?_
     refine co_then ?_
     refine wp_ret ?_
     refine co_blockR ?_
     refine co_thenR ?_
     refine co_thenR ?_
     refine co_blockR ?_
     refine co_thenR ?_
     refine co_ret2 h57 rfl rfl rfl ?_
     have hB58 := hb_call hB11 hb52
     exact ⟨rfl, hB58⟩
end Go.Proofs.Ytbjbcbbhmbpndaa

/- Keys: the least text above a text, of at most b bytes, and that nothing lies between. Plain lists. Conditions: none. -/
namespace Go.Proofs.Ytbjbcbbhmbpndaa

/-- x ≤ y, as a Bool: what Go's own comparison gives. -/
def le (x y : List UInt8) : Bool := Op.bytesLess x y || x == y
end Go.Proofs.Ytbjbcbbhmbpndaa

/- Package keys: what Next, Check, In answer for every text. Conditions: texts within the form's own reach. -/
namespace Go.Proofs.Ytbjbcbbhmbpndaa
open Go.RowKit Go.PlainAid

/-- What In answers. -/
def inL (k a b : List UInt8) : Bool := !(Op.bytesLess k a) && (b == [] || Op.bytesLess k b)

end Go.Proofs.Ytbjbcbbhmbpndaa

/- A block of bytes of the call's own, and its text. Conditions: none. -/
namespace Go.Proofs.Ytbjbcbbhmbpndaa
open Go.RowKit

/-- Block b begins with the bytes f 0 .. f (n - 1); they may be written. -/
def Bytes (w : World) (b n : Nat) (f : Nat → UInt8) : Prop := ∀ j, j < n → w.cell? ⟨b, j, none⟩ = some (.int .u8 (f j).toNat) ∧ w.frozen? ⟨b, j, none⟩ = false
theorem Bytes.set {w : World} {b n : Nat} {f : Nat → UInt8} (h : Bytes w b n f) {i : Nat} (hi : i < n) (y : UInt8) : Bytes (w.setCell ⟨b, i, none⟩ (.int .u8 y.toNat)) b n (fun j => if j = i then y else f j) := by
  intro j hj
  refine ⟨?_, by rw [World.frozen?_setCell]; exact (h j hj).2⟩
  by_cases e : j = i
  · subst e
    rw [World.cell?_setCell_same _ _ _ (h j hi).1]
    show _ = some (Value.int .u8 ((if j = j then y else f j : UInt8).toNat : Nat))
    rw [if_pos rfl]
  · rw [World.cell?_setCell_other _ _ _ _ (by first | (simp; done) | (simp; omega))]
    show _ = some (Value.int .u8 ((if j = i then y else f j : UInt8).toNat : Nat))
    rw [if_neg e]; exact (h j hj).1
theorem Bytes.congr {w : World} {b n : Nat} {f g : Nat → UInt8} (h : Bytes w b n f) (hg : ∀ j, j < n → f j = g j) : Bytes w b n g := fun j hj => by rw [← hg j hj]; exact h j hj
theorem Bytes.below {w w' : World} {b n : Nat} {f : Nat → UInt8} (h : Bytes w b n f) (hb : Below w.heap.size w w') : Bytes w' b n f := fun j hj =>
  ⟨cell_below hb (h j hj).1, by rw [hb.frozen (World.block_lt_of_cell? w _ (h j hj).1)]; exact (h j hj).2⟩
theorem strOfNums_bytes (l : List UInt8) : strOfNums (l.map fun b => ((b.toNat : Nat) : Int)) = ⟨l.toArray⟩ := by
  apply ByteArray.ext
  apply Array.toList_inj.1
  rw [strOfNums_data, List.map_map]
  show _ = l
  have : ((fun n : Int => UInt8.ofNat n.toNat) ∘ fun b : UInt8 => ((b.toNat : Nat) : Int)) = id := by
    funext b
    simp
  rw [this, List.map_id]
/-- The text of such a block. -/
theorem Bytes.text {w : World} {b n cap : Nat} {f : Nat → UInt8} (h : Bytes w b n f) {P : Program} {src dst e : TypeId} (hs : P.underlying src = some (.slice e)) (he : P.underlying e = some (.int .u8)) (hd : P.underlying dst = some .string) :
    (convert src dst (.slice (some ⟨b, 0, none⟩) n cap)).run P w = .ok (.string ⟨((List.range n).map f).toArray⟩) w := by
  rw [← strOfNums_bytes]
  refine run_convert_bytes_arg w src e hs he b 0 n cap _ (by simp) (fun i hi => ?_) dst hd
  rw [Nat.zero_add, (h i hi).1]
  simp [List.getD, hi]
end Go.Proofs.Ytbjbcbbhmbpndaa

/- catenaref05: Next, Check, In; keys.In. Conditions: texts within the form's reach. -/
namespace Go.Proofs.Ytbjbcbbhmbpndaa
open Go.RowKit Go.PlainAid Go.Deep

set_option maxRecDepth 100000 in
set_option maxHeartbeats 800000 in
theorem rin_any (k a b : ByteArray) (w : World) :
    Calls Try.prog 37 #[.string k, .string a, .string b] w fun e w' => e = .returned (.bool (inL k.data.toList a.data.toList b.data.toList)) ∧ w = w' := by
  have t1 := Go.ByteArray.toList_eq k
  have t2 := Go.ByteArray.toList_eq a
  have t3 := Go.ByteArray.toList_eq b
  unfold inL
  cases h1 : Op.bytesLess k.data.toList a.data.toList with
  | true =>
    have h1' : Op.bytesLess k.toList a.toList = true := by rw [t1, t2]; exact h1
    clear t1 t2 t3
    go_enter Try.func37, Try.ntmps37
    go_wp2
    go_ret
    exact ⟨rfl, rfl⟩
  | false =>
    have h1' : Op.bytesLess k.toList a.toList = false := by rw [t1, t2]; exact h1
    cases h2 : (b.data.toList == []) with
    | true =>
      have hb : b = ⟨#[]⟩ := by apply ByteArray.ext; apply Array.toList_inj.1; simpa using h2
      subst hb
      clear t1 t2 t3 h2
      go_enter Try.func37, Try.ntmps37
      go_wp2
      go_ret
      exact ⟨rfl, rfl⟩
    | false =>
      have h2' : (b.toList == []) = false := by rw [t3]; exact h2
      cases h3 : Op.bytesLess k.data.toList b.data.toList with
      | true =>
        have h3' : Op.bytesLess k.toList b.toList = true := by rw [t1, t3]; exact h3
        clear t1 t2 t3
        go_enter Try.func37, Try.ntmps37
        go_wp2
        go_ret
        exact ⟨rfl, rfl⟩
      | false =>
        have h3' : Op.bytesLess k.toList b.toList = false := by rw [t1, t3]; exact h3
        clear t1 t2 t3
        go_enter Try.func37, Try.ntmps37
        go_wp2
        go_ret
        exact ⟨rfl, rfl⟩
end Go.Proofs.Ytbjbcbbhmbpndaa

/- The document's store: Scan, Cells. Conditions: at most 70000 keys. -/
namespace Go.Proofs.Ytbjbcbbhmbpndaa
open Go.RowKit Go.PlainAid
set_option linter.unusedVariables false
set_option linter.unusedSimpArgs false


def hitsL (f : Fv) (t : Int) (F T : ByteArray) (M : List Kv) : List PairT := hits f t ((M.map (·.1)).filter (inR F T))
section
variable {f : Fv} {t most : Int} {F T : ByteArray} {L : List Kv} {i : Nat} {y : Kv}
theorem hitsL_app (A B : List Kv) : hitsL f t F T (A ++ B) = hitsL f t F T A ++ hitsL f t F T B := by
  unfold hitsL hits; rw [List.map_append, List.filter_append, List.filter_append, List.map_append]
theorem hitsL_one (h : (atS (f y.1) t).2 = true) (hi : inR F T y.1 = true) : hitsL f t F T [y] = [(y.1, (atS (f y.1) t).1)] := by
  unfold hitsL hits; simp [List.filter_cons, hi, h]
theorem hitsL_none (h : (atS (f y.1) t).2 = false ∨ inR F T y.1 = false) : hitsL f t F T [y] = [] := by
  unfold hitsL hits
  rcases h with h | h
  · cases hi : inR F T y.1 <;> simp [List.filter_cons, hi, h]
  · simp [List.filter_cons, h]
theorem hitsL_yes (hy : L[i]? = some y) (h : (atS (f y.1) t).2 = true) (hi : inR F T y.1 = true) : hitsL f t F T (L.take i) ++ [(y.1, (atS (f y.1) t).1)] = hitsL f t F T (L.take (i + 1)) := by rw [takeO_at hy, hitsL_app, hitsL_one h hi]
theorem hitsL_no (hy : L[i]? = some y) (h : (atS (f y.1) t).2 = false ∨ inR F T y.1 = false) : hitsL f t F T (L.take i) = hitsL f t F T (L.take (i + 1)) := by rw [takeO_at hy, hitsL_app, hitsL_none h, List.append_nil]
theorem hitsL_le : (hitsL f t F T (L.take i)).length ≤ i := by
  unfold hitsL hits; rw [List.length_map]
  exact Nat.le_trans (List.length_filter_le _ _) (Nat.le_trans (List.length_filter_le _ _) (by rw [List.length_map, List.length_take]; omega))
theorem scanL_all {H : List PairT} (h : H = [] ∨ (H.length : Int) ≤ most) : H = scanL H most ∧ scanM H most = false := scan_all h
theorem scanL_cut (hy : L[i]? = some y) (h : (atS (f y.1) t).2 = true) (hi : inR F T y.1 = true) (hl : ¬ ((hitsL f t F T (L.take i)).length : Int) < most) (hm : hitsL f t F T (L.take i) = [] ∨ ((hitsL f t F T (L.take i)).length : Int) ≤ most) : hitsL f t F T (L.take i) = scanL (hitsL f t F T L) most ∧ scanM (hitsL f t F T L) most = true := by
  have e : hitsL f t F T L = hitsL f t F T (L.take i) ++ (y.1, (atS (f y.1) t).1) :: hitsL f t F T (L.drop (i + 1)) := by
    have e2 : hitsL f t F T L = hitsL f t F T (L.take (i + 1)) ++ hitsL f t F T (L.drop (i + 1)) := by rw [← hitsL_app, List.take_append_drop]
    rw [e2, ← hitsL_yes hy h hi]; simp
  have hn : most.toNat = (hitsL f t F T (L.take i)).length := by
    rcases hm with hm | hm
    · rw [hm] at hl ⊢; simp at hl ⊢; omega
    · omega
  unfold scanL scanM
  rw [hn, e]
  exact ⟨by simp, decide_eq_true (by simp)⟩
end
theorem klt_dataW {a b : ByteArray} : klt a b = Op.bytesLess a.data.toList b.data.toList := by unfold klt; rw [Go.ByteArray.toList_eq, Go.ByteArray.toList_eq]
theorem inR_data (F T k : ByteArray) : inL k.data.toList F.data.toList T.data.toList = inR F T k := by
  unfold inL inR hit
  rw [klt_dataW, Go.ByteArray.toList_eq, Go.ByteArray.toList_eq]
  cases T.data.toList with
  | nil => simp
  | cons a r => simp
set_option maxRecDepth 100000 in
set_option maxHeartbeats 3200000 in
theorem rscan_blk (d : Nat) (u : Value) (la : Int) (L : List Kv) (f : Fv) (n : Nat) (F : ByteArray) (T : ByteArray) (t : Int) (most : Int) (w : World) (hB : Blk w d 59 #[u, .int .u64 la]) (hs : SliceOf rwE 2 w u L) (hok : ∀ z ∈ L, (fun a => RwOk w f a) z) (hK : KOf (L.map (·.1)) f) (hF : FOk f la n) (hL : L.length ≤ 70000) (hn : n ≤ 800) (hmost : -9223372036854775808 ≤ most ∧ most ≤ 9223372036854775807) :
    Calls Try.prog 58 #[pt d 0, .string F, .string T, .int .u64 t, .int .i64 most] w fun e w' => ∃ (v : Value), e = .returned (.tuple #[v, .bool (scanM (hitsL f t F T L) most)]) ∧ w'.ownsRow w.heap.size 88 2 v (scanL (hitsL f t F T L) most).length ((scanL (hitsL f t F T L) most).flatMap pairE) ∧ Below w.heap.size w w' := by
 have hB0 := Below.refl w.heap.size w
 have hl_hB := hB.lt
 have hl_hs := sl_len hs
 refine co_enter (n := 74) Try.func58 rfl rfl rfl [(0, pt d 0), (1, .string F), (2, .string T), (3, .int .u64 t), (4, .int .i64 most)] rfl (fun a h0 => ?_)
 refine co_seq ?_
 refine co_reg ?_
 refine pk0 (v := .slice none 0 0) h0 rfl fun a1 h1 => ?_; clear h0
 refine pk0 (v := .bool false) h1 rfl fun a2 h2 => ?_; clear h1
 refine pl_nil ?_
 refine co_then ?_
 refine co_seq ?_
 refine co_reg ?_
 refine pk0 (v := .slice none 0 0) h2 rfl fun a3 h3 => ?_; clear h2
 refine pl_nil ?_
 refine co_then ?_
 refine co_seq ?_
 refine co_seq ?_
 refine co_reg ?_
 refine pk0 (v := .int .i64 0) h3 rfl fun a4 h4 => ?_; clear h3
 refine pl_nil ?_
 refine co_then ?_
 refine wp_block ?_
 have h5 : Slots 74 [(0, pt d 0), (1, .string F), (2, .string T), (3, .int .u64 t), (4, .int .i64 most), (10, .slice none 0 0), (11, .bool false), (12, .slice none 0 0), (13, .int .i64 0)] _ := h4.sub ⟨rfl, rfl, rfl, rfl, rfl, rfl, rfl, rfl, rfl, trivial⟩; clear h4
 refine co_loop (fun mm a x => ∃ (i : Nat) (v : Value), Slots 74 [(0, pt d 0), (1, .string F), (2, .string T), (3, .int .u64 t), (4, .int .i64 most), (10, .slice none 0 0), (11, .bool false), (12, v), (13, .int .i64 ((i : Nat) : Int))] a ∧ mm = L.length - i ∧ (i ≤ L.length) ∧ ((hitsL f t F T (L.take i)) = [] ∨ ((hitsL f t F T (L.take i)).length : Int) ≤ most) ∧ Blk x d 59 #[u, .int .u64 la] ∧ x.ownsRow w.heap.size 88 2 v (hitsL f t F T (L.take i)).length ((hitsL f t F T (L.take i)).flatMap pairE) ∧ Below w.heap.size w x) (L.length - 0) ?_ ?_
 · exact ⟨0, (.slice none 0 0), h5.sub ⟨rfl, rfl, rfl, rfl, rfl, rfl, rfl, rfl, (slot_eq rfl (congrArg (Value.int .i64) (by first | rfl | omega))), trivial⟩, rfl, by omega, by first | exact .inl rfl | (rw [← hitsL_yes (by assumption) (by assumption) (by assumption)]; right; rw [List.length_append, List.length_singleton]; omega) | (rw [← hitsL_no (by assumption) (.inl (by assumption))]; assumption) | (rw [← hitsL_no (by assumption) (.inr (by assumption))]; assumption), hB, (row_nilL _ _ _ _ _), hB0⟩
 · rintro k6 a7 w8 ⟨i, v, h7, rfl, hi9, hi10, hf11, hf12, hB13⟩
   have hz14 := hB13.size
   have hl15 := hf11.lt
   have hhl := hitsL_le (f := f) (t := t) (F := F) (T := T) (L := L) (i := i)
   refine co_seq ?_
   refine co_seq ?_
   refine co_reg ?_
   refine pk0 (v := .int .i64 ((i : Nat) : Int)) h7 rfl fun a16 h16 => ?_; clear h7
   refine pk0 (v := pt d 0) h16 rfl fun a17 h17 => ?_; clear h16
   refine pk0 (v := pt d 0) h17 rfl fun a18 h18 => ?_; clear h17
   refine pk0 (v := pt d 0) h18 rfl fun a19 h19 => ?_; clear h18
   refine pk (v := u) h19 rfl (rn_load1 rfl rfl Try.isAgg57 (hf11.cell rfl)) fun a20 h20 => ?_; clear h19
   refine pk (v := .int .i64 ((L.length : Nat) : Int)) h20 rfl (rn_len rfl rfl Try.underlying57 (hs.below hB13)) fun a21 h21 => ?_; clear h20
   refine pk0 (v := .bool (decide (((i : Nat) : Int) < ((L.length : Nat) : Int)))) h21 rfl fun a22 h22 => ?_; clear h21
   refine pl_nil ?_
   refine co_then ?_
   cases hc23 : (decide (((i : Nat) : Int) < ((L.length : Nat) : Int)))
   ·
    rw [hc23] at h22
    have hp24 : ¬ (((i : Nat) : Int) < ((L.length : Nat) : Int)) := of_decide_eq_false hc23
    clear hc23
    refine co_false h22 rfl ?_
    refine wp_exit ?_
    refine co_thenX ?_
    refine co_thenX ?_
    refine co_blockX ?_
    refine co_then ?_
    refine co_seq ?_
    refine co_reg ?_
    refine pk0 (v := v) h22 rfl fun a25 h25 => ?_; clear h22
    refine pk0 (v := v) h25 rfl fun a26 h26 => ?_; clear h25
    refine pk0 (v := .bool false) h26 rfl fun a27 h27 => ?_; clear h26
    refine pl_nil ?_
    refine co_then ?_
    refine wp_ret ?_
    refine co_ret2 h27 rfl rfl rfl ?_
    have hk9 : L.take i = L := List.take_of_length_le (by omega); have hq := scanL_all (most := most) (H := (hitsL f t F T (L.take i))) (by assumption); rw [hk9] at hq
    exact ⟨_, by rw [hq.2], row_eq hf12 (by rw [hk9]; exact hq.1), hB13⟩
   ·
    rw [hc23] at h22
    have hp28 : ((i : Nat) : Int) < ((L.length : Nat) : Int) := of_decide_eq_true hc23
    clear hc23
    refine co_true h22 rfl ?_
    refine wp_skip ?_
    refine co_then ?_
    refine co_seq ?_
    refine wp_block ?_
    refine co_seq ?_
    refine co_reg ?_
    refine pk0 (v := pt d 0) h22 rfl fun a29 h29 => ?_; clear h22
    refine pk0 (v := pt d 0) h29 rfl fun a30 h30 => ?_; clear h29
    refine pk0 (v := pt d 0) h30 rfl fun a31 h31 => ?_; clear h30
    refine pk (v := u) h31 rfl (rn_load1 rfl rfl Try.isAgg57 (hf11.cell rfl)) fun a32 h32 => ?_; clear h31
    refine pk0 (v := .int .i64 ((i : Nat) : Int)) h32 rfl fun a33 h33 => ?_; clear h32
    obtain ⟨y34, hy34⟩ : ∃ z, L[i]? = some z := ⟨_, List.getElem?_eq_getElem (by first | omega | (simp; done) | (simp; omega))⟩
    have oky34 := hok _ (List.mem_of_getElem? hy34)
    refine pk (v := pt (blkOf u) (offOf u + i * 2)) h33 rfl (rn_index rfl rfl rfl Try.underlying57 Try.sizeOf174 (hs.below hB13) (by omega) (by first | omega | (simp; done) | (simp; omega))) fun a35 h35 => ?_; clear h33
    refine pk0 (v := pt (blkOf u) (offOf u + i * 2 + 1)) h35 rfl fun a36 h36 => ?_; clear h35
    refine pk (v := .slice y34.2.a y34.2.n y34.2.c) h36 rfl (rn_load1 rfl rfl Try.isAgg121 ((sl_at (hs.below hB13) hy34) 1 _ rfl)) fun a37 h37 => ?_; clear h36
    refine pk0 (v := .int .u64 t) h37 rfl fun a38 h38 => ?_; clear h37
    refine pw h38 rfl (op_call (args := #[.slice y34.2.a y34.2.n y34.2.c, .int .u64 t]) (R := fun res xw => res = .tuple #[.string (atS (f y34.1) t).1, .bool (atS (f y34.1) t).2] ∧ Below w8.heap.size w8 xw) rfl rfl rfl (by kernel_rfl) (by kernel_rfl) (Try.call90 _ _) (rat_any (.slice y34.2.a y34.2.n y34.2.c) (f y34.1) t w8 (SliceOf.below (show SliceOf cellE 3 _ (.slice y34.2.a y34.2.n y34.2.c) _ from oky34) hB13) (hF.ok _)) (by rintro e x ⟨rfl, h⟩; exact ⟨_, rfl, rfl, h⟩)) ?_; clear h38
    rintro _ w40 a39 ⟨rfl, hb41⟩ h39
    have hz42 := hb41.size
    refine pk0 (v := .tuple #[.string ((atS (f y34.1) t).1), .bool ((atS (f y34.1) t).2)]) h39 rfl fun a43 h43 => ?_; clear h39
    refine pk0 (v := .string ((atS (f y34.1) t).1)) h43 rfl fun a44 h44 => ?_; clear h43
    refine pk0 (v := .bool ((atS (f y34.1) t).2)) h44 rfl fun a45 h45 => ?_; clear h44
    refine pk0 (v := .string ((atS (f y34.1) t).1)) h45 rfl fun a46 h46 => ?_; clear h45
    refine pk0 (v := .bool ((atS (f y34.1) t).2)) h46 rfl fun a47 h47 => ?_; clear h46
    refine pl_nil ?_
    refine co_then ?_
    refine co_seq ?_
    refine co_seq ?_
    refine co_reg ?_
    refine pk0 (v := .bool ((atS (f y34.1) t).2)) h47 rfl fun a48 h48 => ?_; clear h47
    have hB50 := hb_call hB13 hb41
    cases hc49 : ((atS (f y34.1) t).2)
    ·
     rw [hc49] at h48
     refine pk0 (v := .bool true) h48 rfl fun a51 h51 => ?_; clear h48
     refine pk0 (v := .bool true) h51 rfl fun a52 h52 => ?_; clear h51
     refine psk h52 rfl fun a53 h53 => ?_; clear h52
     refine psk h53 rfl fun a54 h54 => ?_; clear h53
     refine psk h54 rfl fun a55 h55 => ?_; clear h54
     refine psk h55 rfl fun a56 h56 => ?_; clear h55
     refine psk h56 rfl fun a57 h57 => ?_; clear h56
     refine psk h57 rfl fun a58 h58 => ?_; clear h57
     refine psk h58 rfl fun a59 h59 => ?_; clear h58
     refine psk h59 rfl fun a60 h60 => ?_; clear h59
     refine psk h60 rfl fun a61 h61 => ?_; clear h60
     refine psk h61 rfl fun a62 h62 => ?_; clear h61
     refine psk h62 rfl fun a63 h63 => ?_; clear h62
     refine psk h63 rfl fun a64 h64 => ?_; clear h63
     refine pk0 (v := .bool true) h64 rfl fun a65 h65 => ?_; clear h64
     refine pl_nil ?_
     refine co_then ?_
     refine co_true h65 rfl ?_
     refine wp_exit ?_
     refine co_thenX ?_
     refine co_blockX ?_
     refine co_then ?_
     refine co_reg ?_
     refine pk0 (v := .int .i64 ((i : Nat) : Int)) h65 rfl fun a66 h66 => ?_; clear h65
     refine pk (v := .int .i64 ((i + 1 : Nat) : Int)) h66 rfl (rn_arith' rfl rfl rfl rfl rfl rfl (IntWalk.i64_in _ (by omega)) (by omega)) fun a67 h67 => ?_; clear h66
     refine pk0 (v := .int .i64 ((i + 1 : Nat) : Int)) h67 rfl fun a68 h68 => ?_; clear h67
     refine pl_nil ?_
     refine co_then ?_
     refine ⟨(L.length - (i + 1)), by omega, ?_⟩
     have hk69 := hf11.below hb41
     have hr70 := row_kept_new hf12 (below_grown hb41)
     exact ⟨i + 1, v, h68.sub ⟨rfl, rfl, rfl, rfl, rfl, rfl, rfl, rfl, rfl, trivial⟩, rfl, by omega, by first | exact .inl rfl | (rw [← hitsL_yes (by assumption) (by assumption) (by assumption)]; right; rw [List.length_append, List.length_singleton]; omega) | (rw [← hitsL_no (by assumption) (.inl (by assumption))]; assumption) | (rw [← hitsL_no (by assumption) (.inr (by assumption))]; assumption), hk69, (row_eq hr70 (by first | rfl | exact hitsL_yes (by assumption) (by assumption) (by assumption) | exact hitsL_no (by assumption) (.inl (by assumption)) | exact hitsL_no (by assumption) (.inr (by assumption)) | exact hitsL_no (by assumption) (.inl (by simpa using (by assumption))))), hB50⟩
    ·
     rw [hc49] at h48
     refine pk0 (v := .bool false) h48 rfl fun a71 h71 => ?_; clear h48
     refine pk0 (v := .bool false) h71 rfl fun a72 h72 => ?_; clear h71
     refine pk0 (v := pt d 0) h72 rfl fun a73 h73 => ?_; clear h72
     refine pk0 (v := pt d 0) h73 rfl fun a74 h74 => ?_; clear h73
     refine pk0 (v := pt d 0) h74 rfl fun a75 h75 => ?_; clear h74
     have hk76 := hf11.below hb41
     refine pk (v := u) h75 rfl (rn_load1 rfl rfl Try.isAgg57 (hk76.cell rfl)) fun a77 h77 => ?_; clear h75
     refine pk0 (v := .int .i64 ((i : Nat) : Int)) h77 rfl fun a78 h78 => ?_; clear h77
     refine pk (v := pt (blkOf u) (offOf u + i * 2)) h78 rfl (rn_index rfl rfl rfl Try.underlying57 Try.sizeOf174 (hs.below hB50) (by omega) (by first | omega | (simp; done) | (simp; omega))) fun a79 h79 => ?_; clear h78
     refine pk0 (v := pt (blkOf u) (offOf u + i * 2)) h79 rfl fun a80 h80 => ?_; clear h79
     refine pk (v := .string y34.1) h80 rfl (rn_load1 rfl rfl Try.isAgg9 ((sl_at (hs.below hB50) hy34) 0 _ rfl)) fun a81 h81 => ?_; clear h80
     refine pk0 (v := .string F) h81 rfl fun a82 h82 => ?_; clear h81
     refine pk0 (v := .string T) h82 rfl fun a83 h83 => ?_; clear h82
     refine pw h83 rfl (op_call (args := #[.string y34.1, .string F, .string T]) (R := fun res xw => res = .bool (inR F T y34.1) ∧ w40 = xw) rfl rfl rfl (by kernel_rfl) (by kernel_rfl) (Try.call37 _ _) (rin_any y34.1 F T w40) (by rintro e x ⟨rfl, rfl⟩; exact ⟨_, rfl, by rw [inR_data], rfl⟩)) ?_; clear h83
     rintro _ _ a84 ⟨rfl, rfl⟩ h84
     cases hc86 : ((inR F T y34.1))
     ·
      rw [hc86] at h84
      refine pk0 (v := .bool true) h84 rfl fun a87 h87 => ?_; clear h84
      refine pk0 (v := .bool true) h87 rfl fun a88 h88 => ?_; clear h87
      refine pl_nil ?_
      refine co_then ?_
      refine co_true h88 rfl ?_
      refine wp_exit ?_
      refine co_thenX ?_
      refine co_blockX ?_
      refine co_then ?_
      refine co_reg ?_
      refine pk0 (v := .int .i64 ((i : Nat) : Int)) h88 rfl fun a89 h89 => ?_; clear h88
      refine pk (v := .int .i64 ((i + 1 : Nat) : Int)) h89 rfl (rn_arith' rfl rfl rfl rfl rfl rfl (IntWalk.i64_in _ (by omega)) (by omega)) fun a90 h90 => ?_; clear h89
      refine pk0 (v := .int .i64 ((i + 1 : Nat) : Int)) h90 rfl fun a91 h91 => ?_; clear h90
      refine pl_nil ?_
      refine co_then ?_
      refine ⟨(L.length - (i + 1)), by omega, ?_⟩
      have hr92 := row_kept_new hf12 (below_grown hb41)
      exact ⟨i + 1, v, h91.sub ⟨rfl, rfl, rfl, rfl, rfl, rfl, rfl, rfl, rfl, trivial⟩, rfl, by omega, by first | exact .inl rfl | (rw [← hitsL_yes (by assumption) (by assumption) (by assumption)]; right; rw [List.length_append, List.length_singleton]; omega) | (rw [← hitsL_no (by assumption) (.inl (by assumption))]; assumption) | (rw [← hitsL_no (by assumption) (.inr (by assumption))]; assumption), hk76, (row_eq hr92 (by first | rfl | exact hitsL_yes (by assumption) (by assumption) (by assumption) | exact hitsL_no (by assumption) (.inl (by assumption)) | exact hitsL_no (by assumption) (.inr (by assumption)) | exact hitsL_no (by assumption) (.inl (by simpa using (by assumption))))), hB50⟩
     ·
      rw [hc86] at h84
      refine pk0 (v := .bool false) h84 rfl fun a93 h93 => ?_; clear h84
      refine pk0 (v := .bool false) h93 rfl fun a94 h94 => ?_; clear h93
      refine pl_nil ?_
      refine co_then ?_
      refine co_false h94 rfl ?_
      refine wp_skip ?_
      refine co_then ?_
      refine co_seq ?_
      refine co_seq ?_
      refine co_reg ?_
      refine pk0 (v := v) h94 rfl fun a95 h95 => ?_; clear h94
      have hr96 := row_kept_new hf12 (below_grown hb41)
      refine pk (v := .int .i64 (((hitsL f t F T (L.take i)).length : Nat) : Int)) h95 rfl (rn_lenOwn rfl rfl Try.underlying35 hr96) fun a97 h97 => ?_; clear h95
      refine pk0 (v := .int .i64 most) h97 rfl fun a98 h98 => ?_; clear h97
      obtain ⟨kp99, hkp100⟩ : ∃ z : Int, z = (if most < 0 then 0 else most) := ⟨_, rfl⟩
      have hq101 : kp99 ≥ most ∧ kp99 ≥ 0 ∧ (kp99 = most ∨ kp99 = 0) := by rw [hkp100]; split <;> omega
      refine pk (v := .int .i64 kp99) h98 rfl (by rw [hkp100]; kernel_rfl) fun a102 h102 => ?_; clear h98
      refine pk0 (v := .bool (decide ((((hitsL f t F T (L.take i)).length : Nat) : Int) ≥ kp99))) h102 rfl fun a103 h103 => ?_; clear h102
      refine pl_nil ?_
      refine co_then ?_
      cases hc104 : (decide ((((hitsL f t F T (L.take i)).length : Nat) : Int) ≥ kp99))
      ·
       rw [hc104] at h103
       have hp105 : ¬ ((((hitsL f t F T (L.take i)).length : Nat) : Int) ≥ kp99) := of_decide_eq_false hc104
       clear hc104
       refine co_false h103 rfl ?_
       refine wp_skip ?_
       refine co_then ?_
       refine co_reg ?_
       refine pk0 (v := v) h103 rfl fun a106 h106 => ?_; clear h103
       refine pk0 (v := pt d 0) h106 rfl fun a107 h107 => ?_; clear h106
       refine pk0 (v := pt d 0) h107 rfl fun a108 h108 => ?_; clear h107
       refine pk0 (v := pt d 0) h108 rfl fun a109 h109 => ?_; clear h108
       refine pk (v := u) h109 rfl (rn_load1 rfl rfl Try.isAgg57 (hk76.cell rfl)) fun a110 h110 => ?_; clear h109
       refine pk0 (v := .int .i64 ((i : Nat) : Int)) h110 rfl fun a111 h111 => ?_; clear h110
       refine pk (v := pt (blkOf u) (offOf u + i * 2)) h111 rfl (rn_index rfl rfl rfl Try.underlying57 Try.sizeOf174 (hs.below hB50) (by omega) (by first | omega | (simp; done) | (simp; omega))) fun a112 h112 => ?_; clear h111
       refine pk0 (v := pt (blkOf u) (offOf u + i * 2)) h112 rfl fun a113 h113 => ?_; clear h112
       refine pk (v := .string y34.1) h113 rfl (rn_load1 rfl rfl Try.isAgg9 ((sl_at (hs.below hB50) hy34) 0 _ rfl)) fun a114 h114 => ?_; clear h113
       refine pk0 (v := .string ((atS (f y34.1) t).1)) h114 rfl fun a115 h115 => ?_; clear h114
       refine pk0 (v := .agg #[.string y34.1, .string ((atS (f y34.1) t).1)]) h115 rfl fun a116 h116 => ?_; clear h115
       refine pw h116 rfl (op_new (v := fun N => .slice (some ⟨N, 0, none⟩) 1 1) (T := 88) (cs := #[.string y34.1, .string ((atS (f y34.1) t).1)]) (by kernel_rfl) (by kernel_rfl) (by kernel_rfl)) ?_; clear h116
       rintro _ w118 a117 ⟨N119, rfl, hN122, hz123, hk121, hg120⟩ h117
       have ha124 := row_fresh hr96 hN122
       have hz125 := hg120.size
       try dsimp only at h117
       have hr132 := row_kept_new hr96 hg120
       refine pw h117 rfl (op_append rfl w.heap.size 88 (z := .agg #[.string (⟨#[]⟩), .string (⟨#[]⟩)]) (size := 2) (bytes := 32) Try.underlying35 (by kernel_rfl) rfl rfl rfl hr132 rfl hk121 rfl (by kernel_rfl) (by first | omega | (simp only [List.length_nil, List.length_append, List.length_cons, List.length_take, List.length_drop]; omega)) (by first | omega | (simp only [List.length_nil, List.length_append, List.length_cons, List.length_take, List.length_drop]; omega)) (by omega)) ?_; clear h117
       rintro v128 w127 a126 ⟨hr129, hg130⟩ h126
       have hr129' : w127.ownsRow w.heap.size 88 2 v128 (((hitsL f t F T (L.take i)) ++ [(y34.1, (atS (f y34.1) t).1)]).length) (((hitsL f t F T (L.take i)) ++ [(y34.1, (atS (f y34.1) t).1)]).flatMap pairE) := row_push (y := (y34.1, (atS (f y34.1) t).1)) hr129 rfl rfl; clear hr129
       have hz133 := hg130.size
       refine pk0 (v := v128) h126 rfl fun a134 h134 => ?_; clear h126
       refine pl_nil ?_
       refine co_blockN ?_
       refine co_then ?_
       refine co_reg ?_
       refine pk0 (v := .int .i64 ((i : Nat) : Int)) h134 rfl fun a135 h135 => ?_; clear h134
       refine pk (v := .int .i64 ((i + 1 : Nat) : Int)) h135 rfl (rn_arith' rfl rfl rfl rfl rfl rfl (IntWalk.i64_in _ (by omega)) (by omega)) fun a136 h136 => ?_; clear h135
       refine pk0 (v := .int .i64 ((i + 1 : Nat) : Int)) h136 rfl fun a137 h137 => ?_; clear h136
       refine pl_nil ?_
       refine co_then ?_
       refine ⟨(L.length - (i + 1)), by omega, ?_⟩
       have hk138 := hk76.kept hg120 (by simp)
       have hk139 := hk138.kept hg130 (own_neT hr132 hk138 (by decide))
       have hB140 := hb_new hB50 hg120
       have hB141 := hb_row hB140 hr132 (by omega) hg130
       exact ⟨i + 1, v128, h137.sub ⟨rfl, rfl, rfl, rfl, rfl, rfl, rfl, rfl, rfl, trivial⟩, rfl, by omega, by first | exact .inl rfl | (rw [← hitsL_yes (by assumption) (by assumption) (by assumption)]; right; rw [List.length_append, List.length_singleton]; omega) | (rw [← hitsL_no (by assumption) (.inl (by assumption))]; assumption) | (rw [← hitsL_no (by assumption) (.inr (by assumption))]; assumption), hk139, (row_eq hr129' (by first | rfl | exact hitsL_yes (by assumption) (by assumption) (by assumption) | exact hitsL_no (by assumption) (.inl (by assumption)) | exact hitsL_no (by assumption) (.inr (by assumption)) | exact hitsL_no (by assumption) (.inl (by simpa using (by assumption))))), hB141⟩
      ·
       rw [hc104] at h103
       have hp142 : (((hitsL f t F T (L.take i)).length : Nat) : Int) ≥ kp99 := of_decide_eq_true hc104
       clear hc104
       refine co_true h103 rfl ?_
       refine co_seq ?_
       refine co_reg ?_
       refine pk0 (v := v) h103 rfl fun a143 h143 => ?_; clear h103
       refine pk0 (v := v) h143 rfl fun a144 h144 => ?_; clear h143
       refine pk0 (v := .bool true) h144 rfl fun a145 h145 => ?_; clear h144
       refine pl_nil ?_
       refine co_then ?_
       refine wp_ret ?_
       refine co_thenR ?_
       refine co_blockR ?_
       refine co_thenR ?_
       refine co_thenR ?_
       refine co_blockR ?_
       refine co_thenR ?_
       refine co_ret2 h145 rfl rfl rfl ?_
       have hq := scanL_cut (most := most) (by assumption) (by assumption : (atS (f _) t).2 = true) (by assumption) (by omega) (by assumption)
       exact ⟨_, by rw [hq.2], row_eq hr96 hq.1, hB50⟩
end Go.Proofs.Ytbjbcbbhmbpndaa

/- The document's store: Prune. Conditions: at most 70000 keys, 800 versions each. -/
namespace Go.Proofs.Ytbjbcbbhmbpndaa
open Go.RowKit Go.PlainAid
set_option linter.unusedVariables false
set_option linter.unusedSimpArgs false


def RwsK (w : World) (f : Fv) (L : List Kv) : Prop := ∀ a ∈ L, cellRow w (slV a.2) (f a.1)
section
variable {w x : World} {f g : Fv} {L M : List Kv} {h : Int} {i n : Nat} {y : Kv}
theorem RwsK.new (h : RwsK w f L) (hg : w.grownBy x none) : RwsK x f L := fun a ha => row_kept_new (h a ha) hg
theorem RwsK.blk {N : Nat} {T : TypeId} {cs : Array Value} (h : RwsK w f L) (hb : Blk w N T cs) (hT : 127 ≠ T) (hg : w.grownBy x (some N)) : RwsK x f L := fun a ha => row_kept_at (h a ha) hg (own_neT (h a ha) hb hT)
theorem RwsK.row {B sz q : Nat} {T : TypeId} {v : Value} {xs : List Value} (h : RwsK w f L) (hr : w.ownsRow B T sz v q xs) (hT : 127 ≠ T) (hg : w.grownBy x v.ownBlock) : RwsK x f L := fun a ha => row_kept_row (h a ha) hr hg hT
theorem RwsK.nil : RwsK w f [] := fun a ha => by simp at ha
theorem RwsK.ok (h : RwsK w f L) : ∀ a ∈ L, RwOk w f a := fun a ha => cellRow.sl (h a ha)
end

end Go.Proofs.Ytbjbcbbhmbpndaa

/- The document's store: what lay comes to. Conditions: none. -/
namespace Go.Proofs.Ytbjbcbbhmbpndaa
open Go.RowKit Go.PlainAid
set_option linter.unusedVariables false
set_option linter.unusedSimpArgs false


section
variable {w x : World} {f : Fv} {L : List Kv} {i : Nat} {y : Kv} {k : ByteArray} {l : List CellT} {z : SlT}
theorem RwsK.under {N : Nat} (h : RwsK w f L) (hN : N = w.heap.size) : ∀ a ∈ L, ∀ g, (slV a.2).ownBlock = some g → g < N := fun a ha g hg => by have := ((h a ha).lt g hg).2; omega
theorem RwsK.rowU {N sz q : Nat} {T : TypeId} {v : Value} {xs : List Value} (h : RwsK w f L) (hu : ∀ a ∈ L, ∀ g, (slV a.2).ownBlock = some g → g < N) (hr : w.ownsRow N T sz v q xs) (hg : w.grownBy x v.ownBlock) : RwsK x f L := fun a ha => row_kept_ap (h a ha) hr (hu a ha) hg
theorem RwsK.ins (h : RwsK w f L) (hk : f k = []) : RwsK w f (L.take i ++ [(k, (⟨none, 0, 0⟩ : SlT))] ++ L.drop i) := fun a ha => by
  rcases List.mem_append.1 ha with ha | ha
  · rcases List.mem_append.1 ha with ha | ha
    · exact h a (List.mem_of_mem_take ha)
    · simp only [List.mem_singleton] at ha
      subst ha
      show cellRow w (.slice none 0 0) (f k)
      rw [hk]; exact World.ownsRow_nil _ _ _ _
  · exact h a (List.mem_of_mem_drop ha)
theorem RwsK.set (h : RwsK w f L) (hup : Kup (L.map (·.1))) (hy : L[i]? = some y) (hk : y.1 = k) (hm : cellRow w (slV z) l) : RwsK w (upd f k l) (L.set i (y.1, z)) := fun a ha => by
  obtain ⟨hi, e⟩ := List.getElem?_eq_some_iff.1 hy
  obtain ⟨j, hj, e2⟩ := List.mem_iff_getElem.1 ha
  rw [List.length_set] at hj
  rw [List.getElem_set] at e2
  split at e2
  · subst e2; show cellRow w (slV z) (upd f k l y.1); rw [hk, upd_eq]; exact hm
  · rename_i hne
    have hne2 : a.1 ≠ k := by
      have e' : k = L[i].1 := by rw [e, hk]
      rw [← e2, e']
      have hp := List.pairwise_iff_getElem.1 hup
      rcases Nat.lt_or_gt_of_ne hne with q | q
      · have := hp i j (by simpa using hi) (by simpa using hj) q; simp only [List.getElem_map] at this; exact (klt_ne this).symm
      · have := hp j i (by simpa using hj) (by simpa using hi) q; simp only [List.getElem_map] at this; exact klt_ne this
    rw [upd_ne hne2]; exact h a (by rw [← e2]; exact List.getElem_mem hj)
theorem lay_up (hK : KOf (L.map (·.1)) f) (ht : ∀ a ∈ L.take i, klt a.1 k = true) (hn : L.length ≤ i ∨ ∃ y, L[i]? = some y ∧ klt y.1 k = false ∧ (y.1.toList == k.toList) = false) : Kup ((L.take i ++ [(k, (⟨none, 0, 0⟩ : SlT))] ++ L.drop i).map (·.1)) ∧ f k = [] := by
  have hd : ∀ a ∈ L.drop i, klt k a.1 = true := fun a ha => by
    rcases hn with hn | ⟨y, hy, h1, h2⟩
    · rw [List.drop_eq_nil_of_le hn] at ha; simp at ha
    · obtain ⟨hi, e⟩ := List.getElem?_eq_some_iff.1 hy
      have h3 : klt k y.1 = true := by
        cases hq : klt k y.1 with
        | true => rfl
        | false => have := klt_eq h1 hq; rw [this] at h2; simp at h2
      rw [List.drop_eq_getElem_cons hi] at ha
      rcases List.mem_cons.1 ha with e2 | ha
      · rw [e2, e]; exact h3
      · have hp := List.pairwise_iff_getElem.1 hK.up
        obtain ⟨j, hj, e2⟩ := List.mem_iff_getElem.1 ha
        rw [List.length_drop] at hj
        rw [List.getElem_drop] at e2
        have := hp i (i + 1 + j) (by simpa using hi) (by simp; omega) (by omega)
        simp only [List.getElem_map] at this
        rw [e2, e] at this
        exact klt_tr h3 this
  have hu := hK.up
  refine ⟨?_, none_of hK fun a ha => ?_⟩
  · rw [List.map_append, List.map_append]
    refine List.pairwise_append.2 ⟨List.pairwise_append.2 ⟨?_, by simp, ?_⟩, ?_, ?_⟩
    · exact hu.sublist ((List.take_sublist i L).map _)
    · intro a ha b hb
      obtain ⟨a', ha', rfl⟩ := List.mem_map.1 ha
      simp at hb; subst hb; exact ht a' ha'
    · exact hu.sublist ((List.drop_sublist i L).map _)
    · intro a ha b hb
      obtain ⟨b', hb', rfl⟩ := List.mem_map.1 hb
      rcases List.mem_append.1 ha with ha | ha
      · obtain ⟨a', ha', rfl⟩ := List.mem_map.1 ha; exact klt_tr (ht a' ha') (hd b' hb')
      · simp at ha; subst ha; exact hd b' hb'
  · rw [← List.take_append_drop i L] at ha
    rcases List.mem_append.1 ha with ha | ha
    · exact klt_ne (ht a ha)
    · exact (klt_ne (hd a ha)).symm
theorem lay_kof {M : List Kv} (hK : KOf (L.map (·.1)) f) (hup : Kup (M.map (·.1))) (hm : ∀ x, x ∈ M.map (·.1) ↔ x = k ∨ x ∈ L.map (·.1)) (hl : l ≠ []) : KOf (M.map (·.1)) (upd f k l) := by
  refine ⟨hup, fun x => ?_⟩
  rw [hm]
  by_cases e : x = k
  · subst e; rw [upd_eq]; exact ⟨fun _ => hl, fun _ => .inl rfl⟩
  · rw [upd_ne e, ← hK.mem x]; exact ⟨fun q => q.resolve_left e, .inr⟩
theorem set_keys (hy : L[i]? = some y) : (L.set i (y.1, z)).map (·.1) = L.map (·.1) := by
  obtain ⟨hi, e⟩ := List.getElem?_eq_some_iff.1 hy
  rw [List.map_set]
  show (L.map (·.1)).set i y.1 = L.map (·.1)
  rw [← e]
  apply List.ext_getElem?
  intro j
  rw [List.getElem?_set]
  split
  · rename_i h; subst h; simp [hi]
  · rfl
theorem lay_new (hK : KOf (L.map (·.1)) f) (hup : Kup ((L.take i ++ [(k, (⟨none, 0, 0⟩ : SlT))] ++ L.drop i).map (·.1))) (hy : (L.take i ++ [(k, (⟨none, 0, 0⟩ : SlT))] ++ L.drop i)[i]? = some y) (hl : l ≠ []) : KOf (((L.take i ++ [(k, (⟨none, 0, 0⟩ : SlT))] ++ L.drop i).set i (y.1, z)).map (·.1)) (upd f k l) := by
  refine lay_kof hK ?_ (fun x => ?_) hl <;> rw [set_keys hy]
  · exact hup
  · have e : L.map (·.1) = (L.take i).map (·.1) ++ (L.drop i).map (·.1) := by rw [← List.map_append, List.take_append_drop]
    rw [e, List.map_append, List.map_append]
    simp only [List.mem_append, List.map_cons, List.map_nil, List.mem_singleton]
    constructor
    · rintro ((h | h) | h)
      · exact .inr (.inl h)
      · exact .inl h
      · exact .inr (.inr h)
    · rintro (h | h | h)
      · exact .inl (.inr h)
      · exact .inl (.inl h)
      · exact .inr h
theorem lay_key (hi : i ≤ L.length) (hy : (L.take i ++ [(k, (⟨none, 0, 0⟩ : SlT))] ++ L.drop i)[i]? = some y) : y.1 = k := by
  rw [List.append_assoc, List.getElem?_append_right (by rw [List.length_take]; omega), List.length_take, show i - min i L.length = 0 by omega] at hy
  simp at hy; rw [← hy]
theorem lay_old (hK : KOf (L.map (·.1)) f) (hy : L[i]? = some y) (hk : y.1 = k) (hl : l ≠ []) : KOf ((L.set i (y.1, z)).map (·.1)) (upd f k l) := by
  refine lay_kof hK ?_ (fun x => ?_) hl <;> rw [set_keys hy]
  · exact hK.up
  · constructor
    · exact .inr
    · rintro (h | h)
      · rw [h, ← hk]; exact List.mem_map_of_mem (List.mem_of_getElem? hy)
      · exact h
theorem from_old {j n : Nat} (h : ∀ g, (slV z).ownBlock = some g → n ≤ g) : ∀ a ∈ L.set j (k, z), (∃ b ∈ L, b.2 = a.2) ∨ ∀ g, (slV a.2).ownBlock = some g → n ≤ g := fun a ha => by
  rcases List.mem_or_eq_of_mem_set ha with ha | rfl
  · exact .inl ⟨a, ha, rfl⟩
  · exact .inr h
theorem from_new {j n : Nat} {k2 : ByteArray} (h : ∀ g, (slV z).ownBlock = some g → n ≤ g) : ∀ a ∈ (L.take i ++ [(k, (⟨none, 0, 0⟩ : SlT))] ++ L.drop i).set j (k2, z), (∃ b ∈ L, b.2 = a.2) ∨ ∀ g, (slV a.2).ownBlock = some g → n ≤ g := fun a ha => by
  rcases List.mem_or_eq_of_mem_set ha with ha | rfl
  · rcases List.mem_append.1 ha with ha | ha
    · rcases List.mem_append.1 ha with ha | ha
      · exact .inl ⟨a, List.mem_of_mem_take ha, rfl⟩
      · simp only [List.mem_singleton] at ha; subst ha; exact .inr fun g hg => by cases hg
    · exact .inl ⟨a, List.mem_of_mem_drop ha, rfl⟩
  · exact .inr h
theorem eqB_of {b : Bool} (h : (!b) = false) : b = true := by cases b with | true => rfl | false => cases h
theorem lay_step (h : ∀ a ∈ L.take i, klt a.1 k = true) (hy : L[i]? = some y) (hk : klt y.1 k = true) : ∀ a ∈ L.take (i + 1), klt a.1 k = true := by
  rw [takeO_at hy]
  intro a ha
  rcases List.mem_append.1 ha with ha | ha
  · exact h a ha
  · simp only [List.mem_singleton] at ha; subst ha; exact hk
end

end Go.Proofs.Ytbjbcbbhmbpndaa
