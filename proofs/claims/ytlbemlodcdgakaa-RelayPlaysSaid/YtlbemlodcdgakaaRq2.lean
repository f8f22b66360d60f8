/- Put together: RelERp, RelFRp, RelIRp, RelJRp, RlgFRp, RlgHRp, AdURp, AdYRp, AdZRp, AdRRp, RelGRp, RelHRp. Conditions: as each says. -/
import Derived.Test.YtlbemlodcdgakaaRq1
import Derived.OpenShut
/- Package relay: message. Conditions: up to 100 operations an entry. -/
namespace Go.Proofs.Ytlbemlodcdgakaa
open Go.RowKit Go.PlainAid
set_option linter.unusedVariables false
set_option linter.unusedSimpArgs false

set_option maxRecDepth 100000 in
theorem message3_any (R : Nat) (N00 : Nat) (N01 : Nat) (N02 : Nat) (N03 : Nat) (N10 : Nat) (N11 : Nat) (N20 : Nat) (k : Int) (ep : Int) (n : Int) (m : Int) (p : Int) (sb : Int) (hz : Int) (v : Value) (l : List EntT) (w : World) (hR : Blk w R 115 #[.func (.func 118) #[] #[pt N00 0, pt N01 0, pt N02 0, pt N03 0], .func (.func 119) #[] #[pt N10 0, pt N11 0], .func (.func 120) #[] #[pt N20 0]]) (hN00 : Blk w N00 3 #[.int .i64 ep]) (hN01 : Blk w N01 3 #[.int .i64 n]) (hN02 : Blk w N02 3 #[.int .i64 m]) (hN03 : Blk w N03 3 #[.int .i64 p]) (hN10 : Blk w N10 3 #[.int .i64 sb]) (hN11 : Blk w N11 29 #[.int .u64 hz]) (hN20 : Blk w N20 69 #[v]) (hs : SliceOf entE 4 w v l) (hok : ∀ z ∈ l, EntOk w z) (hl20 : ∀ z ∈ l, z.opl.length ≤ 100) :
    Calls Try.prog 68 #[.int .i64 k, .slice (some ⟨R, 0, none⟩) 3 3] w fun e w' => ∃ (L2 : List EntT) (u : Value), e = .returned (.agg #[.int .i64 k, .int .i64 (mxI ep 0), .int .i64 (mxI sb 0), .int .i64 0, .bool false, .int .u64 hz, .int .u64 0, .int .i64 (mxI n 0), .int .i64 (mxI m 0), .int .i64 (mxI p 0), .int .i64 0, .string (⟨#[]⟩), .string (⟨#[]⟩), .int .i64 0, .slice none 0 0, .int .u64 0, .int .i64 0, .int .i64 0, .slice none 0 0, u, .slice none 0 0, .slice none 0 0]) ∧ w'.ownsRow w.heap.size 38 4 u L2.length (L2.flatMap entE) ∧ EntsH (fun _ => False) w.heap.size w' L2 ∧ L2.map e0 = (l.take (mnI (l.length : Int) 4).toNat).map e0 ∧ Below w.heap.size w w' := by
 have hB0 := Below.refl w.heap.size w
 have hl_hR := hR.lt
 have hl_hN00 := hN00.lt
 have hl_hN01 := hN01.lt
 have hl_hN02 := hN02.lt
 have hl_hN03 := hN03.lt
 have hl_hN10 := hN10.lt
 have hl_hN11 := hN11.lt
 have hl_hN20 := hN20.lt
 have hl_hs := sl_len hs
 refine co_enter (n := 20) Try.func68 rfl rfl rfl [(0, .int .i64 k), (1, .slice (some ⟨R, 0, none⟩) 3 3)] rfl (fun a h0 => ?_)
 refine co_seq ?_
 refine co_reg ?_
 refine pw h0 rfl (op_new (v := fun N => pt N 0) (T := 74) (cs := #[.int .i64 0, .int .i64 0, .int .i64 0, .int .i64 0, .bool false, .int .u64 0, .int .u64 0, .int .i64 0, .int .i64 0, .int .i64 0, .int .i64 0, .string (⟨#[]⟩), .string (⟨#[]⟩), .int .i64 0, .slice none 0 0, .int .u64 0, .int .i64 0, .int .i64 0, .slice none 0 0, .slice none 0 0, .slice none 0 0, .slice none 0 0]) (by kernel_rfl) (by kernel_rfl) (by kernel_rfl)) ?_; clear h0
 rintro _ w2 a1 ⟨N3, rfl, hN6, hz7, hk5, hg4⟩ h1
 have hz8 := hg4.size
 try dsimp only at h1
 refine pl_nil ?_
 refine co_then ?_
 refine co_seq ?_
 refine co_reg ?_
 refine pk0 (v := .int .i64 k) h1 rfl fun a9 h9 => ?_; clear h1
 refine pk0 (v := .agg #[.int .i64 k, .int .i64 0, .int .i64 0, .int .i64 0, .bool false, .int .u64 0, .int .u64 0, .int .i64 0, .int .i64 0, .int .i64 0, .int .i64 0, .string (⟨#[]⟩), .string (⟨#[]⟩), .int .i64 0, .slice none 0 0, .int .u64 0, .int .i64 0, .int .i64 0, .slice none 0 0, .slice none 0 0, .slice none 0 0, .slice none 0 0]) h9 rfl fun a10 h10 => ?_; clear h9
 refine pw h10 rfl (op_new (v := fun N => pt N 0) (T := 74) (cs := #[.int .i64 0, .int .i64 0, .int .i64 0, .int .i64 0, .bool false, .int .u64 0, .int .u64 0, .int .i64 0, .int .i64 0, .int .i64 0, .int .i64 0, .string (⟨#[]⟩), .string (⟨#[]⟩), .int .i64 0, .slice none 0 0, .int .u64 0, .int .i64 0, .int .i64 0, .slice none 0 0, .slice none 0 0, .slice none 0 0, .slice none 0 0]) (by kernel_rfl) (by kernel_rfl) (by kernel_rfl)) ?_; clear h10
 rintro _ w12 a11 ⟨N13, rfl, hN16, hz17, hk15, hg14⟩ h11
 have hz18 := hg14.size
 try dsimp only at h11
 refine pwD h11 rfl (op_storeN rfl rfl rfl (all_cons rfl (all_cons rfl (all_cons rfl (all_cons rfl (all_cons rfl (all_cons rfl (all_cons rfl (all_cons rfl (all_cons rfl (all_cons rfl (all_cons rfl (all_cons rfl (all_cons rfl (all_cons rfl (all_cons rfl (all_cons rfl (all_cons rfl (all_cons rfl (all_cons rfl (all_cons rfl (all_cons rfl (all_cons rfl all_nil)))))))))))))))))))))) (by kernel_rfl) hk15 rfl) ?_; clear h11
 rintro _ w20 a19 ⟨hk21, hz22, hg23⟩ h19
 have hk21' : Blk w20 N13 74 #[.int .i64 k, .int .i64 0, .int .i64 0, .int .i64 0, .bool false, .int .u64 0, .int .u64 0, .int .i64 0, .int .i64 0, .int .i64 0, .int .i64 0, .string (⟨#[]⟩), .string (⟨#[]⟩), .int .i64 0, .slice none 0 0, .int .u64 0, .int .i64 0, .int .i64 0, .slice none 0 0, .slice none 0 0, .slice none 0 0, .slice none 0 0] := hk21; clear hk21
 have hz24 := hg23.size
 refine pl_nil ?_
 refine co_then ?_
 refine co_seq ?_
 refine co_seq ?_
 refine co_reg ?_
 refine pk0 (v := .slice (some ⟨R, 0, none⟩) 3 3) h19 rfl fun a25 h25 => ?_; clear h19
 refine pk0 (v := .int .i64 3) h25 rfl fun a26 h26 => ?_; clear h25
 refine pk0 (v := .int .i64 0) h26 rfl fun a27 h27 => ?_; clear h26
 refine pl_nil ?_
 refine co_then ?_
 refine wp_block ?_
 refine wp_loop_rounds 4 ?_
 refine co_unroll (n := 3) ?_
 refine co_seq ?_
 refine co_reg ?_
 refine pk0 (v := .bool (decide (0 < 3))) h27 rfl fun a28 h28 => ?_; clear h27
 refine pl_nil ?_
 refine co_then ?_
 refine co_seq ?_
 have hc29 : (decide (0 < 3)) = true := decide_eq_true (by omega)
 rw [hc29] at h28; clear hc29
 refine co_true h28 rfl ?_
 refine wp_skip ?_
 refine co_then ?_
 refine co_seq ?_
 refine wp_block ?_
 refine co_seq ?_
 refine co_reg ?_
 refine pk0 (v := pt R 0) h28 rfl fun a30 h30 => ?_; clear h28
 have hk31 := hR.kept hg4 (by simp)
 have hk32 := hk31.kept hg14 (by simp)
 have hk33 := hk32.kept hg23 (by simp; omega)
 refine pk (v := .func (.func 118) #[] #[pt N00 0, pt N01 0, pt N02 0, pt N03 0]) h30 rfl (rn_load1 rfl rfl Try.isAgg115 (hk33.cell rfl)) fun a34 h34 => ?_; clear h30
 refine pk0 (v := .func (.func 118) #[] #[pt N00 0, pt N01 0, pt N02 0, pt N03 0]) h34 rfl fun a35 h35 => ?_; clear h34
 refine pl_nil ?_
 refine co_then ?_
 refine co_reg ?_
 refine pk0 (v := .func (.func 118) #[] #[pt N00 0, pt N01 0, pt N02 0, pt N03 0]) h35 rfl fun a36 h36 => ?_; clear h35
 have hk39 := hN00.kept hg4 (by simp)
 have hk40 := hk39.kept hg14 (by simp)
 have hk41 := hk40.kept hg23 (by simp; omega)
 have hk42 := hN01.kept hg4 (by simp)
 have hk43 := hk42.kept hg14 (by simp)
 have hk44 := hk43.kept hg23 (by simp; omega)
 have hk45 := hN02.kept hg4 (by simp)
 have hk46 := hk45.kept hg14 (by simp)
 have hk47 := hk46.kept hg23 (by simp; omega)
 have hk48 := hN03.kept hg4 (by simp)
 have hk49 := hk48.kept hg14 (by simp)
 have hk50 := hk49.kept hg23 (by simp; omega)
 refine pw h36 rfl (op_callV (args := #[pt N13 0, pt N00 0, pt N01 0, pt N02 0, pt N03 0]) (R := fun res xw => res = .tuple #[] ∧ Blk xw N13 74 #[.int .i64 k, .int .i64 (mxI ep 0), .int .i64 0, .int .i64 0, .bool false, .int .u64 0, .int .u64 0, .int .i64 (mxI n 0), .int .i64 (mxI m 0), .int .i64 (mxI p 0), .int .i64 0, .string (⟨#[]⟩), .string (⟨#[]⟩), .int .i64 0, .slice none 0 0, .int .u64 0, .int .i64 0, .int .i64 0, .slice none 0 0, .slice none 0 0, .slice none 0 0, .slice none 0 0] ∧ But (fun q => q = N13) w20 xw) rfl rfl rfl (by kernel_rfl) (by kernel_rfl) (Try.call118 _ _) (numbersR_any N13 N00 N01 N02 N03 k ep n m p w20 hk21' hk41 hk44 hk47 hk50 (by omega)) (by rintro e x ⟨rfl, hq51, hb52⟩; exact ⟨_, rfl, ⟨rfl, hq51, hb52⟩⟩)) ?_; clear h36
 rintro _ w38 a37 ⟨rfl, hq51, hb52⟩ h37
 have hz53 := hb52.size
 have hl54 := hq51.lt
 refine pl_nil ?_
 refine co_blockN ?_
 refine co_then ?_
 refine co_reg ?_
 refine pk0 (v := .int .i64 1) h37 rfl fun a55 h55 => ?_; clear h37
 refine pk0 (v := .int .i64 1) h55 rfl fun a56 h56 => ?_; clear h55
 refine pl_nil ?_
 refine co_then ?_
 refine co_unroll (n := 2) ?_
 refine co_seq ?_
 refine co_reg ?_
 refine pk0 (v := .bool (decide (1 < 3))) h56 rfl fun a57 h57 => ?_; clear h56
 refine pl_nil ?_
 refine co_then ?_
 refine co_seq ?_
 have hc58 : (decide (1 < 3)) = true := decide_eq_true (by omega)
 rw [hc58] at h57; clear hc58
 refine co_true h57 rfl ?_
 refine wp_skip ?_
 refine co_then ?_
 refine co_seq ?_
 refine wp_block ?_
 refine co_seq ?_
 refine co_reg ?_
 refine pk0 (v := pt R 1) h57 rfl fun a59 h59 => ?_; clear h57
 have hk60 := hk33.but hb52 (by first | omega | (simp; omega))
 refine pk (v := .func (.func 119) #[] #[pt N10 0, pt N11 0]) h59 rfl (rn_load1 rfl rfl Try.isAgg115 (hk60.cell rfl)) fun a61 h61 => ?_; clear h59
 refine pk0 (v := .func (.func 119) #[] #[pt N10 0, pt N11 0]) h61 rfl fun a62 h62 => ?_; clear h61
 refine pl_nil ?_
 refine co_then ?_
 refine co_reg ?_
 refine pk0 (v := .func (.func 119) #[] #[pt N10 0, pt N11 0]) h62 rfl fun a63 h63 => ?_; clear h62
 have hk66 := hN10.kept hg4 (by simp)
 have hk67 := hk66.kept hg14 (by simp)
 have hk68 := hk67.kept hg23 (by simp; omega)
 have hk69 := hk68.but hb52 (by first | omega | (simp; omega))
 have hk70 := hN11.kept hg4 (by simp)
 have hk71 := hk70.kept hg14 (by simp)
 have hk72 := hk71.kept hg23 (by simp; omega)
 have hk73 := hk72.but hb52 (by first | omega | (simp; omega))
 refine pw h63 rfl (op_callV (args := #[pt N13 0, pt N10 0, pt N11 0]) (R := fun res xw => res = .tuple #[] ∧ Blk xw N13 74 #[.int .i64 k, .int .i64 (mxI ep 0), .int .i64 (mxI sb 0), .int .i64 0, .bool false, .int .u64 hz, .int .u64 0, .int .i64 (mxI n 0), .int .i64 (mxI m 0), .int .i64 (mxI p 0), .int .i64 0, .string (⟨#[]⟩), .string (⟨#[]⟩), .int .i64 0, .slice none 0 0, .int .u64 0, .int .i64 0, .int .i64 0, .slice none 0 0, .slice none 0 0, .slice none 0 0, .slice none 0 0] ∧ But (fun q => q = N13) w38 xw) rfl rfl rfl (by kernel_rfl) (by kernel_rfl) (Try.call119 _ _) (standR_any N13 N10 N11 k _ _ _ _ sb hz w38 hq51 hk69 hk73 (by omega)) (by rintro e x ⟨rfl, hq74, hb75⟩; exact ⟨_, rfl, ⟨rfl, hq74, hb75⟩⟩)) ?_; clear h63
 rintro _ w65 a64 ⟨rfl, hq74, hb75⟩ h64
 have hz76 := hb75.size
 have hl77 := hq74.lt
 refine pl_nil ?_
 refine co_blockN ?_
 refine co_then ?_
 refine co_reg ?_
 refine pk0 (v := .int .i64 2) h64 rfl fun a78 h78 => ?_; clear h64
 refine pk0 (v := .int .i64 2) h78 rfl fun a79 h79 => ?_; clear h78
 refine pl_nil ?_
 refine co_then ?_
 refine co_unroll (n := 1) ?_
 refine co_seq ?_
 refine co_reg ?_
 refine pk0 (v := .bool (decide (2 < 3))) h79 rfl fun a80 h80 => ?_; clear h79
 refine pl_nil ?_
 refine co_then ?_
 refine co_seq ?_
 have hc81 : (decide (2 < 3)) = true := decide_eq_true (by omega)
 rw [hc81] at h80; clear hc81
 refine co_true h80 rfl ?_
 refine wp_skip ?_
 refine co_then ?_
 refine co_seq ?_
 refine wp_block ?_
 refine co_seq ?_
 refine co_reg ?_
 refine pk0 (v := pt R 2) h80 rfl fun a82 h82 => ?_; clear h80
 have hk83 := hk60.but hb75 (by first | omega | (simp; omega))
 refine pk (v := .func (.func 120) #[] #[pt N20 0]) h82 rfl (rn_load1 rfl rfl Try.isAgg115 (hk83.cell rfl)) fun a84 h84 => ?_; clear h82
 refine pk0 (v := .func (.func 120) #[] #[pt N20 0]) h84 rfl fun a85 h85 => ?_; clear h84
 refine pl_nil ?_
 refine co_then ?_
 refine co_reg ?_
 refine pk0 (v := .func (.func 120) #[] #[pt N20 0]) h85 rfl fun a86 h86 => ?_; clear h85
 have hB89 := hb_new hB0 hg4
 have hB90 := hb_new hB89 hg14
 have hB91 := hb_at hB90 hg23 (by omega)
 have hB92 := hb_foot hB91 hb52 (fun i hlt hS => by (try simp at hS); first | omega | (simp; omega) | simp_all)
 have hB93 := hb_foot hB92 hb75 (fun i hlt hS => by (try simp at hS); first | omega | (simp; omega) | simp_all)
 have hk94 := hN20.kept hg4 (by simp)
 have hk95 := hk94.kept hg14 (by simp)
 have hk96 := hk95.kept hg23 (by simp; omega)
 have hk97 := hk96.but hb52 (by first | omega | (simp; omega))
 have hk98 := hk97.but hb75 (by first | omega | (simp; omega))
 refine pw h86 rfl (op_callV (args := #[pt N13 0, pt N20 0]) (R := fun res xw => ∃ L2 : List EntT, ∃ u : Value, res = .tuple #[] ∧ xw.ownsRow w65.heap.size 38 4 u L2.length (L2.flatMap entE) ∧ EntsH (fun _ => False) w65.heap.size xw L2 ∧ L2.map e0 = (l.take (mnI (l.length : Int) 4).toNat).map e0 ∧ Blk xw N13 74 #[.int .i64 k, .int .i64 (mxI ep 0), .int .i64 (mxI sb 0), .int .i64 0, .bool false, .int .u64 hz, .int .u64 0, .int .i64 (mxI n 0), .int .i64 (mxI m 0), .int .i64 (mxI p 0), .int .i64 0, .string (⟨#[]⟩), .string (⟨#[]⟩), .int .i64 0, .slice none 0 0, .int .u64 0, .int .i64 0, .int .i64 0, .slice none 0 0, u, .slice none 0 0, .slice none 0 0] ∧ But (fun q => q = N13) w65 xw) rfl rfl rfl (by kernel_rfl) (by kernel_rfl) (Try.call120 _ _) (entriesR_any N13 N20 k _ _ _ _ _ hz v l w65 hq74 hk98 (by omega) (hs.below hB93) (fun z hz => (hok z hz).below hB93) (by first | omega | (simp; done) | (simp; omega))) (by rintro e x ⟨L2, u, rfl, hq101, hq102, hq103, hq104, hb105⟩; exact ⟨_, rfl, ⟨L2, u, rfl, hq101, hq102, hq103, hq104, hb105⟩⟩)) ?_; clear h86
 rintro _ w88 a87 ⟨L299, u100, rfl, hq101, hq102, hq103, hq104, hb105⟩ h87
 have hz106 := hb105.size
 have hl107 := sl_len (row_sl hq101 entE_len)
 have hl108 := hq104.lt
 refine pl_nil ?_
 refine co_blockN ?_
 refine co_then ?_
 refine co_reg ?_
 refine pk0 (v := .int .i64 3) h87 rfl fun a109 h109 => ?_; clear h87
 refine pk0 (v := .int .i64 3) h109 rfl fun a110 h110 => ?_; clear h109
 refine pl_nil ?_
 refine co_then ?_
 refine co_unroll (n := 0) ?_
 refine co_seq ?_
 refine co_reg ?_
 refine pk0 (v := .bool (decide (3 < 3))) h110 rfl fun a111 h111 => ?_; clear h110
 refine pl_nil ?_
 refine co_then ?_
 refine co_seq ?_
 have hc112 : (decide (3 < 3)) = false := decide_eq_false (by omega)
 rw [hc112] at h111; clear hc112
 refine co_false h111 rfl ?_
 refine wp_exit ?_
 refine co_thenX ?_
 refine co_thenX ?_
 refine co_blockX ?_
 refine co_then ?_
 refine co_seq ?_
 refine co_reg ?_
 refine pk (v := .agg #[.int .i64 k, .int .i64 (mxI ep 0), .int .i64 (mxI sb 0), .int .i64 0, .bool false, .int .u64 hz, .int .u64 0, .int .i64 (mxI n 0), .int .i64 (mxI m 0), .int .i64 (mxI p 0), .int .i64 0, .string (⟨#[]⟩), .string (⟨#[]⟩), .int .i64 0, .slice none 0 0, .int .u64 0, .int .i64 0, .int .i64 0, .slice none 0 0, u100, .slice none 0 0, .slice none 0 0]) h111 rfl (rn_loadN rfl rfl Try.underlying74 rfl (by kernel_rfl) hq104.all) fun a113 h113 => ?_; clear h111
 have hk119 := hk5.kept hg14 (by simp)
 have hk120 := hk119.kept hg23 (by simp; omega)
 have hk121 := hk120.but hb52 (by first | omega | (simp; omega))
 have hk122 := hk121.but hb75 (by first | omega | (simp; omega))
 have hk123 := hk122.but hb105 (by first | omega | (simp; omega))
 refine pwD h113 rfl (op_storeN rfl rfl rfl (all_cons rfl (all_cons rfl (all_cons rfl (all_cons rfl (all_cons rfl (all_cons rfl (all_cons rfl (all_cons rfl (all_cons rfl (all_cons rfl (all_cons rfl (all_cons rfl (all_cons rfl (all_cons rfl (all_cons rfl (all_cons rfl (all_cons rfl (all_cons rfl (all_cons rfl (all_cons (row_one hq101) (all_cons rfl (all_cons rfl all_nil)))))))))))))))))))))) (by kernel_rfl) hk123 rfl) ?_; clear h113
 rintro _ w115 a114 ⟨hk116, hz117, hg118⟩ h114
 have hk116' : Blk w115 N3 74 #[.int .i64 k, .int .i64 (mxI ep 0), .int .i64 (mxI sb 0), .int .i64 0, .bool false, .int .u64 hz, .int .u64 0, .int .i64 (mxI n 0), .int .i64 (mxI m 0), .int .i64 (mxI p 0), .int .i64 0, .string (⟨#[]⟩), .string (⟨#[]⟩), .int .i64 0, .slice none 0 0, .int .u64 0, .int .i64 0, .int .i64 0, .slice none 0 0, u100, .slice none 0 0, .slice none 0 0] := hk116; clear hk116
 have hz124 := hg118.size
 refine pl_nil ?_
 refine co_then ?_
 refine wp_ret ?_
 refine co_retC (Q := fun _ _ _ => True) h114 rfl rfl hk116' Try.underlying74 rfl (by kernel_rfl) ?_
 have hr125 := row_kept_at hq101 hg118 (own_neT hq101 hk123 (by decide))
 have hE126 := hq102.blk hk123 (by decide) hg118
 have hB127 := hb_foot hB93 hb105 (fun i hlt hS => by (try simp at hS); first | omega | (simp; omega) | simp_all)
 have hB128 := hb_at hB127 hg118 (by omega)
 exact ⟨_, _, rfl, (row_lows hr125 (by omega)), (entsH_low hE126 (by omega)), hq103, hB128⟩
set_option maxRecDepth 100000 in
theorem message2_any (R : Nat) (N00 : Nat) (N01 : Nat) (N02 : Nat) (N03 : Nat) (N10 : Nat) (k : Int) (ep : Int) (n : Int) (m : Int) (p : Int) (v : Value) (l : List EntT) (w : World) (hR : Blk w R 115 #[.func (.func 118) #[] #[pt N00 0, pt N01 0, pt N02 0, pt N03 0], .func (.func 122) #[] #[pt N10 0]]) (hN00 : Blk w N00 3 #[.int .i64 ep]) (hN01 : Blk w N01 3 #[.int .i64 n]) (hN02 : Blk w N02 3 #[.int .i64 m]) (hN03 : Blk w N03 3 #[.int .i64 p]) (hN10 : Blk w N10 69 #[v]) (hs : SliceOf entE 4 w v l) (hok : ∀ z ∈ l, EntOk w z) :
    Calls Try.prog 68 #[.int .i64 k, .slice (some ⟨R, 0, none⟩) 2 2] w fun e w' => ∃ (u : Value), e = .returned (.agg #[.int .i64 k, .int .i64 (mxI ep 0), .int .i64 0, .int .i64 0, .bool false, .int .u64 0, .int .u64 0, .int .i64 (mxI n 0), .int .i64 (mxI m 0), .int .i64 (mxI p 0), .int .i64 0, .string (⟨#[]⟩), .string (⟨#[]⟩), .int .i64 0, .slice none 0 0, .int .u64 0, .int .i64 0, .int .i64 0, .slice none 0 0, .slice none 0 0, u, .slice none 0 0]) ∧ w'.ownsRow w.heap.size 29 1 u (tsL (l.take (mnI ((stN l : Nat) : Int) 8).toNat)).length ((tsL (l.take (mnI ((stN l : Nat) : Int) 8).toNat)).flatMap (intE .u64)) ∧ Below w.heap.size w w' := by
 have hB0 := Below.refl w.heap.size w
 have hl_hR := hR.lt
 have hl_hN00 := hN00.lt
 have hl_hN01 := hN01.lt
 have hl_hN02 := hN02.lt
 have hl_hN03 := hN03.lt
 have hl_hN10 := hN10.lt
 have hl_hs := sl_len hs
 refine co_enter (n := 20) Try.func68 rfl rfl rfl [(0, .int .i64 k), (1, .slice (some ⟨R, 0, none⟩) 2 2)] rfl (fun a h0 => ?_)
 refine co_seq ?_
 refine co_reg ?_
 refine pw h0 rfl (op_new (v := fun N => pt N 0) (T := 74) (cs := #[.int .i64 0, .int .i64 0, .int .i64 0, .int .i64 0, .bool false, .int .u64 0, .int .u64 0, .int .i64 0, .int .i64 0, .int .i64 0, .int .i64 0, .string (⟨#[]⟩), .string (⟨#[]⟩), .int .i64 0, .slice none 0 0, .int .u64 0, .int .i64 0, .int .i64 0, .slice none 0 0, .slice none 0 0, .slice none 0 0, .slice none 0 0]) (by kernel_rfl) (by kernel_rfl) (by kernel_rfl)) ?_; clear h0
 rintro _ w2 a1 ⟨N3, rfl, hN6, hz7, hk5, hg4⟩ h1
 have hz8 := hg4.size
 try dsimp only at h1
 refine pl_nil ?_
 refine co_then ?_
 refine co_seq ?_
 refine co_reg ?_
 refine pk0 (v := .int .i64 k) h1 rfl fun a9 h9 => ?_; clear h1
 refine pk0 (v := .agg #[.int .i64 k, .int .i64 0, .int .i64 0, .int .i64 0, .bool false, .int .u64 0, .int .u64 0, .int .i64 0, .int .i64 0, .int .i64 0, .int .i64 0, .string (⟨#[]⟩), .string (⟨#[]⟩), .int .i64 0, .slice none 0 0, .int .u64 0, .int .i64 0, .int .i64 0, .slice none 0 0, .slice none 0 0, .slice none 0 0, .slice none 0 0]) h9 rfl fun a10 h10 => ?_; clear h9
 refine pw h10 rfl (op_new (v := fun N => pt N 0) (T := 74) (cs := #[.int .i64 0, .int .i64 0, .int .i64 0, .int .i64 0, .bool false, .int .u64 0, .int .u64 0, .int .i64 0, .int .i64 0, .int .i64 0, .int .i64 0, .string (⟨#[]⟩), .string (⟨#[]⟩), .int .i64 0, .slice none 0 0, .int .u64 0, .int .i64 0, .int .i64 0, .slice none 0 0, .slice none 0 0, .slice none 0 0, .slice none 0 0]) (by kernel_rfl) (by kernel_rfl) (by kernel_rfl)) ?_; clear h10
 rintro _ w12 a11 ⟨N13, rfl, hN16, hz17, hk15, hg14⟩ h11
 have hz18 := hg14.size
 try dsimp only at h11
 refine pwD h11 rfl (op_storeN rfl rfl rfl (all_cons rfl (all_cons rfl (all_cons rfl (all_cons rfl (all_cons rfl (all_cons rfl (all_cons rfl (all_cons rfl (all_cons rfl (all_cons rfl (all_cons rfl (all_cons rfl (all_cons rfl (all_cons rfl (all_cons rfl (all_cons rfl (all_cons rfl (all_cons rfl (all_cons rfl (all_cons rfl (all_cons rfl (all_cons rfl all_nil)))))))))))))))))))))) (by kernel_rfl) hk15 rfl) ?_; clear h11
 rintro _ w20 a19 ⟨hk21, hz22, hg23⟩ h19
 have hk21' : Blk w20 N13 74 #[.int .i64 k, .int .i64 0, .int .i64 0, .int .i64 0, .bool false, .int .u64 0, .int .u64 0, .int .i64 0, .int .i64 0, .int .i64 0, .int .i64 0, .string (⟨#[]⟩), .string (⟨#[]⟩), .int .i64 0, .slice none 0 0, .int .u64 0, .int .i64 0, .int .i64 0, .slice none 0 0, .slice none 0 0, .slice none 0 0, .slice none 0 0] := hk21; clear hk21
 have hz24 := hg23.size
 refine pl_nil ?_
 refine co_then ?_
 refine co_seq ?_
 refine co_seq ?_
 refine co_reg ?_
 refine pk0 (v := .slice (some ⟨R, 0, none⟩) 2 2) h19 rfl fun a25 h25 => ?_; clear h19
 refine pk0 (v := .int .i64 2) h25 rfl fun a26 h26 => ?_; clear h25
 refine pk0 (v := .int .i64 0) h26 rfl fun a27 h27 => ?_; clear h26
 refine pl_nil ?_
 refine co_then ?_
 refine wp_block ?_
 refine wp_loop_rounds 3 ?_
 refine co_unroll (n := 2) ?_
 refine co_seq ?_
 refine co_reg ?_
 refine pk0 (v := .bool (decide (0 < 2))) h27 rfl fun a28 h28 => ?_; clear h27
 refine pl_nil ?_
 refine co_then ?_
 refine co_seq ?_
 have hc29 : (decide (0 < 2)) = true := decide_eq_true (by omega)
 rw [hc29] at h28; clear hc29
 refine co_true h28 rfl ?_
 refine wp_skip ?_
 refine co_then ?_
 refine co_seq ?_
 refine wp_block ?_
 refine co_seq ?_
 refine co_reg ?_
 refine pk0 (v := pt R 0) h28 rfl fun a30 h30 => ?_; clear h28
 have hk31 := hR.kept hg4 (by simp)
 have hk32 := hk31.kept hg14 (by simp)
 have hk33 := hk32.kept hg23 (by simp; omega)
 refine pk (v := .func (.func 118) #[] #[pt N00 0, pt N01 0, pt N02 0, pt N03 0]) h30 rfl (rn_load1 rfl rfl Try.isAgg115 (hk33.cell rfl)) fun a34 h34 => ?_; clear h30
 refine pk0 (v := .func (.func 118) #[] #[pt N00 0, pt N01 0, pt N02 0, pt N03 0]) h34 rfl fun a35 h35 => ?_; clear h34
 refine pl_nil ?_
 refine co_then ?_
 refine co_reg ?_
 refine pk0 (v := .func (.func 118) #[] #[pt N00 0, pt N01 0, pt N02 0, pt N03 0]) h35 rfl fun a36 h36 => ?_; clear h35
 have hk39 := hN00.kept hg4 (by simp)
 have hk40 := hk39.kept hg14 (by simp)
 have hk41 := hk40.kept hg23 (by simp; omega)
 have hk42 := hN01.kept hg4 (by simp)
 have hk43 := hk42.kept hg14 (by simp)
 have hk44 := hk43.kept hg23 (by simp; omega)
 have hk45 := hN02.kept hg4 (by simp)
 have hk46 := hk45.kept hg14 (by simp)
 have hk47 := hk46.kept hg23 (by simp; omega)
 have hk48 := hN03.kept hg4 (by simp)
 have hk49 := hk48.kept hg14 (by simp)
 have hk50 := hk49.kept hg23 (by simp; omega)
 refine pw h36 rfl (op_callV (args := #[pt N13 0, pt N00 0, pt N01 0, pt N02 0, pt N03 0]) (R := fun res xw => res = .tuple #[] ∧ Blk xw N13 74 #[.int .i64 k, .int .i64 (mxI ep 0), .int .i64 0, .int .i64 0, .bool false, .int .u64 0, .int .u64 0, .int .i64 (mxI n 0), .int .i64 (mxI m 0), .int .i64 (mxI p 0), .int .i64 0, .string (⟨#[]⟩), .string (⟨#[]⟩), .int .i64 0, .slice none 0 0, .int .u64 0, .int .i64 0, .int .i64 0, .slice none 0 0, .slice none 0 0, .slice none 0 0, .slice none 0 0] ∧ But (fun q => q = N13) w20 xw) rfl rfl rfl (by kernel_rfl) (by kernel_rfl) (Try.call118 _ _) (numbersR_any N13 N00 N01 N02 N03 k ep n m p w20 hk21' hk41 hk44 hk47 hk50 (by omega)) (by rintro e x ⟨rfl, hq51, hb52⟩; exact ⟨_, rfl, ⟨rfl, hq51, hb52⟩⟩)) ?_; clear h36
 rintro _ w38 a37 ⟨rfl, hq51, hb52⟩ h37
 have hz53 := hb52.size
 have hl54 := hq51.lt
 refine pl_nil ?_
 refine co_blockN ?_
 refine co_then ?_
 refine co_reg ?_
 refine pk0 (v := .int .i64 1) h37 rfl fun a55 h55 => ?_; clear h37
 refine pk0 (v := .int .i64 1) h55 rfl fun a56 h56 => ?_; clear h55
 refine pl_nil ?_
 refine co_then ?_
 refine co_unroll (n := 1) ?_
 refine co_seq ?_
 refine co_reg ?_
 refine pk0 (v := .bool (decide (1 < 2))) h56 rfl fun a57 h57 => ?_; clear h56
 refine pl_nil ?_
 refine co_then ?_
 refine co_seq ?_
 have hc58 : (decide (1 < 2)) = true := decide_eq_true (by omega)
 rw [hc58] at h57; clear hc58
 refine co_true h57 rfl ?_
 refine wp_skip ?_
 refine co_then ?_
 refine co_seq ?_
 refine wp_block ?_
 refine co_seq ?_
 refine co_reg ?_
 refine pk0 (v := pt R 1) h57 rfl fun a59 h59 => ?_; clear h57
 have hk60 := hk33.but hb52 (by first | omega | (simp; omega))
 refine pk (v := .func (.func 122) #[] #[pt N10 0]) h59 rfl (rn_load1 rfl rfl Try.isAgg115 (hk60.cell rfl)) fun a61 h61 => ?_; clear h59
 refine pk0 (v := .func (.func 122) #[] #[pt N10 0]) h61 rfl fun a62 h62 => ?_; clear h61
 refine pl_nil ?_
 refine co_then ?_
 refine co_reg ?_
 refine pk0 (v := .func (.func 122) #[] #[pt N10 0]) h62 rfl fun a63 h63 => ?_; clear h62
 have hB66 := hb_new hB0 hg4
 have hB67 := hb_new hB66 hg14
 have hB68 := hb_at hB67 hg23 (by omega)
 have hB69 := hb_foot hB68 hb52 (fun i hlt hS => by (try simp at hS); first | omega | (simp; omega) | simp_all)
 have hk70 := hN10.kept hg4 (by simp)
 have hk71 := hk70.kept hg14 (by simp)
 have hk72 := hk71.kept hg23 (by simp; omega)
 have hk73 := hk72.but hb52 (by first | omega | (simp; omega))
 refine pw h63 rfl (op_callV (args := #[pt N13 0, pt N10 0]) (R := fun res xw => ∃ u : Value, res = .tuple #[] ∧ xw.ownsRow w38.heap.size 29 1 u (tsL (l.take (mnI ((stN l : Nat) : Int) 8).toNat)).length ((tsL (l.take (mnI ((stN l : Nat) : Int) 8).toNat)).flatMap (intE .u64)) ∧ Blk xw N13 74 #[.int .i64 k, .int .i64 (mxI ep 0), .int .i64 0, .int .i64 0, .bool false, .int .u64 0, .int .u64 0, .int .i64 (mxI n 0), .int .i64 (mxI m 0), .int .i64 (mxI p 0), .int .i64 0, .string (⟨#[]⟩), .string (⟨#[]⟩), .int .i64 0, .slice none 0 0, .int .u64 0, .int .i64 0, .int .i64 0, .slice none 0 0, .slice none 0 0, u, .slice none 0 0] ∧ But (fun q => q = N13) w38 xw) rfl rfl rfl (by kernel_rfl) (by kernel_rfl) (Try.call122 _ _) (stampsR_any N13 N10 k _ _ _ _ v l w38 hq51 hk73 (by omega) (hs.below hB69) (fun z hz => (hok z hz).below hB69) (fun hn k hk => by have := sl_ltS hs (fun y _ => entE_neB y) hn hk; omega) (fun z hz hn k hk => by have := sl_ltS (hok z hz).ops (fun y _ => opE_neB y) hn hk; omega)) (by rintro e x ⟨u, rfl, hq75, hq76, hb77⟩; exact ⟨_, rfl, ⟨u, rfl, hq75, hq76, hb77⟩⟩)) ?_; clear h63
 rintro _ w65 a64 ⟨u74, rfl, hq75, hq76, hb77⟩ h64
 have hz78 := hb77.size
 have hl79 := sl_len (row_sl hq75 (intE_len .u64))
 have hl80 := hq76.lt
 refine pl_nil ?_
 refine co_blockN ?_
 refine co_then ?_
 refine co_reg ?_
 refine pk0 (v := .int .i64 2) h64 rfl fun a81 h81 => ?_; clear h64
 refine pk0 (v := .int .i64 2) h81 rfl fun a82 h82 => ?_; clear h81
 refine pl_nil ?_
 refine co_then ?_
 refine co_unroll (n := 0) ?_
 refine co_seq ?_
 refine co_reg ?_
 refine pk0 (v := .bool (decide (2 < 2))) h82 rfl fun a83 h83 => ?_; clear h82
 refine pl_nil ?_
 refine co_then ?_
 refine co_seq ?_
 have hc84 : (decide (2 < 2)) = false := decide_eq_false (by omega)
 rw [hc84] at h83; clear hc84
 refine co_false h83 rfl ?_
 refine wp_exit ?_
 refine co_thenX ?_
 refine co_thenX ?_
 refine co_blockX ?_
 refine co_then ?_
 refine co_seq ?_
 refine co_reg ?_
 refine pk (v := .agg #[.int .i64 k, .int .i64 (mxI ep 0), .int .i64 0, .int .i64 0, .bool false, .int .u64 0, .int .u64 0, .int .i64 (mxI n 0), .int .i64 (mxI m 0), .int .i64 (mxI p 0), .int .i64 0, .string (⟨#[]⟩), .string (⟨#[]⟩), .int .i64 0, .slice none 0 0, .int .u64 0, .int .i64 0, .int .i64 0, .slice none 0 0, .slice none 0 0, u74, .slice none 0 0]) h83 rfl (rn_loadN rfl rfl Try.underlying74 rfl (by kernel_rfl) hq76.all) fun a85 h85 => ?_; clear h83
 have hk91 := hk5.kept hg14 (by simp)
 have hk92 := hk91.kept hg23 (by simp; omega)
 have hk93 := hk92.but hb52 (by first | omega | (simp; omega))
 have hk94 := hk93.but hb77 (by first | omega | (simp; omega))
 refine pwD h85 rfl (op_storeN rfl rfl rfl (all_cons rfl (all_cons rfl (all_cons rfl (all_cons rfl (all_cons rfl (all_cons rfl (all_cons rfl (all_cons rfl (all_cons rfl (all_cons rfl (all_cons rfl (all_cons rfl (all_cons rfl (all_cons rfl (all_cons rfl (all_cons rfl (all_cons rfl (all_cons rfl (all_cons rfl (all_cons rfl (all_cons (row_one hq75) (all_cons rfl all_nil)))))))))))))))))))))) (by kernel_rfl) hk94 rfl) ?_; clear h85
 rintro _ w87 a86 ⟨hk88, hz89, hg90⟩ h86
 have hk88' : Blk w87 N3 74 #[.int .i64 k, .int .i64 (mxI ep 0), .int .i64 0, .int .i64 0, .bool false, .int .u64 0, .int .u64 0, .int .i64 (mxI n 0), .int .i64 (mxI m 0), .int .i64 (mxI p 0), .int .i64 0, .string (⟨#[]⟩), .string (⟨#[]⟩), .int .i64 0, .slice none 0 0, .int .u64 0, .int .i64 0, .int .i64 0, .slice none 0 0, .slice none 0 0, u74, .slice none 0 0] := hk88; clear hk88
 have hz95 := hg90.size
 refine pl_nil ?_
 refine co_then ?_
 refine wp_ret ?_
 refine co_retC (Q := fun _ _ _ => True) h86 rfl rfl hk88' Try.underlying74 rfl (by kernel_rfl) ?_
 have hr96 := row_kept_at hq75 hg90 (own_neT hq75 hk94 (by decide))
 have hB97 := hb_foot hB69 hb77 (fun i hlt hS => by (try simp at hS); first | omega | (simp; omega) | simp_all)
 have hB98 := hb_at hB97 hg90 (by omega)
 exact ⟨_, rfl, (row_lows hr96 (by omega)), hB98⟩
end Go.Proofs.Ytlbemlodcdgakaa

/- Package relay: Fwd, Ack. Conditions: up to 100 operations an entry. -/
namespace Go.Proofs.Ytlbemlodcdgakaa
open Go.RowKit Go.PlainAid
set_option linter.unusedVariables false
set_option linter.unusedSimpArgs false


/-- What is adopted; where it begins; what is sent. -/
def fwA (l : List EntT) (gd : Int) : List EntT := l.take (bwI gd ((l.length : Nat) : Int)).toNat
def fwF (l : List EntT) (gd fr : Int) : Int := bwI fr (((fwA l gd).length : Nat) : Int)
def fwR (l : List EntT) (gd fr : Int) : List EntT := (fwA l gd).drop (fwF l gd fr).toNat
def fwE (l : List EntT) (gd fr : Int) : List EntT := (fwR l gd fr).take (mnI (((fwR l gd fr).length : Nat) : Int) 4).toNat
def akS (l : List EntT) (gd fr : Int) : List Int := tsL ((fwR l gd fr).take (mnI ((stN (fwR l gd fr) : Nat) : Int) 8).toNat)

set_option maxRecDepth 100000 in
theorem fwd_any (ep : Int) (ba : Int) (fr : Int) (sb : Int) (hz : Int) (v : Value) (l : List EntT) (gd : Int) (w : World) (hs : SliceOf entE 4 w v l) (hok : ∀ z ∈ l, EntOk w z) (hl20 : ∀ z ∈ l, z.opl.length ≤ 100) :
    Calls Try.prog 26 #[.int .i64 ep, .int .i64 ba, .int .i64 fr, .int .i64 sb, .int .u64 hz, v, .int .i64 gd] w fun e w' => ∃ (L2 : List EntT) (u : Value), e = .returned (.agg #[.int .i64 3, .int .i64 (mxI ep 0), .int .i64 (mxI sb 0), .int .i64 0, .bool false, .int .u64 hz, .int .u64 0, .int .i64 (mxI ba 0), .int .i64 (mxI (fwF l gd fr) 0), .int .i64 (mxI ((stN (fwA l gd) : Nat) : Int) 0), .int .i64 0, .string (⟨#[]⟩), .string (⟨#[]⟩), .int .i64 0, .slice none 0 0, .int .u64 0, .int .i64 0, .int .i64 0, .slice none 0 0, u, .slice none 0 0, .slice none 0 0]) ∧ w'.ownsRow w.heap.size 38 4 u L2.length (L2.flatMap entE) ∧ EntsH (fun _ => False) w.heap.size w' L2 ∧ L2.map e0 = (fwE l gd fr).map e0 ∧ Below w.heap.size w w' := by
 have hB0 := Below.refl w.heap.size w
 have hl_hs := sl_len hs
 refine co_enter (n := 41) Try.func26 rfl rfl rfl [(0, .int .i64 ep), (1, .int .i64 ba), (2, .int .i64 fr), (3, .int .i64 sb), (4, .int .u64 hz), (5, v), (6, .int .i64 gd)] rfl (fun a h0 => ?_)
 refine co_seq ?_
 refine co_reg ?_
 refine pw h0 rfl (op_new (v := fun N => pt N 0) (T := 74) (cs := #[.int .i64 0, .int .i64 0, .int .i64 0, .int .i64 0, .bool false, .int .u64 0, .int .u64 0, .int .i64 0, .int .i64 0, .int .i64 0, .int .i64 0, .string (⟨#[]⟩), .string (⟨#[]⟩), .int .i64 0, .slice none 0 0, .int .u64 0, .int .i64 0, .int .i64 0, .slice none 0 0, .slice none 0 0, .slice none 0 0, .slice none 0 0]) (by kernel_rfl) (by kernel_rfl) (by kernel_rfl)) ?_; clear h0
 rintro _ w2 a1 ⟨N3, rfl, hN6, hz7, hk5, hg4⟩ h1
 have hz8 := hg4.size
 try dsimp only at h1
 refine pl_nil ?_
 refine co_then ?_
 refine co_seq ?_
 refine co_reg ?_
 refine pk0 (v := v) h1 rfl fun a9 h9 => ?_; clear h1
 refine pk0 (v := .int .i64 gd) h9 rfl fun a10 h10 => ?_; clear h9
 refine pk0 (v := v) h10 rfl fun a11 h11 => ?_; clear h10
 have hB12 := hb_new hB0 hg4
 refine pk (v := .int .i64 ((l.length : Nat) : Int)) h11 rfl (rn_len rfl rfl Try.underlying69 (hs.below hB12)) fun a13 h13 => ?_; clear h11
 refine pw h13 rfl (op_call (args := #[.int .i64 gd, .int .i64 ((l.length : Nat) : Int)]) (R := fun res xw => res = .int .i64 (bwI gd ((l.length : Nat) : Int)) ∧ Below w2.heap.size w2 xw) rfl rfl rfl (by kernel_rfl) (by kernel_rfl) (Try.call67 _ _) (between_any gd l.length w2 ) (by rintro e x ⟨rfl, hb16⟩; exact ⟨_, rfl, ⟨rfl, hb16⟩⟩)) ?_; clear h13
 rintro _ w15 a14 ⟨rfl, hb16⟩ h14
 have hz17 := hb16.size
 have hm18 := bwI_p gd l.length
 have hB19 := hb_call hB12 hb16
 refine pk (v := subV v 0 ((bwI gd ((l.length : Nat) : Int)).toNat) 4) h14 rfl (rn_sliceTo rfl rfl rfl Try.underlying69 Try.sizeOf38 (hs.below hB19) (by omega) (by omega)) fun a20 h20 => ?_; clear h14
 refine pk0 (v := subV v 0 ((bwI gd ((l.length : Nat) : Int)).toNat) 4) h20 rfl fun a21 h21 => ?_; clear h20
 refine pl_nil ?_
 refine co_then ?_
 refine co_seq ?_
 refine co_reg ?_
 refine pk0 (v := .int .i64 fr) h21 rfl fun a22 h22 => ?_; clear h21
 refine pk0 (v := subV v 0 ((bwI gd ((l.length : Nat) : Int)).toNat) 4) h22 rfl fun a23 h23 => ?_; clear h22
 refine pk (v := .int .i64 (((l.take ((bwI gd ((l.length : Nat) : Int)).toNat)).length : Nat) : Int)) h23 rfl (rn_len rfl rfl Try.underlying69 (sl_take (hs.below hB19) _ (by omega))) fun a24 h24 => ?_; clear h23
 refine pw h24 rfl (op_call (args := #[.int .i64 fr, .int .i64 (((l.take ((bwI gd ((l.length : Nat) : Int)).toNat)).length : Nat) : Int)]) (R := fun res xw => res = .int .i64 (bwI fr ((((l.take ((bwI gd ((l.length : Nat) : Int)).toNat)).length) : Nat) : Int)) ∧ Below w15.heap.size w15 xw) rfl rfl rfl (by kernel_rfl) (by kernel_rfl) (Try.call67 _ _) (between_any fr ((l.take ((bwI gd ((l.length : Nat) : Int)).toNat)).length) w15 ) (by rintro e x ⟨rfl, hb27⟩; exact ⟨_, rfl, ⟨rfl, hb27⟩⟩)) ?_; clear h24
 rintro _ w26 a25 ⟨rfl, hb27⟩ h25
 have hz28 := hb27.size
 have hm29 := bwI_p fr ((l.take ((bwI gd ((l.length : Nat) : Int)).toNat)).length)
 refine pk0 (v := .int .i64 (bwI fr ((((l.take ((bwI gd ((l.length : Nat) : Int)).toNat)).length) : Nat) : Int))) h25 rfl fun a30 h30 => ?_; clear h25
 refine pl_nil ?_
 refine co_then ?_
 refine co_seq ?_
 refine dr_gen (fun x => Below w.heap.size w x) (by kernel_rfl) (fun w31 hg32 => ?_) (fun w31 hg32 => ?_)
 ·
  have hz33 := hg32.size
  have hB34 := hb_call hB19 hb27
  have hB35 := hb_new hB34 hg32
  exact hB35
 have hz36 := hg32.size
 have hB37 := hb_call hB19 hb27
 have hB38 := hb_new hB37 hg32
 refine dk0 0 (v := .int .i64 ep) h30 rfl rfl hB38 fun a39 h39 => ?_; clear h30
 refine dk0 1 (v := .int .i64 ba) h39 rfl rfl hB38 fun a40 h40 => ?_; clear h39
 refine dk0 2 (v := .int .i64 (bwI fr ((((l.take ((bwI gd ((l.length : Nat) : Int)).toNat)).length) : Nat) : Int))) h40 rfl rfl hB38 fun a41 h41 => ?_; clear h40
 refine dk0 3 (v := subV v 0 ((bwI gd ((l.length : Nat) : Int)).toNat) 4) h41 rfl rfl hB38 fun a42 h42 => ?_; clear h41
 refine dk0 6 (v := .int .i64 sb) h42 rfl rfl hB38 fun a43 h43 => ?_; clear h42
 refine dk0 7 (v := .int .u64 hz) h43 rfl rfl hB38 fun a44 h44 => ?_; clear h43
 refine dk0 9 (v := subV v 0 ((bwI gd ((l.length : Nat) : Int)).toNat) 4) h44 rfl rfl hB38 fun a45 h45 => ?_; clear h44
 refine dk0 10 (v := .int .i64 (bwI fr ((((l.take ((bwI gd ((l.length : Nat) : Int)).toNat)).length) : Nat) : Int))) h45 rfl rfl hB38 fun a46 h46 => ?_; clear h45
 refine dk 11 (v := subV (subV v 0 ((bwI gd ((l.length : Nat) : Int)).toNat) 4) ((bwI fr ((((l.take ((bwI gd ((l.length : Nat) : Int)).toNat)).length) : Nat) : Int)).toNat) ((l.take ((bwI gd ((l.length : Nat) : Int)).toNat)).length) 4) h46 rfl rfl hB38 (fun x hx => (rn_sliceFrom rfl rfl rfl Try.underlying69 Try.sizeOf38 (sl_take (hs.below hx) _ (by omega)) (by omega) (by omega))) fun a47 h47 => ?_; clear h46
 refine d1 4 h47 rfl rfl (op_call (args := #[subV v 0 ((bwI gd ((l.length : Nat) : Int)).toNat) 4]) (R := fun res xw => res = .int .i64 ((stN (l.take ((bwI gd ((l.length : Nat) : Int)).toNat)) : Nat) : Int) ∧ Below w31.heap.size w31 xw) rfl rfl rfl (by kernel_rfl) (by kernel_rfl) (Try.call70 _ _) (itemStamped_any (subV v 0 ((bwI gd ((l.length : Nat) : Int)).toNat) 4) (l.take ((bwI gd ((l.length : Nat) : Int)).toNat)) w31 (sl_take (hs.below hB38) _ (by omega)) (fun z hz => ((fun z hz => hok z (List.mem_of_mem_take hz)) z hz).below hB38)) (by rintro e x ⟨rfl, hb50⟩; exact ⟨_, rfl, ⟨rfl, hb50⟩⟩)) ?_ ?_; clear h47
 ·
  rintro _ w49 ⟨rfl, hb50⟩
  have hz51 := hb50.size
  have hB52 := hb_call hB38 hb50
  exact hB52
 rintro _ w49 a48 ⟨rfl, hb50⟩ h48
 have hz51 := hb50.size
 have hB52 := hb_call hB38 hb50
 refine d1 5 h48 rfl rfl (op_call (args := #[.int .i64 ep, .int .i64 ba, .int .i64 (bwI fr ((((l.take ((bwI gd ((l.length : Nat) : Int)).toNat)).length) : Nat) : Int)), .int .i64 ((stN (l.take ((bwI gd ((l.length : Nat) : Int)).toNat)) : Nat) : Int)]) (R := fun res xw => ∃ N0 : Nat, ∃ N1 : Nat, ∃ N2 : Nat, ∃ N3 : Nat, res = .func (.func 118) #[] #[pt N0 0, pt N1 0, pt N2 0, pt N3 0] ∧ Blk xw N0 3 #[.int .i64 ep] ∧ w49.heap.size ≤ N0 ∧ Blk xw N1 3 #[.int .i64 ba] ∧ w49.heap.size ≤ N1 ∧ Blk xw N2 3 #[.int .i64 (bwI fr ((((l.take ((bwI gd ((l.length : Nat) : Int)).toNat)).length) : Nat) : Int))] ∧ w49.heap.size ≤ N2 ∧ Blk xw N3 3 #[.int .i64 ((stN (l.take ((bwI gd ((l.length : Nat) : Int)).toNat)) : Nat) : Int)] ∧ w49.heap.size ≤ N3 ∧ Below w49.heap.size w49 xw) rfl rfl rfl (by kernel_rfl) (by kernel_rfl) (Try.call69 _ _) (numbers_any ep ba (bwI fr ((((l.take ((bwI gd ((l.length : Nat) : Int)).toNat)).length) : Nat) : Int)) ((stN (l.take ((bwI gd ((l.length : Nat) : Int)).toNat)) : Nat) : Int) w49 ) (by rintro e x ⟨N0, N1, N2, N3, rfl, hq59, hq60, hq61, hq62, hq63, hq64, hq65, hq66, hb67⟩; exact ⟨_, rfl, ⟨N0, N1, N2, N3, rfl, hq59, hq60, hq61, hq62, hq63, hq64, hq65, hq66, hb67⟩⟩)) ?_ ?_; clear h48
 ·
  rintro _ w54 ⟨N055, N156, N257, N358, rfl, hq59, hq60, hq61, hq62, hq63, hq64, hq65, hq66, hb67⟩
  have hz68 := hb67.size
  have hl69 := hq59.lt
  have hl70 := hq61.lt
  have hl71 := hq63.lt
  have hl72 := hq65.lt
  have hB73 := hb_call hB52 hb67
  exact hB73
 rintro _ w54 a53 ⟨N055, N156, N257, N358, rfl, hq59, hq60, hq61, hq62, hq63, hq64, hq65, hq66, hb67⟩ h53
 have hz68 := hb67.size
 have hl69 := hq59.lt
 have hl70 := hq61.lt
 have hl71 := hq63.lt
 have hl72 := hq65.lt
 have hB73 := hb_call hB52 hb67
 refine d1 8 h53 rfl rfl (op_call (args := #[.int .i64 sb, .int .u64 hz]) (R := fun res xw => ∃ N0 : Nat, ∃ N1 : Nat, res = .func (.func 119) #[] #[pt N0 0, pt N1 0] ∧ Blk xw N0 3 #[.int .i64 sb] ∧ w54.heap.size ≤ N0 ∧ Blk xw N1 29 #[.int .u64 hz] ∧ w54.heap.size ≤ N1 ∧ Below w54.heap.size w54 xw) rfl rfl rfl (by kernel_rfl) (by kernel_rfl) (Try.call71 _ _) (stand_any sb hz w54 ) (by rintro e x ⟨N0, N1, rfl, hq78, hq79, hq80, hq81, hb82⟩; exact ⟨_, rfl, ⟨N0, N1, rfl, hq78, hq79, hq80, hq81, hb82⟩⟩)) ?_ ?_; clear h53
 ·
  rintro _ w75 ⟨N076, N177, rfl, hq78, hq79, hq80, hq81, hb82⟩
  have hz83 := hb82.size
  have hl84 := hq78.lt
  have hl85 := hq80.lt
  have hB86 := hb_call hB73 hb82
  exact hB86
 rintro _ w75 a74 ⟨N076, N177, rfl, hq78, hq79, hq80, hq81, hb82⟩ h74
 have hz83 := hb82.size
 have hl84 := hq78.lt
 have hl85 := hq80.lt
 have hB86 := hb_call hB73 hb82
 refine d1 12 h74 rfl rfl (op_call (args := #[subV (subV v 0 ((bwI gd ((l.length : Nat) : Int)).toNat) 4) ((bwI fr ((((l.take ((bwI gd ((l.length : Nat) : Int)).toNat)).length) : Nat) : Int)).toNat) ((l.take ((bwI gd ((l.length : Nat) : Int)).toNat)).length) 4]) (R := fun res xw => ∃ N0 : Nat, res = .func (.func 120) #[] #[pt N0 0] ∧ Blk xw N0 69 #[(subV (subV v 0 ((bwI gd ((l.length : Nat) : Int)).toNat) 4) ((bwI fr ((((l.take ((bwI gd ((l.length : Nat) : Int)).toNat)).length) : Nat) : Int)).toNat) ((l.take ((bwI gd ((l.length : Nat) : Int)).toNat)).length) 4)] ∧ w75.heap.size ≤ N0 ∧ Below w75.heap.size w75 xw) rfl rfl rfl (by kernel_rfl) (by kernel_rfl) (Try.call72 _ _) (entriesO_any (subV (subV v 0 ((bwI gd ((l.length : Nat) : Int)).toNat) 4) ((bwI fr ((((l.take ((bwI gd ((l.length : Nat) : Int)).toNat)).length) : Nat) : Int)).toNat) ((l.take ((bwI gd ((l.length : Nat) : Int)).toNat)).length) 4) ((l.take ((bwI gd ((l.length : Nat) : Int)).toNat)).drop ((bwI fr ((((l.take ((bwI gd ((l.length : Nat) : Int)).toNat)).length) : Nat) : Int)).toNat)) w75 (sl_drop (sl_take (hs.below hB86) _ (by omega)) _ (by omega))) (by rintro e x ⟨N0, rfl, hq90, hq91, hb92⟩; exact ⟨_, rfl, ⟨N0, rfl, hq90, hq91, hb92⟩⟩)) ?_ ?_; clear h74
 ·
  rintro _ w88 ⟨N089, rfl, hq90, hq91, hb92⟩
  have hz93 := hb92.size
  have hl94 := hq90.lt
  have hB95 := hb_call hB86 hb92
  exact hB95
 rintro _ w88 a87 ⟨N089, rfl, hq90, hq91, hb92⟩ h87
 have hz93 := hb92.size
 have hl94 := hq90.lt
 have hB95 := hb_call hB86 hb92
 refine d1 13 h87 rfl rfl (op_new (v := fun N => .slice (some ⟨N, 0, none⟩) 3 3) (T := 115) (cs := #[.func (.func 118) #[] #[pt N055 0, pt N156 0, pt N257 0, pt N358 0], .func (.func 119) #[] #[pt N076 0, pt N177 0], .func (.func 120) #[] #[pt N089 0]]) (by kernel_rfl) (by kernel_rfl) (by kernel_rfl)) ?_ ?_; clear h87
 ·
  rintro _ w97 ⟨N98, rfl, hN101, hz102, hk100, hg99⟩
  have hz103 := hg99.size
  have hB104 := hb_new hB95 hg99
  exact hB104
 rintro _ w97 a96 ⟨N98, rfl, hN101, hz102, hk100, hg99⟩ h96
 have hz103 := hg99.size
 try dsimp only at h96
 have hB104 := hb_new hB95 hg99
 have hk107 := hq59.below hb82
 have hk108 := hk107.below hb92
 have hk109 := hk108.kept hg99 (by simp)
 have hk110 := hq61.below hb82
 have hk111 := hk110.below hb92
 have hk112 := hk111.kept hg99 (by simp)
 have hk113 := hq63.below hb82
 have hk114 := hk113.below hb92
 have hk115 := hk114.kept hg99 (by simp)
 have hk116 := hq65.below hb82
 have hk117 := hk116.below hb92
 have hk118 := hk117.kept hg99 (by simp)
 have hk119 := hq78.below hb92
 have hk120 := hk119.kept hg99 (by simp)
 have hk121 := hq80.below hb92
 have hk122 := hk121.kept hg99 (by simp)
 have hk123 := hq90.kept hg99 (by simp)
 refine d1 14 h96 rfl rfl (op_call (args := #[.int .i64 3, .slice (some ⟨N98, 0, none⟩) 3 3]) (R := fun res xw => ∃ L2 : List EntT, ∃ u : Value, res = .agg #[.int .i64 3, .int .i64 (mxI ep 0), .int .i64 (mxI sb 0), .int .i64 0, .bool false, .int .u64 hz, .int .u64 0, .int .i64 (mxI ba 0), .int .i64 (mxI (bwI fr ((((l.take ((bwI gd ((l.length : Nat) : Int)).toNat)).length) : Nat) : Int)) 0), .int .i64 (mxI ((stN (l.take ((bwI gd ((l.length : Nat) : Int)).toNat)) : Nat) : Int) 0), .int .i64 0, .string (⟨#[]⟩), .string (⟨#[]⟩), .int .i64 0, .slice none 0 0, .int .u64 0, .int .i64 0, .int .i64 0, .slice none 0 0, u, .slice none 0 0, .slice none 0 0] ∧ xw.ownsRow w97.heap.size 38 4 u L2.length (L2.flatMap entE) ∧ EntsH (fun _ => False) w97.heap.size xw L2 ∧ L2.map e0 = (((l.take ((bwI gd ((l.length : Nat) : Int)).toNat)).drop ((bwI fr ((((l.take ((bwI gd ((l.length : Nat) : Int)).toNat)).length) : Nat) : Int)).toNat)).take (mnI (((l.take ((bwI gd ((l.length : Nat) : Int)).toNat)).drop ((bwI fr ((((l.take ((bwI gd ((l.length : Nat) : Int)).toNat)).length) : Nat) : Int)).toNat)).length : Int) 4).toNat).map e0 ∧ Below w97.heap.size w97 xw) rfl rfl rfl (by kernel_rfl) (by kernel_rfl) (Try.call68 _ _) (message3_any N98 N055 N156 N257 N358 N076 N177 N089 3 ep ba (bwI fr ((((l.take ((bwI gd ((l.length : Nat) : Int)).toNat)).length) : Nat) : Int)) ((stN (l.take ((bwI gd ((l.length : Nat) : Int)).toNat)) : Nat) : Int) sb hz (subV (subV v 0 ((bwI gd ((l.length : Nat) : Int)).toNat) 4) ((bwI fr ((((l.take ((bwI gd ((l.length : Nat) : Int)).toNat)).length) : Nat) : Int)).toNat) ((l.take ((bwI gd ((l.length : Nat) : Int)).toNat)).length) 4) ((l.take ((bwI gd ((l.length : Nat) : Int)).toNat)).drop ((bwI fr ((((l.take ((bwI gd ((l.length : Nat) : Int)).toNat)).length) : Nat) : Int)).toNat)) w97 hk100 hk109 hk112 hk115 hk118 hk120 hk122 hk123 (sl_drop (sl_take (hs.below hB104) _ (by omega)) _ (by omega)) (fun z hz => ((fun z hz => (fun z hz => hok z (List.mem_of_mem_take hz)) z (List.mem_of_mem_drop hz)) z hz).below hB104) (fun z hz => hl20 z (List.mem_of_mem_take (List.mem_of_mem_drop hz)))) (by rintro e x ⟨L2, u, rfl, hq126, hq127, hq128, hb129⟩; exact ⟨_, rfl, ⟨L2, u, rfl, hq126, hq127, hq128, hb129⟩⟩)) ?_ ?_; clear h96
 ·
  rintro _ w106 ⟨L2124, u125, rfl, hq126, hq127, hq128, hb129⟩
  have hz130 := hb129.size
  have hl131 := sl_len (row_sl hq126 entE_len)
  have hB132 := hb_call hB104 hb129
  exact hB132
 rintro _ w106 a105 ⟨L2124, u125, rfl, hq126, hq127, hq128, hb129⟩ h105
 have hz130 := hb129.size
 have hl131 := sl_len (row_sl hq126 entE_len)
 have hB132 := hb_call hB104 hb129
 have hk138 := hk5.below hb16
 have hk139 := hk138.below hb27
 have hk140 := hk139.kept hg32 (by simp)
 have hk141 := hk140.below hb50
 have hk142 := hk141.below hb67
 have hk143 := hk142.below hb82
 have hk144 := hk143.below hb92
 have hk145 := hk144.kept hg99 (by simp)
 have hk146 := hk145.below hb129
 refine d1D 15 h105 rfl rfl (op_storeN rfl rfl rfl (all_cons rfl (all_cons rfl (all_cons rfl (all_cons rfl (all_cons rfl (all_cons rfl (all_cons rfl (all_cons rfl (all_cons rfl (all_cons rfl (all_cons rfl (all_cons rfl (all_cons rfl (all_cons rfl (all_cons rfl (all_cons rfl (all_cons rfl (all_cons rfl (all_cons rfl (all_cons (row_one hq126) (all_cons rfl (all_cons rfl all_nil)))))))))))))))))))))) (by kernel_rfl) hk146 rfl) ?_ ?_; clear h105
 ·
  rintro _ w134 ⟨hk135, hz136, hg137⟩
  have hk135' : Blk w134 N3 74 #[.int .i64 3, .int .i64 (mxI ep 0), .int .i64 (mxI sb 0), .int .i64 0, .bool false, .int .u64 hz, .int .u64 0, .int .i64 (mxI ba 0), .int .i64 (mxI (bwI fr ((((l.take ((bwI gd ((l.length : Nat) : Int)).toNat)).length) : Nat) : Int)) 0), .int .i64 (mxI ((stN (l.take ((bwI gd ((l.length : Nat) : Int)).toNat)) : Nat) : Int) 0), .int .i64 0, .string (⟨#[]⟩), .string (⟨#[]⟩), .int .i64 0, .slice none 0 0, .int .u64 0, .int .i64 0, .int .i64 0, .slice none 0 0, u125, .slice none 0 0, .slice none 0 0] := hk135; clear hk135
  have hz147 := hg137.size
  have hB148 := hb_at hB132 hg137 (by omega)
  exact hB148
 rintro _ w134 a133 ⟨hk135, hz136, hg137⟩ h133
 have hk135' : Blk w134 N3 74 #[.int .i64 3, .int .i64 (mxI ep 0), .int .i64 (mxI sb 0), .int .i64 0, .bool false, .int .u64 hz, .int .u64 0, .int .i64 (mxI ba 0), .int .i64 (mxI (bwI fr ((((l.take ((bwI gd ((l.length : Nat) : Int)).toNat)).length) : Nat) : Int)) 0), .int .i64 (mxI ((stN (l.take ((bwI gd ((l.length : Nat) : Int)).toNat)) : Nat) : Int) 0), .int .i64 0, .string (⟨#[]⟩), .string (⟨#[]⟩), .int .i64 0, .slice none 0 0, .int .u64 0, .int .i64 0, .int .i64 0, .slice none 0 0, u125, .slice none 0 0, .slice none 0 0] := hk135; clear hk135
 have hz147 := hg137.size
 refine dr_done (by kernel_rfl) ?_
 refine co_then ?_
 refine wp_ret ?_
 refine co_retC (Q := fun _ _ _ => True) h133 rfl rfl hk135' Try.underlying74 rfl (by kernel_rfl) ?_
 have hr148 := row_kept_at hq126 hg137 (own_neT hq126 hk146 (by decide))
 have hE149 := hq127.blk hk146 (by decide) hg137
 have hB150 := hb_at hB132 hg137 (by omega)
 exact ⟨_, _, (by rfl), (row_lows hr148 (by omega)), (entsH_low hE149 (by omega)), hq128, hB150⟩
set_option maxRecDepth 100000 in
theorem ack_any (ep : Int) (gd : Int) (he : Int) (fr : Int) (v : Value) (l : List EntT) (w : World) (hs : SliceOf entE 4 w v l) (hok : ∀ z ∈ l, EntOk w z) :
    Calls Try.prog 28 #[.int .i64 ep, .int .i64 gd, .int .i64 he, .int .i64 fr, v] w fun e w' => ∃ (u : Value), e = .returned (.agg #[.int .i64 4, .int .i64 (mxI ep 0), .int .i64 0, .int .i64 0, .bool false, .int .u64 0, .int .u64 0, .int .i64 (mxI (((fwA l gd).length : Nat) : Int) 0), .int .i64 (mxI he 0), .int .i64 (mxI (fwF l gd fr) 0), .int .i64 0, .string (⟨#[]⟩), .string (⟨#[]⟩), .int .i64 0, .slice none 0 0, .int .u64 0, .int .i64 0, .int .i64 0, .slice none 0 0, .slice none 0 0, u, .slice none 0 0]) ∧ w'.ownsRow w.heap.size 29 1 u (akS l gd fr).length ((akS l gd fr).flatMap (intE .u64)) ∧ Below w.heap.size w w' := by
 have hB0 := Below.refl w.heap.size w
 have hl_hs := sl_len hs
 refine co_enter (n := 34) Try.func28 rfl rfl rfl [(0, .int .i64 ep), (1, .int .i64 gd), (2, .int .i64 he), (3, .int .i64 fr), (4, v)] rfl (fun a h0 => ?_)
 refine co_seq ?_
 refine co_reg ?_
 refine pw h0 rfl (op_new (v := fun N => pt N 0) (T := 74) (cs := #[.int .i64 0, .int .i64 0, .int .i64 0, .int .i64 0, .bool false, .int .u64 0, .int .u64 0, .int .i64 0, .int .i64 0, .int .i64 0, .int .i64 0, .string (⟨#[]⟩), .string (⟨#[]⟩), .int .i64 0, .slice none 0 0, .int .u64 0, .int .i64 0, .int .i64 0, .slice none 0 0, .slice none 0 0, .slice none 0 0, .slice none 0 0]) (by kernel_rfl) (by kernel_rfl) (by kernel_rfl)) ?_; clear h0
 rintro _ w2 a1 ⟨N3, rfl, hN6, hz7, hk5, hg4⟩ h1
 have hz8 := hg4.size
 try dsimp only at h1
 refine pl_nil ?_
 refine co_then ?_
 refine co_seq ?_
 refine co_reg ?_
 refine pk0 (v := v) h1 rfl fun a9 h9 => ?_; clear h1
 refine pk0 (v := .int .i64 gd) h9 rfl fun a10 h10 => ?_; clear h9
 refine pk0 (v := v) h10 rfl fun a11 h11 => ?_; clear h10
 have hB12 := hb_new hB0 hg4
 refine pk (v := .int .i64 ((l.length : Nat) : Int)) h11 rfl (rn_len rfl rfl Try.underlying69 (hs.below hB12)) fun a13 h13 => ?_; clear h11
 refine pw h13 rfl (op_call (args := #[.int .i64 gd, .int .i64 ((l.length : Nat) : Int)]) (R := fun res xw => res = .int .i64 (bwI gd ((l.length : Nat) : Int)) ∧ Below w2.heap.size w2 xw) rfl rfl rfl (by kernel_rfl) (by kernel_rfl) (Try.call67 _ _) (between_any gd l.length w2 ) (by rintro e x ⟨rfl, hb16⟩; exact ⟨_, rfl, ⟨rfl, hb16⟩⟩)) ?_; clear h13
 rintro _ w15 a14 ⟨rfl, hb16⟩ h14
 have hz17 := hb16.size
 have hm18 := bwI_p gd l.length
 have hB19 := hb_call hB12 hb16
 refine pk (v := subV v 0 ((bwI gd ((l.length : Nat) : Int)).toNat) 4) h14 rfl (rn_sliceTo rfl rfl rfl Try.underlying69 Try.sizeOf38 (hs.below hB19) (by omega) (by omega)) fun a20 h20 => ?_; clear h14
 refine pk0 (v := subV v 0 ((bwI gd ((l.length : Nat) : Int)).toNat) 4) h20 rfl fun a21 h21 => ?_; clear h20
 refine pl_nil ?_
 refine co_then ?_
 refine co_seq ?_
 refine co_reg ?_
 refine pk0 (v := .int .i64 fr) h21 rfl fun a22 h22 => ?_; clear h21
 refine pk0 (v := subV v 0 ((bwI gd ((l.length : Nat) : Int)).toNat) 4) h22 rfl fun a23 h23 => ?_; clear h22
 refine pk (v := .int .i64 (((l.take ((bwI gd ((l.length : Nat) : Int)).toNat)).length : Nat) : Int)) h23 rfl (rn_len rfl rfl Try.underlying69 (sl_take (hs.below hB19) _ (by omega))) fun a24 h24 => ?_; clear h23
 refine pw h24 rfl (op_call (args := #[.int .i64 fr, .int .i64 (((l.take ((bwI gd ((l.length : Nat) : Int)).toNat)).length : Nat) : Int)]) (R := fun res xw => res = .int .i64 (bwI fr ((((l.take ((bwI gd ((l.length : Nat) : Int)).toNat)).length) : Nat) : Int)) ∧ Below w15.heap.size w15 xw) rfl rfl rfl (by kernel_rfl) (by kernel_rfl) (Try.call67 _ _) (between_any fr ((l.take ((bwI gd ((l.length : Nat) : Int)).toNat)).length) w15 ) (by rintro e x ⟨rfl, hb27⟩; exact ⟨_, rfl, ⟨rfl, hb27⟩⟩)) ?_; clear h24
 rintro _ w26 a25 ⟨rfl, hb27⟩ h25
 have hz28 := hb27.size
 have hm29 := bwI_p fr ((l.take ((bwI gd ((l.length : Nat) : Int)).toNat)).length)
 refine pk0 (v := .int .i64 (bwI fr ((((l.take ((bwI gd ((l.length : Nat) : Int)).toNat)).length) : Nat) : Int))) h25 rfl fun a30 h30 => ?_; clear h25
 refine pl_nil ?_
 refine co_then ?_
 refine co_seq ?_
 refine dr_gen (fun x => Below w.heap.size w x) (by kernel_rfl) (fun w31 hg32 => ?_) (fun w31 hg32 => ?_)
 ·
  have hz33 := hg32.size
  have hB34 := hb_call hB19 hb27
  have hB35 := hb_new hB34 hg32
  exact hB35
 have hz36 := hg32.size
 have hB37 := hb_call hB19 hb27
 have hB38 := hb_new hB37 hg32
 refine dk0 0 (v := .int .i64 ep) h30 rfl rfl hB38 fun a39 h39 => ?_; clear h30
 refine dk0 1 (v := subV v 0 ((bwI gd ((l.length : Nat) : Int)).toNat) 4) h39 rfl rfl hB38 fun a40 h40 => ?_; clear h39
 refine dk 2 (v := .int .i64 (((l.take ((bwI gd ((l.length : Nat) : Int)).toNat)).length : Nat) : Int)) h40 rfl rfl hB38 (fun x hx => (rn_len rfl rfl Try.underlying69 (sl_take (hs.below hx) _ (by omega)))) fun a41 h41 => ?_; clear h40
 refine dk0 3 (v := .int .i64 he) h41 rfl rfl hB38 fun a42 h42 => ?_; clear h41
 refine dk0 4 (v := .int .i64 (bwI fr ((((l.take ((bwI gd ((l.length : Nat) : Int)).toNat)).length) : Nat) : Int))) h42 rfl rfl hB38 fun a43 h43 => ?_; clear h42
 refine dk0 6 (v := subV v 0 ((bwI gd ((l.length : Nat) : Int)).toNat) 4) h43 rfl rfl hB38 fun a44 h44 => ?_; clear h43
 refine dk0 7 (v := .int .i64 (bwI fr ((((l.take ((bwI gd ((l.length : Nat) : Int)).toNat)).length) : Nat) : Int))) h44 rfl rfl hB38 fun a45 h45 => ?_; clear h44
 refine dk 8 (v := subV (subV v 0 ((bwI gd ((l.length : Nat) : Int)).toNat) 4) ((bwI fr ((((l.take ((bwI gd ((l.length : Nat) : Int)).toNat)).length) : Nat) : Int)).toNat) ((l.take ((bwI gd ((l.length : Nat) : Int)).toNat)).length) 4) h45 rfl rfl hB38 (fun x hx => (rn_sliceFrom rfl rfl rfl Try.underlying69 Try.sizeOf38 (sl_take (hs.below hx) _ (by omega)) (by omega) (by omega))) fun a46 h46 => ?_; clear h45
 refine d1 5 h46 rfl rfl (op_call (args := #[.int .i64 ep, .int .i64 (((l.take ((bwI gd ((l.length : Nat) : Int)).toNat)).length : Nat) : Int), .int .i64 he, .int .i64 (bwI fr ((((l.take ((bwI gd ((l.length : Nat) : Int)).toNat)).length) : Nat) : Int))]) (R := fun res xw => ∃ N0 : Nat, ∃ N1 : Nat, ∃ N2 : Nat, ∃ N3 : Nat, res = .func (.func 118) #[] #[pt N0 0, pt N1 0, pt N2 0, pt N3 0] ∧ Blk xw N0 3 #[.int .i64 ep] ∧ w31.heap.size ≤ N0 ∧ Blk xw N1 3 #[.int .i64 (((l.take ((bwI gd ((l.length : Nat) : Int)).toNat)).length : Nat) : Int)] ∧ w31.heap.size ≤ N1 ∧ Blk xw N2 3 #[.int .i64 he] ∧ w31.heap.size ≤ N2 ∧ Blk xw N3 3 #[.int .i64 (bwI fr ((((l.take ((bwI gd ((l.length : Nat) : Int)).toNat)).length) : Nat) : Int))] ∧ w31.heap.size ≤ N3 ∧ Below w31.heap.size w31 xw) rfl rfl rfl (by kernel_rfl) (by kernel_rfl) (Try.call69 _ _) (numbers_any ep (((l.take ((bwI gd ((l.length : Nat) : Int)).toNat)).length : Nat) : Int) he (bwI fr ((((l.take ((bwI gd ((l.length : Nat) : Int)).toNat)).length) : Nat) : Int)) w31 ) (by rintro e x ⟨N0, N1, N2, N3, rfl, hq53, hq54, hq55, hq56, hq57, hq58, hq59, hq60, hb61⟩; exact ⟨_, rfl, ⟨N0, N1, N2, N3, rfl, hq53, hq54, hq55, hq56, hq57, hq58, hq59, hq60, hb61⟩⟩)) ?_ ?_; clear h46
 ·
  rintro _ w48 ⟨N049, N150, N251, N352, rfl, hq53, hq54, hq55, hq56, hq57, hq58, hq59, hq60, hb61⟩
  have hz62 := hb61.size
  have hl63 := hq53.lt
  have hl64 := hq55.lt
  have hl65 := hq57.lt
  have hl66 := hq59.lt
  have hB67 := hb_call hB38 hb61
  exact hB67
 rintro _ w48 a47 ⟨N049, N150, N251, N352, rfl, hq53, hq54, hq55, hq56, hq57, hq58, hq59, hq60, hb61⟩ h47
 have hz62 := hb61.size
 have hl63 := hq53.lt
 have hl64 := hq55.lt
 have hl65 := hq57.lt
 have hl66 := hq59.lt
 have hB67 := hb_call hB38 hb61
 refine d1 9 h47 rfl rfl (op_call (args := #[subV (subV v 0 ((bwI gd ((l.length : Nat) : Int)).toNat) 4) ((bwI fr ((((l.take ((bwI gd ((l.length : Nat) : Int)).toNat)).length) : Nat) : Int)).toNat) ((l.take ((bwI gd ((l.length : Nat) : Int)).toNat)).length) 4]) (R := fun res xw => ∃ N0 : Nat, res = .func (.func 122) #[] #[pt N0 0] ∧ Blk xw N0 69 #[(subV (subV v 0 ((bwI gd ((l.length : Nat) : Int)).toNat) 4) ((bwI fr ((((l.take ((bwI gd ((l.length : Nat) : Int)).toNat)).length) : Nat) : Int)).toNat) ((l.take ((bwI gd ((l.length : Nat) : Int)).toNat)).length) 4)] ∧ w48.heap.size ≤ N0 ∧ Below w48.heap.size w48 xw) rfl rfl rfl (by kernel_rfl) (by kernel_rfl) (Try.call74 _ _) (stampsO_any (subV (subV v 0 ((bwI gd ((l.length : Nat) : Int)).toNat) 4) ((bwI fr ((((l.take ((bwI gd ((l.length : Nat) : Int)).toNat)).length) : Nat) : Int)).toNat) ((l.take ((bwI gd ((l.length : Nat) : Int)).toNat)).length) 4) ((l.take ((bwI gd ((l.length : Nat) : Int)).toNat)).drop ((bwI fr ((((l.take ((bwI gd ((l.length : Nat) : Int)).toNat)).length) : Nat) : Int)).toNat)) w48 (sl_drop (sl_take (hs.below hB67) _ (by omega)) _ (by omega))) (by rintro e x ⟨N0, rfl, hq71, hq72, hb73⟩; exact ⟨_, rfl, ⟨N0, rfl, hq71, hq72, hb73⟩⟩)) ?_ ?_; clear h47
 ·
  rintro _ w69 ⟨N070, rfl, hq71, hq72, hb73⟩
  have hz74 := hb73.size
  have hl75 := hq71.lt
  have hB76 := hb_call hB67 hb73
  exact hB76
 rintro _ w69 a68 ⟨N070, rfl, hq71, hq72, hb73⟩ h68
 have hz74 := hb73.size
 have hl75 := hq71.lt
 have hB76 := hb_call hB67 hb73
 refine d1 10 h68 rfl rfl (op_new (v := fun N => .slice (some ⟨N, 0, none⟩) 2 2) (T := 115) (cs := #[.func (.func 118) #[] #[pt N049 0, pt N150 0, pt N251 0, pt N352 0], .func (.func 122) #[] #[pt N070 0]]) (by kernel_rfl) (by kernel_rfl) (by kernel_rfl)) ?_ ?_; clear h68
 ·
  rintro _ w78 ⟨N79, rfl, hN82, hz83, hk81, hg80⟩
  have hz84 := hg80.size
  have hB85 := hb_new hB76 hg80
  exact hB85
 rintro _ w78 a77 ⟨N79, rfl, hN82, hz83, hk81, hg80⟩ h77
 have hz84 := hg80.size
 try dsimp only at h77
 have hB85 := hb_new hB76 hg80
 have hk88 := hq53.below hb73
 have hk89 := hk88.kept hg80 (by simp)
 have hk90 := hq55.below hb73
 have hk91 := hk90.kept hg80 (by simp)
 have hk92 := hq57.below hb73
 have hk93 := hk92.kept hg80 (by simp)
 have hk94 := hq59.below hb73
 have hk95 := hk94.kept hg80 (by simp)
 have hk96 := hq71.kept hg80 (by simp)
 refine d1 11 h77 rfl rfl (op_call (args := #[.int .i64 4, .slice (some ⟨N79, 0, none⟩) 2 2]) (R := fun res xw => ∃ u : Value, res = .agg #[.int .i64 4, .int .i64 (mxI ep 0), .int .i64 0, .int .i64 0, .bool false, .int .u64 0, .int .u64 0, .int .i64 (mxI (((l.take ((bwI gd ((l.length : Nat) : Int)).toNat)).length : Nat) : Int) 0), .int .i64 (mxI he 0), .int .i64 (mxI (bwI fr ((((l.take ((bwI gd ((l.length : Nat) : Int)).toNat)).length) : Nat) : Int)) 0), .int .i64 0, .string (⟨#[]⟩), .string (⟨#[]⟩), .int .i64 0, .slice none 0 0, .int .u64 0, .int .i64 0, .int .i64 0, .slice none 0 0, .slice none 0 0, u, .slice none 0 0] ∧ xw.ownsRow w78.heap.size 29 1 u (tsL (((l.take ((bwI gd ((l.length : Nat) : Int)).toNat)).drop ((bwI fr ((((l.take ((bwI gd ((l.length : Nat) : Int)).toNat)).length) : Nat) : Int)).toNat)).take (mnI ((stN ((l.take ((bwI gd ((l.length : Nat) : Int)).toNat)).drop ((bwI fr ((((l.take ((bwI gd ((l.length : Nat) : Int)).toNat)).length) : Nat) : Int)).toNat)) : Nat) : Int) 8).toNat)).length ((tsL (((l.take ((bwI gd ((l.length : Nat) : Int)).toNat)).drop ((bwI fr ((((l.take ((bwI gd ((l.length : Nat) : Int)).toNat)).length) : Nat) : Int)).toNat)).take (mnI ((stN ((l.take ((bwI gd ((l.length : Nat) : Int)).toNat)).drop ((bwI fr ((((l.take ((bwI gd ((l.length : Nat) : Int)).toNat)).length) : Nat) : Int)).toNat)) : Nat) : Int) 8).toNat)).flatMap (intE .u64)) ∧ Below w78.heap.size w78 xw) rfl rfl rfl (by kernel_rfl) (by kernel_rfl) (Try.call68 _ _) (message2_any N79 N049 N150 N251 N352 N070 4 ep (((l.take ((bwI gd ((l.length : Nat) : Int)).toNat)).length : Nat) : Int) he (bwI fr ((((l.take ((bwI gd ((l.length : Nat) : Int)).toNat)).length) : Nat) : Int)) (subV (subV v 0 ((bwI gd ((l.length : Nat) : Int)).toNat) 4) ((bwI fr ((((l.take ((bwI gd ((l.length : Nat) : Int)).toNat)).length) : Nat) : Int)).toNat) ((l.take ((bwI gd ((l.length : Nat) : Int)).toNat)).length) 4) ((l.take ((bwI gd ((l.length : Nat) : Int)).toNat)).drop ((bwI fr ((((l.take ((bwI gd ((l.length : Nat) : Int)).toNat)).length) : Nat) : Int)).toNat)) w78 hk81 hk89 hk91 hk93 hk95 hk96 (sl_drop (sl_take (hs.below hB85) _ (by omega)) _ (by omega)) (fun z hz => ((fun z hz => (fun z hz => hok z (List.mem_of_mem_take hz)) z (List.mem_of_mem_drop hz)) z hz).below hB85)) (by rintro e x ⟨u, rfl, hq98, hb99⟩; exact ⟨_, rfl, ⟨u, rfl, hq98, hb99⟩⟩)) ?_ ?_; clear h77
 ·
  rintro _ w87 ⟨u97, rfl, hq98, hb99⟩
  have hz100 := hb99.size
  have hl101 := sl_len (row_sl hq98 (intE_len .u64))
  have hB102 := hb_call hB85 hb99
  exact hB102
 rintro _ w87 a86 ⟨u97, rfl, hq98, hb99⟩ h86
 have hz100 := hb99.size
 have hl101 := sl_len (row_sl hq98 (intE_len .u64))
 have hB102 := hb_call hB85 hb99
 have hk108 := hk5.below hb16
 have hk109 := hk108.below hb27
 have hk110 := hk109.kept hg32 (by simp)
 have hk111 := hk110.below hb61
 have hk112 := hk111.below hb73
 have hk113 := hk112.kept hg80 (by simp)
 have hk114 := hk113.below hb99
 refine d1D 12 h86 rfl rfl (op_storeN rfl rfl rfl (all_cons rfl (all_cons rfl (all_cons rfl (all_cons rfl (all_cons rfl (all_cons rfl (all_cons rfl (all_cons rfl (all_cons rfl (all_cons rfl (all_cons rfl (all_cons rfl (all_cons rfl (all_cons rfl (all_cons rfl (all_cons rfl (all_cons rfl (all_cons rfl (all_cons rfl (all_cons rfl (all_cons (row_one hq98) (all_cons rfl all_nil)))))))))))))))))))))) (by kernel_rfl) hk114 rfl) ?_ ?_; clear h86
 ·
  rintro _ w104 ⟨hk105, hz106, hg107⟩
  have hk105' : Blk w104 N3 74 #[.int .i64 4, .int .i64 (mxI ep 0), .int .i64 0, .int .i64 0, .bool false, .int .u64 0, .int .u64 0, .int .i64 (mxI (((l.take ((bwI gd ((l.length : Nat) : Int)).toNat)).length : Nat) : Int) 0), .int .i64 (mxI he 0), .int .i64 (mxI (bwI fr ((((l.take ((bwI gd ((l.length : Nat) : Int)).toNat)).length) : Nat) : Int)) 0), .int .i64 0, .string (⟨#[]⟩), .string (⟨#[]⟩), .int .i64 0, .slice none 0 0, .int .u64 0, .int .i64 0, .int .i64 0, .slice none 0 0, .slice none 0 0, u97, .slice none 0 0] := hk105; clear hk105
  have hz115 := hg107.size
  have hB116 := hb_at hB102 hg107 (by omega)
  exact hB116
 rintro _ w104 a103 ⟨hk105, hz106, hg107⟩ h103
 have hk105' : Blk w104 N3 74 #[.int .i64 4, .int .i64 (mxI ep 0), .int .i64 0, .int .i64 0, .bool false, .int .u64 0, .int .u64 0, .int .i64 (mxI (((l.take ((bwI gd ((l.length : Nat) : Int)).toNat)).length : Nat) : Int) 0), .int .i64 (mxI he 0), .int .i64 (mxI (bwI fr ((((l.take ((bwI gd ((l.length : Nat) : Int)).toNat)).length) : Nat) : Int)) 0), .int .i64 0, .string (⟨#[]⟩), .string (⟨#[]⟩), .int .i64 0, .slice none 0 0, .int .u64 0, .int .i64 0, .int .i64 0, .slice none 0 0, .slice none 0 0, u97, .slice none 0 0] := hk105; clear hk105
 have hz115 := hg107.size
 refine dr_done (by kernel_rfl) ?_
 refine co_then ?_
 refine wp_ret ?_
 refine co_retC (Q := fun _ _ _ => True) h103 rfl rfl hk105' Try.underlying74 rfl (by kernel_rfl) ?_
 have hr116 := row_kept_at hq98 hg107 (own_neT hq98 hk114 (by decide))
 have hB117 := hb_at hB102 hg107 (by omega)
 exact ⟨_, (by rfl), (row_lows hr116 (by omega)), hB117⟩
end Go.Proofs.Ytlbemlodcdgakaa

/- The document's own relay: Fwd, Ack. Conditions: up to 1000 entries. -/
namespace Go.Proofs.Ytlbemlodcdgakaa
open Go.RowKit Go.PlainAid
set_option linter.unusedVariables false
set_option linter.unusedSimpArgs false


theorem fit_bw (n : Int) {m : Int} (hm : 0 ≤ m) : mnI (mxI n 0) m = bwI n m := by
  unfold bwI mnI mxI
  repeat' split
  all_goals omega
theorem stN_lt : ∀ {l : List EntT} {i : Nat} {y : EntT}, i < stN l → l[i]? = some y → y.ts ≠ 0
  | [], i, y, h, _ => by simp [stN] at h
  | e :: l, i, y, h, hy => by
    by_cases he : e.ts ≠ 0
    · cases i with
      | zero => simp at hy; subst hy; exact he
      | succ i =>
        simp at hy
        refine stN_lt (l := l) (i := i) ?_ hy
        have e1 : stN (e :: l) = stN l + 1 := by unfold stN; rw [List.takeWhile_cons_of_pos (by simpa using he)]; rfl
        omega
    · exfalso
      have e1 : stN (e :: l) = 0 := by unfold stN; rw [List.takeWhile_cons_of_neg (by simpa using he)]; rfl
      omega
theorem stN_cut (l : List EntT) (G : Nat) : ((stN (l.take G) : Nat) : Int) = mnI ((stN l : Nat) : Int) (G : Int) := by
  have hle := stN_le l
  have key : stN (l.take G) = min (stN l) G := by
    by_cases h : stN l < G
    · by_cases h2 : stN l < l.length
      · rw [Nat.min_eq_left (by omega)]
        refine stN_stop (y := l[stN l]) (fun j hj z hz => ?_) (by rw [List.getElem?_take, if_pos h]; exact List.getElem?_eq_getElem h2) ?_
        · rw [List.getElem?_take, if_pos (by omega)] at hz; exact stN_lt hj hz
        · by_cases h3 : l[stN l].ts = 0
          · exact h3
          · exfalso
            have : stN l + 1 ≤ stN l := by
              have e : l = l.take (stN l) ++ l[stN l] :: l.drop (stN l + 1) := by rw [← List.drop_eq_getElem_cons h2]; exact (List.take_append_drop _ _).symm
              have hall : ∀ x ∈ l.take (stN l), (fun e : EntT => decide (e.ts ≠ 0)) x = true := fun x hx => by
                obtain ⟨j, hj⟩ := List.getElem?_of_mem hx
                have hl := (List.getElem?_eq_some_iff.1 hj).1
                rw [List.length_take] at hl
                rw [List.getElem?_take, if_pos (by omega)] at hj
                simpa using stN_lt (by omega) hj
              have h5 : (l.takeWhile fun e => decide (e.ts ≠ 0)).length ≥ stN l + 1 := by
                conv => lhs; rw [e]
                rw [List.takeWhile_append_of_pos hall, List.takeWhile_cons_of_pos (by simpa using h3), List.length_append, List.length_take, List.length_cons]
                omega
              unfold stN at h5 ⊢; omega
            omega
      · rw [List.take_of_length_le (by omega), Nat.min_eq_left (by omega)]
    · rw [Nat.min_eq_right (by omega)]
      refine stN_end (fun j hj z hz => ?_) (by rw [List.length_take]; omega)
      rw [List.getElem?_take, if_pos hj] at hz; exact stN_lt (by omega) hz
  rw [key]; unfold mnI; split <;> omega
section
variable {l : List EntT} {gd fr : Int} {G F k : Nat} {y : EntT}
theorem fwA_n (hG : (G : Int) = bwI gd ((l.length : Nat) : Int)) : fwA l gd = l.take G ∧ G ≤ l.length := by
  have h := bwI_p gd l.length
  refine ⟨by unfold fwA; rw [← hG]; simp, by omega⟩
theorem fwF_n (hG : (G : Int) = bwI gd ((l.length : Nat) : Int)) (hF : (F : Int) = bwI fr (G : Int)) : fwF l gd fr = (F : Int) ∧ F ≤ G := by
  obtain ⟨h1, h2⟩ := fwA_n hG
  have h := bwI_p fr G
  refine ⟨?_, by omega⟩
  unfold fwF; rw [h1, List.length_take, Nat.min_eq_left h2, ← hF]
theorem fwR_n (hG : (G : Int) = bwI gd ((l.length : Nat) : Int)) (hF : (F : Int) = bwI fr (G : Int)) : fwR l gd fr = (l.drop F).take (G - F) := by
  unfold fwR; rw [(fwF_n hG hF).1, (fwA_n hG).1]; simp [List.drop_take]
theorem fwM_n (hG : (G : Int) = bwI gd ((l.length : Nat) : Int)) (hF : (F : Int) = bwI fr (G : Int)) : mxI (fwF l gd fr) 0 = (F : Int) := by rw [(fwF_n hG hF).1]; have := mxI_p (F : Int) 0; omega
theorem fwP_n (hG : (G : Int) = bwI gd ((l.length : Nat) : Int)) : mxI ((stN (fwA l gd) : Nat) : Int) 0 = mnI ((stN l : Nat) : Int) (G : Int) := by
  rw [(fwA_n hG).1, ← stN_cut]; have := mxI_p ((stN (l.take G) : Nat) : Int) 0; omega
theorem akN_n (hG : (G : Int) = bwI gd ((l.length : Nat) : Int)) : mxI (((fwA l gd).length : Nat) : Int) 0 = (G : Int) := by
  obtain ⟨h1, h2⟩ := fwA_n hG; rw [h1, List.length_take, Nat.min_eq_left h2]; have := mxI_p (G : Int) 0; omega
theorem fwE_n (hG : (G : Int) = bwI gd ((l.length : Nat) : Int)) (hF : (F : Int) = bwI fr (G : Int)) (hk : F + k ≤ G) (hk4 : k ≤ 4) (hx : G ≤ F + k ∨ 4 ≤ k) : (l.drop F).take k = fwE l gd fr := by
  obtain ⟨_, h2⟩ := fwA_n hG
  unfold fwE; rw [fwR_n hG hF, List.take_take]
  congr 1
  rw [List.length_take, List.length_drop]
  have := mnI_p ((min (G - F) (l.length - F) : Nat) : Int) 4
  omega
theorem en_at (h : l[F + k]? = some y) : (l.drop F).take k ++ [y] = (l.drop F).take (k + 1) := by
  rw [List.take_add_one, List.getElem?_drop, h]; rfl
theorem akS_n (hG : (G : Int) = bwI gd ((l.length : Nat) : Int)) (hF : (F : Int) = bwI fr (G : Int)) (hk : F + k ≤ G) (hk8 : k ≤ 8) (hn : ∀ j, j < k → ∀ z, l[F + j]? = some z → z.ts ≠ 0) (hx : (G ≤ F + k ∨ 8 ≤ k) ∨ ∃ z, l[F + k]? = some z ∧ z.ts = 0) : tsL ((l.drop F).take k) = akS l gd fr := by
  obtain ⟨_, h2⟩ := fwA_n hG
  have hat : ∀ j, j < G - F → ((l.drop F).take (G - F))[j]? = l[F + j]? := fun j hj => by rw [List.getElem?_take, if_pos hj, List.getElem?_drop]
  have hlen : ((l.drop F).take (G - F)).length = G - F := by rw [List.length_take, List.length_drop]; omega
  have hst : k ≤ stN ((l.drop F).take (G - F)) := by
    by_cases h : k ≤ stN ((l.drop F).take (G - F))
    · exact h
    · exfalso
      obtain ⟨q, hq⟩ : ∃ q, q = stN ((l.drop F).take (G - F)) := ⟨_, rfl⟩
      rw [← hq] at h
      have hqk : q < k := by omega
      have hz := hat q (by omega)
      have hl : l[F + q]? = some l[F + q] := List.getElem?_eq_getElem (by omega)
      have hne := hn q hqk _ hl
      have e1 : stN (((l.drop F).take (G - F)).take (q + 1)) = q + 1 := stN_end (fun j hj z hz => by
        rw [List.getElem?_take, if_pos hj, hat j (by omega)] at hz; exact hn j (by omega) z hz) (by rw [List.length_take, hlen]; omega)
      have e2 := stN_cut ((l.drop F).take (G - F)) (q + 1)
      rw [e1, ← hq] at e2
      have := mnI_p ((q : Nat) : Int) ((q + 1 : Nat) : Int)
      omega
  have hs8 : (mnI ((stN ((l.drop F).take (G - F)) : Nat) : Int) 8).toNat = k := by
    have hm := mnI_p ((stN ((l.drop F).take (G - F)) : Nat) : Int) 8
    have hle := stN_le ((l.drop F).take (G - F))
    rw [hlen] at hle
    rcases hx with (h | h) | ⟨z, hz, h0⟩
    · omega
    · omega
    · by_cases hkG : k < G - F
      · have e : stN ((l.drop F).take (G - F)) = k := stN_stop (fun j hj z hz => by rw [hat j (by omega)] at hz; exact hn j hj z hz) (by rw [hat k hkG]; exact hz) h0
        rw [e] at hm ⊢; omega
      · omega
  unfold akS; rw [fwR_n hG hF, hs8, List.take_take, Nat.min_eq_left (by omega)]
end

theorem nz_next {l : List EntT} {F k : Nat} {y : EntT} (h : ∀ j, j < k → ∀ z, l[F + j]? = some z → z.ts ≠ 0) (hy : l[F + k]? = some y) (hn : y.ts ≠ 0) : ∀ j, j < k + 1 → ∀ z, l[F + j]? = some z → z.ts ≠ 0 := fun j hj z hz => by
  by_cases e : j = k
  · subst e; rw [hy] at hz; cases hz; exact hn
  · exact h j (by omega) z hz
theorem ts_at {l : List EntT} {F k : Nat} {y : EntT} (h : l[F + k]? = some y) : tsL ((l.drop F).take k) ++ [y.ts] = tsL ((l.drop F).take (k + 1)) := by
  rw [← en_at h]; unfold tsL; rw [List.map_append]; rfl

set_option maxRecDepth 100000 in
theorem fit32_any (n : Int) (m : Int) (w : World) (hm0 : 0 ≤ m) :
    Calls Try.prog 73 #[.int .i64 n, .int .i64 m] w fun e w' => e = .returned (.int .i64 (bwI n m)) ∧ Below w.heap.size w w' := by
 have hB0 := Below.refl w.heap.size w
 refine co_enter (n := 9) Try.func73 rfl rfl rfl [(0, .int .i64 n), (1, .int .i64 m)] rfl (fun a h0 => ?_)
 refine co_seq ?_
 refine co_reg ?_
 refine pk0 (v := .int .i64 0) h0 rfl fun a1 h1 => ?_; clear h0
 refine pl_nil ?_
 refine co_then ?_
 refine co_seq ?_
 refine co_reg ?_
 refine pk0 (v := .int .i64 n) h1 rfl fun a2 h2 => ?_; clear h1
 have hmm3 := mxI_p n 0
 refine pk0 (v := .int .i64 (mxI n 0)) h2 rfl fun a4 h4 => ?_; clear h2
 refine pk0 (v := .int .i64 m) h4 rfl fun a5 h5 => ?_; clear h4
 have hmm6 := mnI_p (mxI n 0) m
 refine pk0 (v := .int .i64 (mnI (mxI n 0) m)) h5 rfl fun a7 h7 => ?_; clear h5
 refine pk0 (v := .int .i64 (mnI (mxI n 0) m)) h7 rfl fun a8 h8 => ?_; clear h7
 refine pl_nil ?_
 refine co_then ?_
 refine wp_ret ?_
 refine co_ret1 h8 rfl rfl ?_
 exact ⟨ret_int (fit_bw n hm0), hB0⟩
set_option maxRecDepth 100000 in
theorem rfwd32_any (ep : Int) (ba : Int) (fr : Int) (sb : Int) (hz : Int) (v : Value) (l : List EntT) (gd : Int) (w : World) (hs : SliceOf entE 4 w v l) (hok : ∀ z ∈ l, EntOk w z) (hll : l.length ≤ 1000) :
    Calls Try.prog 27 #[.int .i64 ep, .int .i64 ba, .int .i64 fr, .int .i64 sb, .int .u64 hz, v, .int .i64 gd] w fun e w' => ∃ (u : Value), e = .returned (.agg #[.int .i64 3, .int .i64 (mxI ep 0), .int .i64 (mxI sb 0), .int .i64 0, .bool false, .int .u64 hz, .int .u64 0, .int .i64 (mxI ba 0), .int .i64 (mxI (fwF l gd fr) 0), .int .i64 (mxI ((stN (fwA l gd) : Nat) : Int) 0), .int .i64 0, .string (⟨#[]⟩), .string (⟨#[]⟩), .int .i64 0, .slice none 0 0, .int .u64 0, .int .i64 0, .int .i64 0, .slice none 0 0, u, .slice none 0 0, .slice none 0 0]) ∧ w'.ownsRow w.heap.size 38 4 u (fwE l gd fr).length ((fwE l gd fr).flatMap entE) ∧ Below w.heap.size w w' := by
 obtain ⟨G, hG⟩ : ∃ G : Nat, (G : Int) = bwI gd ((l.length : Nat) : Int) := ⟨(bwI gd ((l.length : Nat) : Int)).toNat, by have := bwI_p gd l.length; omega⟩
 obtain ⟨F, hF⟩ : ∃ F : Nat, (F : Int) = bwI fr (G : Int) := ⟨(bwI fr (G : Int)).toNat, by have := bwI_p fr G; omega⟩
 have hGl := (fwA_n hG).2
 have hFG := (fwF_n hG hF).2
 have hB0 := Below.refl w.heap.size w
 have hl_hs := sl_len hs
 refine co_enter (n := 61) Try.func27 rfl rfl rfl [(0, .int .i64 ep), (1, .int .i64 ba), (2, .int .i64 fr), (3, .int .i64 sb), (4, .int .u64 hz), (5, v), (6, .int .i64 gd)] rfl (fun a h0 => ?_)
 refine co_seq ?_
 refine co_reg ?_
 refine pw h0 rfl (op_new (v := fun N => pt N 0) (T := 74) (cs := #[.int .i64 0, .int .i64 0, .int .i64 0, .int .i64 0, .bool false, .int .u64 0, .int .u64 0, .int .i64 0, .int .i64 0, .int .i64 0, .int .i64 0, .string (⟨#[]⟩), .string (⟨#[]⟩), .int .i64 0, .slice none 0 0, .int .u64 0, .int .i64 0, .int .i64 0, .slice none 0 0, .slice none 0 0, .slice none 0 0, .slice none 0 0]) (by kernel_rfl) (by kernel_rfl) (by kernel_rfl)) ?_; clear h0
 rintro _ w2 a1 ⟨N3, rfl, hN6, hz7, hk5, hg4⟩ h1
 have hz8 := hg4.size
 try dsimp only at h1
 refine pl_nil ?_
 refine co_then ?_
 refine co_seq ?_
 refine co_reg ?_
 refine pk0 (v := .int .i64 gd) h1 rfl fun a9 h9 => ?_; clear h1
 refine pk0 (v := v) h9 rfl fun a10 h10 => ?_; clear h9
 have hB11 := hb_new hB0 hg4
 refine pk (v := .int .i64 ((l.length : Nat) : Int)) h10 rfl (rn_len rfl rfl Try.underlying69 (hs.below hB11)) fun a12 h12 => ?_; clear h10
 refine pw h12 rfl (op_call (args := #[.int .i64 gd, .int .i64 ((l.length : Nat) : Int)]) (R := fun res xw => res = .int .i64 ((G : Nat) : Int) ∧ Below w2.heap.size w2 xw) rfl rfl rfl (by kernel_rfl) (by kernel_rfl) (Try.call73 _ _) (fit32_any gd ((l.length : Nat) : Int) w2 (by omega)) (by rintro e x ⟨h0, h⟩; rw [← hG] at h0; exact ⟨_, h0, rfl, h⟩)) ?_; clear h12
 rintro _ w14 a13 ⟨rfl, hb15⟩ h13
 have hz16 := hb15.size
 refine pk0 (v := .int .i64 ((G : Nat) : Int)) h13 rfl fun a17 h17 => ?_; clear h13
 refine pl_nil ?_
 refine co_then ?_
 refine co_seq ?_
 refine co_reg ?_
 refine pk0 (v := .int .i64 fr) h17 rfl fun a18 h18 => ?_; clear h17
 refine pk0 (v := .int .i64 ((G : Nat) : Int)) h18 rfl fun a19 h19 => ?_; clear h18
 have hB22 := hb_call hB11 hb15
 refine pw h19 rfl (op_call (args := #[.int .i64 fr, .int .i64 ((G : Nat) : Int)]) (R := fun res xw => res = .int .i64 ((F : Nat) : Int) ∧ Below w14.heap.size w14 xw) rfl rfl rfl (by kernel_rfl) (by kernel_rfl) (Try.call73 _ _) (fit32_any fr ((G : Nat) : Int) w14 (by omega)) (by rintro e x ⟨h0, h⟩; rw [← hF] at h0; exact ⟨_, h0, rfl, h⟩)) ?_; clear h19
 rintro _ w21 a20 ⟨rfl, hb23⟩ h20
 have hz24 := hb23.size
 refine pk0 (v := .int .i64 ((F : Nat) : Int)) h20 rfl fun a25 h25 => ?_; clear h20
 refine pl_nil ?_
 refine co_then ?_
 refine co_seq ?_
 refine co_reg ?_
 refine pk0 (v := .int .i64 ep) h25 rfl fun a26 h26 => ?_; clear h25
 have hmm27 := mxI_p ep 0
 refine pk0 (v := .int .i64 (mxI ep 0)) h26 rfl fun a28 h28 => ?_; clear h26
 refine pk0 (v := .int .i64 ba) h28 rfl fun a29 h29 => ?_; clear h28
 have hmm30 := mxI_p ba 0
 refine pk0 (v := .int .i64 (mxI ba 0)) h29 rfl fun a31 h31 => ?_; clear h29
 refine pk0 (v := .int .i64 ((F : Nat) : Int)) h31 rfl fun a32 h32 => ?_; clear h31
 refine pk0 (v := v) h32 rfl fun a33 h33 => ?_; clear h32
 have hB36 := hb_call hB22 hb23
 refine pw h33 rfl (op_call (args := #[v]) (R := fun res xw => res = .int .i64 ((stN l : Nat) : Int) ∧ Below w21.heap.size w21 xw) rfl rfl rfl (by kernel_rfl) (by kernel_rfl) (Try.call42 _ _) (ritemStamped_any v l w21 (hs.below hB36) (fun z hz => (hok z hz).below hB36)) (by rintro e x ⟨rfl, hb37⟩; exact ⟨_, rfl, ⟨rfl, hb37⟩⟩)) ?_; clear h33
 rintro _ w35 a34 ⟨rfl, hb37⟩ h34
 have hz38 := hb37.size
 refine pk0 (v := .int .i64 ((G : Nat) : Int)) h34 rfl fun a39 h39 => ?_; clear h34
 have hmm40 := mnI_p ((stN l : Nat) : Int) ((G : Nat) : Int)
 refine pk0 (v := .int .i64 (mnI ((stN l : Nat) : Int) ((G : Nat) : Int))) h39 rfl fun a41 h41 => ?_; clear h39
 refine pk0 (v := .int .i64 sb) h41 rfl fun a42 h42 => ?_; clear h41
 have hmm43 := mxI_p sb 0
 refine pk0 (v := .int .i64 (mxI sb 0)) h42 rfl fun a44 h44 => ?_; clear h42
 refine pk0 (v := .int .u64 hz) h44 rfl fun a45 h45 => ?_; clear h44
 refine pk0 (v := .agg #[.int .i64 3, .int .i64 (mxI ep 0), .int .i64 (mxI sb 0), .int .i64 0, .bool false, .int .u64 hz, .int .u64 0, .int .i64 (mxI ba 0), .int .i64 ((F : Nat) : Int), .int .i64 (mnI ((stN l : Nat) : Int) ((G : Nat) : Int)), .int .i64 0, .string (⟨#[]⟩), .string (⟨#[]⟩), .int .i64 0, .slice none 0 0, .int .u64 0, .int .i64 0, .int .i64 0, .slice none 0 0, .slice none 0 0, .slice none 0 0, .slice none 0 0]) h45 rfl fun a46 h46 => ?_; clear h45
 refine pw h46 rfl (op_new (v := fun N => pt N 0) (T := 74) (cs := #[.int .i64 0, .int .i64 0, .int .i64 0, .int .i64 0, .bool false, .int .u64 0, .int .u64 0, .int .i64 0, .int .i64 0, .int .i64 0, .int .i64 0, .string (⟨#[]⟩), .string (⟨#[]⟩), .int .i64 0, .slice none 0 0, .int .u64 0, .int .i64 0, .int .i64 0, .slice none 0 0, .slice none 0 0, .slice none 0 0, .slice none 0 0]) (by kernel_rfl) (by kernel_rfl) (by kernel_rfl)) ?_; clear h46
 rintro _ w48 a47 ⟨N49, rfl, hN52, hz53, hk51, hg50⟩ h47
 have hz54 := hg50.size
 try dsimp only at h47
 refine pwD h47 rfl (op_storeN rfl rfl rfl (all_cons rfl (all_cons rfl (all_cons rfl (all_cons rfl (all_cons rfl (all_cons rfl (all_cons rfl (all_cons rfl (all_cons rfl (all_cons rfl (all_cons rfl (all_cons rfl (all_cons rfl (all_cons rfl (all_cons rfl (all_cons rfl (all_cons rfl (all_cons rfl (all_cons rfl (all_cons rfl (all_cons rfl (all_cons rfl all_nil)))))))))))))))))))))) (by kernel_rfl) hk51 rfl) ?_; clear h47
 rintro _ w56 a55 ⟨hk57, hz58, hg59⟩ h55
 have hk57' : Blk w56 N49 74 #[.int .i64 3, .int .i64 (mxI ep 0), .int .i64 (mxI sb 0), .int .i64 0, .bool false, .int .u64 hz, .int .u64 0, .int .i64 (mxI ba 0), .int .i64 ((F : Nat) : Int), .int .i64 (mnI ((stN l : Nat) : Int) ((G : Nat) : Int)), .int .i64 0, .string (⟨#[]⟩), .string (⟨#[]⟩), .int .i64 0, .slice none 0 0, .int .u64 0, .int .i64 0, .int .i64 0, .slice none 0 0, .slice none 0 0, .slice none 0 0, .slice none 0 0] := hk57; clear hk57
 have hz60 := hg59.size
 refine pl_nil ?_
 refine co_then ?_
 refine co_seq ?_
 refine co_seq ?_
 refine co_reg ?_
 refine pk0 (v := .int .i64 ((F : Nat) : Int)) h55 rfl fun a61 h61 => ?_; clear h55
 refine pk0 (v := .int .i64 ((F : Nat) : Int)) h61 rfl fun a62 h62 => ?_; clear h61
 refine pl_nil ?_
 refine co_then ?_
 refine wp_block ?_
 have h63 : Slots 61 [(5, v), (14, pt N3 0), (15, .int .i64 ((G : Nat) : Int)), (16, .int .i64 ((F : Nat) : Int)), (17, pt N49 0), (18, .int .i64 ((F : Nat) : Int))] _ := h62.sub ⟨rfl, rfl, rfl, rfl, rfl, rfl, trivial⟩; clear h62
 refine co_loop (fun mm a x => ∃ (k : Nat) (u : Value), Slots 61 [(5, v), (14, pt N3 0), (15, .int .i64 ((G : Nat) : Int)), (16, .int .i64 ((F : Nat) : Int)), (17, pt N49 0), (18, .int .i64 ((F + k : Nat) : Int))] a ∧ mm = 4 - k ∧ (F + k ≤ G) ∧ (k ≤ 4) ∧ Blk x N49 74 #[.int .i64 3, .int .i64 (mxI ep 0), .int .i64 (mxI sb 0), .int .i64 0, .bool false, .int .u64 hz, .int .u64 0, .int .i64 (mxI ba 0), .int .i64 ((F : Nat) : Int), .int .i64 (mnI ((stN l : Nat) : Int) ((G : Nat) : Int)), .int .i64 0, .string (⟨#[]⟩), .string (⟨#[]⟩), .int .i64 0, .slice none 0 0, .int .u64 0, .int .i64 0, .int .i64 0, .slice none 0 0, u, .slice none 0 0, .slice none 0 0] ∧ x.ownsRow (N49 + 1) 38 4 u ((l.drop F).take k).length (((l.drop F).take k).flatMap entE) ∧ Below w.heap.size w x ∧ Blk x N3 74 #[.int .i64 0, .int .i64 0, .int .i64 0, .int .i64 0, .bool false, .int .u64 0, .int .u64 0, .int .i64 0, .int .i64 0, .int .i64 0, .int .i64 0, .string (⟨#[]⟩), .string (⟨#[]⟩), .int .i64 0, .slice none 0 0, .int .u64 0, .int .i64 0, .int .i64 0, .slice none 0 0, .slice none 0 0, .slice none 0 0, .slice none 0 0]) (4 - 0) ?_ ?_
 have hB64 := hb_call hB36 hb37
 have hB65 := hb_new hB64 hg50
 have hB66 := hb_at hB65 hg59 (by omega)
 have hk67 := hk5.below hb15
 have hk68 := hk67.below hb23
 have hk69 := hk68.below hb37
 have hk70 := hk69.kept hg50 (by simp)
 have hk71 := hk70.kept hg59 (by simp; omega)
 · exact ⟨0, (.slice none 0 0), h63.sub ⟨rfl, rfl, rfl, rfl, rfl, (slot_eq rfl (congrArg (Value.int .i64) (by first | rfl | omega))), trivial⟩, rfl, by omega, by omega, hk57', (row_nilL _ _ _ _ _), hB66, hk71⟩
 · rintro k72 a73 w74 ⟨k, u, h73, rfl, hi75, hi76, hf77, hf78, hB79, hk80⟩
   have hz81 := hB79.size
   have hl82 := hk80.lt
   have hl83 := hf77.lt
   have htl : ((l.drop F).take k).length = k := by rw [List.length_take, List.length_drop]; omega
   refine co_seq ?_
   refine co_seq ?_
   refine co_reg ?_
   refine pk0 (v := .int .i64 ((F + k : Nat) : Int)) h73 rfl fun a84 h84 => ?_; clear h73
   refine pk0 (v := .int .i64 ((G : Nat) : Int)) h84 rfl fun a85 h85 => ?_; clear h84
   refine pk0 (v := .bool (decide (((F + k : Nat) : Int) < ((G : Nat) : Int)))) h85 rfl fun a86 h86 => ?_; clear h85
   refine pk0 (v := .bool (decide (((F + k : Nat) : Int) < ((G : Nat) : Int)))) h86 rfl fun a87 h87 => ?_; clear h86
   cases hc88 : (decide (((F + k : Nat) : Int) < ((G : Nat) : Int)))
   ·
    rw [hc88] at h87
    have hp89 : ¬ (((F + k : Nat) : Int) < ((G : Nat) : Int)) := of_decide_eq_false hc88
    clear hc88
    refine psk h87 rfl fun a90 h90 => ?_; clear h87
    refine psk h90 rfl fun a91 h91 => ?_; clear h90
    refine psk h91 rfl fun a92 h92 => ?_; clear h91
    refine psk h92 rfl fun a93 h93 => ?_; clear h92
    refine pk0 (v := .bool false) h93 rfl fun a94 h94 => ?_; clear h93
    refine pl_nil ?_
    refine co_then ?_
    refine co_false h94 rfl ?_
    refine wp_exit ?_
    refine co_thenX ?_
    refine co_thenX ?_
    refine co_blockX ?_
    refine co_then ?_
    refine co_seq ?_
    refine co_reg ?_
    refine pk (v := .agg #[.int .i64 3, .int .i64 (mxI ep 0), .int .i64 (mxI sb 0), .int .i64 0, .bool false, .int .u64 hz, .int .u64 0, .int .i64 (mxI ba 0), .int .i64 ((F : Nat) : Int), .int .i64 (mnI ((stN l : Nat) : Int) ((G : Nat) : Int)), .int .i64 0, .string (⟨#[]⟩), .string (⟨#[]⟩), .int .i64 0, .slice none 0 0, .int .u64 0, .int .i64 0, .int .i64 0, .slice none 0 0, u, .slice none 0 0, .slice none 0 0]) h94 rfl (rn_loadN rfl rfl Try.underlying74 rfl (by kernel_rfl) hf77.all) fun a95 h95 => ?_; clear h94
    refine pwD h95 rfl (op_storeN rfl rfl rfl (all_cons rfl (all_cons rfl (all_cons rfl (all_cons rfl (all_cons rfl (all_cons rfl (all_cons rfl (all_cons rfl (all_cons rfl (all_cons rfl (all_cons rfl (all_cons rfl (all_cons rfl (all_cons rfl (all_cons rfl (all_cons rfl (all_cons rfl (all_cons rfl (all_cons rfl (all_cons (row_one hf78) (all_cons rfl (all_cons rfl all_nil)))))))))))))))))))))) (by kernel_rfl) hk80 rfl) ?_; clear h95
    rintro _ w97 a96 ⟨hk98, hz99, hg100⟩ h96
    have hk98' : Blk w97 N3 74 #[.int .i64 3, .int .i64 (mxI ep 0), .int .i64 (mxI sb 0), .int .i64 0, .bool false, .int .u64 hz, .int .u64 0, .int .i64 (mxI ba 0), .int .i64 ((F : Nat) : Int), .int .i64 (mnI ((stN l : Nat) : Int) ((G : Nat) : Int)), .int .i64 0, .string (⟨#[]⟩), .string (⟨#[]⟩), .int .i64 0, .slice none 0 0, .int .u64 0, .int .i64 0, .int .i64 0, .slice none 0 0, u, .slice none 0 0, .slice none 0 0] := hk98; clear hk98
    have hz101 := hg100.size
    refine pl_nil ?_
    refine co_then ?_
    refine wp_ret ?_
    refine co_retC (Q := fun _ _ _ => True) h96 rfl rfl hk98' Try.underlying74 rfl (by kernel_rfl) ?_
    have hr102 := row_kept_at hf78 hg100 (own_neT hf78 hk80 (by decide))
    have hB103 := hb_at hB79 hg100 (by omega)
    have hfm := fwM_n hG hF
    have hfp := fwP_n hG
    exact ⟨_, by rw [hfm, hfp], (row_eq (row_lows hr102 (by omega)) (fwE_n hG hF (by omega) (by omega) (by omega))), hB103⟩
   ·
    rw [hc88] at h87
    have hp104 : ((F + k : Nat) : Int) < ((G : Nat) : Int) := of_decide_eq_true hc88
    clear hc88
    refine pk0 (v := .int .i64 ((F + k : Nat) : Int)) h87 rfl fun a105 h105 => ?_; clear h87
    refine pk0 (v := .int .i64 ((F : Nat) : Int)) h105 rfl fun a106 h106 => ?_; clear h105
    refine pk (v := .int .i64 ((F + 4 : Nat) : Int)) h106 rfl (rn_arith' rfl rfl rfl rfl rfl rfl (IntWalk.i64_in _ (by omega)) (by omega)) fun a107 h107 => ?_; clear h106
    refine pk0 (v := .bool (decide (((F + k : Nat) : Int) < ((F + 4 : Nat) : Int)))) h107 rfl fun a108 h108 => ?_; clear h107
    refine pk0 (v := .bool (decide (((F + k : Nat) : Int) < ((F + 4 : Nat) : Int)))) h108 rfl fun a109 h109 => ?_; clear h108
    refine pl_nil ?_
    refine co_then ?_
    cases hc110 : (decide (((F + k : Nat) : Int) < ((F + 4 : Nat) : Int)))
    ·
     rw [hc110] at h109
     have hp111 : ¬ (((F + k : Nat) : Int) < ((F + 4 : Nat) : Int)) := of_decide_eq_false hc110
     clear hc110
     refine co_false h109 rfl ?_
     refine wp_exit ?_
     refine co_thenX ?_
     refine co_thenX ?_
     refine co_blockX ?_
     refine co_then ?_
     refine co_seq ?_
     refine co_reg ?_
     refine pk (v := .agg #[.int .i64 3, .int .i64 (mxI ep 0), .int .i64 (mxI sb 0), .int .i64 0, .bool false, .int .u64 hz, .int .u64 0, .int .i64 (mxI ba 0), .int .i64 ((F : Nat) : Int), .int .i64 (mnI ((stN l : Nat) : Int) ((G : Nat) : Int)), .int .i64 0, .string (⟨#[]⟩), .string (⟨#[]⟩), .int .i64 0, .slice none 0 0, .int .u64 0, .int .i64 0, .int .i64 0, .slice none 0 0, u, .slice none 0 0, .slice none 0 0]) h109 rfl (rn_loadN rfl rfl Try.underlying74 rfl (by kernel_rfl) hf77.all) fun a112 h112 => ?_; clear h109
     refine pwD h112 rfl (op_storeN rfl rfl rfl (all_cons rfl (all_cons rfl (all_cons rfl (all_cons rfl (all_cons rfl (all_cons rfl (all_cons rfl (all_cons rfl (all_cons rfl (all_cons rfl (all_cons rfl (all_cons rfl (all_cons rfl (all_cons rfl (all_cons rfl (all_cons rfl (all_cons rfl (all_cons rfl (all_cons rfl (all_cons (row_one hf78) (all_cons rfl (all_cons rfl all_nil)))))))))))))))))))))) (by kernel_rfl) hk80 rfl) ?_; clear h112
     rintro _ w114 a113 ⟨hk115, hz116, hg117⟩ h113
     have hk115' : Blk w114 N3 74 #[.int .i64 3, .int .i64 (mxI ep 0), .int .i64 (mxI sb 0), .int .i64 0, .bool false, .int .u64 hz, .int .u64 0, .int .i64 (mxI ba 0), .int .i64 ((F : Nat) : Int), .int .i64 (mnI ((stN l : Nat) : Int) ((G : Nat) : Int)), .int .i64 0, .string (⟨#[]⟩), .string (⟨#[]⟩), .int .i64 0, .slice none 0 0, .int .u64 0, .int .i64 0, .int .i64 0, .slice none 0 0, u, .slice none 0 0, .slice none 0 0] := hk115; clear hk115
     have hz118 := hg117.size
     refine pl_nil ?_
     refine co_then ?_
     refine wp_ret ?_
     refine co_retC (Q := fun _ _ _ => True) h113 rfl rfl hk115' Try.underlying74 rfl (by kernel_rfl) ?_
     have hr119 := row_kept_at hf78 hg117 (own_neT hf78 hk80 (by decide))
     have hB120 := hb_at hB79 hg117 (by omega)
     have hfm := fwM_n hG hF
     have hfp := fwP_n hG
     exact ⟨_, by rw [hfm, hfp], (row_eq (row_lows hr119 (by omega)) (fwE_n hG hF (by omega) (by omega) (by omega))), hB120⟩
    ·
     rw [hc110] at h109
     have hp121 : ((F + k : Nat) : Int) < ((F + 4 : Nat) : Int) := of_decide_eq_true hc110
     clear hc110
     refine co_true h109 rfl ?_
     refine wp_skip ?_
     refine co_then ?_
     refine co_seq ?_
     refine wp_block ?_
     refine dr_gen (fun x => Below w.heap.size w x) (by kernel_rfl) (fun w122 hg123 => ?_) (fun w122 hg123 => ?_)
     ·
      have hz124 := hg123.size
      have hB125 := hb_new hB79 hg123
      exact hB125
     have hz126 := hg123.size
     have hB127 := hb_new hB79 hg123
     refine dk0 0 (v := pt N49 19) h109 rfl rfl hB127 fun a128 h128 => ?_; clear h109
     refine dk0 2 (v := v) h128 rfl rfl hB127 fun a129 h129 => ?_; clear h128
     refine dk0 3 (v := .int .i64 ((F + k : Nat) : Int)) h129 rfl rfl hB127 fun a130 h130 => ?_; clear h129
     obtain ⟨y131, hy131⟩ : ∃ z, l[F + k]? = some z := ⟨_, List.getElem?_eq_getElem (by first | omega | (simp; done) | (simp; omega))⟩
     have oky131 := hok _ (List.mem_of_getElem? hy131)
     have k132 : 0 ≤ y131.ts := oky131.ts0
     have k133 : y131.ts < 18446744073709551616 := oky131.ts1
     refine dk 4 (v := pt (blkOf v) (offOf v + (F + k) * 4)) h130 rfl rfl hB127 (fun x hx => (rn_index rfl rfl rfl Try.underlying69 Try.sizeOf38 (hs.below hx) (by omega) (by first | omega | (simp; done) | (simp; omega)))) fun a134 h134 => ?_; clear h130
     refine dk 5 (v := .agg #[.int .i64 y131.client, .int .i64 y131.req, y131.ops, .int .u64 y131.ts]) h134 rfl rfl hB127 (fun x hx => (rn_loadN rfl rfl Try.underlying38 rfl (by kernel_rfl) (sl_at (hs.below hx) hy131))) fun a135 h135 => ?_; clear h134
     refine dr_many [1, 6] (by kernel_rfl) (by simp) ⟨?_, ?_, trivial⟩
     ·
      have hk136 := hf77.kept hg123 (by simp)
      refine dr_opVal (i := 1) (v := u) h135 rfl rfl rfl rfl (by kernel_rfl) rfl (rn_load1 rfl rfl Try.isAgg69 (hk136.cell rfl)) hB127 (fun a137 h137 => ?_); clear h135
      refine d1 6 h137 rfl rfl (op_new (v := fun N => .slice (some ⟨N, 0, none⟩) 1 1) (T := 38) (cs := #[.int .i64 y131.client, .int .i64 y131.req, y131.ops, .int .u64 y131.ts]) (by kernel_rfl) (by kernel_rfl) (by kernel_rfl)) ?_ ?_; clear h137
      ·
       rintro _ w139 ⟨N140, rfl, hN143, hz144, hk142, hg141⟩
       have hr146 := row_kept_new hf78 hg123
       have ha145 := row_fresh hr146 hN143
       have hz147 := hg141.size
       have hB148 := hb_new hB127 hg141
       exact hB148
      rintro _ w139 a138 ⟨N140, rfl, hN143, hz144, hk142, hg141⟩ h138
      have hr146 := row_kept_new hf78 hg123
      have ha145 := row_fresh hr146 hN143
      have hz147 := hg141.size
      try dsimp only at h138
      have hB148 := hb_new hB127 hg141
      have hr155 := row_kept_new hr146 hg141
      refine d1 7 h138 rfl rfl (op_append rfl (N49 + 1) 38 (z := .agg #[.int .i64 0, .int .i64 0, .slice none 0 0, .int .u64 0]) (size := 4) (bytes := 48) Try.underlying69 (by kernel_rfl) rfl rfl rfl hr155 rfl hk142 rfl (all_cons rfl (all_cons rfl (all_cons (sl_one (oky131.ops.below hB148)) (all_cons rfl all_nil)))) (by first | omega | (simp only [List.length_nil, List.length_append, List.length_cons, List.length_take, List.length_drop]; omega)) (by first | omega | (simp only [List.length_nil, List.length_append, List.length_cons, List.length_take, List.length_drop]; omega)) (by omega)) ?_ ?_; clear h138
      ·
       rintro v151 w150 ⟨hr152, hg153⟩
       have hr152' : w150.ownsRow (N49 + 1) 38 4 v151 (((l.drop F).take k ++ [(EntT.mk y131.client y131.req (y131.ops) y131.opl y131.ts)]).length) (((l.drop F).take k ++ [(EntT.mk y131.client y131.req (y131.ops) y131.opl y131.ts)]).flatMap entE) := row_push (y := (EntT.mk y131.client y131.req (y131.ops) y131.opl y131.ts)) hr152 rfl rfl; clear hr152
       have hz156 := hg153.size
       have hk157 := hk80.kept hg123 (by simp)
       have hk158 := hk157.kept hg141 (by simp)
       have hk159 := hk136.kept hg141 (by simp)
       have hB160 := hb_row hB148 hr155 (by omega) hg153
       exact hB160
      rintro v151 w150 a149 ⟨hr152, hg153⟩ h149
      have hr152' : w150.ownsRow (N49 + 1) 38 4 v151 (((l.drop F).take k ++ [(EntT.mk y131.client y131.req (y131.ops) y131.opl y131.ts)]).length) (((l.drop F).take k ++ [(EntT.mk y131.client y131.req (y131.ops) y131.opl y131.ts)]).flatMap entE) := row_push (y := (EntT.mk y131.client y131.req (y131.ops) y131.opl y131.ts)) hr152 rfl rfl; clear hr152
      have hz156 := hg153.size
      have hk157 := hk80.kept hg123 (by simp)
      have hk158 := hk157.kept hg141 (by simp)
      have hk159 := hk136.kept hg141 (by simp)
      have hB160 := hb_row hB148 hr155 (by omega) hg153
      refine dk0 8 (v := pt N49 19) h149 rfl rfl hB160 fun a161 h161 => ?_; clear h149
      have hk167 := hk159.kept hg153 (own_neT hr155 hk159 (by decide))
      refine d1D 9 h161 rfl rfl (op_store1 rfl rfl rfl (row_one hr152') Try.sizeOf69 hk167 rfl) ?_ ?_; clear h161
      ·
       rintro _ w163 ⟨hk164, hz165, hg166⟩
       have hk164' : Blk w163 N49 74 #[.int .i64 3, .int .i64 (mxI ep 0), .int .i64 (mxI sb 0), .int .i64 0, .bool false, .int .u64 hz, .int .u64 0, .int .i64 (mxI ba 0), .int .i64 ((F : Nat) : Int), .int .i64 (mnI ((stN l : Nat) : Int) ((G : Nat) : Int)), .int .i64 0, .string (⟨#[]⟩), .string (⟨#[]⟩), .int .i64 0, .slice none 0 0, .int .u64 0, .int .i64 0, .int .i64 0, .slice none 0 0, v151, .slice none 0 0, .slice none 0 0] := hk164; clear hk164
       have hz168 := hg166.size
       have hB169 := hb_at hB160 hg166 (by omega)
       exact hB169
      rintro _ w163 a162 ⟨hk164, hz165, hg166⟩ h162
      have hk164' : Blk w163 N49 74 #[.int .i64 3, .int .i64 (mxI ep 0), .int .i64 (mxI sb 0), .int .i64 0, .bool false, .int .u64 hz, .int .u64 0, .int .i64 (mxI ba 0), .int .i64 ((F : Nat) : Int), .int .i64 (mnI ((stN l : Nat) : Int) ((G : Nat) : Int)), .int .i64 0, .string (⟨#[]⟩), .string (⟨#[]⟩), .int .i64 0, .slice none 0 0, .int .u64 0, .int .i64 0, .int .i64 0, .slice none 0 0, v151, .slice none 0 0, .slice none 0 0] := hk164; clear hk164
      have hz168 := hg166.size
      refine dr_done (by kernel_rfl) ?_
      refine co_blockN ?_
      refine co_then ?_
      refine co_reg ?_
      refine pk0 (v := .int .i64 ((F + k : Nat) : Int)) h162 rfl fun a169 h169 => ?_; clear h162
      refine pk (v := .int .i64 ((F + k + 1 : Nat) : Int)) h169 rfl (rn_arith' rfl rfl rfl rfl rfl rfl (IntWalk.i64_in _ (by omega)) (by omega)) fun a170 h170 => ?_; clear h169
      refine pk0 (v := .int .i64 ((F + k + 1 : Nat) : Int)) h170 rfl fun a171 h171 => ?_; clear h170
      refine pl_nil ?_
      refine co_then ?_
      refine ⟨(4 - (k + 1)), by omega, ?_⟩
      have hr172 := row_kept_at hr152' hg166 (own_neT hr152' hk167 (by decide))
      have hB173 := hb_at hB160 hg166 (by omega)
      have hk174 := hk158.kept hg153 (own_neT hr155 hk158 (by decide))
      have hk175 := hk174.kept hg166 (by simp; omega)
      exact ⟨k + 1, v151, h171.sub ⟨rfl, rfl, rfl, rfl, rfl, (slot_eq rfl (congrArg (Value.int .i64) (by first | rfl | omega))), trivial⟩, rfl, by omega, by omega, hk164', (row_eq hr172 (by first | rfl | (simp; done) | exact en_at (by assumption))), hB173, hk175⟩
     ·
      refine dr_op (i := 6) h135 rfl rfl rfl rfl (op_new (v := fun N => .slice (some ⟨N, 0, none⟩) 1 1) (T := 38) (cs := #[.int .i64 y131.client, .int .i64 y131.req, y131.ops, .int .u64 y131.ts]) (by kernel_rfl) (by kernel_rfl) (by kernel_rfl)) ?_ ?_; clear h135
      ·
       rintro _ w177 ⟨N178, rfl, hN181, hz182, hk180, hg179⟩
       have hr184 := row_kept_new hf78 hg123
       have ha183 := row_fresh hr184 hN181
       have hz185 := hg179.size
       have hB186 := hb_new hB127 hg179
       exact hB186
      rintro _ w177 a176 ⟨N178, rfl, hN181, hz182, hk180, hg179⟩ h176
      have hr184 := row_kept_new hf78 hg123
      have ha183 := row_fresh hr184 hN181
      have hz185 := hg179.size
      try dsimp only at h176
      have hB186 := hb_new hB127 hg179
      refine dr_many [1] (by kernel_rfl) (by simp) ⟨?_, trivial⟩
      ·
       have hk187 := hf77.kept hg123 (by simp)
       have hk188 := hk187.kept hg179 (by simp)
       refine dr_opVal (i := 1) (v := u) h176 rfl rfl rfl rfl (by kernel_rfl) rfl (rn_load1 rfl rfl Try.isAgg69 (hk188.cell rfl)) hB186 (fun a189 h189 => ?_); clear h176
       have hr196 := row_kept_new hr184 hg179
       refine d1 7 h189 rfl rfl (op_append rfl (N49 + 1) 38 (z := .agg #[.int .i64 0, .int .i64 0, .slice none 0 0, .int .u64 0]) (size := 4) (bytes := 48) Try.underlying69 (by kernel_rfl) rfl rfl rfl hr196 rfl hk180 rfl (all_cons rfl (all_cons rfl (all_cons (sl_one (oky131.ops.below hB186)) (all_cons rfl all_nil)))) (by first | omega | (simp only [List.length_nil, List.length_append, List.length_cons, List.length_take, List.length_drop]; omega)) (by first | omega | (simp only [List.length_nil, List.length_append, List.length_cons, List.length_take, List.length_drop]; omega)) (by omega)) ?_ ?_; clear h189
       ·
        rintro v192 w191 ⟨hr193, hg194⟩
        have hr193' : w191.ownsRow (N49 + 1) 38 4 v192 (((l.drop F).take k ++ [(EntT.mk y131.client y131.req (y131.ops) y131.opl y131.ts)]).length) (((l.drop F).take k ++ [(EntT.mk y131.client y131.req (y131.ops) y131.opl y131.ts)]).flatMap entE) := row_push (y := (EntT.mk y131.client y131.req (y131.ops) y131.opl y131.ts)) hr193 rfl rfl; clear hr193
        have hz197 := hg194.size
        have hk198 := hk80.kept hg123 (by simp)
        have hk199 := hk198.kept hg179 (by simp)
        have hB200 := hb_row hB186 hr196 (by omega) hg194
        exact hB200
       rintro v192 w191 a190 ⟨hr193, hg194⟩ h190
       have hr193' : w191.ownsRow (N49 + 1) 38 4 v192 (((l.drop F).take k ++ [(EntT.mk y131.client y131.req (y131.ops) y131.opl y131.ts)]).length) (((l.drop F).take k ++ [(EntT.mk y131.client y131.req (y131.ops) y131.opl y131.ts)]).flatMap entE) := row_push (y := (EntT.mk y131.client y131.req (y131.ops) y131.opl y131.ts)) hr193 rfl rfl; clear hr193
       have hz197 := hg194.size
       have hk198 := hk80.kept hg123 (by simp)
       have hk199 := hk198.kept hg179 (by simp)
       have hB200 := hb_row hB186 hr196 (by omega) hg194
       refine dk0 8 (v := pt N49 19) h190 rfl rfl hB200 fun a201 h201 => ?_; clear h190
       have hk207 := hk188.kept hg194 (own_neT hr196 hk188 (by decide))
       refine d1D 9 h201 rfl rfl (op_store1 rfl rfl rfl (row_one hr193') Try.sizeOf69 hk207 rfl) ?_ ?_; clear h201
       ·
        rintro _ w203 ⟨hk204, hz205, hg206⟩
        have hk204' : Blk w203 N49 74 #[.int .i64 3, .int .i64 (mxI ep 0), .int .i64 (mxI sb 0), .int .i64 0, .bool false, .int .u64 hz, .int .u64 0, .int .i64 (mxI ba 0), .int .i64 ((F : Nat) : Int), .int .i64 (mnI ((stN l : Nat) : Int) ((G : Nat) : Int)), .int .i64 0, .string (⟨#[]⟩), .string (⟨#[]⟩), .int .i64 0, .slice none 0 0, .int .u64 0, .int .i64 0, .int .i64 0, .slice none 0 0, v192, .slice none 0 0, .slice none 0 0] := hk204; clear hk204
        have hz208 := hg206.size
        have hB209 := hb_at hB200 hg206 (by omega)
        exact hB209
       rintro _ w203 a202 ⟨hk204, hz205, hg206⟩ h202
       have hk204' : Blk w203 N49 74 #[.int .i64 3, .int .i64 (mxI ep 0), .int .i64 (mxI sb 0), .int .i64 0, .bool false, .int .u64 hz, .int .u64 0, .int .i64 (mxI ba 0), .int .i64 ((F : Nat) : Int), .int .i64 (mnI ((stN l : Nat) : Int) ((G : Nat) : Int)), .int .i64 0, .string (⟨#[]⟩), .string (⟨#[]⟩), .int .i64 0, .slice none 0 0, .int .u64 0, .int .i64 0, .int .i64 0, .slice none 0 0, v192, .slice none 0 0, .slice none 0 0] := hk204; clear hk204
       have hz208 := hg206.size
       refine dr_done (by kernel_rfl) ?_
       refine co_blockN ?_
       refine co_then ?_
       refine co_reg ?_
       refine pk0 (v := .int .i64 ((F + k : Nat) : Int)) h202 rfl fun a209 h209 => ?_; clear h202
       refine pk (v := .int .i64 ((F + k + 1 : Nat) : Int)) h209 rfl (rn_arith' rfl rfl rfl rfl rfl rfl (IntWalk.i64_in _ (by omega)) (by omega)) fun a210 h210 => ?_; clear h209
       refine pk0 (v := .int .i64 ((F + k + 1 : Nat) : Int)) h210 rfl fun a211 h211 => ?_; clear h210
       refine pl_nil ?_
       refine co_then ?_
       refine ⟨(4 - (k + 1)), by omega, ?_⟩
       have hr212 := row_kept_at hr193' hg206 (own_neT hr193' hk207 (by decide))
       have hB213 := hb_at hB200 hg206 (by omega)
       have hk214 := hk199.kept hg194 (own_neT hr196 hk199 (by decide))
       have hk215 := hk214.kept hg206 (by simp; omega)
       exact ⟨k + 1, v192, h211.sub ⟨rfl, rfl, rfl, rfl, rfl, (slot_eq rfl (congrArg (Value.int .i64) (by first | rfl | omega))), trivial⟩, rfl, by omega, by omega, hk204', (row_eq hr212 (by first | rfl | (simp; done) | exact en_at (by assumption))), hB213, hk215⟩
set_option maxRecDepth 100000 in
theorem rack32_any (ep : Int) (gd : Int) (he : Int) (fr : Int) (v : Value) (l : List EntT) (w : World) (hs : SliceOf entE 4 w v l) (hok : ∀ z ∈ l, EntOk w z) (hll : l.length ≤ 1000) :
    Calls Try.prog 29 #[.int .i64 ep, .int .i64 gd, .int .i64 he, .int .i64 fr, v] w fun e w' => ∃ (u : Value), e = .returned (.agg #[.int .i64 4, .int .i64 (mxI ep 0), .int .i64 0, .int .i64 0, .bool false, .int .u64 0, .int .u64 0, .int .i64 (mxI (((fwA l gd).length : Nat) : Int) 0), .int .i64 (mxI he 0), .int .i64 (mxI (fwF l gd fr) 0), .int .i64 0, .string (⟨#[]⟩), .string (⟨#[]⟩), .int .i64 0, .slice none 0 0, .int .u64 0, .int .i64 0, .int .i64 0, .slice none 0 0, .slice none 0 0, u, .slice none 0 0]) ∧ w'.ownsRow w.heap.size 29 1 u (akS l gd fr).length ((akS l gd fr).flatMap (intE .u64)) ∧ Below w.heap.size w w' := by
 obtain ⟨G, hG⟩ : ∃ G : Nat, (G : Int) = bwI gd ((l.length : Nat) : Int) := ⟨(bwI gd ((l.length : Nat) : Int)).toNat, by have := bwI_p gd l.length; omega⟩
 obtain ⟨F, hF⟩ : ∃ F : Nat, (F : Int) = bwI fr (G : Int) := ⟨(bwI fr (G : Int)).toNat, by have := bwI_p fr G; omega⟩
 have hGl := (fwA_n hG).2
 have hFG := (fwF_n hG hF).2
 have hB0 := Below.refl w.heap.size w
 have hl_hs := sl_len hs
 refine co_enter (n := 60) Try.func29 rfl rfl rfl [(0, .int .i64 ep), (1, .int .i64 gd), (2, .int .i64 he), (3, .int .i64 fr), (4, v)] rfl (fun a h0 => ?_)
 refine co_seq ?_
 refine co_reg ?_
 refine pw h0 rfl (op_new (v := fun N => pt N 0) (T := 74) (cs := #[.int .i64 0, .int .i64 0, .int .i64 0, .int .i64 0, .bool false, .int .u64 0, .int .u64 0, .int .i64 0, .int .i64 0, .int .i64 0, .int .i64 0, .string (⟨#[]⟩), .string (⟨#[]⟩), .int .i64 0, .slice none 0 0, .int .u64 0, .int .i64 0, .int .i64 0, .slice none 0 0, .slice none 0 0, .slice none 0 0, .slice none 0 0]) (by kernel_rfl) (by kernel_rfl) (by kernel_rfl)) ?_; clear h0
 rintro _ w2 a1 ⟨N3, rfl, hN6, hz7, hk5, hg4⟩ h1
 have hz8 := hg4.size
 try dsimp only at h1
 refine pl_nil ?_
 refine co_then ?_
 refine co_seq ?_
 refine co_reg ?_
 refine pk0 (v := .int .i64 gd) h1 rfl fun a9 h9 => ?_; clear h1
 refine pk0 (v := v) h9 rfl fun a10 h10 => ?_; clear h9
 have hB11 := hb_new hB0 hg4
 refine pk (v := .int .i64 ((l.length : Nat) : Int)) h10 rfl (rn_len rfl rfl Try.underlying69 (hs.below hB11)) fun a12 h12 => ?_; clear h10
 refine pw h12 rfl (op_call (args := #[.int .i64 gd, .int .i64 ((l.length : Nat) : Int)]) (R := fun res xw => res = .int .i64 ((G : Nat) : Int) ∧ Below w2.heap.size w2 xw) rfl rfl rfl (by kernel_rfl) (by kernel_rfl) (Try.call73 _ _) (fit32_any gd ((l.length : Nat) : Int) w2 (by omega)) (by rintro e x ⟨h0, h⟩; rw [← hG] at h0; exact ⟨_, h0, rfl, h⟩)) ?_; clear h12
 rintro _ w14 a13 ⟨rfl, hb15⟩ h13
 have hz16 := hb15.size
 refine pk0 (v := .int .i64 ((G : Nat) : Int)) h13 rfl fun a17 h17 => ?_; clear h13
 refine pl_nil ?_
 refine co_then ?_
 refine co_seq ?_
 refine co_reg ?_
 refine pk0 (v := .int .i64 fr) h17 rfl fun a18 h18 => ?_; clear h17
 refine pk0 (v := .int .i64 ((G : Nat) : Int)) h18 rfl fun a19 h19 => ?_; clear h18
 have hB22 := hb_call hB11 hb15
 refine pw h19 rfl (op_call (args := #[.int .i64 fr, .int .i64 ((G : Nat) : Int)]) (R := fun res xw => res = .int .i64 ((F : Nat) : Int) ∧ Below w14.heap.size w14 xw) rfl rfl rfl (by kernel_rfl) (by kernel_rfl) (Try.call73 _ _) (fit32_any fr ((G : Nat) : Int) w14 (by omega)) (by rintro e x ⟨h0, h⟩; rw [← hF] at h0; exact ⟨_, h0, rfl, h⟩)) ?_; clear h19
 rintro _ w21 a20 ⟨rfl, hb23⟩ h20
 have hz24 := hb23.size
 refine pk0 (v := .int .i64 ((F : Nat) : Int)) h20 rfl fun a25 h25 => ?_; clear h20
 refine pl_nil ?_
 refine co_then ?_
 refine co_seq ?_
 refine co_reg ?_
 refine pk0 (v := .int .i64 ep) h25 rfl fun a26 h26 => ?_; clear h25
 have hmm27 := mxI_p ep 0
 refine pk0 (v := .int .i64 (mxI ep 0)) h26 rfl fun a28 h28 => ?_; clear h26
 refine pk0 (v := .int .i64 ((G : Nat) : Int)) h28 rfl fun a29 h29 => ?_; clear h28
 refine pk0 (v := .int .i64 he) h29 rfl fun a30 h30 => ?_; clear h29
 have hmm31 := mxI_p he 0
 refine pk0 (v := .int .i64 (mxI he 0)) h30 rfl fun a32 h32 => ?_; clear h30
 refine pk0 (v := .int .i64 ((F : Nat) : Int)) h32 rfl fun a33 h33 => ?_; clear h32
 refine pk0 (v := .agg #[.int .i64 4, .int .i64 (mxI ep 0), .int .i64 0, .int .i64 0, .bool false, .int .u64 0, .int .u64 0, .int .i64 ((G : Nat) : Int), .int .i64 (mxI he 0), .int .i64 ((F : Nat) : Int), .int .i64 0, .string (⟨#[]⟩), .string (⟨#[]⟩), .int .i64 0, .slice none 0 0, .int .u64 0, .int .i64 0, .int .i64 0, .slice none 0 0, .slice none 0 0, .slice none 0 0, .slice none 0 0]) h33 rfl fun a34 h34 => ?_; clear h33
 refine pw h34 rfl (op_new (v := fun N => pt N 0) (T := 74) (cs := #[.int .i64 0, .int .i64 0, .int .i64 0, .int .i64 0, .bool false, .int .u64 0, .int .u64 0, .int .i64 0, .int .i64 0, .int .i64 0, .int .i64 0, .string (⟨#[]⟩), .string (⟨#[]⟩), .int .i64 0, .slice none 0 0, .int .u64 0, .int .i64 0, .int .i64 0, .slice none 0 0, .slice none 0 0, .slice none 0 0, .slice none 0 0]) (by kernel_rfl) (by kernel_rfl) (by kernel_rfl)) ?_; clear h34
 rintro _ w36 a35 ⟨N37, rfl, hN40, hz41, hk39, hg38⟩ h35
 have hz42 := hg38.size
 try dsimp only at h35
 refine pwD h35 rfl (op_storeN rfl rfl rfl (all_cons rfl (all_cons rfl (all_cons rfl (all_cons rfl (all_cons rfl (all_cons rfl (all_cons rfl (all_cons rfl (all_cons rfl (all_cons rfl (all_cons rfl (all_cons rfl (all_cons rfl (all_cons rfl (all_cons rfl (all_cons rfl (all_cons rfl (all_cons rfl (all_cons rfl (all_cons rfl (all_cons rfl (all_cons rfl all_nil)))))))))))))))))))))) (by kernel_rfl) hk39 rfl) ?_; clear h35
 rintro _ w44 a43 ⟨hk45, hz46, hg47⟩ h43
 have hk45' : Blk w44 N37 74 #[.int .i64 4, .int .i64 (mxI ep 0), .int .i64 0, .int .i64 0, .bool false, .int .u64 0, .int .u64 0, .int .i64 ((G : Nat) : Int), .int .i64 (mxI he 0), .int .i64 ((F : Nat) : Int), .int .i64 0, .string (⟨#[]⟩), .string (⟨#[]⟩), .int .i64 0, .slice none 0 0, .int .u64 0, .int .i64 0, .int .i64 0, .slice none 0 0, .slice none 0 0, .slice none 0 0, .slice none 0 0] := hk45; clear hk45
 have hz48 := hg47.size
 refine pl_nil ?_
 refine co_then ?_
 refine co_seq ?_
 refine co_seq ?_
 refine co_reg ?_
 refine pk0 (v := .int .i64 ((F : Nat) : Int)) h43 rfl fun a49 h49 => ?_; clear h43
 refine pk0 (v := .int .i64 ((F : Nat) : Int)) h49 rfl fun a50 h50 => ?_; clear h49
 refine pl_nil ?_
 refine co_then ?_
 refine wp_block ?_
 have hnz9 : ∀ j, j < 0 → ∀ z, l[F + j]? = some z → z.ts ≠ 0 := fun j hj => absurd hj (by omega)
 have h51 : Slots 60 [(4, v), (10, pt N3 0), (11, .int .i64 ((G : Nat) : Int)), (12, .int .i64 ((F : Nat) : Int)), (13, pt N37 0), (14, .int .i64 ((F : Nat) : Int))] _ := h50.sub ⟨rfl, rfl, rfl, rfl, rfl, rfl, trivial⟩; clear h50
 refine co_loop (fun mm a x => ∃ (k : Nat) (u : Value), Slots 60 [(4, v), (10, pt N3 0), (11, .int .i64 ((G : Nat) : Int)), (12, .int .i64 ((F : Nat) : Int)), (13, pt N37 0), (14, .int .i64 ((F + k : Nat) : Int))] a ∧ mm = 8 - k ∧ (F + k ≤ G) ∧ (k ≤ 8) ∧ (∀ j, j < k → ∀ z, l[F + j]? = some z → z.ts ≠ 0) ∧ Blk x N37 74 #[.int .i64 4, .int .i64 (mxI ep 0), .int .i64 0, .int .i64 0, .bool false, .int .u64 0, .int .u64 0, .int .i64 ((G : Nat) : Int), .int .i64 (mxI he 0), .int .i64 ((F : Nat) : Int), .int .i64 0, .string (⟨#[]⟩), .string (⟨#[]⟩), .int .i64 0, .slice none 0 0, .int .u64 0, .int .i64 0, .int .i64 0, .slice none 0 0, .slice none 0 0, u, .slice none 0 0] ∧ x.ownsRow (N37 + 1) 29 1 u (tsL ((l.drop F).take k)).length ((tsL ((l.drop F).take k)).flatMap (intE .u64)) ∧ Below w.heap.size w x ∧ Blk x N3 74 #[.int .i64 0, .int .i64 0, .int .i64 0, .int .i64 0, .bool false, .int .u64 0, .int .u64 0, .int .i64 0, .int .i64 0, .int .i64 0, .int .i64 0, .string (⟨#[]⟩), .string (⟨#[]⟩), .int .i64 0, .slice none 0 0, .int .u64 0, .int .i64 0, .int .i64 0, .slice none 0 0, .slice none 0 0, .slice none 0 0, .slice none 0 0]) (8 - 0) ?_ ?_
 have hB52 := hb_call hB22 hb23
 have hB53 := hb_new hB52 hg38
 have hB54 := hb_at hB53 hg47 (by omega)
 have hk55 := hk5.below hb15
 have hk56 := hk55.below hb23
 have hk57 := hk56.kept hg38 (by simp)
 have hk58 := hk57.kept hg47 (by simp; omega)
 · exact ⟨0, (.slice none 0 0), h51.sub ⟨rfl, rfl, rfl, rfl, rfl, (slot_eq rfl (congrArg (Value.int .i64) (by first | rfl | omega))), trivial⟩, rfl, by omega, by omega, by exact hnz9, hk45', (row_nilL _ _ _ _ _), hB54, hk58⟩
 · rintro k59 a60 w61 ⟨k, u, h60, rfl, hi62, hi63, hi64, hf65, hf66, hB67, hk68⟩
   have hz69 := hB67.size
   have hl70 := hk68.lt
   have hl71 := hf65.lt
   have htl : (tsL ((l.drop F).take k)).length = k := by rw [tsL_len, List.length_take, List.length_drop]; omega
   have hnz : ∀ j, j < k → ∀ z, l[F + j]? = some z → z.ts ≠ 0 := by assumption
   refine co_seq ?_
   refine co_seq ?_
   refine co_reg ?_
   refine pk0 (v := .int .i64 ((F + k : Nat) : Int)) h60 rfl fun a72 h72 => ?_; clear h60
   refine pk0 (v := .int .i64 ((G : Nat) : Int)) h72 rfl fun a73 h73 => ?_; clear h72
   refine pk0 (v := .bool (decide (((F + k : Nat) : Int) < ((G : Nat) : Int)))) h73 rfl fun a74 h74 => ?_; clear h73
   refine pk0 (v := .bool (decide (((F + k : Nat) : Int) < ((G : Nat) : Int)))) h74 rfl fun a75 h75 => ?_; clear h74
   cases hc76 : (decide (((F + k : Nat) : Int) < ((G : Nat) : Int)))
   ·
    rw [hc76] at h75
    have hp77 : ¬ (((F + k : Nat) : Int) < ((G : Nat) : Int)) := of_decide_eq_false hc76
    clear hc76
    refine psk h75 rfl fun a78 h78 => ?_; clear h75
    refine psk h78 rfl fun a79 h79 => ?_; clear h78
    refine psk h79 rfl fun a80 h80 => ?_; clear h79
    refine psk h80 rfl fun a81 h81 => ?_; clear h80
    refine pk0 (v := .bool false) h81 rfl fun a82 h82 => ?_; clear h81
    refine pk0 (v := .bool false) h82 rfl fun a83 h83 => ?_; clear h82
    refine psk h83 rfl fun a84 h84 => ?_; clear h83
    refine psk h84 rfl fun a85 h85 => ?_; clear h84
    refine psk h85 rfl fun a86 h86 => ?_; clear h85
    refine psk h86 rfl fun a87 h87 => ?_; clear h86
    refine psk h87 rfl fun a88 h88 => ?_; clear h87
    refine psk h88 rfl fun a89 h89 => ?_; clear h88
    refine pk0 (v := .bool false) h89 rfl fun a90 h90 => ?_; clear h89
    refine pl_nil ?_
    refine co_then ?_
    refine co_false h90 rfl ?_
    refine wp_exit ?_
    refine co_thenX ?_
    refine co_thenX ?_
    refine co_blockX ?_
    refine co_then ?_
    refine co_seq ?_
    refine co_reg ?_
    refine pk (v := .agg #[.int .i64 4, .int .i64 (mxI ep 0), .int .i64 0, .int .i64 0, .bool false, .int .u64 0, .int .u64 0, .int .i64 ((G : Nat) : Int), .int .i64 (mxI he 0), .int .i64 ((F : Nat) : Int), .int .i64 0, .string (⟨#[]⟩), .string (⟨#[]⟩), .int .i64 0, .slice none 0 0, .int .u64 0, .int .i64 0, .int .i64 0, .slice none 0 0, .slice none 0 0, u, .slice none 0 0]) h90 rfl (rn_loadN rfl rfl Try.underlying74 rfl (by kernel_rfl) hf65.all) fun a91 h91 => ?_; clear h90
    refine pwD h91 rfl (op_storeN rfl rfl rfl (all_cons rfl (all_cons rfl (all_cons rfl (all_cons rfl (all_cons rfl (all_cons rfl (all_cons rfl (all_cons rfl (all_cons rfl (all_cons rfl (all_cons rfl (all_cons rfl (all_cons rfl (all_cons rfl (all_cons rfl (all_cons rfl (all_cons rfl (all_cons rfl (all_cons rfl (all_cons rfl (all_cons (row_one hf66) (all_cons rfl all_nil)))))))))))))))))))))) (by kernel_rfl) hk68 rfl) ?_; clear h91
    rintro _ w93 a92 ⟨hk94, hz95, hg96⟩ h92
    have hk94' : Blk w93 N3 74 #[.int .i64 4, .int .i64 (mxI ep 0), .int .i64 0, .int .i64 0, .bool false, .int .u64 0, .int .u64 0, .int .i64 ((G : Nat) : Int), .int .i64 (mxI he 0), .int .i64 ((F : Nat) : Int), .int .i64 0, .string (⟨#[]⟩), .string (⟨#[]⟩), .int .i64 0, .slice none 0 0, .int .u64 0, .int .i64 0, .int .i64 0, .slice none 0 0, .slice none 0 0, u, .slice none 0 0] := hk94; clear hk94
    have hz97 := hg96.size
    refine pl_nil ?_
    refine co_then ?_
    refine wp_ret ?_
    refine co_retC (Q := fun _ _ _ => True) h92 rfl rfl hk94' Try.underlying74 rfl (by kernel_rfl) ?_
    have hr98 := row_kept_at hf66 hg96 (own_neT hf66 hk68 (by decide))
    have hB99 := hb_at hB67 hg96 (by omega)
    have hfm := fwM_n hG hF
    have hfp := akN_n hG
    exact ⟨_, by rw [hfm, hfp], (row_eq (row_lows hr98 (by omega)) (akS_n hG hF (by omega) (by omega) hnz (.inl (by omega)))), hB99⟩
   ·
    rw [hc76] at h75
    have hp100 : ((F + k : Nat) : Int) < ((G : Nat) : Int) := of_decide_eq_true hc76
    clear hc76
    refine pk0 (v := .int .i64 ((F + k : Nat) : Int)) h75 rfl fun a101 h101 => ?_; clear h75
    refine pk0 (v := .int .i64 ((F : Nat) : Int)) h101 rfl fun a102 h102 => ?_; clear h101
    refine pk (v := .int .i64 ((F + 8 : Nat) : Int)) h102 rfl (rn_arith' rfl rfl rfl rfl rfl rfl (IntWalk.i64_in _ (by omega)) (by omega)) fun a103 h103 => ?_; clear h102
    refine pk0 (v := .bool (decide (((F + k : Nat) : Int) < ((F + 8 : Nat) : Int)))) h103 rfl fun a104 h104 => ?_; clear h103
    refine pk0 (v := .bool (decide (((F + k : Nat) : Int) < ((F + 8 : Nat) : Int)))) h104 rfl fun a105 h105 => ?_; clear h104
    refine pk0 (v := .bool (decide (((F + k : Nat) : Int) < ((F + 8 : Nat) : Int)))) h105 rfl fun a106 h106 => ?_; clear h105
    cases hc107 : (decide (((F + k : Nat) : Int) < ((F + 8 : Nat) : Int)))
    ·
     rw [hc107] at h106
     have hp108 : ¬ (((F + k : Nat) : Int) < ((F + 8 : Nat) : Int)) := of_decide_eq_false hc107
     clear hc107
     refine psk h106 rfl fun a109 h109 => ?_; clear h106
     refine psk h109 rfl fun a110 h110 => ?_; clear h109
     refine psk h110 rfl fun a111 h111 => ?_; clear h110
     refine psk h111 rfl fun a112 h112 => ?_; clear h111
     refine psk h112 rfl fun a113 h113 => ?_; clear h112
     refine psk h113 rfl fun a114 h114 => ?_; clear h113
     refine pk0 (v := .bool false) h114 rfl fun a115 h115 => ?_; clear h114
     refine pl_nil ?_
     refine co_then ?_
     refine co_false h115 rfl ?_
     refine wp_exit ?_
     refine co_thenX ?_
     refine co_thenX ?_
     refine co_blockX ?_
     refine co_then ?_
     refine co_seq ?_
     refine co_reg ?_
     refine pk (v := .agg #[.int .i64 4, .int .i64 (mxI ep 0), .int .i64 0, .int .i64 0, .bool false, .int .u64 0, .int .u64 0, .int .i64 ((G : Nat) : Int), .int .i64 (mxI he 0), .int .i64 ((F : Nat) : Int), .int .i64 0, .string (⟨#[]⟩), .string (⟨#[]⟩), .int .i64 0, .slice none 0 0, .int .u64 0, .int .i64 0, .int .i64 0, .slice none 0 0, .slice none 0 0, u, .slice none 0 0]) h115 rfl (rn_loadN rfl rfl Try.underlying74 rfl (by kernel_rfl) hf65.all) fun a116 h116 => ?_; clear h115
     refine pwD h116 rfl (op_storeN rfl rfl rfl (all_cons rfl (all_cons rfl (all_cons rfl (all_cons rfl (all_cons rfl (all_cons rfl (all_cons rfl (all_cons rfl (all_cons rfl (all_cons rfl (all_cons rfl (all_cons rfl (all_cons rfl (all_cons rfl (all_cons rfl (all_cons rfl (all_cons rfl (all_cons rfl (all_cons rfl (all_cons rfl (all_cons (row_one hf66) (all_cons rfl all_nil)))))))))))))))))))))) (by kernel_rfl) hk68 rfl) ?_; clear h116
     rintro _ w118 a117 ⟨hk119, hz120, hg121⟩ h117
     have hk119' : Blk w118 N3 74 #[.int .i64 4, .int .i64 (mxI ep 0), .int .i64 0, .int .i64 0, .bool false, .int .u64 0, .int .u64 0, .int .i64 ((G : Nat) : Int), .int .i64 (mxI he 0), .int .i64 ((F : Nat) : Int), .int .i64 0, .string (⟨#[]⟩), .string (⟨#[]⟩), .int .i64 0, .slice none 0 0, .int .u64 0, .int .i64 0, .int .i64 0, .slice none 0 0, .slice none 0 0, u, .slice none 0 0] := hk119; clear hk119
     have hz122 := hg121.size
     refine pl_nil ?_
     refine co_then ?_
     refine wp_ret ?_
     refine co_retC (Q := fun _ _ _ => True) h117 rfl rfl hk119' Try.underlying74 rfl (by kernel_rfl) ?_
     have hr123 := row_kept_at hf66 hg121 (own_neT hf66 hk68 (by decide))
     have hB124 := hb_at hB67 hg121 (by omega)
     have hfm := fwM_n hG hF
     have hfp := akN_n hG
     exact ⟨_, by rw [hfm, hfp], (row_eq (row_lows hr123 (by omega)) (akS_n hG hF (by omega) (by omega) hnz (.inl (by omega)))), hB124⟩
    ·
     rw [hc107] at h106
     have hp125 : ((F + k : Nat) : Int) < ((F + 8 : Nat) : Int) := of_decide_eq_true hc107
     clear hc107
     refine pk0 (v := v) h106 rfl fun a126 h126 => ?_; clear h106
     refine pk0 (v := .int .i64 ((F + k : Nat) : Int)) h126 rfl fun a127 h127 => ?_; clear h126
     obtain ⟨y128, hy128⟩ : ∃ z, l[F + k]? = some z := ⟨_, List.getElem?_eq_getElem (by first | omega | (simp; done) | (simp; omega))⟩
     have oky128 := hok _ (List.mem_of_getElem? hy128)
     have k129 : 0 ≤ y128.ts := oky128.ts0
     have k130 : y128.ts < 18446744073709551616 := oky128.ts1
     refine pk (v := pt (blkOf v) (offOf v + (F + k) * 4)) h127 rfl (rn_index rfl rfl rfl Try.underlying69 Try.sizeOf38 (hs.below hB67) (by omega) (by first | omega | (simp; done) | (simp; omega))) fun a131 h131 => ?_; clear h127
     refine pk0 (v := pt (blkOf v) (offOf v + (F + k) * 4 + 3)) h131 rfl fun a132 h132 => ?_; clear h131
     refine pk (v := .int .u64 y128.ts) h132 rfl (rn_load1 rfl rfl Try.isAgg29 ((sl_at (hs.below hB67) hy128) 3 _ rfl)) fun a133 h133 => ?_; clear h132
     refine pk0 (v := .bool (y128.ts != 0)) h133 rfl fun a134 h134 => ?_; clear h133
     refine pk0 (v := .bool (y128.ts != 0)) h134 rfl fun a135 h135 => ?_; clear h134
     refine pl_nil ?_
     refine co_then ?_
     cases hc136 : (y128.ts != 0)
     ·
      rw [hc136] at h135
      have hp137 : ¬ (y128.ts ≠ 0) := by first | simpa using hc136 | simpa [and_assoc] using hc136
      clear hc136
      refine co_false h135 rfl ?_
      refine wp_exit ?_
      refine co_thenX ?_
      refine co_thenX ?_
      refine co_blockX ?_
      refine co_then ?_
      refine co_seq ?_
      refine co_reg ?_
      refine pk (v := .agg #[.int .i64 4, .int .i64 (mxI ep 0), .int .i64 0, .int .i64 0, .bool false, .int .u64 0, .int .u64 0, .int .i64 ((G : Nat) : Int), .int .i64 (mxI he 0), .int .i64 ((F : Nat) : Int), .int .i64 0, .string (⟨#[]⟩), .string (⟨#[]⟩), .int .i64 0, .slice none 0 0, .int .u64 0, .int .i64 0, .int .i64 0, .slice none 0 0, .slice none 0 0, u, .slice none 0 0]) h135 rfl (rn_loadN rfl rfl Try.underlying74 rfl (by kernel_rfl) hf65.all) fun a138 h138 => ?_; clear h135
      refine pwD h138 rfl (op_storeN rfl rfl rfl (all_cons rfl (all_cons rfl (all_cons rfl (all_cons rfl (all_cons rfl (all_cons rfl (all_cons rfl (all_cons rfl (all_cons rfl (all_cons rfl (all_cons rfl (all_cons rfl (all_cons rfl (all_cons rfl (all_cons rfl (all_cons rfl (all_cons rfl (all_cons rfl (all_cons rfl (all_cons rfl (all_cons (row_one hf66) (all_cons rfl all_nil)))))))))))))))))))))) (by kernel_rfl) hk68 rfl) ?_; clear h138
      rintro _ w140 a139 ⟨hk141, hz142, hg143⟩ h139
      have hk141' : Blk w140 N3 74 #[.int .i64 4, .int .i64 (mxI ep 0), .int .i64 0, .int .i64 0, .bool false, .int .u64 0, .int .u64 0, .int .i64 ((G : Nat) : Int), .int .i64 (mxI he 0), .int .i64 ((F : Nat) : Int), .int .i64 0, .string (⟨#[]⟩), .string (⟨#[]⟩), .int .i64 0, .slice none 0 0, .int .u64 0, .int .i64 0, .int .i64 0, .slice none 0 0, .slice none 0 0, u, .slice none 0 0] := hk141; clear hk141
      have hz144 := hg143.size
      refine pl_nil ?_
      refine co_then ?_
      refine wp_ret ?_
      refine co_retC (Q := fun _ _ _ => True) h139 rfl rfl hk141' Try.underlying74 rfl (by kernel_rfl) ?_
      have hr145 := row_kept_at hf66 hg143 (own_neT hf66 hk68 (by decide))
      have hB146 := hb_at hB67 hg143 (by omega)
      have hfm := fwM_n hG hF
      have hfp := akN_n hG
      exact ⟨_, by rw [hfm, hfp], (row_eq (row_lows hr145 (by omega)) (akS_n hG hF (by omega) (by omega) hnz (.inr ⟨_, hy128, by omega⟩))), hB146⟩
     ·
      rw [hc136] at h135
      have hp147 : y128.ts ≠ 0 := by first | simpa using hc136 | simpa [and_assoc] using hc136
      clear hc136
      refine co_true h135 rfl ?_
      refine wp_skip ?_
      refine co_then ?_
      refine co_seq ?_
      refine wp_block ?_
      refine dr_gen (fun x => Below w.heap.size w x) (by kernel_rfl) (fun w148 hg149 => ?_) (fun w148 hg149 => ?_)
      ·
       have hz150 := hg149.size
       have hB151 := hb_new hB67 hg149
       exact hB151
      have hz152 := hg149.size
      have hB153 := hb_new hB67 hg149
      refine dk0 0 (v := pt N37 20) h135 rfl rfl hB153 fun a154 h154 => ?_; clear h135
      refine dk0 2 (v := v) h154 rfl rfl hB153 fun a155 h155 => ?_; clear h154
      refine dk0 3 (v := .int .i64 ((F + k : Nat) : Int)) h155 rfl rfl hB153 fun a156 h156 => ?_; clear h155
      refine dk 4 (v := pt (blkOf v) (offOf v + (F + k) * 4)) h156 rfl rfl hB153 (fun x hx => (rn_index rfl rfl rfl Try.underlying69 Try.sizeOf38 (hs.below hx) (by omega) (by first | omega | (simp; done) | (simp; omega)))) fun a157 h157 => ?_; clear h156
      refine dk0 5 (v := pt (blkOf v) (offOf v + (F + k) * 4 + 3)) h157 rfl rfl hB153 fun a158 h158 => ?_; clear h157
      refine dk 6 (v := .int .u64 y128.ts) h158 rfl rfl hB153 (fun x hx => (rn_load1 rfl rfl Try.isAgg29 ((sl_at (hs.below hx) hy128) 3 _ rfl))) fun a159 h159 => ?_; clear h158
      refine dr_many [1, 7] (by kernel_rfl) (by simp) ⟨?_, ?_, trivial⟩
      ·
       have hk160 := hf65.kept hg149 (by simp)
       refine dr_opVal (i := 1) (v := u) h159 rfl rfl rfl rfl (by kernel_rfl) rfl (rn_load1 rfl rfl Try.isAgg71 (hk160.cell rfl)) hB153 (fun a161 h161 => ?_); clear h159
       refine d1 7 h161 rfl rfl (op_new (v := fun N => .slice (some ⟨N, 0, none⟩) 1 1) (T := 29) (cs := #[.int .u64 y128.ts]) (by kernel_rfl) (by kernel_rfl) (by kernel_rfl)) ?_ ?_; clear h161
       ·
        rintro _ w163 ⟨N164, rfl, hN167, hz168, hk166, hg165⟩
        have hr170 := row_kept_new hf66 hg149
        have ha169 := row_fresh hr170 hN167
        have hz171 := hg165.size
        have hB172 := hb_new hB153 hg165
        exact hB172
       rintro _ w163 a162 ⟨N164, rfl, hN167, hz168, hk166, hg165⟩ h162
       have hr170 := row_kept_new hf66 hg149
       have ha169 := row_fresh hr170 hN167
       have hz171 := hg165.size
       try dsimp only at h162
       have hB172 := hb_new hB153 hg165
       have hr179 := row_kept_new hr170 hg165
       refine d1 8 h162 rfl rfl (op_append rfl (N37 + 1) 29 (z := .int .u64 0) (size := 1) (bytes := 8) Try.underlying71 (by kernel_rfl) rfl rfl rfl hr179 rfl hk166 rfl (by kernel_rfl) (by first | omega | (simp only [List.length_nil, List.length_append, List.length_cons, List.length_take, List.length_drop]; omega)) (by first | omega | (simp only [List.length_nil, List.length_append, List.length_cons, List.length_take, List.length_drop]; omega)) (by omega)) ?_ ?_; clear h162
       ·
        rintro v175 w174 ⟨hr176, hg177⟩
        have hr176' : w174.ownsRow (N37 + 1) 29 1 v175 ((tsL ((l.drop F).take k) ++ [y128.ts]).length) ((tsL ((l.drop F).take k) ++ [y128.ts]).flatMap (intE .u64)) := row_push (y := y128.ts) hr176 rfl rfl; clear hr176
        have hz180 := hg177.size
        have hk181 := hk68.kept hg149 (by simp)
        have hk182 := hk181.kept hg165 (by simp)
        have hk183 := hk160.kept hg165 (by simp)
        have hB184 := hb_row hB172 hr179 (by omega) hg177
        exact hB184
       rintro v175 w174 a173 ⟨hr176, hg177⟩ h173
       have hr176' : w174.ownsRow (N37 + 1) 29 1 v175 ((tsL ((l.drop F).take k) ++ [y128.ts]).length) ((tsL ((l.drop F).take k) ++ [y128.ts]).flatMap (intE .u64)) := row_push (y := y128.ts) hr176 rfl rfl; clear hr176
       have hz180 := hg177.size
       have hk181 := hk68.kept hg149 (by simp)
       have hk182 := hk181.kept hg165 (by simp)
       have hk183 := hk160.kept hg165 (by simp)
       have hB184 := hb_row hB172 hr179 (by omega) hg177
       refine dk0 9 (v := pt N37 20) h173 rfl rfl hB184 fun a185 h185 => ?_; clear h173
       have hk191 := hk183.kept hg177 (own_neT hr179 hk183 (by decide))
       refine d1D 10 h185 rfl rfl (op_store1 rfl rfl rfl (row_one hr176') Try.sizeOf71 hk191 rfl) ?_ ?_; clear h185
       ·
        rintro _ w187 ⟨hk188, hz189, hg190⟩
        have hk188' : Blk w187 N37 74 #[.int .i64 4, .int .i64 (mxI ep 0), .int .i64 0, .int .i64 0, .bool false, .int .u64 0, .int .u64 0, .int .i64 ((G : Nat) : Int), .int .i64 (mxI he 0), .int .i64 ((F : Nat) : Int), .int .i64 0, .string (⟨#[]⟩), .string (⟨#[]⟩), .int .i64 0, .slice none 0 0, .int .u64 0, .int .i64 0, .int .i64 0, .slice none 0 0, .slice none 0 0, v175, .slice none 0 0] := hk188; clear hk188
        have hz192 := hg190.size
        have hB193 := hb_at hB184 hg190 (by omega)
        exact hB193
       rintro _ w187 a186 ⟨hk188, hz189, hg190⟩ h186
       have hk188' : Blk w187 N37 74 #[.int .i64 4, .int .i64 (mxI ep 0), .int .i64 0, .int .i64 0, .bool false, .int .u64 0, .int .u64 0, .int .i64 ((G : Nat) : Int), .int .i64 (mxI he 0), .int .i64 ((F : Nat) : Int), .int .i64 0, .string (⟨#[]⟩), .string (⟨#[]⟩), .int .i64 0, .slice none 0 0, .int .u64 0, .int .i64 0, .int .i64 0, .slice none 0 0, .slice none 0 0, v175, .slice none 0 0] := hk188; clear hk188
       have hz192 := hg190.size
       refine dr_done (by kernel_rfl) ?_
       refine co_blockN ?_
       refine co_then ?_
       refine co_reg ?_
       refine pk0 (v := .int .i64 ((F + k : Nat) : Int)) h186 rfl fun a193 h193 => ?_; clear h186
       refine pk (v := .int .i64 ((F + k + 1 : Nat) : Int)) h193 rfl (rn_arith' rfl rfl rfl rfl rfl rfl (IntWalk.i64_in _ (by omega)) (by omega)) fun a194 h194 => ?_; clear h193
       refine pk0 (v := .int .i64 ((F + k + 1 : Nat) : Int)) h194 rfl fun a195 h195 => ?_; clear h194
       refine pl_nil ?_
       refine co_then ?_
       refine ⟨(8 - (k + 1)), by omega, ?_⟩
       have hnz9 : ∀ j, j < k + 1 → ∀ z, l[F + j]? = some z → z.ts ≠ 0 := nz_next hnz hy128 (by omega)
       have hr196 := row_kept_at hr176' hg190 (own_neT hr176' hk191 (by decide))
       have hB197 := hb_at hB184 hg190 (by omega)
       have hk198 := hk182.kept hg177 (own_neT hr179 hk182 (by decide))
       have hk199 := hk198.kept hg190 (by simp; omega)
       exact ⟨k + 1, v175, h195.sub ⟨rfl, rfl, rfl, rfl, rfl, (slot_eq rfl (congrArg (Value.int .i64) (by first | rfl | omega))), trivial⟩, rfl, by omega, by omega, by exact hnz9, hk188', (row_eq hr196 (by first | rfl | (simp [tsL]; done) | exact ts_at (by assumption))), hB197, hk199⟩
      ·
       refine dr_op (i := 7) h159 rfl rfl rfl rfl (op_new (v := fun N => .slice (some ⟨N, 0, none⟩) 1 1) (T := 29) (cs := #[.int .u64 y128.ts]) (by kernel_rfl) (by kernel_rfl) (by kernel_rfl)) ?_ ?_; clear h159
       ·
        rintro _ w201 ⟨N202, rfl, hN205, hz206, hk204, hg203⟩
        have hr208 := row_kept_new hf66 hg149
        have ha207 := row_fresh hr208 hN205
        have hz209 := hg203.size
        have hB210 := hb_new hB153 hg203
        exact hB210
       rintro _ w201 a200 ⟨N202, rfl, hN205, hz206, hk204, hg203⟩ h200
       have hr208 := row_kept_new hf66 hg149
       have ha207 := row_fresh hr208 hN205
       have hz209 := hg203.size
       try dsimp only at h200
       have hB210 := hb_new hB153 hg203
       refine dr_many [1] (by kernel_rfl) (by simp) ⟨?_, trivial⟩
       ·
        have hk211 := hf65.kept hg149 (by simp)
        have hk212 := hk211.kept hg203 (by simp)
        refine dr_opVal (i := 1) (v := u) h200 rfl rfl rfl rfl (by kernel_rfl) rfl (rn_load1 rfl rfl Try.isAgg71 (hk212.cell rfl)) hB210 (fun a213 h213 => ?_); clear h200
        have hr220 := row_kept_new hr208 hg203
        refine d1 8 h213 rfl rfl (op_append rfl (N37 + 1) 29 (z := .int .u64 0) (size := 1) (bytes := 8) Try.underlying71 (by kernel_rfl) rfl rfl rfl hr220 rfl hk204 rfl (by kernel_rfl) (by first | omega | (simp only [List.length_nil, List.length_append, List.length_cons, List.length_take, List.length_drop]; omega)) (by first | omega | (simp only [List.length_nil, List.length_append, List.length_cons, List.length_take, List.length_drop]; omega)) (by omega)) ?_ ?_; clear h213
        ·
         rintro v216 w215 ⟨hr217, hg218⟩
         have hr217' : w215.ownsRow (N37 + 1) 29 1 v216 ((tsL ((l.drop F).take k) ++ [y128.ts]).length) ((tsL ((l.drop F).take k) ++ [y128.ts]).flatMap (intE .u64)) := row_push (y := y128.ts) hr217 rfl rfl; clear hr217
         have hz221 := hg218.size
         have hk222 := hk68.kept hg149 (by simp)
         have hk223 := hk222.kept hg203 (by simp)
         have hB224 := hb_row hB210 hr220 (by omega) hg218
         exact hB224
        rintro v216 w215 a214 ⟨hr217, hg218⟩ h214
        have hr217' : w215.ownsRow (N37 + 1) 29 1 v216 ((tsL ((l.drop F).take k) ++ [y128.ts]).length) ((tsL ((l.drop F).take k) ++ [y128.ts]).flatMap (intE .u64)) := row_push (y := y128.ts) hr217 rfl rfl; clear hr217
        have hz221 := hg218.size
        have hk222 := hk68.kept hg149 (by simp)
        have hk223 := hk222.kept hg203 (by simp)
        have hB224 := hb_row hB210 hr220 (by omega) hg218
        refine dk0 9 (v := pt N37 20) h214 rfl rfl hB224 fun a225 h225 => ?_; clear h214
        have hk231 := hk212.kept hg218 (own_neT hr220 hk212 (by decide))
        refine d1D 10 h225 rfl rfl (op_store1 rfl rfl rfl (row_one hr217') Try.sizeOf71 hk231 rfl) ?_ ?_; clear h225
        ·
         rintro _ w227 ⟨hk228, hz229, hg230⟩
         have hk228' : Blk w227 N37 74 #[.int .i64 4, .int .i64 (mxI ep 0), .int .i64 0, .int .i64 0, .bool false, .int .u64 0, .int .u64 0, .int .i64 ((G : Nat) : Int), .int .i64 (mxI he 0), .int .i64 ((F : Nat) : Int), .int .i64 0, .string (⟨#[]⟩), .string (⟨#[]⟩), .int .i64 0, .slice none 0 0, .int .u64 0, .int .i64 0, .int .i64 0, .slice none 0 0, .slice none 0 0, v216, .slice none 0 0] := hk228; clear hk228
         have hz232 := hg230.size
         have hB233 := hb_at hB224 hg230 (by omega)
         exact hB233
        rintro _ w227 a226 ⟨hk228, hz229, hg230⟩ h226
        have hk228' : Blk w227 N37 74 #[.int .i64 4, .int .i64 (mxI ep 0), .int .i64 0, .int .i64 0, .bool false, .int .u64 0, .int .u64 0, .int .i64 ((G : Nat) : Int), .int .i64 (mxI he 0), .int .i64 ((F : Nat) : Int), .int .i64 0, .string (⟨#[]⟩), .string (⟨#[]⟩), .int .i64 0, .slice none 0 0, .int .u64 0, .int .i64 0, .int .i64 0, .slice none 0 0, .slice none 0 0, v216, .slice none 0 0] := hk228; clear hk228
        have hz232 := hg230.size
        refine dr_done (by kernel_rfl) ?_
        refine co_blockN ?_
        refine co_then ?_
        refine co_reg ?_
        refine pk0 (v := .int .i64 ((F + k : Nat) : Int)) h226 rfl fun a233 h233 => ?_; clear h226
        refine pk (v := .int .i64 ((F + k + 1 : Nat) : Int)) h233 rfl (rn_arith' rfl rfl rfl rfl rfl rfl (IntWalk.i64_in _ (by omega)) (by omega)) fun a234 h234 => ?_; clear h233
        refine pk0 (v := .int .i64 ((F + k + 1 : Nat) : Int)) h234 rfl fun a235 h235 => ?_; clear h234
        refine pl_nil ?_
        refine co_then ?_
        refine ⟨(8 - (k + 1)), by omega, ?_⟩
        have hnz9 : ∀ j, j < k + 1 → ∀ z, l[F + j]? = some z → z.ts ≠ 0 := nz_next hnz hy128 (by omega)
        have hr236 := row_kept_at hr217' hg230 (own_neT hr217' hk231 (by decide))
        have hB237 := hb_at hB224 hg230 (by omega)
        have hk238 := hk223.kept hg218 (own_neT hr220 hk223 (by decide))
        have hk239 := hk238.kept hg230 (by simp; omega)
        exact ⟨k + 1, v216, h235.sub ⟨rfl, rfl, rfl, rfl, rfl, (slot_eq rfl (congrArg (Value.int .i64) (by first | rfl | omega))), trivial⟩, rfl, by omega, by omega, by exact hnz9, hk228', (row_eq hr236 (by first | rfl | (simp [tsL]; done) | exact ts_at (by assumption))), hB237, hk239⟩
end Go.Proofs.Ytlbemlodcdgakaa

/- Package relay and the document's own: Learn, Held, Good. Conditions: up to 1000 entries, 1000 timestamps. -/
namespace Go.Proofs.Ytlbemlodcdgakaa
open Go.RowKit Go.PlainAid
set_option linter.unusedVariables false
set_option linter.unusedSimpArgs false


abbrev StnT := Int × Int
def stnE (y : StnT) : List Value := [.int .i64 3, .int .i64 y.1, .int .u64 y.2, .int .i64 0, .slice none 0 0, .int .u64 0, .slice none 0 0, .int .i64 0, .int .i64 0, .slice none 0 0, .int .u64 0, .int .i64 0, .int .u64 0, .int .i64 0, .int .i64 0, .int .i64 0, .int .i64 0, .int .i64 0]
theorem stnE_len (y : StnT) : (stnE y).length = 18 := rfl
/-- What is learned of timestamps: k is the place of the first one among all. -/
def lrF (P gd : Int) : List Int → Int → Int → Int → List StnT
  | [], _, _, _ => []
  | t :: r, k, nx, la => if P + k < nx then lrF P gd r (k + 1) nx la else if P + k > nx ∨ nx ≥ gd ∨ t ≤ la then [] else (nx, t) :: lrF P gd r (k + 1) (nx + 1) t
theorem lr_skip {P gd nx la : Int} {s : List Int} {i : Nat} {t : Int} {acc X : List StnT} (h : acc ++ lrF P gd (s.drop i) i nx la = X) (hy : s[i]? = some t) (h1 : P + i < nx) : acc ++ lrF P gd (s.drop (i + 1)) ((i + 1 : Nat) : Int) nx la = X := by
  rw [dropM hy] at h; unfold lrF at h; rw [if_pos h1] at h; exact h
theorem lr_take {P gd nx la : Int} {s : List Int} {i : Nat} {t : Int} {acc X : List StnT} (h : acc ++ lrF P gd (s.drop i) i nx la = X) (hy : s[i]? = some t) (h1 : ¬ P + i < nx) (h2 : ¬ (P + i > nx ∨ nx ≥ gd ∨ t ≤ la)) : (acc ++ [(nx, t)]) ++ lrF P gd (s.drop (i + 1)) ((i + 1 : Nat) : Int) (nx + 1) t = X := by
  rw [dropM hy] at h; unfold lrF at h; rw [if_neg h1, if_neg h2] at h; rw [List.append_assoc]; exact h
theorem lr_stop {P gd nx la : Int} {s : List Int} {i : Nat} {t : Int} {acc X : List StnT} (h : acc ++ lrF P gd (s.drop i) i nx la = X) (hy : s[i]? = some t) (h1 : ¬ P + i < nx) (h2 : P + i > nx ∨ nx ≥ gd ∨ t ≤ la) : acc = X := by
  rw [dropM hy] at h; unfold lrF at h; rw [if_neg h1, if_pos h2] at h; simpa using h
theorem lr_end {P gd nx la : Int} {s : List Int} {i : Nat} {acc X : List StnT} (h : acc ++ lrF P gd (s.drop i) i nx la = X) (hi : s.length ≤ i) : acc = X := by
  rw [List.drop_eq_nil_of_le hi] at h; simpa [lrF] using h
theorem lr_big {P gd nx la : Int} {s : List Int} (h : P > nx) : lrF P gd s 0 nx la = [] := by
  cases s with
  | nil => rfl
  | cons t r => unfold lrF; rw [if_neg (by omega), if_pos (.inl (by omega))]
def lrA (l : List EntT) (gd : Int) (d : MsgD) : List StnT := lrF d.p (bwI gd ((l.length : Nat) : Int)) d.st 0 ((stN l : Nat) : Int) (lastT l)
def hldI (g s : Int) (t : Bool) (b : Int) : Int := mxI (if t = true then mnI g s else mnI (mnI g s) b) 0

theorem lastT_b {w : World} {l : List EntT} (h : ∀ z ∈ l, EntOk w z) : 0 ≤ lastT l ∧ lastT l < 18446744073709551616 := by
  unfold lastT
  split
  · omega
  · by_cases hj : stN l - 1 < l.length
    · rw [List.getD_eq_getElem?_getD, List.getElem?_eq_getElem hj]
      have := h _ (List.getElem_mem hj); exact ⟨this.ts0, this.ts1⟩
    · rw [List.getD_eq_getElem?_getD, List.getElem?_eq_none (by omega)]; exact ⟨by decide, by decide⟩

set_option maxRecDepth 100000 in
theorem learn_any (v : Value) (l : List EntT) (gd : Int) (d : MsgD) (mv : Value) (bv : Value) (ev : Value) (sv : Value) (pv : Value) (w : World) (hs : SliceOf entE 4 w v l) (hok : ∀ z ∈ l, EntOk w z) (hm : SliceOf memE 2 w mv d.cms) (hb : SliceOf opE 3 w bv d.bl) (he : SliceOf entE 4 w ev d.en) (ht : SliceOf (intE .u64) 1 w sv d.st) (hp : SliceOf prE 2 w pv d.pr) (hst : ∀ z ∈ d.st, (fun t : Int => 0 ≤ t ∧ t < 18446744073709551616) z) (hll : l.length ≤ 1000) (hsl : d.st.length ≤ 1000) (hP : -1000000 ≤ d.p ∧ d.p ≤ 9223372036854775807) :
    Calls Try.prog 32 #[v, .int .i64 gd, .agg #[.int .i64 d.k, .int .i64 d.ep, .int .i64 d.rq, .int .i64 d.sr, .bool d.fg, .int .u64 d.at_, .int .u64 d.la, .int .i64 d.n, .int .i64 d.m, .int .i64 d.p, .int .i64 d.e, .string d.key, .string d.to_, .int .i64 d.cep, mv, .int .u64 d.cfl, .int .i64 d.bc, .int .i64 d.br, bv, ev, sv, pv]] w fun e w' => ∃ (u : Value), e = .returned (u) ∧ w'.ownsRow w.heap.size 44 18 u (lrA l gd d).length ((lrA l gd d).flatMap stnE) ∧ Below w.heap.size w w' := by
 have hlb := lastT_b hok
 have hsn := stN_le l
 have hB0 := Below.refl w.heap.size w
 have hl_hs := sl_len hs
 have hl_hm := sl_len hm
 have hl_hb := sl_len hb
 have hl_he := sl_len he
 have hl_ht := sl_len ht
 have hl_hp := sl_len hp
 refine co_enter (n := 57) Try.func32 rfl rfl rfl [(0, v), (1, .int .i64 gd), (2, .agg #[.int .i64 d.k, .int .i64 d.ep, .int .i64 d.rq, .int .i64 d.sr, .bool d.fg, .int .u64 d.at_, .int .u64 d.la, .int .i64 d.n, .int .i64 d.m, .int .i64 d.p, .int .i64 d.e, .string d.key, .string d.to_, .int .i64 d.cep, mv, .int .u64 d.cfl, .int .i64 d.bc, .int .i64 d.br, bv, ev, sv, pv])] rfl (fun a h0 => ?_)
 refine co_seq ?_
 refine co_reg ?_
 refine pw h0 rfl (op_new (v := fun N => pt N 0) (T := 74) (cs := #[.int .i64 d.k, .int .i64 d.ep, .int .i64 d.rq, .int .i64 d.sr, .bool d.fg, .int .u64 d.at_, .int .u64 d.la, .int .i64 d.n, .int .i64 d.m, .int .i64 d.p, .int .i64 d.e, .string d.key, .string d.to_, .int .i64 d.cep, mv, .int .u64 d.cfl, .int .i64 d.bc, .int .i64 d.br, bv, ev, sv, pv]) (by kernel_rfl) (by kernel_rfl) (by kernel_rfl)) ?_; clear h0
 rintro _ w2 a1 ⟨N3, rfl, hN6, hz7, hk5, hg4⟩ h1
 have hz8 := hg4.size
 try dsimp only at h1
 refine pk0 (v := .slice none 0 0) h1 rfl fun a9 h9 => ?_; clear h1
 refine pl_nil ?_
 refine co_then ?_
 refine co_seq ?_
 refine co_reg ?_
 refine pk0 (v := .int .i64 gd) h9 rfl fun a10 h10 => ?_; clear h9
 refine pk0 (v := v) h10 rfl fun a11 h11 => ?_; clear h10
 have hB12 := hb_new hB0 hg4
 refine pk (v := .int .i64 ((l.length : Nat) : Int)) h11 rfl (rn_len rfl rfl Try.underlying69 (hs.below hB12)) fun a13 h13 => ?_; clear h11
 have hbp16 := bwI_p gd l.length
 refine pw h13 rfl (op_call (args := #[.int .i64 gd, .int .i64 ((l.length : Nat) : Int)]) (R := fun res xw => res = .int .i64 (bwI gd ((l.length : Nat) : Int)) ∧ Below w2.heap.size w2 xw) rfl rfl rfl (by kernel_rfl) (by kernel_rfl) (Try.call67 _ _) (between_any gd l.length w2 ) (by rintro e x ⟨rfl, hb17⟩; exact ⟨_, rfl, ⟨rfl, hb17⟩⟩)) ?_; clear h13
 rintro _ w15 a14 ⟨rfl, hb17⟩ h14
 have hz18 := hb17.size
 have hm19 := bwI_p gd l.length
 refine pk0 (v := .int .i64 (bwI gd ((l.length : Nat) : Int))) h14 rfl fun a20 h20 => ?_; clear h14
 refine pl_nil ?_
 refine co_then ?_
 refine co_seq ?_
 refine co_reg ?_
 refine pk0 (v := v) h20 rfl fun a21 h21 => ?_; clear h20
 have hB24 := hb_call hB12 hb17
 refine pw h21 rfl (op_call (args := #[v]) (R := fun res xw => res = .int .i64 ((stN l : Nat) : Int) ∧ Below w15.heap.size w15 xw) rfl rfl rfl (by kernel_rfl) (by kernel_rfl) (Try.call70 _ _) (itemStamped_any v l w15 (hs.below hB24) (fun z hz => (hok z hz).below hB24)) (by rintro e x ⟨rfl, hb25⟩; exact ⟨_, rfl, ⟨rfl, hb25⟩⟩)) ?_; clear h21
 rintro _ w23 a22 ⟨rfl, hb25⟩ h22
 have hz26 := hb25.size
 refine pk0 (v := v) h22 rfl fun a27 h27 => ?_; clear h22
 have hB30 := hb_call hB24 hb25
 refine pw h27 rfl (op_call (args := #[v]) (R := fun res xw => res = .int .u64 (lastT l) ∧ Below w23.heap.size w23 xw) rfl rfl rfl (by kernel_rfl) (by kernel_rfl) (Try.call80 _ _) (itemLast_any v l w23 (hs.below hB30) (fun z hz => (hok z hz).below hB30)) (by rintro e x ⟨rfl, hb31⟩; exact ⟨_, rfl, ⟨rfl, hb31⟩⟩)) ?_; clear h27
 rintro _ w29 a28 ⟨rfl, hb31⟩ h28
 have hz32 := hb31.size
 refine pk0 (v := .int .i64 ((stN l : Nat) : Int)) h28 rfl fun a33 h33 => ?_; clear h28
 refine pk0 (v := .int .u64 (lastT l)) h33 rfl fun a34 h34 => ?_; clear h33
 refine pl_nil ?_
 refine co_then ?_
 refine co_seq ?_
 refine co_seq ?_
 refine co_reg ?_
 refine pk0 (v := pt N3 9) h34 rfl fun a35 h35 => ?_; clear h34
 have hk36 := hk5.below hb17
 have hk37 := hk36.below hb25
 have hk38 := hk37.below hb31
 refine pk (v := .int .i64 d.p) h35 rfl (rn_load1 rfl rfl Try.isAgg3 (hk38.cell rfl)) fun a39 h39 => ?_; clear h35
 refine pk0 (v := .int .i64 ((stN l : Nat) : Int)) h39 rfl fun a40 h40 => ?_; clear h39
 refine pk0 (v := .bool (decide (d.p > ((stN l : Nat) : Int)))) h40 rfl fun a41 h41 => ?_; clear h40
 refine pl_nil ?_
 refine co_then ?_
 have hB43 := hb_call hB30 hb31
 cases hc42 : (decide (d.p > ((stN l : Nat) : Int)))
 ·
  rw [hc42] at h41
  have hp44 : ¬ (d.p > ((stN l : Nat) : Int)) := of_decide_eq_false hc42
  clear hc42
  refine co_false h41 rfl ?_
  refine wp_skip ?_
  refine co_then ?_
  refine co_seq ?_
  refine co_reg ?_
  refine pk0 (v := .slice none 0 0) h41 rfl fun a45 h45 => ?_; clear h41
  refine pl_nil ?_
  refine co_then ?_
  refine co_seq ?_
  refine co_seq ?_
  refine co_reg ?_
  refine pk0 (v := pt N3 20) h45 rfl fun a46 h46 => ?_; clear h45
  refine pk (v := sv) h46 rfl (rn_load1 rfl rfl Try.isAgg71 (hk38.cell rfl)) fun a47 h47 => ?_; clear h46
  refine pk (v := .int .i64 ((d.st.length : Nat) : Int)) h47 rfl (rn_len rfl rfl Try.underlying71 (ht.below hB43)) fun a48 h48 => ?_; clear h47
  refine pk0 (v := .int .i64 0) h48 rfl fun a49 h49 => ?_; clear h48
  refine pl_nil ?_
  refine co_then ?_
  refine wp_block ?_
  have hlr9 : [] ++ lrF d.p (bwI gd ((l.length : Nat) : Int)) (d.st.drop 0) 0 ((stN l : Nat) : Int) (lastT l) = lrA l gd d := rfl
  have hlr9 : [] ++ lrF d.p (bwI gd ((l.length : Nat) : Int)) (d.st.drop 0) 0 ((stN l : Nat) : Int) (lastT l) = lrA l gd d := rfl
  have h50 : Slots 57 [(0, v), (1, .int .i64 (bwI gd ((l.length : Nat) : Int))), (5, pt N3 0), (7, .int .i64 ((stN l : Nat) : Int)), (8, .int .u64 (lastT l)), (9, .slice none 0 0), (25, sv), (26, .int .i64 ((d.st.length : Nat) : Int)), (27, .int .i64 0)] _ := h49.sub ⟨rfl, rfl, rfl, rfl, rfl, rfl, rfl, rfl, rfl, trivial⟩; clear h49
  refine co_loop (fun mm a x => ∃ (i : Nat) (u : Value) (acc : List StnT) (nx : Int) (la : Int), Slots 57 [(0, v), (1, .int .i64 (bwI gd ((l.length : Nat) : Int))), (5, pt N3 0), (7, .int .i64 nx), (8, .int .u64 la), (9, u), (25, sv), (26, .int .i64 ((d.st.length : Nat) : Int)), (27, .int .i64 ((i : Nat) : Int))] a ∧ mm = d.st.length - i ∧ (i ≤ d.st.length) ∧ (acc.length ≤ i) ∧ (0 ≤ nx ∧ nx ≤ 1000 + i) ∧ (0 ≤ la ∧ la < 18446744073709551616) ∧ (d.p + i ≤ nx ∨ ¬ d.p ≤ stN l) ∧ (acc ++ lrF d.p (bwI gd ((l.length : Nat) : Int)) (d.st.drop i) i nx la = lrA l gd d) ∧ x.ownsRow w.heap.size 44 18 u acc.length (acc.flatMap stnE) ∧ Below w.heap.size w x ∧ Blk x N3 74 #[.int .i64 d.k, .int .i64 d.ep, .int .i64 d.rq, .int .i64 d.sr, .bool d.fg, .int .u64 d.at_, .int .u64 d.la, .int .i64 d.n, .int .i64 d.m, .int .i64 d.p, .int .i64 d.e, .string d.key, .string d.to_, .int .i64 d.cep, mv, .int .u64 d.cfl, .int .i64 d.bc, .int .i64 d.br, bv, ev, sv, pv]) (d.st.length - 0) ?_ ?_
  · exact ⟨0, (.slice none 0 0), [], ((stN l : Nat) : Int), (lastT l), h50.sub ⟨rfl, rfl, rfl, rfl, rfl, rfl, rfl, rfl, (slot_eq rfl (congrArg (Value.int .i64) (by first | rfl | omega))), trivial⟩, rfl, by omega, by first | omega | (simp; done) | (simp; omega), by omega, by omega, by omega, by exact hlr9, (row_nilL _ _ _ _ _), hB43, hk38⟩
  · rintro k51 a52 w53 ⟨i, u, acc, nx, la, h52, rfl, hi54, hi55, hi56, hi57, hi58, hi59, hf60, hB61, hk62⟩
    have hz63 := hB61.size
    have hl64 := hk62.lt
    have hlr : acc ++ lrF d.p (bwI gd ((l.length : Nat) : Int)) (d.st.drop i) i nx la = lrA l gd d := by assumption
    refine co_seq ?_
    refine co_reg ?_
    refine pk0 (v := .bool (decide (((i : Nat) : Int) < ((d.st.length : Nat) : Int)))) h52 rfl fun a65 h65 => ?_; clear h52
    refine pl_nil ?_
    refine co_then ?_
    refine co_seq ?_
    cases hc66 : (decide (((i : Nat) : Int) < ((d.st.length : Nat) : Int)))
    ·
     rw [hc66] at h65
     have hp67 : ¬ (((i : Nat) : Int) < ((d.st.length : Nat) : Int)) := of_decide_eq_false hc66
     clear hc66
     refine co_false h65 rfl ?_
     refine wp_exit ?_
     refine co_thenX ?_
     refine co_thenX ?_
     refine co_blockX ?_
     refine co_then ?_
     refine co_seq ?_
     refine co_reg ?_
     refine pk0 (v := u) h65 rfl fun a68 h68 => ?_; clear h65
     refine pk0 (v := u) h68 rfl fun a69 h69 => ?_; clear h68
     refine pl_nil ?_
     refine co_then ?_
     refine wp_ret ?_
     refine co_ret1 h69 rfl rfl ?_
     exact ⟨_, rfl, (row_eq (row_lows hf60 (by omega)) (lr_end hlr (by omega))), hB61⟩
    ·
     rw [hc66] at h65
     have hp70 : ((i : Nat) : Int) < ((d.st.length : Nat) : Int) := of_decide_eq_true hc66
     clear hc66
     refine co_true h65 rfl ?_
     refine wp_skip ?_
     refine co_then ?_
     refine co_seq ?_
     refine wp_block ?_
     refine co_seq ?_
     refine co_reg ?_
     refine pk0 (v := .int .i64 ((i : Nat) : Int)) h65 rfl fun a71 h71 => ?_; clear h65
     obtain ⟨y72, hy72⟩ : ∃ z, d.st[i]? = some z := ⟨_, List.getElem?_eq_getElem (by first | omega | (simp; done) | (simp; omega))⟩
     have oky72 := hst _ (List.mem_of_getElem? hy72)
     have k73 : 0 ≤ y72 ∧ y72 < 18446744073709551616 := oky72
     refine pk (v := pt (blkOf sv) (offOf sv + i * 1)) h71 rfl (rn_index rfl rfl rfl Try.underlying71 Try.sizeOf29 (ht.below hB61) (by omega) (by first | omega | (simp; done) | (simp; omega))) fun a74 h74 => ?_; clear h71
     refine pk (v := .int .u64 y72) h74 rfl (rn_load1 rfl rfl Try.isAgg29 ((sl_at (ht.below hB61) hy72) 0 _ rfl)) fun a75 h75 => ?_; clear h74
     refine pk0 (v := .int .i64 ((i : Nat) : Int)) h75 rfl fun a76 h76 => ?_; clear h75
     refine pk0 (v := .int .u64 y72) h76 rfl fun a77 h77 => ?_; clear h76
     refine pl_nil ?_
     refine co_then ?_
     refine co_seq ?_
     refine co_seq ?_
     refine co_reg ?_
     refine pk0 (v := pt N3 9) h77 rfl fun a78 h78 => ?_; clear h77
     refine pk (v := .int .i64 d.p) h78 rfl (rn_load1 rfl rfl Try.isAgg3 (hk62.cell rfl)) fun a79 h79 => ?_; clear h78
     refine pk0 (v := .int .i64 ((i : Nat) : Int)) h79 rfl fun a80 h80 => ?_; clear h79
     refine pk (v := .int .i64 (d.p + ((i : Nat) : Int))) h80 rfl (rn_arith rfl rfl rfl rfl rfl rfl (IntWalk.i64_in _ (by omega))) fun a81 h81 => ?_; clear h80
     refine pk0 (v := .int .i64 nx) h81 rfl fun a82 h82 => ?_; clear h81
     refine pk0 (v := .bool (decide (d.p + ((i : Nat) : Int) < nx))) h82 rfl fun a83 h83 => ?_; clear h82
     refine pl_nil ?_
     refine co_then ?_
     cases hc84 : (decide (d.p + ((i : Nat) : Int) < nx))
     ·
      rw [hc84] at h83
      have hp85 : ¬ (d.p + ((i : Nat) : Int) < nx) := of_decide_eq_false hc84
      clear hc84
      refine co_false h83 rfl ?_
      refine wp_skip ?_
      refine co_then ?_
      refine co_seq ?_
      refine co_seq ?_
      refine co_reg ?_
      refine pk0 (v := .int .i64 nx) h83 rfl fun a86 h86 => ?_; clear h83
      refine pk0 (v := .int .i64 (bwI gd ((l.length : Nat) : Int))) h86 rfl fun a87 h87 => ?_; clear h86
      refine pk0 (v := .bool (decide (nx ≥ bwI gd ((l.length : Nat) : Int)))) h87 rfl fun a88 h88 => ?_; clear h87
      refine pk0 (v := .bool (decide (nx ≥ bwI gd ((l.length : Nat) : Int)))) h88 rfl fun a89 h89 => ?_; clear h88
      cases hc90 : (decide (nx ≥ bwI gd ((l.length : Nat) : Int)))
      ·
       rw [hc90] at h89
       have hp91 : ¬ (nx ≥ bwI gd ((l.length : Nat) : Int)) := of_decide_eq_false hc90
       clear hc90
       refine pk0 (v := .int .u64 y72) h89 rfl fun a92 h92 => ?_; clear h89
       refine pk0 (v := .int .u64 la) h92 rfl fun a93 h93 => ?_; clear h92
       refine pk0 (v := .bool (decide (y72 ≤ la))) h93 rfl fun a94 h94 => ?_; clear h93
       refine pk0 (v := .bool (decide (y72 ≤ la))) h94 rfl fun a95 h95 => ?_; clear h94
       refine pl_nil ?_
       refine co_then ?_
       cases hc96 : (decide (y72 ≤ la))
       ·
        rw [hc96] at h95
        have hp97 : ¬ (y72 ≤ la) := of_decide_eq_false hc96
        clear hc96
        refine co_false h95 rfl ?_
        refine wp_skip ?_
        refine co_then ?_
        refine co_seq ?_
        refine co_reg ?_
        refine pk0 (v := u) h95 rfl fun a98 h98 => ?_; clear h95
        refine pk0 (v := .int .i64 nx) h98 rfl fun a99 h99 => ?_; clear h98
        refine pk0 (v := .int .u64 y72) h99 rfl fun a100 h100 => ?_; clear h99
        refine pk0 (v := .agg #[.int .i64 3, .int .i64 nx, .int .u64 y72, .int .i64 0, .slice none 0 0, .int .u64 0, .slice none 0 0, .int .i64 0, .int .i64 0, .slice none 0 0, .int .u64 0, .int .i64 0, .int .u64 0, .int .i64 0, .int .i64 0, .int .i64 0, .int .i64 0, .int .i64 0]) h100 rfl fun a101 h101 => ?_; clear h100
        refine pw h101 rfl (op_new (v := fun N => .slice (some ⟨N, 0, none⟩) 1 1) (T := 44) (cs := #[.int .i64 3, .int .i64 nx, .int .u64 y72, .int .i64 0, .slice none 0 0, .int .u64 0, .slice none 0 0, .int .i64 0, .int .i64 0, .slice none 0 0, .int .u64 0, .int .i64 0, .int .u64 0, .int .i64 0, .int .i64 0, .int .i64 0, .int .i64 0, .int .i64 0]) (by kernel_rfl) (by kernel_rfl) (by kernel_rfl)) ?_; clear h101
        rintro _ w103 a102 ⟨N104, rfl, hN107, hz108, hk106, hg105⟩ h102
        have ha109 := row_fresh hf60 hN107
        have hz110 := hg105.size
        try dsimp only at h102
        have hr117 := row_kept_new hf60 hg105
        refine pw h102 rfl (op_append rfl w.heap.size 44 (z := .agg #[.int .i64 0, .int .i64 0, .int .u64 0, .int .i64 0, .slice none 0 0, .int .u64 0, .slice none 0 0, .int .i64 0, .int .i64 0, .slice none 0 0, .int .u64 0, .int .i64 0, .int .u64 0, .int .i64 0, .int .i64 0, .int .i64 0, .int .i64 0, .int .i64 0]) (size := 18) (bytes := 192) Try.underlying22 (by kernel_rfl) rfl rfl rfl hr117 rfl hk106 rfl (by kernel_rfl) (by first | omega | (simp only [List.length_nil, List.length_append, List.length_cons, List.length_take, List.length_drop]; omega)) (by first | omega | (simp only [List.length_nil, List.length_append, List.length_cons, List.length_take, List.length_drop]; omega)) (by omega)) ?_; clear h102
        rintro v113 w112 a111 ⟨hr114, hg115⟩ h111
        have hr114' : w112.ownsRow w.heap.size 44 18 v113 ((acc ++ [(nx, y72)]).length) ((acc ++ [(nx, y72)]).flatMap stnE) := row_push (y := (nx, y72)) hr114 rfl rfl; clear hr114
        have hz118 := hg115.size
        refine pk0 (v := v113) h111 rfl fun a119 h119 => ?_; clear h111
        refine pl_nil ?_
        refine co_then ?_
        refine co_reg ?_
        refine pk0 (v := .int .i64 nx) h119 rfl fun a120 h120 => ?_; clear h119
        refine pk (v := .int .i64 (nx + 1)) h120 rfl (rn_arith rfl rfl rfl rfl rfl rfl (IntWalk.i64_in _ (by omega))) fun a121 h121 => ?_; clear h120
        refine pk0 (v := .int .u64 y72) h121 rfl fun a122 h122 => ?_; clear h121
        refine pk0 (v := .int .i64 (nx + 1)) h122 rfl fun a123 h123 => ?_; clear h122
        refine pk0 (v := .int .u64 y72) h123 rfl fun a124 h124 => ?_; clear h123
        refine pl_nil ?_
        refine co_blockN ?_
        refine co_then ?_
        refine co_reg ?_
        refine pk (v := .int .i64 ((i + 1 : Nat) : Int)) h124 rfl (rn_arith' rfl rfl rfl rfl rfl rfl (IntWalk.i64_in _ (by omega)) (by omega)) fun a125 h125 => ?_; clear h124
        refine pk0 (v := .int .i64 ((i + 1 : Nat) : Int)) h125 rfl fun a126 h126 => ?_; clear h125
        refine pl_nil ?_
        refine co_then ?_
        refine ⟨(d.st.length - (i + 1)), by omega, ?_⟩
        have hlr9 := lr_take hlr hy72 (by omega) (by omega)
        have hB127 := hb_new hB61 hg105
        have hB128 := hb_row hB127 hr117 (by omega) hg115
        have hk129 := hk62.kept hg105 (by simp)
        have hk130 := hk129.kept hg115 (own_neT hr117 hk129 (by decide))
        exact ⟨i + 1, v113, (acc ++ [(nx, y72)]), (nx + 1), y72, h126.sub ⟨rfl, rfl, rfl, rfl, rfl, rfl, rfl, rfl, rfl, trivial⟩, rfl, by omega, by first | omega | (simp; done) | (simp; omega), by omega, by omega, by omega, by exact hlr9, (row_eq hr114' (rfl)), hB128, hk130⟩
       ·
        rw [hc96] at h95
        have hp131 : y72 ≤ la := of_decide_eq_true hc96
        clear hc96
        refine co_true h95 rfl ?_
        refine wp_exit ?_
        refine co_thenX ?_
        refine co_blockY (by decide) ?_
        refine co_thenX ?_
        refine co_thenX ?_
        refine co_blockX ?_
        refine co_then ?_
        refine co_seq ?_
        refine co_reg ?_
        refine pk0 (v := u) h95 rfl fun a132 h132 => ?_; clear h95
        refine pk0 (v := u) h132 rfl fun a133 h133 => ?_; clear h132
        refine pl_nil ?_
        refine co_then ?_
        refine wp_ret ?_
        refine co_ret1 h133 rfl rfl ?_
        exact ⟨_, rfl, (row_eq (row_lows hf60 (by omega)) (lr_stop hlr hy72 (by omega) (by omega))), hB61⟩
      ·
       rw [hc90] at h89
       have hp134 : nx ≥ bwI gd ((l.length : Nat) : Int) := of_decide_eq_true hc90
       clear hc90
       refine psk h89 rfl fun a135 h135 => ?_; clear h89
       refine psk h135 rfl fun a136 h136 => ?_; clear h135
       refine psk h136 rfl fun a137 h137 => ?_; clear h136
       refine pk0 (v := .bool true) h137 rfl fun a138 h138 => ?_; clear h137
       refine pl_nil ?_
       refine co_then ?_
       refine co_true h138 rfl ?_
       refine wp_exit ?_
       refine co_thenX ?_
       refine co_blockY (by decide) ?_
       refine co_thenX ?_
       refine co_thenX ?_
       refine co_blockX ?_
       refine co_then ?_
       refine co_seq ?_
       refine co_reg ?_
       refine pk0 (v := u) h138 rfl fun a139 h139 => ?_; clear h138
       refine pk0 (v := u) h139 rfl fun a140 h140 => ?_; clear h139
       refine pl_nil ?_
       refine co_then ?_
       refine wp_ret ?_
       refine co_ret1 h140 rfl rfl ?_
       exact ⟨_, rfl, (row_eq (row_lows hf60 (by omega)) (lr_stop hlr hy72 (by omega) (by omega))), hB61⟩
     ·
      rw [hc84] at h83
      have hp141 : d.p + ((i : Nat) : Int) < nx := of_decide_eq_true hc84
      clear hc84
      refine co_true h83 rfl ?_
      refine wp_exit ?_
      refine co_thenX ?_
      refine co_blockX ?_
      refine co_then ?_
      refine co_reg ?_
      refine pk (v := .int .i64 ((i + 1 : Nat) : Int)) h83 rfl (rn_arith' rfl rfl rfl rfl rfl rfl (IntWalk.i64_in _ (by omega)) (by omega)) fun a142 h142 => ?_; clear h83
      refine pk0 (v := .int .i64 ((i + 1 : Nat) : Int)) h142 rfl fun a143 h143 => ?_; clear h142
      refine pl_nil ?_
      refine co_then ?_
      refine ⟨(d.st.length - (i + 1)), by omega, ?_⟩
      have hlr9 := lr_skip hlr hy72 (by omega)
      exact ⟨i + 1, u, acc, nx, la, h143.sub ⟨rfl, rfl, rfl, rfl, rfl, rfl, rfl, rfl, rfl, trivial⟩, rfl, by omega, by first | omega | (simp; done) | (simp; omega), by omega, by omega, by omega, by exact hlr9, (row_eq hf60 (rfl)), hB61, hk62⟩
 ·
  rw [hc42] at h41
  have hp144 : d.p > ((stN l : Nat) : Int) := of_decide_eq_true hc42
  clear hc42
  refine co_true h41 rfl ?_
  refine co_seq ?_
  refine co_reg ?_
  refine pk0 (v := .slice none 0 0) h41 rfl fun a145 h145 => ?_; clear h41
  refine pl_nil ?_
  refine co_then ?_
  refine wp_ret ?_
  refine co_thenR ?_
  refine co_ret1 h145 rfl rfl ?_
  have hbg := lr_big (gd := bwI gd ((l.length : Nat) : Int)) (la := lastT l) (s := d.st) (show d.p > ((stN l : Nat) : Int) by omega)
  exact ⟨_, rfl, (row_eq (row_nilL _ _ _ _ _) hbg.symm), hB43⟩
set_option maxRecDepth 100000 in
theorem rlearn32_any (v : Value) (l : List EntT) (gd : Int) (d : MsgD) (mv : Value) (bv : Value) (ev : Value) (sv : Value) (pv : Value) (w : World) (hs : SliceOf entE 4 w v l) (hok : ∀ z ∈ l, EntOk w z) (hm : SliceOf memE 2 w mv d.cms) (hb : SliceOf opE 3 w bv d.bl) (he : SliceOf entE 4 w ev d.en) (ht : SliceOf (intE .u64) 1 w sv d.st) (hp : SliceOf prE 2 w pv d.pr) (hst : ∀ z ∈ d.st, (fun t : Int => 0 ≤ t ∧ t < 18446744073709551616) z) (hll : l.length ≤ 1000) (hsl : d.st.length ≤ 1000) (hP : -1000000 ≤ d.p ∧ d.p ≤ 9223372036854775807) :
    Calls Try.prog 33 #[v, .int .i64 gd, .agg #[.int .i64 d.k, .int .i64 d.ep, .int .i64 d.rq, .int .i64 d.sr, .bool d.fg, .int .u64 d.at_, .int .u64 d.la, .int .i64 d.n, .int .i64 d.m, .int .i64 d.p, .int .i64 d.e, .string d.key, .string d.to_, .int .i64 d.cep, mv, .int .u64 d.cfl, .int .i64 d.bc, .int .i64 d.br, bv, ev, sv, pv]] w fun e w' => ∃ (u : Value), e = .returned (u) ∧ w'.ownsRow w.heap.size 44 18 u (lrA l gd d).length ((lrA l gd d).flatMap stnE) ∧ Below w.heap.size w w' := by
 have hlb := lastT_b hok
 have hsn := stN_le l
 have hB0 := Below.refl w.heap.size w
 have hl_hs := sl_len hs
 have hl_hm := sl_len hm
 have hl_hb := sl_len hb
 have hl_he := sl_len he
 have hl_ht := sl_len ht
 have hl_hp := sl_len hp
 refine co_enter (n := 71) Try.func33 rfl rfl rfl [(0, v), (1, .int .i64 gd), (2, .agg #[.int .i64 d.k, .int .i64 d.ep, .int .i64 d.rq, .int .i64 d.sr, .bool d.fg, .int .u64 d.at_, .int .u64 d.la, .int .i64 d.n, .int .i64 d.m, .int .i64 d.p, .int .i64 d.e, .string d.key, .string d.to_, .int .i64 d.cep, mv, .int .u64 d.cfl, .int .i64 d.bc, .int .i64 d.br, bv, ev, sv, pv])] rfl (fun a h0 => ?_)
 refine co_seq ?_
 refine co_reg ?_
 refine pw h0 rfl (op_new (v := fun N => pt N 0) (T := 74) (cs := #[.int .i64 d.k, .int .i64 d.ep, .int .i64 d.rq, .int .i64 d.sr, .bool d.fg, .int .u64 d.at_, .int .u64 d.la, .int .i64 d.n, .int .i64 d.m, .int .i64 d.p, .int .i64 d.e, .string d.key, .string d.to_, .int .i64 d.cep, mv, .int .u64 d.cfl, .int .i64 d.bc, .int .i64 d.br, bv, ev, sv, pv]) (by kernel_rfl) (by kernel_rfl) (by kernel_rfl)) ?_; clear h0
 rintro _ w2 a1 ⟨N3, rfl, hN6, hz7, hk5, hg4⟩ h1
 have hz8 := hg4.size
 try dsimp only at h1
 refine pk0 (v := .slice none 0 0) h1 rfl fun a9 h9 => ?_; clear h1
 refine pl_nil ?_
 refine co_then ?_
 refine co_seq ?_
 refine co_reg ?_
 refine pk0 (v := .slice none 0 0) h9 rfl fun a10 h10 => ?_; clear h9
 refine pl_nil ?_
 refine co_then ?_
 refine co_seq ?_
 refine co_reg ?_
 refine pk0 (v := .int .i64 gd) h10 rfl fun a11 h11 => ?_; clear h10
 refine pk0 (v := v) h11 rfl fun a12 h12 => ?_; clear h11
 have hB13 := hb_new hB0 hg4
 refine pk (v := .int .i64 ((l.length : Nat) : Int)) h12 rfl (rn_len rfl rfl Try.underlying69 (hs.below hB13)) fun a14 h14 => ?_; clear h12
 have hbp17 := bwI_p gd l.length
 refine pw h14 rfl (op_call (args := #[.int .i64 gd, .int .i64 ((l.length : Nat) : Int)]) (R := fun res xw => res = .int .i64 (bwI gd ((l.length : Nat) : Int)) ∧ Below w2.heap.size w2 xw) rfl rfl rfl (by kernel_rfl) (by kernel_rfl) (Try.call73 _ _) (fit32_any gd ((l.length : Nat) : Int) w2 (by omega)) (by rintro e x ⟨rfl, hb18⟩; exact ⟨_, rfl, ⟨rfl, hb18⟩⟩)) ?_; clear h14
 rintro _ w16 a15 ⟨rfl, hb18⟩ h15
 have hz19 := hb18.size
 refine pk0 (v := .int .i64 (bwI gd ((l.length : Nat) : Int))) h15 rfl fun a20 h20 => ?_; clear h15
 refine pl_nil ?_
 refine co_then ?_
 refine co_seq ?_
 refine co_reg ?_
 refine pk0 (v := v) h20 rfl fun a21 h21 => ?_; clear h20
 have hB24 := hb_call hB13 hb18
 refine pw h21 rfl (op_call (args := #[v]) (R := fun res xw => res = .int .i64 ((stN l : Nat) : Int) ∧ Below w16.heap.size w16 xw) rfl rfl rfl (by kernel_rfl) (by kernel_rfl) (Try.call42 _ _) (ritemStamped_any v l w16 (hs.below hB24) (fun z hz => (hok z hz).below hB24)) (by rintro e x ⟨rfl, hb25⟩; exact ⟨_, rfl, ⟨rfl, hb25⟩⟩)) ?_; clear h21
 rintro _ w23 a22 ⟨rfl, hb25⟩ h22
 have hz26 := hb25.size
 refine pk0 (v := .int .i64 ((stN l : Nat) : Int)) h22 rfl fun a27 h27 => ?_; clear h22
 refine pl_nil ?_
 refine co_then ?_
 refine co_seq ?_
 refine co_reg ?_
 refine pk0 (v := v) h27 rfl fun a28 h28 => ?_; clear h27
 have hB31 := hb_call hB24 hb25
 refine pw h28 rfl (op_call (args := #[v]) (R := fun res xw => res = .int .u64 (lastT l) ∧ Below w23.heap.size w23 xw) rfl rfl rfl (by kernel_rfl) (by kernel_rfl) (Try.call44 _ _) (ritemLast_any v l w23 (hs.below hB31) (fun z hz => (hok z hz).below hB31)) (by rintro e x ⟨rfl, hb32⟩; exact ⟨_, rfl, ⟨rfl, hb32⟩⟩)) ?_; clear h28
 rintro _ w30 a29 ⟨rfl, hb32⟩ h29
 have hz33 := hb32.size
 refine pk0 (v := .int .u64 (lastT l)) h29 rfl fun a34 h34 => ?_; clear h29
 refine pl_nil ?_
 refine co_then ?_
 refine co_seq ?_
 refine co_seq ?_
 refine co_reg ?_
 refine pk0 (v := .int .i64 0) h34 rfl fun a35 h35 => ?_; clear h34
 refine pl_nil ?_
 refine co_then ?_
 refine wp_block ?_
 have hlr9 : [] ++ lrF d.p (bwI gd ((l.length : Nat) : Int)) (d.st.drop 0) 0 ((stN l : Nat) : Int) (lastT l) = lrA l gd d := rfl
 have hlr9 : [] ++ lrF d.p (bwI gd ((l.length : Nat) : Int)) (d.st.drop 0) 0 ((stN l : Nat) : Int) (lastT l) = lrA l gd d := rfl
 have h36 : Slots 71 [(0, v), (5, pt N3 0), (7, .slice none 0 0), (8, .int .i64 (bwI gd ((l.length : Nat) : Int))), (9, .int .i64 ((stN l : Nat) : Int)), (10, .int .u64 (lastT l)), (11, .int .i64 0)] _ := h35.sub ⟨rfl, rfl, rfl, rfl, rfl, rfl, rfl, trivial⟩; clear h35
 refine co_loop (fun mm a x => ∃ (i : Nat) (u : Value) (acc : List StnT) (nx : Int) (la : Int), Slots 71 [(0, v), (5, pt N3 0), (7, u), (8, .int .i64 (bwI gd ((l.length : Nat) : Int))), (9, .int .i64 nx), (10, .int .u64 la), (11, .int .i64 ((i : Nat) : Int))] a ∧ mm = d.st.length - i ∧ (i ≤ d.st.length) ∧ (acc.length ≤ i) ∧ (0 ≤ nx ∧ nx ≤ 1000 + i) ∧ (0 ≤ la ∧ la < 18446744073709551616) ∧ (acc ++ lrF d.p (bwI gd ((l.length : Nat) : Int)) (d.st.drop i) i nx la = lrA l gd d) ∧ x.ownsRow w.heap.size 44 18 u acc.length (acc.flatMap stnE) ∧ Below w.heap.size w x ∧ Blk x N3 74 #[.int .i64 d.k, .int .i64 d.ep, .int .i64 d.rq, .int .i64 d.sr, .bool d.fg, .int .u64 d.at_, .int .u64 d.la, .int .i64 d.n, .int .i64 d.m, .int .i64 d.p, .int .i64 d.e, .string d.key, .string d.to_, .int .i64 d.cep, mv, .int .u64 d.cfl, .int .i64 d.bc, .int .i64 d.br, bv, ev, sv, pv]) (d.st.length - 0) ?_ ?_
 have hB37 := hb_call hB31 hb32
 have hk38 := hk5.below hb18
 have hk39 := hk38.below hb25
 have hk40 := hk39.below hb32
 · exact ⟨0, (.slice none 0 0), [], ((stN l : Nat) : Int), (lastT l), h36.sub ⟨rfl, rfl, rfl, rfl, rfl, rfl, (slot_eq rfl (congrArg (Value.int .i64) (by first | rfl | omega))), trivial⟩, rfl, by omega, by first | omega | (simp; done) | (simp; omega), by omega, by omega, by exact hlr9, (row_nilL _ _ _ _ _), hB37, hk40⟩
 · rintro k41 a42 w43 ⟨i, u, acc, nx, la, h42, rfl, hi44, hi45, hi46, hi47, hi48, hf49, hB50, hk51⟩
   have hz52 := hB50.size
   have hl53 := hk51.lt
   have hlr : acc ++ lrF d.p (bwI gd ((l.length : Nat) : Int)) (d.st.drop i) i nx la = lrA l gd d := by assumption
   refine co_seq ?_
   refine co_seq ?_
   refine co_reg ?_
   refine pk0 (v := .int .i64 ((i : Nat) : Int)) h42 rfl fun a54 h54 => ?_; clear h42
   refine pk0 (v := pt N3 20) h54 rfl fun a55 h55 => ?_; clear h54
   refine pk (v := sv) h55 rfl (rn_load1 rfl rfl Try.isAgg71 (hk51.cell rfl)) fun a56 h56 => ?_; clear h55
   refine pk (v := .int .i64 ((d.st.length : Nat) : Int)) h56 rfl (rn_len rfl rfl Try.underlying71 (ht.below hB50)) fun a57 h57 => ?_; clear h56
   refine pk0 (v := .bool (decide (((i : Nat) : Int) < ((d.st.length : Nat) : Int)))) h57 rfl fun a58 h58 => ?_; clear h57
   refine pl_nil ?_
   refine co_then ?_
   cases hc59 : (decide (((i : Nat) : Int) < ((d.st.length : Nat) : Int)))
   ·
    rw [hc59] at h58
    have hp60 : ¬ (((i : Nat) : Int) < ((d.st.length : Nat) : Int)) := of_decide_eq_false hc59
    clear hc59
    refine co_false h58 rfl ?_
    refine wp_exit ?_
    refine co_thenX ?_
    refine co_thenX ?_
    refine co_blockX ?_
    refine co_then ?_
    refine co_seq ?_
    refine co_reg ?_
    refine pk0 (v := u) h58 rfl fun a61 h61 => ?_; clear h58
    refine pk0 (v := u) h61 rfl fun a62 h62 => ?_; clear h61
    refine pl_nil ?_
    refine co_then ?_
    refine wp_ret ?_
    refine co_ret1 h62 rfl rfl ?_
    exact ⟨_, rfl, (row_eq (row_lows hf49 (by omega)) (lr_end hlr (by omega))), hB50⟩
   ·
    rw [hc59] at h58
    have hp63 : ((i : Nat) : Int) < ((d.st.length : Nat) : Int) := of_decide_eq_true hc59
    clear hc59
    refine co_true h58 rfl ?_
    refine wp_skip ?_
    refine co_then ?_
    refine co_seq ?_
    refine wp_block ?_
    refine co_seq ?_
    refine co_seq ?_
    refine co_reg ?_
    refine pk0 (v := pt N3 9) h58 rfl fun a64 h64 => ?_; clear h58
    refine pk (v := .int .i64 d.p) h64 rfl (rn_load1 rfl rfl Try.isAgg3 (hk51.cell rfl)) fun a65 h65 => ?_; clear h64
    refine pk0 (v := .int .i64 nx) h65 rfl fun a66 h66 => ?_; clear h65
    refine pk0 (v := .int .i64 ((i : Nat) : Int)) h66 rfl fun a67 h67 => ?_; clear h66
    refine pk (v := .int .i64 (nx - ((i : Nat) : Int))) h67 rfl (rn_arith rfl rfl rfl rfl rfl rfl (IntWalk.i64_in _ (by omega))) fun a68 h68 => ?_; clear h67
    refine pk0 (v := .bool (decide (d.p < nx - ((i : Nat) : Int)))) h68 rfl fun a69 h69 => ?_; clear h68
    refine pl_nil ?_
    refine co_then ?_
    cases hc70 : (decide (d.p < nx - ((i : Nat) : Int)))
    ·
     rw [hc70] at h69
     have hp71 : ¬ (d.p < nx - ((i : Nat) : Int)) := of_decide_eq_false hc70
     clear hc70
     refine co_false h69 rfl ?_
     refine wp_skip ?_
     refine co_then ?_
     refine co_seq ?_
     refine co_seq ?_
     refine co_reg ?_
     refine pk0 (v := pt N3 9) h69 rfl fun a72 h72 => ?_; clear h69
     refine pk (v := .int .i64 d.p) h72 rfl (rn_load1 rfl rfl Try.isAgg3 (hk51.cell rfl)) fun a73 h73 => ?_; clear h72
     refine pk0 (v := .int .i64 nx) h73 rfl fun a74 h74 => ?_; clear h73
     refine pk0 (v := .int .i64 ((i : Nat) : Int)) h74 rfl fun a75 h75 => ?_; clear h74
     refine pk (v := .int .i64 (nx - ((i : Nat) : Int))) h75 rfl (rn_arith rfl rfl rfl rfl rfl rfl (IntWalk.i64_in _ (by omega))) fun a76 h76 => ?_; clear h75
     refine pk0 (v := .bool (decide (d.p > nx - ((i : Nat) : Int)))) h76 rfl fun a77 h77 => ?_; clear h76
     refine pk0 (v := .bool (decide (d.p > nx - ((i : Nat) : Int)))) h77 rfl fun a78 h78 => ?_; clear h77
     cases hc79 : (decide (d.p > nx - ((i : Nat) : Int)))
     ·
      rw [hc79] at h78
      have hp80 : ¬ (d.p > nx - ((i : Nat) : Int)) := of_decide_eq_false hc79
      clear hc79
      refine pk0 (v := .int .i64 nx) h78 rfl fun a81 h81 => ?_; clear h78
      refine pk0 (v := .int .i64 (bwI gd ((l.length : Nat) : Int))) h81 rfl fun a82 h82 => ?_; clear h81
      refine pk0 (v := .bool (decide (nx ≥ bwI gd ((l.length : Nat) : Int)))) h82 rfl fun a83 h83 => ?_; clear h82
      refine pk0 (v := .bool (decide (nx ≥ bwI gd ((l.length : Nat) : Int)))) h83 rfl fun a84 h84 => ?_; clear h83
      refine pk0 (v := .bool (decide (nx ≥ bwI gd ((l.length : Nat) : Int)))) h84 rfl fun a85 h85 => ?_; clear h84
      cases hc86 : (decide (nx ≥ bwI gd ((l.length : Nat) : Int)))
      ·
       rw [hc86] at h85
       have hp87 : ¬ (nx ≥ bwI gd ((l.length : Nat) : Int)) := of_decide_eq_false hc86
       clear hc86
       refine pk0 (v := pt N3 20) h85 rfl fun a88 h88 => ?_; clear h85
       refine pk (v := sv) h88 rfl (rn_load1 rfl rfl Try.isAgg71 (hk51.cell rfl)) fun a89 h89 => ?_; clear h88
       refine pk0 (v := .int .i64 ((i : Nat) : Int)) h89 rfl fun a90 h90 => ?_; clear h89
       obtain ⟨y91, hy91⟩ : ∃ z, d.st[i]? = some z := ⟨_, List.getElem?_eq_getElem (by first | omega | (simp; done) | (simp; omega))⟩
       have oky91 := hst _ (List.mem_of_getElem? hy91)
       have k92 : 0 ≤ y91 ∧ y91 < 18446744073709551616 := oky91
       refine pk (v := pt (blkOf sv) (offOf sv + i * 1)) h90 rfl (rn_index rfl rfl rfl Try.underlying71 Try.sizeOf29 (ht.below hB50) (by omega) (by first | omega | (simp; done) | (simp; omega))) fun a93 h93 => ?_; clear h90
       refine pk (v := .int .u64 y91) h93 rfl (rn_load1 rfl rfl Try.isAgg29 ((sl_at (ht.below hB50) hy91) 0 _ rfl)) fun a94 h94 => ?_; clear h93
       refine pk0 (v := .int .u64 la) h94 rfl fun a95 h95 => ?_; clear h94
       refine pk0 (v := .bool (decide (y91 ≤ la))) h95 rfl fun a96 h96 => ?_; clear h95
       refine pk0 (v := .bool (decide (y91 ≤ la))) h96 rfl fun a97 h97 => ?_; clear h96
       refine pl_nil ?_
       refine co_then ?_
       cases hc98 : (decide (y91 ≤ la))
       ·
        rw [hc98] at h97
        have hp99 : ¬ (y91 ≤ la) := of_decide_eq_false hc98
        clear hc98
        refine co_false h97 rfl ?_
        refine wp_skip ?_
        refine co_then ?_
        refine co_seq ?_
        refine co_reg ?_
        refine pk0 (v := u) h97 rfl fun a100 h100 => ?_; clear h97
        refine pk0 (v := .int .i64 nx) h100 rfl fun a101 h101 => ?_; clear h100
        refine pk0 (v := pt N3 20) h101 rfl fun a102 h102 => ?_; clear h101
        refine pk (v := sv) h102 rfl (rn_load1 rfl rfl Try.isAgg71 (hk51.cell rfl)) fun a103 h103 => ?_; clear h102
        refine pk0 (v := .int .i64 ((i : Nat) : Int)) h103 rfl fun a104 h104 => ?_; clear h103
        refine pk (v := pt (blkOf sv) (offOf sv + i * 1)) h104 rfl (rn_index rfl rfl rfl Try.underlying71 Try.sizeOf29 (ht.below hB50) (by omega) (by first | omega | (simp; done) | (simp; omega))) fun a105 h105 => ?_; clear h104
        refine pk (v := .int .u64 y91) h105 rfl (rn_load1 rfl rfl Try.isAgg29 ((sl_at (ht.below hB50) hy91) 0 _ rfl)) fun a106 h106 => ?_; clear h105
        refine pk0 (v := .agg #[.int .i64 3, .int .i64 nx, .int .u64 y91, .int .i64 0, .slice none 0 0, .int .u64 0, .slice none 0 0, .int .i64 0, .int .i64 0, .slice none 0 0, .int .u64 0, .int .i64 0, .int .u64 0, .int .i64 0, .int .i64 0, .int .i64 0, .int .i64 0, .int .i64 0]) h106 rfl fun a107 h107 => ?_; clear h106
        refine pw h107 rfl (op_new (v := fun N => .slice (some ⟨N, 0, none⟩) 1 1) (T := 44) (cs := #[.int .i64 3, .int .i64 nx, .int .u64 y91, .int .i64 0, .slice none 0 0, .int .u64 0, .slice none 0 0, .int .i64 0, .int .i64 0, .slice none 0 0, .int .u64 0, .int .i64 0, .int .u64 0, .int .i64 0, .int .i64 0, .int .i64 0, .int .i64 0, .int .i64 0]) (by kernel_rfl) (by kernel_rfl) (by kernel_rfl)) ?_; clear h107
        rintro _ w109 a108 ⟨N110, rfl, hN113, hz114, hk112, hg111⟩ h108
        have ha115 := row_fresh hf49 hN113
        have hz116 := hg111.size
        try dsimp only at h108
        have hr123 := row_kept_new hf49 hg111
        refine pw h108 rfl (op_append rfl w.heap.size 44 (z := .agg #[.int .i64 0, .int .i64 0, .int .u64 0, .int .i64 0, .slice none 0 0, .int .u64 0, .slice none 0 0, .int .i64 0, .int .i64 0, .slice none 0 0, .int .u64 0, .int .i64 0, .int .u64 0, .int .i64 0, .int .i64 0, .int .i64 0, .int .i64 0, .int .i64 0]) (size := 18) (bytes := 192) Try.underlying22 (by kernel_rfl) rfl rfl rfl hr123 rfl hk112 rfl (by kernel_rfl) (by first | omega | (simp only [List.length_nil, List.length_append, List.length_cons, List.length_take, List.length_drop]; omega)) (by first | omega | (simp only [List.length_nil, List.length_append, List.length_cons, List.length_take, List.length_drop]; omega)) (by omega)) ?_; clear h108
        rintro v119 w118 a117 ⟨hr120, hg121⟩ h117
        have hr120' : w118.ownsRow w.heap.size 44 18 v119 ((acc ++ [(nx, y91)]).length) ((acc ++ [(nx, y91)]).flatMap stnE) := row_push (y := (nx, y91)) hr120 rfl rfl; clear hr120
        have hz124 := hg121.size
        refine pk0 (v := v119) h117 rfl fun a125 h125 => ?_; clear h117
        refine pl_nil ?_
        refine co_then ?_
        refine co_seq ?_
        refine co_reg ?_
        refine pk0 (v := pt N3 20) h125 rfl fun a126 h126 => ?_; clear h125
        have hk127 := hk51.kept hg111 (by simp)
        have hk128 := hk127.kept hg121 (own_neT hr123 hk127 (by decide))
        refine pk (v := sv) h126 rfl (rn_load1 rfl rfl Try.isAgg71 (hk128.cell rfl)) fun a129 h129 => ?_; clear h126
        refine pk0 (v := .int .i64 ((i : Nat) : Int)) h129 rfl fun a130 h130 => ?_; clear h129
        have hB131 := hb_new hB50 hg111
        have hB132 := hb_row hB131 hr123 (by omega) hg121
        refine pk (v := pt (blkOf sv) (offOf sv + i * 1)) h130 rfl (rn_index rfl rfl rfl Try.underlying71 Try.sizeOf29 (ht.below hB132) (by omega) (by first | omega | (simp; done) | (simp; omega))) fun a133 h133 => ?_; clear h130
        refine pk (v := .int .u64 y91) h133 rfl (rn_load1 rfl rfl Try.isAgg29 ((sl_at (ht.below hB132) hy91) 0 _ rfl)) fun a134 h134 => ?_; clear h133
        refine pk0 (v := .int .u64 y91) h134 rfl fun a135 h135 => ?_; clear h134
        refine pl_nil ?_
        refine co_then ?_
        refine co_reg ?_
        refine pk0 (v := .int .i64 nx) h135 rfl fun a136 h136 => ?_; clear h135
        refine pk (v := .int .i64 (nx + 1)) h136 rfl (rn_arith rfl rfl rfl rfl rfl rfl (IntWalk.i64_in _ (by omega))) fun a137 h137 => ?_; clear h136
        refine pk0 (v := .int .i64 (nx + 1)) h137 rfl fun a138 h138 => ?_; clear h137
        refine pl_nil ?_
        refine co_blockN ?_
        refine co_then ?_
        refine co_reg ?_
        refine pk0 (v := .int .i64 ((i : Nat) : Int)) h138 rfl fun a139 h139 => ?_; clear h138
        refine pk (v := .int .i64 ((i + 1 : Nat) : Int)) h139 rfl (rn_arith' rfl rfl rfl rfl rfl rfl (IntWalk.i64_in _ (by omega)) (by omega)) fun a140 h140 => ?_; clear h139
        refine pk0 (v := .int .i64 ((i + 1 : Nat) : Int)) h140 rfl fun a141 h141 => ?_; clear h140
        refine pl_nil ?_
        refine co_then ?_
        refine ⟨(d.st.length - (i + 1)), by omega, ?_⟩
        have hlr9 := lr_take hlr hy91 (by omega) (by omega)
        exact ⟨i + 1, v119, (acc ++ [(nx, y91)]), (nx + 1), y91, h141.sub ⟨rfl, rfl, rfl, rfl, rfl, rfl, rfl, trivial⟩, rfl, by omega, by first | omega | (simp; done) | (simp; omega), by omega, by omega, by exact hlr9, (row_eq hr120' (rfl)), hB132, hk128⟩
       ·
        rw [hc98] at h97
        have hp142 : y91 ≤ la := of_decide_eq_true hc98
        clear hc98
        refine co_true h97 rfl ?_
        refine wp_exit ?_
        refine co_thenX ?_
        refine co_blockY (by decide) ?_
        refine co_thenX ?_
        refine co_thenX ?_
        refine co_blockX ?_
        refine co_then ?_
        refine co_seq ?_
        refine co_reg ?_
        refine pk0 (v := u) h97 rfl fun a143 h143 => ?_; clear h97
        refine pk0 (v := u) h143 rfl fun a144 h144 => ?_; clear h143
        refine pl_nil ?_
        refine co_then ?_
        refine wp_ret ?_
        refine co_ret1 h144 rfl rfl ?_
        exact ⟨_, rfl, (row_eq (row_lows hf49 (by omega)) (lr_stop hlr hy91 (by omega) (by omega))), hB50⟩
      ·
       rw [hc86] at h85
       have hp145 : nx ≥ bwI gd ((l.length : Nat) : Int) := of_decide_eq_true hc86
       clear hc86
       refine psk h85 rfl fun a146 h146 => ?_; clear h85
       refine psk h146 rfl fun a147 h147 => ?_; clear h146
       refine psk h147 rfl fun a148 h148 => ?_; clear h147
       refine psk h148 rfl fun a149 h149 => ?_; clear h148
       refine psk h149 rfl fun a150 h150 => ?_; clear h149
       refine psk h150 rfl fun a151 h151 => ?_; clear h150
       refine psk h151 rfl fun a152 h152 => ?_; clear h151
       refine pk0 (v := .bool true) h152 rfl fun a153 h153 => ?_; clear h152
       refine pl_nil ?_
       refine co_then ?_
       refine co_true h153 rfl ?_
       refine wp_exit ?_
       refine co_thenX ?_
       refine co_blockY (by decide) ?_
       refine co_thenX ?_
       refine co_thenX ?_
       refine co_blockX ?_
       refine co_then ?_
       refine co_seq ?_
       refine co_reg ?_
       refine pk0 (v := u) h153 rfl fun a154 h154 => ?_; clear h153
       refine pk0 (v := u) h154 rfl fun a155 h155 => ?_; clear h154
       refine pl_nil ?_
       refine co_then ?_
       refine wp_ret ?_
       refine co_ret1 h155 rfl rfl ?_
       exact ⟨_, rfl, (row_eq (row_lows hf49 (by omega)) (lr_stop hlr (List.getElem?_eq_getElem (show i < d.st.length by omega)) (by omega) (by omega))), hB50⟩
     ·
      rw [hc79] at h78
      have hp156 : d.p > nx - ((i : Nat) : Int) := of_decide_eq_true hc79
      clear hc79
      refine psk h78 rfl fun a157 h157 => ?_; clear h78
      refine psk h157 rfl fun a158 h158 => ?_; clear h157
      refine psk h158 rfl fun a159 h159 => ?_; clear h158
      refine pk0 (v := .bool true) h159 rfl fun a160 h160 => ?_; clear h159
      refine pk0 (v := .bool true) h160 rfl fun a161 h161 => ?_; clear h160
      refine psk h161 rfl fun a162 h162 => ?_; clear h161
      refine psk h162 rfl fun a163 h163 => ?_; clear h162
      refine psk h163 rfl fun a164 h164 => ?_; clear h163
      refine psk h164 rfl fun a165 h165 => ?_; clear h164
      refine psk h165 rfl fun a166 h166 => ?_; clear h165
      refine psk h166 rfl fun a167 h167 => ?_; clear h166
      refine psk h167 rfl fun a168 h168 => ?_; clear h167
      refine pk0 (v := .bool true) h168 rfl fun a169 h169 => ?_; clear h168
      refine pl_nil ?_
      refine co_then ?_
      refine co_true h169 rfl ?_
      refine wp_exit ?_
      refine co_thenX ?_
      refine co_blockY (by decide) ?_
      refine co_thenX ?_
      refine co_thenX ?_
      refine co_blockX ?_
      refine co_then ?_
      refine co_seq ?_
      refine co_reg ?_
      refine pk0 (v := u) h169 rfl fun a170 h170 => ?_; clear h169
      refine pk0 (v := u) h170 rfl fun a171 h171 => ?_; clear h170
      refine pl_nil ?_
      refine co_then ?_
      refine wp_ret ?_
      refine co_ret1 h171 rfl rfl ?_
      exact ⟨_, rfl, (row_eq (row_lows hf49 (by omega)) (lr_stop hlr (List.getElem?_eq_getElem (show i < d.st.length by omega)) (by omega) (by omega))), hB50⟩
    ·
     rw [hc70] at h69
     have hp172 : d.p < nx - ((i : Nat) : Int) := of_decide_eq_true hc70
     clear hc70
     refine co_true h69 rfl ?_
     refine wp_exit ?_
     refine co_thenX ?_
     refine co_blockX ?_
     refine co_then ?_
     refine co_reg ?_
     refine pk0 (v := .int .i64 ((i : Nat) : Int)) h69 rfl fun a173 h173 => ?_; clear h69
     refine pk (v := .int .i64 ((i + 1 : Nat) : Int)) h173 rfl (rn_arith' rfl rfl rfl rfl rfl rfl (IntWalk.i64_in _ (by omega)) (by omega)) fun a174 h174 => ?_; clear h173
     refine pk0 (v := .int .i64 ((i + 1 : Nat) : Int)) h174 rfl fun a175 h175 => ?_; clear h174
     refine pl_nil ?_
     refine co_then ?_
     refine ⟨(d.st.length - (i + 1)), by omega, ?_⟩
     have hlr9 := lr_skip hlr (List.getElem?_eq_getElem (show i < d.st.length by omega)) (by omega)
     exact ⟨i + 1, u, acc, nx, la, h175.sub ⟨rfl, rfl, rfl, rfl, rfl, rfl, rfl, trivial⟩, rfl, by omega, by first | omega | (simp; done) | (simp; omega), by omega, by omega, by exact hlr9, (row_eq hf49 (rfl)), hB50, hk51⟩
set_option maxRecDepth 100000 in
theorem held_any (g : Int) (s : Int) (t : Bool) (b : Int) (w : World)  :
    Calls Try.prog 34 #[.int .i64 g, .int .i64 s, .bool t, .int .i64 b] w fun e w' => e = .returned (.int .i64 (hldI g s t b)) ∧ Below w.heap.size w w' := by
 have hB0 := Below.refl w.heap.size w
 refine co_enter (n := 20) Try.func34 rfl rfl rfl [(0, .int .i64 g), (1, .int .i64 s), (2, .bool t), (3, .int .i64 b)] rfl (fun a h0 => ?_)
 refine co_seq ?_
 refine co_reg ?_
 refine pk0 (v := .int .i64 0) h0 rfl fun a1 h1 => ?_; clear h0
 refine pl_nil ?_
 refine co_then ?_
 refine co_seq ?_
 refine co_reg ?_
 refine pk0 (v := .int .i64 g) h1 rfl fun a2 h2 => ?_; clear h1
 refine pk0 (v := .int .i64 s) h2 rfl fun a3 h3 => ?_; clear h2
 have hmm4 := mnI_p g s
 refine pk0 (v := .int .i64 (mnI g s)) h3 rfl fun a5 h5 => ?_; clear h3
 refine pk0 (v := .int .i64 (mnI g s)) h5 rfl fun a6 h6 => ?_; clear h5
 refine pl_nil ?_
 refine co_then ?_
 refine co_seq ?_
 refine co_seq ?_
 refine co_reg ?_
 refine pk0 (v := .bool t) h6 rfl fun a7 h7 => ?_; clear h6
 cases hc8 : (t)
 ·
  rw [hc8] at h7
  refine pk0 (v := .bool true) h7 rfl fun a9 h9 => ?_; clear h7
  refine pl_nil ?_
  refine co_then ?_
  refine co_true h9 rfl ?_
  refine co_reg ?_
  refine pk0 (v := .int .i64 (mnI g s)) h9 rfl fun a10 h10 => ?_; clear h9
  refine pk0 (v := .int .i64 b) h10 rfl fun a11 h11 => ?_; clear h10
  have hmm12 := mnI_p (mnI g s) b
  refine pk0 (v := .int .i64 (mnI (mnI g s) b)) h11 rfl fun a13 h13 => ?_; clear h11
  refine pk0 (v := .int .i64 (mnI (mnI g s) b)) h13 rfl fun a14 h14 => ?_; clear h13
  refine pl_nil ?_
  refine co_then ?_
  refine co_seq ?_
  refine co_reg ?_
  refine pk0 (v := .int .i64 (mnI (mnI g s) b)) h14 rfl fun a15 h15 => ?_; clear h14
  have hmm16 := mxI_p (mnI (mnI g s) b) 0
  refine pk0 (v := .int .i64 (mxI (mnI (mnI g s) b) 0)) h15 rfl fun a17 h17 => ?_; clear h15
  refine pk0 (v := .int .i64 (mxI (mnI (mnI g s) b) 0)) h17 rfl fun a18 h18 => ?_; clear h17
  refine pl_nil ?_
  refine co_then ?_
  refine wp_ret ?_
  refine co_ret1 h18 rfl rfl ?_
  exact ⟨ret_int (by unfold hldI; simp [*]), hB0⟩
 ·
  rw [hc8] at h7
  refine pk0 (v := .bool false) h7 rfl fun a19 h19 => ?_; clear h7
  refine pl_nil ?_
  refine co_then ?_
  refine co_false h19 rfl ?_
  refine wp_skip ?_
  refine co_then ?_
  refine co_seq ?_
  refine co_reg ?_
  refine pk0 (v := .int .i64 (mnI g s)) h19 rfl fun a20 h20 => ?_; clear h19
  have hmm21 := mxI_p (mnI g s) 0
  refine pk0 (v := .int .i64 (mxI (mnI g s) 0)) h20 rfl fun a22 h22 => ?_; clear h20
  refine pk0 (v := .int .i64 (mxI (mnI g s) 0)) h22 rfl fun a23 h23 => ?_; clear h22
  refine pl_nil ?_
  refine co_then ?_
  refine wp_ret ?_
  refine co_ret1 h23 rfl rfl ?_
  exact ⟨ret_int (by unfold hldI; simp [*]), hB0⟩
set_option maxRecDepth 100000 in
theorem rheld32_any (g : Int) (s : Int) (t : Bool) (b : Int) (w : World)  :
    Calls Try.prog 35 #[.int .i64 g, .int .i64 s, .bool t, .int .i64 b] w fun e w' => e = .returned (.int .i64 (hldI g s t b)) ∧ Below w.heap.size w w' := by
 have hB0 := Below.refl w.heap.size w
 refine co_enter (n := 20) Try.func35 rfl rfl rfl [(0, .int .i64 g), (1, .int .i64 s), (2, .bool t), (3, .int .i64 b)] rfl (fun a h0 => ?_)
 refine co_seq ?_
 refine co_reg ?_
 refine pk0 (v := .int .i64 0) h0 rfl fun a1 h1 => ?_; clear h0
 refine pl_nil ?_
 refine co_then ?_
 refine co_seq ?_
 refine co_reg ?_
 refine pk0 (v := .int .i64 g) h1 rfl fun a2 h2 => ?_; clear h1
 refine pk0 (v := .int .i64 s) h2 rfl fun a3 h3 => ?_; clear h2
 have hmm4 := mnI_p g s
 refine pk0 (v := .int .i64 (mnI g s)) h3 rfl fun a5 h5 => ?_; clear h3
 refine pk0 (v := .int .i64 (mnI g s)) h5 rfl fun a6 h6 => ?_; clear h5
 refine pl_nil ?_
 refine co_then ?_
 refine co_seq ?_
 refine co_seq ?_
 refine co_reg ?_
 refine pk0 (v := .bool t) h6 rfl fun a7 h7 => ?_; clear h6
 cases hc8 : (t)
 ·
  rw [hc8] at h7
  refine pk0 (v := .bool true) h7 rfl fun a9 h9 => ?_; clear h7
  refine pl_nil ?_
  refine co_then ?_
  refine co_true h9 rfl ?_
  refine co_reg ?_
  refine pk0 (v := .int .i64 (mnI g s)) h9 rfl fun a10 h10 => ?_; clear h9
  refine pk0 (v := .int .i64 b) h10 rfl fun a11 h11 => ?_; clear h10
  have hmm12 := mnI_p (mnI g s) b
  refine pk0 (v := .int .i64 (mnI (mnI g s) b)) h11 rfl fun a13 h13 => ?_; clear h11
  refine pk0 (v := .int .i64 (mnI (mnI g s) b)) h13 rfl fun a14 h14 => ?_; clear h13
  refine pl_nil ?_
  refine co_then ?_
  refine co_seq ?_
  refine co_reg ?_
  refine pk0 (v := .int .i64 (mnI (mnI g s) b)) h14 rfl fun a15 h15 => ?_; clear h14
  have hmm16 := mxI_p (mnI (mnI g s) b) 0
  refine pk0 (v := .int .i64 (mxI (mnI (mnI g s) b) 0)) h15 rfl fun a17 h17 => ?_; clear h15
  refine pk0 (v := .int .i64 (mxI (mnI (mnI g s) b) 0)) h17 rfl fun a18 h18 => ?_; clear h17
  refine pl_nil ?_
  refine co_then ?_
  refine wp_ret ?_
  refine co_ret1 h18 rfl rfl ?_
  exact ⟨ret_int (by unfold hldI; simp [*]), hB0⟩
 ·
  rw [hc8] at h7
  refine pk0 (v := .bool false) h7 rfl fun a19 h19 => ?_; clear h7
  refine pl_nil ?_
  refine co_then ?_
  refine co_false h19 rfl ?_
  refine wp_skip ?_
  refine co_then ?_
  refine co_seq ?_
  refine co_reg ?_
  refine pk0 (v := .int .i64 (mnI g s)) h19 rfl fun a20 h20 => ?_; clear h19
  have hmm21 := mxI_p (mnI g s) 0
  refine pk0 (v := .int .i64 (mxI (mnI g s) 0)) h20 rfl fun a22 h22 => ?_; clear h20
  refine pk0 (v := .int .i64 (mxI (mnI g s) 0)) h22 rfl fun a23 h23 => ?_; clear h22
  refine pl_nil ?_
  refine co_then ?_
  refine wp_ret ?_
  refine co_ret1 h23 rfl rfl ?_
  exact ⟨ret_int (by unfold hldI; simp [*]), hB0⟩
set_option maxRecDepth 100000 in
theorem betweenI_any (n : Int) (m : Int) (w : World)  :
    Calls Try.prog 67 #[.int .i64 n, .int .i64 m] w fun e w' => e = .returned (.int .i64 (bwI n m)) ∧ Below w.heap.size w w' := by
 have hB0 := Below.refl w.heap.size w
 refine co_enter (n := 9) Try.func67 rfl rfl rfl [(0, .int .i64 n), (1, .int .i64 m)] rfl (fun a h0 => ?_)
 refine co_seq ?_
 refine co_reg ?_
 refine pk0 (v := .int .i64 0) h0 rfl fun a1 h1 => ?_; clear h0
 refine pl_nil ?_
 refine co_then ?_
 refine co_seq ?_
 refine co_reg ?_
 refine pk0 (v := .int .i64 n) h1 rfl fun a2 h2 => ?_; clear h1
 refine pk0 (v := .int .i64 m) h2 rfl fun a3 h3 => ?_; clear h2
 have hmm4 := mnI_p n m
 refine pk0 (v := .int .i64 (mnI n m)) h3 rfl fun a5 h5 => ?_; clear h3
 have hmm6 := mxI_p (mnI n m) 0
 refine pk0 (v := .int .i64 (mxI (mnI n m) 0)) h5 rfl fun a7 h7 => ?_; clear h5
 refine pk0 (v := .int .i64 (mxI (mnI n m) 0)) h7 rfl fun a8 h8 => ?_; clear h7
 refine pl_nil ?_
 refine co_then ?_
 refine wp_ret ?_
 refine co_ret1 h8 rfl rfl ?_
 exact ⟨rfl, hB0⟩
set_option maxRecDepth 100000 in
theorem good_any (d : MsgD) (mv : Value) (bv : Value) (ev : Value) (sv : Value) (pv : Value) (gd : Int) (w : World) (hm : SliceOf memE 2 w mv d.cms) (hb : SliceOf opE 3 w bv d.bl) (he : SliceOf entE 4 w ev d.en) (ht : SliceOf (intE .u64) 1 w sv d.st) (hp : SliceOf prE 2 w pv d.pr) :
    Calls Try.prog 36 #[.agg #[.int .i64 d.k, .int .i64 d.ep, .int .i64 d.rq, .int .i64 d.sr, .bool d.fg, .int .u64 d.at_, .int .u64 d.la, .int .i64 d.n, .int .i64 d.m, .int .i64 d.p, .int .i64 d.e, .string d.key, .string d.to_, .int .i64 d.cep, mv, .int .u64 d.cfl, .int .i64 d.bc, .int .i64 d.br, bv, ev, sv, pv], .int .i64 gd] w fun e w' => e = .returned (.int .i64 (bwI d.n gd)) ∧ Below w.heap.size w w' := by
 have hB0 := Below.refl w.heap.size w
 have hl_hm := sl_len hm
 have hl_hb := sl_len hb
 have hl_he := sl_len he
 have hl_ht := sl_len ht
 have hl_hp := sl_len hp
 refine co_enter (n := 9) Try.func36 rfl rfl rfl [(0, .agg #[.int .i64 d.k, .int .i64 d.ep, .int .i64 d.rq, .int .i64 d.sr, .bool d.fg, .int .u64 d.at_, .int .u64 d.la, .int .i64 d.n, .int .i64 d.m, .int .i64 d.p, .int .i64 d.e, .string d.key, .string d.to_, .int .i64 d.cep, mv, .int .u64 d.cfl, .int .i64 d.bc, .int .i64 d.br, bv, ev, sv, pv]), (1, .int .i64 gd)] rfl (fun a h0 => ?_)
 refine co_seq ?_
 refine co_reg ?_
 refine pw h0 rfl (op_new (v := fun N => pt N 0) (T := 74) (cs := #[.int .i64 d.k, .int .i64 d.ep, .int .i64 d.rq, .int .i64 d.sr, .bool d.fg, .int .u64 d.at_, .int .u64 d.la, .int .i64 d.n, .int .i64 d.m, .int .i64 d.p, .int .i64 d.e, .string d.key, .string d.to_, .int .i64 d.cep, mv, .int .u64 d.cfl, .int .i64 d.bc, .int .i64 d.br, bv, ev, sv, pv]) (by kernel_rfl) (by kernel_rfl) (by kernel_rfl)) ?_; clear h0
 rintro _ w2 a1 ⟨N3, rfl, hN6, hz7, hk5, hg4⟩ h1
 have hz8 := hg4.size
 try dsimp only at h1
 refine pk0 (v := .int .i64 0) h1 rfl fun a9 h9 => ?_; clear h1
 refine pl_nil ?_
 refine co_then ?_
 refine co_seq ?_
 refine co_reg ?_
 refine pk0 (v := pt N3 7) h9 rfl fun a10 h10 => ?_; clear h9
 refine pk (v := .int .i64 d.n) h10 rfl (rn_load1 rfl rfl Try.isAgg3 (hk5.cell rfl)) fun a11 h11 => ?_; clear h10
 refine pk0 (v := .int .i64 gd) h11 rfl fun a12 h12 => ?_; clear h11
 refine pw h12 rfl (op_call (args := #[.int .i64 d.n, .int .i64 gd]) (R := fun res xw => res = .int .i64 (bwI d.n gd) ∧ Below w2.heap.size w2 xw) rfl rfl rfl (by kernel_rfl) (by kernel_rfl) (Try.call67 _ _) (betweenI_any d.n gd w2 ) (by rintro e x ⟨rfl, hb15⟩; exact ⟨_, rfl, ⟨rfl, hb15⟩⟩)) ?_; clear h12
 rintro _ w14 a13 ⟨rfl, hb15⟩ h13
 have hz16 := hb15.size
 refine pk0 (v := .int .i64 (bwI d.n gd)) h13 rfl fun a17 h17 => ?_; clear h13
 refine pl_nil ?_
 refine co_then ?_
 refine wp_ret ?_
 refine co_ret1 h17 rfl rfl ?_
 have hB18 := hb_new hB0 hg4
 have hB19 := hb_call hB18 hb15
 exact ⟨rfl, hB19⟩
set_option maxRecDepth 100000 in
theorem rgood32_any (d : MsgD) (mv : Value) (bv : Value) (ev : Value) (sv : Value) (pv : Value) (gd : Int) (w : World) (hm : SliceOf memE 2 w mv d.cms) (hb : SliceOf opE 3 w bv d.bl) (he : SliceOf entE 4 w ev d.en) (ht : SliceOf (intE .u64) 1 w sv d.st) (hp : SliceOf prE 2 w pv d.pr) :
    Calls Try.prog 37 #[.agg #[.int .i64 d.k, .int .i64 d.ep, .int .i64 d.rq, .int .i64 d.sr, .bool d.fg, .int .u64 d.at_, .int .u64 d.la, .int .i64 d.n, .int .i64 d.m, .int .i64 d.p, .int .i64 d.e, .string d.key, .string d.to_, .int .i64 d.cep, mv, .int .u64 d.cfl, .int .i64 d.bc, .int .i64 d.br, bv, ev, sv, pv], .int .i64 gd] w fun e w' => e = .returned (.int .i64 (bwI d.n gd)) ∧ Below w.heap.size w w' := by
 have hB0 := Below.refl w.heap.size w
 have hl_hm := sl_len hm
 have hl_hb := sl_len hb
 have hl_he := sl_len he
 have hl_ht := sl_len ht
 have hl_hp := sl_len hp
 refine co_enter (n := 10) Try.func37 rfl rfl rfl [(0, .agg #[.int .i64 d.k, .int .i64 d.ep, .int .i64 d.rq, .int .i64 d.sr, .bool d.fg, .int .u64 d.at_, .int .u64 d.la, .int .i64 d.n, .int .i64 d.m, .int .i64 d.p, .int .i64 d.e, .string d.key, .string d.to_, .int .i64 d.cep, mv, .int .u64 d.cfl, .int .i64 d.bc, .int .i64 d.br, bv, ev, sv, pv]), (1, .int .i64 gd)] rfl (fun a h0 => ?_)
 refine co_seq ?_
 refine co_reg ?_
 refine pw h0 rfl (op_new (v := fun N => pt N 0) (T := 74) (cs := #[.int .i64 d.k, .int .i64 d.ep, .int .i64 d.rq, .int .i64 d.sr, .bool d.fg, .int .u64 d.at_, .int .u64 d.la, .int .i64 d.n, .int .i64 d.m, .int .i64 d.p, .int .i64 d.e, .string d.key, .string d.to_, .int .i64 d.cep, mv, .int .u64 d.cfl, .int .i64 d.bc, .int .i64 d.br, bv, ev, sv, pv]) (by kernel_rfl) (by kernel_rfl) (by kernel_rfl)) ?_; clear h0
 rintro _ w2 a1 ⟨N3, rfl, hN6, hz7, hk5, hg4⟩ h1
 have hz8 := hg4.size
 try dsimp only at h1
 refine pk0 (v := .int .i64 0) h1 rfl fun a9 h9 => ?_; clear h1
 refine pl_nil ?_
 refine co_then ?_
 refine co_seq ?_
 refine co_reg ?_
 refine pk0 (v := pt N3 7) h9 rfl fun a10 h10 => ?_; clear h9
 refine pk (v := .int .i64 d.n) h10 rfl (rn_load1 rfl rfl Try.isAgg3 (hk5.cell rfl)) fun a11 h11 => ?_; clear h10
 refine pk0 (v := .int .i64 gd) h11 rfl fun a12 h12 => ?_; clear h11
 have hmm13 := mnI_p d.n gd
 refine pk0 (v := .int .i64 (mnI d.n gd)) h12 rfl fun a14 h14 => ?_; clear h12
 have hmm15 := mxI_p (mnI d.n gd) 0
 refine pk0 (v := .int .i64 (mxI (mnI d.n gd) 0)) h14 rfl fun a16 h16 => ?_; clear h14
 refine pk0 (v := .int .i64 (mxI (mnI d.n gd) 0)) h16 rfl fun a17 h17 => ?_; clear h16
 refine pl_nil ?_
 refine co_then ?_
 refine wp_ret ?_
 refine co_ret1 h17 rfl rfl ?_
 have hB18 := hb_new hB0 hg4
 exact ⟨rfl, hB18⟩
end Go.Proofs.Ytlbemlodcdgakaa

/- Package rlog: one that nobody made; the log as one object. Conditions: at most 100 entries, 20 operations each. -/
namespace Go.Proofs.Ytlbemlodcdgakaa
open Go.RowKit Go.PlainAid
set_option linter.unusedVariables false

def TyL (w : World) (k : Nat) : Prop := (∃ cs T fr, w.heap[k]? = some (.cells cs T fr) ∧ (T = 172 ∨ T = 38 ∨ T = 201 ∨ T = 136)) ∨ ∃ es cl, w.heap[k]? = some (.map es cl)
/-- A type that is none of a log's parts. -/
def offL (T : TypeId) : Prop := T ≠ 172 ∧ T ≠ 38 ∧ T ≠ 201 ∧ T ≠ 136
instance (T : TypeId) : Decidable (offL T) := by unfold offL; infer_instance
theorem not_tyL {w : World} {N : Nat} {T : TypeId} {cs : Array Value} (hb : w.heap[N]? = some (.cells cs T (0, 0))) (hT : offL T) : ¬ TyL w N := by
  rintro (⟨cs', T', fr, h1, h2⟩ | ⟨es, cl, h1⟩)
  · rw [hb] at h1
    simp only [Option.some.injEq, Obj.cells.injEq] at h1
    obtain ⟨_, rfl, _⟩ := h1
    rcases h2 with q | q | q | q
    · exact hT.1 q
    · exact hT.2.1 q
    · exact hT.2.2.1 q
    · exact hT.2.2.2 q
  · rw [hb] at h1; cases h1
/-- Blocks that were there, each of a type that a log's parts have. -/
def OfL (S : Nat → Prop) (w : World) : Prop := ∀ q, S q → q < w.heap.size ∧ TyL w q
/-- A log that was made: its parts are in S. -/
def LObj (S : Nat → Prop) (w : World) (b : Nat) (L : List EntT) : Prop := OfL S w ∧ ∃ M u, LgP S w.heap.size w b M u L
section
variable {S S' D : Nat → Prop} {n : Nat} {w x : World} {b M N : Nat} {u v : Value} {L : List EntT} {cs : Array Value} {T e : TypeId} {B sz k : Nat} {xs : List Value}
theorem ins_in (h : InS S w.heap.size v) (hr : w.ownsRow B e sz v k xs) : ∀ i, v.ownBlock = some i → S i := fun i hi => by
  rcases h i hi with q | q
  · exact q
  · have := (hr.lt i hi).2; omega
/-- All that is the log's is as it was: so is the log. -/
theorem LObj.keep (h : LObj S w b L) (hs : w.heap.size ≤ x.heap.size) (hk : ∀ q, S q → x.heap[q]? = w.heap[q]?) : LObj S x b L := by
  obtain ⟨hS, M, u, h⟩ := h
  have hb : S b := by
    rcases h.sb with q | q
    · exact q
    · have := h.blk.lt; omega
  have hty : OfL S x := fun q hq => ⟨by have := (hS q hq).1; omega, by
    have h1 := (hS q hq).2
    unfold TyL at h1 ⊢
    rw [hk q hq]; exact h1⟩
  have up : ∀ {v : Value}, (∀ i, v.ownBlock = some i → S i) → InS S x.heap.size v := fun hv i hi => .inl (hv i hi)
  refine ⟨hty, M, u, ?_, ?_, row_sameL h.row (fun i hi => hk i (ins_in h.su h.row i hi)), fun e he => ⟨row_sameL (h.ents e he).row (fun i hi => hk i (ins_in (h.ents e he).ins (h.ents e he).row i hi)), up (ins_in (h.ents e he).ins (h.ents e he).row), (h.ents e he).len, (h.ents e he).each, (h.ents e he).ts0, (h.ents e he).ts1, (h.ents e he).cl, (h.ents e he).rq⟩, .inl hb, ?_, up (ins_in h.su h.row), h.uq, h.len⟩
  · have hB := h.blk
    unfold Blk at hB ⊢
    rw [hk b hb]; exact hB
  · obtain ⟨c, hm⟩ := h.map
    have hM : S M := by
      rcases h.sM with q | q
      · exact q
      · have := hm.lt; omega
    obtain ⟨l, ⟨es, cl, h1, h2⟩, h3⟩ := hm
    exact ⟨c, l, ⟨es, cl, by rw [hk M hM]; exact h1, h2⟩, h3⟩
  · obtain ⟨c, hm⟩ := h.map
    rcases h.sM with q | q
    · exact .inl q
    · have := hm.lt; omega
theorem LObj.gr {row : Option Nat} (h : LObj S w b L) (hg : w.grownBy x row) (hr : ∀ k, row = some k → ¬ S k) : LObj S x b L :=
  h.keep hg.size fun k hk => hg.block k (h.1 k hk).1 (fun e => hr k e.symm hk)
theorem LObj.new (h : LObj S w b L) (hg : w.grownBy x none) : LObj S x b L := h.gr hg (fun k e => by cases e)
theorem LObj.call (h : LObj S w b L) (hb : Below w.heap.size w x) : LObj S x b L := h.new (below_grown hb)
theorem LObj.at (h : LObj S w b L) (hb : Blk w N T cs) (hT : offL T) (hg : w.grownBy x (some N)) : LObj S x b L := h.gr hg (fun k e => by cases e; exact fun hS => not_tyL hb hT (h.1 N hS).2)
theorem LObj.row (h : LObj S w b L) (hr : w.ownsRow B e sz v k xs) (hT : offL e) (hg : w.grownBy x v.ownBlock) : LObj S x b L :=
  h.gr hg (fun k e hS => by obtain ⟨cs, hc⟩ := row_block hr e; exact not_tyL hc hT (h.1 k hS).2)
theorem LObj.but (h : LObj S w b L) (hd : ∀ q, S q → D q → False) (hb : But D w x) : LObj S x b L := h.keep hb.size fun k hk => hb.block k (h.1 k hk).1 (fun q => hd k hk q)
end
end Go.Proofs.Ytlbemlodcdgakaa

/- The document's log: Copy, Stamp. Conditions: at most 100 entries, 20 operations each. -/
namespace Go.Proofs.Ytlbemlodcdgakaa
open Go.RowKit Go.PlainAid
set_option linter.unusedVariables false


/-- The document's log. -/
structure RgP (S : Nat → Prop) (n : Nat) (w : World) (b : Nat) (u : Value) (L : List EntT) : Prop where
  blk : Blk w b 136 #[u]
  row : w.ownsRow 0 38 4 u L.length (L.flatMap entE)
  ents : EntsK S n w L
  sb : S b ∨ n ≤ b
  su : InS S n u
  len : L.length ≤ 100
theorem EntsK.low {S : Nat → Prop} {n m : Nat} {w : World} {L : List EntT} (h : EntsK (fun _ => False) m w L) (hn : n ≤ m) : EntsK S n w L := fun e he =>
  ⟨(h e he).row, fun i hi => by rcases (h e he).ins i hi with q | q; exact absurd q id; exact .inr (by omega), (h e he).len, (h e he).each, (h e he).ts0, (h e he).ts1, (h e he).cl, (h e he).rq⟩
theorem e0_at {A B : List EntT} {i : Nat} {y : EntT} (h : A.map e0 = B.map e0) (hy : A[i]? = some y) : ∃ z, B[i]? = some z ∧ e0 z = e0 y := by
  have := congrArg (·[i]?) h
  simp only [List.getElem?_map, hy, Option.map_some] at this
  rw [eq_comm, Option.map_eq_some_iff] at this
  exact this
theorem e0_f {α : Type} {f : EntT → α} (hf : ∀ e, f (e0 e) = f e) {A B : List EntT} (h : A.map e0 = B.map e0) : A.map f = B.map f := by
  have := congrArg (List.map f) h
  simp only [List.map_map] at this
  rwa [show f ∘ e0 = f from funext hf] at this
theorem e0_ts {y z : EntT} (h : e0 z = e0 y) : z.ts = y.ts ∧ z.client = y.client ∧ z.req = y.req ∧ z.opl = y.opl := by
  unfold e0 at h
  simp only [EntT.mk.injEq] at h
  exact ⟨h.2.2.2.2, h.1, h.2.1, h.2.2.2.1⟩
end Go.Proofs.Ytlbemlodcdgakaa

/- The document's log: Set. Conditions: at most 100 entries, 20 operations each. -/
namespace Go.Proofs.Ytlbemlodcdgakaa
open Go.RowKit Go.PlainAid
set_option linter.unusedVariables false


/-- What Set makes of the entries, as far as anybody sees. -/
def setL (L : List EntT) (i c r : Int) (l : List OpT) (ts : Int) : List EntT :=
  if setE L i c r l ts ≠ 0 then L else if (L[i.toNat]?).map nmE = some (c, r) then restF L i.toNat ts else L.take i.toNat ++ [EntT.mk c r (.slice none 0 0) l ts]
section
variable {L Lk X Mk : List EntT} {i k : Nat} {y y0 : EntT} {q : Int × Int} {c r ts : Int} {l : List OpT} {n : Int}
theorem setL_no (h : setE L n c r l ts ≠ 0) : setL L n c r l ts = L := by unfold setL; rw [if_pos h]
theorem setL_tw (h : setE L n c r l ts = 0) (h2 : (L[n.toNat]?).map nmE = some (c, r)) : setL L n c r l ts = restF L n.toNat ts := by unfold setL; rw [if_neg (by rw [h]; simp), if_pos h2]
theorem setL_nw (h : setE L n c r l ts = 0) (h2 : ¬ (L[n.toNat]?).map nmE = some (c, r)) : setL L n c r l ts = L.take n.toNat ++ [EntT.mk c r (.slice none 0 0) l ts] := by unfold setL; rw [if_neg (by rw [h]; simp), if_neg h2]
end
end Go.Proofs.Ytlbemlodcdgakaa

/- Package rlog: what is right stays right (pure; as far as adopt needs it). Conditions: none. -/
namespace Go.Proofs.Ytlbemlodcdgakaa
open Go.RowKit Go.PlainAid
set_option linter.unusedVariables false


/-- A log that is right. -/
structure RI (L : List EntT) : Prop where
  chk : ∀ e ∈ L, chkB e.client e.req e.opl = 0
  uq : UqN L
  up : ∀ i y p, L[i + 1]? = some y → L[i]? = some p → y.ts ≠ 0 → p.ts ≠ 0 ∧ p.ts < y.ts
theorem RI.nil : RI [] := ⟨fun e he => by simp at he, by simp [UqN], fun i y p h => by simp at h⟩
theorem RI.e0 {A B : List EntT} (h : A.map e0 = B.map e0) (hA : RI A) : RI B := by
  have ba := h.symm
  refine ⟨fun e he => ?_, hA.uq.nm (e0_f (f := nmE) (fun _ => rfl) ba), fun i y p hy hp hn => ?_⟩
  · obtain ⟨i, hi⟩ := List.getElem?_of_mem he
    obtain ⟨z, hz, e1⟩ := e0_at ba hi
    obtain ⟨_, k2, k3, k4⟩ := e0_ts e1
    rw [← k2, ← k3, ← k4]; exact hA.chk z (List.mem_of_getElem? hz)
  · obtain ⟨y', h1, e1⟩ := e0_at ba hy
    obtain ⟨p', h2, e2⟩ := e0_at ba hp
    have := hA.up i y' p' h1 h2 (by rw [(e0_ts e1).1]; exact hn)
    rw [(e0_ts e1).1, (e0_ts e2).1] at this; exact this
theorem rgF_0 : ∀ (r pre : List EntT), rgF pre r = 0 ↔ (∀ e ∈ r, chkB e.client e.req e.opl = 0) ∧ (∀ i y, r[i]? = some y → ¬ 0 < twN (pre ++ r.take i) y.client y.req) ∧ (∀ i y, r[i]? = some y → badT (pre ++ r.take i) y = false)
  | [], pre => by simp [rgF]
  | e :: r, pre => by
    have ih := rgF_0 r (pre ++ [e])
    rw [rgF]
    by_cases h1 : chkB e.client e.req e.opl ≠ 0
    · rw [if_pos h1]; exact ⟨fun h => absurd h h1, fun h => absurd (h.1 e (by simp)) h1⟩
    · rw [if_neg h1]
      by_cases h2 : 0 < twN pre e.client e.req
      · rw [if_pos h2]; exact ⟨(fun h => by cases h), fun h => absurd h2 (by simpa using h.2.1 0 e rfl)⟩
      · rw [if_neg h2]
        by_cases h3 : badT pre e = true
        · rw [if_pos h3]; exact ⟨(fun h => by cases h), fun h => by have := h.2.2 0 e rfl; simp [h3] at this⟩
        · rw [if_neg h3, ih]
          constructor
          · rintro ⟨k1, k2, k3⟩
            refine ⟨fun x hx => ?_, fun i y hy => ?_, fun i y hy => ?_⟩
            · rw [List.mem_cons] at hx; rcases hx with rfl | hx; omega; exact k1 x hx
            · cases i with
              | zero => simp at hy; subst hy; simpa using h2
              | succ i => simp at hy; have := k2 i y hy; simpa using this
            · cases i with
              | zero => simp at hy; subst hy; simpa using h3
              | succ i => simp at hy; have := k3 i y hy; simpa using this
          · rintro ⟨k1, k2, k3⟩
            refine ⟨fun x hx => k1 x (List.mem_cons_of_mem _ hx), fun i y hy => ?_, fun i y hy => ?_⟩
            · have := k2 (i + 1) y (by simpa using hy); simpa using this
            · have := k3 (i + 1) y (by simpa using hy); simpa using this
theorem rev_ind {α : Type} {p : List α → Prop} (h0 : p []) (h1 : ∀ l y, p l → p (l ++ [y])) (l : List α) : p l := by
  rw [← List.reverse_reverse l]
  induction l.reverse with
  | nil => exact h0
  | cons y r ih => rw [List.reverse_cons]; exact h1 _ _ ih
theorem twN_none {L : List EntT} {c r : Int} : ¬ 0 < twN L c r ↔ ∀ z ∈ L, nmE z ≠ (c, r) := by
  refine rev_ind (p := fun L => ¬ 0 < twN L c r ↔ ∀ z ∈ L, nmE z ≠ (c, r)) ?_ (fun l y ih => ?_) L
  · simp [twN]
  · rw [twN_snoc]
    have h0 := twN_pos l c r
    constructor
    · intro h z hz
      rw [List.mem_append, List.mem_singleton] at hz
      rcases hz with hz | rfl
      · exact ih.1 (by split at h <;> omega) z hz
      · intro e; simp only [nmE, Prod.mk.injEq] at e; rw [if_pos e] at h; omega
    · intro h
      have h1 := ih.2 (fun z hz => h z (by simp [hz]))
      have h2 : ¬ (y.client = c ∧ y.req = r) := fun q => h y (by simp) (by simp [nmE, q.1, q.2])
      rw [if_neg h2]; omega
theorem RI.right {L : List EntT} (h : RI L) : rightI L = 0 := by
  unfold rightI
  rw [rgF_0]
  refine ⟨h.chk, fun i y hy => ?_, fun i y hy => ?_⟩
  · rw [List.nil_append, twN_none]
    intro z hz e
    obtain ⟨j, hj⟩ := List.getElem?_of_mem hz
    have hl := (List.getElem?_eq_some_iff.1 hj).1
    rw [List.length_take] at hl
    rw [List.getElem?_take, if_pos (by omega)] at hj
    have := h.uq.at hj hy e
    omega
  · rw [List.nil_append]
    cases i with
    | zero => exact badM_0 rfl
    | succ i =>
      have hl := (List.getElem?_eq_some_iff.1 hy).1
      rw [bad_at (j := i) (by omega) (by omega) (List.getElem?_eq_getElem (by omega))]
      refine decide_eq_false (fun q => ?_)
      have := h.up i y _ hy (List.getElem?_eq_getElem (by omega)) q.1
      omega
section
variable {L : List EntT} {i c r ts n h : Int} {l : List OpT}
theorem RI.take (h : RI L) (k : Nat) : RI (L.take k) := ⟨fun e he => h.chk e (List.mem_of_mem_take he), h.uq.take k, fun i y p hy hp hn => by
  have hl := (List.getElem?_eq_some_iff.1 hy).1
  rw [List.length_take] at hl
  rw [List.getElem?_take, if_pos (by omega)] at hy hp
  exact h.up i y p hy hp hn⟩
theorem setE_0 (h : setE L i c r l ts = 0) : 0 ≤ i ∧ i ≤ (L.length : Int) ∧ chkB c r l = 0 ∧ i < 100 ∧ findN (L.take i.toNat) (c, r) = none ∧ badT (L.take i.toNat) (EntT.mk c r (.slice none 0 0) l ts) = false := by
  unfold setE at h
  split at h
  · cases h
  · rename_i h1
    split at h
    · rename_i h2; exact absurd h h2
    · rename_i h2
      split at h
      · cases h
      · rename_i h3
        split at h
        · cases h
        · rename_i h4
          split at h
          · cases h
          · rename_i h5
            refine ⟨by omega, by omega, by omega, by omega, ?_, by simpa using h5⟩
            cases hf : findN (L.take i.toNat) (c, r) with
            | none => rfl
            | some a => rw [hf] at h4; exact absurd rfl h4
theorem bad_pre {k : Nat} {p : EntT} {v : Value} (hb : badT (L.take (k + 1)) (EntT.mk c r v l ts) = false) (hp : L[k]? = some p) (hn : ts ≠ 0) : p.ts ≠ 0 ∧ p.ts < ts := by
  rw [bad_at (j := k) (by omega) (by omega) hp] at hb
  have := of_decide_eq_false hb
  simp only [] at this
  omega
theorem RI.set (hR : RI L) : RI (setL L i c r l ts) := by
  by_cases h0 : setE L i c r l ts ≠ 0
  · rw [setL_no h0]; exact hR
  · have h0' : setE L i c r l ts = 0 := by omega
    obtain ⟨k1, k2, k3, k4, k5, k6⟩ := setE_0 h0'
    by_cases h1 : (L[i.toNat]?).map nmE = some (c, r)
    · rw [setL_tw h0' h1]
      obtain ⟨y0, hy0, _⟩ := Option.map_eq_some_iff.1 h1
      by_cases hts : y0.ts = ts
      · rw [restF_same hy0 hts]; exact hR
      · rw [← restF_ne (k := L.length) hy0 hts (Nat.le_refl _)]
        have hil := (List.getElem?_eq_some_iff.1 hy0).1
        have hat : ∀ j y, (rsL L i.toNat ts L.length)[j]? = some y → ∃ z, L[j]? = some z ∧ y.client = z.client ∧ y.req = z.req ∧ y.opl = z.opl ∧ y.ts = if j = i.toNat then ts else if i.toNat < j then 0 else z.ts := by
          intro j y hy
          simp only [rsL, List.getElem?_mapIdx] at hy
          obtain ⟨z, hz, rfl⟩ := Option.map_eq_some_iff.1 hy
          have hjl := (List.getElem?_eq_some_iff.1 hz).1
          refine ⟨z, hz, ?_⟩
          by_cases e1 : j = i.toNat
          · rw [if_pos e1, if_pos e1]; exact ⟨rfl, rfl, rfl, rfl⟩
          · rw [if_neg e1, if_neg e1]
            by_cases e2 : i.toNat < j
            · rw [if_pos ⟨e2, hjl⟩, if_pos e2]; exact ⟨rfl, rfl, rfl, rfl⟩
            · rw [if_neg (fun q => e2 q.1), if_neg e2]; exact ⟨rfl, rfl, rfl, rfl⟩
        refine ⟨fun e he => ?_, hR.uq.nm (rsL_nm _ _ _ _), fun j y p hy hp hn => ?_⟩
        · obtain ⟨j, hj⟩ := List.getElem?_of_mem he
          obtain ⟨z, hz, q1, q2, q3, _⟩ := hat j e hj
          rw [q1, q2, q3]; exact hR.chk z (List.mem_of_getElem? hz)
        · obtain ⟨y', hy', _, _, _, q1⟩ := hat _ y hy
          obtain ⟨p', hp', _, _, _, q2⟩ := hat _ p hp
          rw [q1] at hn ⊢; rw [q2]
          by_cases e1 : j + 1 = i.toNat
          · rw [if_pos e1] at hn ⊢
            rw [if_neg (by omega), if_neg (by omega)]
            rw [← e1] at k6
            exact bad_pre k6 hp' hn
          · rw [if_neg e1] at hn ⊢
            by_cases e2 : i.toNat < j + 1
            · rw [if_pos e2] at hn; exact absurd rfl hn
            · rw [if_neg e2] at hn ⊢
              rw [if_neg (by omega), if_neg (by omega)]
              exact hR.up j y' p' hy' hp' hn
    · rw [setL_nw h0' h1]
      have hT := hR.take i.toNat
      have hlen : (L.take i.toNat).length = i.toNat := by rw [List.length_take]; omega
      refine ⟨fun e he => ?_, hT.uq.snoc k5, fun j y p hy hp hn => ?_⟩
      · rw [List.mem_append, List.mem_singleton] at he
        rcases he with he | rfl; exact hT.chk e he; exact k3
      · have hjl := (List.getElem?_eq_some_iff.1 hy).1
        rw [List.length_append, hlen] at hjl
        simp at hjl
        by_cases e1 : j + 1 < i.toNat
        · rw [List.getElem?_append_left (by omega)] at hy hp
          exact hT.up j y p hy hp hn
        · have e2 : j + 1 = i.toNat := by omega
          rw [List.getElem?_append_right (by omega), hlen, e2, Nat.sub_self] at hy
          simp at hy; subst hy
          rw [List.getElem?_append_left (by omega), List.getElem?_take, if_pos (by omega)] at hp
          rw [← e2] at k6
          exact bad_pre k6 hp hn
theorem stN_at : ∀ {L : List EntT} {j : Nat} {y : EntT}, j < stN L → L[j]? = some y → y.ts ≠ 0
  | [], j, y, h, hy => by simp at hy
  | e :: r, j, y, h, hy => by
    unfold stN at h
    rw [List.takeWhile_cons] at h
    by_cases he : e.ts ≠ 0
    · rw [if_pos (by simpa using he)] at h
      cases j with
      | zero => simp at hy; subst hy; exact he
      | succ j => simp at hy; exact stN_at (L := r) (by unfold stN; simpa using h) hy
    · rw [if_neg (by simpa using he)] at h; simp at h
theorem stN_zero : ∀ {L : List EntT} {y : EntT}, L[stN L]? = some y → y.ts = 0
  | [], y, hy => by simp at hy
  | e :: r, y, hy => by
    unfold stN at hy
    rw [List.takeWhile_cons] at hy
    by_cases he : e.ts ≠ 0
    · rw [if_pos (by simpa using he)] at hy
      rw [List.length_cons, List.getElem?_cons_succ] at hy; exact stN_zero (L := r) (by unfold stN; exact hy)
    · rw [if_neg (by simpa using he)] at hy; simp at hy; subst hy; omega
theorem stE_0 (h : stE L i ts = 0) : 0 ≤ i ∧ i < (L.length : Int) ∧ ts ≠ 0 ∧ i = ((stN L : Nat) : Int) ∧ lastT L < ts := by
  unfold stE at h
  split at h
  · cases h
  · split at h
    · cases h
    · split at h
      · cases h
      · rename_i h1 h2 h3; refine ⟨by omega, by omega, h2, by omega, by omega⟩
theorem RI.st (hR : RI L) : RI (stL L i ts) := by
  by_cases h0 : stE L i ts ≠ 0
  · rw [stL_no h0]; exact hR
  · have h0' : stE L i ts = 0 := by omega
    obtain ⟨k1, k2, k3, k4, k5⟩ := stE_0 h0'
    have hi : i.toNat = stN L := by omega
    have hil : i.toNat < L.length := by omega
    have hy0 := List.getElem?_eq_getElem hil
    rw [stL_ok h0' hy0]
    have hat : ∀ j y, (L.set i.toNat { L[i.toNat] with ts := ts })[j]? = some y → ∃ z, L[j]? = some z ∧ y.client = z.client ∧ y.req = z.req ∧ y.opl = z.opl ∧ y.ts = if j = i.toNat then ts else z.ts := by
      intro j y hy
      rw [List.getElem?_set] at hy
      by_cases e1 : i.toNat = j
      · subst e1
        rw [if_pos rfl, if_pos hil] at hy
        simp only [Option.some.injEq] at hy
        subst hy
        exact ⟨_, hy0, rfl, rfl, rfl, by rw [if_pos rfl]⟩
      · rw [if_neg e1] at hy
        exact ⟨y, hy, rfl, rfl, rfl, by rw [if_neg (fun q => e1 q.symm)]⟩
    refine ⟨fun e he => ?_, hR.uq.nm ?_, fun j y p hy hp hn => ?_⟩
    · obtain ⟨j, hj⟩ := List.getElem?_of_mem he
      obtain ⟨z, hz, q1, q2, q3, _⟩ := hat j e hj
      rw [q1, q2, q3]; exact hR.chk z (List.mem_of_getElem? hz)
    · rw [← stL_ok h0' hy0]; exact stL_nm
    · obtain ⟨y', hy', _, _, _, q1⟩ := hat _ y hy
      obtain ⟨p', hp', _, _, _, q2⟩ := hat _ p hp
      rw [q1] at hn ⊢; rw [q2]
      by_cases e1 : j + 1 = i.toNat
      · rw [if_pos e1, if_neg (by omega)]
        refine ⟨stN_at (L := L) (by omega) hp', ?_⟩
        rw [show p'.ts = lastT L from lastT_at (j := j) (by omega) (by omega) hp']; exact k5
      · rw [if_neg e1] at hn ⊢
        by_cases e2 : j = i.toNat
        · exfalso
          have h1 := hR.up j y' p' hy' hp' hn
          rw [e2, hi] at hp'
          exact h1.1 (stN_zero hp')
        · rw [if_neg e2]; exact hR.up j y' p' hy' hp' hn
end


section
variable {L : List EntT} {i c r ts n h : Int} {l : List OpT}
variable {A B : List EntT}
end

end Go.Proofs.Ytlbemlodcdgakaa

/- Package rlog: the document's log as an object (as far as adopt needs it). Conditions: none. -/
namespace Go.Proofs.Ytlbemlodcdgakaa
open Go.RowKit Go.PlainAid
set_option linter.unusedVariables false

def RObj (D : Nat → Prop) (w : World) (d : Nat) (u : Value) (X : List EntT) : Prop := (∀ q, D q → q < w.heap.size) ∧ RgP D w.heap.size w d u X
section
variable {S S' D A : Nat → Prop} {n : Nat} {w x : World} {b d : Nat} {u v : Value} {L X : List EntT}
theorem RObj.keep (h : RObj D w d u X) (hs : w.heap.size ≤ x.heap.size) (hk : ∀ q, D q → x.heap[q]? = w.heap[q]?) : RObj D x d u X := by
  obtain ⟨hS, h⟩ := h
  have hb : D d := by
    rcases h.sb with q | q
    · exact q
    · have := h.blk.lt; omega
  have up : ∀ {v : Value}, (∀ i, v.ownBlock = some i → D i) → InS D x.heap.size v := fun hv i hi => .inl (hv i hi)
  refine ⟨fun q hq => by have := hS q hq; omega, ?_, row_sameL h.row (fun i hi => hk i (ins_in h.su h.row i hi)), fun e he => ?_, .inl hb, up (ins_in h.su h.row), h.len⟩
  · have hB := h.blk
    unfold Blk at hB ⊢
    rw [hk d hb]; exact hB
  · have k := h.ents e he
    exact ⟨row_sameL k.row (fun i hi => hk i (ins_in k.ins k.row i hi)), up (ins_in k.ins k.row), k.len, k.each, k.ts0, k.ts1, k.cl, k.rq⟩
theorem RObj.gr {row : Option Nat} (h : RObj D w d u X) (hg : w.grownBy x row) (hr : ∀ k, row = some k → ¬ D k) : RObj D x d u X := h.keep hg.size fun k hk => hg.block k (h.1 k hk) (fun e => hr k e.symm hk)
theorem RObj.but (h : RObj D w d u X) (hb : But S w x) (hd : ∀ q, D q → S q → False) : RObj D x d u X := h.keep hb.size fun k hk => hb.block k (h.1 k hk) (fun q => hd k hk q)
end
end Go.Proofs.Ytlbemlodcdgakaa

/- Package item: Right of the document; Copy. Conditions: none. -/
namespace Go.Proofs.Ytlbemlodcdgakaa
open Go.RowKit Go.PlainAid
set_option linter.unusedVariables false
set_option linter.unusedSimpArgs false


theorem fold_nn : ∀ (l : List EntT) (m : Int), m ≤ l.foldl (fun n e => n + (e.opl.length : Int)) m
  | [], m => Int.le_refl m
  | e :: r, m => by have := fold_nn r (m + (e.opl.length : Int)); simp only [List.foldl_cons]; omega
end Go.Proofs.Ytlbemlodcdgakaa

/- catenalaw32: awake; what may be written. Conditions: none. -/
namespace Go.Proofs.Ytlbemlodcdgakaa
open Go.RowKit Go.PlainAid
set_option linter.unusedVariables false
set_option linter.unusedSimpArgs false


section
variable {L l L2 : List EntT} {e : EntT} {k : Nat}
theorem UqN.drop (h : UqN L) (i : Nat) : UqN (L.drop i) := by unfold UqN at h ⊢; rw [List.map_drop]; exact List.Nodup.sublist (List.drop_sublist _ _) h
theorem RI.drop (h : RI L) (k : Nat) : RI (L.drop k) := ⟨fun e he => h.chk e (List.mem_of_mem_drop he), h.uq.drop k, fun i y p hy hp hn => by
  rw [List.getElem?_drop] at hy hp
  exact h.up (k + i) y p hy hp hn⟩
def fwD (ep ba fr sb hz gd : Int) (l L2 : List EntT) : MsgD := ⟨3, mxI ep 0, mxI sb 0, 0, false, hz, 0, mxI ba 0, mxI (fwF l gd fr) 0, mxI ((stN (fwA l gd) : Nat) : Int) 0, 0, ⟨#[]⟩, ⟨#[]⟩, 0, [], 0, 0, 0, [], L2, [], []⟩
def akD (ep gd he fr : Int) (l : List EntT) (st : List Int) : MsgD := ⟨4, mxI ep 0, 0, 0, false, 0, 0, mxI (((fwA l gd).length : Nat) : Int) 0, mxI he 0, mxI (fwF l gd fr) 0, 0, ⟨#[]⟩, ⟨#[]⟩, 0, [], 0, 0, 0, [], [], st, []⟩
theorem zr_ : -9223372036854775808 ≤ (0 : Int) ∧ (0 : Int) ≤ 9223372036854775807 := by omega
theorem z6_ : 0 ≤ (0 : Int) ∧ (0 : Int) < 18446744073709551616 := by omega
theorem fwD_R {ep ba fr sb hz gd : Int} (h : 0 ≤ hz ∧ hz < 18446744073709551616) : MsgR (fwD ep ba fr sb hz gd l L2) := ⟨(fun m hm => by cases hm), ⟨zr_, z6_, h, z6_⟩, (fun t ht => by cases ht)⟩
theorem tsL_bd {w : World} (h : ∀ z ∈ l, EntOk w z) : ∀ t ∈ tsL l, 0 ≤ t ∧ t < 18446744073709551616 := fun t ht => by
  unfold tsL at ht; rw [List.mem_map] at ht; obtain ⟨z, hz, rfl⟩ := ht; exact ⟨(h z hz).ts0, (h z hz).ts1⟩
theorem akS_bd {w : World} (h : ∀ z ∈ l, EntOk w z) (gd fr : Int) : ∀ t ∈ akS l gd fr, 0 ≤ t ∧ t < 18446744073709551616 :=
  tsL_bd fun z hz => h z (List.mem_of_mem_take (List.mem_of_mem_drop (List.mem_of_mem_take hz)))
theorem akD_R {ep gd he fr : Int} {st : List Int} (h : ∀ t ∈ st, 0 ≤ t ∧ t < 18446744073709551616) : MsgR (akD ep gd he fr l st) := ⟨(fun m hm => by cases hm), ⟨zr_, z6_, z6_, z6_⟩, h⟩
def eA : EntT := EntT.mk 0 1 (.slice none 0 0) [] 3
def eB : EntT := EntT.mk 0 2 (.slice none 0 0) [] 5
theorem ab_ok (w : World) : ∀ z ∈ ([eA, eB] : List EntT), EntOk w z := fun z hz => by
  simp at hz
  rcases hz with rfl | rfl <;> exact ⟨SliceOf.nil _ _ _, (fun o ho => by cases ho), by decide, by decide, rfl, rfl⟩
theorem ab_20 : ∀ z ∈ ([eA, eB] : List EntT), z.opl.length ≤ 100 := fun z hz => by
  simp at hz
  rcases hz with rfl | rfl <;> simp [eA, eB]
theorem ab_ak : akS [eA, eB] 2 1 = [5] := by decide +kernel
theorem ab_fw (h : L2.map e0 = (fwE [eA, eB] 2 1).map e0) : L2.length = 1 := by
  have := congrArg List.length h; rw [List.length_map, List.length_map] at this; rw [this]; decide +kernel
theorem ab_p : mxI ((stN (fwA [eA, eB] 2) : Nat) : Int) 0 = 2 := by decide +kernel
end

set_option maxRecDepth 100000 in
theorem awake32  (w : World)  :
    Calls Try.prog 25 #[] w fun e w' => e = .returned (.bool true) ∧ Below w.heap.size w w' := by
 obtain ⟨AB, hAB⟩ : ∃ L : List EntT, L = [eA, eB] := ⟨_, rfl⟩
 have hB0 := Below.refl w.heap.size w
 refine co_enter (n := 45) Try.func25 rfl rfl rfl [] rfl (fun a h0 => ?_)
 refine co_seq ?_
 refine co_reg ?_
 refine pk0 (v := .bool false) h0 rfl fun a1 h1 => ?_; clear h0
 refine pl_nil ?_
 refine co_then ?_
 refine co_seq ?_
 refine co_reg ?_
 refine pk0 (v := .agg #[.int .i64 0, .int .i64 1, .slice none 0 0]) h1 rfl fun a2 h2 => ?_; clear h1
 refine pk0 (v := .agg #[.int .i64 0, .int .i64 1, .slice none 0 0, .int .u64 3]) h2 rfl fun a3 h3 => ?_; clear h2
 refine pk0 (v := .agg #[.int .i64 0, .int .i64 2, .slice none 0 0]) h3 rfl fun a4 h4 => ?_; clear h3
 refine pk0 (v := .agg #[.int .i64 0, .int .i64 2, .slice none 0 0, .int .u64 5]) h4 rfl fun a5 h5 => ?_; clear h4
 refine pw h5 rfl (op_new (v := fun N => .slice (some ⟨N, 0, none⟩) 2 2) (T := 38) (cs := #[.int .i64 0, .int .i64 1, .slice none 0 0, .int .u64 3, .int .i64 0, .int .i64 2, .slice none 0 0, .int .u64 5]) (by kernel_rfl) (by kernel_rfl) (by kernel_rfl)) ?_; clear h5
 rintro _ w7 a6 ⟨N8, rfl, hN11, hz12, hk10, hg9⟩ h6
 have hz13 := hg9.size
 try dsimp only at h6
 refine pk0 (v := .slice (some ⟨N8, 0, none⟩) 2 2) h6 rfl fun a14 h14 => ?_; clear h6
 refine pl_nil ?_
 refine co_then ?_
 refine co_seq ?_
 refine co_reg ?_
 refine pk0 (v := .slice (some ⟨N8, 0, none⟩) 2 2) h14 rfl fun a15 h15 => ?_; clear h14
 have hr18 : w7.ownsRow N8 38 4 (.slice (some ⟨N8, 0, none⟩) 2 2) AB.length (AB.flatMap entE) := by rw [hAB]; exact row_of_cells (enc := entE) (sz := 4) ([eA, eB] : List EntT) hk10 (Nat.le_refl _) rfl rfl (by unfold maxLen; simp)
 refine pw h15 rfl (op_call (args := #[.int .i64 1, .int .i64 2, .int .i64 2, .int .i64 1, .slice (some ⟨N8, 0, none⟩) 2 2]) (R := fun res xw => ∃ u : Value, res = .agg #[.int .i64 4, .int .i64 (mxI 1 0), .int .i64 0, .int .i64 0, .bool false, .int .u64 0, .int .u64 0, .int .i64 (mxI (((fwA AB 2).length : Nat) : Int) 0), .int .i64 (mxI 2 0), .int .i64 (mxI (fwF AB 2 1) 0), .int .i64 0, .string (⟨#[]⟩), .string (⟨#[]⟩), .int .i64 0, .slice none 0 0, .int .u64 0, .int .i64 0, .int .i64 0, .slice none 0 0, .slice none 0 0, u, .slice none 0 0] ∧ xw.ownsRow w7.heap.size 29 1 u (akS AB 2 1).length ((akS AB 2 1).flatMap (intE .u64)) ∧ Below w7.heap.size w7 xw) rfl rfl rfl (by kernel_rfl) (by kernel_rfl) (Try.call28 _ _) (ack_any 1 2 2 1 (.slice (some ⟨N8, 0, none⟩) 2 2) AB w7 (row_sl hr18 entE_len) (by rw [hAB]; exact ab_ok _)) (by rintro e x ⟨u, rfl, hq20, hb21⟩; exact ⟨_, rfl, ⟨u, rfl, hq20, hb21⟩⟩)) ?_; clear h15
 rintro _ w17 a16 ⟨u19, rfl, hq20, hb21⟩ h16
 have hz22 := hb21.size
 have hl23 := sl_len (row_sl hq20 (intE_len .u64))
 have hl24 : (akS AB 2 1).length = 1 := by rw [hAB, ab_ak]; rfl
 refine pw h16 rfl (op_new (v := fun N => pt N 0) (T := 74) (cs := #[.int .i64 0, .int .i64 0, .int .i64 0, .int .i64 0, .bool false, .int .u64 0, .int .u64 0, .int .i64 0, .int .i64 0, .int .i64 0, .int .i64 0, .string (⟨#[]⟩), .string (⟨#[]⟩), .int .i64 0, .slice none 0 0, .int .u64 0, .int .i64 0, .int .i64 0, .slice none 0 0, .slice none 0 0, .slice none 0 0, .slice none 0 0]) (by kernel_rfl) (by kernel_rfl) (by kernel_rfl)) ?_; clear h16
 rintro _ w26 a25 ⟨N27, rfl, hN30, hz31, hk29, hg28⟩ h25
 have hr33 := row_kept_new hr18 (below_grown hb21)
 have ha32 := row_fresh hr33 hN30
 have ha34 := row_fresh hq20 hN30
 have hz35 := hg28.size
 try dsimp only at h25
 have hr41 := row_kept_new hq20 hg28
 refine pwD h25 rfl (op_storeN rfl rfl rfl (all_cons rfl (all_cons rfl (all_cons rfl (all_cons rfl (all_cons rfl (all_cons rfl (all_cons rfl (all_cons rfl (all_cons rfl (all_cons rfl (all_cons rfl (all_cons rfl (all_cons rfl (all_cons rfl (all_cons rfl (all_cons rfl (all_cons rfl (all_cons rfl (all_cons rfl (all_cons rfl (all_cons (row_one hr41) (all_cons rfl all_nil)))))))))))))))))))))) (by kernel_rfl) hk29 rfl) ?_; clear h25
 rintro _ w37 a36 ⟨hk38, hz39, hg40⟩ h36
 have hk38' : Blk w37 N27 74 #[.int .i64 4, .int .i64 (mxI 1 0), .int .i64 0, .int .i64 0, .bool false, .int .u64 0, .int .u64 0, .int .i64 (mxI (((fwA AB 2).length : Nat) : Int) 0), .int .i64 (mxI 2 0), .int .i64 (mxI (fwF AB 2 1) 0), .int .i64 0, .string (⟨#[]⟩), .string (⟨#[]⟩), .int .i64 0, .slice none 0 0, .int .u64 0, .int .i64 0, .int .i64 0, .slice none 0 0, .slice none 0 0, u19, .slice none 0 0] := hk38; clear hk38
 have hz42 := hg40.size
 refine pl_nil ?_
 refine co_then ?_
 refine co_seq ?_
 refine co_reg ?_
 refine pk0 (v := .slice (some ⟨N8, 0, none⟩) 2 2) h36 rfl fun a43 h43 => ?_; clear h36
 have hr46 := row_kept_new hr33 hg28
 have hr47 := row_kept_at hr46 hg40 (ha32)
 refine pw h43 rfl (op_call (args := #[.int .i64 1, .int .i64 0, .int .i64 1, .int .i64 0, .int .u64 9, .slice (some ⟨N8, 0, none⟩) 2 2, .int .i64 2]) (R := fun res xw => ∃ L2 : List EntT, ∃ u : Value, res = .agg #[.int .i64 3, .int .i64 (mxI 1 0), .int .i64 (mxI 0 0), .int .i64 0, .bool false, .int .u64 9, .int .u64 0, .int .i64 (mxI 0 0), .int .i64 (mxI (fwF AB 2 1) 0), .int .i64 (mxI ((stN (fwA AB 2) : Nat) : Int) 0), .int .i64 0, .string (⟨#[]⟩), .string (⟨#[]⟩), .int .i64 0, .slice none 0 0, .int .u64 0, .int .i64 0, .int .i64 0, .slice none 0 0, u, .slice none 0 0, .slice none 0 0] ∧ xw.ownsRow w37.heap.size 38 4 u L2.length (L2.flatMap entE) ∧ EntsH (fun _ => False) w37.heap.size xw L2 ∧ L2.map e0 = (fwE AB 2 1).map e0 ∧ Below w37.heap.size w37 xw) rfl rfl rfl (by kernel_rfl) (by kernel_rfl) (Try.call26 _ _) (fwd_any 1 0 1 0 9 (.slice (some ⟨N8, 0, none⟩) 2 2) AB 2 w37 (row_sl hr47 entE_len) (by rw [hAB]; exact ab_ok _) (by rw [hAB]; exact ab_20)) (by rintro e x ⟨L2, u, rfl, hq50, hq51, hq52, hb53⟩; exact ⟨_, rfl, ⟨L2, u, rfl, hq50, hq51, hq52, hb53⟩⟩)) ?_; clear h43
 rintro _ w45 a44 ⟨L248, u49, rfl, hq50, hq51, hq52, hb53⟩ h44
 have hz54 := hb53.size
 have hl55 := sl_len (row_sl hq50 entE_len)
 have hl56 := ab_fw (L2 := L248) (by rw [← hAB]; exact hq52)
 have hp57 : mxI ((stN (fwA AB 2) : Nat) : Int) 0 = 2 := by rw [hAB]; exact ab_p
 refine pw h44 rfl (op_new (v := fun N => pt N 0) (T := 74) (cs := #[.int .i64 0, .int .i64 0, .int .i64 0, .int .i64 0, .bool false, .int .u64 0, .int .u64 0, .int .i64 0, .int .i64 0, .int .i64 0, .int .i64 0, .string (⟨#[]⟩), .string (⟨#[]⟩), .int .i64 0, .slice none 0 0, .int .u64 0, .int .i64 0, .int .i64 0, .slice none 0 0, .slice none 0 0, .slice none 0 0, .slice none 0 0]) (by kernel_rfl) (by kernel_rfl) (by kernel_rfl)) ?_; clear h44
 rintro _ w59 a58 ⟨N60, rfl, hN63, hz64, hk62, hg61⟩ h58
 have hr66 := row_kept_new hr47 (below_grown hb53)
 have ha65 := row_fresh hr66 hN63
 have hr68 := row_kept_at hr41 hg40 (ha34)
 have hr69 := row_kept_new hr68 (below_grown hb53)
 have ha67 := row_fresh hr69 hN63
 have ha70 := row_fresh hq50 hN63
 have hz71 := hg61.size
 try dsimp only at h58
 have hr77 := row_kept_new hq50 hg61
 refine pwD h58 rfl (op_storeN rfl rfl rfl (all_cons rfl (all_cons rfl (all_cons rfl (all_cons rfl (all_cons rfl (all_cons rfl (all_cons rfl (all_cons rfl (all_cons rfl (all_cons rfl (all_cons rfl (all_cons rfl (all_cons rfl (all_cons rfl (all_cons rfl (all_cons rfl (all_cons rfl (all_cons rfl (all_cons rfl (all_cons (row_one hr77) (all_cons rfl (all_cons rfl all_nil)))))))))))))))))))))) (by kernel_rfl) hk62 rfl) ?_; clear h58
 rintro _ w73 a72 ⟨hk74, hz75, hg76⟩ h72
 have hk74' : Blk w73 N60 74 #[.int .i64 3, .int .i64 (mxI 1 0), .int .i64 (mxI 0 0), .int .i64 0, .bool false, .int .u64 9, .int .u64 0, .int .i64 (mxI 0 0), .int .i64 (mxI (fwF AB 2 1) 0), .int .i64 (mxI ((stN (fwA AB 2) : Nat) : Int) 0), .int .i64 0, .string (⟨#[]⟩), .string (⟨#[]⟩), .int .i64 0, .slice none 0 0, .int .u64 0, .int .i64 0, .int .i64 0, .slice none 0 0, u49, .slice none 0 0, .slice none 0 0] := hk74; clear hk74
 have hz78 := hg76.size
 refine pl_nil ?_
 refine co_then ?_
 refine co_seq ?_
 refine co_reg ?_
 refine pk0 (v := pt N27 0) h72 rfl fun a79 h79 => ?_; clear h72
 have hk80 := hk38'.below hb53
 have hk81 := hk80.kept hg61 (by simp)
 have hk82 := hk81.kept hg76 (by simp; omega)
 refine pk (v := .int .i64 4) h79 rfl (rn_load1 rfl rfl Try.isAgg3 (hk82.cell rfl)) fun a83 h83 => ?_; clear h79
 refine pk0 (v := .bool ((4 : Int) == 4)) h83 rfl fun a84 h84 => ?_; clear h83
 refine pk0 (v := .bool ((4 : Int) == 4)) h84 rfl fun a85 h85 => ?_; clear h84
 have hc86 : ((4 : Int) == 4) = true := by first | (simp; done) | (simp; omega) | exact beq_false_of_ne (by omega) | exact beq_iff_eq.2 (by omega)
 rw [hc86] at h85; clear hc86
 refine pk0 (v := pt N27 20) h85 rfl fun a87 h87 => ?_; clear h85
 refine pk (v := u19) h87 rfl (rn_load1 rfl rfl Try.isAgg71 (hk82.cell rfl)) fun a88 h88 => ?_; clear h87
 have hr89 := row_kept_new hr69 hg61
 have hr90 := row_kept_at hr89 hg76 (ha67)
 refine pk (v := .int .i64 (((akS AB 2 1).length : Nat) : Int)) h88 rfl (rn_lenOwn rfl rfl Try.underlying71 hr90) fun a91 h91 => ?_; clear h88
 refine pk0 (v := .bool ((((akS AB 2 1).length : Nat) : Int) == 1)) h91 rfl fun a92 h92 => ?_; clear h91
 refine pk0 (v := .bool ((((akS AB 2 1).length : Nat) : Int) == 1)) h92 rfl fun a93 h93 => ?_; clear h92
 refine pk0 (v := .bool ((((akS AB 2 1).length : Nat) : Int) == 1)) h93 rfl fun a94 h94 => ?_; clear h93
 have hc95 : ((((akS AB 2 1).length : Nat) : Int) == 1) = true := by first | (simp; done) | (simp; omega) | exact beq_false_of_ne (by omega) | exact beq_iff_eq.2 (by omega)
 rw [hc95] at h94; clear hc95
 refine pk0 (v := pt N27 20) h94 rfl fun a96 h96 => ?_; clear h94
 refine pk (v := u19) h96 rfl (rn_load1 rfl rfl Try.isAgg71 (hk82.cell rfl)) fun a97 h97 => ?_; clear h96
 obtain ⟨y98, hy98⟩ : ∃ z, (akS AB 2 1)[0]? = some z := ⟨_, List.getElem?_eq_getElem (by first | omega | (simp; done) | (simp; omega))⟩
 have h5y98 : y98 = 5 := by have h := hy98; rw [hAB, ab_ak] at h; simpa using h.symm
 refine pk (v := pt (blkOf u19) (offOf u19 + 0 * 1)) h97 rfl (rn_index rfl rfl rfl Try.underlying71 Try.sizeOf29 (row_sl hr90 (intE_len .u64)) (by omega) (by first | omega | (simp; done) | (simp; omega))) fun a99 h99 => ?_; clear h97
 refine pk (v := .int .u64 y98) h99 rfl (rn_load1 rfl rfl Try.isAgg29 ((sl_at (row_sl hr90 (intE_len .u64)) hy98) 0 _ rfl)) fun a100 h100 => ?_; clear h99
 refine pk0 (v := .bool (y98 == 5)) h100 rfl fun a101 h101 => ?_; clear h100
 refine pk0 (v := .bool (y98 == 5)) h101 rfl fun a102 h102 => ?_; clear h101
 refine pk0 (v := .bool (y98 == 5)) h102 rfl fun a103 h103 => ?_; clear h102
 have hc104 : (y98 == 5) = true := by first | (simp; done) | (simp; omega) | exact beq_false_of_ne (by omega) | exact beq_iff_eq.2 (by omega)
 rw [hc104] at h103; clear hc104
 refine pk0 (v := pt N60 19) h103 rfl fun a105 h105 => ?_; clear h103
 refine pk (v := u49) h105 rfl (rn_load1 rfl rfl Try.isAgg69 (hk74'.cell rfl)) fun a106 h106 => ?_; clear h105
 have hr107 := row_kept_at hr77 hg76 (ha70)
 refine pk (v := .int .i64 ((L248.length : Nat) : Int)) h106 rfl (rn_lenOwn rfl rfl Try.underlying69 hr107) fun a108 h108 => ?_; clear h106
 refine pk0 (v := .bool (((L248.length : Nat) : Int) == 1)) h108 rfl fun a109 h109 => ?_; clear h108
 refine pk0 (v := .bool (((L248.length : Nat) : Int) == 1)) h109 rfl fun a110 h110 => ?_; clear h109
 refine pk0 (v := .bool (((L248.length : Nat) : Int) == 1)) h110 rfl fun a111 h111 => ?_; clear h110
 have hc112 : (((L248.length : Nat) : Int) == 1) = true := by first | (simp; done) | (simp; omega) | exact beq_false_of_ne (by omega) | exact beq_iff_eq.2 (by omega)
 rw [hc112] at h111; clear hc112
 refine pk0 (v := pt N60 9) h111 rfl fun a113 h113 => ?_; clear h111
 refine pk (v := .int .i64 (mxI ((stN (fwA AB 2) : Nat) : Int) 0)) h113 rfl (rn_load1 rfl rfl Try.isAgg3 (hk74'.cell rfl)) fun a114 h114 => ?_; clear h113
 refine pk0 (v := .bool (mxI ((stN (fwA AB 2) : Nat) : Int) 0 == 2)) h114 rfl fun a115 h115 => ?_; clear h114
 refine pk0 (v := .bool (mxI ((stN (fwA AB 2) : Nat) : Int) 0 == 2)) h115 rfl fun a116 h116 => ?_; clear h115
 refine pk0 (v := .bool (mxI ((stN (fwA AB 2) : Nat) : Int) 0 == 2)) h116 rfl fun a117 h117 => ?_; clear h116
 have hc118 : (mxI ((stN (fwA AB 2) : Nat) : Int) 0 == 2) = true := by first | (simp; done) | (simp; omega) | exact beq_false_of_ne (by omega) | exact beq_iff_eq.2 (by omega)
 rw [hc118] at h117; clear hc118
 refine pk0 (v := pt N60 5) h117 rfl fun a119 h119 => ?_; clear h117
 refine pk (v := .int .u64 9) h119 rfl (rn_load1 rfl rfl Try.isAgg29 (hk74'.cell rfl)) fun a120 h120 => ?_; clear h119
 refine pk0 (v := .bool ((9 : Int) == 9)) h120 rfl fun a121 h121 => ?_; clear h120
 refine pk0 (v := .bool ((9 : Int) == 9)) h121 rfl fun a122 h122 => ?_; clear h121
 refine pk0 (v := .bool ((9 : Int) == 9)) h122 rfl fun a123 h123 => ?_; clear h122
 refine pl_nil ?_
 refine co_then ?_
 refine wp_ret ?_
 refine co_ret1 h123 rfl rfl ?_
 have hB124 := hb_new hB0 hg9
 have hB125 := hb_call hB124 hb21
 have hB126 := hb_new hB125 hg28
 have hB127 := hb_at hB126 hg40 (by omega)
 have hB128 := hb_call hB127 hb53
 have hB129 := hb_new hB128 hg61
 have hB130 := hb_at hB129 hg76 (by omega)
 exact ⟨rfl, hB130⟩
end Go.Proofs.Ytlbemlodcdgakaa

/- catenalaw32: RelayMay. Conditions: none. -/
namespace Go.Proofs.Ytlbemlodcdgakaa
open Go.RowKit Go.PlainAid
set_option linter.unusedVariables false
set_option linter.unusedSimpArgs false


theorem much_len80 {l : List EntT} (h : ¬ muchN l > 80) : l.length ≤ 80 := by
  have hs : 0 ≤ sumN (l.take 200) := fold_nn _ 0
  unfold muchN at h; omega
theorem okWide_arr {P : Program} {w : World} {r : Reach} {base n : Nat} {e t : TypeId} {v : Value} (ht : P.underlying t = some (.array n e)) (h : Value.okWide P w r base t v) : ∃ cs, v = .agg cs ∧ cs.size = P.cellsOf t := by
  simp only [Value.okWide, ht] at h
  obtain ⟨cs, h1, h2, _⟩ := h
  exact ⟨cs, h1, h2⟩
end Go.Proofs.Ytlbemlodcdgakaa
