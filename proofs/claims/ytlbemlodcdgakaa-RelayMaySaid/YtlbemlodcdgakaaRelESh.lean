/- Package relay: message. Conditions: up to 100 operations an entry. -/
import Derived.Test.YtlbemlodcdgakaaRelDSh
namespace Go.Proofs.Ytlbemlodcdgakaa
open Go.RowKit Go.PlainAid
set_option linter.unusedVariables false
set_option linter.unusedSimpArgs false

set_option maxRecDepth 100000 in
theorem message3_any (R : Nat) (N00 : Nat) (N01 : Nat) (N02 : Nat) (N03 : Nat) (N10 : Nat) (N11 : Nat) (N20 : Nat) (k : Int) (ep : Int) (n : Int) (m : Int) (p : Int) (sb : Int) (hz : Int) (v : Value) (l : List EntT) (w : World) (hR : Blk w R 115 #[.func (.func 118) #[] #[pt N00 0, pt N01 0, pt N02 0, pt N03 0], .func (.func 119) #[] #[pt N10 0, pt N11 0], .func (.func 120) #[] #[pt N20 0]]) (hN00 : Blk w N00 3 #[.int .i64 ep]) (hN01 : Blk w N01 3 #[.int .i64 n]) (hN02 : Blk w N02 3 #[.int .i64 m]) (hN03 : Blk w N03 3 #[.int .i64 p]) (hN10 : Blk w N10 3 #[.int .i64 sb]) (hN11 : Blk w N11 29 #[.int .u64 hz]) (hN20 : Blk w N20 69 #[v]) (hs : SliceOf entE 4 w v l) (hok : ∀ z ∈ l, EntOk w z) (hl20 : ∀ z ∈ l, z.opl.length ≤ 100) :
    Calls Try.prog 68 #[.int .i64 k, .slice (some ⟨R, 0, none⟩) 3 3] w fun e w' => ∃ (L2 : List EntT) (u : Value), e = .returned (.agg #[.int .i64 k, .int .i64 (mxI ep 0), .int .i64 (mxI sb 0), .int .i64 0, .bool false, .int .u64 hz, .int .u64 0, .int .i64 (mxI n 0), .int .i64 (mxI m 0), .int .i64 (mxI p 0), .int .i64 0, .string (⟨#[]⟩), .string (⟨#[]⟩), .int .i64 0, .slice none 0 0, .int .u64 0, .int .i64 0, .int .i64 0, .slice none 0 0, u, .slice none 0 0, .slice none 0 0]) ∧ w'.ownsRow w.heap.size 38 4 u L2.length (L2.flatMap entE) ∧ EntsH (fun _ => False) w.heap.size w' L2 ∧ L2.map e0 = (l.take (mnI (l.length : Int) 4).toNat).map e0 ∧ Below w.heap.size w w' := by
 have hB0 := Below.refl w.heap.size w
 have hl_hR := hR.lt
 have hl_hN00 := hN00.lt
 have hl_hN01 := hN01.lt
 have hl_hN02 := hN02.lt
 have hl_hN03 := hN03.lt
 have hl_hN10 := hN10.lt
 have hl_hN11 := hN11.lt
 have hl_hN20 := hN20.lt
 have hl_hs := sl_len hs
 refine co_enter (n := 20) Try.func68 rfl rfl rfl [(0, .int .i64 k), (1, .slice (some ⟨R, 0, none⟩) 3 3)] rfl (fun a h0 => ?_)
 refine co_seq ?_
 refine co_reg ?_
 refine pw h0 rfl (op_new (v := fun N => pt N 0) (T := 74) (cs := #[.int .i64 0, .int .i64 0, .int .i64 0, .int .i64 0, .bool false, .int .u64 0, .int .u64 0, .int .i64 0, .int .i64 0, .int .i64 0, .int .i64 0, .string (⟨#[]⟩), .string (⟨#[]⟩), .int .i64 0, .slice none 0 0, .int .u64 0, .int .i64 0, .int .i64 0, .slice none 0 0, .slice none 0 0, .slice none 0 0, .slice none 0 0]) (by kernel_rfl) (by kernel_rfl) (by kernel_rfl)) ?_; clear h0
 rintro _ w2 a1 ⟨N3, rfl, hN6, hz7, hk5, hg4⟩ h1
 have hz8 := hg4.size
 try dsimp only at h1
 refine pl_nil ?_
 refine co_then ?_
 refine co_seq ?_
 refine co_reg ?_
 refine pk0 (v := .int .i64 k) h1 rfl fun a9 h9 => ?_; clear h1
 refine pk0 (v := .agg #[.int .i64 k, .int .i64 0, .int .i64 0, .int .i64 0, .bool false, .int .u64 0, .int .u64 0, .int .i64 0, .int .i64 0, .int .i64 0, .int .i64 0, .string (⟨#[]⟩), .string (⟨#[]⟩), .int .i64 0, .slice none 0 0, .int .u64 0, .int .i64 0, .int .i64 0, .slice none 0 0, .slice none 0 0, .slice none 0 0, .slice none 0 0]) h9 rfl fun a10 h10 => ?_; clear h9
 refine pw h10 rfl (op_new (v := fun N => pt N 0) (T := 74) (cs := #[.int .i64 0, .int .i64 0, .int .i64 0, .int .i64 0, .bool false, .int .u64 0, .int .u64 0, .int .i64 0, .int .i64 0, .int .i64 0, .int .i64 0, .string (⟨#[]⟩), .string (⟨#[]⟩), .int .i64 0, .slice none 0 0, .int .u64 0, .int .i64 0, .int .i64 0, .slice none 0 0, .slice none 0 0, .slice none 0 0, .slice none 0 0]) (by kernel_rfl) (by kernel_rfl) (by kernel_rfl)) ?_; clear h10
 rintro _ w12 a11 ⟨N13, rfl, hN16, hz17, hk15, hg14⟩ h11
 have hz18 := hg14.size
 try dsimp only at h11
 refine pwD h11 rfl (op_storeN rfl rfl rfl (all_cons rfl (all_cons rfl (all_cons rfl (all_cons rfl (all_cons rfl (all_cons rfl (all_cons rfl (all_cons rfl (all_cons rfl (all_cons rfl (all_cons rfl (all_cons rfl (all_cons rfl (all_cons rfl (all_cons rfl (all_cons rfl (all_cons rfl (all_cons rfl (all_cons rfl (all_cons rfl (all_cons rfl (all_cons rfl all_nil)))))))))))))))))))))) (by kernel_rfl) hk15 rfl) ?_; clear h11
 rintro _ w20 a19 ⟨hk21, hz22, hg23⟩ h19
 have hk21' : Blk w20 N13 74 #[.int .i64 k, .int .i64 0, .int .i64 0, .int .i64 0, .bool false, .int .u64 0, .int .u64 0, .int .i64 0, .int .i64 0, .int .i64 0, .int .i64 0, .string (⟨#[]⟩), .string (⟨#[]⟩), .int .i64 0, .slice none 0 0, .int .u64 0, .int .i64 0, .int .i64 0, .slice none 0 0, .slice none 0 0, .slice none 0 0, .slice none 0 0] := hk21; clear hk21
 have hz24 := hg23.size
 refine pl_nil ?_
 refine co_then ?_
 refine co_seq ?_
 refine co_seq ?_
 refine co_reg ?_
 refine pk0 (v := .slice (some ⟨R, 0, none⟩) 3 3) h19 rfl fun a25 h25 => ?_; clear h19
 refine pk0 (v := .int .i64 3) h25 rfl fun a26 h26 => ?_; clear h25
 refine pk0 (v := .int .i64 0) h26 rfl fun a27 h27 => ?_; clear h26
 refine pl_nil ?_
 refine co_then ?_
 refine wp_block ?_
 refine wp_loop_rounds 4 ?_
 refine co_unroll (n := 3) ?_
 refine co_seq ?_
 refine co_reg ?_
 refine pk0 (v := .bool (decide (0 < 3))) h27 rfl fun a28 h28 => ?_; clear h27
 refine pl_nil ?_
 refine co_then ?_
 refine co_seq ?_
 have hc29 : (decide (0 < 3)) = true := decide_eq_true (by omega)
 rw [hc29] at h28; clear hc29
 refine co_true h28 rfl ?_
 refine wp_skip ?_
 refine co_then ?_
 refine co_seq ?_
 refine wp_block ?_
 refine co_seq ?_
 refine co_reg ?_
 refine pk0 (v := pt R 0) h28 rfl fun a30 h30 => ?_; clear h28
 have hk31 := hR.kept hg4 (by simp)
 have hk32 := hk31.kept hg14 (by simp)
 have hk33 := hk32.kept hg23 (by simp; omega)
 refine pk (v := .func (.func 118) #[] #[pt N00 0, pt N01 0, pt N02 0, pt N03 0]) h30 rfl (rn_load1 rfl rfl Try.isAgg115 (hk33.cell rfl)) fun a34 h34 => ?_; clear h30
 refine pk0 (v := .func (.func 118) #[] #[pt N00 0, pt N01 0, pt N02 0, pt N03 0]) h34 rfl fun a35 h35 => ?_; clear h34
 refine pl_nil ?_
 refine co_then ?_
 refine co_reg ?_
 refine pk0 (v := .func (.func 118) #[] #[pt N00 0, pt N01 0, pt N02 0, pt N03 0]) h35 rfl fun a36 h36 => ?_; clear h35
 have hk39 := hN00.kept hg4 (by simp)
 have hk40 := hk39.kept hg14 (by simp)
 have hk41 := hk40.kept hg23 (by simp; omega)
 have hk42 := hN01.kept hg4 (by simp)
 have hk43 := hk42.kept hg14 (by simp)
 have hk44 := hk43.kept hg23 (by simp; omega)
 have hk45 := hN02.kept hg4 (by simp)
 have hk46 := hk45.kept hg14 (by simp)
 have hk47 := hk46.kept hg23 (by simp; omega)
 have hk48 := hN03.kept hg4 (by simp)
 have hk49 := hk48.kept hg14 (by simp)
 have hk50 := hk49.kept hg23 (by simp; omega)
 refine pw h36 rfl (op_callV (args := #[pt N13 0, pt N00 0, pt N01 0, pt N02 0, pt N03 0]) (R := fun res xw => res = .tuple #[] ∧ Blk xw N13 74 #[.int .i64 k, .int .i64 (mxI ep 0), .int .i64 0, .int .i64 0, .bool false, .int .u64 0, .int .u64 0, .int .i64 (mxI n 0), .int .i64 (mxI m 0), .int .i64 (mxI p 0), .int .i64 0, .string (⟨#[]⟩), .string (⟨#[]⟩), .int .i64 0, .slice none 0 0, .int .u64 0, .int .i64 0, .int .i64 0, .slice none 0 0, .slice none 0 0, .slice none 0 0, .slice none 0 0] ∧ But (fun q => q = N13) w20 xw) rfl rfl rfl (by kernel_rfl) (by kernel_rfl) (Try.call118 _ _) (numbersR_any N13 N00 N01 N02 N03 k ep n m p w20 hk21' hk41 hk44 hk47 hk50 (by omega)) (by rintro e x ⟨rfl, hq51, hb52⟩; exact ⟨_, rfl, ⟨rfl, hq51, hb52⟩⟩)) ?_; clear h36
 rintro _ w38 a37 ⟨rfl, hq51, hb52⟩ h37
 have hz53 := hb52.size
 have hl54 := hq51.lt
 refine pl_nil ?_
 refine co_blockN ?_
 refine co_then ?_
 refine co_reg ?_
 refine pk0 (v := .int .i64 1) h37 rfl fun a55 h55 => ?_; clear h37
 refine pk0 (v := .int .i64 1) h55 rfl fun a56 h56 => ?_; clear h55
 refine pl_nil ?_
 refine co_then ?_
 refine co_unroll (n := 2) ?_
 refine co_seq ?_
 refine co_reg ?_
 refine pk0 (v := .bool (decide (1 < 3))) h56 rfl fun a57 h57 => ?_; clear h56
 refine pl_nil ?_
 refine co_then ?_
 refine co_seq ?_
 have hc58 : (decide (1 < 3)) = true := decide_eq_true (by omega)
 rw [hc58] at h57; clear hc58
 refine co_true h57 rfl ?_
 refine wp_skip ?_
 refine co_then ?_
 refine co_seq ?_
 refine wp_block ?_
 refine co_seq ?_
 refine co_reg ?_
 refine pk0 (v := pt R 1) h57 rfl fun a59 h59 => ?_; clear h57
 have hk60 := hk33.but hb52 (by first | omega | (simp; omega))
 refine pk (v := .func (.func 119) #[] #[pt N10 0, pt N11 0]) h59 rfl (rn_load1 rfl rfl Try.isAgg115 (hk60.cell rfl)) fun a61 h61 => ?_; clear h59
 refine pk0 (v := .func (.func 119) #[] #[pt N10 0, pt N11 0]) h61 rfl fun a62 h62 => ?_; clear h61
 refine pl_nil ?_
 refine co_then ?_
 refine co_reg ?_
 refine pk0 (v := .func (.func 119) #[] #[pt N10 0, pt N11 0]) h62 rfl fun a63 h63 => ?_; clear h62
 have hk66 := hN10.kept hg4 (by simp)
 have hk67 := hk66.kept hg14 (by simp)
 have hk68 := hk67.kept hg23 (by simp; omega)
 have hk69 := hk68.but hb52 (by first | omega | (simp; omega))
 have hk70 := hN11.kept hg4 (by simp)
 have hk71 := hk70.kept hg14 (by simp)
 have hk72 := hk71.kept hg23 (by simp; omega)
 have hk73 := hk72.but hb52 (by first | omega | (simp; omega))
 refine pw h63 rfl (op_callV (args := #[pt N13 0, pt N10 0, pt N11 0]) (R := fun res xw => res = .tuple #[] ∧ Blk xw N13 74 #[.int .i64 k, .int .i64 (mxI ep 0), .int .i64 (mxI sb 0), .int .i64 0, .bool false, .int .u64 hz, .int .u64 0, .int .i64 (mxI n 0), .int .i64 (mxI m 0), .int .i64 (mxI p 0), .int .i64 0, .string (⟨#[]⟩), .string (⟨#[]⟩), .int .i64 0, .slice none 0 0, .int .u64 0, .int .i64 0, .int .i64 0, .slice none 0 0, .slice none 0 0, .slice none 0 0, .slice none 0 0] ∧ But (fun q => q = N13) w38 xw) rfl rfl rfl (by kernel_rfl) (by kernel_rfl) (Try.call119 _ _) (standR_any N13 N10 N11 k _ _ _ _ sb hz w38 hq51 hk69 hk73 (by omega)) (by rintro e x ⟨rfl, hq74, hb75⟩; exact ⟨_, rfl, ⟨rfl, hq74, hb75⟩⟩)) ?_; clear h63
 rintro _ w65 a64 ⟨rfl, hq74, hb75⟩ h64
 have hz76 := hb75.size
 have hl77 := hq74.lt
 refine pl_nil ?_
 refine co_blockN ?_
 refine co_then ?_
 refine co_reg ?_
 refine pk0 (v := .int .i64 2) h64 rfl fun a78 h78 => ?_; clear h64
 refine pk0 (v := .int .i64 2) h78 rfl fun a79 h79 => ?_; clear h78
 refine pl_nil ?_
 refine co_then ?_
 refine co_unroll (n := 1) ?_
 refine co_seq ?_
 refine co_reg ?_
 refine pk0 (v := .bool (decide (2 < 3))) h79 rfl fun a80 h80 => ?_; clear h79
 refine pl_nil ?_
 refine co_then ?_
 refine co_seq ?_
 have hc81 : (decide (2 < 3)) = true := decide_eq_true (by omega)
 rw [hc81] at h80; clear hc81
 refine co_true h80 rfl ?_
 refine wp_skip ?_
 refine co_then ?_
 refine co_seq ?_
 refine wp_block ?_
 refine co_seq ?_
 refine co_reg ?_
 refine pk0 (v := pt R 2) h80 rfl fun a82 h82 => ?_; clear h80
 have hk83 := hk60.but hb75 (by first | omega | (simp; omega))
 refine pk (v := .func (.func 120) #[] #[pt N20 0]) h82 rfl (rn_load1 rfl rfl Try.isAgg115 (hk83.cell rfl)) fun a84 h84 => ?_; clear h82
 refine pk0 (v := .func (.func 120) #[] #[pt N20 0]) h84 rfl fun a85 h85 => ?_; clear h84
 refine pl_nil ?_
 refine co_then ?_
 refine co_reg ?_
 refine pk0 (v := .func (.func 120) #[] #[pt N20 0]) h85 rfl fun a86 h86 => ?_; clear h85
 have hB89 := hb_new hB0 hg4
 have hB90 := hb_new hB89 hg14
 have hB91 := hb_at hB90 hg23 (by omega)
 have hB92 := hb_foot hB91 hb52 (fun i hlt hS => by (try simp at hS); first | omega | (simp; omega) | simp_all)
 have hB93 := hb_foot hB92 hb75 (fun i hlt hS => by (try simp at hS); first | omega | (simp; omega) | simp_all)
 have hk94 := hN20.kept hg4 (by simp)
 have hk95 := hk94.kept hg14 (by simp)
 have hk96 := hk95.kept hg23 (by simp; omega)
 have hk97 := hk96.but hb52 (by first | omega | (simp; omega))
 have hk98 := hk97.but hb75 (by first | omega | (simp; omega))
 refine pw h86 rfl (op_callV (args := #[pt N13 0, pt N20 0]) (R := fun res xw => ∃ L2 : List EntT, ∃ u : Value, res = .tuple #[] ∧ xw.ownsRow w65.heap.size 38 4 u L2.length (L2.flatMap entE) ∧ EntsH (fun _ => False) w65.heap.size xw L2 ∧ L2.map e0 = (l.take (mnI (l.length : Int) 4).toNat).map e0 ∧ Blk xw N13 74 #[.int .i64 k, .int .i64 (mxI ep 0), .int .i64 (mxI sb 0), .int .i64 0, .bool false, .int .u64 hz, .int .u64 0, .int .i64 (mxI n 0), .int .i64 (mxI m 0), .int .i64 (mxI p 0), .int .i64 0, .string (⟨#[]⟩), .string (⟨#[]⟩), .int .i64 0, .slice none 0 0, .int .u64 0, .int .i64 0, .int .i64 0, .slice none 0 0, u, .slice none 0 0, .slice none 0 0] ∧ But (fun q => q = N13) w65 xw) rfl rfl rfl (by kernel_rfl) (by kernel_rfl) (Try.call120 _ _) (entriesR_any N13 N20 k _ _ _ _ _ hz v l w65 hq74 hk98 (by omega) (hs.below hB93) (fun z hz => (hok z hz).below hB93) (by first | omega | (simp; done) | (simp; omega))) (by rintro e x ⟨L2, u, rfl, hq101, hq102, hq103, hq104, hb105⟩; exact ⟨_, rfl, ⟨L2, u, rfl, hq101, hq102, hq103, hq104, hb105⟩⟩)) ?_; clear h86
 rintro _ w88 a87 ⟨L299, u100, rfl, hq101, hq102, hq103, hq104, hb105⟩ h87
 have hz106 := hb105.size
 have hl107 := sl_len (row_sl hq101 entE_len)
 have hl108 := hq104.lt
 refine pl_nil ?_
 refine co_blockN ?_
 refine co_then ?_
 refine co_reg ?_
 refine pk0 (v := .int .i64 3) h87 rfl fun a109 h109 => ?_; clear h87
 refine pk0 (v := .int .i64 3) h109 rfl fun a110 h110 => ?_; clear h109
 refine pl_nil ?_
 refine co_then ?_
 refine co_unroll (n := 0) ?_
 refine co_seq ?_
 refine co_reg ?_
 refine pk0 (v := .bool (decide (3 < 3))) h110 rfl fun a111 h111 => ?_; clear h110
 refine pl_nil ?_
 refine co_then ?_
 refine co_seq ?_
 have hc112 : (decide (3 < 3)) = false := decide_eq_false (by omega)
 rw [hc112] at h111; clear hc112
 refine co_false h111 rfl ?_
 refine wp_exit ?_
 refine co_thenX ?_
 refine co_thenX ?_
 refine co_blockX ?_
 refine co_then ?_
 refine co_seq ?_
 refine co_reg ?_
 refine pk (v := .agg #[.int .i64 k, .int .i64 (mxI ep 0), .int .i64 (mxI sb 0), .int .i64 0, .bool false, .int .u64 hz, .int .u64 0, .int .i64 (mxI n 0), .int .i64 (mxI m 0), .int .i64 (mxI p 0), .int .i64 0, .string (⟨#[]⟩), .string (⟨#[]⟩), .int .i64 0, .slice none 0 0, .int .u64 0, .int .i64 0, .int .i64 0, .slice none 0 0, u100, .slice none 0 0, .slice none 0 0]) h111 rfl (rn_loadN rfl rfl Try.underlying74 rfl (by kernel_rfl) hq104.all) fun a113 h113 => ?_; clear h111
 have hk119 := hk5.kept hg14 (by simp)
 have hk120 := hk119.kept hg23 (by simp; omega)
 have hk121 := hk120.but hb52 (by first | omega | (simp; omega))
 have hk122 := hk121.but hb75 (by first | omega | (simp; omega))
 have hk123 := hk122.but hb105 (by first | omega | (simp; omega))
 refine pwD h113 rfl (op_storeN rfl rfl rfl (all_cons rfl (all_cons rfl (all_cons rfl (all_cons rfl (all_cons rfl (all_cons rfl (all_cons rfl (all_cons rfl (all_cons rfl (all_cons rfl (all_cons rfl (all_cons rfl (all_cons rfl (all_cons rfl (all_cons rfl (all_cons rfl (all_cons rfl (all_cons rfl (all_cons rfl (all_cons (row_one hq101) (all_cons rfl (all_cons rfl all_nil)))))))))))))))))))))) (by kernel_rfl) hk123 rfl) ?_; clear h113
 rintro _ w115 a114 ⟨hk116, hz117, hg118⟩ h114
 have hk116' : Blk w115 N3 74 #[.int .i64 k, .int .i64 (mxI ep 0), .int .i64 (mxI sb 0), .int .i64 0, .bool false, .int .u64 hz, .int .u64 0, .int .i64 (mxI n 0), .int .i64 (mxI m 0), .int .i64 (mxI p 0), .int .i64 0, .string (⟨#[]⟩), .string (⟨#[]⟩), .int .i64 0, .slice none 0 0, .int .u64 0, .int .i64 0, .int .i64 0, .slice none 0 0, u100, .slice none 0 0, .slice none 0 0] := hk116; clear hk116
 have hz124 := hg118.size
 refine pl_nil ?_
 refine co_then ?_
 refine wp_ret ?_
 refine co_retC (Q := fun _ _ _ => True) h114 rfl rfl hk116' Try.underlying74 rfl (by kernel_rfl) ?_
 have hr125 := row_kept_at hq101 hg118 (own_neT hq101 hk123 (by decide))
 have hE126 := hq102.blk hk123 (by decide) hg118
 have hB127 := hb_foot hB93 hb105 (fun i hlt hS => by (try simp at hS); first | omega | (simp; omega) | simp_all)
 have hB128 := hb_at hB127 hg118 (by omega)
 exact ⟨_, _, rfl, (row_lows hr125 (by omega)), (entsH_low hE126 (by omega)), hq103, hB128⟩
set_option maxRecDepth 100000 in
theorem message2_any (R : Nat) (N00 : Nat) (N01 : Nat) (N02 : Nat) (N03 : Nat) (N10 : Nat) (k : Int) (ep : Int) (n : Int) (m : Int) (p : Int) (v : Value) (l : List EntT) (w : World) (hR : Blk w R 115 #[.func (.func 118) #[] #[pt N00 0, pt N01 0, pt N02 0, pt N03 0], .func (.func 122) #[] #[pt N10 0]]) (hN00 : Blk w N00 3 #[.int .i64 ep]) (hN01 : Blk w N01 3 #[.int .i64 n]) (hN02 : Blk w N02 3 #[.int .i64 m]) (hN03 : Blk w N03 3 #[.int .i64 p]) (hN10 : Blk w N10 69 #[v]) (hs : SliceOf entE 4 w v l) (hok : ∀ z ∈ l, EntOk w z) :
    Calls Try.prog 68 #[.int .i64 k, .slice (some ⟨R, 0, none⟩) 2 2] w fun e w' => ∃ (u : Value), e = .returned (.agg #[.int .i64 k, .int .i64 (mxI ep 0), .int .i64 0, .int .i64 0, .bool false, .int .u64 0, .int .u64 0, .int .i64 (mxI n 0), .int .i64 (mxI m 0), .int .i64 (mxI p 0), .int .i64 0, .string (⟨#[]⟩), .string (⟨#[]⟩), .int .i64 0, .slice none 0 0, .int .u64 0, .int .i64 0, .int .i64 0, .slice none 0 0, .slice none 0 0, u, .slice none 0 0]) ∧ w'.ownsRow w.heap.size 29 1 u (tsL (l.take (mnI ((stN l : Nat) : Int) 8).toNat)).length ((tsL (l.take (mnI ((stN l : Nat) : Int) 8).toNat)).flatMap (intE .u64)) ∧ Below w.heap.size w w' := by
 have hB0 := Below.refl w.heap.size w
 have hl_hR := hR.lt
 have hl_hN00 := hN00.lt
 have hl_hN01 := hN01.lt
 have hl_hN02 := hN02.lt
 have hl_hN03 := hN03.lt
 have hl_hN10 := hN10.lt
 have hl_hs := sl_len hs
 refine co_enter (n := 20) Try.func68 rfl rfl rfl [(0, .int .i64 k), (1, .slice (some ⟨R, 0, none⟩) 2 2)] rfl (fun a h0 => ?_)
 refine co_seq ?_
 refine co_reg ?_
 refine pw h0 rfl (op_new (v := fun N => pt N 0) (T := 74) (cs := #[.int .i64 0, .int .i64 0, .int .i64 0, .int .i64 0, .bool false, .int .u64 0, .int .u64 0, .int .i64 0, .int .i64 0, .int .i64 0, .int .i64 0, .string (⟨#[]⟩), .string (⟨#[]⟩), .int .i64 0, .slice none 0 0, .int .u64 0, .int .i64 0, .int .i64 0, .slice none 0 0, .slice none 0 0, .slice none 0 0, .slice none 0 0]) (by kernel_rfl) (by kernel_rfl) (by kernel_rfl)) ?_; clear h0
 rintro _ w2 a1 ⟨N3, rfl, hN6, hz7, hk5, hg4⟩ h1
 have hz8 := hg4.size
 try dsimp only at h1
 refine pl_nil ?_
 refine co_then ?_
 refine co_seq ?_
 refine co_reg ?_
 refine pk0 (v := .int .i64 k) h1 rfl fun a9 h9 => ?_; clear h1
 refine pk0 (v := .agg #[.int .i64 k, .int .i64 0, .int .i64 0, .int .i64 0, .bool false, .int .u64 0, .int .u64 0, .int .i64 0, .int .i64 0, .int .i64 0, .int .i64 0, .string (⟨#[]⟩), .string (⟨#[]⟩), .int .i64 0, .slice none 0 0, .int .u64 0, .int .i64 0, .int .i64 0, .slice none 0 0, .slice none 0 0, .slice none 0 0, .slice none 0 0]) h9 rfl fun a10 h10 => ?_; clear h9
 refine pw h10 rfl (op_new (v := fun N => pt N 0) (T := 74) (cs := #[.int .i64 0, .int .i64 0, .int .i64 0, .int .i64 0, .bool false, .int .u64 0, .int .u64 0, .int .i64 0, .int .i64 0, .int .i64 0, .int .i64 0, .string (⟨#[]⟩), .string (⟨#[]⟩), .int .i64 0, .slice none 0 0, .int .u64 0, .int .i64 0, .int .i64 0, .slice none 0 0, .slice none 0 0, .slice none 0 0, .slice none 0 0]) (by kernel_rfl) (by kernel_rfl) (by kernel_rfl)) ?_; clear h10
 rintro _ w12 a11 ⟨N13, rfl, hN16, hz17, hk15, hg14⟩ h11
 have hz18 := hg14.size
 try dsimp only at h11
 refine pwD h11 rfl (op_storeN rfl rfl rfl (all_cons rfl (all_cons rfl (all_cons rfl (all_cons rfl (all_cons rfl (all_cons rfl (all_cons rfl (all_cons rfl (all_cons rfl (all_cons rfl (all_cons rfl (all_cons rfl (all_cons rfl (all_cons rfl (all_cons rfl (all_cons rfl (all_cons rfl (all_cons rfl (all_cons rfl (all_cons rfl (all_cons rfl (all_cons rfl all_nil)))))))))))))))))))))) (by kernel_rfl) hk15 rfl) ?_; clear h11
 rintro _ w20 a19 ⟨hk21, hz22, hg23⟩ h19
 have hk21' : Blk w20 N13 74 #[.int .i64 k, .int .i64 0, .int .i64 0, .int .i64 0, .bool false, .int .u64 0, .int .u64 0, .int .i64 0, .int .i64 0, .int .i64 0, .int .i64 0, .string (⟨#[]⟩), .string (⟨#[]⟩), .int .i64 0, .slice none 0 0, .int .u64 0, .int .i64 0, .int .i64 0, .slice none 0 0, .slice none 0 0, .slice none 0 0, .slice none 0 0] := hk21; clear hk21
 have hz24 := hg23.size
 refine pl_nil ?_
 refine co_then ?_
 refine co_seq ?_
 refine co_seq ?_
 refine co_reg ?_
 refine pk0 (v := .slice (some ⟨R, 0, none⟩) 2 2) h19 rfl fun a25 h25 => ?_; clear h19
 refine pk0 (v := .int .i64 2) h25 rfl fun a26 h26 => ?_; clear h25
 refine pk0 (v := .int .i64 0) h26 rfl fun a27 h27 => ?_; clear h26
 refine pl_nil ?_
 refine co_then ?_
 refine wp_block ?_
 refine wp_loop_rounds 3 ?_
 refine co_unroll (n := 2) ?_
 refine co_seq ?_
 refine co_reg ?_
 refine pk0 (v := .bool (decide (0 < 2))) h27 rfl fun a28 h28 => ?_; clear h27
 refine pl_nil ?_
 refine co_then ?_
 refine co_seq ?_
 have hc29 : (decide (0 < 2)) = true := decide_eq_true (by omega)
 rw [hc29] at h28; clear hc29
 refine co_true h28 rfl ?_
 refine wp_skip ?_
 refine co_then ?_
 refine co_seq ?_
 refine wp_block ?_
 refine co_seq ?_
 refine co_reg ?_
 refine pk0 (v := pt R 0) h28 rfl fun a30 h30 => ?_; clear h28
 have hk31 := hR.kept hg4 (by simp)
 have hk32 := hk31.kept hg14 (by simp)
 have hk33 := hk32.kept hg23 (by simp; omega)
 refine pk (v := .func (.func 118) #[] #[pt N00 0, pt N01 0, pt N02 0, pt N03 0]) h30 rfl (rn_load1 rfl rfl Try.isAgg115 (hk33.cell rfl)) fun a34 h34 => ?_; clear h30
 refine pk0 (v := .func (.func 118) #[] #[pt N00 0, pt N01 0, pt N02 0, pt N03 0]) h34 rfl fun a35 h35 => ?_; clear h34
 refine pl_nil ?_
 refine co_then ?_
 refine co_reg ?_
 refine pk0 (v := .func (.func 118) #[] #[pt N00 0, pt N01 0, pt N02 0, pt N03 0]) h35 rfl fun a36 h36 => ?_; clear h35
 have hk39 := hN00.kept hg4 (by simp)
 have hk40 := hk39.kept hg14 (by simp)
 have hk41 := hk40.kept hg23 (by simp; omega)
 have hk42 := hN01.kept hg4 (by simp)
 have hk43 := hk42.kept hg14 (by simp)
 have hk44 := hk43.kept hg23 (by simp; omega)
 have hk45 := hN02.kept hg4 (by simp)
 have hk46 := hk45.kept hg14 (by simp)
 have hk47 := hk46.kept hg23 (by simp; omega)
 have hk48 := hN03.kept hg4 (by simp)
 have hk49 := hk48.kept hg14 (by simp)
 have hk50 := hk49.kept hg23 (by simp; omega)
 refine pw h36 rfl (op_callV (args := #[pt N13 0, pt N00 0, pt N01 0, pt N02 0, pt N03 0]) (R := fun res xw => res = .tuple #[] ∧ Blk xw N13 74 #[.int .i64 k, .int .i64 (mxI ep 0), .int .i64 0, .int .i64 0, .bool false, .int .u64 0, .int .u64 0, .int .i64 (mxI n 0), .int .i64 (mxI m 0), .int .i64 (mxI p 0), .int .i64 0, .string (⟨#[]⟩), .string (⟨#[]⟩), .int .i64 0, .slice none 0 0, .int .u64 0, .int .i64 0, .int .i64 0, .slice none 0 0, .slice none 0 0, .slice none 0 0, .slice none 0 0] ∧ But (fun q => q = N13) w20 xw) rfl rfl rfl (by kernel_rfl) (by kernel_rfl) (Try.call118 _ _) (numbersR_any N13 N00 N01 N02 N03 k ep n m p w20 hk21' hk41 hk44 hk47 hk50 (by omega)) (by rintro e x ⟨rfl, hq51, hb52⟩; exact ⟨_, rfl, ⟨rfl, hq51, hb52⟩⟩)) ?_; clear h36
 rintro _ w38 a37 ⟨rfl, hq51, hb52⟩ h37
 have hz53 := hb52.size
 have hl54 := hq51.lt
 refine pl_nil ?_
 refine co_blockN ?_
 refine co_then ?_
 refine co_reg ?_
 refine pk0 (v := .int .i64 1) h37 rfl fun a55 h55 => ?_; clear h37
 refine pk0 (v := .int .i64 1) h55 rfl fun a56 h56 => ?_; clear h55
 refine pl_nil ?_
 refine co_then ?_
 refine co_unroll (n := 1) ?_
 refine co_seq ?_
 refine co_reg ?_
 refine pk0 (v := .bool (decide (1 < 2))) h56 rfl fun a57 h57 => ?_; clear h56
 refine pl_nil ?_
 refine co_then ?_
 refine co_seq ?_
 have hc58 : (decide (1 < 2)) = true := decide_eq_true (by omega)
 rw [hc58] at h57; clear hc58
 refine co_true h57 rfl ?_
 refine wp_skip ?_
 refine co_then ?_
 refine co_seq ?_
 refine wp_block ?_
 refine co_seq ?_
 refine co_reg ?_
 refine pk0 (v := pt R 1) h57 rfl fun a59 h59 => ?_; clear h57
 have hk60 := hk33.but hb52 (by first | omega | (simp; omega))
 refine pk (v := .func (.func 122) #[] #[pt N10 0]) h59 rfl (rn_load1 rfl rfl Try.isAgg115 (hk60.cell rfl)) fun a61 h61 => ?_; clear h59
 refine pk0 (v := .func (.func 122) #[] #[pt N10 0]) h61 rfl fun a62 h62 => ?_; clear h61
 refine pl_nil ?_
 refine co_then ?_
 refine co_reg ?_
 refine pk0 (v := .func (.func 122) #[] #[pt N10 0]) h62 rfl fun a63 h63 => ?_; clear h62
 have hB66 := hb_new hB0 hg4
 have hB67 := hb_new hB66 hg14
 have hB68 := hb_at hB67 hg23 (by omega)
 have hB69 := hb_foot hB68 hb52 (fun i hlt hS => by (try simp at hS); first | omega | (simp; omega) | simp_all)
 have hk70 := hN10.kept hg4 (by simp)
 have hk71 := hk70.kept hg14 (by simp)
 have hk72 := hk71.kept hg23 (by simp; omega)
 have hk73 := hk72.but hb52 (by first | omega | (simp; omega))
 refine pw h63 rfl (op_callV (args := #[pt N13 0, pt N10 0]) (R := fun res xw => ∃ u : Value, res = .tuple #[] ∧ xw.ownsRow w38.heap.size 29 1 u (tsL (l.take (mnI ((stN l : Nat) : Int) 8).toNat)).length ((tsL (l.take (mnI ((stN l : Nat) : Int) 8).toNat)).flatMap (intE .u64)) ∧ Blk xw N13 74 #[.int .i64 k, .int .i64 (mxI ep 0), .int .i64 0, .int .i64 0, .bool false, .int .u64 0, .int .u64 0, .int .i64 (mxI n 0), .int .i64 (mxI m 0), .int .i64 (mxI p 0), .int .i64 0, .string (⟨#[]⟩), .string (⟨#[]⟩), .int .i64 0, .slice none 0 0, .int .u64 0, .int .i64 0, .int .i64 0, .slice none 0 0, .slice none 0 0, u, .slice none 0 0] ∧ But (fun q => q = N13) w38 xw) rfl rfl rfl (by kernel_rfl) (by kernel_rfl) (Try.call122 _ _) (stampsR_any N13 N10 k _ _ _ _ v l w38 hq51 hk73 (by omega) (hs.below hB69) (fun z hz => (hok z hz).below hB69) (fun hn k hk => by have := sl_ltS hs (fun y _ => entE_neB y) hn hk; omega) (fun z hz hn k hk => by have := sl_ltS (hok z hz).ops (fun y _ => opE_neB y) hn hk; omega)) (by rintro e x ⟨u, rfl, hq75, hq76, hb77⟩; exact ⟨_, rfl, ⟨u, rfl, hq75, hq76, hb77⟩⟩)) ?_; clear h63
 rintro _ w65 a64 ⟨u74, rfl, hq75, hq76, hb77⟩ h64
 have hz78 := hb77.size
 have hl79 := sl_len (row_sl hq75 (intE_len .u64))
 have hl80 := hq76.lt
 refine pl_nil ?_
 refine co_blockN ?_
 refine co_then ?_
 refine co_reg ?_
 refine pk0 (v := .int .i64 2) h64 rfl fun a81 h81 => ?_; clear h64
 refine pk0 (v := .int .i64 2) h81 rfl fun a82 h82 => ?_; clear h81
 refine pl_nil ?_
 refine co_then ?_
 refine co_unroll (n := 0) ?_
 refine co_seq ?_
 refine co_reg ?_
 refine pk0 (v := .bool (decide (2 < 2))) h82 rfl fun a83 h83 => ?_; clear h82
 refine pl_nil ?_
 refine co_then ?_
 refine co_seq ?_
 have hc84 : (decide (2 < 2)) = false := decide_eq_false (by omega)
 rw [hc84] at h83; clear hc84
 refine co_false h83 rfl ?_
 refine wp_exit ?_
 refine co_thenX ?_
 refine co_thenX ?_
 refine co_blockX ?_
 refine co_then ?_
 refine co_seq ?_
 refine co_reg ?_
 refine pk (v := .agg #[.int .i64 k, .int .i64 (mxI ep 0), .int .i64 0, .int .i64 0, .bool false, .int .u64 0, .int .u64 0, .int .i64 (mxI n 0), .int .i64 (mxI m 0), .int .i64 (mxI p 0), .int .i64 0, .string (⟨#[]⟩), .string (⟨#[]⟩), .int .i64 0, .slice none 0 0, .int .u64 0, .int .i64 0, .int .i64 0, .slice none 0 0, .slice none 0 0, u74, .slice none 0 0]) h83 rfl (rn_loadN rfl rfl Try.underlying74 rfl (by kernel_rfl) hq76.all) fun a85 h85 => ?_; clear h83
 have hk91 := hk5.kept hg14 (by simp)
 have hk92 := hk91.kept hg23 (by simp; omega)
 have hk93 := hk92.but hb52 (by first | omega | (simp; omega))
 have hk94 := hk93.but hb77 (by first | omega | (simp; omega))
 refine pwD h85 rfl (op_storeN rfl rfl rfl (all_cons rfl (all_cons rfl (all_cons rfl (all_cons rfl (all_cons rfl (all_cons rfl (all_cons rfl (all_cons rfl (all_cons rfl (all_cons rfl (all_cons rfl (all_cons rfl (all_cons rfl (all_cons rfl (all_cons rfl (all_cons rfl (all_cons rfl (all_cons rfl (all_cons rfl (all_cons rfl (all_cons (row_one hq75) (all_cons rfl all_nil)))))))))))))))))))))) (by kernel_rfl) hk94 rfl) ?_; clear h85
 rintro _ w87 a86 ⟨hk88, hz89, hg90⟩ h86
 have hk88' : Blk w87 N3 74 #[.int .i64 k, .int .i64 (mxI ep 0), .int .i64 0, .int .i64 0, .bool false, .int .u64 0, .int .u64 0, .int .i64 (mxI n 0), .int .i64 (mxI m 0), .int .i64 (mxI p 0), .int .i64 0, .string (⟨#[]⟩), .string (⟨#[]⟩), .int .i64 0, .slice none 0 0, .int .u64 0, .int .i64 0, .int .i64 0, .slice none 0 0, .slice none 0 0, u74, .slice none 0 0] := hk88; clear hk88
 have hz95 := hg90.size
 refine pl_nil ?_
 refine co_then ?_
 refine wp_ret ?_
 refine co_retC (Q := fun _ _ _ => True) h86 rfl rfl hk88' Try.underlying74 rfl (by kernel_rfl) ?_
 have hr96 := row_kept_at hq75 hg90 (own_neT hq75 hk94 (by decide))
 have hB97 := hb_foot hB69 hb77 (fun i hlt hS => by (try simp at hS); first | omega | (simp; omega) | simp_all)
 have hB98 := hb_at hB97 hg90 (by omega)
 exact ⟨_, rfl, (row_lows hr96 (by omega)), hB98⟩
end Go.Proofs.Ytlbemlodcdgakaa
