/- Put together: AskDPgz, FootPgz, AskEPgz, AskFPgz, KeyTPgz, OvAPgz, AskIPgz, GoPgz. Conditions: as each says. -/
import Derived.Test.YtaoibbakflacoaaPgy1
import Derived.BigQuiet
import Derived.Sort.KeysCollected
import Derived.Maps.OwnSet
import Derived.Sort.OwnSorted
import Derived.Shelf.Sort.Plain
/- Package asks: a scan takes a page; its task is asked. Conditions: a scan that is under way. -/
namespace Go.Proofs.Ytaoibbakflacoaa
open Go.RowKit Go.PlainAid
set_option linter.unusedVariables false
set_option linter.unusedSimpArgs false

set_option maxRecDepth 100000 in
theorem aTakeM_any (B : Nat) (d : RdD) (ov : Value) (pv : Value) (fg : Bool) (v2 : Value) (pl : List PrT) (w : World) (hB : Blk w B 77 #[.int .i64 d.c, .int .i64 d.rq, .int .i64 2, .int .i64 d.nd, .string d.k0, .string d.to_, .int .u64 d.at0, .int .i64 d.n, ov, .int .u64 d.tm, .string d.key, pv]) (hp : SliceOf prE 2 w pv d.prs) (hn : 0 ≤ d.n ∧ d.n ≤ 32) (hpn : d.prs.length < d.n.toNat) (hp2 : SliceOf prE 2 w v2 pl) (hpl : pl.length ≤ 60) (hok2 : ∀ z ∈ pl, (fun z : PrT => z.1.size ≤ 9223372036854775807) z) (hmo : moreF d fg pl = true) :
    Calls Try.prog 91 #[pt B 0, .int .i64 d.nd, .agg #[.int .i64 10, .int .i64 0, .int .i64 d.rq, .int .i64 0, .bool fg, .int .u64 d.tm, .int .u64 0, .int .i64 0, .int .i64 0, .int .i64 0, .int .i64 0, .string d.key, .string (⟨#[]⟩), .int .i64 0, .slice none 0 0, .int .u64 0, .int .i64 0, .int .i64 0, .slice none 0 0, .slice none 0 0, .slice none 0 0, v2]] w fun e w' => ∃ (nb : Nat) (u : Value), e = .returned (.agg #[.bool true, .bool false, .int .i64 0, .int .i64 0, .int .u64 0, .int .i64 0, .slice none 0 0, .iface 75 (pt nb 0)]) ∧ w'.ownsRow w.heap.size 57 2 u (d.prs ++ pl.take (pgN d pl)).length ((d.prs ++ pl.take (pgN d pl)).flatMap prE) ∧ Blk w' nb 77 #[.int .i64 d.c, .int .i64 d.rq, .int .i64 2, .int .i64 d.nd, .string d.k0, .string d.to_, .int .u64 d.at0, .int .i64 d.n, ov, .int .u64 d.tm, .string (nxK (lastK d pl)), u] ∧ w.heap.size ≤ nb ∧ Below w.heap.size w w' := by
 have hpm : (d.prs.length : Int) < d.n := by omega
 have hB0 := Below.refl w.heap.size w
 have hl_hB := hB.lt
 have hl_hp := sl_len hp
 have hl_hp2 := sl_len hp2
 refine co_enter (n := 59) Try.func91 rfl rfl rfl [(0, pt B 0), (1, .int .i64 d.nd), (2, .agg #[.int .i64 10, .int .i64 0, .int .i64 d.rq, .int .i64 0, .bool fg, .int .u64 d.tm, .int .u64 0, .int .i64 0, .int .i64 0, .int .i64 0, .int .i64 0, .string d.key, .string (⟨#[]⟩), .int .i64 0, .slice none 0 0, .int .u64 0, .int .i64 0, .int .i64 0, .slice none 0 0, .slice none 0 0, .slice none 0 0, v2])] rfl (fun a h0 => ?_)
 refine co_seq ?_
 refine co_reg ?_
 refine pw h0 rfl (op_new (v := fun N => pt N 0) (T := 46) (cs := #[.int .i64 10, .int .i64 0, .int .i64 d.rq, .int .i64 0, .bool fg, .int .u64 d.tm, .int .u64 0, .int .i64 0, .int .i64 0, .int .i64 0, .int .i64 0, .string d.key, .string (⟨#[]⟩), .int .i64 0, .slice none 0 0, .int .u64 0, .int .i64 0, .int .i64 0, .slice none 0 0, .slice none 0 0, .slice none 0 0, v2]) (by kernel_rfl) (by kernel_rfl) (by kernel_rfl)) ?_; clear h0
 rintro _ w2 a1 ⟨N3, rfl, hN6, hz7, hk5, hg4⟩ h1
 have hz8 := hg4.size
 try dsimp only at h1
 refine pw h1 rfl (op_new (v := fun N => pt N 0) (T := 83) (cs := #[.bool false, .bool false, .int .i64 0, .int .i64 0, .int .u64 0, .int .i64 0, .slice none 0 0, .nilIface]) (by kernel_rfl) (by kernel_rfl) (by kernel_rfl)) ?_; clear h1
 rintro _ w10 a9 ⟨N11, rfl, hN14, hz15, hk13, hg12⟩ h9
 have hz16 := hg12.size
 try dsimp only at h9
 refine pl_nil ?_
 refine co_then ?_
 refine co_seq ?_
 refine co_seq ?_
 refine co_reg ?_
 refine pk0 (v := .int .i64 d.nd) h9 rfl fun a17 h17 => ?_; clear h9
 refine pk0 (v := pt B 0) h17 rfl fun a18 h18 => ?_; clear h17
 refine pk0 (v := pt B 0) h18 rfl fun a19 h19 => ?_; clear h18
 refine pk0 (v := pt B 0) h19 rfl fun a20 h20 => ?_; clear h19
 refine pk0 (v := pt B 2) h20 rfl fun a21 h21 => ?_; clear h20
 refine pk0 (v := pt B 3) h21 rfl fun a22 h22 => ?_; clear h21
 have hk23 := hB.kept hg4 (by simp)
 have hk24 := hk23.kept hg12 (by simp)
 refine pk (v := .int .i64 d.nd) h22 rfl (rn_load1 rfl rfl Try.isAgg3 (hk24.cell rfl)) fun a25 h25 => ?_; clear h22
 refine pk0 (v := .bool (d.nd != d.nd)) h25 rfl fun a26 h26 => ?_; clear h25
 refine pl_nil ?_
 refine co_then ?_
 have hc27 : (d.nd != d.nd) = false := by first | (simp; done) | (simp; omega) | exact beq_false_of_ne (by omega) | exact beq_iff_eq.2 (by omega)
 rw [hc27] at h26; clear hc27
 refine co_false h26 rfl ?_
 refine wp_skip ?_
 refine co_then ?_
 refine co_seq ?_
 refine co_seq ?_
 refine co_reg ?_
 refine pk0 (v := pt N3 0) h26 rfl fun a28 h28 => ?_; clear h26
 have hk29 := hk5.kept hg12 (by simp)
 refine pk (v := .int .i64 10) h28 rfl (rn_load1 rfl rfl Try.isAgg3 (hk29.cell rfl)) fun a30 h30 => ?_; clear h28
 refine pl_nil ?_
 refine co_then ?_
 refine wp_block ?_
 refine co_seq ?_
 refine co_reg ?_
 refine pk0 (v := .bool ((10 : Int) == 7)) h30 rfl fun a31 h31 => ?_; clear h30
 refine pk0 (v := .bool ((10 : Int) == 7)) h31 rfl fun a32 h32 => ?_; clear h31
 refine pl_nil ?_
 refine co_then ?_
 have hc33 : ((10 : Int) == 7) = false := by first | (simp; done) | (simp; omega) | exact beq_false_of_ne (by omega) | exact beq_iff_eq.2 (by omega)
 rw [hc33] at h32; clear hc33
 refine co_false h32 rfl ?_
 refine co_seq ?_
 refine co_reg ?_
 refine pk0 (v := .bool ((10 : Int) == 10)) h32 rfl fun a34 h34 => ?_; clear h32
 refine pk0 (v := .bool ((10 : Int) == 10)) h34 rfl fun a35 h35 => ?_; clear h34
 refine pl_nil ?_
 refine co_then ?_
 have hc36 : ((10 : Int) == 10) = true := by first | (simp; done) | (simp; omega) | exact beq_false_of_ne (by omega) | exact beq_iff_eq.2 (by omega)
 rw [hc36] at h35; clear hc36
 refine co_true h35 rfl ?_
 refine co_seq ?_
 refine co_seq ?_
 refine dr_eq (by kernel_rfl) (fun w37 hg38 => ?_)
 have hz39 := hg38.size
 refine dk0 0 (v := pt N3 5) h35 rfl rfl rfl fun a40 h40 => ?_; clear h35
 have hk41 := hk29.kept hg38 (by simp)
 refine dk 1 (v := .int .u64 d.tm) h40 rfl rfl rfl (fun x hx => by subst hx; exact (rn_load1 rfl rfl Try.isAgg22 (hk41.cell rfl))) fun a42 h42 => ?_; clear h40
 refine dk0 2 (v := pt B 0) h42 rfl rfl rfl fun a43 h43 => ?_; clear h42
 refine dk0 3 (v := pt B 0) h43 rfl rfl rfl fun a44 h44 => ?_; clear h43
 refine dk0 4 (v := pt B 9) h44 rfl rfl rfl fun a45 h45 => ?_; clear h44
 have hk46 := hk24.kept hg38 (by simp)
 refine dk 5 (v := .int .u64 d.tm) h45 rfl rfl rfl (fun x hx => by subst hx; exact (rn_load1 rfl rfl Try.isAgg22 (hk46.cell rfl))) fun a47 h47 => ?_; clear h45
 refine dk0 6 (v := .bool (d.tm != d.tm)) h47 rfl rfl rfl fun a48 h48 => ?_; clear h47
 refine dk0 7 (v := .bool (d.tm != d.tm)) h48 rfl rfl rfl fun a49 h49 => ?_; clear h48
 have hc50 : (d.tm != d.tm) = false := by first | (simp; done) | (simp; omega) | exact beq_false_of_ne (by omega) | exact beq_iff_eq.2 (by omega)
 rw [hc50] at h49; clear hc50
 refine dk0 8 (v := pt N3 11) h49 rfl rfl rfl fun a51 h51 => ?_; clear h49
 refine dk 9 (v := .string d.key) h51 rfl rfl rfl (fun x hx => by subst hx; exact (rn_load1 rfl rfl Try.isAgg9 (hk41.cell rfl))) fun a52 h52 => ?_; clear h51
 refine dk0 10 (v := pt B 0) h52 rfl rfl rfl fun a53 h53 => ?_; clear h52
 refine dk0 11 (v := pt B 0) h53 rfl rfl rfl fun a54 h54 => ?_; clear h53
 refine dk0 12 (v := pt B 10) h54 rfl rfl rfl fun a55 h55 => ?_; clear h54
 refine dk 13 (v := .string d.key) h55 rfl rfl rfl (fun x hx => by subst hx; exact (rn_load1 rfl rfl Try.isAgg9 (hk46.cell rfl))) fun a56 h56 => ?_; clear h55
 refine dk0 14 (v := .bool (!(d.key.toList == d.key.toList))) h56 rfl rfl rfl fun a57 h57 => ?_; clear h56
 refine dk0 15 (v := .bool (!(d.key.toList == d.key.toList))) h57 rfl rfl rfl fun a58 h58 => ?_; clear h57
 refine dr_done (by kernel_rfl) ?_
 refine co_then ?_
 have hc59 : (!(d.key.toList == d.key.toList)) = false := by first | (simp; done) | (simp; omega) | exact beq_false_of_ne (by omega) | exact beq_iff_eq.2 (by omega)
 rw [hc59] at h58; clear hc59
 refine co_false h58 rfl ?_
 refine wp_skip ?_
 refine co_then ?_
 refine co_seq ?_
 refine co_reg ?_
 refine pk0 (v := pt B 0) h58 rfl fun a60 h60 => ?_; clear h58
 refine pk (v := .agg #[.int .i64 10, .int .i64 0, .int .i64 d.rq, .int .i64 0, .bool fg, .int .u64 d.tm, .int .u64 0, .int .i64 0, .int .i64 0, .int .i64 0, .int .i64 0, .string d.key, .string (⟨#[]⟩), .int .i64 0, .slice none 0 0, .int .u64 0, .int .i64 0, .int .i64 0, .slice none 0 0, .slice none 0 0, .slice none 0 0, v2]) h60 rfl (rn_loadN rfl rfl Try.underlying46 rfl (by kernel_rfl) hk41.all) fun a61 h61 => ?_; clear h60
 have hB64 := hb_new hB0 hg4
 have hB65 := hb_new hB64 hg12
 have hB66 := hb_new hB65 hg38
 refine pw h61 rfl (op_call (args := #[pt B 0, .agg #[.int .i64 10, .int .i64 0, .int .i64 d.rq, .int .i64 0, .bool fg, .int .u64 d.tm, .int .u64 0, .int .i64 0, .int .i64 0, .int .i64 0, .int .i64 0, .string d.key, .string (⟨#[]⟩), .int .i64 0, .slice none 0 0, .int .u64 0, .int .i64 0, .int .i64 0, .slice none 0 0, .slice none 0 0, .slice none 0 0, v2]]) (R := fun res xw => ∃ nb : Nat, ∃ u : Value, res = .agg #[.bool true, .bool false, .int .i64 0, .int .i64 0, .int .u64 0, .int .i64 0, .slice none 0 0, .iface 75 (pt nb 0)] ∧ xw.ownsRow w37.heap.size 57 2 u (d.prs ++ pl.take (pgN d pl)).length ((d.prs ++ pl.take (pgN d pl)).flatMap prE) ∧ Blk xw nb 77 #[.int .i64 d.c, .int .i64 d.rq, .int .i64 2, .int .i64 d.nd, .string d.k0, .string d.to_, .int .u64 d.at0, .int .i64 d.n, ov, .int .u64 d.tm, .string (nxK (lastK d pl)), u] ∧ w37.heap.size ≤ nb ∧ Below w37.heap.size w37 xw) rfl rfl rfl (by kernel_rfl) (by kernel_rfl) (Try.call92 _ _) (aRowsM_any B d ov pv fg v2 pl w37 hk46 (hp.below hB66) (by first | omega | decide | (dsimp only; omega)) (by first | omega | decide | (dsimp only; omega)) (hp2.below hB66) (by first | omega | decide | (dsimp only; omega)) hok2 (by first | omega | (simp; done) | (simp; omega))) (by rintro e x ⟨nb, u, rfl, hq69, hq70, hq71, hb72⟩; exact ⟨_, rfl, ⟨nb, u, rfl, hq69, hq70, hq71, hb72⟩⟩)) ?_; clear h61
 rintro _ w63 a62 ⟨nb67, u68, rfl, hq69, hq70, hq71, hb72⟩ h62
 have hz73 := hb72.size
 have hl74 := sl_len (row_sl hq69 prE_len)
 have hl75 := hq70.lt
 have hk81 := hk13.kept hg38 (by simp)
 have hk82 := hk81.below hb72
 refine pwD h62 rfl (op_storeN rfl rfl rfl (all_cons rfl (all_cons rfl (all_cons rfl (all_cons rfl (all_cons rfl (all_cons rfl (all_cons rfl (all_cons rfl all_nil)))))))) (by kernel_rfl) hk82 rfl) ?_; clear h62
 rintro _ w77 a76 ⟨hk78, hz79, hg80⟩ h76
 have hk78' : Blk w77 N11 83 #[.bool true, .bool false, .int .i64 0, .int .i64 0, .int .u64 0, .int .i64 0, .slice none 0 0, .iface 75 (pt nb67 0)] := hk78; clear hk78
 have hz83 := hg80.size
 refine pl_nil ?_
 refine co_then ?_
 refine wp_ret ?_
 refine co_blockR ?_
 refine co_thenR ?_
 refine co_retC (Q := fun _ _ _ => True) h76 rfl rfl hk78' Try.underlying83 rfl (by kernel_rfl) ?_
 have hr84 := row_kept_at hq69 hg80 (own_neT hq69 hk82 (by decide))
 have hk85 := hq70.kept hg80 (by simp; omega)
 have hB86 := hb_call hB66 hb72
 have hB87 := hb_at hB86 hg80 (by omega)
 exact ⟨nb67, u68, rfl, (row_lows hr84 (by omega)), hk85, by omega, hB87⟩
set_option maxRecDepth 100000 in
theorem aTakeD_any (B : Nat) (d : RdD) (ov : Value) (pv : Value) (fg : Bool) (v2 : Value) (pl : List PrT) (w : World) (hB : Blk w B 77 #[.int .i64 d.c, .int .i64 d.rq, .int .i64 2, .int .i64 d.nd, .string d.k0, .string d.to_, .int .u64 d.at0, .int .i64 d.n, ov, .int .u64 d.tm, .string d.key, pv]) (hp : SliceOf prE 2 w pv d.prs) (hn : 0 ≤ d.n ∧ d.n ≤ 32) (hpn : d.prs.length < d.n.toNat) (hp2 : SliceOf prE 2 w v2 pl) (hpl : pl.length ≤ 60) (hok2 : ∀ z ∈ pl, (fun z : PrT => z.1.size ≤ 9223372036854775807) z) (hmo : moreF d fg pl = false) :
    Calls Try.prog 91 #[pt B 0, .int .i64 d.nd, .agg #[.int .i64 10, .int .i64 0, .int .i64 d.rq, .int .i64 0, .bool fg, .int .u64 d.tm, .int .u64 0, .int .i64 0, .int .i64 0, .int .i64 0, .int .i64 0, .string d.key, .string (⟨#[]⟩), .int .i64 0, .slice none 0 0, .int .u64 0, .int .i64 0, .int .i64 0, .slice none 0 0, .slice none 0 0, .slice none 0 0, v2]] w fun e w' => ∃ (u : Value), e = .returned (.agg #[.bool false, .bool true, .int .i64 0, .int .i64 0, .int .u64 d.tm, .int .i64 0, u, .nilIface]) ∧ w'.ownsRow w.heap.size 57 2 u (d.prs ++ pl.take (pgN d pl)).length ((d.prs ++ pl.take (pgN d pl)).flatMap prE) ∧ Below w.heap.size w w' := by
 have hpm : (d.prs.length : Int) < d.n := by omega
 have hB0 := Below.refl w.heap.size w
 have hl_hB := hB.lt
 have hl_hp := sl_len hp
 have hl_hp2 := sl_len hp2
 refine co_enter (n := 59) Try.func91 rfl rfl rfl [(0, pt B 0), (1, .int .i64 d.nd), (2, .agg #[.int .i64 10, .int .i64 0, .int .i64 d.rq, .int .i64 0, .bool fg, .int .u64 d.tm, .int .u64 0, .int .i64 0, .int .i64 0, .int .i64 0, .int .i64 0, .string d.key, .string (⟨#[]⟩), .int .i64 0, .slice none 0 0, .int .u64 0, .int .i64 0, .int .i64 0, .slice none 0 0, .slice none 0 0, .slice none 0 0, v2])] rfl (fun a h0 => ?_)
 refine co_seq ?_
 refine co_reg ?_
 refine pw h0 rfl (op_new (v := fun N => pt N 0) (T := 46) (cs := #[.int .i64 10, .int .i64 0, .int .i64 d.rq, .int .i64 0, .bool fg, .int .u64 d.tm, .int .u64 0, .int .i64 0, .int .i64 0, .int .i64 0, .int .i64 0, .string d.key, .string (⟨#[]⟩), .int .i64 0, .slice none 0 0, .int .u64 0, .int .i64 0, .int .i64 0, .slice none 0 0, .slice none 0 0, .slice none 0 0, v2]) (by kernel_rfl) (by kernel_rfl) (by kernel_rfl)) ?_; clear h0
 rintro _ w2 a1 ⟨N3, rfl, hN6, hz7, hk5, hg4⟩ h1
 have hz8 := hg4.size
 try dsimp only at h1
 refine pw h1 rfl (op_new (v := fun N => pt N 0) (T := 83) (cs := #[.bool false, .bool false, .int .i64 0, .int .i64 0, .int .u64 0, .int .i64 0, .slice none 0 0, .nilIface]) (by kernel_rfl) (by kernel_rfl) (by kernel_rfl)) ?_; clear h1
 rintro _ w10 a9 ⟨N11, rfl, hN14, hz15, hk13, hg12⟩ h9
 have hz16 := hg12.size
 try dsimp only at h9
 refine pl_nil ?_
 refine co_then ?_
 refine co_seq ?_
 refine co_seq ?_
 refine co_reg ?_
 refine pk0 (v := .int .i64 d.nd) h9 rfl fun a17 h17 => ?_; clear h9
 refine pk0 (v := pt B 0) h17 rfl fun a18 h18 => ?_; clear h17
 refine pk0 (v := pt B 0) h18 rfl fun a19 h19 => ?_; clear h18
 refine pk0 (v := pt B 0) h19 rfl fun a20 h20 => ?_; clear h19
 refine pk0 (v := pt B 2) h20 rfl fun a21 h21 => ?_; clear h20
 refine pk0 (v := pt B 3) h21 rfl fun a22 h22 => ?_; clear h21
 have hk23 := hB.kept hg4 (by simp)
 have hk24 := hk23.kept hg12 (by simp)
 refine pk (v := .int .i64 d.nd) h22 rfl (rn_load1 rfl rfl Try.isAgg3 (hk24.cell rfl)) fun a25 h25 => ?_; clear h22
 refine pk0 (v := .bool (d.nd != d.nd)) h25 rfl fun a26 h26 => ?_; clear h25
 refine pl_nil ?_
 refine co_then ?_
 have hc27 : (d.nd != d.nd) = false := by first | (simp; done) | (simp; omega) | exact beq_false_of_ne (by omega) | exact beq_iff_eq.2 (by omega)
 rw [hc27] at h26; clear hc27
 refine co_false h26 rfl ?_
 refine wp_skip ?_
 refine co_then ?_
 refine co_seq ?_
 refine co_seq ?_
 refine co_reg ?_
 refine pk0 (v := pt N3 0) h26 rfl fun a28 h28 => ?_; clear h26
 have hk29 := hk5.kept hg12 (by simp)
 refine pk (v := .int .i64 10) h28 rfl (rn_load1 rfl rfl Try.isAgg3 (hk29.cell rfl)) fun a30 h30 => ?_; clear h28
 refine pl_nil ?_
 refine co_then ?_
 refine wp_block ?_
 refine co_seq ?_
 refine co_reg ?_
 refine pk0 (v := .bool ((10 : Int) == 7)) h30 rfl fun a31 h31 => ?_; clear h30
 refine pk0 (v := .bool ((10 : Int) == 7)) h31 rfl fun a32 h32 => ?_; clear h31
 refine pl_nil ?_
 refine co_then ?_
 have hc33 : ((10 : Int) == 7) = false := by first | (simp; done) | (simp; omega) | exact beq_false_of_ne (by omega) | exact beq_iff_eq.2 (by omega)
 rw [hc33] at h32; clear hc33
 refine co_false h32 rfl ?_
 refine co_seq ?_
 refine co_reg ?_
 refine pk0 (v := .bool ((10 : Int) == 10)) h32 rfl fun a34 h34 => ?_; clear h32
 refine pk0 (v := .bool ((10 : Int) == 10)) h34 rfl fun a35 h35 => ?_; clear h34
 refine pl_nil ?_
 refine co_then ?_
 have hc36 : ((10 : Int) == 10) = true := by first | (simp; done) | (simp; omega) | exact beq_false_of_ne (by omega) | exact beq_iff_eq.2 (by omega)
 rw [hc36] at h35; clear hc36
 refine co_true h35 rfl ?_
 refine co_seq ?_
 refine co_seq ?_
 refine dr_eq (by kernel_rfl) (fun w37 hg38 => ?_)
 have hz39 := hg38.size
 refine dk0 0 (v := pt N3 5) h35 rfl rfl rfl fun a40 h40 => ?_; clear h35
 have hk41 := hk29.kept hg38 (by simp)
 refine dk 1 (v := .int .u64 d.tm) h40 rfl rfl rfl (fun x hx => by subst hx; exact (rn_load1 rfl rfl Try.isAgg22 (hk41.cell rfl))) fun a42 h42 => ?_; clear h40
 refine dk0 2 (v := pt B 0) h42 rfl rfl rfl fun a43 h43 => ?_; clear h42
 refine dk0 3 (v := pt B 0) h43 rfl rfl rfl fun a44 h44 => ?_; clear h43
 refine dk0 4 (v := pt B 9) h44 rfl rfl rfl fun a45 h45 => ?_; clear h44
 have hk46 := hk24.kept hg38 (by simp)
 refine dk 5 (v := .int .u64 d.tm) h45 rfl rfl rfl (fun x hx => by subst hx; exact (rn_load1 rfl rfl Try.isAgg22 (hk46.cell rfl))) fun a47 h47 => ?_; clear h45
 refine dk0 6 (v := .bool (d.tm != d.tm)) h47 rfl rfl rfl fun a48 h48 => ?_; clear h47
 refine dk0 7 (v := .bool (d.tm != d.tm)) h48 rfl rfl rfl fun a49 h49 => ?_; clear h48
 have hc50 : (d.tm != d.tm) = false := by first | (simp; done) | (simp; omega) | exact beq_false_of_ne (by omega) | exact beq_iff_eq.2 (by omega)
 rw [hc50] at h49; clear hc50
 refine dk0 8 (v := pt N3 11) h49 rfl rfl rfl fun a51 h51 => ?_; clear h49
 refine dk 9 (v := .string d.key) h51 rfl rfl rfl (fun x hx => by subst hx; exact (rn_load1 rfl rfl Try.isAgg9 (hk41.cell rfl))) fun a52 h52 => ?_; clear h51
 refine dk0 10 (v := pt B 0) h52 rfl rfl rfl fun a53 h53 => ?_; clear h52
 refine dk0 11 (v := pt B 0) h53 rfl rfl rfl fun a54 h54 => ?_; clear h53
 refine dk0 12 (v := pt B 10) h54 rfl rfl rfl fun a55 h55 => ?_; clear h54
 refine dk 13 (v := .string d.key) h55 rfl rfl rfl (fun x hx => by subst hx; exact (rn_load1 rfl rfl Try.isAgg9 (hk46.cell rfl))) fun a56 h56 => ?_; clear h55
 refine dk0 14 (v := .bool (!(d.key.toList == d.key.toList))) h56 rfl rfl rfl fun a57 h57 => ?_; clear h56
 refine dk0 15 (v := .bool (!(d.key.toList == d.key.toList))) h57 rfl rfl rfl fun a58 h58 => ?_; clear h57
 refine dr_done (by kernel_rfl) ?_
 refine co_then ?_
 have hc59 : (!(d.key.toList == d.key.toList)) = false := by first | (simp; done) | (simp; omega) | exact beq_false_of_ne (by omega) | exact beq_iff_eq.2 (by omega)
 rw [hc59] at h58; clear hc59
 refine co_false h58 rfl ?_
 refine wp_skip ?_
 refine co_then ?_
 refine co_seq ?_
 refine co_reg ?_
 refine pk0 (v := pt B 0) h58 rfl fun a60 h60 => ?_; clear h58
 refine pk (v := .agg #[.int .i64 10, .int .i64 0, .int .i64 d.rq, .int .i64 0, .bool fg, .int .u64 d.tm, .int .u64 0, .int .i64 0, .int .i64 0, .int .i64 0, .int .i64 0, .string d.key, .string (⟨#[]⟩), .int .i64 0, .slice none 0 0, .int .u64 0, .int .i64 0, .int .i64 0, .slice none 0 0, .slice none 0 0, .slice none 0 0, v2]) h60 rfl (rn_loadN rfl rfl Try.underlying46 rfl (by kernel_rfl) hk41.all) fun a61 h61 => ?_; clear h60
 have hB64 := hb_new hB0 hg4
 have hB65 := hb_new hB64 hg12
 have hB66 := hb_new hB65 hg38
 refine pw h61 rfl (op_call (args := #[pt B 0, .agg #[.int .i64 10, .int .i64 0, .int .i64 d.rq, .int .i64 0, .bool fg, .int .u64 d.tm, .int .u64 0, .int .i64 0, .int .i64 0, .int .i64 0, .int .i64 0, .string d.key, .string (⟨#[]⟩), .int .i64 0, .slice none 0 0, .int .u64 0, .int .i64 0, .int .i64 0, .slice none 0 0, .slice none 0 0, .slice none 0 0, v2]]) (R := fun res xw => ∃ u : Value, res = .agg #[.bool false, .bool true, .int .i64 0, .int .i64 0, .int .u64 d.tm, .int .i64 0, u, .nilIface] ∧ xw.ownsRow w37.heap.size 57 2 u (d.prs ++ pl.take (pgN d pl)).length ((d.prs ++ pl.take (pgN d pl)).flatMap prE) ∧ Below w37.heap.size w37 xw) rfl rfl rfl (by kernel_rfl) (by kernel_rfl) (Try.call92 _ _) (aRowsD_any B d ov pv fg v2 pl w37 hk46 (hp.below hB66) (by first | omega | decide | (dsimp only; omega)) (by first | omega | decide | (dsimp only; omega)) (hp2.below hB66) (by first | omega | decide | (dsimp only; omega)) hok2 (by first | omega | (simp; done) | (simp; omega))) (by rintro e x ⟨u, rfl, hq68, hb69⟩; exact ⟨_, rfl, ⟨u, rfl, hq68, hb69⟩⟩)) ?_; clear h61
 rintro _ w63 a62 ⟨u67, rfl, hq68, hb69⟩ h62
 have hz70 := hb69.size
 have hl71 := sl_len (row_sl hq68 prE_len)
 have hk77 := hk13.kept hg38 (by simp)
 have hk78 := hk77.below hb69
 refine pwD h62 rfl (op_storeN rfl rfl rfl (all_cons rfl (all_cons rfl (all_cons rfl (all_cons rfl (all_cons rfl (all_cons rfl (all_cons (row_one hq68) (all_cons rfl all_nil)))))))) (by kernel_rfl) hk78 rfl) ?_; clear h62
 rintro _ w73 a72 ⟨hk74, hz75, hg76⟩ h72
 have hk74' : Blk w73 N11 83 #[.bool false, .bool true, .int .i64 0, .int .i64 0, .int .u64 d.tm, .int .i64 0, u67, .nilIface] := hk74; clear hk74
 have hz79 := hg76.size
 refine pl_nil ?_
 refine co_then ?_
 refine wp_ret ?_
 refine co_blockR ?_
 refine co_thenR ?_
 refine co_retC (Q := fun _ _ _ => True) h72 rfl rfl hk74' Try.underlying83 rfl (by kernel_rfl) ?_
 have hr80 := row_kept_at hq68 hg76 (own_neT hq68 hk78 (by decide))
 have hB81 := hb_call hB66 hb69
 have hB82 := hb_at hB81 hg76 (by omega)
 exact ⟨u67, rfl, (row_lows hr80 (by omega)), hB82⟩
set_option maxRecDepth 100000 in
theorem aZeroL_any (tk : Nat) (B : Nat) (d : RdD) (ov : Value) (pv : Value) (wt : Int) (w : World) (hT : Blk w tk 67 #[.iface 75 (pt B 0), .int .i64 d.rq, .int .i64 wt, .bool false, .int .i64 0, .int .i64 0, .int .u64 0, .int .i64 0, .slice none 0 0]) (hB : Blk w B 77 #[.int .i64 d.c, .int .i64 d.rq, .int .i64 2, .int .i64 d.nd, .string d.k0, .string d.to_, .int .u64 d.at0, .int .i64 d.n, ov, .int .u64 d.tm, .string d.key, pv]) (hp : SliceOf prE 2 w pv d.prs) (hn : 0 ≤ d.n ∧ d.n ≤ 32) (hpn : d.prs.length < d.n.toNat) :
    Calls Try.prog 22 #[pt tk 0] w fun e w' => e = .returned (.bool false) ∧ Below w.heap.size w w' := by
 have hB0 := Below.refl w.heap.size w
 have hl_hT := hT.lt
 have hl_hB := hB.lt
 have hl_hp := sl_len hp
 refine co_enter (n := 12) Try.func22 rfl rfl rfl [(0, pt tk 0)] rfl (fun a h0 => ?_)
 refine co_seq ?_
 refine co_reg ?_
 refine pk0 (v := .bool false) h0 rfl fun a1 h1 => ?_; clear h0
 refine pl_nil ?_
 refine co_then ?_
 refine co_seq ?_
 refine co_reg ?_
 refine pk0 (v := pt tk 0) h1 rfl fun a2 h2 => ?_; clear h1
 refine pk0 (v := .bool false) h2 rfl fun a3 h3 => ?_; clear h2
 refine pk0 (v := .bool false) h3 rfl fun a4 h4 => ?_; clear h3
 refine pk0 (v := pt tk 0) h4 rfl fun a5 h5 => ?_; clear h4
 refine pk0 (v := pt tk 0) h5 rfl fun a6 h6 => ?_; clear h5
 refine pk0 (v := pt tk 0) h6 rfl fun a7 h7 => ?_; clear h6
 refine pk (v := .iface 75 (pt B 0)) h7 rfl (rn_load1 rfl rfl Try.isAgg65 (hT.cell rfl)) fun a8 h8 => ?_; clear h7
 refine pk0 (v := .bool false) h8 rfl fun a9 h9 => ?_; clear h8
 refine pk0 (v := .bool false) h9 rfl fun a10 h10 => ?_; clear h9
 refine pk0 (v := .bool false) h10 rfl fun a11 h11 => ?_; clear h10
 refine pl_nil ?_
 refine co_then ?_
 refine wp_ret ?_
 refine co_ret1 h11 rfl rfl ?_
 exact ⟨rfl, hB0⟩
set_option maxRecDepth 100000 in
theorem aZeroF_any (tk : Nat) (B : Nat) (rq : Int) (tm : Int) (prs : List PrT) (wt : Int) (u : Value) (w : World) (hT : Blk w tk 67 #[.iface 75 (pt B 0), .int .i64 rq, .int .i64 wt, .bool true, .int .i64 rq, .int .i64 0, .int .u64 tm, .int .i64 0, u]) (hu : SliceOf prE 2 w u prs) (hul : prs.length ≤ 64) :
    Calls Try.prog 22 #[pt tk 0] w fun e w' => e = .returned (.bool false) ∧ Below w.heap.size w w' := by
 have hB0 := Below.refl w.heap.size w
 have hl_hT := hT.lt
 have hl_hu := sl_len hu
 refine co_enter (n := 12) Try.func22 rfl rfl rfl [(0, pt tk 0)] rfl (fun a h0 => ?_)
 refine co_seq ?_
 refine co_reg ?_
 refine pk0 (v := .bool false) h0 rfl fun a1 h1 => ?_; clear h0
 refine pl_nil ?_
 refine co_then ?_
 refine co_seq ?_
 refine co_reg ?_
 refine pk0 (v := pt tk 0) h1 rfl fun a2 h2 => ?_; clear h1
 refine pk0 (v := .bool false) h2 rfl fun a3 h3 => ?_; clear h2
 refine pk0 (v := .bool false) h3 rfl fun a4 h4 => ?_; clear h3
 refine pk0 (v := pt tk 0) h4 rfl fun a5 h5 => ?_; clear h4
 refine pk0 (v := pt tk 0) h5 rfl fun a6 h6 => ?_; clear h5
 refine pk0 (v := pt tk 0) h6 rfl fun a7 h7 => ?_; clear h6
 refine pk (v := .iface 75 (pt B 0)) h7 rfl (rn_load1 rfl rfl Try.isAgg65 (hT.cell rfl)) fun a8 h8 => ?_; clear h7
 refine pk0 (v := .bool false) h8 rfl fun a9 h9 => ?_; clear h8
 refine pk0 (v := .bool false) h9 rfl fun a10 h10 => ?_; clear h9
 refine pk0 (v := .bool false) h10 rfl fun a11 h11 => ?_; clear h10
 refine pl_nil ?_
 refine co_then ?_
 refine wp_ret ?_
 refine co_ret1 h11 rfl rfl ?_
 exact ⟨rfl, hB0⟩
set_option maxRecDepth 100000 in
theorem aTNext_any (tk : Nat) (B : Nat) (d : RdD) (ov : Value) (pv : Value) (wt : Int) (ep : Int) (hd : Int) (w : World) (hT : Blk w tk 67 #[.iface 75 (pt B 0), .int .i64 d.rq, .int .i64 wt, .bool false, .int .i64 0, .int .i64 0, .int .u64 0, .int .i64 0, .slice none 0 0]) (hB : Blk w B 77 #[.int .i64 d.c, .int .i64 d.rq, .int .i64 2, .int .i64 d.nd, .string d.k0, .string d.to_, .int .u64 d.at0, .int .i64 d.n, ov, .int .u64 d.tm, .string d.key, pv]) (hp : SliceOf prE 2 w pv d.prs) (hn : 0 ≤ d.n ∧ d.n ≤ 32) (hpn : d.prs.length < d.n.toNat) :
    Calls Try.prog 13 #[pt tk 0, .int .i64 ep, .int .i64 hd] w fun e w' => e = .returned (.tuple #[.int .i64 d.nd, .agg #[.int .i64 9, .int .i64 0, .int .i64 d.rq, .int .i64 0, .bool false, .int .u64 d.tm, .int .u64 0, .int .i64 (mnI 2 (d.n - (d.prs.length : Int))), .int .i64 0, .int .i64 0, .int .i64 0, .string d.key, .string d.to_, .int .i64 0, .slice none 0 0, .int .u64 0, .int .i64 0, .int .i64 0, .slice none 0 0, .slice none 0 0, .slice none 0 0, .slice none 0 0]]) ∧ Below w.heap.size w w' := by
 have hpm : (d.prs.length : Int) < d.n := by omega
 have hB0 := Below.refl w.heap.size w
 have hl_hT := hT.lt
 have hl_hB := hB.lt
 have hl_hp := sl_len hp
 refine co_enter (n := 26) Try.func13 rfl rfl rfl [(0, pt tk 0), (1, .int .i64 ep), (2, .int .i64 hd)] rfl (fun a h0 => ?_)
 refine co_seq ?_
 refine co_reg ?_
 refine pk0 (v := .int .i64 0) h0 rfl fun a1 h1 => ?_; clear h0
 refine pw h1 rfl (op_new (v := fun N => pt N 0) (T := 46) (cs := #[.int .i64 0, .int .i64 0, .int .i64 0, .int .i64 0, .bool false, .int .u64 0, .int .u64 0, .int .i64 0, .int .i64 0, .int .i64 0, .int .i64 0, .string (⟨#[]⟩), .string (⟨#[]⟩), .int .i64 0, .slice none 0 0, .int .u64 0, .int .i64 0, .int .i64 0, .slice none 0 0, .slice none 0 0, .slice none 0 0, .slice none 0 0]) (by kernel_rfl) (by kernel_rfl) (by kernel_rfl)) ?_; clear h1
 rintro _ w3 a2 ⟨N4, rfl, hN7, hz8, hk6, hg5⟩ h2
 have hz9 := hg5.size
 try dsimp only at h2
 refine pl_nil ?_
 refine co_then ?_
 refine co_seq ?_
 refine co_seq ?_
 refine co_reg ?_
 refine pk0 (v := pt tk 0) h2 rfl fun a10 h10 => ?_; clear h2
 have hB13 := hb_new hB0 hg5
 have hk14 := hT.kept hg5 (by simp)
 have hk15 := hB.kept hg5 (by simp)
 refine pw h10 rfl (op_call (args := #[pt tk 0]) (R := fun res xw => res = .bool false ∧ Below w3.heap.size w3 xw) rfl rfl rfl (by kernel_rfl) (by kernel_rfl) (Try.call22 _ _) (aZeroL_any tk B d ov pv wt w3 hk14 hk15 (hp.below hB13) (by first | omega | decide | (dsimp only; omega)) (by first | omega | decide | (dsimp only; omega))) (by rintro e x ⟨rfl, hb16⟩; exact ⟨_, rfl, ⟨rfl, hb16⟩⟩)) ?_; clear h10
 rintro _ w12 a11 ⟨rfl, hb16⟩ h11
 have hz17 := hb16.size
 refine pk0 (v := .bool false) h11 rfl fun a18 h18 => ?_; clear h11
 refine pk0 (v := pt tk 0) h18 rfl fun a19 h19 => ?_; clear h18
 refine pk0 (v := pt tk 0) h19 rfl fun a20 h20 => ?_; clear h19
 refine pk0 (v := pt tk 3) h20 rfl fun a21 h21 => ?_; clear h20
 have hk22 := hk14.below hb16
 refine pk (v := .bool false) h21 rfl (rn_load1 rfl rfl Try.isAgg4 (hk22.cell rfl)) fun a23 h23 => ?_; clear h21
 refine pk0 (v := .bool false) h23 rfl fun a24 h24 => ?_; clear h23
 refine pl_nil ?_
 refine co_then ?_
 refine co_false h24 rfl ?_
 refine wp_skip ?_
 refine co_then ?_
 refine co_seq ?_
 refine co_reg ?_
 refine pk0 (v := pt tk 0) h24 rfl fun a25 h25 => ?_; clear h24
 refine pk0 (v := pt tk 0) h25 rfl fun a26 h26 => ?_; clear h25
 refine pk0 (v := pt tk 0) h26 rfl fun a27 h27 => ?_; clear h26
 refine pk (v := .iface 75 (pt B 0)) h27 rfl (rn_load1 rfl rfl Try.isAgg65 (hk22.cell rfl)) fun a28 h28 => ?_; clear h27
 refine pk0 (v := .int .i64 ep) h28 rfl fun a29 h29 => ?_; clear h28
 refine pk0 (v := .int .i64 hd) h29 rfl fun a30 h30 => ?_; clear h29
 have hB33 := hb_call hB13 hb16
 have hk34 := hk15.below hb16
 refine pw h30 rfl (op_callI (recv := pt B 0) (args := #[pt B 0, .int .i64 ep, .int .i64 hd]) (R := fun res xw => res = .tuple #[.int .i64 d.nd, .agg #[.int .i64 9, .int .i64 0, .int .i64 d.rq, .int .i64 0, .bool false, .int .u64 d.tm, .int .u64 0, .int .i64 (mnI 2 (d.n - (d.prs.length : Int))), .int .i64 0, .int .i64 0, .int .i64 0, .string d.key, .string d.to_, .int .i64 0, .slice none 0 0, .int .u64 0, .int .i64 0, .int .i64 0, .slice none 0 0, .slice none 0 0, .slice none 0 0, .slice none 0 0]] ∧ Below w12.heap.size w12 xw) rfl rfl rfl (by kernel_rfl) (by kernel_rfl) (by kernel_rfl) (Try.call89 _ _) (aNext_any B d ov pv ep hd w12 hk34 (hp.below hB33) (by first | omega | decide | (dsimp only; omega)) (by first | omega | decide | (dsimp only; omega))) (by rintro e x ⟨rfl, hb35⟩; exact ⟨_, rfl, ⟨rfl, hb35⟩⟩)) ?_; clear h30
 rintro _ w32 a31 ⟨rfl, hb35⟩ h31
 have hz36 := hb35.size
 refine pk0 (v := .int .i64 d.nd) h31 rfl fun a37 h37 => ?_; clear h31
 refine pk0 (v := .agg #[.int .i64 9, .int .i64 0, .int .i64 d.rq, .int .i64 0, .bool false, .int .u64 d.tm, .int .u64 0, .int .i64 (mnI 2 (d.n - (d.prs.length : Int))), .int .i64 0, .int .i64 0, .int .i64 0, .string d.key, .string d.to_, .int .i64 0, .slice none 0 0, .int .u64 0, .int .i64 0, .int .i64 0, .slice none 0 0, .slice none 0 0, .slice none 0 0, .slice none 0 0]) h37 rfl fun a38 h38 => ?_; clear h37
 refine pk0 (v := .int .i64 d.nd) h38 rfl fun a39 h39 => ?_; clear h38
 have hk45 := hk6.below hb16
 have hk46 := hk45.below hb35
 refine pwD h39 rfl (op_storeN rfl rfl rfl (all_cons rfl (all_cons rfl (all_cons rfl (all_cons rfl (all_cons rfl (all_cons rfl (all_cons rfl (all_cons rfl (all_cons rfl (all_cons rfl (all_cons rfl (all_cons rfl (all_cons rfl (all_cons rfl (all_cons rfl (all_cons rfl (all_cons rfl (all_cons rfl (all_cons rfl (all_cons rfl (all_cons rfl (all_cons rfl all_nil)))))))))))))))))))))) (by kernel_rfl) hk46 rfl) ?_; clear h39
 rintro _ w41 a40 ⟨hk42, hz43, hg44⟩ h40
 have hk42' : Blk w41 N4 46 #[.int .i64 9, .int .i64 0, .int .i64 d.rq, .int .i64 0, .bool false, .int .u64 d.tm, .int .u64 0, .int .i64 (mnI 2 (d.n - (d.prs.length : Int))), .int .i64 0, .int .i64 0, .int .i64 0, .string d.key, .string d.to_, .int .i64 0, .slice none 0 0, .int .u64 0, .int .i64 0, .int .i64 0, .slice none 0 0, .slice none 0 0, .slice none 0 0, .slice none 0 0] := hk42; clear hk42
 have hz47 := hg44.size
 refine pl_nil ?_
 refine co_then ?_
 refine wp_ret ?_
 refine co_retTC (Q := fun _ _ _ => True) h40 rfl rfl rfl hk42' Try.underlying46 rfl (by kernel_rfl) ?_
 have hB48 := hb_call hB33 hb35
 have hB49 := hb_at hB48 hg44 (by omega)
 exact ⟨rfl, hB49⟩
set_option maxRecDepth 100000 in
theorem aTDoneL_any (tk : Nat) (B : Nat) (d : RdD) (ov : Value) (pv : Value) (wt : Int) (w : World) (hT : Blk w tk 67 #[.iface 75 (pt B 0), .int .i64 d.rq, .int .i64 wt, .bool false, .int .i64 0, .int .i64 0, .int .u64 0, .int .i64 0, .slice none 0 0]) (hB : Blk w B 77 #[.int .i64 d.c, .int .i64 d.rq, .int .i64 2, .int .i64 d.nd, .string d.k0, .string d.to_, .int .u64 d.at0, .int .i64 d.n, ov, .int .u64 d.tm, .string d.key, pv]) (hp : SliceOf prE 2 w pv d.prs) (hn : 0 ≤ d.n ∧ d.n ≤ 32) (hpn : d.prs.length < d.n.toNat) :
    Calls Try.prog 9 #[pt tk 0] w fun e w' => e = .returned (.tuple #[.agg #[.int .i64 0, .int .i64 0, .int .u64 0, .int .i64 0, .slice none 0 0], .bool false]) ∧ Below w.heap.size w w' := by
 have hB0 := Below.refl w.heap.size w
 have hl_hT := hT.lt
 have hl_hB := hB.lt
 have hl_hp := sl_len hp
 refine co_enter (n := 19) Try.func9 rfl rfl rfl [(0, pt tk 0)] rfl (fun a h0 => ?_)
 refine co_seq ?_
 refine co_reg ?_
 refine pw h0 rfl (op_new (v := fun N => pt N 0) (T := 35) (cs := #[.int .i64 0, .int .i64 0, .int .u64 0, .int .i64 0, .slice none 0 0]) (by kernel_rfl) (by kernel_rfl) (by kernel_rfl)) ?_; clear h0
 rintro _ w2 a1 ⟨N3, rfl, hN6, hz7, hk5, hg4⟩ h1
 have hz8 := hg4.size
 try dsimp only at h1
 refine pk0 (v := .bool false) h1 rfl fun a9 h9 => ?_; clear h1
 refine pl_nil ?_
 refine co_then ?_
 refine co_seq ?_
 refine co_seq ?_
 refine co_reg ?_
 refine pk0 (v := pt tk 0) h9 rfl fun a10 h10 => ?_; clear h9
 have hB13 := hb_new hB0 hg4
 have hk14 := hT.kept hg4 (by simp)
 have hk15 := hB.kept hg4 (by simp)
 refine pw h10 rfl (op_call (args := #[pt tk 0]) (R := fun res xw => res = .bool false ∧ Below w2.heap.size w2 xw) rfl rfl rfl (by kernel_rfl) (by kernel_rfl) (Try.call22 _ _) (aZeroL_any tk B d ov pv wt w2 hk14 hk15 (hp.below hB13) (by first | omega | decide | (dsimp only; omega)) (by first | omega | decide | (dsimp only; omega))) (by rintro e x ⟨rfl, hb16⟩; exact ⟨_, rfl, ⟨rfl, hb16⟩⟩)) ?_; clear h10
 rintro _ w12 a11 ⟨rfl, hb16⟩ h11
 have hz17 := hb16.size
 refine pk0 (v := .bool false) h11 rfl fun a18 h18 => ?_; clear h11
 refine pk0 (v := pt tk 0) h18 rfl fun a19 h19 => ?_; clear h18
 refine pk0 (v := pt tk 0) h19 rfl fun a20 h20 => ?_; clear h19
 refine pk0 (v := pt tk 3) h20 rfl fun a21 h21 => ?_; clear h20
 have hk22 := hk14.below hb16
 refine pk (v := .bool false) h21 rfl (rn_load1 rfl rfl Try.isAgg4 (hk22.cell rfl)) fun a23 h23 => ?_; clear h21
 refine pk0 (v := .bool true) h23 rfl fun a24 h24 => ?_; clear h23
 refine pk0 (v := .bool true) h24 rfl fun a25 h25 => ?_; clear h24
 refine pl_nil ?_
 refine co_then ?_
 refine co_true h25 rfl ?_
 refine co_seq ?_
 refine co_reg ?_
 refine pk0 (v := .agg #[.int .i64 0, .int .i64 0, .int .u64 0, .int .i64 0, .slice none 0 0]) h25 rfl fun a26 h26 => ?_; clear h25
 have hk32 := hk5.below hb16
 refine pwD h26 rfl (op_storeN rfl rfl rfl (all_cons rfl (all_cons rfl (all_cons rfl (all_cons rfl (all_cons rfl all_nil))))) (by kernel_rfl) hk32 rfl) ?_; clear h26
 rintro _ w28 a27 ⟨hk29, hz30, hg31⟩ h27
 have hk29' : Blk w28 N3 35 #[.int .i64 0, .int .i64 0, .int .u64 0, .int .i64 0, .slice none 0 0] := hk29; clear hk29
 have hz33 := hg31.size
 refine pk0 (v := .bool false) h27 rfl fun a34 h34 => ?_; clear h27
 refine pl_nil ?_
 refine co_then ?_
 refine wp_ret ?_
 refine co_thenR ?_
 refine co_retC1 (Q := fun _ _ _ => True) h34 rfl rfl rfl hk29' Try.underlying35 rfl (by kernel_rfl) ?_
 have hB35 := hb_call hB13 hb16
 have hB36 := hb_at hB35 hg31 (by omega)
 exact ⟨rfl, hB36⟩
set_option maxRecDepth 100000 in
theorem aTDoneF_any (tk : Nat) (B : Nat) (rq : Int) (tm : Int) (prs : List PrT) (wt : Int) (u : Value) (w : World) (hT : Blk w tk 67 #[.iface 75 (pt B 0), .int .i64 rq, .int .i64 wt, .bool true, .int .i64 rq, .int .i64 0, .int .u64 tm, .int .i64 0, u]) (hu : SliceOf prE 2 w u prs) (hul : prs.length ≤ 64) :
    Calls Try.prog 9 #[pt tk 0] w fun e w' => ∃ (u2 : Value), e = .returned (.tuple #[.agg #[.int .i64 rq, .int .i64 0, .int .u64 tm, .int .i64 0, u2], .bool true]) ∧ w'.ownsRow w.heap.size 57 2 u2 prs.length (prs.flatMap prE) ∧ Below w.heap.size w w' := by
 have hB0 := Below.refl w.heap.size w
 have hl_hT := hT.lt
 have hl_hu := sl_len hu
 refine co_enter (n := 19) Try.func9 rfl rfl rfl [(0, pt tk 0)] rfl (fun a h0 => ?_)
 refine co_seq ?_
 refine co_reg ?_
 refine pw h0 rfl (op_new (v := fun N => pt N 0) (T := 35) (cs := #[.int .i64 0, .int .i64 0, .int .u64 0, .int .i64 0, .slice none 0 0]) (by kernel_rfl) (by kernel_rfl) (by kernel_rfl)) ?_; clear h0
 rintro _ w2 a1 ⟨N3, rfl, hN6, hz7, hk5, hg4⟩ h1
 have hz8 := hg4.size
 try dsimp only at h1
 refine pk0 (v := .bool false) h1 rfl fun a9 h9 => ?_; clear h1
 refine pl_nil ?_
 refine co_then ?_
 refine co_seq ?_
 refine co_seq ?_
 refine co_reg ?_
 refine pk0 (v := pt tk 0) h9 rfl fun a10 h10 => ?_; clear h9
 have hB13 := hb_new hB0 hg4
 have hk14 := hT.kept hg4 (by simp)
 refine pw h10 rfl (op_call (args := #[pt tk 0]) (R := fun res xw => res = .bool false ∧ Below w2.heap.size w2 xw) rfl rfl rfl (by kernel_rfl) (by kernel_rfl) (Try.call22 _ _) (aZeroF_any tk B rq tm prs wt u w2 hk14 (hu.below hB13) (by first | omega | (simp; done) | (simp; omega))) (by rintro e x ⟨rfl, hb15⟩; exact ⟨_, rfl, ⟨rfl, hb15⟩⟩)) ?_; clear h10
 rintro _ w12 a11 ⟨rfl, hb15⟩ h11
 have hz16 := hb15.size
 refine pk0 (v := .bool false) h11 rfl fun a17 h17 => ?_; clear h11
 refine pk0 (v := pt tk 0) h17 rfl fun a18 h18 => ?_; clear h17
 refine pk0 (v := pt tk 0) h18 rfl fun a19 h19 => ?_; clear h18
 refine pk0 (v := pt tk 3) h19 rfl fun a20 h20 => ?_; clear h19
 have hk21 := hk14.below hb15
 refine pk (v := .bool true) h20 rfl (rn_load1 rfl rfl Try.isAgg4 (hk21.cell rfl)) fun a22 h22 => ?_; clear h20
 refine pk0 (v := .bool false) h22 rfl fun a23 h23 => ?_; clear h22
 refine pk0 (v := .bool false) h23 rfl fun a24 h24 => ?_; clear h23
 refine pl_nil ?_
 refine co_then ?_
 refine co_false h24 rfl ?_
 refine wp_skip ?_
 refine co_then ?_
 refine co_seq ?_
 refine co_reg ?_
 refine pk0 (v := pt tk 0) h24 rfl fun a25 h25 => ?_; clear h24
 refine pk0 (v := pt tk 0) h25 rfl fun a26 h26 => ?_; clear h25
 refine pk0 (v := pt tk 4) h26 rfl fun a27 h27 => ?_; clear h26
 refine pk (v := .agg #[.int .i64 rq, .int .i64 0, .int .u64 tm, .int .i64 0, u]) h27 rfl (rn_loadN rfl rfl Try.underlying35 rfl (by kernel_rfl) (blk_part hk21 4 (by rfl))) fun a28 h28 => ?_; clear h27
 have hB31 := hb_call hB13 hb15
 refine pw h28 rfl (op_call (args := #[.agg #[.int .i64 rq, .int .i64 0, .int .u64 tm, .int .i64 0, u]]) (R := fun res xw => ∃ u : Value, res = .agg #[.int .i64 rq, .int .i64 0, .int .u64 tm, .int .i64 0, u] ∧ xw.ownsRow w12.heap.size 57 2 u prs.length (prs.flatMap prE) ∧ Below w12.heap.size w12 xw) rfl rfl rfl (by kernel_rfl) (by kernel_rfl) (Try.call23 _ _) (freshReply_any rq 0 tm 0 u prs w12 (hu.below hB31) (by first | omega | (simp; done) | (simp; omega))) (by rintro e x ⟨u, rfl, hq33, hb34⟩; exact ⟨_, rfl, ⟨u, rfl, hq33, hb34⟩⟩)) ?_; clear h28
 rintro _ w30 a29 ⟨u32, rfl, hq33, hb34⟩ h29
 have hz35 := hb34.size
 have hl36 := sl_len (row_sl hq33 prE_len)
 have hk42 := hk5.below hb15
 have hk43 := hk42.below hb34
 refine pwD h29 rfl (op_storeN rfl rfl rfl (all_cons rfl (all_cons rfl (all_cons rfl (all_cons rfl (all_cons (row_one hq33) all_nil))))) (by kernel_rfl) hk43 rfl) ?_; clear h29
 rintro _ w38 a37 ⟨hk39, hz40, hg41⟩ h37
 have hk39' : Blk w38 N3 35 #[.int .i64 rq, .int .i64 0, .int .u64 tm, .int .i64 0, u32] := hk39; clear hk39
 have hz44 := hg41.size
 refine pk0 (v := .bool true) h37 rfl fun a45 h45 => ?_; clear h37
 refine pl_nil ?_
 refine co_then ?_
 refine wp_ret ?_
 refine co_retC1 (Q := fun _ _ _ => True) h45 rfl rfl rfl hk39' Try.underlying35 rfl (by kernel_rfl) ?_
 have hr46 := row_kept_at hq33 hg41 (own_neT hq33 hk43 (by decide))
 have hB47 := hb_call hB31 hb34
 have hB48 := hb_at hB47 hg41 (by omega)
 exact ⟨_, rfl, (row_lows hr46 (by omega)), hB48⟩
end Go.Proofs.Ytaoibbakflacoaa

/- Walks that may turn some blocks that were there (S). Conditions: none. -/
namespace Go.Proofs.Ytaoibbakflacoaa
open Go.RowKit
set_option linter.unusedVariables false

section
variable {P : Program} {n : Nat} {m : List (Nat × Value)} {w x w0 : World} {o : Oper} {N : Nat} {T : TypeId} {cs : Array Value} {S : Nat → Prop}
theorem fb_new (h : But S w0 w) (hg : w.grownBy x none) : But S w0 x := h.trans (But.of_below (grown_below hg))
theorem fb_call (h : But S w0 w) (hb : Below w.heap.size w x) : But S w0 x := h.trans (But.of_below hb)
theorem fb_at (h : But S w0 w) (hg : w.grownBy x (some N)) (hN : N < w0.heap.size → S N) : But S w0 x :=
  h.trans' (S' := fun k => some N = some k) (grown_butU hg) (fun i hi e => by cases e; exact hN hi)
theorem fb_foot {S' : Nat → Prop} (h : But S w0 w) (hb : But S' w x) (hs : ∀ i, i < w0.heap.size → S' i → S i) : But S w0 x := h.trans' hb hs
theorem hb_foot {S' : Nat → Prop} (h : Below w0.heap.size w0 w) (hb : But S' w x) (hs : ∀ i, i < w.heap.size → S' i → w0.heap.size ≤ i) : Below w0.heap.size w0 x := below_but h hb h.size hs
theorem Blk.but (h : Blk w N T cs) (hb : But S w x) (hn : ¬ S N) : Blk x N T cs := by
  have hl := h.lt
  unfold Blk at h ⊢
  rw [hb.block N hl hn]; exact h
theorem own_but {B sz k : Nat} {e : TypeId} {v : Value} {xs : List Value} (h : w.ownsRow B e sz v k xs) (hb : But S w x) (hn : ∀ i, v.ownBlock = some i → ¬ S i) : x.ownsRow B e sz v k xs := by
  obtain ⟨h1, h2⟩ := h
  refine ⟨h1, ?_⟩
  rcases h2 with h2 | ⟨g, cap, cur, hv, hg, hh, r⟩
  · exact Or.inl h2
  · exact Or.inr ⟨g, cap, cur, hv, hg, by rw [hb.block g (Array.getElem?_eq_some_iff.1 hh).1 (hn g (by rw [hv]; rfl))]; exact hh, r⟩
/-- A block of one type is no row of another. -/
theorem own_ne_blk {B sz k : Nat} {e : TypeId} {v : Value} {xs : List Value} (h : w.ownsRow B e sz v k xs) (hb : Blk w N T cs) (hT : e ≠ T) : v.ownBlock ≠ some N := fun e1 => by
  rcases h.2 with ⟨hv, _⟩ | ⟨g, cap, cur, hv, _, hh, _⟩
  · rw [hv] at e1; cases e1
  · rw [hv] at e1
    have : g = N := by simpa [Value.ownBlock] using e1
    subst this
    unfold Blk at hb
    rw [hh] at hb
    injection hb with h1; injection h1 with h2 h3
    exact hT h3
end
end Go.Proofs.Ytaoibbakflacoaa

/- Package asks: a scan's task takes a page; a scan is asked for. Conditions: a scan that may be. -/
namespace Go.Proofs.Ytaoibbakflacoaa
open Go.RowKit Go.PlainAid
set_option linter.unusedVariables false
set_option linter.unusedSimpArgs false

set_option maxRecDepth 100000 in
theorem aTEnd_any (tk : Nat) (B : Nat) (rq : Int) (tm : Int) (wt : Int) (u : Value) (w : World) (hT : Blk w tk 67 #[.iface 75 (pt B 0), .int .i64 rq, .int .i64 wt, .bool false, .int .i64 0, .int .i64 0, .int .u64 0, .int .i64 0, .slice none 0 0]) (hu1 : u.oneCell' = true) :
    Calls Try.prog 24 #[pt tk 0, .agg #[.int .i64 0, .int .i64 0, .int .u64 tm, .int .i64 0, u]] w fun e w' => e = .returned (.tuple #[]) ∧ Blk w' tk 67 #[.iface 75 (pt B 0), .int .i64 rq, .int .i64 wt, .bool true, .int .i64 rq, .int .i64 0, .int .u64 tm, .int .i64 0, u] ∧ But (fun q => q = tk) w w' := by
 have hB0 := But.refl (fun q => q = tk) w
 have hl_hT := hT.lt
 refine co_enter (n := 16) Try.func24 rfl rfl rfl [(0, pt tk 0), (1, .agg #[.int .i64 0, .int .i64 0, .int .u64 tm, .int .i64 0, u])] rfl (fun a h0 => ?_)
 refine co_seq ?_
 refine co_reg ?_
 refine pw h0 rfl (op_new (v := fun N => pt N 0) (T := 35) (cs := #[.int .i64 0, .int .i64 0, .int .u64 tm, .int .i64 0, u]) (by kernel_rfl) (by kernel_rfl) (by kernel_rfl)) ?_; clear h0
 rintro _ w2 a1 ⟨N3, rfl, hN6, hz7, hk5, hg4⟩ h1
 have hz8 := hg4.size
 try dsimp only at h1
 refine pl_nil ?_
 refine co_then ?_
 refine co_seq ?_
 refine co_reg ?_
 refine pk0 (v := pt tk 0) h1 rfl fun a9 h9 => ?_; clear h1
 refine pk0 (v := pt tk 0) h9 rfl fun a10 h10 => ?_; clear h9
 refine pk0 (v := pt tk 1) h10 rfl fun a11 h11 => ?_; clear h10
 have hk12 := hT.kept hg4 (by simp)
 refine pk (v := .int .i64 rq) h11 rfl (rn_load1 rfl rfl Try.isAgg3 (hk12.cell rfl)) fun a13 h13 => ?_; clear h11
 refine pk0 (v := pt N3 0) h13 rfl fun a14 h14 => ?_; clear h13
 refine pwD h14 rfl (op_store1 rfl rfl rfl rfl Try.sizeOf3 hk5 rfl) ?_; clear h14
 rintro _ w16 a15 ⟨hk17, hz18, hg19⟩ h15
 have hk17' : Blk w16 N3 35 #[.int .i64 rq, .int .i64 0, .int .u64 tm, .int .i64 0, u] := hk17; clear hk17
 have hz20 := hg19.size
 refine pl_nil ?_
 refine co_then ?_
 refine dr_gen (fun x => But (fun q => q = tk) w x ∧ Blk x N3 35 #[.int .i64 rq, .int .i64 0, .int .u64 tm, .int .i64 0, u]) (by kernel_rfl) (fun w21 hg22 => ?_) (fun w21 hg22 => ?_)
 ·
  have hz23 := hg22.size
  have hB24 := fb_new hB0 hg4
  have hB25 := fb_at hB24 hg19 (fun hlt => by first | (exfalso; omega) | (simp; done) | simp_all)
  have hB26 := fb_new hB25 hg22
  have hk27 := hk17'.kept hg22 (by simp)
  exact ⟨hB26, hk27⟩
 have hz28 := hg22.size
 have hB29 := fb_new hB0 hg4
 have hB30 := fb_at hB29 hg19 (fun hlt => by first | (exfalso; omega) | (simp; done) | simp_all)
 have hB31 := fb_new hB30 hg22
 have hk32 := hk17'.kept hg22 (by simp)
 refine dk0 0 (v := pt tk 0) h15 rfl rfl ⟨hB31, hk32⟩ fun a33 h33 => ?_; clear h15
 refine dk0 1 (v := pt tk 0) h33 rfl rfl ⟨hB31, hk32⟩ fun a34 h34 => ?_; clear h33
 refine dk 2 (v := .agg #[.int .i64 rq, .int .i64 0, .int .u64 tm, .int .i64 0, u]) h34 rfl rfl ⟨hB31, hk32⟩ (fun x hx => (rn_loadN rfl rfl Try.underlying35 rfl (by kernel_rfl) hx.2.all)) fun a35 h35 => ?_; clear h34
 refine dk0 3 (v := pt tk 0) h35 rfl rfl ⟨hB31, hk32⟩ fun a36 h36 => ?_; clear h35
 refine dk0 4 (v := pt tk 3) h36 rfl rfl ⟨hB31, hk32⟩ fun a37 h37 => ?_; clear h36
 have hk43 := hk12.kept hg19 (by simp; omega)
 have hk44 := hk43.kept hg22 (by simp)
 refine d1D 5 h37 rfl rfl (op_store1 rfl rfl rfl rfl Try.sizeOf4 hk44 rfl) ?_ ?_; clear h37
 ·
  rintro _ w39 ⟨hk40, hz41, hg42⟩
  have hk40' : Blk w39 tk 67 #[.iface 75 (pt B 0), .int .i64 rq, .int .i64 wt, .bool true, .int .i64 0, .int .i64 0, .int .u64 0, .int .i64 0, .slice none 0 0] := hk40; clear hk40
  have hz45 := hg42.size
  have hB46 := fb_at hB31 hg42 (fun hlt => by first | (exfalso; omega) | (simp; done) | simp_all)
  have hk47 := hk32.kept hg42 (by simp; omega)
  exact ⟨hB46, hk47⟩
 rintro _ w39 a38 ⟨hk40, hz41, hg42⟩ h38
 have hk40' : Blk w39 tk 67 #[.iface 75 (pt B 0), .int .i64 rq, .int .i64 wt, .bool true, .int .i64 0, .int .i64 0, .int .u64 0, .int .i64 0, .slice none 0 0] := hk40; clear hk40
 have hz45 := hg42.size
 have hB46 := fb_at hB31 hg42 (fun hlt => by first | (exfalso; omega) | (simp; done) | simp_all)
 have hk47 := hk32.kept hg42 (by simp; omega)
 refine dk0 6 (v := pt tk 0) h38 rfl rfl ⟨hB46, hk47⟩ fun a48 h48 => ?_; clear h38
 refine dk0 7 (v := pt tk 4) h48 rfl rfl ⟨hB46, hk47⟩ fun a49 h49 => ?_; clear h48
 refine d1D 8 h49 rfl rfl (op_storePart (k := 4) (cs' := #[.iface 75 (pt B 0), .int .i64 rq, .int .i64 wt, .bool true, .int .i64 rq, .int .i64 0, .int .u64 tm, .int .i64 0, u]) rfl rfl rfl (all_cons rfl (all_cons rfl (all_cons rfl (all_cons rfl (all_cons hu1 all_nil))))) (by kernel_rfl) hk40' rfl rfl) ?_ ?_; clear h49
 ·
  rintro _ w51 ⟨hk52, hz53, hg54⟩
  have hk52' : Blk w51 tk 67 #[.iface 75 (pt B 0), .int .i64 rq, .int .i64 wt, .bool true, .int .i64 rq, .int .i64 0, .int .u64 tm, .int .i64 0, u] := hk52; clear hk52
  have hz55 := hg54.size
  have hB56 := fb_at hB46 hg54 (fun hlt => by first | (exfalso; omega) | (simp; done) | simp_all)
  have hk57 := hk47.kept hg54 (by simp; omega)
  exact ⟨hB56, hk57⟩
 rintro _ w51 a50 ⟨hk52, hz53, hg54⟩ h50
 have hk52' : Blk w51 tk 67 #[.iface 75 (pt B 0), .int .i64 rq, .int .i64 wt, .bool true, .int .i64 rq, .int .i64 0, .int .u64 tm, .int .i64 0, u] := hk52; clear hk52
 have hz55 := hg54.size
 refine dr_done (by kernel_rfl) ?_
 refine co_ret0n h50 rfl ?_
 have hB56 := fb_at hB46 hg54 (fun hlt => by first | (exfalso; omega) | (simp; done) | simp_all)
 exact ⟨rfl, hk52', hB56⟩
set_option maxRecDepth 100000 in
set_option maxHeartbeats 1600000 in
theorem aTTakeM_any (tk : Nat) (B : Nat) (d : RdD) (ov : Value) (pv : Value) (wt : Int) (fg : Bool) (v2 : Value) (pl : List PrT) (w : World) (hT : Blk w tk 67 #[.iface 75 (pt B 0), .int .i64 d.rq, .int .i64 wt, .bool false, .int .i64 0, .int .i64 0, .int .u64 0, .int .i64 0, .slice none 0 0]) (hB : Blk w B 77 #[.int .i64 d.c, .int .i64 d.rq, .int .i64 2, .int .i64 d.nd, .string d.k0, .string d.to_, .int .u64 d.at0, .int .i64 d.n, ov, .int .u64 d.tm, .string d.key, pv]) (hp : SliceOf prE 2 w pv d.prs) (hn : 0 ≤ d.n ∧ d.n ≤ 32) (hpn : d.prs.length < d.n.toNat) (hp2 : SliceOf prE 2 w v2 pl) (hpl : pl.length ≤ 60) (hok2 : ∀ z ∈ pl, (fun z : PrT => z.1.size ≤ 9223372036854775807) z) (hpt : d.prs ≠ [] → ∀ k, pv.ownBlock = some k → ¬ (fun q => q = tk) k) (hp2t : pl ≠ [] → ∀ k, v2.ownBlock = some k → ¬ (fun q => q = tk) k) (hmo : moreF d fg pl = true) :
    Calls Try.prog 11 #[pt tk 0, .int .i64 d.nd, .agg #[.int .i64 10, .int .i64 0, .int .i64 d.rq, .int .i64 0, .bool fg, .int .u64 d.tm, .int .u64 0, .int .i64 0, .int .i64 0, .int .i64 0, .int .i64 0, .string d.key, .string (⟨#[]⟩), .int .i64 0, .slice none 0 0, .int .u64 0, .int .i64 0, .int .i64 0, .slice none 0 0, .slice none 0 0, .slice none 0 0, v2]] w fun e w' => ∃ (nb : Nat) (u : Value), e = .returned (.bool true) ∧ w'.ownsRow w.heap.size 57 2 u (d.prs ++ pl.take (pgN d pl)).length ((d.prs ++ pl.take (pgN d pl)).flatMap prE) ∧ Blk w' tk 67 #[.iface 75 (pt nb 0), .int .i64 d.rq, .int .i64 0, .bool false, .int .i64 0, .int .i64 0, .int .u64 0, .int .i64 0, .slice none 0 0] ∧ Blk w' nb 77 #[.int .i64 d.c, .int .i64 d.rq, .int .i64 2, .int .i64 d.nd, .string d.k0, .string d.to_, .int .u64 d.at0, .int .i64 d.n, ov, .int .u64 d.tm, .string (nxK (lastK d pl)), u] ∧ w.heap.size ≤ nb ∧ But (fun q => q = tk) w w' := by
 have hpm : (d.prs.length : Int) < d.n := by omega
 have hB0 := But.refl (fun q => q = tk) w
 have hl_hT := hT.lt
 have hl_hB := hB.lt
 have hl_hp := sl_len hp
 have hl_hp2 := sl_len hp2
 refine co_enter (n := 51) Try.func11 rfl rfl rfl [(0, pt tk 0), (1, .int .i64 d.nd), (2, .agg #[.int .i64 10, .int .i64 0, .int .i64 d.rq, .int .i64 0, .bool fg, .int .u64 d.tm, .int .u64 0, .int .i64 0, .int .i64 0, .int .i64 0, .int .i64 0, .string d.key, .string (⟨#[]⟩), .int .i64 0, .slice none 0 0, .int .u64 0, .int .i64 0, .int .i64 0, .slice none 0 0, .slice none 0 0, .slice none 0 0, v2])] rfl (fun a h0 => ?_)
 refine co_seq ?_
 refine co_reg ?_
 refine pw h0 rfl (op_new (v := fun N => pt N 0) (T := 46) (cs := #[.int .i64 10, .int .i64 0, .int .i64 d.rq, .int .i64 0, .bool fg, .int .u64 d.tm, .int .u64 0, .int .i64 0, .int .i64 0, .int .i64 0, .int .i64 0, .string d.key, .string (⟨#[]⟩), .int .i64 0, .slice none 0 0, .int .u64 0, .int .i64 0, .int .i64 0, .slice none 0 0, .slice none 0 0, .slice none 0 0, v2]) (by kernel_rfl) (by kernel_rfl) (by kernel_rfl)) ?_; clear h0
 rintro _ w2 a1 ⟨N3, rfl, hN6, hz7, hk5, hg4⟩ h1
 have hz8 := hg4.size
 try dsimp only at h1
 refine pk0 (v := .bool false) h1 rfl fun a9 h9 => ?_; clear h1
 refine pl_nil ?_
 refine co_then ?_
 refine co_seq ?_
 refine co_seq ?_
 refine dr_gen (fun x => But (fun q => q = tk) w x ∧ Blk x tk 67 #[.iface 75 (pt B 0), .int .i64 d.rq, .int .i64 wt, .bool false, .int .i64 0, .int .i64 0, .int .u64 0, .int .i64 0, .slice none 0 0] ∧ Blk x N3 46 #[.int .i64 10, .int .i64 0, .int .i64 d.rq, .int .i64 0, .bool fg, .int .u64 d.tm, .int .u64 0, .int .i64 0, .int .i64 0, .int .i64 0, .int .i64 0, .string d.key, .string (⟨#[]⟩), .int .i64 0, .slice none 0 0, .int .u64 0, .int .i64 0, .int .i64 0, .slice none 0 0, .slice none 0 0, .slice none 0 0, v2]) (by kernel_rfl) (fun w10 hg11 => ?_) (fun w10 hg11 => ?_)
 ·
  have hz12 := hg11.size
  have hB13 := fb_new hB0 hg4
  have hB14 := fb_new hB13 hg11
  have hk15 := hT.kept hg4 (by simp)
  have hk16 := hk15.kept hg11 (by simp)
  have hk17 := hk5.kept hg11 (by simp)
  exact ⟨hB14, hk16, hk17⟩
 have hz18 := hg11.size
 have hB19 := fb_new hB0 hg4
 have hB20 := fb_new hB19 hg11
 have hk21 := hT.kept hg4 (by simp)
 have hk22 := hk21.kept hg11 (by simp)
 have hk23 := hk5.kept hg11 (by simp)
 refine dk0 0 (v := pt tk 0) h9 rfl rfl ⟨hB20, hk22, hk23⟩ fun a24 h24 => ?_; clear h9
 have hk27 := hB.kept hg4 (by simp)
 have hk28 := hk27.kept hg11 (by simp)
 refine d1 1 h24 rfl rfl (op_call (args := #[pt tk 0]) (R := fun res xw => res = .bool false ∧ Below w10.heap.size w10 xw) rfl rfl rfl (by kernel_rfl) (by kernel_rfl) (Try.call22 _ _) (aZeroL_any tk B d ov pv wt w10 hk22 hk28 (sl_butS hp hB20 hpt) (by first | omega | decide | (dsimp only; omega)) (by first | omega | decide | (dsimp only; omega))) (by rintro e x ⟨rfl, hb29⟩; exact ⟨_, rfl, ⟨rfl, hb29⟩⟩)) ?_ ?_; clear h24
 ·
  rintro _ w26 ⟨rfl, hb29⟩
  have hz30 := hb29.size
  have hB31 := fb_call hB20 hb29
  have hk32 := hk22.below hb29
  have hk33 := hk23.below hb29
  exact ⟨hB31, hk32, hk33⟩
 rintro _ w26 a25 ⟨rfl, hb29⟩ h25
 have hz30 := hb29.size
 have hB31 := fb_call hB20 hb29
 have hk32 := hk22.below hb29
 have hk33 := hk23.below hb29
 refine dk0 2 (v := .bool false) h25 rfl rfl ⟨hB31, hk32, hk33⟩ fun a34 h34 => ?_; clear h25
 refine dk0 3 (v := pt tk 0) h34 rfl rfl ⟨hB31, hk32, hk33⟩ fun a35 h35 => ?_; clear h34
 refine dk0 4 (v := pt tk 0) h35 rfl rfl ⟨hB31, hk32, hk33⟩ fun a36 h36 => ?_; clear h35
 refine dk0 5 (v := pt tk 3) h36 rfl rfl ⟨hB31, hk32, hk33⟩ fun a37 h37 => ?_; clear h36
 refine dk 6 (v := .bool false) h37 rfl rfl ⟨hB31, hk32, hk33⟩ (fun x hx => (rn_load1 rfl rfl Try.isAgg4 (hx.2.1.cell rfl))) fun a38 h38 => ?_; clear h37
 refine dk0 7 (v := .bool false) h38 rfl rfl ⟨hB31, hk32, hk33⟩ fun a39 h39 => ?_; clear h38
 refine dk0 8 (v := .bool false) h39 rfl rfl ⟨hB31, hk32, hk33⟩ fun a40 h40 => ?_; clear h39
 refine dk0 9 (v := pt N3 2) h40 rfl rfl ⟨hB31, hk32, hk33⟩ fun a41 h41 => ?_; clear h40
 refine dk 10 (v := .int .i64 d.rq) h41 rfl rfl ⟨hB31, hk32, hk33⟩ (fun x hx => (rn_load1 rfl rfl Try.isAgg3 (hx.2.2.cell rfl))) fun a42 h42 => ?_; clear h41
 refine dk0 11 (v := pt tk 0) h42 rfl rfl ⟨hB31, hk32, hk33⟩ fun a43 h43 => ?_; clear h42
 refine dk0 12 (v := pt tk 0) h43 rfl rfl ⟨hB31, hk32, hk33⟩ fun a44 h44 => ?_; clear h43
 refine dk0 13 (v := pt tk 1) h44 rfl rfl ⟨hB31, hk32, hk33⟩ fun a45 h45 => ?_; clear h44
 refine dk 14 (v := .int .i64 d.rq) h45 rfl rfl ⟨hB31, hk32, hk33⟩ (fun x hx => (rn_load1 rfl rfl Try.isAgg3 (hx.2.1.cell rfl))) fun a46 h46 => ?_; clear h45
 refine dk0 15 (v := .bool (d.rq != d.rq)) h46 rfl rfl ⟨hB31, hk32, hk33⟩ fun a47 h47 => ?_; clear h46
 refine dk0 16 (v := .bool (d.rq != d.rq)) h47 rfl rfl ⟨hB31, hk32, hk33⟩ fun a48 h48 => ?_; clear h47
 refine dr_done (by kernel_rfl) ?_
 refine co_then ?_
 have hc49 : (d.rq != d.rq) = false := by first | (simp; done) | (simp; omega) | exact beq_false_of_ne (by omega) | exact beq_iff_eq.2 (by omega)
 rw [hc49] at h48; clear hc49
 refine co_false h48 rfl ?_
 refine wp_skip ?_
 refine co_then ?_
 refine co_seq ?_
 refine dr_gen (fun x => But (fun q => q = tk) w x ∧ Blk x tk 67 #[.iface 75 (pt B 0), .int .i64 d.rq, .int .i64 wt, .bool false, .int .i64 0, .int .i64 0, .int .u64 0, .int .i64 0, .slice none 0 0] ∧ Blk x N3 46 #[.int .i64 10, .int .i64 0, .int .i64 d.rq, .int .i64 0, .bool fg, .int .u64 d.tm, .int .u64 0, .int .i64 0, .int .i64 0, .int .i64 0, .int .i64 0, .string d.key, .string (⟨#[]⟩), .int .i64 0, .slice none 0 0, .int .u64 0, .int .i64 0, .int .i64 0, .slice none 0 0, .slice none 0 0, .slice none 0 0, v2]) (by kernel_rfl) (fun w50 hg51 => ?_) (fun w50 hg51 => ?_)
 ·
  have hz52 := hg51.size
  have hB53 := fb_new hB31 hg51
  have hk54 := hk32.kept hg51 (by simp)
  have hk55 := hk33.kept hg51 (by simp)
  exact ⟨hB53, hk54, hk55⟩
 have hz56 := hg51.size
 have hB57 := fb_new hB31 hg51
 have hk58 := hk32.kept hg51 (by simp)
 have hk59 := hk33.kept hg51 (by simp)
 refine dk0 0 (v := pt tk 0) h48 rfl rfl ⟨hB57, hk58, hk59⟩ fun a60 h60 => ?_; clear h48
 refine dk0 1 (v := pt tk 0) h60 rfl rfl ⟨hB57, hk58, hk59⟩ fun a61 h61 => ?_; clear h60
 refine dk0 2 (v := pt tk 0) h61 rfl rfl ⟨hB57, hk58, hk59⟩ fun a62 h62 => ?_; clear h61
 refine dk 3 (v := .iface 75 (pt B 0)) h62 rfl rfl ⟨hB57, hk58, hk59⟩ (fun x hx => (rn_load1 rfl rfl Try.isAgg65 (hx.2.1.cell rfl))) fun a63 h63 => ?_; clear h62
 refine dk0 4 (v := .int .i64 d.nd) h63 rfl rfl ⟨hB57, hk58, hk59⟩ fun a64 h64 => ?_; clear h63
 refine dk 5 (v := .agg #[.int .i64 10, .int .i64 0, .int .i64 d.rq, .int .i64 0, .bool fg, .int .u64 d.tm, .int .u64 0, .int .i64 0, .int .i64 0, .int .i64 0, .int .i64 0, .string d.key, .string (⟨#[]⟩), .int .i64 0, .slice none 0 0, .int .u64 0, .int .i64 0, .int .i64 0, .slice none 0 0, .slice none 0 0, .slice none 0 0, v2]) h64 rfl rfl ⟨hB57, hk58, hk59⟩ (fun x hx => (rn_loadN rfl rfl Try.underlying46 rfl (by kernel_rfl) hx.2.2.all)) fun a65 h65 => ?_; clear h64
 refine dr_many [6, 7] (by kernel_rfl) (by simp) ⟨?_, ?_, trivial⟩
 ·
  have hk68 := hk28.below hb29
  have hk69 := hk68.kept hg51 (by simp)
  refine dr_op (i := 6) h65 rfl rfl rfl rfl (op_callI (recv := pt B 0) (args := #[pt B 0, .int .i64 d.nd, .agg #[.int .i64 10, .int .i64 0, .int .i64 d.rq, .int .i64 0, .bool fg, .int .u64 d.tm, .int .u64 0, .int .i64 0, .int .i64 0, .int .i64 0, .int .i64 0, .string d.key, .string (⟨#[]⟩), .int .i64 0, .slice none 0 0, .int .u64 0, .int .i64 0, .int .i64 0, .slice none 0 0, .slice none 0 0, .slice none 0 0, v2]]) (R := fun res xw => ∃ nb : Nat, ∃ u : Value, res = .agg #[.bool true, .bool false, .int .i64 0, .int .i64 0, .int .u64 0, .int .i64 0, .slice none 0 0, .iface 75 (pt nb 0)] ∧ xw.ownsRow w50.heap.size 57 2 u (d.prs ++ pl.take (pgN d pl)).length ((d.prs ++ pl.take (pgN d pl)).flatMap prE) ∧ Blk xw nb 77 #[.int .i64 d.c, .int .i64 d.rq, .int .i64 2, .int .i64 d.nd, .string d.k0, .string d.to_, .int .u64 d.at0, .int .i64 d.n, ov, .int .u64 d.tm, .string (nxK (lastK d pl)), u] ∧ w50.heap.size ≤ nb ∧ Below w50.heap.size w50 xw) rfl rfl rfl (by kernel_rfl) (by kernel_rfl) (by kernel_rfl) (Try.call91 _ _) (aTakeM_any B d ov pv fg v2 pl w50 hk69 (sl_butS hp hB57 hpt) (by first | omega | decide | (dsimp only; omega)) (by first | omega | decide | (dsimp only; omega)) (sl_butS hp2 hB57 hp2t) (by first | omega | decide | (dsimp only; omega)) hok2 (by first | omega | (simp; done) | (simp; omega))) (by rintro e x ⟨nb, u, rfl, hq72, hq73, hq74, hb75⟩; exact ⟨_, rfl, ⟨nb, u, rfl, hq72, hq73, hq74, hb75⟩⟩)) ?_ ?_; clear h65
  ·
   rintro _ w67 ⟨nb70, u71, rfl, hq72, hq73, hq74, hb75⟩
   have hz76 := hb75.size
   have hl77 := sl_len (row_sl hq72 prE_len)
   have hl78 := hq73.lt
   have hB79 := fb_call hB57 hb75
   have hk80 := hk58.below hb75
   have hk81 := hk59.below hb75
   exact ⟨hB79, hk80, hk81⟩
  rintro _ w67 a66 ⟨nb70, u71, rfl, hq72, hq73, hq74, hb75⟩ h66
  have hz76 := hb75.size
  have hl77 := sl_len (row_sl hq72 prE_len)
  have hl78 := hq73.lt
  have hB79 := fb_call hB57 hb75
  have hk80 := hk58.below hb75
  have hk81 := hk59.below hb75
  refine d1 7 h66 rfl rfl (op_new (v := fun N => pt N 0) (T := 83) (cs := #[.bool false, .bool false, .int .i64 0, .int .i64 0, .int .u64 0, .int .i64 0, .slice none 0 0, .nilIface]) (by kernel_rfl) (by kernel_rfl) (by kernel_rfl)) ?_ ?_; clear h66
  ·
   rintro _ w83 ⟨N84, rfl, hN87, hz88, hk86, hg85⟩
   have ha89 := row_fresh hq72 hN87
   have hz90 := hg85.size
   have hB91 := fb_new hB79 hg85
   have hk92 := hk80.kept hg85 (by simp)
   have hk93 := hk81.kept hg85 (by simp)
   exact ⟨hB91, hk92, hk93⟩
  rintro _ w83 a82 ⟨N84, rfl, hN87, hz88, hk86, hg85⟩ h82
  have ha89 := row_fresh hq72 hN87
  have hz90 := hg85.size
  try dsimp only at h82
  have hB91 := fb_new hB79 hg85
  have hk92 := hk80.kept hg85 (by simp)
  have hk93 := hk81.kept hg85 (by simp)
  refine d1D 8 h82 rfl rfl (op_storeN rfl rfl rfl (all_cons rfl (all_cons rfl (all_cons rfl (all_cons rfl (all_cons rfl (all_cons rfl (all_cons rfl (all_cons rfl all_nil)))))))) (by kernel_rfl) hk86 rfl) ?_ ?_; clear h82
  ·
   rintro _ w95 ⟨hk96, hz97, hg98⟩
   have hk96' : Blk w95 N84 83 #[.bool true, .bool false, .int .i64 0, .int .i64 0, .int .u64 0, .int .i64 0, .slice none 0 0, .iface 75 (pt nb70 0)] := hk96; clear hk96
   have hz99 := hg98.size
   have hB100 := fb_at hB91 hg98 (fun hlt => by first | (exfalso; omega) | (simp; done) | simp_all)
   have hk101 := hk92.kept hg98 (by simp; omega)
   have hk102 := hk93.kept hg98 (by simp; omega)
   exact ⟨hB100, hk101, hk102⟩
  rintro _ w95 a94 ⟨hk96, hz97, hg98⟩ h94
  have hk96' : Blk w95 N84 83 #[.bool true, .bool false, .int .i64 0, .int .i64 0, .int .u64 0, .int .i64 0, .slice none 0 0, .iface 75 (pt nb70 0)] := hk96; clear hk96
  have hz99 := hg98.size
  refine dr_done (by kernel_rfl) ?_
  refine co_then ?_
  refine co_seq ?_
  refine co_seq ?_
  refine co_reg ?_
  refine pk0 (v := pt N84 1) h94 rfl fun a100 h100 => ?_; clear h94
  refine pk (v := .bool false) h100 rfl (rn_load1 rfl rfl Try.isAgg4 (hk96'.cell rfl)) fun a101 h101 => ?_; clear h100
  refine pl_nil ?_
  refine co_then ?_
  refine co_false h101 rfl ?_
  refine wp_skip ?_
  refine co_then ?_
  refine co_seq ?_
  refine co_seq ?_
  refine co_reg ?_
  refine pk0 (v := pt N84 7) h101 rfl fun a102 h102 => ?_; clear h101
  refine pk (v := .iface 75 (pt nb70 0)) h102 rfl (rn_load1 rfl rfl Try.isAgg65 (hk96'.cell rfl)) fun a103 h103 => ?_; clear h102
  refine pk0 (v := .bool true) h103 rfl fun a104 h104 => ?_; clear h103
  refine pl_nil ?_
  refine co_then ?_
  refine co_true h104 rfl ?_
  refine co_seq ?_
  refine co_reg ?_
  refine pk0 (v := pt tk 0) h104 rfl fun a105 h105 => ?_; clear h104
  refine pk0 (v := pt N84 7) h105 rfl fun a106 h106 => ?_; clear h105
  refine pk (v := .iface 75 (pt nb70 0)) h106 rfl (rn_load1 rfl rfl Try.isAgg65 (hk96'.cell rfl)) fun a107 h107 => ?_; clear h106
  refine pk0 (v := pt tk 0) h107 rfl fun a108 h108 => ?_; clear h107
  refine pk0 (v := pt tk 0) h108 rfl fun a109 h109 => ?_; clear h108
  have hk115 := hk92.kept hg98 (by simp; omega)
  refine pwD h109 rfl (op_store1 rfl rfl rfl rfl Try.sizeOf65 hk115 rfl) ?_; clear h109
  rintro _ w111 a110 ⟨hk112, hz113, hg114⟩ h110
  have hk112' : Blk w111 tk 67 #[.iface 75 (pt nb70 0), .int .i64 d.rq, .int .i64 wt, .bool false, .int .i64 0, .int .i64 0, .int .u64 0, .int .i64 0, .slice none 0 0] := hk112; clear hk112
  have hz116 := hg114.size
  refine pl_nil ?_
  refine co_then ?_
  refine co_reg ?_
  refine pk0 (v := pt tk 0) h110 rfl fun a117 h117 => ?_; clear h110
  refine pk0 (v := pt tk 0) h117 rfl fun a118 h118 => ?_; clear h117
  refine pk0 (v := pt tk 2) h118 rfl fun a119 h119 => ?_; clear h118
  refine pwD h119 rfl (op_store1 rfl rfl rfl rfl Try.sizeOf3 hk112' rfl) ?_; clear h119
  rintro _ w121 a120 ⟨hk122, hz123, hg124⟩ h120
  have hk122' : Blk w121 tk 67 #[.iface 75 (pt nb70 0), .int .i64 d.rq, .int .i64 0, .bool false, .int .i64 0, .int .i64 0, .int .u64 0, .int .i64 0, .slice none 0 0] := hk122; clear hk122
  have hz125 := hg124.size
  refine pl_nil ?_
  refine co_then ?_
  refine co_seq ?_
  refine co_reg ?_
  refine pk0 (v := pt N84 0) h120 rfl fun a126 h126 => ?_; clear h120
  have hk127 := hk96'.kept hg114 (by simp; omega)
  have hk128 := hk127.kept hg124 (by simp; omega)
  refine pk (v := .bool true) h126 rfl (rn_load1 rfl rfl Try.isAgg4 (hk128.cell rfl)) fun a129 h129 => ?_; clear h126
  refine pk0 (v := .bool true) h129 rfl fun a130 h130 => ?_; clear h129
  refine pl_nil ?_
  refine co_then ?_
  refine wp_ret ?_
  refine co_ret1 h130 rfl rfl ?_
  have hr131 := row_kept_new hq72 hg85
  have hr132 := row_kept_at hr131 hg98 (ha89)
  have hr133 := row_kept_at hr132 hg114 (own_neT hr132 hk115 (by decide))
  have hr134 := row_kept_at hr133 hg124 (own_neT hr133 hk112' (by decide))
  have hk135 := hq73.kept hg85 (by simp)
  have hk136 := hk135.kept hg98 (by simp; omega)
  have hk137 := hk136.kept hg114 (by simp; omega)
  have hk138 := hk137.kept hg124 (by simp; omega)
  have hB139 := fb_at hB91 hg98 (fun hlt => by first | (exfalso; omega) | (simp; done) | simp_all)
  have hB140 := fb_at hB139 hg114 (fun hlt => by first | (exfalso; omega) | (simp; done) | simp_all)
  have hB141 := fb_at hB140 hg124 (fun hlt => by first | (exfalso; omega) | (simp; done) | simp_all)
  exact ⟨nb70, u71, rfl, (row_lows hr134 (by omega)), hk122', hk138, by omega, hB141⟩
 ·
  refine dr_op (i := 7) h65 rfl rfl rfl rfl (op_new (v := fun N => pt N 0) (T := 83) (cs := #[.bool false, .bool false, .int .i64 0, .int .i64 0, .int .u64 0, .int .i64 0, .slice none 0 0, .nilIface]) (by kernel_rfl) (by kernel_rfl) (by kernel_rfl)) ?_ ?_; clear h65
  ·
   rintro _ w143 ⟨N144, rfl, hN147, hz148, hk146, hg145⟩
   have hz149 := hg145.size
   have hB150 := fb_new hB57 hg145
   have hk151 := hk58.kept hg145 (by simp)
   have hk152 := hk59.kept hg145 (by simp)
   exact ⟨hB150, hk151, hk152⟩
  rintro _ w143 a142 ⟨N144, rfl, hN147, hz148, hk146, hg145⟩ h142
  have hz149 := hg145.size
  try dsimp only at h142
  have hB150 := fb_new hB57 hg145
  have hk151 := hk58.kept hg145 (by simp)
  have hk152 := hk59.kept hg145 (by simp)
  have hk155 := hk28.below hb29
  have hk156 := hk155.kept hg51 (by simp)
  have hk157 := hk156.kept hg145 (by simp)
  refine d1 6 h142 rfl rfl (op_callI (recv := pt B 0) (args := #[pt B 0, .int .i64 d.nd, .agg #[.int .i64 10, .int .i64 0, .int .i64 d.rq, .int .i64 0, .bool fg, .int .u64 d.tm, .int .u64 0, .int .i64 0, .int .i64 0, .int .i64 0, .int .i64 0, .string d.key, .string (⟨#[]⟩), .int .i64 0, .slice none 0 0, .int .u64 0, .int .i64 0, .int .i64 0, .slice none 0 0, .slice none 0 0, .slice none 0 0, v2]]) (R := fun res xw => ∃ nb : Nat, ∃ u : Value, res = .agg #[.bool true, .bool false, .int .i64 0, .int .i64 0, .int .u64 0, .int .i64 0, .slice none 0 0, .iface 75 (pt nb 0)] ∧ xw.ownsRow w143.heap.size 57 2 u (d.prs ++ pl.take (pgN d pl)).length ((d.prs ++ pl.take (pgN d pl)).flatMap prE) ∧ Blk xw nb 77 #[.int .i64 d.c, .int .i64 d.rq, .int .i64 2, .int .i64 d.nd, .string d.k0, .string d.to_, .int .u64 d.at0, .int .i64 d.n, ov, .int .u64 d.tm, .string (nxK (lastK d pl)), u] ∧ w143.heap.size ≤ nb ∧ Below w143.heap.size w143 xw) rfl rfl rfl (by kernel_rfl) (by kernel_rfl) (by kernel_rfl) (Try.call91 _ _) (aTakeM_any B d ov pv fg v2 pl w143 hk157 (sl_butS hp hB150 hpt) (by first | omega | decide | (dsimp only; omega)) (by first | omega | decide | (dsimp only; omega)) (sl_butS hp2 hB150 hp2t) (by first | omega | decide | (dsimp only; omega)) hok2 (by first | omega | (simp; done) | (simp; omega))) (by rintro e x ⟨nb, u, rfl, hq160, hq161, hq162, hb163⟩; exact ⟨_, rfl, ⟨nb, u, rfl, hq160, hq161, hq162, hb163⟩⟩)) ?_ ?_; clear h142
  ·
   rintro _ w154 ⟨nb158, u159, rfl, hq160, hq161, hq162, hb163⟩
   have hz164 := hb163.size
   have hl165 := sl_len (row_sl hq160 prE_len)
   have hl166 := hq161.lt
   have hB167 := fb_call hB150 hb163
   have hk168 := hk151.below hb163
   have hk169 := hk152.below hb163
   exact ⟨hB167, hk168, hk169⟩
  rintro _ w154 a153 ⟨nb158, u159, rfl, hq160, hq161, hq162, hb163⟩ h153
  have hz164 := hb163.size
  have hl165 := sl_len (row_sl hq160 prE_len)
  have hl166 := hq161.lt
  have hB167 := fb_call hB150 hb163
  have hk168 := hk151.below hb163
  have hk169 := hk152.below hb163
  have hk175 := hk146.below hb163
  refine d1D 8 h153 rfl rfl (op_storeN rfl rfl rfl (all_cons rfl (all_cons rfl (all_cons rfl (all_cons rfl (all_cons rfl (all_cons rfl (all_cons rfl (all_cons rfl all_nil)))))))) (by kernel_rfl) hk175 rfl) ?_ ?_; clear h153
  ·
   rintro _ w171 ⟨hk172, hz173, hg174⟩
   have hk172' : Blk w171 N144 83 #[.bool true, .bool false, .int .i64 0, .int .i64 0, .int .u64 0, .int .i64 0, .slice none 0 0, .iface 75 (pt nb158 0)] := hk172; clear hk172
   have hz176 := hg174.size
   have hB177 := fb_at hB167 hg174 (fun hlt => by first | (exfalso; omega) | (simp; done) | simp_all)
   have hk178 := hk168.kept hg174 (by simp; omega)
   have hk179 := hk169.kept hg174 (by simp; omega)
   exact ⟨hB177, hk178, hk179⟩
  rintro _ w171 a170 ⟨hk172, hz173, hg174⟩ h170
  have hk172' : Blk w171 N144 83 #[.bool true, .bool false, .int .i64 0, .int .i64 0, .int .u64 0, .int .i64 0, .slice none 0 0, .iface 75 (pt nb158 0)] := hk172; clear hk172
  have hz176 := hg174.size
  refine dr_done (by kernel_rfl) ?_
  refine co_then ?_
  refine co_seq ?_
  refine co_seq ?_
  refine co_reg ?_
  refine pk0 (v := pt N144 1) h170 rfl fun a177 h177 => ?_; clear h170
  refine pk (v := .bool false) h177 rfl (rn_load1 rfl rfl Try.isAgg4 (hk172'.cell rfl)) fun a178 h178 => ?_; clear h177
  refine pl_nil ?_
  refine co_then ?_
  refine co_false h178 rfl ?_
  refine wp_skip ?_
  refine co_then ?_
  refine co_seq ?_
  refine co_seq ?_
  refine co_reg ?_
  refine pk0 (v := pt N144 7) h178 rfl fun a179 h179 => ?_; clear h178
  refine pk (v := .iface 75 (pt nb158 0)) h179 rfl (rn_load1 rfl rfl Try.isAgg65 (hk172'.cell rfl)) fun a180 h180 => ?_; clear h179
  refine pk0 (v := .bool true) h180 rfl fun a181 h181 => ?_; clear h180
  refine pl_nil ?_
  refine co_then ?_
  refine co_true h181 rfl ?_
  refine co_seq ?_
  refine co_reg ?_
  refine pk0 (v := pt tk 0) h181 rfl fun a182 h182 => ?_; clear h181
  refine pk0 (v := pt N144 7) h182 rfl fun a183 h183 => ?_; clear h182
  refine pk (v := .iface 75 (pt nb158 0)) h183 rfl (rn_load1 rfl rfl Try.isAgg65 (hk172'.cell rfl)) fun a184 h184 => ?_; clear h183
  refine pk0 (v := pt tk 0) h184 rfl fun a185 h185 => ?_; clear h184
  refine pk0 (v := pt tk 0) h185 rfl fun a186 h186 => ?_; clear h185
  have hk192 := hk168.kept hg174 (by simp; omega)
  refine pwD h186 rfl (op_store1 rfl rfl rfl rfl Try.sizeOf65 hk192 rfl) ?_; clear h186
  rintro _ w188 a187 ⟨hk189, hz190, hg191⟩ h187
  have hk189' : Blk w188 tk 67 #[.iface 75 (pt nb158 0), .int .i64 d.rq, .int .i64 wt, .bool false, .int .i64 0, .int .i64 0, .int .u64 0, .int .i64 0, .slice none 0 0] := hk189; clear hk189
  have hz193 := hg191.size
  refine pl_nil ?_
  refine co_then ?_
  refine co_reg ?_
  refine pk0 (v := pt tk 0) h187 rfl fun a194 h194 => ?_; clear h187
  refine pk0 (v := pt tk 0) h194 rfl fun a195 h195 => ?_; clear h194
  refine pk0 (v := pt tk 2) h195 rfl fun a196 h196 => ?_; clear h195
  refine pwD h196 rfl (op_store1 rfl rfl rfl rfl Try.sizeOf3 hk189' rfl) ?_; clear h196
  rintro _ w198 a197 ⟨hk199, hz200, hg201⟩ h197
  have hk199' : Blk w198 tk 67 #[.iface 75 (pt nb158 0), .int .i64 d.rq, .int .i64 0, .bool false, .int .i64 0, .int .i64 0, .int .u64 0, .int .i64 0, .slice none 0 0] := hk199; clear hk199
  have hz202 := hg201.size
  refine pl_nil ?_
  refine co_then ?_
  refine co_seq ?_
  refine co_reg ?_
  refine pk0 (v := pt N144 0) h197 rfl fun a203 h203 => ?_; clear h197
  have hk204 := hk172'.kept hg191 (by simp; omega)
  have hk205 := hk204.kept hg201 (by simp; omega)
  refine pk (v := .bool true) h203 rfl (rn_load1 rfl rfl Try.isAgg4 (hk205.cell rfl)) fun a206 h206 => ?_; clear h203
  refine pk0 (v := .bool true) h206 rfl fun a207 h207 => ?_; clear h206
  refine pl_nil ?_
  refine co_then ?_
  refine wp_ret ?_
  refine co_ret1 h207 rfl rfl ?_
  have hr208 := row_kept_at hq160 hg174 (own_neT hq160 hk175 (by decide))
  have hr209 := row_kept_at hr208 hg191 (own_neT hr208 hk192 (by decide))
  have hr210 := row_kept_at hr209 hg201 (own_neT hr209 hk189' (by decide))
  have hk211 := hq161.kept hg174 (by simp; omega)
  have hk212 := hk211.kept hg191 (by simp; omega)
  have hk213 := hk212.kept hg201 (by simp; omega)
  have hB214 := fb_at hB167 hg174 (fun hlt => by first | (exfalso; omega) | (simp; done) | simp_all)
  have hB215 := fb_at hB214 hg191 (fun hlt => by first | (exfalso; omega) | (simp; done) | simp_all)
  have hB216 := fb_at hB215 hg201 (fun hlt => by first | (exfalso; omega) | (simp; done) | simp_all)
  exact ⟨nb158, u159, rfl, (row_lows hr210 (by omega)), hk199', hk213, by omega, hB216⟩
set_option maxRecDepth 100000 in
set_option maxHeartbeats 1600000 in
theorem aTTakeD_any (tk : Nat) (B : Nat) (d : RdD) (ov : Value) (pv : Value) (wt : Int) (fg : Bool) (v2 : Value) (pl : List PrT) (w : World) (hT : Blk w tk 67 #[.iface 75 (pt B 0), .int .i64 d.rq, .int .i64 wt, .bool false, .int .i64 0, .int .i64 0, .int .u64 0, .int .i64 0, .slice none 0 0]) (hB : Blk w B 77 #[.int .i64 d.c, .int .i64 d.rq, .int .i64 2, .int .i64 d.nd, .string d.k0, .string d.to_, .int .u64 d.at0, .int .i64 d.n, ov, .int .u64 d.tm, .string d.key, pv]) (hp : SliceOf prE 2 w pv d.prs) (hn : 0 ≤ d.n ∧ d.n ≤ 32) (hpn : d.prs.length < d.n.toNat) (hp2 : SliceOf prE 2 w v2 pl) (hpl : pl.length ≤ 60) (hok2 : ∀ z ∈ pl, (fun z : PrT => z.1.size ≤ 9223372036854775807) z) (hpt : d.prs ≠ [] → ∀ k, pv.ownBlock = some k → ¬ (fun q => q = tk) k) (hp2t : pl ≠ [] → ∀ k, v2.ownBlock = some k → ¬ (fun q => q = tk) k) (hmo : moreF d fg pl = false) :
    Calls Try.prog 11 #[pt tk 0, .int .i64 d.nd, .agg #[.int .i64 10, .int .i64 0, .int .i64 d.rq, .int .i64 0, .bool fg, .int .u64 d.tm, .int .u64 0, .int .i64 0, .int .i64 0, .int .i64 0, .int .i64 0, .string d.key, .string (⟨#[]⟩), .int .i64 0, .slice none 0 0, .int .u64 0, .int .i64 0, .int .i64 0, .slice none 0 0, .slice none 0 0, .slice none 0 0, v2]] w fun e w' => ∃ (u : Value), e = .returned (.bool false) ∧ w'.ownsRow w.heap.size 57 2 u (d.prs ++ pl.take (pgN d pl)).length ((d.prs ++ pl.take (pgN d pl)).flatMap prE) ∧ Blk w' tk 67 #[.iface 75 (pt B 0), .int .i64 d.rq, .int .i64 wt, .bool true, .int .i64 d.rq, .int .i64 0, .int .u64 d.tm, .int .i64 0, u] ∧ But (fun q => q = tk) w w' := by
 have hpm : (d.prs.length : Int) < d.n := by omega
 have hB0 := But.refl (fun q => q = tk) w
 have hl_hT := hT.lt
 have hl_hB := hB.lt
 have hl_hp := sl_len hp
 have hl_hp2 := sl_len hp2
 refine co_enter (n := 51) Try.func11 rfl rfl rfl [(0, pt tk 0), (1, .int .i64 d.nd), (2, .agg #[.int .i64 10, .int .i64 0, .int .i64 d.rq, .int .i64 0, .bool fg, .int .u64 d.tm, .int .u64 0, .int .i64 0, .int .i64 0, .int .i64 0, .int .i64 0, .string d.key, .string (⟨#[]⟩), .int .i64 0, .slice none 0 0, .int .u64 0, .int .i64 0, .int .i64 0, .slice none 0 0, .slice none 0 0, .slice none 0 0, v2])] rfl (fun a h0 => ?_)
 refine co_seq ?_
 refine co_reg ?_
 refine pw h0 rfl (op_new (v := fun N => pt N 0) (T := 46) (cs := #[.int .i64 10, .int .i64 0, .int .i64 d.rq, .int .i64 0, .bool fg, .int .u64 d.tm, .int .u64 0, .int .i64 0, .int .i64 0, .int .i64 0, .int .i64 0, .string d.key, .string (⟨#[]⟩), .int .i64 0, .slice none 0 0, .int .u64 0, .int .i64 0, .int .i64 0, .slice none 0 0, .slice none 0 0, .slice none 0 0, v2]) (by kernel_rfl) (by kernel_rfl) (by kernel_rfl)) ?_; clear h0
 rintro _ w2 a1 ⟨N3, rfl, hN6, hz7, hk5, hg4⟩ h1
 have hz8 := hg4.size
 try dsimp only at h1
 refine pk0 (v := .bool false) h1 rfl fun a9 h9 => ?_; clear h1
 refine pl_nil ?_
 refine co_then ?_
 refine co_seq ?_
 refine co_seq ?_
 refine dr_gen (fun x => But (fun q => q = tk) w x ∧ Blk x tk 67 #[.iface 75 (pt B 0), .int .i64 d.rq, .int .i64 wt, .bool false, .int .i64 0, .int .i64 0, .int .u64 0, .int .i64 0, .slice none 0 0] ∧ Blk x N3 46 #[.int .i64 10, .int .i64 0, .int .i64 d.rq, .int .i64 0, .bool fg, .int .u64 d.tm, .int .u64 0, .int .i64 0, .int .i64 0, .int .i64 0, .int .i64 0, .string d.key, .string (⟨#[]⟩), .int .i64 0, .slice none 0 0, .int .u64 0, .int .i64 0, .int .i64 0, .slice none 0 0, .slice none 0 0, .slice none 0 0, v2]) (by kernel_rfl) (fun w10 hg11 => ?_) (fun w10 hg11 => ?_)
 ·
  have hz12 := hg11.size
  have hB13 := fb_new hB0 hg4
  have hB14 := fb_new hB13 hg11
  have hk15 := hT.kept hg4 (by simp)
  have hk16 := hk15.kept hg11 (by simp)
  have hk17 := hk5.kept hg11 (by simp)
  exact ⟨hB14, hk16, hk17⟩
 have hz18 := hg11.size
 have hB19 := fb_new hB0 hg4
 have hB20 := fb_new hB19 hg11
 have hk21 := hT.kept hg4 (by simp)
 have hk22 := hk21.kept hg11 (by simp)
 have hk23 := hk5.kept hg11 (by simp)
 refine dk0 0 (v := pt tk 0) h9 rfl rfl ⟨hB20, hk22, hk23⟩ fun a24 h24 => ?_; clear h9
 have hk27 := hB.kept hg4 (by simp)
 have hk28 := hk27.kept hg11 (by simp)
 refine d1 1 h24 rfl rfl (op_call (args := #[pt tk 0]) (R := fun res xw => res = .bool false ∧ Below w10.heap.size w10 xw) rfl rfl rfl (by kernel_rfl) (by kernel_rfl) (Try.call22 _ _) (aZeroL_any tk B d ov pv wt w10 hk22 hk28 (sl_butS hp hB20 hpt) (by first | omega | decide | (dsimp only; omega)) (by first | omega | decide | (dsimp only; omega))) (by rintro e x ⟨rfl, hb29⟩; exact ⟨_, rfl, ⟨rfl, hb29⟩⟩)) ?_ ?_; clear h24
 ·
  rintro _ w26 ⟨rfl, hb29⟩
  have hz30 := hb29.size
  have hB31 := fb_call hB20 hb29
  have hk32 := hk22.below hb29
  have hk33 := hk23.below hb29
  exact ⟨hB31, hk32, hk33⟩
 rintro _ w26 a25 ⟨rfl, hb29⟩ h25
 have hz30 := hb29.size
 have hB31 := fb_call hB20 hb29
 have hk32 := hk22.below hb29
 have hk33 := hk23.below hb29
 refine dk0 2 (v := .bool false) h25 rfl rfl ⟨hB31, hk32, hk33⟩ fun a34 h34 => ?_; clear h25
 refine dk0 3 (v := pt tk 0) h34 rfl rfl ⟨hB31, hk32, hk33⟩ fun a35 h35 => ?_; clear h34
 refine dk0 4 (v := pt tk 0) h35 rfl rfl ⟨hB31, hk32, hk33⟩ fun a36 h36 => ?_; clear h35
 refine dk0 5 (v := pt tk 3) h36 rfl rfl ⟨hB31, hk32, hk33⟩ fun a37 h37 => ?_; clear h36
 refine dk 6 (v := .bool false) h37 rfl rfl ⟨hB31, hk32, hk33⟩ (fun x hx => (rn_load1 rfl rfl Try.isAgg4 (hx.2.1.cell rfl))) fun a38 h38 => ?_; clear h37
 refine dk0 7 (v := .bool false) h38 rfl rfl ⟨hB31, hk32, hk33⟩ fun a39 h39 => ?_; clear h38
 refine dk0 8 (v := .bool false) h39 rfl rfl ⟨hB31, hk32, hk33⟩ fun a40 h40 => ?_; clear h39
 refine dk0 9 (v := pt N3 2) h40 rfl rfl ⟨hB31, hk32, hk33⟩ fun a41 h41 => ?_; clear h40
 refine dk 10 (v := .int .i64 d.rq) h41 rfl rfl ⟨hB31, hk32, hk33⟩ (fun x hx => (rn_load1 rfl rfl Try.isAgg3 (hx.2.2.cell rfl))) fun a42 h42 => ?_; clear h41
 refine dk0 11 (v := pt tk 0) h42 rfl rfl ⟨hB31, hk32, hk33⟩ fun a43 h43 => ?_; clear h42
 refine dk0 12 (v := pt tk 0) h43 rfl rfl ⟨hB31, hk32, hk33⟩ fun a44 h44 => ?_; clear h43
 refine dk0 13 (v := pt tk 1) h44 rfl rfl ⟨hB31, hk32, hk33⟩ fun a45 h45 => ?_; clear h44
 refine dk 14 (v := .int .i64 d.rq) h45 rfl rfl ⟨hB31, hk32, hk33⟩ (fun x hx => (rn_load1 rfl rfl Try.isAgg3 (hx.2.1.cell rfl))) fun a46 h46 => ?_; clear h45
 refine dk0 15 (v := .bool (d.rq != d.rq)) h46 rfl rfl ⟨hB31, hk32, hk33⟩ fun a47 h47 => ?_; clear h46
 refine dk0 16 (v := .bool (d.rq != d.rq)) h47 rfl rfl ⟨hB31, hk32, hk33⟩ fun a48 h48 => ?_; clear h47
 refine dr_done (by kernel_rfl) ?_
 refine co_then ?_
 have hc49 : (d.rq != d.rq) = false := by first | (simp; done) | (simp; omega) | exact beq_false_of_ne (by omega) | exact beq_iff_eq.2 (by omega)
 rw [hc49] at h48; clear hc49
 refine co_false h48 rfl ?_
 refine wp_skip ?_
 refine co_then ?_
 refine co_seq ?_
 refine dr_gen (fun x => But (fun q => q = tk) w x ∧ Blk x tk 67 #[.iface 75 (pt B 0), .int .i64 d.rq, .int .i64 wt, .bool false, .int .i64 0, .int .i64 0, .int .u64 0, .int .i64 0, .slice none 0 0] ∧ Blk x N3 46 #[.int .i64 10, .int .i64 0, .int .i64 d.rq, .int .i64 0, .bool fg, .int .u64 d.tm, .int .u64 0, .int .i64 0, .int .i64 0, .int .i64 0, .int .i64 0, .string d.key, .string (⟨#[]⟩), .int .i64 0, .slice none 0 0, .int .u64 0, .int .i64 0, .int .i64 0, .slice none 0 0, .slice none 0 0, .slice none 0 0, v2]) (by kernel_rfl) (fun w50 hg51 => ?_) (fun w50 hg51 => ?_)
 ·
  have hz52 := hg51.size
  have hB53 := fb_new hB31 hg51
  have hk54 := hk32.kept hg51 (by simp)
  have hk55 := hk33.kept hg51 (by simp)
  exact ⟨hB53, hk54, hk55⟩
 have hz56 := hg51.size
 have hB57 := fb_new hB31 hg51
 have hk58 := hk32.kept hg51 (by simp)
 have hk59 := hk33.kept hg51 (by simp)
 refine dk0 0 (v := pt tk 0) h48 rfl rfl ⟨hB57, hk58, hk59⟩ fun a60 h60 => ?_; clear h48
 refine dk0 1 (v := pt tk 0) h60 rfl rfl ⟨hB57, hk58, hk59⟩ fun a61 h61 => ?_; clear h60
 refine dk0 2 (v := pt tk 0) h61 rfl rfl ⟨hB57, hk58, hk59⟩ fun a62 h62 => ?_; clear h61
 refine dk 3 (v := .iface 75 (pt B 0)) h62 rfl rfl ⟨hB57, hk58, hk59⟩ (fun x hx => (rn_load1 rfl rfl Try.isAgg65 (hx.2.1.cell rfl))) fun a63 h63 => ?_; clear h62
 refine dk0 4 (v := .int .i64 d.nd) h63 rfl rfl ⟨hB57, hk58, hk59⟩ fun a64 h64 => ?_; clear h63
 refine dk 5 (v := .agg #[.int .i64 10, .int .i64 0, .int .i64 d.rq, .int .i64 0, .bool fg, .int .u64 d.tm, .int .u64 0, .int .i64 0, .int .i64 0, .int .i64 0, .int .i64 0, .string d.key, .string (⟨#[]⟩), .int .i64 0, .slice none 0 0, .int .u64 0, .int .i64 0, .int .i64 0, .slice none 0 0, .slice none 0 0, .slice none 0 0, v2]) h64 rfl rfl ⟨hB57, hk58, hk59⟩ (fun x hx => (rn_loadN rfl rfl Try.underlying46 rfl (by kernel_rfl) hx.2.2.all)) fun a65 h65 => ?_; clear h64
 refine dr_many [6, 7] (by kernel_rfl) (by simp) ⟨?_, ?_, trivial⟩
 ·
  have hk68 := hk28.below hb29
  have hk69 := hk68.kept hg51 (by simp)
  refine dr_op (i := 6) h65 rfl rfl rfl rfl (op_callI (recv := pt B 0) (args := #[pt B 0, .int .i64 d.nd, .agg #[.int .i64 10, .int .i64 0, .int .i64 d.rq, .int .i64 0, .bool fg, .int .u64 d.tm, .int .u64 0, .int .i64 0, .int .i64 0, .int .i64 0, .int .i64 0, .string d.key, .string (⟨#[]⟩), .int .i64 0, .slice none 0 0, .int .u64 0, .int .i64 0, .int .i64 0, .slice none 0 0, .slice none 0 0, .slice none 0 0, v2]]) (R := fun res xw => ∃ u : Value, res = .agg #[.bool false, .bool true, .int .i64 0, .int .i64 0, .int .u64 d.tm, .int .i64 0, u, .nilIface] ∧ xw.ownsRow w50.heap.size 57 2 u (d.prs ++ pl.take (pgN d pl)).length ((d.prs ++ pl.take (pgN d pl)).flatMap prE) ∧ Below w50.heap.size w50 xw) rfl rfl rfl (by kernel_rfl) (by kernel_rfl) (by kernel_rfl) (Try.call91 _ _) (aTakeD_any B d ov pv fg v2 pl w50 hk69 (sl_butS hp hB57 hpt) (by first | omega | decide | (dsimp only; omega)) (by first | omega | decide | (dsimp only; omega)) (sl_butS hp2 hB57 hp2t) (by first | omega | decide | (dsimp only; omega)) hok2 (by first | omega | (simp; done) | (simp; omega))) (by rintro e x ⟨u, rfl, hq71, hb72⟩; exact ⟨_, rfl, ⟨u, rfl, hq71, hb72⟩⟩)) ?_ ?_; clear h65
  ·
   rintro _ w67 ⟨u70, rfl, hq71, hb72⟩
   have hz73 := hb72.size
   have hl74 := sl_len (row_sl hq71 prE_len)
   have hB75 := fb_call hB57 hb72
   have hk76 := hk58.below hb72
   have hk77 := hk59.below hb72
   exact ⟨hB75, hk76, hk77⟩
  rintro _ w67 a66 ⟨u70, rfl, hq71, hb72⟩ h66
  have hz73 := hb72.size
  have hl74 := sl_len (row_sl hq71 prE_len)
  have hB75 := fb_call hB57 hb72
  have hk76 := hk58.below hb72
  have hk77 := hk59.below hb72
  refine d1 7 h66 rfl rfl (op_new (v := fun N => pt N 0) (T := 83) (cs := #[.bool false, .bool false, .int .i64 0, .int .i64 0, .int .u64 0, .int .i64 0, .slice none 0 0, .nilIface]) (by kernel_rfl) (by kernel_rfl) (by kernel_rfl)) ?_ ?_; clear h66
  ·
   rintro _ w79 ⟨N80, rfl, hN83, hz84, hk82, hg81⟩
   have ha85 := row_fresh hq71 hN83
   have hz86 := hg81.size
   have hB87 := fb_new hB75 hg81
   have hk88 := hk76.kept hg81 (by simp)
   have hk89 := hk77.kept hg81 (by simp)
   exact ⟨hB87, hk88, hk89⟩
  rintro _ w79 a78 ⟨N80, rfl, hN83, hz84, hk82, hg81⟩ h78
  have ha85 := row_fresh hq71 hN83
  have hz86 := hg81.size
  try dsimp only at h78
  have hB87 := fb_new hB75 hg81
  have hk88 := hk76.kept hg81 (by simp)
  have hk89 := hk77.kept hg81 (by simp)
  have hr95 := row_kept_new hq71 hg81
  refine d1D 8 h78 rfl rfl (op_storeN rfl rfl rfl (all_cons rfl (all_cons rfl (all_cons rfl (all_cons rfl (all_cons rfl (all_cons rfl (all_cons (row_one hr95) (all_cons rfl all_nil)))))))) (by kernel_rfl) hk82 rfl) ?_ ?_; clear h78
  ·
   rintro _ w91 ⟨hk92, hz93, hg94⟩
   have hk92' : Blk w91 N80 83 #[.bool false, .bool true, .int .i64 0, .int .i64 0, .int .u64 d.tm, .int .i64 0, u70, .nilIface] := hk92; clear hk92
   have hz96 := hg94.size
   have hB97 := fb_at hB87 hg94 (fun hlt => by first | (exfalso; omega) | (simp; done) | simp_all)
   have hk98 := hk88.kept hg94 (by simp; omega)
   have hk99 := hk89.kept hg94 (by simp; omega)
   exact ⟨hB97, hk98, hk99⟩
  rintro _ w91 a90 ⟨hk92, hz93, hg94⟩ h90
  have hk92' : Blk w91 N80 83 #[.bool false, .bool true, .int .i64 0, .int .i64 0, .int .u64 d.tm, .int .i64 0, u70, .nilIface] := hk92; clear hk92
  have hz96 := hg94.size
  refine dr_done (by kernel_rfl) ?_
  refine co_then ?_
  refine co_seq ?_
  refine co_seq ?_
  refine co_reg ?_
  refine pk0 (v := pt N80 1) h90 rfl fun a97 h97 => ?_; clear h90
  refine pk (v := .bool true) h97 rfl (rn_load1 rfl rfl Try.isAgg4 (hk92'.cell rfl)) fun a98 h98 => ?_; clear h97
  refine pl_nil ?_
  refine co_then ?_
  refine co_true h98 rfl ?_
  refine co_reg ?_
  refine pk0 (v := pt tk 0) h98 rfl fun a99 h99 => ?_; clear h98
  refine pk0 (v := pt N80 2) h99 rfl fun a100 h100 => ?_; clear h99
  refine pk (v := .agg #[.int .i64 0, .int .i64 0, .int .u64 d.tm, .int .i64 0, u70]) h100 rfl (rn_loadN rfl rfl Try.underlying35 rfl (by kernel_rfl) (blk_part hk92' 2 (by rfl))) fun a101 h101 => ?_; clear h100
  have hk104 := hk88.kept hg94 (by simp; omega)
  refine pw h101 rfl (op_call (args := #[pt tk 0, .agg #[.int .i64 0, .int .i64 0, .int .u64 d.tm, .int .i64 0, u70]]) (R := fun res xw => res = .tuple #[] ∧ Blk xw tk 67 #[.iface 75 (pt B 0), .int .i64 d.rq, .int .i64 wt, .bool true, .int .i64 d.rq, .int .i64 0, .int .u64 d.tm, .int .i64 0, u70] ∧ But (fun q => q = tk) w91 xw) rfl rfl rfl (by kernel_rfl) (by kernel_rfl) (Try.call24 _ _) (aTEnd_any tk B d.rq d.tm wt u70 w91 hk104 (by first | exact row_one (by assumption) | exact sl_one (by assumption))) (by rintro e x ⟨rfl, hq105, hb106⟩; exact ⟨_, rfl, ⟨rfl, hq105, hb106⟩⟩)) ?_; clear h101
  rintro _ w103 a102 ⟨rfl, hq105, hb106⟩ h102
  have hz107 := hb106.size
  have hl108 := hq105.lt
  refine pl_nil ?_
  refine co_then ?_
  refine co_seq ?_
  refine co_seq ?_
  refine co_reg ?_
  refine pk0 (v := pt N80 7) h102 rfl fun a109 h109 => ?_; clear h102
  have hk110 := hk92'.but hb106 (by first | omega | (simp; omega))
  refine pk (v := .nilIface) h109 rfl (rn_load1 rfl rfl Try.isAgg65 (hk110.cell rfl)) fun a111 h111 => ?_; clear h109
  refine pk0 (v := .bool false) h111 rfl fun a112 h112 => ?_; clear h111
  refine pl_nil ?_
  refine co_then ?_
  refine co_false h112 rfl ?_
  refine wp_skip ?_
  refine co_then ?_
  refine co_seq ?_
  refine co_reg ?_
  refine pk0 (v := pt N80 0) h112 rfl fun a113 h113 => ?_; clear h112
  refine pk (v := .bool false) h113 rfl (rn_load1 rfl rfl Try.isAgg4 (hk110.cell rfl)) fun a114 h114 => ?_; clear h113
  refine pk0 (v := .bool false) h114 rfl fun a115 h115 => ?_; clear h114
  refine pl_nil ?_
  refine co_then ?_
  refine wp_ret ?_
  refine co_ret1 h115 rfl rfl ?_
  have hr116 := row_kept_at hr95 hg94 (ha85)
  have hr117 := own_but hr116 hb106 (fun i hi hS => by (try simp at hS); subst hS; exact absurd hi (row_ne_lt hr116 (by omega)))
  have hB118 := fb_at hB87 hg94 (fun hlt => by first | (exfalso; omega) | (simp; done) | simp_all)
  have hB119 := fb_foot hB118 hb106 (fun i hlt hS => by (try simp at hS); first | omega | (simp; omega) | simp_all)
  exact ⟨u70, rfl, (row_lows hr117 (by omega)), hq105, hB119⟩
 ·
  refine dr_op (i := 7) h65 rfl rfl rfl rfl (op_new (v := fun N => pt N 0) (T := 83) (cs := #[.bool false, .bool false, .int .i64 0, .int .i64 0, .int .u64 0, .int .i64 0, .slice none 0 0, .nilIface]) (by kernel_rfl) (by kernel_rfl) (by kernel_rfl)) ?_ ?_; clear h65
  ·
   rintro _ w121 ⟨N122, rfl, hN125, hz126, hk124, hg123⟩
   have hz127 := hg123.size
   have hB128 := fb_new hB57 hg123
   have hk129 := hk58.kept hg123 (by simp)
   have hk130 := hk59.kept hg123 (by simp)
   exact ⟨hB128, hk129, hk130⟩
  rintro _ w121 a120 ⟨N122, rfl, hN125, hz126, hk124, hg123⟩ h120
  have hz127 := hg123.size
  try dsimp only at h120
  have hB128 := fb_new hB57 hg123
  have hk129 := hk58.kept hg123 (by simp)
  have hk130 := hk59.kept hg123 (by simp)
  have hk133 := hk28.below hb29
  have hk134 := hk133.kept hg51 (by simp)
  have hk135 := hk134.kept hg123 (by simp)
  refine d1 6 h120 rfl rfl (op_callI (recv := pt B 0) (args := #[pt B 0, .int .i64 d.nd, .agg #[.int .i64 10, .int .i64 0, .int .i64 d.rq, .int .i64 0, .bool fg, .int .u64 d.tm, .int .u64 0, .int .i64 0, .int .i64 0, .int .i64 0, .int .i64 0, .string d.key, .string (⟨#[]⟩), .int .i64 0, .slice none 0 0, .int .u64 0, .int .i64 0, .int .i64 0, .slice none 0 0, .slice none 0 0, .slice none 0 0, v2]]) (R := fun res xw => ∃ u : Value, res = .agg #[.bool false, .bool true, .int .i64 0, .int .i64 0, .int .u64 d.tm, .int .i64 0, u, .nilIface] ∧ xw.ownsRow w121.heap.size 57 2 u (d.prs ++ pl.take (pgN d pl)).length ((d.prs ++ pl.take (pgN d pl)).flatMap prE) ∧ Below w121.heap.size w121 xw) rfl rfl rfl (by kernel_rfl) (by kernel_rfl) (by kernel_rfl) (Try.call91 _ _) (aTakeD_any B d ov pv fg v2 pl w121 hk135 (sl_butS hp hB128 hpt) (by first | omega | decide | (dsimp only; omega)) (by first | omega | decide | (dsimp only; omega)) (sl_butS hp2 hB128 hp2t) (by first | omega | decide | (dsimp only; omega)) hok2 (by first | omega | (simp; done) | (simp; omega))) (by rintro e x ⟨u, rfl, hq137, hb138⟩; exact ⟨_, rfl, ⟨u, rfl, hq137, hb138⟩⟩)) ?_ ?_; clear h120
  ·
   rintro _ w132 ⟨u136, rfl, hq137, hb138⟩
   have hz139 := hb138.size
   have hl140 := sl_len (row_sl hq137 prE_len)
   have hB141 := fb_call hB128 hb138
   have hk142 := hk129.below hb138
   have hk143 := hk130.below hb138
   exact ⟨hB141, hk142, hk143⟩
  rintro _ w132 a131 ⟨u136, rfl, hq137, hb138⟩ h131
  have hz139 := hb138.size
  have hl140 := sl_len (row_sl hq137 prE_len)
  have hB141 := fb_call hB128 hb138
  have hk142 := hk129.below hb138
  have hk143 := hk130.below hb138
  have hk149 := hk124.below hb138
  refine d1D 8 h131 rfl rfl (op_storeN rfl rfl rfl (all_cons rfl (all_cons rfl (all_cons rfl (all_cons rfl (all_cons rfl (all_cons rfl (all_cons (row_one hq137) (all_cons rfl all_nil)))))))) (by kernel_rfl) hk149 rfl) ?_ ?_; clear h131
  ·
   rintro _ w145 ⟨hk146, hz147, hg148⟩
   have hk146' : Blk w145 N122 83 #[.bool false, .bool true, .int .i64 0, .int .i64 0, .int .u64 d.tm, .int .i64 0, u136, .nilIface] := hk146; clear hk146
   have hz150 := hg148.size
   have hB151 := fb_at hB141 hg148 (fun hlt => by first | (exfalso; omega) | (simp; done) | simp_all)
   have hk152 := hk142.kept hg148 (by simp; omega)
   have hk153 := hk143.kept hg148 (by simp; omega)
   exact ⟨hB151, hk152, hk153⟩
  rintro _ w145 a144 ⟨hk146, hz147, hg148⟩ h144
  have hk146' : Blk w145 N122 83 #[.bool false, .bool true, .int .i64 0, .int .i64 0, .int .u64 d.tm, .int .i64 0, u136, .nilIface] := hk146; clear hk146
  have hz150 := hg148.size
  refine dr_done (by kernel_rfl) ?_
  refine co_then ?_
  refine co_seq ?_
  refine co_seq ?_
  refine co_reg ?_
  refine pk0 (v := pt N122 1) h144 rfl fun a151 h151 => ?_; clear h144
  refine pk (v := .bool true) h151 rfl (rn_load1 rfl rfl Try.isAgg4 (hk146'.cell rfl)) fun a152 h152 => ?_; clear h151
  refine pl_nil ?_
  refine co_then ?_
  refine co_true h152 rfl ?_
  refine co_reg ?_
  refine pk0 (v := pt tk 0) h152 rfl fun a153 h153 => ?_; clear h152
  refine pk0 (v := pt N122 2) h153 rfl fun a154 h154 => ?_; clear h153
  refine pk (v := .agg #[.int .i64 0, .int .i64 0, .int .u64 d.tm, .int .i64 0, u136]) h154 rfl (rn_loadN rfl rfl Try.underlying35 rfl (by kernel_rfl) (blk_part hk146' 2 (by rfl))) fun a155 h155 => ?_; clear h154
  have hk158 := hk142.kept hg148 (by simp; omega)
  refine pw h155 rfl (op_call (args := #[pt tk 0, .agg #[.int .i64 0, .int .i64 0, .int .u64 d.tm, .int .i64 0, u136]]) (R := fun res xw => res = .tuple #[] ∧ Blk xw tk 67 #[.iface 75 (pt B 0), .int .i64 d.rq, .int .i64 wt, .bool true, .int .i64 d.rq, .int .i64 0, .int .u64 d.tm, .int .i64 0, u136] ∧ But (fun q => q = tk) w145 xw) rfl rfl rfl (by kernel_rfl) (by kernel_rfl) (Try.call24 _ _) (aTEnd_any tk B d.rq d.tm wt u136 w145 hk158 (by first | exact row_one (by assumption) | exact sl_one (by assumption))) (by rintro e x ⟨rfl, hq159, hb160⟩; exact ⟨_, rfl, ⟨rfl, hq159, hb160⟩⟩)) ?_; clear h155
  rintro _ w157 a156 ⟨rfl, hq159, hb160⟩ h156
  have hz161 := hb160.size
  have hl162 := hq159.lt
  refine pl_nil ?_
  refine co_then ?_
  refine co_seq ?_
  refine co_seq ?_
  refine co_reg ?_
  refine pk0 (v := pt N122 7) h156 rfl fun a163 h163 => ?_; clear h156
  have hk164 := hk146'.but hb160 (by first | omega | (simp; omega))
  refine pk (v := .nilIface) h163 rfl (rn_load1 rfl rfl Try.isAgg65 (hk164.cell rfl)) fun a165 h165 => ?_; clear h163
  refine pk0 (v := .bool false) h165 rfl fun a166 h166 => ?_; clear h165
  refine pl_nil ?_
  refine co_then ?_
  refine co_false h166 rfl ?_
  refine wp_skip ?_
  refine co_then ?_
  refine co_seq ?_
  refine co_reg ?_
  refine pk0 (v := pt N122 0) h166 rfl fun a167 h167 => ?_; clear h166
  refine pk (v := .bool false) h167 rfl (rn_load1 rfl rfl Try.isAgg4 (hk164.cell rfl)) fun a168 h168 => ?_; clear h167
  refine pk0 (v := .bool false) h168 rfl fun a169 h169 => ?_; clear h168
  refine pl_nil ?_
  refine co_then ?_
  refine wp_ret ?_
  refine co_ret1 h169 rfl rfl ?_
  have hr170 := row_kept_at hq137 hg148 (own_neT hq137 hk149 (by decide))
  have hr171 := own_but hr170 hb160 (fun i hi hS => by (try simp at hS); subst hS; exact absurd hi (row_ne_lt hr170 (by omega)))
  have hB172 := fb_at hB141 hg148 (fun hlt => by first | (exfalso; omega) | (simp; done) | simp_all)
  have hB173 := fb_foot hB172 hb160 (fun i hlt hS => by (try simp at hS); first | omega | (simp; omega) | simp_all)
  exact ⟨u136, rfl, (row_lows hr171 (by omega)), hq159, hB173⟩
set_option maxRecDepth 100000 in
theorem aReplica_any (z : Int) (w : World) (hz : 0 ≤ z ∧ z ≤ 3) :
    Calls Try.prog 28 #[.int .i64 z] w fun e w' => e = .returned (.bool true) ∧ Below w.heap.size w w' := by
 have hB0 := Below.refl w.heap.size w
 refine co_enter (n := 9) Try.func28 rfl rfl rfl [(0, .int .i64 z)] rfl (fun a h0 => ?_)
 refine co_seq ?_
 refine co_reg ?_
 refine pk0 (v := .bool false) h0 rfl fun a1 h1 => ?_; clear h0
 refine pl_nil ?_
 refine co_then ?_
 refine co_seq ?_
 refine co_reg ?_
 refine pk0 (v := .int .i64 z) h1 rfl fun a2 h2 => ?_; clear h1
 refine pk0 (v := .bool (decide (z ≥ 0))) h2 rfl fun a3 h3 => ?_; clear h2
 refine pk0 (v := .bool (decide (z ≥ 0))) h3 rfl fun a4 h4 => ?_; clear h3
 have hc5 : (decide (z ≥ 0)) = true := decide_eq_true (by omega)
 rw [hc5] at h4; clear hc5
 refine pk0 (v := .int .i64 z) h4 rfl fun a6 h6 => ?_; clear h4
 refine pk0 (v := .bool (decide (z < 4))) h6 rfl fun a7 h7 => ?_; clear h6
 refine pk0 (v := .bool (decide (z < 4))) h7 rfl fun a8 h8 => ?_; clear h7
 refine pk0 (v := .bool (decide (z < 4))) h8 rfl fun a9 h9 => ?_; clear h8
 refine pl_nil ?_
 refine co_then ?_
 refine wp_ret ?_
 refine co_ret1 h9 rfl rfl ?_
 exact ⟨ret_bool (by first | rfl | exact decide_eq_true (by omega)), hB0⟩
set_option maxRecDepth 100000 in
theorem aCheckS_any (c : Int) (rq : Int) (nd : Int) (ky : ByteArray) (to_ : ByteArray) (tm : Int) (n : Int) (w : World) (hc : 0 ≤ c ∧ c ≤ 2) (hrq : 1 ≤ rq ∧ rq ≤ 1073741824) (hnd : 0 ≤ nd ∧ nd ≤ 3) (hky : ky.size ≤ 8) (hto : to_.size ≤ 8) (hn : 1 ≤ n ∧ n ≤ 32) :
    Calls Try.prog 20 #[.int .i64 c, .int .i64 rq, .agg #[.int .i64 2, .int .i64 nd, .string ky, .string to_, .int .u64 tm, .int .i64 n, .slice none 0 0]] w fun e w' => e = .returned (.bool true) ∧ Below w.heap.size w w' := by
 have hB0 := Below.refl w.heap.size w
 refine co_enter (n := 72) Try.func20 rfl rfl rfl [(0, .int .i64 c), (1, .int .i64 rq), (2, .agg #[.int .i64 2, .int .i64 nd, .string ky, .string to_, .int .u64 tm, .int .i64 n, .slice none 0 0])] rfl (fun a h0 => ?_)
 refine co_seq ?_
 refine co_reg ?_
 refine pw h0 rfl (op_new (v := fun N => pt N 0) (T := 25) (cs := #[.int .i64 2, .int .i64 nd, .string ky, .string to_, .int .u64 tm, .int .i64 n, .slice none 0 0]) (by kernel_rfl) (by kernel_rfl) (by kernel_rfl)) ?_; clear h0
 rintro _ w2 a1 ⟨N3, rfl, hN6, hz7, hk5, hg4⟩ h1
 have hz8 := hg4.size
 try dsimp only at h1
 refine pk0 (v := .bool false) h1 rfl fun a9 h9 => ?_; clear h1
 refine pl_nil ?_
 refine co_then ?_
 refine co_seq ?_
 refine co_reg ?_
 refine pk0 (v := pt N3 1) h9 rfl fun a10 h10 => ?_; clear h9
 refine pk (v := .int .i64 nd) h10 rfl (rn_load1 rfl rfl Try.isAgg3 (hk5.cell rfl)) fun a11 h11 => ?_; clear h10
 refine pw h11 rfl (op_call (args := #[.int .i64 nd]) (R := fun res xw => res = .bool true ∧ Below w2.heap.size w2 xw) rfl rfl rfl (by kernel_rfl) (by kernel_rfl) (Try.call28 _ _) (aReplica_any nd w2 (by first | omega | (simp; done) | (simp; omega))) (by rintro e x ⟨rfl, hb14⟩; exact ⟨_, rfl, ⟨rfl, hb14⟩⟩)) ?_; clear h11
 rintro _ w13 a12 ⟨rfl, hb14⟩ h12
 have hz15 := hb14.size
 refine pk0 (v := .bool true) h12 rfl fun a16 h16 => ?_; clear h12
 refine pl_nil ?_
 refine co_then ?_
 refine co_seq ?_
 refine co_seq ?_
 refine co_reg ?_
 refine pk0 (v := pt N3 0) h16 rfl fun a17 h17 => ?_; clear h16
 have hk18 := hk5.below hb14
 refine pk (v := .int .i64 2) h17 rfl (rn_load1 rfl rfl Try.isAgg3 (hk18.cell rfl)) fun a19 h19 => ?_; clear h17
 refine pl_nil ?_
 refine co_then ?_
 refine wp_block ?_
 refine co_seq ?_
 refine co_reg ?_
 refine pk0 (v := .bool ((2 : Int) == 0)) h19 rfl fun a20 h20 => ?_; clear h19
 refine pk0 (v := .bool ((2 : Int) == 0)) h20 rfl fun a21 h21 => ?_; clear h20
 refine pl_nil ?_
 refine co_then ?_
 have hc22 : ((2 : Int) == 0) = false := by first | (simp; done) | (simp; omega) | exact beq_false_of_ne (by omega) | exact beq_iff_eq.2 (by omega)
 rw [hc22] at h21; clear hc22
 refine co_false h21 rfl ?_
 refine co_seq ?_
 refine co_seq ?_
 refine co_reg ?_
 refine pk0 (v := .bool ((2 : Int) == 1)) h21 rfl fun a23 h23 => ?_; clear h21
 refine pk0 (v := .bool ((2 : Int) == 1)) h23 rfl fun a24 h24 => ?_; clear h23
 refine pl_nil ?_
 refine co_then ?_
 have hc25 : ((2 : Int) == 1) = false := by first | (simp; done) | (simp; omega) | exact beq_false_of_ne (by omega) | exact beq_iff_eq.2 (by omega)
 rw [hc25] at h24; clear hc25
 refine co_false h24 rfl ?_
 refine co_reg ?_
 refine pk0 (v := .bool ((2 : Int) == 3)) h24 rfl fun a26 h26 => ?_; clear h24
 refine pk0 (v := .bool ((2 : Int) == 3)) h26 rfl fun a27 h27 => ?_; clear h26
 refine pl_nil ?_
 refine co_then ?_
 have hc28 : ((2 : Int) == 3) = false := by first | (simp; done) | (simp; omega) | exact beq_false_of_ne (by omega) | exact beq_iff_eq.2 (by omega)
 rw [hc28] at h27; clear hc28
 refine co_false h27 rfl ?_
 refine co_seq ?_
 refine co_reg ?_
 refine pk0 (v := .bool ((2 : Int) == 2)) h27 rfl fun a29 h29 => ?_; clear h27
 refine pk0 (v := .bool ((2 : Int) == 2)) h29 rfl fun a30 h30 => ?_; clear h29
 refine pl_nil ?_
 refine co_then ?_
 have hc31 : ((2 : Int) == 2) = true := by first | (simp; done) | (simp; omega) | exact beq_false_of_ne (by omega) | exact beq_iff_eq.2 (by omega)
 rw [hc31] at h30; clear hc31
 refine co_true h30 rfl ?_
 refine co_seq ?_
 refine co_reg ?_
 refine pk0 (v := .bool true) h30 rfl fun a32 h32 => ?_; clear h30
 refine pk0 (v := .bool true) h32 rfl fun a33 h33 => ?_; clear h32
 refine pk0 (v := pt N3 2) h33 rfl fun a34 h34 => ?_; clear h33
 refine pk (v := .string ky) h34 rfl (rn_load1 rfl rfl Try.isAgg9 (hk18.cell rfl)) fun a35 h35 => ?_; clear h34
 refine pk (v := .int .i64 ((ky.size : Nat) : Int)) h35 rfl (rn_lenStr rfl rfl Try.underlying9) fun a36 h36 => ?_; clear h35
 refine pk0 (v := .bool (decide (((ky.size : Nat) : Int) ≤ 8))) h36 rfl fun a37 h37 => ?_; clear h36
 refine pk0 (v := .bool (decide (((ky.size : Nat) : Int) ≤ 8))) h37 rfl fun a38 h38 => ?_; clear h37
 refine pk0 (v := .bool (decide (((ky.size : Nat) : Int) ≤ 8))) h38 rfl fun a39 h39 => ?_; clear h38
 have hc40 : (decide (((ky.size : Nat) : Int) ≤ 8)) = true := decide_eq_true (by omega)
 rw [hc40] at h39; clear hc40
 refine pk0 (v := pt N3 3) h39 rfl fun a41 h41 => ?_; clear h39
 refine pk (v := .string to_) h41 rfl (rn_load1 rfl rfl Try.isAgg9 (hk18.cell rfl)) fun a42 h42 => ?_; clear h41
 refine pk (v := .int .i64 ((to_.size : Nat) : Int)) h42 rfl (rn_lenStr rfl rfl Try.underlying9) fun a43 h43 => ?_; clear h42
 refine pk0 (v := .bool (decide (((to_.size : Nat) : Int) ≤ 8))) h43 rfl fun a44 h44 => ?_; clear h43
 refine pk0 (v := .bool (decide (((to_.size : Nat) : Int) ≤ 8))) h44 rfl fun a45 h45 => ?_; clear h44
 refine pk0 (v := .bool (decide (((to_.size : Nat) : Int) ≤ 8))) h45 rfl fun a46 h46 => ?_; clear h45
 have hc47 : (decide (((to_.size : Nat) : Int) ≤ 8)) = true := decide_eq_true (by omega)
 rw [hc47] at h46; clear hc47
 refine pk0 (v := pt N3 5) h46 rfl fun a48 h48 => ?_; clear h46
 refine pk (v := .int .i64 n) h48 rfl (rn_load1 rfl rfl Try.isAgg3 (hk18.cell rfl)) fun a49 h49 => ?_; clear h48
 refine pk0 (v := .bool (decide (n ≥ 1))) h49 rfl fun a50 h50 => ?_; clear h49
 refine pk0 (v := .bool (decide (n ≥ 1))) h50 rfl fun a51 h51 => ?_; clear h50
 refine pk0 (v := .bool (decide (n ≥ 1))) h51 rfl fun a52 h52 => ?_; clear h51
 have hc53 : (decide (n ≥ 1)) = true := decide_eq_true (by omega)
 rw [hc53] at h52; clear hc53
 refine pk0 (v := pt N3 5) h52 rfl fun a54 h54 => ?_; clear h52
 refine pk (v := .int .i64 n) h54 rfl (rn_load1 rfl rfl Try.isAgg3 (hk18.cell rfl)) fun a55 h55 => ?_; clear h54
 refine pk0 (v := .bool (decide (n ≤ 32))) h55 rfl fun a56 h56 => ?_; clear h55
 refine pk0 (v := .bool (decide (n ≤ 32))) h56 rfl fun a57 h57 => ?_; clear h56
 refine pk0 (v := .bool (decide (n ≤ 32))) h57 rfl fun a58 h58 => ?_; clear h57
 refine pl_nil ?_
 refine co_then ?_
 refine wp_ret ?_
 refine co_blockR ?_
 refine co_thenR ?_
 refine co_ret1 h58 rfl rfl ?_
 have hB59 := hb_new hB0 hg4
 have hB60 := hb_call hB59 hb14
 exact ⟨ret_bool (by first | rfl | exact decide_eq_true (by omega)), hB60⟩
set_option maxRecDepth 100000 in
theorem aCloneOpZ  (w : World)  :
    Calls Try.prog 32 #[.slice none 0 0] w fun e w' => ∃ (u : Value), e = .returned (u) ∧ w'.ownsRow w.heap.size 59 3 u ([] : List OpT).length (([] : List OpT).flatMap opE) ∧ Below w.heap.size w w' := by
 have hB0 := Below.refl w.heap.size w
 refine co_enter (n := 8) Try.func32 rfl rfl rfl [(0, .slice none 0 0)] rfl (fun a h0 => ?_)
 refine co_seq ?_
 refine co_reg ?_
 refine pk0 (v := .slice none 0 0) h0 rfl fun a1 h1 => ?_; clear h0
 refine pl_nil ?_
 refine co_then ?_
 refine co_seq ?_
 refine co_seq ?_
 refine co_reg ?_
 refine pk0 (v := .slice none 0 0) h1 rfl fun a2 h2 => ?_; clear h1
 refine pk0 (v := .bool true) h2 rfl fun a3 h3 => ?_; clear h2
 refine pl_nil ?_
 refine co_then ?_
 refine co_true h3 rfl ?_
 refine co_seq ?_
 refine co_reg ?_
 refine pk0 (v := .slice none 0 0) h3 rfl fun a4 h4 => ?_; clear h3
 refine pl_nil ?_
 refine co_then ?_
 refine wp_ret ?_
 refine co_thenR ?_
 refine co_ret1 h4 rfl rfl ?_
 exact ⟨_, rfl, (row_nilL _ _ _ _ _), hB0⟩
set_option maxRecDepth 100000 in
theorem aFreshAskZ (nd : Int) (ky : ByteArray) (to_ : ByteArray) (tm : Int) (n : Int) (w : World)  :
    Calls Try.prog 21 #[.agg #[.int .i64 2, .int .i64 nd, .string ky, .string to_, .int .u64 tm, .int .i64 n, .slice none 0 0]] w fun e w' => ∃ (u : Value), e = .returned (.agg #[.int .i64 2, .int .i64 nd, .string ky, .string to_, .int .u64 tm, .int .i64 n, u]) ∧ w'.ownsRow w.heap.size 59 3 u ([] : List OpT).length (([] : List OpT).flatMap opE) ∧ Below w.heap.size w w' := by
 have hB0 := Below.refl w.heap.size w
 refine co_enter (n := 8) Try.func21 rfl rfl rfl [(0, .agg #[.int .i64 2, .int .i64 nd, .string ky, .string to_, .int .u64 tm, .int .i64 n, .slice none 0 0])] rfl (fun a h0 => ?_)
 refine co_seq ?_
 refine co_reg ?_
 refine pw h0 rfl (op_new (v := fun N => pt N 0) (T := 25) (cs := #[.int .i64 2, .int .i64 nd, .string ky, .string to_, .int .u64 tm, .int .i64 n, .slice none 0 0]) (by kernel_rfl) (by kernel_rfl) (by kernel_rfl)) ?_; clear h0
 rintro _ w2 a1 ⟨N3, rfl, hN6, hz7, hk5, hg4⟩ h1
 have hz8 := hg4.size
 try dsimp only at h1
 refine pw h1 rfl (op_new (v := fun N => pt N 0) (T := 25) (cs := #[.int .i64 0, .int .i64 0, .string (⟨#[]⟩), .string (⟨#[]⟩), .int .u64 0, .int .i64 0, .slice none 0 0]) (by kernel_rfl) (by kernel_rfl) (by kernel_rfl)) ?_; clear h1
 rintro _ w10 a9 ⟨N11, rfl, hN14, hz15, hk13, hg12⟩ h9
 have hz16 := hg12.size
 try dsimp only at h9
 refine pl_nil ?_
 refine co_then ?_
 refine co_seq ?_
 refine co_reg ?_
 refine pk0 (v := pt N3 6) h9 rfl fun a17 h17 => ?_; clear h9
 have hk18 := hk5.kept hg12 (by simp)
 refine pk (v := .slice none 0 0) h17 rfl (rn_load1 rfl rfl Try.isAgg23 (hk18.cell rfl)) fun a19 h19 => ?_; clear h17
 refine pw h19 rfl (op_call (args := #[.slice none 0 0]) (R := fun res xw => ∃ u : Value, res = u ∧ xw.ownsRow w10.heap.size 59 3 u ([] : List OpT).length (([] : List OpT).flatMap opE) ∧ Below w10.heap.size w10 xw) rfl rfl rfl (by kernel_rfl) (by kernel_rfl) (Try.call32 _ _) (aCloneOpZ  w10 ) (by rintro e x ⟨u, rfl, hq23, hb24⟩; exact ⟨_, rfl, ⟨u, rfl, hq23, hb24⟩⟩)) ?_; clear h19
 rintro u22 w21 a20 ⟨_, rfl, hq23, hb24⟩ h20
 have hz25 := hb24.size
 have hl26 := sl_len (row_sl hq23 opE_len)
 refine pk0 (v := pt N3 6) h20 rfl fun a27 h27 => ?_; clear h20
 have hk33 := hk18.below hb24
 refine pwD h27 rfl (op_store1 rfl rfl rfl (row_one hq23) Try.sizeOf23 hk33 rfl) ?_; clear h27
 rintro _ w29 a28 ⟨hk30, hz31, hg32⟩ h28
 have hk30' : Blk w29 N3 25 #[.int .i64 2, .int .i64 nd, .string ky, .string to_, .int .u64 tm, .int .i64 n, u22] := hk30; clear hk30
 have hz34 := hg32.size
 refine pl_nil ?_
 refine co_then ?_
 refine co_seq ?_
 refine co_reg ?_
 refine pk (v := .agg #[.int .i64 2, .int .i64 nd, .string ky, .string to_, .int .u64 tm, .int .i64 n, u22]) h28 rfl (rn_loadN rfl rfl Try.underlying25 rfl (by kernel_rfl) hk30'.all) fun a35 h35 => ?_; clear h28
 have hr41 := row_kept_at hq23 hg32 (own_neT hq23 hk33 (by decide))
 have hk42 := hk13.below hb24
 have hk43 := hk42.kept hg32 (by simp; omega)
 refine pwD h35 rfl (op_storeN rfl rfl rfl (all_cons rfl (all_cons rfl (all_cons rfl (all_cons rfl (all_cons rfl (all_cons rfl (all_cons (row_one hr41) all_nil))))))) (by kernel_rfl) hk43 rfl) ?_; clear h35
 rintro _ w37 a36 ⟨hk38, hz39, hg40⟩ h36
 have hk38' : Blk w37 N11 25 #[.int .i64 2, .int .i64 nd, .string ky, .string to_, .int .u64 tm, .int .i64 n, u22] := hk38; clear hk38
 have hz44 := hg40.size
 refine pl_nil ?_
 refine co_then ?_
 refine wp_ret ?_
 refine co_retC (Q := fun _ _ _ => True) h36 rfl rfl hk38' Try.underlying25 rfl (by kernel_rfl) ?_
 have hr45 := row_kept_at hr41 hg40 (own_neT hr41 hk43 (by decide))
 have hB46 := hb_new hB0 hg4
 have hB47 := hb_new hB46 hg12
 have hB48 := hb_call hB47 hb24
 have hB49 := hb_at hB48 hg32 (by omega)
 have hB50 := hb_at hB49 hg40 (by omega)
 exact ⟨_, rfl, (row_lows hr45 (by omega)), hB50⟩
set_option maxRecDepth 100000 in
set_option maxHeartbeats 1600000 in
theorem aTNew_any (c : Int) (rq : Int) (nd : Int) (ky : ByteArray) (to_ : ByteArray) (tm : Int) (n : Int) (w : World) (hc : 0 ≤ c ∧ c ≤ 2) (hrq : 1 ≤ rq ∧ rq ≤ 1073741824) (hnd : 0 ≤ nd ∧ nd ≤ 3) (hky : ky.size ≤ 8) (hto : to_.size ≤ 8) (hn : 1 ≤ n ∧ n ≤ 32) :
    Calls Try.prog 8 #[.int .i64 c, .int .i64 rq, .agg #[.int .i64 2, .int .i64 nd, .string ky, .string to_, .int .u64 tm, .int .i64 n, .slice none 0 0]] w fun e w' => ∃ (tk : Nat) (nb : Nat) (u : Value), e = .returned (.tuple #[pt tk 0, .int .i64 0]) ∧ w'.ownsRow w.heap.size 59 3 u ([] : List OpT).length (([] : List OpT).flatMap opE) ∧ Blk w' tk 67 #[.iface 75 (pt nb 0), .int .i64 rq, .int .i64 0, .bool false, .int .i64 0, .int .i64 0, .int .u64 0, .int .i64 0, .slice none 0 0] ∧ Blk w' nb 77 #[.int .i64 c, .int .i64 rq, .int .i64 2, .int .i64 nd, .string ky, .string to_, .int .u64 tm, .int .i64 n, u, .int .u64 tm, .string ky, .slice none 0 0] ∧ w.heap.size ≤ tk ∧ w.heap.size ≤ nb ∧ tk ≠ nb ∧ Below w.heap.size w w' := by
 have hB0 := Below.refl w.heap.size w
 refine co_enter (n := 69) Try.func8 rfl rfl rfl [(0, .int .i64 c), (1, .int .i64 rq), (2, .agg #[.int .i64 2, .int .i64 nd, .string ky, .string to_, .int .u64 tm, .int .i64 n, .slice none 0 0])] rfl (fun a h0 => ?_)
 refine co_seq ?_
 refine co_reg ?_
 refine pw h0 rfl (op_new (v := fun N => pt N 0) (T := 25) (cs := #[.int .i64 2, .int .i64 nd, .string ky, .string to_, .int .u64 tm, .int .i64 n, .slice none 0 0]) (by kernel_rfl) (by kernel_rfl) (by kernel_rfl)) ?_; clear h0
 rintro _ w2 a1 ⟨N3, rfl, hN6, hz7, hk5, hg4⟩ h1
 have hz8 := hg4.size
 try dsimp only at h1
 refine pk0 (v := .pointer none) h1 rfl fun a9 h9 => ?_; clear h1
 refine pk0 (v := .int .i64 0) h9 rfl fun a10 h10 => ?_; clear h9
 refine pl_nil ?_
 refine co_then ?_
 refine co_seq ?_
 refine co_seq ?_
 refine co_reg ?_
 refine pk0 (v := .int .i64 c) h10 rfl fun a11 h11 => ?_; clear h10
 refine pk0 (v := .bool (decide (c < 0))) h11 rfl fun a12 h12 => ?_; clear h11
 refine pk0 (v := .bool (decide (c < 0))) h12 rfl fun a13 h13 => ?_; clear h12
 have hc14 : (decide (c < 0)) = false := decide_eq_false (by omega)
 rw [hc14] at h13; clear hc14
 refine pk0 (v := .int .i64 c) h13 rfl fun a15 h15 => ?_; clear h13
 refine pk0 (v := .bool (decide (c ≥ 3))) h15 rfl fun a16 h16 => ?_; clear h15
 refine pk0 (v := .bool (decide (c ≥ 3))) h16 rfl fun a17 h17 => ?_; clear h16
 refine pl_nil ?_
 refine co_then ?_
 have hc18 : (decide (c ≥ 3)) = false := decide_eq_false (by omega)
 rw [hc18] at h17; clear hc18
 refine co_false h17 rfl ?_
 refine wp_skip ?_
 refine co_then ?_
 refine co_seq ?_
 refine co_seq ?_
 refine co_reg ?_
 refine pk0 (v := .int .i64 rq) h17 rfl fun a19 h19 => ?_; clear h17
 refine pk0 (v := .bool (decide (rq < 1))) h19 rfl fun a20 h20 => ?_; clear h19
 refine pk0 (v := .bool (decide (rq < 1))) h20 rfl fun a21 h21 => ?_; clear h20
 have hc22 : (decide (rq < 1)) = false := decide_eq_false (by omega)
 rw [hc22] at h21; clear hc22
 refine pk0 (v := .int .i64 rq) h21 rfl fun a23 h23 => ?_; clear h21
 refine pk0 (v := .bool (decide (rq > 1073741824))) h23 rfl fun a24 h24 => ?_; clear h23
 refine pk0 (v := .bool (decide (rq > 1073741824))) h24 rfl fun a25 h25 => ?_; clear h24
 refine pl_nil ?_
 refine co_then ?_
 have hc26 : (decide (rq > 1073741824)) = false := decide_eq_false (by omega)
 rw [hc26] at h25; clear hc26
 refine co_false h25 rfl ?_
 refine wp_skip ?_
 refine co_then ?_
 refine co_seq ?_
 refine co_seq ?_
 refine co_reg ?_
 refine pk0 (v := .int .i64 c) h25 rfl fun a27 h27 => ?_; clear h25
 refine pk0 (v := .int .i64 rq) h27 rfl fun a28 h28 => ?_; clear h27
 refine pk (v := .agg #[.int .i64 2, .int .i64 nd, .string ky, .string to_, .int .u64 tm, .int .i64 n, .slice none 0 0]) h28 rfl (rn_loadN rfl rfl Try.underlying25 rfl (by kernel_rfl) hk5.all) fun a29 h29 => ?_; clear h28
 refine pw h29 rfl (op_call (args := #[.int .i64 c, .int .i64 rq, .agg #[.int .i64 2, .int .i64 nd, .string ky, .string to_, .int .u64 tm, .int .i64 n, .slice none 0 0]]) (R := fun res xw => res = .bool true ∧ Below w2.heap.size w2 xw) rfl rfl rfl (by kernel_rfl) (by kernel_rfl) (Try.call20 _ _) (aCheckS_any c rq nd ky to_ tm n w2 (by first | omega | (simp; done) | (simp; omega)) (by first | omega | (simp; done) | (simp; omega)) (by first | omega | (simp; done) | (simp; omega)) (by first | omega | decide | (dsimp only; omega)) (by first | omega | decide | (dsimp only; omega)) (by first | omega | (simp; done) | (simp; omega))) (by rintro e x ⟨rfl, hb32⟩; exact ⟨_, rfl, ⟨rfl, hb32⟩⟩)) ?_; clear h29
 rintro _ w31 a30 ⟨rfl, hb32⟩ h30
 have hz33 := hb32.size
 refine pk0 (v := .bool false) h30 rfl fun a34 h34 => ?_; clear h30
 refine pl_nil ?_
 refine co_then ?_
 refine co_false h34 rfl ?_
 refine wp_skip ?_
 refine co_then ?_
 refine co_seq ?_
 refine co_reg ?_
 refine pk0 (v := .int .i64 c) h34 rfl fun a35 h35 => ?_; clear h34
 refine pk0 (v := .int .i64 rq) h35 rfl fun a36 h36 => ?_; clear h35
 have hk37 := hk5.below hb32
 refine pk (v := .agg #[.int .i64 2, .int .i64 nd, .string ky, .string to_, .int .u64 tm, .int .i64 n, .slice none 0 0]) h36 rfl (rn_loadN rfl rfl Try.underlying25 rfl (by kernel_rfl) hk37.all) fun a38 h38 => ?_; clear h36
 refine pw h38 rfl (op_call (args := #[.agg #[.int .i64 2, .int .i64 nd, .string ky, .string to_, .int .u64 tm, .int .i64 n, .slice none 0 0]]) (R := fun res xw => ∃ u : Value, res = .agg #[.int .i64 2, .int .i64 nd, .string ky, .string to_, .int .u64 tm, .int .i64 n, u] ∧ xw.ownsRow w31.heap.size 59 3 u ([] : List OpT).length (([] : List OpT).flatMap opE) ∧ Below w31.heap.size w31 xw) rfl rfl rfl (by kernel_rfl) (by kernel_rfl) (Try.call21 _ _) (aFreshAskZ nd ky to_ tm n w31 ) (by rintro e x ⟨u, rfl, hq42, hb43⟩; exact ⟨_, rfl, ⟨u, rfl, hq42, hb43⟩⟩)) ?_; clear h38
 rintro _ w40 a39 ⟨u41, rfl, hq42, hb43⟩ h39
 have hz44 := hb43.size
 have hl45 := sl_len (row_sl hq42 opE_len)
 refine pk0 (v := .agg #[.int .i64 c, .int .i64 rq, .int .i64 2, .int .i64 nd, .string ky, .string to_, .int .u64 tm, .int .i64 n, u41]) h39 rfl fun a46 h46 => ?_; clear h39
 refine pw h46 rfl (op_new (v := fun N => pt N 0) (T := 71) (cs := #[.int .i64 0, .int .i64 0, .int .i64 0, .int .i64 0, .string (⟨#[]⟩), .string (⟨#[]⟩), .int .u64 0, .int .i64 0, .slice none 0 0]) (by kernel_rfl) (by kernel_rfl) (by kernel_rfl)) ?_; clear h46
 rintro _ w48 a47 ⟨N49, rfl, hN52, hz53, hk51, hg50⟩ h47
 have ha54 := row_fresh hq42 hN52
 have hz55 := hg50.size
 try dsimp only at h47
 have hr61 := row_kept_new hq42 hg50
 refine pwD h47 rfl (op_storeN rfl rfl rfl (all_cons rfl (all_cons rfl (all_cons rfl (all_cons rfl (all_cons rfl (all_cons rfl (all_cons rfl (all_cons rfl (all_cons (row_one hr61) all_nil))))))))) (by kernel_rfl) hk51 rfl) ?_; clear h47
 rintro _ w57 a56 ⟨hk58, hz59, hg60⟩ h56
 have hk58' : Blk w57 N49 71 #[.int .i64 c, .int .i64 rq, .int .i64 2, .int .i64 nd, .string ky, .string to_, .int .u64 tm, .int .i64 n, u41] := hk58; clear hk58
 have hz62 := hg60.size
 refine pl_nil ?_
 refine co_then ?_
 refine co_seq ?_
 refine co_reg ?_
 refine pk0 (v := .int .i64 rq) h56 rfl fun a63 h63 => ?_; clear h56
 refine pk0 (v := .agg #[.nilIface, .int .i64 rq, .int .i64 0, .bool false, .int .i64 0, .int .i64 0, .int .u64 0, .int .i64 0, .slice none 0 0]) h63 rfl fun a64 h64 => ?_; clear h63
 refine pw h64 rfl (op_new (v := fun N => pt N 0) (T := 67) (cs := #[.nilIface, .int .i64 rq, .int .i64 0, .bool false, .int .i64 0, .int .i64 0, .int .u64 0, .int .i64 0, .slice none 0 0]) (by kernel_rfl) (by kernel_rfl) (by kernel_rfl)) ?_; clear h64
 rintro _ w66 a65 ⟨N67, rfl, hN70, hz71, hk69, hg68⟩ h65
 have hr73 := row_kept_at hr61 hg60 (ha54)
 have ha72 := row_fresh hr73 hN70
 have hz74 := hg68.size
 try dsimp only at h65
 refine pk0 (v := pt N67 0) h65 rfl fun a75 h75 => ?_; clear h65
 refine pl_nil ?_
 refine co_then ?_
 refine co_seq ?_
 refine co_seq ?_
 refine co_reg ?_
 refine pk0 (v := pt N3 0) h75 rfl fun a76 h76 => ?_; clear h75
 have hk77 := hk37.below hb43
 have hk78 := hk77.kept hg50 (by simp)
 have hk79 := hk78.kept hg60 (by simp; omega)
 have hk80 := hk79.kept hg68 (by simp)
 refine pk (v := .int .i64 2) h76 rfl (rn_load1 rfl rfl Try.isAgg3 (hk80.cell rfl)) fun a81 h81 => ?_; clear h76
 refine pl_nil ?_
 refine co_then ?_
 refine wp_block ?_
 refine co_seq ?_
 refine co_seq ?_
 refine co_reg ?_
 refine pk0 (v := .bool ((2 : Int) == 0)) h81 rfl fun a82 h82 => ?_; clear h81
 refine pk0 (v := .bool ((2 : Int) == 0)) h82 rfl fun a83 h83 => ?_; clear h82
 refine pl_nil ?_
 refine co_then ?_
 have hc84 : ((2 : Int) == 0) = false := by first | (simp; done) | (simp; omega) | exact beq_false_of_ne (by omega) | exact beq_iff_eq.2 (by omega)
 rw [hc84] at h83; clear hc84
 refine co_false h83 rfl ?_
 refine co_reg ?_
 refine pk0 (v := .bool ((2 : Int) == 3)) h83 rfl fun a85 h85 => ?_; clear h83
 refine pk0 (v := .bool ((2 : Int) == 3)) h85 rfl fun a86 h86 => ?_; clear h85
 refine pl_nil ?_
 refine co_then ?_
 have hc87 : ((2 : Int) == 3) = false := by first | (simp; done) | (simp; omega) | exact beq_false_of_ne (by omega) | exact beq_iff_eq.2 (by omega)
 rw [hc87] at h86; clear hc87
 refine co_false h86 rfl ?_
 refine co_seq ?_
 refine co_seq ?_
 refine co_reg ?_
 refine pk0 (v := .bool ((2 : Int) == 1)) h86 rfl fun a88 h88 => ?_; clear h86
 refine pk0 (v := .bool ((2 : Int) == 1)) h88 rfl fun a89 h89 => ?_; clear h88
 refine pl_nil ?_
 refine co_then ?_
 have hc90 : ((2 : Int) == 1) = false := by first | (simp; done) | (simp; omega) | exact beq_false_of_ne (by omega) | exact beq_iff_eq.2 (by omega)
 rw [hc90] at h89; clear hc90
 refine co_false h89 rfl ?_
 refine co_reg ?_
 refine pk0 (v := .bool ((2 : Int) == 2)) h89 rfl fun a91 h91 => ?_; clear h89
 refine pk0 (v := .bool ((2 : Int) == 2)) h91 rfl fun a92 h92 => ?_; clear h91
 refine pl_nil ?_
 refine co_then ?_
 have hc93 : ((2 : Int) == 2) = true := by first | (simp; done) | (simp; omega) | exact beq_false_of_ne (by omega) | exact beq_iff_eq.2 (by omega)
 rw [hc93] at h92; clear hc93
 refine co_true h92 rfl ?_
 refine co_reg ?_
 refine pk0 (v := pt N67 0) h92 rfl fun a94 h94 => ?_; clear h92
 have hk95 := hk58'.kept hg68 (by simp)
 refine pk (v := .agg #[.int .i64 c, .int .i64 rq, .int .i64 2, .int .i64 nd, .string ky, .string to_, .int .u64 tm, .int .i64 n, u41]) h94 rfl (rn_loadN rfl rfl Try.underlying71 rfl (by kernel_rfl) hk95.all) fun a96 h96 => ?_; clear h94
 refine pk0 (v := pt N3 4) h96 rfl fun a97 h97 => ?_; clear h96
 refine pk (v := .int .u64 tm) h97 rfl (rn_load1 rfl rfl Try.isAgg22 (hk80.cell rfl)) fun a98 h98 => ?_; clear h97
 refine pk0 (v := pt N3 2) h98 rfl fun a99 h99 => ?_; clear h98
 refine pk (v := .string ky) h99 rfl (rn_load1 rfl rfl Try.isAgg9 (hk80.cell rfl)) fun a100 h100 => ?_; clear h99
 refine pk0 (v := .agg #[.int .i64 c, .int .i64 rq, .int .i64 2, .int .i64 nd, .string ky, .string to_, .int .u64 tm, .int .i64 n, u41, .int .u64 tm, .string ky, .slice none 0 0]) h100 rfl fun a101 h101 => ?_; clear h100
 refine pw h101 rfl (op_new (v := fun N => pt N 0) (T := 77) (cs := #[.int .i64 c, .int .i64 rq, .int .i64 2, .int .i64 nd, .string ky, .string to_, .int .u64 tm, .int .i64 n, u41, .int .u64 tm, .string ky, .slice none 0 0]) (by kernel_rfl) (by kernel_rfl) (by kernel_rfl)) ?_; clear h101
 rintro _ w103 a102 ⟨N104, rfl, hN107, hz108, hk106, hg105⟩ h102
 have hr110 := row_kept_new hr73 hg68
 have ha109 := row_fresh hr110 hN107
 have hz111 := hg105.size
 try dsimp only at h102
 refine pk0 (v := .iface 75 (pt N104 0)) h102 rfl fun a112 h112 => ?_; clear h102
 refine pk0 (v := pt N67 0) h112 rfl fun a113 h113 => ?_; clear h112
 refine pk0 (v := pt N67 0) h113 rfl fun a114 h114 => ?_; clear h113
 have hk120 := hk69.kept hg105 (by simp)
 refine pwD h114 rfl (op_store1 rfl rfl rfl rfl Try.sizeOf65 hk120 rfl) ?_; clear h114
 rintro _ w116 a115 ⟨hk117, hz118, hg119⟩ h115
 have hk117' : Blk w116 N67 67 #[.iface 75 (pt N104 0), .int .i64 rq, .int .i64 0, .bool false, .int .i64 0, .int .i64 0, .int .u64 0, .int .i64 0, .slice none 0 0] := hk117; clear hk117
 have hz121 := hg119.size
 refine pl_nil ?_
 refine co_blockN ?_
 refine co_then ?_
 refine co_seq ?_
 refine co_reg ?_
 refine pk0 (v := pt N67 0) h115 rfl fun a122 h122 => ?_; clear h115
 refine pk0 (v := pt N67 0) h122 rfl fun a123 h123 => ?_; clear h122
 refine pk0 (v := .int .i64 0) h123 rfl fun a124 h124 => ?_; clear h123
 refine pl_nil ?_
 refine co_then ?_
 refine wp_ret ?_
 refine co_ret2 h124 rfl rfl rfl ?_
 have hr125 := row_kept_new hr110 hg105
 have hr126 := row_kept_at hr125 hg119 (ha72)
 have hk127 := hk106.kept hg119 (by simp; omega)
 have hB128 := hb_new hB0 hg4
 have hB129 := hb_call hB128 hb32
 have hB130 := hb_call hB129 hb43
 have hB131 := hb_new hB130 hg50
 have hB132 := hb_at hB131 hg60 (by omega)
 have hB133 := hb_new hB132 hg68
 have hB134 := hb_new hB133 hg105
 have hB135 := hb_at hB134 hg119 (by omega)
 exact ⟨N67, N104, u41, rfl, (row_lows hr126 (by omega)), hk117', hk127, by omega, by omega, by omega, hB135⟩
end Go.Proofs.Ytaoibbakflacoaa

/- catenalaw34: one that nobody made; few; awake. Conditions: none. -/
namespace Go.Proofs.Ytaoibbakflacoaa
open Go.RowKit Go.PlainAid
set_option linter.unusedVariables false
set_option linter.unusedSimpArgs false


/-- A call of stage 34. -/
structure AActT where
  k : Int
  n : Int
  fr : Int
  x : MsgX
structure AActS (w : World) (a : AActT) : Prop where
  hm : SliceOf memE 2 w a.x.mv a.x.d.cms
  hb : SliceOf opE 3 w a.x.bv a.x.d.bl
  he : SliceOf entE 4 w a.x.ev a.x.d.en
  ht : SliceOf (intE .u64) 1 w a.x.sv a.x.d.st
  hp : SliceOf prE 2 w a.x.pv a.x.d.pr
theorem list_len (b : ByteArray) : b.data.toList.length = b.size := rfl
theorem loop_list (bs : ByteArray) : ∀ (k i : Nat) (r : List UInt8), bs.size - i = k → ByteArray.toList.loop bs i r = r.reverse ++ bs.data.toList.drop i
  | 0, i, r, h => by
    unfold ByteArray.toList.loop
    rw [if_neg (by omega), List.drop_of_length_le (by rw [list_len]; omega), List.append_nil]
  | k + 1, i, r, h => by
    unfold ByteArray.toList.loop
    have hi : i < bs.size := by omega
    have hl : i < bs.data.toList.length := by rw [list_len]; exact hi
    rw [if_pos hi, loop_list bs k (i + 1) _ (by omega), List.reverse_cons, List.append_assoc, List.drop_eq_getElem_cons hl]
    congr 2
    simp [ByteArray.get!, hi]
theorem toList_data (bs : ByteArray) : bs.toList = bs.data.toList := by
  unfold ByteArray.toList
  rw [loop_list bs bs.size 0 [] rfl]
  simp
theorem aw_more : moreF (RdD.mk 0 3 1 ⟨#[]⟩ ⟨#[]⟩ 5 3 5 ⟨#[]⟩ []) true [(⟨#[97]⟩, ⟨#[]⟩), (⟨#[98]⟩, ⟨#[]⟩)] = true := by
  unfold moreF; rw [toList_data, toList_data]; decide
theorem AActS.of {w : World} {a : AActT} (h : MsgOk w a.x) : AActS w a := ⟨h.hm, h.hb, h.he, h.ht, h.hp⟩

set_option maxRecDepth 100000 in
set_option maxHeartbeats 3200000 in
theorem awake34  (w : World)  :
    Calls Try.prog 7 #[] w fun e w' => e = .returned (.bool true) ∧ Below w.heap.size w w' := by
 have hB0 := Below.refl w.heap.size w
 refine co_enter (n := 58) Try.func7 rfl rfl rfl [] rfl (fun a h0 => ?_)
 refine co_seq ?_
 refine co_reg ?_
 refine pk0 (v := .bool false) h0 rfl fun a1 h1 => ?_; clear h0
 refine pl_nil ?_
 refine co_then ?_
 refine co_seq ?_
 refine co_reg ?_
 refine pk0 (v := .agg #[.int .i64 2, .int .i64 1, .string (⟨#[]⟩), .string (⟨#[]⟩), .int .u64 5, .int .i64 3, .slice none 0 0]) h1 rfl fun a2 h2 => ?_; clear h1
 refine pw h2 rfl (op_call (args := #[.int .i64 0, .int .i64 3, .agg #[.int .i64 2, .int .i64 1, .string (⟨#[]⟩), .string (⟨#[]⟩), .int .u64 5, .int .i64 3, .slice none 0 0]]) (R := fun res xw => ∃ tk : Nat, ∃ nb : Nat, ∃ u : Value, res = .tuple #[pt tk 0, .int .i64 0] ∧ xw.ownsRow w.heap.size 59 3 u ([] : List OpT).length (([] : List OpT).flatMap opE) ∧ Blk xw tk 67 #[.iface 75 (pt nb 0), .int .i64 3, .int .i64 0, .bool false, .int .i64 0, .int .i64 0, .int .u64 0, .int .i64 0, .slice none 0 0] ∧ Blk xw nb 77 #[.int .i64 0, .int .i64 3, .int .i64 2, .int .i64 1, .string (⟨#[]⟩), .string (⟨#[]⟩), .int .u64 5, .int .i64 3, u, .int .u64 5, .string (⟨#[]⟩), .slice none 0 0] ∧ w.heap.size ≤ tk ∧ w.heap.size ≤ nb ∧ tk ≠ nb ∧ Below w.heap.size w xw) rfl rfl rfl (by kernel_rfl) (by kernel_rfl) (Try.call8 _ _) (aTNew_any 0 3 1 (⟨#[]⟩) (⟨#[]⟩) 5 3 w (by first | omega | (simp; done) | (simp; omega)) (by first | omega | (simp; done) | (simp; omega)) (by first | omega | (simp; done) | (simp; omega)) (by first | omega | decide | (dsimp only; omega)) (by first | omega | decide | (dsimp only; omega)) (by first | omega | (simp; done) | (simp; omega))) (by rintro e x ⟨tk, nb, u, rfl, hq8, hq9, hq10, hq11, hq12, hq13, hb14⟩; exact ⟨_, rfl, ⟨tk, nb, u, rfl, hq8, hq9, hq10, hq11, hq12, hq13, hb14⟩⟩)) ?_; clear h2
 rintro _ w4 a3 ⟨tk5, nb6, u7, rfl, hq8, hq9, hq10, hq11, hq12, hq13, hb14⟩ h3
 have hz15 := hb14.size
 have hl16 := sl_len (row_sl hq8 opE_len)
 have hl17 := hq9.lt
 have hl18 := hq10.lt
 refine pk0 (v := .tuple #[pt tk5 0, .int .i64 0]) h3 rfl fun a19 h19 => ?_; clear h3
 refine pk0 (v := pt tk5 0) h19 rfl fun a20 h20 => ?_; clear h19
 refine pk0 (v := .int .i64 0) h20 rfl fun a21 h21 => ?_; clear h20
 refine pk0 (v := pt tk5 0) h21 rfl fun a22 h22 => ?_; clear h21
 refine pk0 (v := .int .i64 0) h22 rfl fun a23 h23 => ?_; clear h22
 refine pl_nil ?_
 refine co_then ?_
 refine co_seq ?_
 refine co_reg ?_
 refine pk0 (v := pt tk5 0) h23 rfl fun a24 h24 => ?_; clear h23
 refine pw h24 rfl (op_call (args := #[pt tk5 0, .int .i64 0, .int .i64 (-1)]) (R := fun res xw => res = .tuple #[.int .i64 ((RdD.mk 0 3 1 (⟨#[]⟩) (⟨#[]⟩) 5 3 5 (⟨#[]⟩) ([])).nd), .agg #[.int .i64 9, .int .i64 0, .int .i64 ((RdD.mk 0 3 1 (⟨#[]⟩) (⟨#[]⟩) 5 3 5 (⟨#[]⟩) ([])).rq), .int .i64 0, .bool false, .int .u64 ((RdD.mk 0 3 1 (⟨#[]⟩) (⟨#[]⟩) 5 3 5 (⟨#[]⟩) ([])).tm), .int .u64 0, .int .i64 (mnI 2 ((RdD.mk 0 3 1 (⟨#[]⟩) (⟨#[]⟩) 5 3 5 (⟨#[]⟩) ([])).n - ((RdD.mk 0 3 1 (⟨#[]⟩) (⟨#[]⟩) 5 3 5 (⟨#[]⟩) ([])).prs.length : Int))), .int .i64 0, .int .i64 0, .int .i64 0, .string ((RdD.mk 0 3 1 (⟨#[]⟩) (⟨#[]⟩) 5 3 5 (⟨#[]⟩) ([])).key), .string ((RdD.mk 0 3 1 (⟨#[]⟩) (⟨#[]⟩) 5 3 5 (⟨#[]⟩) ([])).to_), .int .i64 0, .slice none 0 0, .int .u64 0, .int .i64 0, .int .i64 0, .slice none 0 0, .slice none 0 0, .slice none 0 0, .slice none 0 0]] ∧ Below w4.heap.size w4 xw) rfl rfl rfl (by kernel_rfl) (by kernel_rfl) (Try.call13 _ _) (aTNext_any tk5 nb6 (RdD.mk 0 3 1 (⟨#[]⟩) (⟨#[]⟩) 5 3 5 (⟨#[]⟩) ([])) u7 (.slice none 0 0) 0 0 (-1) w4 hq9 hq10 (sl_nil _) (by first | omega | decide | (dsimp only; omega)) (by first | omega | decide | (dsimp only; omega))) (by rintro e x ⟨rfl, hb27⟩; exact ⟨_, rfl, ⟨rfl, hb27⟩⟩)) ?_; clear h24
 rintro _ w26 a25 ⟨rfl, hb27⟩ h25
 have hz28 := hb27.size
 refine pk0 (v := .tuple #[.int .i64 ((RdD.mk 0 3 1 (⟨#[]⟩) (⟨#[]⟩) 5 3 5 (⟨#[]⟩) ([])).nd), .agg #[.int .i64 9, .int .i64 0, .int .i64 ((RdD.mk 0 3 1 (⟨#[]⟩) (⟨#[]⟩) 5 3 5 (⟨#[]⟩) ([])).rq), .int .i64 0, .bool false, .int .u64 ((RdD.mk 0 3 1 (⟨#[]⟩) (⟨#[]⟩) 5 3 5 (⟨#[]⟩) ([])).tm), .int .u64 0, .int .i64 (mnI 2 ((RdD.mk 0 3 1 (⟨#[]⟩) (⟨#[]⟩) 5 3 5 (⟨#[]⟩) ([])).n - ((RdD.mk 0 3 1 (⟨#[]⟩) (⟨#[]⟩) 5 3 5 (⟨#[]⟩) ([])).prs.length : Int))), .int .i64 0, .int .i64 0, .int .i64 0, .string ((RdD.mk 0 3 1 (⟨#[]⟩) (⟨#[]⟩) 5 3 5 (⟨#[]⟩) ([])).key), .string ((RdD.mk 0 3 1 (⟨#[]⟩) (⟨#[]⟩) 5 3 5 (⟨#[]⟩) ([])).to_), .int .i64 0, .slice none 0 0, .int .u64 0, .int .i64 0, .int .i64 0, .slice none 0 0, .slice none 0 0, .slice none 0 0, .slice none 0 0]]) h25 rfl fun a29 h29 => ?_; clear h25
 refine pk0 (v := .int .i64 ((RdD.mk 0 3 1 (⟨#[]⟩) (⟨#[]⟩) 5 3 5 (⟨#[]⟩) ([])).nd)) h29 rfl fun a30 h30 => ?_; clear h29
 refine pk0 (v := .agg #[.int .i64 9, .int .i64 0, .int .i64 ((RdD.mk 0 3 1 (⟨#[]⟩) (⟨#[]⟩) 5 3 5 (⟨#[]⟩) ([])).rq), .int .i64 0, .bool false, .int .u64 ((RdD.mk 0 3 1 (⟨#[]⟩) (⟨#[]⟩) 5 3 5 (⟨#[]⟩) ([])).tm), .int .u64 0, .int .i64 (mnI 2 ((RdD.mk 0 3 1 (⟨#[]⟩) (⟨#[]⟩) 5 3 5 (⟨#[]⟩) ([])).n - ((RdD.mk 0 3 1 (⟨#[]⟩) (⟨#[]⟩) 5 3 5 (⟨#[]⟩) ([])).prs.length : Int))), .int .i64 0, .int .i64 0, .int .i64 0, .string ((RdD.mk 0 3 1 (⟨#[]⟩) (⟨#[]⟩) 5 3 5 (⟨#[]⟩) ([])).key), .string ((RdD.mk 0 3 1 (⟨#[]⟩) (⟨#[]⟩) 5 3 5 (⟨#[]⟩) ([])).to_), .int .i64 0, .slice none 0 0, .int .u64 0, .int .i64 0, .int .i64 0, .slice none 0 0, .slice none 0 0, .slice none 0 0, .slice none 0 0]) h30 rfl fun a31 h31 => ?_; clear h30
 refine pw h31 rfl (op_new (v := fun N => pt N 0) (T := 46) (cs := #[.int .i64 0, .int .i64 0, .int .i64 0, .int .i64 0, .bool false, .int .u64 0, .int .u64 0, .int .i64 0, .int .i64 0, .int .i64 0, .int .i64 0, .string (⟨#[]⟩), .string (⟨#[]⟩), .int .i64 0, .slice none 0 0, .int .u64 0, .int .i64 0, .int .i64 0, .slice none 0 0, .slice none 0 0, .slice none 0 0, .slice none 0 0]) (by kernel_rfl) (by kernel_rfl) (by kernel_rfl)) ?_; clear h31
 rintro _ w33 a32 ⟨N34, rfl, hN37, hz38, hk36, hg35⟩ h32
 have hz39 := hg35.size
 try dsimp only at h32
 refine pk0 (v := .int .i64 ((RdD.mk 0 3 1 (⟨#[]⟩) (⟨#[]⟩) 5 3 5 (⟨#[]⟩) ([])).nd)) h32 rfl fun a40 h40 => ?_; clear h32
 refine pwD h40 rfl (op_storeN rfl rfl rfl (all_cons rfl (all_cons rfl (all_cons rfl (all_cons rfl (all_cons rfl (all_cons rfl (all_cons rfl (all_cons rfl (all_cons rfl (all_cons rfl (all_cons rfl (all_cons rfl (all_cons rfl (all_cons rfl (all_cons rfl (all_cons rfl (all_cons rfl (all_cons rfl (all_cons rfl (all_cons rfl (all_cons rfl (all_cons rfl all_nil)))))))))))))))))))))) (by kernel_rfl) hk36 rfl) ?_; clear h40
 rintro _ w42 a41 ⟨hk43, hz44, hg45⟩ h41
 have hk43' : Blk w42 N34 46 #[.int .i64 9, .int .i64 0, .int .i64 ((RdD.mk 0 3 1 (⟨#[]⟩) (⟨#[]⟩) 5 3 5 (⟨#[]⟩) ([])).rq), .int .i64 0, .bool false, .int .u64 ((RdD.mk 0 3 1 (⟨#[]⟩) (⟨#[]⟩) 5 3 5 (⟨#[]⟩) ([])).tm), .int .u64 0, .int .i64 (mnI 2 ((RdD.mk 0 3 1 (⟨#[]⟩) (⟨#[]⟩) 5 3 5 (⟨#[]⟩) ([])).n - ((RdD.mk 0 3 1 (⟨#[]⟩) (⟨#[]⟩) 5 3 5 (⟨#[]⟩) ([])).prs.length : Int))), .int .i64 0, .int .i64 0, .int .i64 0, .string ((RdD.mk 0 3 1 (⟨#[]⟩) (⟨#[]⟩) 5 3 5 (⟨#[]⟩) ([])).key), .string ((RdD.mk 0 3 1 (⟨#[]⟩) (⟨#[]⟩) 5 3 5 (⟨#[]⟩) ([])).to_), .int .i64 0, .slice none 0 0, .int .u64 0, .int .i64 0, .int .i64 0, .slice none 0 0, .slice none 0 0, .slice none 0 0, .slice none 0 0] := hk43; clear hk43
 have hz46 := hg45.size
 refine pl_nil ?_
 refine co_then ?_
 refine co_seq ?_
 refine co_reg ?_
 refine pk0 (v := pt tk5 0) h41 rfl fun a47 h47 => ?_; clear h41
 refine pk0 (v := .agg #[.string (⟨#[97]⟩), .string (⟨#[]⟩)]) h47 rfl fun a48 h48 => ?_; clear h47
 refine pk0 (v := .agg #[.string (⟨#[98]⟩), .string (⟨#[]⟩)]) h48 rfl fun a49 h49 => ?_; clear h48
 refine pw h49 rfl (op_new (v := fun N => .slice (some ⟨N, 0, none⟩) 2 2) (T := 57) (cs := #[.string (⟨#[97]⟩), .string (⟨#[]⟩), .string (⟨#[98]⟩), .string (⟨#[]⟩)]) (by kernel_rfl) (by kernel_rfl) (by kernel_rfl)) ?_; clear h49
 rintro _ w51 a50 ⟨N52, rfl, hN55, hz56, hk54, hg53⟩ h50
 have hz57 := hg53.size
 try dsimp only at h50
 refine pk0 (v := .agg #[.int .i64 10, .int .i64 0, .int .i64 3, .int .i64 0, .bool true, .int .u64 5, .int .u64 0, .int .i64 0, .int .i64 0, .int .i64 0, .int .i64 0, .string (⟨#[]⟩), .string (⟨#[]⟩), .int .i64 0, .slice none 0 0, .int .u64 0, .int .i64 0, .int .i64 0, .slice none 0 0, .slice none 0 0, .slice none 0 0, .slice (some ⟨N52, 0, none⟩) 2 2]) h50 rfl fun a58 h58 => ?_; clear h50
 have hr61 := row_of_cells (enc := prE) (sz := 2) ([(⟨#[97]⟩, ⟨#[]⟩), (⟨#[98]⟩, ⟨#[]⟩)] : List PrT) hk54 (Nat.le_refl _) rfl rfl (by unfold maxLen; simp)
 have hk62 := hq9.below hb27
 have hk63 := hk62.kept hg35 (by simp)
 have hk64 := hk63.kept hg45 (by simp; omega)
 have hk65 := hk64.kept hg53 (by simp)
 have hk66 := hq10.below hb27
 have hk67 := hk66.kept hg35 (by simp)
 have hk68 := hk67.kept hg45 (by simp; omega)
 have hk69 := hk68.kept hg53 (by simp)
 refine pw h58 rfl (op_call (args := #[pt tk5 0, .int .i64 1, .agg #[.int .i64 10, .int .i64 0, .int .i64 3, .int .i64 0, .bool true, .int .u64 5, .int .u64 0, .int .i64 0, .int .i64 0, .int .i64 0, .int .i64 0, .string (⟨#[]⟩), .string (⟨#[]⟩), .int .i64 0, .slice none 0 0, .int .u64 0, .int .i64 0, .int .i64 0, .slice none 0 0, .slice none 0 0, .slice none 0 0, .slice (some ⟨N52, 0, none⟩) 2 2]]) (R := fun res xw => ∃ nb : Nat, ∃ u : Value, res = .bool true ∧ xw.ownsRow w51.heap.size 57 2 u ((RdD.mk 0 3 1 (⟨#[]⟩) (⟨#[]⟩) 5 3 5 (⟨#[]⟩) ([])).prs ++ ([(⟨#[97]⟩, ⟨#[]⟩), (⟨#[98]⟩, ⟨#[]⟩)] : List PrT).take (pgN (RdD.mk 0 3 1 (⟨#[]⟩) (⟨#[]⟩) 5 3 5 (⟨#[]⟩) ([])) ([(⟨#[97]⟩, ⟨#[]⟩), (⟨#[98]⟩, ⟨#[]⟩)] : List PrT))).length (((RdD.mk 0 3 1 (⟨#[]⟩) (⟨#[]⟩) 5 3 5 (⟨#[]⟩) ([])).prs ++ ([(⟨#[97]⟩, ⟨#[]⟩), (⟨#[98]⟩, ⟨#[]⟩)] : List PrT).take (pgN (RdD.mk 0 3 1 (⟨#[]⟩) (⟨#[]⟩) 5 3 5 (⟨#[]⟩) ([])) ([(⟨#[97]⟩, ⟨#[]⟩), (⟨#[98]⟩, ⟨#[]⟩)] : List PrT))).flatMap prE) ∧ Blk xw tk5 67 #[.iface 75 (pt nb 0), .int .i64 (RdD.mk 0 3 1 (⟨#[]⟩) (⟨#[]⟩) 5 3 5 (⟨#[]⟩) ([])).rq, .int .i64 0, .bool false, .int .i64 0, .int .i64 0, .int .u64 0, .int .i64 0, .slice none 0 0] ∧ Blk xw nb 77 #[.int .i64 (RdD.mk 0 3 1 (⟨#[]⟩) (⟨#[]⟩) 5 3 5 (⟨#[]⟩) ([])).c, .int .i64 (RdD.mk 0 3 1 (⟨#[]⟩) (⟨#[]⟩) 5 3 5 (⟨#[]⟩) ([])).rq, .int .i64 2, .int .i64 (RdD.mk 0 3 1 (⟨#[]⟩) (⟨#[]⟩) 5 3 5 (⟨#[]⟩) ([])).nd, .string (RdD.mk 0 3 1 (⟨#[]⟩) (⟨#[]⟩) 5 3 5 (⟨#[]⟩) ([])).k0, .string (RdD.mk 0 3 1 (⟨#[]⟩) (⟨#[]⟩) 5 3 5 (⟨#[]⟩) ([])).to_, .int .u64 (RdD.mk 0 3 1 (⟨#[]⟩) (⟨#[]⟩) 5 3 5 (⟨#[]⟩) ([])).at0, .int .i64 (RdD.mk 0 3 1 (⟨#[]⟩) (⟨#[]⟩) 5 3 5 (⟨#[]⟩) ([])).n, u7, .int .u64 (RdD.mk 0 3 1 (⟨#[]⟩) (⟨#[]⟩) 5 3 5 (⟨#[]⟩) ([])).tm, .string (nxK (lastK (RdD.mk 0 3 1 (⟨#[]⟩) (⟨#[]⟩) 5 3 5 (⟨#[]⟩) ([])) ([(⟨#[97]⟩, ⟨#[]⟩), (⟨#[98]⟩, ⟨#[]⟩)] : List PrT))), u] ∧ w51.heap.size ≤ nb ∧ But (fun q => q = tk5) w51 xw) rfl rfl rfl (by kernel_rfl) (by kernel_rfl) (Try.call11 _ _) (aTTakeM_any tk5 nb6 (RdD.mk 0 3 1 (⟨#[]⟩) (⟨#[]⟩) 5 3 5 (⟨#[]⟩) ([])) u7 (.slice none 0 0) 0 true (.slice (some ⟨N52, 0, none⟩) 2 2) ([(⟨#[97]⟩, ⟨#[]⟩), (⟨#[98]⟩, ⟨#[]⟩)] : List PrT) w51 hk65 hk69 (sl_nil _) (by first | omega | decide | (dsimp only; omega)) (by first | omega | decide | (dsimp only; omega)) (row_sl hr61 prE_len) (by first | omega | decide | (dsimp only; omega)) (by first | assumption | (intro z hz; simp only [List.mem_cons, List.not_mem_nil, or_false] at hz; rcases hz with rfl | rfl <;> decide)) (by first | assumption | (intro h; exact absurd rfl h)) (by first | assumption | (intro _ k hk hq; simp only [Value.ownBlock, Option.some.injEq] at hk; omega)) (by first | assumption | exact aw_more)) (by rintro e x ⟨nb, u, rfl, hq72, hq73, hq74, hq75, hb76⟩; exact ⟨_, rfl, ⟨nb, u, rfl, hq72, hq73, hq74, hq75, hb76⟩⟩)) ?_; clear h58
 rintro _ w60 a59 ⟨nb70, u71, rfl, hq72, hq73, hq74, hq75, hb76⟩ h59
 have hz77 := hb76.size
 have hl78 := sl_len (row_sl hq72 prE_len)
 have hl79 := hq73.lt
 have hl80 := hq74.lt
 refine pk0 (v := .bool true) h59 rfl fun a81 h81 => ?_; clear h59
 refine pl_nil ?_
 refine co_then ?_
 refine co_seq ?_
 refine co_reg ?_
 refine pk0 (v := pt tk5 0) h81 rfl fun a82 h82 => ?_; clear h81
 refine pw h82 rfl (op_call (args := #[pt tk5 0, .int .i64 0, .int .i64 (-1)]) (R := fun res xw => res = .tuple #[.int .i64 ((RdD.mk ((RdD.mk 0 3 1 (⟨#[]⟩) (⟨#[]⟩) 5 3 5 (⟨#[]⟩) ([])).c) ((RdD.mk 0 3 1 (⟨#[]⟩) (⟨#[]⟩) 5 3 5 (⟨#[]⟩) ([])).rq) ((RdD.mk 0 3 1 (⟨#[]⟩) (⟨#[]⟩) 5 3 5 (⟨#[]⟩) ([])).nd) ((RdD.mk 0 3 1 (⟨#[]⟩) (⟨#[]⟩) 5 3 5 (⟨#[]⟩) ([])).k0) ((RdD.mk 0 3 1 (⟨#[]⟩) (⟨#[]⟩) 5 3 5 (⟨#[]⟩) ([])).to_) ((RdD.mk 0 3 1 (⟨#[]⟩) (⟨#[]⟩) 5 3 5 (⟨#[]⟩) ([])).at0) ((RdD.mk 0 3 1 (⟨#[]⟩) (⟨#[]⟩) 5 3 5 (⟨#[]⟩) ([])).n) ((RdD.mk 0 3 1 (⟨#[]⟩) (⟨#[]⟩) 5 3 5 (⟨#[]⟩) ([])).tm) (nxK (lastK (RdD.mk 0 3 1 (⟨#[]⟩) (⟨#[]⟩) 5 3 5 (⟨#[]⟩) ([])) ([(⟨#[97]⟩, ⟨#[]⟩), (⟨#[98]⟩, ⟨#[]⟩)] : List PrT))) ((RdD.mk 0 3 1 (⟨#[]⟩) (⟨#[]⟩) 5 3 5 (⟨#[]⟩) ([])).prs ++ ([(⟨#[97]⟩, ⟨#[]⟩), (⟨#[98]⟩, ⟨#[]⟩)] : List PrT).take (pgN (RdD.mk 0 3 1 (⟨#[]⟩) (⟨#[]⟩) 5 3 5 (⟨#[]⟩) ([])) ([(⟨#[97]⟩, ⟨#[]⟩), (⟨#[98]⟩, ⟨#[]⟩)] : List PrT)))).nd), .agg #[.int .i64 9, .int .i64 0, .int .i64 ((RdD.mk ((RdD.mk 0 3 1 (⟨#[]⟩) (⟨#[]⟩) 5 3 5 (⟨#[]⟩) ([])).c) ((RdD.mk 0 3 1 (⟨#[]⟩) (⟨#[]⟩) 5 3 5 (⟨#[]⟩) ([])).rq) ((RdD.mk 0 3 1 (⟨#[]⟩) (⟨#[]⟩) 5 3 5 (⟨#[]⟩) ([])).nd) ((RdD.mk 0 3 1 (⟨#[]⟩) (⟨#[]⟩) 5 3 5 (⟨#[]⟩) ([])).k0) ((RdD.mk 0 3 1 (⟨#[]⟩) (⟨#[]⟩) 5 3 5 (⟨#[]⟩) ([])).to_) ((RdD.mk 0 3 1 (⟨#[]⟩) (⟨#[]⟩) 5 3 5 (⟨#[]⟩) ([])).at0) ((RdD.mk 0 3 1 (⟨#[]⟩) (⟨#[]⟩) 5 3 5 (⟨#[]⟩) ([])).n) ((RdD.mk 0 3 1 (⟨#[]⟩) (⟨#[]⟩) 5 3 5 (⟨#[]⟩) ([])).tm) (nxK (lastK (RdD.mk 0 3 1 (⟨#[]⟩) (⟨#[]⟩) 5 3 5 (⟨#[]⟩) ([])) ([(⟨#[97]⟩, ⟨#[]⟩), (⟨#[98]⟩, ⟨#[]⟩)] : List PrT))) ((RdD.mk 0 3 1 (⟨#[]⟩) (⟨#[]⟩) 5 3 5 (⟨#[]⟩) ([])).prs ++ ([(⟨#[97]⟩, ⟨#[]⟩), (⟨#[98]⟩, ⟨#[]⟩)] : List PrT).take (pgN (RdD.mk 0 3 1 (⟨#[]⟩) (⟨#[]⟩) 5 3 5 (⟨#[]⟩) ([])) ([(⟨#[97]⟩, ⟨#[]⟩), (⟨#[98]⟩, ⟨#[]⟩)] : List PrT)))).rq), .int .i64 0, .bool false, .int .u64 ((RdD.mk ((RdD.mk 0 3 1 (⟨#[]⟩) (⟨#[]⟩) 5 3 5 (⟨#[]⟩) ([])).c) ((RdD.mk 0 3 1 (⟨#[]⟩) (⟨#[]⟩) 5 3 5 (⟨#[]⟩) ([])).rq) ((RdD.mk 0 3 1 (⟨#[]⟩) (⟨#[]⟩) 5 3 5 (⟨#[]⟩) ([])).nd) ((RdD.mk 0 3 1 (⟨#[]⟩) (⟨#[]⟩) 5 3 5 (⟨#[]⟩) ([])).k0) ((RdD.mk 0 3 1 (⟨#[]⟩) (⟨#[]⟩) 5 3 5 (⟨#[]⟩) ([])).to_) ((RdD.mk 0 3 1 (⟨#[]⟩) (⟨#[]⟩) 5 3 5 (⟨#[]⟩) ([])).at0) ((RdD.mk 0 3 1 (⟨#[]⟩) (⟨#[]⟩) 5 3 5 (⟨#[]⟩) ([])).n) ((RdD.mk 0 3 1 (⟨#[]⟩) (⟨#[]⟩) 5 3 5 (⟨#[]⟩) ([])).tm) (nxK (lastK (RdD.mk 0 3 1 (⟨#[]⟩) (⟨#[]⟩) 5 3 5 (⟨#[]⟩) ([])) ([(⟨#[97]⟩, ⟨#[]⟩), (⟨#[98]⟩, ⟨#[]⟩)] : List PrT))) ((RdD.mk 0 3 1 (⟨#[]⟩) (⟨#[]⟩) 5 3 5 (⟨#[]⟩) ([])).prs ++ ([(⟨#[97]⟩, ⟨#[]⟩), (⟨#[98]⟩, ⟨#[]⟩)] : List PrT).take (pgN (RdD.mk 0 3 1 (⟨#[]⟩) (⟨#[]⟩) 5 3 5 (⟨#[]⟩) ([])) ([(⟨#[97]⟩, ⟨#[]⟩), (⟨#[98]⟩, ⟨#[]⟩)] : List PrT)))).tm), .int .u64 0, .int .i64 (mnI 2 ((RdD.mk ((RdD.mk 0 3 1 (⟨#[]⟩) (⟨#[]⟩) 5 3 5 (⟨#[]⟩) ([])).c) ((RdD.mk 0 3 1 (⟨#[]⟩) (⟨#[]⟩) 5 3 5 (⟨#[]⟩) ([])).rq) ((RdD.mk 0 3 1 (⟨#[]⟩) (⟨#[]⟩) 5 3 5 (⟨#[]⟩) ([])).nd) ((RdD.mk 0 3 1 (⟨#[]⟩) (⟨#[]⟩) 5 3 5 (⟨#[]⟩) ([])).k0) ((RdD.mk 0 3 1 (⟨#[]⟩) (⟨#[]⟩) 5 3 5 (⟨#[]⟩) ([])).to_) ((RdD.mk 0 3 1 (⟨#[]⟩) (⟨#[]⟩) 5 3 5 (⟨#[]⟩) ([])).at0) ((RdD.mk 0 3 1 (⟨#[]⟩) (⟨#[]⟩) 5 3 5 (⟨#[]⟩) ([])).n) ((RdD.mk 0 3 1 (⟨#[]⟩) (⟨#[]⟩) 5 3 5 (⟨#[]⟩) ([])).tm) (nxK (lastK (RdD.mk 0 3 1 (⟨#[]⟩) (⟨#[]⟩) 5 3 5 (⟨#[]⟩) ([])) ([(⟨#[97]⟩, ⟨#[]⟩), (⟨#[98]⟩, ⟨#[]⟩)] : List PrT))) ((RdD.mk 0 3 1 (⟨#[]⟩) (⟨#[]⟩) 5 3 5 (⟨#[]⟩) ([])).prs ++ ([(⟨#[97]⟩, ⟨#[]⟩), (⟨#[98]⟩, ⟨#[]⟩)] : List PrT).take (pgN (RdD.mk 0 3 1 (⟨#[]⟩) (⟨#[]⟩) 5 3 5 (⟨#[]⟩) ([])) ([(⟨#[97]⟩, ⟨#[]⟩), (⟨#[98]⟩, ⟨#[]⟩)] : List PrT)))).n - ((RdD.mk ((RdD.mk 0 3 1 (⟨#[]⟩) (⟨#[]⟩) 5 3 5 (⟨#[]⟩) ([])).c) ((RdD.mk 0 3 1 (⟨#[]⟩) (⟨#[]⟩) 5 3 5 (⟨#[]⟩) ([])).rq) ((RdD.mk 0 3 1 (⟨#[]⟩) (⟨#[]⟩) 5 3 5 (⟨#[]⟩) ([])).nd) ((RdD.mk 0 3 1 (⟨#[]⟩) (⟨#[]⟩) 5 3 5 (⟨#[]⟩) ([])).k0) ((RdD.mk 0 3 1 (⟨#[]⟩) (⟨#[]⟩) 5 3 5 (⟨#[]⟩) ([])).to_) ((RdD.mk 0 3 1 (⟨#[]⟩) (⟨#[]⟩) 5 3 5 (⟨#[]⟩) ([])).at0) ((RdD.mk 0 3 1 (⟨#[]⟩) (⟨#[]⟩) 5 3 5 (⟨#[]⟩) ([])).n) ((RdD.mk 0 3 1 (⟨#[]⟩) (⟨#[]⟩) 5 3 5 (⟨#[]⟩) ([])).tm) (nxK (lastK (RdD.mk 0 3 1 (⟨#[]⟩) (⟨#[]⟩) 5 3 5 (⟨#[]⟩) ([])) ([(⟨#[97]⟩, ⟨#[]⟩), (⟨#[98]⟩, ⟨#[]⟩)] : List PrT))) ((RdD.mk 0 3 1 (⟨#[]⟩) (⟨#[]⟩) 5 3 5 (⟨#[]⟩) ([])).prs ++ ([(⟨#[97]⟩, ⟨#[]⟩), (⟨#[98]⟩, ⟨#[]⟩)] : List PrT).take (pgN (RdD.mk 0 3 1 (⟨#[]⟩) (⟨#[]⟩) 5 3 5 (⟨#[]⟩) ([])) ([(⟨#[97]⟩, ⟨#[]⟩), (⟨#[98]⟩, ⟨#[]⟩)] : List PrT)))).prs.length : Int))), .int .i64 0, .int .i64 0, .int .i64 0, .string ((RdD.mk ((RdD.mk 0 3 1 (⟨#[]⟩) (⟨#[]⟩) 5 3 5 (⟨#[]⟩) ([])).c) ((RdD.mk 0 3 1 (⟨#[]⟩) (⟨#[]⟩) 5 3 5 (⟨#[]⟩) ([])).rq) ((RdD.mk 0 3 1 (⟨#[]⟩) (⟨#[]⟩) 5 3 5 (⟨#[]⟩) ([])).nd) ((RdD.mk 0 3 1 (⟨#[]⟩) (⟨#[]⟩) 5 3 5 (⟨#[]⟩) ([])).k0) ((RdD.mk 0 3 1 (⟨#[]⟩) (⟨#[]⟩) 5 3 5 (⟨#[]⟩) ([])).to_) ((RdD.mk 0 3 1 (⟨#[]⟩) (⟨#[]⟩) 5 3 5 (⟨#[]⟩) ([])).at0) ((RdD.mk 0 3 1 (⟨#[]⟩) (⟨#[]⟩) 5 3 5 (⟨#[]⟩) ([])).n) ((RdD.mk 0 3 1 (⟨#[]⟩) (⟨#[]⟩) 5 3 5 (⟨#[]⟩) ([])).tm) (nxK (lastK (RdD.mk 0 3 1 (⟨#[]⟩) (⟨#[]⟩) 5 3 5 (⟨#[]⟩) ([])) ([(⟨#[97]⟩, ⟨#[]⟩), (⟨#[98]⟩, ⟨#[]⟩)] : List PrT))) ((RdD.mk 0 3 1 (⟨#[]⟩) (⟨#[]⟩) 5 3 5 (⟨#[]⟩) ([])).prs ++ ([(⟨#[97]⟩, ⟨#[]⟩), (⟨#[98]⟩, ⟨#[]⟩)] : List PrT).take (pgN (RdD.mk 0 3 1 (⟨#[]⟩) (⟨#[]⟩) 5 3 5 (⟨#[]⟩) ([])) ([(⟨#[97]⟩, ⟨#[]⟩), (⟨#[98]⟩, ⟨#[]⟩)] : List PrT)))).key), .string ((RdD.mk ((RdD.mk 0 3 1 (⟨#[]⟩) (⟨#[]⟩) 5 3 5 (⟨#[]⟩) ([])).c) ((RdD.mk 0 3 1 (⟨#[]⟩) (⟨#[]⟩) 5 3 5 (⟨#[]⟩) ([])).rq) ((RdD.mk 0 3 1 (⟨#[]⟩) (⟨#[]⟩) 5 3 5 (⟨#[]⟩) ([])).nd) ((RdD.mk 0 3 1 (⟨#[]⟩) (⟨#[]⟩) 5 3 5 (⟨#[]⟩) ([])).k0) ((RdD.mk 0 3 1 (⟨#[]⟩) (⟨#[]⟩) 5 3 5 (⟨#[]⟩) ([])).to_) ((RdD.mk 0 3 1 (⟨#[]⟩) (⟨#[]⟩) 5 3 5 (⟨#[]⟩) ([])).at0) ((RdD.mk 0 3 1 (⟨#[]⟩) (⟨#[]⟩) 5 3 5 (⟨#[]⟩) ([])).n) ((RdD.mk 0 3 1 (⟨#[]⟩) (⟨#[]⟩) 5 3 5 (⟨#[]⟩) ([])).tm) (nxK (lastK (RdD.mk 0 3 1 (⟨#[]⟩) (⟨#[]⟩) 5 3 5 (⟨#[]⟩) ([])) ([(⟨#[97]⟩, ⟨#[]⟩), (⟨#[98]⟩, ⟨#[]⟩)] : List PrT))) ((RdD.mk 0 3 1 (⟨#[]⟩) (⟨#[]⟩) 5 3 5 (⟨#[]⟩) ([])).prs ++ ([(⟨#[97]⟩, ⟨#[]⟩), (⟨#[98]⟩, ⟨#[]⟩)] : List PrT).take (pgN (RdD.mk 0 3 1 (⟨#[]⟩) (⟨#[]⟩) 5 3 5 (⟨#[]⟩) ([])) ([(⟨#[97]⟩, ⟨#[]⟩), (⟨#[98]⟩, ⟨#[]⟩)] : List PrT)))).to_), .int .i64 0, .slice none 0 0, .int .u64 0, .int .i64 0, .int .i64 0, .slice none 0 0, .slice none 0 0, .slice none 0 0, .slice none 0 0]] ∧ Below w60.heap.size w60 xw) rfl rfl rfl (by kernel_rfl) (by kernel_rfl) (Try.call13 _ _) (aTNext_any tk5 nb70 (RdD.mk ((RdD.mk 0 3 1 (⟨#[]⟩) (⟨#[]⟩) 5 3 5 (⟨#[]⟩) ([])).c) ((RdD.mk 0 3 1 (⟨#[]⟩) (⟨#[]⟩) 5 3 5 (⟨#[]⟩) ([])).rq) ((RdD.mk 0 3 1 (⟨#[]⟩) (⟨#[]⟩) 5 3 5 (⟨#[]⟩) ([])).nd) ((RdD.mk 0 3 1 (⟨#[]⟩) (⟨#[]⟩) 5 3 5 (⟨#[]⟩) ([])).k0) ((RdD.mk 0 3 1 (⟨#[]⟩) (⟨#[]⟩) 5 3 5 (⟨#[]⟩) ([])).to_) ((RdD.mk 0 3 1 (⟨#[]⟩) (⟨#[]⟩) 5 3 5 (⟨#[]⟩) ([])).at0) ((RdD.mk 0 3 1 (⟨#[]⟩) (⟨#[]⟩) 5 3 5 (⟨#[]⟩) ([])).n) ((RdD.mk 0 3 1 (⟨#[]⟩) (⟨#[]⟩) 5 3 5 (⟨#[]⟩) ([])).tm) (nxK (lastK (RdD.mk 0 3 1 (⟨#[]⟩) (⟨#[]⟩) 5 3 5 (⟨#[]⟩) ([])) ([(⟨#[97]⟩, ⟨#[]⟩), (⟨#[98]⟩, ⟨#[]⟩)] : List PrT))) ((RdD.mk 0 3 1 (⟨#[]⟩) (⟨#[]⟩) 5 3 5 (⟨#[]⟩) ([])).prs ++ ([(⟨#[97]⟩, ⟨#[]⟩), (⟨#[98]⟩, ⟨#[]⟩)] : List PrT).take (pgN (RdD.mk 0 3 1 (⟨#[]⟩) (⟨#[]⟩) 5 3 5 (⟨#[]⟩) ([])) ([(⟨#[97]⟩, ⟨#[]⟩), (⟨#[98]⟩, ⟨#[]⟩)] : List PrT)))) u7 u71 0 0 (-1) w60 hq73 hq74 (row_sl hq72 prE_len) (by first | omega | decide | (dsimp only; omega)) (by first | omega | decide | (dsimp only; omega))) (by rintro e x ⟨rfl, hb85⟩; exact ⟨_, rfl, ⟨rfl, hb85⟩⟩)) ?_; clear h82
 rintro _ w84 a83 ⟨rfl, hb85⟩ h83
 have hz86 := hb85.size
 refine pk0 (v := .tuple #[.int .i64 ((RdD.mk ((RdD.mk 0 3 1 (⟨#[]⟩) (⟨#[]⟩) 5 3 5 (⟨#[]⟩) ([])).c) ((RdD.mk 0 3 1 (⟨#[]⟩) (⟨#[]⟩) 5 3 5 (⟨#[]⟩) ([])).rq) ((RdD.mk 0 3 1 (⟨#[]⟩) (⟨#[]⟩) 5 3 5 (⟨#[]⟩) ([])).nd) ((RdD.mk 0 3 1 (⟨#[]⟩) (⟨#[]⟩) 5 3 5 (⟨#[]⟩) ([])).k0) ((RdD.mk 0 3 1 (⟨#[]⟩) (⟨#[]⟩) 5 3 5 (⟨#[]⟩) ([])).to_) ((RdD.mk 0 3 1 (⟨#[]⟩) (⟨#[]⟩) 5 3 5 (⟨#[]⟩) ([])).at0) ((RdD.mk 0 3 1 (⟨#[]⟩) (⟨#[]⟩) 5 3 5 (⟨#[]⟩) ([])).n) ((RdD.mk 0 3 1 (⟨#[]⟩) (⟨#[]⟩) 5 3 5 (⟨#[]⟩) ([])).tm) (nxK (lastK (RdD.mk 0 3 1 (⟨#[]⟩) (⟨#[]⟩) 5 3 5 (⟨#[]⟩) ([])) ([(⟨#[97]⟩, ⟨#[]⟩), (⟨#[98]⟩, ⟨#[]⟩)] : List PrT))) ((RdD.mk 0 3 1 (⟨#[]⟩) (⟨#[]⟩) 5 3 5 (⟨#[]⟩) ([])).prs ++ ([(⟨#[97]⟩, ⟨#[]⟩), (⟨#[98]⟩, ⟨#[]⟩)] : List PrT).take (pgN (RdD.mk 0 3 1 (⟨#[]⟩) (⟨#[]⟩) 5 3 5 (⟨#[]⟩) ([])) ([(⟨#[97]⟩, ⟨#[]⟩), (⟨#[98]⟩, ⟨#[]⟩)] : List PrT)))).nd), .agg #[.int .i64 9, .int .i64 0, .int .i64 ((RdD.mk ((RdD.mk 0 3 1 (⟨#[]⟩) (⟨#[]⟩) 5 3 5 (⟨#[]⟩) ([])).c) ((RdD.mk 0 3 1 (⟨#[]⟩) (⟨#[]⟩) 5 3 5 (⟨#[]⟩) ([])).rq) ((RdD.mk 0 3 1 (⟨#[]⟩) (⟨#[]⟩) 5 3 5 (⟨#[]⟩) ([])).nd) ((RdD.mk 0 3 1 (⟨#[]⟩) (⟨#[]⟩) 5 3 5 (⟨#[]⟩) ([])).k0) ((RdD.mk 0 3 1 (⟨#[]⟩) (⟨#[]⟩) 5 3 5 (⟨#[]⟩) ([])).to_) ((RdD.mk 0 3 1 (⟨#[]⟩) (⟨#[]⟩) 5 3 5 (⟨#[]⟩) ([])).at0) ((RdD.mk 0 3 1 (⟨#[]⟩) (⟨#[]⟩) 5 3 5 (⟨#[]⟩) ([])).n) ((RdD.mk 0 3 1 (⟨#[]⟩) (⟨#[]⟩) 5 3 5 (⟨#[]⟩) ([])).tm) (nxK (lastK (RdD.mk 0 3 1 (⟨#[]⟩) (⟨#[]⟩) 5 3 5 (⟨#[]⟩) ([])) ([(⟨#[97]⟩, ⟨#[]⟩), (⟨#[98]⟩, ⟨#[]⟩)] : List PrT))) ((RdD.mk 0 3 1 (⟨#[]⟩) (⟨#[]⟩) 5 3 5 (⟨#[]⟩) ([])).prs ++ ([(⟨#[97]⟩, ⟨#[]⟩), (⟨#[98]⟩, ⟨#[]⟩)] : List PrT).take (pgN (RdD.mk 0 3 1 (⟨#[]⟩) (⟨#[]⟩) 5 3 5 (⟨#[]⟩) ([])) ([(⟨#[97]⟩, ⟨#[]⟩), (⟨#[98]⟩, ⟨#[]⟩)] : List PrT)))).rq), .int .i64 0, .bool false, .int .u64 ((RdD.mk ((RdD.mk 0 3 1 (⟨#[]⟩) (⟨#[]⟩) 5 3 5 (⟨#[]⟩) ([])).c) ((RdD.mk 0 3 1 (⟨#[]⟩) (⟨#[]⟩) 5 3 5 (⟨#[]⟩) ([])).rq) ((RdD.mk 0 3 1 (⟨#[]⟩) (⟨#[]⟩) 5 3 5 (⟨#[]⟩) ([])).nd) ((RdD.mk 0 3 1 (⟨#[]⟩) (⟨#[]⟩) 5 3 5 (⟨#[]⟩) ([])).k0) ((RdD.mk 0 3 1 (⟨#[]⟩) (⟨#[]⟩) 5 3 5 (⟨#[]⟩) ([])).to_) ((RdD.mk 0 3 1 (⟨#[]⟩) (⟨#[]⟩) 5 3 5 (⟨#[]⟩) ([])).at0) ((RdD.mk 0 3 1 (⟨#[]⟩) (⟨#[]⟩) 5 3 5 (⟨#[]⟩) ([])).n) ((RdD.mk 0 3 1 (⟨#[]⟩) (⟨#[]⟩) 5 3 5 (⟨#[]⟩) ([])).tm) (nxK (lastK (RdD.mk 0 3 1 (⟨#[]⟩) (⟨#[]⟩) 5 3 5 (⟨#[]⟩) ([])) ([(⟨#[97]⟩, ⟨#[]⟩), (⟨#[98]⟩, ⟨#[]⟩)] : List PrT))) ((RdD.mk 0 3 1 (⟨#[]⟩) (⟨#[]⟩) 5 3 5 (⟨#[]⟩) ([])).prs ++ ([(⟨#[97]⟩, ⟨#[]⟩), (⟨#[98]⟩, ⟨#[]⟩)] : List PrT).take (pgN (RdD.mk 0 3 1 (⟨#[]⟩) (⟨#[]⟩) 5 3 5 (⟨#[]⟩) ([])) ([(⟨#[97]⟩, ⟨#[]⟩), (⟨#[98]⟩, ⟨#[]⟩)] : List PrT)))).tm), .int .u64 0, .int .i64 (mnI 2 ((RdD.mk ((RdD.mk 0 3 1 (⟨#[]⟩) (⟨#[]⟩) 5 3 5 (⟨#[]⟩) ([])).c) ((RdD.mk 0 3 1 (⟨#[]⟩) (⟨#[]⟩) 5 3 5 (⟨#[]⟩) ([])).rq) ((RdD.mk 0 3 1 (⟨#[]⟩) (⟨#[]⟩) 5 3 5 (⟨#[]⟩) ([])).nd) ((RdD.mk 0 3 1 (⟨#[]⟩) (⟨#[]⟩) 5 3 5 (⟨#[]⟩) ([])).k0) ((RdD.mk 0 3 1 (⟨#[]⟩) (⟨#[]⟩) 5 3 5 (⟨#[]⟩) ([])).to_) ((RdD.mk 0 3 1 (⟨#[]⟩) (⟨#[]⟩) 5 3 5 (⟨#[]⟩) ([])).at0) ((RdD.mk 0 3 1 (⟨#[]⟩) (⟨#[]⟩) 5 3 5 (⟨#[]⟩) ([])).n) ((RdD.mk 0 3 1 (⟨#[]⟩) (⟨#[]⟩) 5 3 5 (⟨#[]⟩) ([])).tm) (nxK (lastK (RdD.mk 0 3 1 (⟨#[]⟩) (⟨#[]⟩) 5 3 5 (⟨#[]⟩) ([])) ([(⟨#[97]⟩, ⟨#[]⟩), (⟨#[98]⟩, ⟨#[]⟩)] : List PrT))) ((RdD.mk 0 3 1 (⟨#[]⟩) (⟨#[]⟩) 5 3 5 (⟨#[]⟩) ([])).prs ++ ([(⟨#[97]⟩, ⟨#[]⟩), (⟨#[98]⟩, ⟨#[]⟩)] : List PrT).take (pgN (RdD.mk 0 3 1 (⟨#[]⟩) (⟨#[]⟩) 5 3 5 (⟨#[]⟩) ([])) ([(⟨#[97]⟩, ⟨#[]⟩), (⟨#[98]⟩, ⟨#[]⟩)] : List PrT)))).n - ((RdD.mk ((RdD.mk 0 3 1 (⟨#[]⟩) (⟨#[]⟩) 5 3 5 (⟨#[]⟩) ([])).c) ((RdD.mk 0 3 1 (⟨#[]⟩) (⟨#[]⟩) 5 3 5 (⟨#[]⟩) ([])).rq) ((RdD.mk 0 3 1 (⟨#[]⟩) (⟨#[]⟩) 5 3 5 (⟨#[]⟩) ([])).nd) ((RdD.mk 0 3 1 (⟨#[]⟩) (⟨#[]⟩) 5 3 5 (⟨#[]⟩) ([])).k0) ((RdD.mk 0 3 1 (⟨#[]⟩) (⟨#[]⟩) 5 3 5 (⟨#[]⟩) ([])).to_) ((RdD.mk 0 3 1 (⟨#[]⟩) (⟨#[]⟩) 5 3 5 (⟨#[]⟩) ([])).at0) ((RdD.mk 0 3 1 (⟨#[]⟩) (⟨#[]⟩) 5 3 5 (⟨#[]⟩) ([])).n) ((RdD.mk 0 3 1 (⟨#[]⟩) (⟨#[]⟩) 5 3 5 (⟨#[]⟩) ([])).tm) (nxK (lastK (RdD.mk 0 3 1 (⟨#[]⟩) (⟨#[]⟩) 5 3 5 (⟨#[]⟩) ([])) ([(⟨#[97]⟩, ⟨#[]⟩), (⟨#[98]⟩, ⟨#[]⟩)] : List PrT))) ((RdD.mk 0 3 1 (⟨#[]⟩) (⟨#[]⟩) 5 3 5 (⟨#[]⟩) ([])).prs ++ ([(⟨#[97]⟩, ⟨#[]⟩), (⟨#[98]⟩, ⟨#[]⟩)] : List PrT).take (pgN (RdD.mk 0 3 1 (⟨#[]⟩) (⟨#[]⟩) 5 3 5 (⟨#[]⟩) ([])) ([(⟨#[97]⟩, ⟨#[]⟩), (⟨#[98]⟩, ⟨#[]⟩)] : List PrT)))).prs.length : Int))), .int .i64 0, .int .i64 0, .int .i64 0, .string ((RdD.mk ((RdD.mk 0 3 1 (⟨#[]⟩) (⟨#[]⟩) 5 3 5 (⟨#[]⟩) ([])).c) ((RdD.mk 0 3 1 (⟨#[]⟩) (⟨#[]⟩) 5 3 5 (⟨#[]⟩) ([])).rq) ((RdD.mk 0 3 1 (⟨#[]⟩) (⟨#[]⟩) 5 3 5 (⟨#[]⟩) ([])).nd) ((RdD.mk 0 3 1 (⟨#[]⟩) (⟨#[]⟩) 5 3 5 (⟨#[]⟩) ([])).k0) ((RdD.mk 0 3 1 (⟨#[]⟩) (⟨#[]⟩) 5 3 5 (⟨#[]⟩) ([])).to_) ((RdD.mk 0 3 1 (⟨#[]⟩) (⟨#[]⟩) 5 3 5 (⟨#[]⟩) ([])).at0) ((RdD.mk 0 3 1 (⟨#[]⟩) (⟨#[]⟩) 5 3 5 (⟨#[]⟩) ([])).n) ((RdD.mk 0 3 1 (⟨#[]⟩) (⟨#[]⟩) 5 3 5 (⟨#[]⟩) ([])).tm) (nxK (lastK (RdD.mk 0 3 1 (⟨#[]⟩) (⟨#[]⟩) 5 3 5 (⟨#[]⟩) ([])) ([(⟨#[97]⟩, ⟨#[]⟩), (⟨#[98]⟩, ⟨#[]⟩)] : List PrT))) ((RdD.mk 0 3 1 (⟨#[]⟩) (⟨#[]⟩) 5 3 5 (⟨#[]⟩) ([])).prs ++ ([(⟨#[97]⟩, ⟨#[]⟩), (⟨#[98]⟩, ⟨#[]⟩)] : List PrT).take (pgN (RdD.mk 0 3 1 (⟨#[]⟩) (⟨#[]⟩) 5 3 5 (⟨#[]⟩) ([])) ([(⟨#[97]⟩, ⟨#[]⟩), (⟨#[98]⟩, ⟨#[]⟩)] : List PrT)))).key), .string ((RdD.mk ((RdD.mk 0 3 1 (⟨#[]⟩) (⟨#[]⟩) 5 3 5 (⟨#[]⟩) ([])).c) ((RdD.mk 0 3 1 (⟨#[]⟩) (⟨#[]⟩) 5 3 5 (⟨#[]⟩) ([])).rq) ((RdD.mk 0 3 1 (⟨#[]⟩) (⟨#[]⟩) 5 3 5 (⟨#[]⟩) ([])).nd) ((RdD.mk 0 3 1 (⟨#[]⟩) (⟨#[]⟩) 5 3 5 (⟨#[]⟩) ([])).k0) ((RdD.mk 0 3 1 (⟨#[]⟩) (⟨#[]⟩) 5 3 5 (⟨#[]⟩) ([])).to_) ((RdD.mk 0 3 1 (⟨#[]⟩) (⟨#[]⟩) 5 3 5 (⟨#[]⟩) ([])).at0) ((RdD.mk 0 3 1 (⟨#[]⟩) (⟨#[]⟩) 5 3 5 (⟨#[]⟩) ([])).n) ((RdD.mk 0 3 1 (⟨#[]⟩) (⟨#[]⟩) 5 3 5 (⟨#[]⟩) ([])).tm) (nxK (lastK (RdD.mk 0 3 1 (⟨#[]⟩) (⟨#[]⟩) 5 3 5 (⟨#[]⟩) ([])) ([(⟨#[97]⟩, ⟨#[]⟩), (⟨#[98]⟩, ⟨#[]⟩)] : List PrT))) ((RdD.mk 0 3 1 (⟨#[]⟩) (⟨#[]⟩) 5 3 5 (⟨#[]⟩) ([])).prs ++ ([(⟨#[97]⟩, ⟨#[]⟩), (⟨#[98]⟩, ⟨#[]⟩)] : List PrT).take (pgN (RdD.mk 0 3 1 (⟨#[]⟩) (⟨#[]⟩) 5 3 5 (⟨#[]⟩) ([])) ([(⟨#[97]⟩, ⟨#[]⟩), (⟨#[98]⟩, ⟨#[]⟩)] : List PrT)))).to_), .int .i64 0, .slice none 0 0, .int .u64 0, .int .i64 0, .int .i64 0, .slice none 0 0, .slice none 0 0, .slice none 0 0, .slice none 0 0]]) h83 rfl fun a87 h87 => ?_; clear h83
 refine pk0 (v := .int .i64 ((RdD.mk ((RdD.mk 0 3 1 (⟨#[]⟩) (⟨#[]⟩) 5 3 5 (⟨#[]⟩) ([])).c) ((RdD.mk 0 3 1 (⟨#[]⟩) (⟨#[]⟩) 5 3 5 (⟨#[]⟩) ([])).rq) ((RdD.mk 0 3 1 (⟨#[]⟩) (⟨#[]⟩) 5 3 5 (⟨#[]⟩) ([])).nd) ((RdD.mk 0 3 1 (⟨#[]⟩) (⟨#[]⟩) 5 3 5 (⟨#[]⟩) ([])).k0) ((RdD.mk 0 3 1 (⟨#[]⟩) (⟨#[]⟩) 5 3 5 (⟨#[]⟩) ([])).to_) ((RdD.mk 0 3 1 (⟨#[]⟩) (⟨#[]⟩) 5 3 5 (⟨#[]⟩) ([])).at0) ((RdD.mk 0 3 1 (⟨#[]⟩) (⟨#[]⟩) 5 3 5 (⟨#[]⟩) ([])).n) ((RdD.mk 0 3 1 (⟨#[]⟩) (⟨#[]⟩) 5 3 5 (⟨#[]⟩) ([])).tm) (nxK (lastK (RdD.mk 0 3 1 (⟨#[]⟩) (⟨#[]⟩) 5 3 5 (⟨#[]⟩) ([])) ([(⟨#[97]⟩, ⟨#[]⟩), (⟨#[98]⟩, ⟨#[]⟩)] : List PrT))) ((RdD.mk 0 3 1 (⟨#[]⟩) (⟨#[]⟩) 5 3 5 (⟨#[]⟩) ([])).prs ++ ([(⟨#[97]⟩, ⟨#[]⟩), (⟨#[98]⟩, ⟨#[]⟩)] : List PrT).take (pgN (RdD.mk 0 3 1 (⟨#[]⟩) (⟨#[]⟩) 5 3 5 (⟨#[]⟩) ([])) ([(⟨#[97]⟩, ⟨#[]⟩), (⟨#[98]⟩, ⟨#[]⟩)] : List PrT)))).nd)) h87 rfl fun a88 h88 => ?_; clear h87
 refine pk0 (v := .agg #[.int .i64 9, .int .i64 0, .int .i64 ((RdD.mk ((RdD.mk 0 3 1 (⟨#[]⟩) (⟨#[]⟩) 5 3 5 (⟨#[]⟩) ([])).c) ((RdD.mk 0 3 1 (⟨#[]⟩) (⟨#[]⟩) 5 3 5 (⟨#[]⟩) ([])).rq) ((RdD.mk 0 3 1 (⟨#[]⟩) (⟨#[]⟩) 5 3 5 (⟨#[]⟩) ([])).nd) ((RdD.mk 0 3 1 (⟨#[]⟩) (⟨#[]⟩) 5 3 5 (⟨#[]⟩) ([])).k0) ((RdD.mk 0 3 1 (⟨#[]⟩) (⟨#[]⟩) 5 3 5 (⟨#[]⟩) ([])).to_) ((RdD.mk 0 3 1 (⟨#[]⟩) (⟨#[]⟩) 5 3 5 (⟨#[]⟩) ([])).at0) ((RdD.mk 0 3 1 (⟨#[]⟩) (⟨#[]⟩) 5 3 5 (⟨#[]⟩) ([])).n) ((RdD.mk 0 3 1 (⟨#[]⟩) (⟨#[]⟩) 5 3 5 (⟨#[]⟩) ([])).tm) (nxK (lastK (RdD.mk 0 3 1 (⟨#[]⟩) (⟨#[]⟩) 5 3 5 (⟨#[]⟩) ([])) ([(⟨#[97]⟩, ⟨#[]⟩), (⟨#[98]⟩, ⟨#[]⟩)] : List PrT))) ((RdD.mk 0 3 1 (⟨#[]⟩) (⟨#[]⟩) 5 3 5 (⟨#[]⟩) ([])).prs ++ ([(⟨#[97]⟩, ⟨#[]⟩), (⟨#[98]⟩, ⟨#[]⟩)] : List PrT).take (pgN (RdD.mk 0 3 1 (⟨#[]⟩) (⟨#[]⟩) 5 3 5 (⟨#[]⟩) ([])) ([(⟨#[97]⟩, ⟨#[]⟩), (⟨#[98]⟩, ⟨#[]⟩)] : List PrT)))).rq), .int .i64 0, .bool false, .int .u64 ((RdD.mk ((RdD.mk 0 3 1 (⟨#[]⟩) (⟨#[]⟩) 5 3 5 (⟨#[]⟩) ([])).c) ((RdD.mk 0 3 1 (⟨#[]⟩) (⟨#[]⟩) 5 3 5 (⟨#[]⟩) ([])).rq) ((RdD.mk 0 3 1 (⟨#[]⟩) (⟨#[]⟩) 5 3 5 (⟨#[]⟩) ([])).nd) ((RdD.mk 0 3 1 (⟨#[]⟩) (⟨#[]⟩) 5 3 5 (⟨#[]⟩) ([])).k0) ((RdD.mk 0 3 1 (⟨#[]⟩) (⟨#[]⟩) 5 3 5 (⟨#[]⟩) ([])).to_) ((RdD.mk 0 3 1 (⟨#[]⟩) (⟨#[]⟩) 5 3 5 (⟨#[]⟩) ([])).at0) ((RdD.mk 0 3 1 (⟨#[]⟩) (⟨#[]⟩) 5 3 5 (⟨#[]⟩) ([])).n) ((RdD.mk 0 3 1 (⟨#[]⟩) (⟨#[]⟩) 5 3 5 (⟨#[]⟩) ([])).tm) (nxK (lastK (RdD.mk 0 3 1 (⟨#[]⟩) (⟨#[]⟩) 5 3 5 (⟨#[]⟩) ([])) ([(⟨#[97]⟩, ⟨#[]⟩), (⟨#[98]⟩, ⟨#[]⟩)] : List PrT))) ((RdD.mk 0 3 1 (⟨#[]⟩) (⟨#[]⟩) 5 3 5 (⟨#[]⟩) ([])).prs ++ ([(⟨#[97]⟩, ⟨#[]⟩), (⟨#[98]⟩, ⟨#[]⟩)] : List PrT).take (pgN (RdD.mk 0 3 1 (⟨#[]⟩) (⟨#[]⟩) 5 3 5 (⟨#[]⟩) ([])) ([(⟨#[97]⟩, ⟨#[]⟩), (⟨#[98]⟩, ⟨#[]⟩)] : List PrT)))).tm), .int .u64 0, .int .i64 (mnI 2 ((RdD.mk ((RdD.mk 0 3 1 (⟨#[]⟩) (⟨#[]⟩) 5 3 5 (⟨#[]⟩) ([])).c) ((RdD.mk 0 3 1 (⟨#[]⟩) (⟨#[]⟩) 5 3 5 (⟨#[]⟩) ([])).rq) ((RdD.mk 0 3 1 (⟨#[]⟩) (⟨#[]⟩) 5 3 5 (⟨#[]⟩) ([])).nd) ((RdD.mk 0 3 1 (⟨#[]⟩) (⟨#[]⟩) 5 3 5 (⟨#[]⟩) ([])).k0) ((RdD.mk 0 3 1 (⟨#[]⟩) (⟨#[]⟩) 5 3 5 (⟨#[]⟩) ([])).to_) ((RdD.mk 0 3 1 (⟨#[]⟩) (⟨#[]⟩) 5 3 5 (⟨#[]⟩) ([])).at0) ((RdD.mk 0 3 1 (⟨#[]⟩) (⟨#[]⟩) 5 3 5 (⟨#[]⟩) ([])).n) ((RdD.mk 0 3 1 (⟨#[]⟩) (⟨#[]⟩) 5 3 5 (⟨#[]⟩) ([])).tm) (nxK (lastK (RdD.mk 0 3 1 (⟨#[]⟩) (⟨#[]⟩) 5 3 5 (⟨#[]⟩) ([])) ([(⟨#[97]⟩, ⟨#[]⟩), (⟨#[98]⟩, ⟨#[]⟩)] : List PrT))) ((RdD.mk 0 3 1 (⟨#[]⟩) (⟨#[]⟩) 5 3 5 (⟨#[]⟩) ([])).prs ++ ([(⟨#[97]⟩, ⟨#[]⟩), (⟨#[98]⟩, ⟨#[]⟩)] : List PrT).take (pgN (RdD.mk 0 3 1 (⟨#[]⟩) (⟨#[]⟩) 5 3 5 (⟨#[]⟩) ([])) ([(⟨#[97]⟩, ⟨#[]⟩), (⟨#[98]⟩, ⟨#[]⟩)] : List PrT)))).n - ((RdD.mk ((RdD.mk 0 3 1 (⟨#[]⟩) (⟨#[]⟩) 5 3 5 (⟨#[]⟩) ([])).c) ((RdD.mk 0 3 1 (⟨#[]⟩) (⟨#[]⟩) 5 3 5 (⟨#[]⟩) ([])).rq) ((RdD.mk 0 3 1 (⟨#[]⟩) (⟨#[]⟩) 5 3 5 (⟨#[]⟩) ([])).nd) ((RdD.mk 0 3 1 (⟨#[]⟩) (⟨#[]⟩) 5 3 5 (⟨#[]⟩) ([])).k0) ((RdD.mk 0 3 1 (⟨#[]⟩) (⟨#[]⟩) 5 3 5 (⟨#[]⟩) ([])).to_) ((RdD.mk 0 3 1 (⟨#[]⟩) (⟨#[]⟩) 5 3 5 (⟨#[]⟩) ([])).at0) ((RdD.mk 0 3 1 (⟨#[]⟩) (⟨#[]⟩) 5 3 5 (⟨#[]⟩) ([])).n) ((RdD.mk 0 3 1 (⟨#[]⟩) (⟨#[]⟩) 5 3 5 (⟨#[]⟩) ([])).tm) (nxK (lastK (RdD.mk 0 3 1 (⟨#[]⟩) (⟨#[]⟩) 5 3 5 (⟨#[]⟩) ([])) ([(⟨#[97]⟩, ⟨#[]⟩), (⟨#[98]⟩, ⟨#[]⟩)] : List PrT))) ((RdD.mk 0 3 1 (⟨#[]⟩) (⟨#[]⟩) 5 3 5 (⟨#[]⟩) ([])).prs ++ ([(⟨#[97]⟩, ⟨#[]⟩), (⟨#[98]⟩, ⟨#[]⟩)] : List PrT).take (pgN (RdD.mk 0 3 1 (⟨#[]⟩) (⟨#[]⟩) 5 3 5 (⟨#[]⟩) ([])) ([(⟨#[97]⟩, ⟨#[]⟩), (⟨#[98]⟩, ⟨#[]⟩)] : List PrT)))).prs.length : Int))), .int .i64 0, .int .i64 0, .int .i64 0, .string ((RdD.mk ((RdD.mk 0 3 1 (⟨#[]⟩) (⟨#[]⟩) 5 3 5 (⟨#[]⟩) ([])).c) ((RdD.mk 0 3 1 (⟨#[]⟩) (⟨#[]⟩) 5 3 5 (⟨#[]⟩) ([])).rq) ((RdD.mk 0 3 1 (⟨#[]⟩) (⟨#[]⟩) 5 3 5 (⟨#[]⟩) ([])).nd) ((RdD.mk 0 3 1 (⟨#[]⟩) (⟨#[]⟩) 5 3 5 (⟨#[]⟩) ([])).k0) ((RdD.mk 0 3 1 (⟨#[]⟩) (⟨#[]⟩) 5 3 5 (⟨#[]⟩) ([])).to_) ((RdD.mk 0 3 1 (⟨#[]⟩) (⟨#[]⟩) 5 3 5 (⟨#[]⟩) ([])).at0) ((RdD.mk 0 3 1 (⟨#[]⟩) (⟨#[]⟩) 5 3 5 (⟨#[]⟩) ([])).n) ((RdD.mk 0 3 1 (⟨#[]⟩) (⟨#[]⟩) 5 3 5 (⟨#[]⟩) ([])).tm) (nxK (lastK (RdD.mk 0 3 1 (⟨#[]⟩) (⟨#[]⟩) 5 3 5 (⟨#[]⟩) ([])) ([(⟨#[97]⟩, ⟨#[]⟩), (⟨#[98]⟩, ⟨#[]⟩)] : List PrT))) ((RdD.mk 0 3 1 (⟨#[]⟩) (⟨#[]⟩) 5 3 5 (⟨#[]⟩) ([])).prs ++ ([(⟨#[97]⟩, ⟨#[]⟩), (⟨#[98]⟩, ⟨#[]⟩)] : List PrT).take (pgN (RdD.mk 0 3 1 (⟨#[]⟩) (⟨#[]⟩) 5 3 5 (⟨#[]⟩) ([])) ([(⟨#[97]⟩, ⟨#[]⟩), (⟨#[98]⟩, ⟨#[]⟩)] : List PrT)))).key), .string ((RdD.mk ((RdD.mk 0 3 1 (⟨#[]⟩) (⟨#[]⟩) 5 3 5 (⟨#[]⟩) ([])).c) ((RdD.mk 0 3 1 (⟨#[]⟩) (⟨#[]⟩) 5 3 5 (⟨#[]⟩) ([])).rq) ((RdD.mk 0 3 1 (⟨#[]⟩) (⟨#[]⟩) 5 3 5 (⟨#[]⟩) ([])).nd) ((RdD.mk 0 3 1 (⟨#[]⟩) (⟨#[]⟩) 5 3 5 (⟨#[]⟩) ([])).k0) ((RdD.mk 0 3 1 (⟨#[]⟩) (⟨#[]⟩) 5 3 5 (⟨#[]⟩) ([])).to_) ((RdD.mk 0 3 1 (⟨#[]⟩) (⟨#[]⟩) 5 3 5 (⟨#[]⟩) ([])).at0) ((RdD.mk 0 3 1 (⟨#[]⟩) (⟨#[]⟩) 5 3 5 (⟨#[]⟩) ([])).n) ((RdD.mk 0 3 1 (⟨#[]⟩) (⟨#[]⟩) 5 3 5 (⟨#[]⟩) ([])).tm) (nxK (lastK (RdD.mk 0 3 1 (⟨#[]⟩) (⟨#[]⟩) 5 3 5 (⟨#[]⟩) ([])) ([(⟨#[97]⟩, ⟨#[]⟩), (⟨#[98]⟩, ⟨#[]⟩)] : List PrT))) ((RdD.mk 0 3 1 (⟨#[]⟩) (⟨#[]⟩) 5 3 5 (⟨#[]⟩) ([])).prs ++ ([(⟨#[97]⟩, ⟨#[]⟩), (⟨#[98]⟩, ⟨#[]⟩)] : List PrT).take (pgN (RdD.mk 0 3 1 (⟨#[]⟩) (⟨#[]⟩) 5 3 5 (⟨#[]⟩) ([])) ([(⟨#[97]⟩, ⟨#[]⟩), (⟨#[98]⟩, ⟨#[]⟩)] : List PrT)))).to_), .int .i64 0, .slice none 0 0, .int .u64 0, .int .i64 0, .int .i64 0, .slice none 0 0, .slice none 0 0, .slice none 0 0, .slice none 0 0]) h88 rfl fun a89 h89 => ?_; clear h88
 refine pw h89 rfl (op_new (v := fun N => pt N 0) (T := 46) (cs := #[.int .i64 0, .int .i64 0, .int .i64 0, .int .i64 0, .bool false, .int .u64 0, .int .u64 0, .int .i64 0, .int .i64 0, .int .i64 0, .int .i64 0, .string (⟨#[]⟩), .string (⟨#[]⟩), .int .i64 0, .slice none 0 0, .int .u64 0, .int .i64 0, .int .i64 0, .slice none 0 0, .slice none 0 0, .slice none 0 0, .slice none 0 0]) (by kernel_rfl) (by kernel_rfl) (by kernel_rfl)) ?_; clear h89
 rintro _ w91 a90 ⟨N92, rfl, hN95, hz96, hk94, hg93⟩ h90
 have hr98 := own_but hr61 hb76 (fun i hi hS => by (try simp at hS); subst hS; exact absurd hi (row_ne_lt hr61 (by omega)))
 have hr99 := row_kept_new hr98 (below_grown hb85)
 have ha97 := row_fresh hr99 hN95
 have hr101 := row_kept_new hq72 (below_grown hb85)
 have ha100 := row_fresh hr101 hN95
 have hz102 := hg93.size
 try dsimp only at h90
 refine pk0 (v := .int .i64 ((RdD.mk ((RdD.mk 0 3 1 (⟨#[]⟩) (⟨#[]⟩) 5 3 5 (⟨#[]⟩) ([])).c) ((RdD.mk 0 3 1 (⟨#[]⟩) (⟨#[]⟩) 5 3 5 (⟨#[]⟩) ([])).rq) ((RdD.mk 0 3 1 (⟨#[]⟩) (⟨#[]⟩) 5 3 5 (⟨#[]⟩) ([])).nd) ((RdD.mk 0 3 1 (⟨#[]⟩) (⟨#[]⟩) 5 3 5 (⟨#[]⟩) ([])).k0) ((RdD.mk 0 3 1 (⟨#[]⟩) (⟨#[]⟩) 5 3 5 (⟨#[]⟩) ([])).to_) ((RdD.mk 0 3 1 (⟨#[]⟩) (⟨#[]⟩) 5 3 5 (⟨#[]⟩) ([])).at0) ((RdD.mk 0 3 1 (⟨#[]⟩) (⟨#[]⟩) 5 3 5 (⟨#[]⟩) ([])).n) ((RdD.mk 0 3 1 (⟨#[]⟩) (⟨#[]⟩) 5 3 5 (⟨#[]⟩) ([])).tm) (nxK (lastK (RdD.mk 0 3 1 (⟨#[]⟩) (⟨#[]⟩) 5 3 5 (⟨#[]⟩) ([])) ([(⟨#[97]⟩, ⟨#[]⟩), (⟨#[98]⟩, ⟨#[]⟩)] : List PrT))) ((RdD.mk 0 3 1 (⟨#[]⟩) (⟨#[]⟩) 5 3 5 (⟨#[]⟩) ([])).prs ++ ([(⟨#[97]⟩, ⟨#[]⟩), (⟨#[98]⟩, ⟨#[]⟩)] : List PrT).take (pgN (RdD.mk 0 3 1 (⟨#[]⟩) (⟨#[]⟩) 5 3 5 (⟨#[]⟩) ([])) ([(⟨#[97]⟩, ⟨#[]⟩), (⟨#[98]⟩, ⟨#[]⟩)] : List PrT)))).nd)) h90 rfl fun a103 h103 => ?_; clear h90
 refine pwD h103 rfl (op_storeN rfl rfl rfl (all_cons rfl (all_cons rfl (all_cons rfl (all_cons rfl (all_cons rfl (all_cons rfl (all_cons rfl (all_cons rfl (all_cons rfl (all_cons rfl (all_cons rfl (all_cons rfl (all_cons rfl (all_cons rfl (all_cons rfl (all_cons rfl (all_cons rfl (all_cons rfl (all_cons rfl (all_cons rfl (all_cons rfl (all_cons rfl all_nil)))))))))))))))))))))) (by kernel_rfl) hk94 rfl) ?_; clear h103
 rintro _ w105 a104 ⟨hk106, hz107, hg108⟩ h104
 have hk106' : Blk w105 N92 46 #[.int .i64 9, .int .i64 0, .int .i64 ((RdD.mk ((RdD.mk 0 3 1 (⟨#[]⟩) (⟨#[]⟩) 5 3 5 (⟨#[]⟩) ([])).c) ((RdD.mk 0 3 1 (⟨#[]⟩) (⟨#[]⟩) 5 3 5 (⟨#[]⟩) ([])).rq) ((RdD.mk 0 3 1 (⟨#[]⟩) (⟨#[]⟩) 5 3 5 (⟨#[]⟩) ([])).nd) ((RdD.mk 0 3 1 (⟨#[]⟩) (⟨#[]⟩) 5 3 5 (⟨#[]⟩) ([])).k0) ((RdD.mk 0 3 1 (⟨#[]⟩) (⟨#[]⟩) 5 3 5 (⟨#[]⟩) ([])).to_) ((RdD.mk 0 3 1 (⟨#[]⟩) (⟨#[]⟩) 5 3 5 (⟨#[]⟩) ([])).at0) ((RdD.mk 0 3 1 (⟨#[]⟩) (⟨#[]⟩) 5 3 5 (⟨#[]⟩) ([])).n) ((RdD.mk 0 3 1 (⟨#[]⟩) (⟨#[]⟩) 5 3 5 (⟨#[]⟩) ([])).tm) (nxK (lastK (RdD.mk 0 3 1 (⟨#[]⟩) (⟨#[]⟩) 5 3 5 (⟨#[]⟩) ([])) ([(⟨#[97]⟩, ⟨#[]⟩), (⟨#[98]⟩, ⟨#[]⟩)] : List PrT))) ((RdD.mk 0 3 1 (⟨#[]⟩) (⟨#[]⟩) 5 3 5 (⟨#[]⟩) ([])).prs ++ ([(⟨#[97]⟩, ⟨#[]⟩), (⟨#[98]⟩, ⟨#[]⟩)] : List PrT).take (pgN (RdD.mk 0 3 1 (⟨#[]⟩) (⟨#[]⟩) 5 3 5 (⟨#[]⟩) ([])) ([(⟨#[97]⟩, ⟨#[]⟩), (⟨#[98]⟩, ⟨#[]⟩)] : List PrT)))).rq), .int .i64 0, .bool false, .int .u64 ((RdD.mk ((RdD.mk 0 3 1 (⟨#[]⟩) (⟨#[]⟩) 5 3 5 (⟨#[]⟩) ([])).c) ((RdD.mk 0 3 1 (⟨#[]⟩) (⟨#[]⟩) 5 3 5 (⟨#[]⟩) ([])).rq) ((RdD.mk 0 3 1 (⟨#[]⟩) (⟨#[]⟩) 5 3 5 (⟨#[]⟩) ([])).nd) ((RdD.mk 0 3 1 (⟨#[]⟩) (⟨#[]⟩) 5 3 5 (⟨#[]⟩) ([])).k0) ((RdD.mk 0 3 1 (⟨#[]⟩) (⟨#[]⟩) 5 3 5 (⟨#[]⟩) ([])).to_) ((RdD.mk 0 3 1 (⟨#[]⟩) (⟨#[]⟩) 5 3 5 (⟨#[]⟩) ([])).at0) ((RdD.mk 0 3 1 (⟨#[]⟩) (⟨#[]⟩) 5 3 5 (⟨#[]⟩) ([])).n) ((RdD.mk 0 3 1 (⟨#[]⟩) (⟨#[]⟩) 5 3 5 (⟨#[]⟩) ([])).tm) (nxK (lastK (RdD.mk 0 3 1 (⟨#[]⟩) (⟨#[]⟩) 5 3 5 (⟨#[]⟩) ([])) ([(⟨#[97]⟩, ⟨#[]⟩), (⟨#[98]⟩, ⟨#[]⟩)] : List PrT))) ((RdD.mk 0 3 1 (⟨#[]⟩) (⟨#[]⟩) 5 3 5 (⟨#[]⟩) ([])).prs ++ ([(⟨#[97]⟩, ⟨#[]⟩), (⟨#[98]⟩, ⟨#[]⟩)] : List PrT).take (pgN (RdD.mk 0 3 1 (⟨#[]⟩) (⟨#[]⟩) 5 3 5 (⟨#[]⟩) ([])) ([(⟨#[97]⟩, ⟨#[]⟩), (⟨#[98]⟩, ⟨#[]⟩)] : List PrT)))).tm), .int .u64 0, .int .i64 (mnI 2 ((RdD.mk ((RdD.mk 0 3 1 (⟨#[]⟩) (⟨#[]⟩) 5 3 5 (⟨#[]⟩) ([])).c) ((RdD.mk 0 3 1 (⟨#[]⟩) (⟨#[]⟩) 5 3 5 (⟨#[]⟩) ([])).rq) ((RdD.mk 0 3 1 (⟨#[]⟩) (⟨#[]⟩) 5 3 5 (⟨#[]⟩) ([])).nd) ((RdD.mk 0 3 1 (⟨#[]⟩) (⟨#[]⟩) 5 3 5 (⟨#[]⟩) ([])).k0) ((RdD.mk 0 3 1 (⟨#[]⟩) (⟨#[]⟩) 5 3 5 (⟨#[]⟩) ([])).to_) ((RdD.mk 0 3 1 (⟨#[]⟩) (⟨#[]⟩) 5 3 5 (⟨#[]⟩) ([])).at0) ((RdD.mk 0 3 1 (⟨#[]⟩) (⟨#[]⟩) 5 3 5 (⟨#[]⟩) ([])).n) ((RdD.mk 0 3 1 (⟨#[]⟩) (⟨#[]⟩) 5 3 5 (⟨#[]⟩) ([])).tm) (nxK (lastK (RdD.mk 0 3 1 (⟨#[]⟩) (⟨#[]⟩) 5 3 5 (⟨#[]⟩) ([])) ([(⟨#[97]⟩, ⟨#[]⟩), (⟨#[98]⟩, ⟨#[]⟩)] : List PrT))) ((RdD.mk 0 3 1 (⟨#[]⟩) (⟨#[]⟩) 5 3 5 (⟨#[]⟩) ([])).prs ++ ([(⟨#[97]⟩, ⟨#[]⟩), (⟨#[98]⟩, ⟨#[]⟩)] : List PrT).take (pgN (RdD.mk 0 3 1 (⟨#[]⟩) (⟨#[]⟩) 5 3 5 (⟨#[]⟩) ([])) ([(⟨#[97]⟩, ⟨#[]⟩), (⟨#[98]⟩, ⟨#[]⟩)] : List PrT)))).n - ((RdD.mk ((RdD.mk 0 3 1 (⟨#[]⟩) (⟨#[]⟩) 5 3 5 (⟨#[]⟩) ([])).c) ((RdD.mk 0 3 1 (⟨#[]⟩) (⟨#[]⟩) 5 3 5 (⟨#[]⟩) ([])).rq) ((RdD.mk 0 3 1 (⟨#[]⟩) (⟨#[]⟩) 5 3 5 (⟨#[]⟩) ([])).nd) ((RdD.mk 0 3 1 (⟨#[]⟩) (⟨#[]⟩) 5 3 5 (⟨#[]⟩) ([])).k0) ((RdD.mk 0 3 1 (⟨#[]⟩) (⟨#[]⟩) 5 3 5 (⟨#[]⟩) ([])).to_) ((RdD.mk 0 3 1 (⟨#[]⟩) (⟨#[]⟩) 5 3 5 (⟨#[]⟩) ([])).at0) ((RdD.mk 0 3 1 (⟨#[]⟩) (⟨#[]⟩) 5 3 5 (⟨#[]⟩) ([])).n) ((RdD.mk 0 3 1 (⟨#[]⟩) (⟨#[]⟩) 5 3 5 (⟨#[]⟩) ([])).tm) (nxK (lastK (RdD.mk 0 3 1 (⟨#[]⟩) (⟨#[]⟩) 5 3 5 (⟨#[]⟩) ([])) ([(⟨#[97]⟩, ⟨#[]⟩), (⟨#[98]⟩, ⟨#[]⟩)] : List PrT))) ((RdD.mk 0 3 1 (⟨#[]⟩) (⟨#[]⟩) 5 3 5 (⟨#[]⟩) ([])).prs ++ ([(⟨#[97]⟩, ⟨#[]⟩), (⟨#[98]⟩, ⟨#[]⟩)] : List PrT).take (pgN (RdD.mk 0 3 1 (⟨#[]⟩) (⟨#[]⟩) 5 3 5 (⟨#[]⟩) ([])) ([(⟨#[97]⟩, ⟨#[]⟩), (⟨#[98]⟩, ⟨#[]⟩)] : List PrT)))).prs.length : Int))), .int .i64 0, .int .i64 0, .int .i64 0, .string ((RdD.mk ((RdD.mk 0 3 1 (⟨#[]⟩) (⟨#[]⟩) 5 3 5 (⟨#[]⟩) ([])).c) ((RdD.mk 0 3 1 (⟨#[]⟩) (⟨#[]⟩) 5 3 5 (⟨#[]⟩) ([])).rq) ((RdD.mk 0 3 1 (⟨#[]⟩) (⟨#[]⟩) 5 3 5 (⟨#[]⟩) ([])).nd) ((RdD.mk 0 3 1 (⟨#[]⟩) (⟨#[]⟩) 5 3 5 (⟨#[]⟩) ([])).k0) ((RdD.mk 0 3 1 (⟨#[]⟩) (⟨#[]⟩) 5 3 5 (⟨#[]⟩) ([])).to_) ((RdD.mk 0 3 1 (⟨#[]⟩) (⟨#[]⟩) 5 3 5 (⟨#[]⟩) ([])).at0) ((RdD.mk 0 3 1 (⟨#[]⟩) (⟨#[]⟩) 5 3 5 (⟨#[]⟩) ([])).n) ((RdD.mk 0 3 1 (⟨#[]⟩) (⟨#[]⟩) 5 3 5 (⟨#[]⟩) ([])).tm) (nxK (lastK (RdD.mk 0 3 1 (⟨#[]⟩) (⟨#[]⟩) 5 3 5 (⟨#[]⟩) ([])) ([(⟨#[97]⟩, ⟨#[]⟩), (⟨#[98]⟩, ⟨#[]⟩)] : List PrT))) ((RdD.mk 0 3 1 (⟨#[]⟩) (⟨#[]⟩) 5 3 5 (⟨#[]⟩) ([])).prs ++ ([(⟨#[97]⟩, ⟨#[]⟩), (⟨#[98]⟩, ⟨#[]⟩)] : List PrT).take (pgN (RdD.mk 0 3 1 (⟨#[]⟩) (⟨#[]⟩) 5 3 5 (⟨#[]⟩) ([])) ([(⟨#[97]⟩, ⟨#[]⟩), (⟨#[98]⟩, ⟨#[]⟩)] : List PrT)))).key), .string ((RdD.mk ((RdD.mk 0 3 1 (⟨#[]⟩) (⟨#[]⟩) 5 3 5 (⟨#[]⟩) ([])).c) ((RdD.mk 0 3 1 (⟨#[]⟩) (⟨#[]⟩) 5 3 5 (⟨#[]⟩) ([])).rq) ((RdD.mk 0 3 1 (⟨#[]⟩) (⟨#[]⟩) 5 3 5 (⟨#[]⟩) ([])).nd) ((RdD.mk 0 3 1 (⟨#[]⟩) (⟨#[]⟩) 5 3 5 (⟨#[]⟩) ([])).k0) ((RdD.mk 0 3 1 (⟨#[]⟩) (⟨#[]⟩) 5 3 5 (⟨#[]⟩) ([])).to_) ((RdD.mk 0 3 1 (⟨#[]⟩) (⟨#[]⟩) 5 3 5 (⟨#[]⟩) ([])).at0) ((RdD.mk 0 3 1 (⟨#[]⟩) (⟨#[]⟩) 5 3 5 (⟨#[]⟩) ([])).n) ((RdD.mk 0 3 1 (⟨#[]⟩) (⟨#[]⟩) 5 3 5 (⟨#[]⟩) ([])).tm) (nxK (lastK (RdD.mk 0 3 1 (⟨#[]⟩) (⟨#[]⟩) 5 3 5 (⟨#[]⟩) ([])) ([(⟨#[97]⟩, ⟨#[]⟩), (⟨#[98]⟩, ⟨#[]⟩)] : List PrT))) ((RdD.mk 0 3 1 (⟨#[]⟩) (⟨#[]⟩) 5 3 5 (⟨#[]⟩) ([])).prs ++ ([(⟨#[97]⟩, ⟨#[]⟩), (⟨#[98]⟩, ⟨#[]⟩)] : List PrT).take (pgN (RdD.mk 0 3 1 (⟨#[]⟩) (⟨#[]⟩) 5 3 5 (⟨#[]⟩) ([])) ([(⟨#[97]⟩, ⟨#[]⟩), (⟨#[98]⟩, ⟨#[]⟩)] : List PrT)))).to_), .int .i64 0, .slice none 0 0, .int .u64 0, .int .i64 0, .int .i64 0, .slice none 0 0, .slice none 0 0, .slice none 0 0, .slice none 0 0] := hk106; clear hk106
 have hz109 := hg108.size
 refine pl_nil ?_
 refine co_then ?_
 refine co_seq ?_
 refine co_reg ?_
 refine pk0 (v := .int .i64 0) h104 rfl fun a110 h110 => ?_; clear h104
 refine pk0 (v := .bool ((0 : Int) == 0)) h110 rfl fun a111 h111 => ?_; clear h110
 refine pk0 (v := .bool ((0 : Int) == 0)) h111 rfl fun a112 h112 => ?_; clear h111
 have hc113 : ((0 : Int) == 0) = true := by first | (simp; done) | (simp; omega) | exact beq_false_of_ne (by omega) | exact beq_iff_eq.2 (by omega)
 rw [hc113] at h112; clear hc113
 refine pk0 (v := .int .i64 ((RdD.mk 0 3 1 (⟨#[]⟩) (⟨#[]⟩) 5 3 5 (⟨#[]⟩) ([])).nd)) h112 rfl fun a114 h114 => ?_; clear h112
 refine pk0 (v := .bool ((RdD.mk 0 3 1 (⟨#[]⟩) (⟨#[]⟩) 5 3 5 (⟨#[]⟩) ([])).nd == 1)) h114 rfl fun a115 h115 => ?_; clear h114
 refine pk0 (v := .bool ((RdD.mk 0 3 1 (⟨#[]⟩) (⟨#[]⟩) 5 3 5 (⟨#[]⟩) ([])).nd == 1)) h115 rfl fun a116 h116 => ?_; clear h115
 refine pk0 (v := .bool ((RdD.mk 0 3 1 (⟨#[]⟩) (⟨#[]⟩) 5 3 5 (⟨#[]⟩) ([])).nd == 1)) h116 rfl fun a117 h117 => ?_; clear h116
 have hc118 : ((RdD.mk 0 3 1 (⟨#[]⟩) (⟨#[]⟩) 5 3 5 (⟨#[]⟩) ([])).nd == 1) = true := by decide
 rw [hc118] at h117; clear hc118
 refine pk0 (v := pt N34 0) h117 rfl fun a119 h119 => ?_; clear h117
 have hk120 := hk43'.kept hg53 (by simp)
 have hk121 := hk120.but hb76 (by first | omega | (simp; omega))
 have hk122 := hk121.below hb85
 have hk123 := hk122.kept hg93 (by simp)
 have hk124 := hk123.kept hg108 (by simp; omega)
 refine pk (v := .int .i64 9) h119 rfl (rn_load1 rfl rfl Try.isAgg3 (hk124.cell rfl)) fun a125 h125 => ?_; clear h119
 refine pk0 (v := .bool ((9 : Int) == 9)) h125 rfl fun a126 h126 => ?_; clear h125
 refine pk0 (v := .bool ((9 : Int) == 9)) h126 rfl fun a127 h127 => ?_; clear h126
 refine pk0 (v := .bool ((9 : Int) == 9)) h127 rfl fun a128 h128 => ?_; clear h127
 have hc129 : ((9 : Int) == 9) = true := by first | (simp; done) | (simp; omega) | exact beq_false_of_ne (by omega) | exact beq_iff_eq.2 (by omega)
 rw [hc129] at h128; clear hc129
 refine pk0 (v := pt N34 7) h128 rfl fun a130 h130 => ?_; clear h128
 refine pk (v := .int .i64 (mnI 2 ((RdD.mk 0 3 1 (⟨#[]⟩) (⟨#[]⟩) 5 3 5 (⟨#[]⟩) ([])).n - ((RdD.mk 0 3 1 (⟨#[]⟩) (⟨#[]⟩) 5 3 5 (⟨#[]⟩) ([])).prs.length : Int)))) h130 rfl (rn_load1 rfl rfl Try.isAgg3 (hk124.cell rfl)) fun a131 h131 => ?_; clear h130
 refine pk0 (v := .bool (mnI 2 ((RdD.mk 0 3 1 (⟨#[]⟩) (⟨#[]⟩) 5 3 5 (⟨#[]⟩) ([])).n - ((RdD.mk 0 3 1 (⟨#[]⟩) (⟨#[]⟩) 5 3 5 (⟨#[]⟩) ([])).prs.length : Int)) == 2)) h131 rfl fun a132 h132 => ?_; clear h131
 refine pk0 (v := .bool (mnI 2 ((RdD.mk 0 3 1 (⟨#[]⟩) (⟨#[]⟩) 5 3 5 (⟨#[]⟩) ([])).n - ((RdD.mk 0 3 1 (⟨#[]⟩) (⟨#[]⟩) 5 3 5 (⟨#[]⟩) ([])).prs.length : Int)) == 2)) h132 rfl fun a133 h133 => ?_; clear h132
 refine pk0 (v := .bool (mnI 2 ((RdD.mk 0 3 1 (⟨#[]⟩) (⟨#[]⟩) 5 3 5 (⟨#[]⟩) ([])).n - ((RdD.mk 0 3 1 (⟨#[]⟩) (⟨#[]⟩) 5 3 5 (⟨#[]⟩) ([])).prs.length : Int)) == 2)) h133 rfl fun a134 h134 => ?_; clear h133
 have hc135 : (mnI 2 ((RdD.mk 0 3 1 (⟨#[]⟩) (⟨#[]⟩) 5 3 5 (⟨#[]⟩) ([])).n - ((RdD.mk 0 3 1 (⟨#[]⟩) (⟨#[]⟩) 5 3 5 (⟨#[]⟩) ([])).prs.length : Int)) == 2) = true := by decide
 rw [hc135] at h134; clear hc135
 refine pk0 (v := .bool true) h134 rfl fun a136 h136 => ?_; clear h134
 refine pk0 (v := .bool true) h136 rfl fun a137 h137 => ?_; clear h136
 refine pk0 (v := .bool true) h137 rfl fun a138 h138 => ?_; clear h137
 refine pk0 (v := pt N92 7) h138 rfl fun a139 h139 => ?_; clear h138
 refine pk (v := .int .i64 (mnI 2 ((RdD.mk ((RdD.mk 0 3 1 (⟨#[]⟩) (⟨#[]⟩) 5 3 5 (⟨#[]⟩) ([])).c) ((RdD.mk 0 3 1 (⟨#[]⟩) (⟨#[]⟩) 5 3 5 (⟨#[]⟩) ([])).rq) ((RdD.mk 0 3 1 (⟨#[]⟩) (⟨#[]⟩) 5 3 5 (⟨#[]⟩) ([])).nd) ((RdD.mk 0 3 1 (⟨#[]⟩) (⟨#[]⟩) 5 3 5 (⟨#[]⟩) ([])).k0) ((RdD.mk 0 3 1 (⟨#[]⟩) (⟨#[]⟩) 5 3 5 (⟨#[]⟩) ([])).to_) ((RdD.mk 0 3 1 (⟨#[]⟩) (⟨#[]⟩) 5 3 5 (⟨#[]⟩) ([])).at0) ((RdD.mk 0 3 1 (⟨#[]⟩) (⟨#[]⟩) 5 3 5 (⟨#[]⟩) ([])).n) ((RdD.mk 0 3 1 (⟨#[]⟩) (⟨#[]⟩) 5 3 5 (⟨#[]⟩) ([])).tm) (nxK (lastK (RdD.mk 0 3 1 (⟨#[]⟩) (⟨#[]⟩) 5 3 5 (⟨#[]⟩) ([])) ([(⟨#[97]⟩, ⟨#[]⟩), (⟨#[98]⟩, ⟨#[]⟩)] : List PrT))) ((RdD.mk 0 3 1 (⟨#[]⟩) (⟨#[]⟩) 5 3 5 (⟨#[]⟩) ([])).prs ++ ([(⟨#[97]⟩, ⟨#[]⟩), (⟨#[98]⟩, ⟨#[]⟩)] : List PrT).take (pgN (RdD.mk 0 3 1 (⟨#[]⟩) (⟨#[]⟩) 5 3 5 (⟨#[]⟩) ([])) ([(⟨#[97]⟩, ⟨#[]⟩), (⟨#[98]⟩, ⟨#[]⟩)] : List PrT)))).n - ((RdD.mk ((RdD.mk 0 3 1 (⟨#[]⟩) (⟨#[]⟩) 5 3 5 (⟨#[]⟩) ([])).c) ((RdD.mk 0 3 1 (⟨#[]⟩) (⟨#[]⟩) 5 3 5 (⟨#[]⟩) ([])).rq) ((RdD.mk 0 3 1 (⟨#[]⟩) (⟨#[]⟩) 5 3 5 (⟨#[]⟩) ([])).nd) ((RdD.mk 0 3 1 (⟨#[]⟩) (⟨#[]⟩) 5 3 5 (⟨#[]⟩) ([])).k0) ((RdD.mk 0 3 1 (⟨#[]⟩) (⟨#[]⟩) 5 3 5 (⟨#[]⟩) ([])).to_) ((RdD.mk 0 3 1 (⟨#[]⟩) (⟨#[]⟩) 5 3 5 (⟨#[]⟩) ([])).at0) ((RdD.mk 0 3 1 (⟨#[]⟩) (⟨#[]⟩) 5 3 5 (⟨#[]⟩) ([])).n) ((RdD.mk 0 3 1 (⟨#[]⟩) (⟨#[]⟩) 5 3 5 (⟨#[]⟩) ([])).tm) (nxK (lastK (RdD.mk 0 3 1 (⟨#[]⟩) (⟨#[]⟩) 5 3 5 (⟨#[]⟩) ([])) ([(⟨#[97]⟩, ⟨#[]⟩), (⟨#[98]⟩, ⟨#[]⟩)] : List PrT))) ((RdD.mk 0 3 1 (⟨#[]⟩) (⟨#[]⟩) 5 3 5 (⟨#[]⟩) ([])).prs ++ ([(⟨#[97]⟩, ⟨#[]⟩), (⟨#[98]⟩, ⟨#[]⟩)] : List PrT).take (pgN (RdD.mk 0 3 1 (⟨#[]⟩) (⟨#[]⟩) 5 3 5 (⟨#[]⟩) ([])) ([(⟨#[97]⟩, ⟨#[]⟩), (⟨#[98]⟩, ⟨#[]⟩)] : List PrT)))).prs.length : Int)))) h139 rfl (rn_load1 rfl rfl Try.isAgg3 (hk106'.cell rfl)) fun a140 h140 => ?_; clear h139
 refine pk0 (v := .bool (mnI 2 ((RdD.mk ((RdD.mk 0 3 1 (⟨#[]⟩) (⟨#[]⟩) 5 3 5 (⟨#[]⟩) ([])).c) ((RdD.mk 0 3 1 (⟨#[]⟩) (⟨#[]⟩) 5 3 5 (⟨#[]⟩) ([])).rq) ((RdD.mk 0 3 1 (⟨#[]⟩) (⟨#[]⟩) 5 3 5 (⟨#[]⟩) ([])).nd) ((RdD.mk 0 3 1 (⟨#[]⟩) (⟨#[]⟩) 5 3 5 (⟨#[]⟩) ([])).k0) ((RdD.mk 0 3 1 (⟨#[]⟩) (⟨#[]⟩) 5 3 5 (⟨#[]⟩) ([])).to_) ((RdD.mk 0 3 1 (⟨#[]⟩) (⟨#[]⟩) 5 3 5 (⟨#[]⟩) ([])).at0) ((RdD.mk 0 3 1 (⟨#[]⟩) (⟨#[]⟩) 5 3 5 (⟨#[]⟩) ([])).n) ((RdD.mk 0 3 1 (⟨#[]⟩) (⟨#[]⟩) 5 3 5 (⟨#[]⟩) ([])).tm) (nxK (lastK (RdD.mk 0 3 1 (⟨#[]⟩) (⟨#[]⟩) 5 3 5 (⟨#[]⟩) ([])) ([(⟨#[97]⟩, ⟨#[]⟩), (⟨#[98]⟩, ⟨#[]⟩)] : List PrT))) ((RdD.mk 0 3 1 (⟨#[]⟩) (⟨#[]⟩) 5 3 5 (⟨#[]⟩) ([])).prs ++ ([(⟨#[97]⟩, ⟨#[]⟩), (⟨#[98]⟩, ⟨#[]⟩)] : List PrT).take (pgN (RdD.mk 0 3 1 (⟨#[]⟩) (⟨#[]⟩) 5 3 5 (⟨#[]⟩) ([])) ([(⟨#[97]⟩, ⟨#[]⟩), (⟨#[98]⟩, ⟨#[]⟩)] : List PrT)))).n - ((RdD.mk ((RdD.mk 0 3 1 (⟨#[]⟩) (⟨#[]⟩) 5 3 5 (⟨#[]⟩) ([])).c) ((RdD.mk 0 3 1 (⟨#[]⟩) (⟨#[]⟩) 5 3 5 (⟨#[]⟩) ([])).rq) ((RdD.mk 0 3 1 (⟨#[]⟩) (⟨#[]⟩) 5 3 5 (⟨#[]⟩) ([])).nd) ((RdD.mk 0 3 1 (⟨#[]⟩) (⟨#[]⟩) 5 3 5 (⟨#[]⟩) ([])).k0) ((RdD.mk 0 3 1 (⟨#[]⟩) (⟨#[]⟩) 5 3 5 (⟨#[]⟩) ([])).to_) ((RdD.mk 0 3 1 (⟨#[]⟩) (⟨#[]⟩) 5 3 5 (⟨#[]⟩) ([])).at0) ((RdD.mk 0 3 1 (⟨#[]⟩) (⟨#[]⟩) 5 3 5 (⟨#[]⟩) ([])).n) ((RdD.mk 0 3 1 (⟨#[]⟩) (⟨#[]⟩) 5 3 5 (⟨#[]⟩) ([])).tm) (nxK (lastK (RdD.mk 0 3 1 (⟨#[]⟩) (⟨#[]⟩) 5 3 5 (⟨#[]⟩) ([])) ([(⟨#[97]⟩, ⟨#[]⟩), (⟨#[98]⟩, ⟨#[]⟩)] : List PrT))) ((RdD.mk 0 3 1 (⟨#[]⟩) (⟨#[]⟩) 5 3 5 (⟨#[]⟩) ([])).prs ++ ([(⟨#[97]⟩, ⟨#[]⟩), (⟨#[98]⟩, ⟨#[]⟩)] : List PrT).take (pgN (RdD.mk 0 3 1 (⟨#[]⟩) (⟨#[]⟩) 5 3 5 (⟨#[]⟩) ([])) ([(⟨#[97]⟩, ⟨#[]⟩), (⟨#[98]⟩, ⟨#[]⟩)] : List PrT)))).prs.length : Int)) == 1)) h140 rfl fun a141 h141 => ?_; clear h140
 refine pk0 (v := .bool (mnI 2 ((RdD.mk ((RdD.mk 0 3 1 (⟨#[]⟩) (⟨#[]⟩) 5 3 5 (⟨#[]⟩) ([])).c) ((RdD.mk 0 3 1 (⟨#[]⟩) (⟨#[]⟩) 5 3 5 (⟨#[]⟩) ([])).rq) ((RdD.mk 0 3 1 (⟨#[]⟩) (⟨#[]⟩) 5 3 5 (⟨#[]⟩) ([])).nd) ((RdD.mk 0 3 1 (⟨#[]⟩) (⟨#[]⟩) 5 3 5 (⟨#[]⟩) ([])).k0) ((RdD.mk 0 3 1 (⟨#[]⟩) (⟨#[]⟩) 5 3 5 (⟨#[]⟩) ([])).to_) ((RdD.mk 0 3 1 (⟨#[]⟩) (⟨#[]⟩) 5 3 5 (⟨#[]⟩) ([])).at0) ((RdD.mk 0 3 1 (⟨#[]⟩) (⟨#[]⟩) 5 3 5 (⟨#[]⟩) ([])).n) ((RdD.mk 0 3 1 (⟨#[]⟩) (⟨#[]⟩) 5 3 5 (⟨#[]⟩) ([])).tm) (nxK (lastK (RdD.mk 0 3 1 (⟨#[]⟩) (⟨#[]⟩) 5 3 5 (⟨#[]⟩) ([])) ([(⟨#[97]⟩, ⟨#[]⟩), (⟨#[98]⟩, ⟨#[]⟩)] : List PrT))) ((RdD.mk 0 3 1 (⟨#[]⟩) (⟨#[]⟩) 5 3 5 (⟨#[]⟩) ([])).prs ++ ([(⟨#[97]⟩, ⟨#[]⟩), (⟨#[98]⟩, ⟨#[]⟩)] : List PrT).take (pgN (RdD.mk 0 3 1 (⟨#[]⟩) (⟨#[]⟩) 5 3 5 (⟨#[]⟩) ([])) ([(⟨#[97]⟩, ⟨#[]⟩), (⟨#[98]⟩, ⟨#[]⟩)] : List PrT)))).n - ((RdD.mk ((RdD.mk 0 3 1 (⟨#[]⟩) (⟨#[]⟩) 5 3 5 (⟨#[]⟩) ([])).c) ((RdD.mk 0 3 1 (⟨#[]⟩) (⟨#[]⟩) 5 3 5 (⟨#[]⟩) ([])).rq) ((RdD.mk 0 3 1 (⟨#[]⟩) (⟨#[]⟩) 5 3 5 (⟨#[]⟩) ([])).nd) ((RdD.mk 0 3 1 (⟨#[]⟩) (⟨#[]⟩) 5 3 5 (⟨#[]⟩) ([])).k0) ((RdD.mk 0 3 1 (⟨#[]⟩) (⟨#[]⟩) 5 3 5 (⟨#[]⟩) ([])).to_) ((RdD.mk 0 3 1 (⟨#[]⟩) (⟨#[]⟩) 5 3 5 (⟨#[]⟩) ([])).at0) ((RdD.mk 0 3 1 (⟨#[]⟩) (⟨#[]⟩) 5 3 5 (⟨#[]⟩) ([])).n) ((RdD.mk 0 3 1 (⟨#[]⟩) (⟨#[]⟩) 5 3 5 (⟨#[]⟩) ([])).tm) (nxK (lastK (RdD.mk 0 3 1 (⟨#[]⟩) (⟨#[]⟩) 5 3 5 (⟨#[]⟩) ([])) ([(⟨#[97]⟩, ⟨#[]⟩), (⟨#[98]⟩, ⟨#[]⟩)] : List PrT))) ((RdD.mk 0 3 1 (⟨#[]⟩) (⟨#[]⟩) 5 3 5 (⟨#[]⟩) ([])).prs ++ ([(⟨#[97]⟩, ⟨#[]⟩), (⟨#[98]⟩, ⟨#[]⟩)] : List PrT).take (pgN (RdD.mk 0 3 1 (⟨#[]⟩) (⟨#[]⟩) 5 3 5 (⟨#[]⟩) ([])) ([(⟨#[97]⟩, ⟨#[]⟩), (⟨#[98]⟩, ⟨#[]⟩)] : List PrT)))).prs.length : Int)) == 1)) h141 rfl fun a142 h142 => ?_; clear h141
 refine pk0 (v := .bool (mnI 2 ((RdD.mk ((RdD.mk 0 3 1 (⟨#[]⟩) (⟨#[]⟩) 5 3 5 (⟨#[]⟩) ([])).c) ((RdD.mk 0 3 1 (⟨#[]⟩) (⟨#[]⟩) 5 3 5 (⟨#[]⟩) ([])).rq) ((RdD.mk 0 3 1 (⟨#[]⟩) (⟨#[]⟩) 5 3 5 (⟨#[]⟩) ([])).nd) ((RdD.mk 0 3 1 (⟨#[]⟩) (⟨#[]⟩) 5 3 5 (⟨#[]⟩) ([])).k0) ((RdD.mk 0 3 1 (⟨#[]⟩) (⟨#[]⟩) 5 3 5 (⟨#[]⟩) ([])).to_) ((RdD.mk 0 3 1 (⟨#[]⟩) (⟨#[]⟩) 5 3 5 (⟨#[]⟩) ([])).at0) ((RdD.mk 0 3 1 (⟨#[]⟩) (⟨#[]⟩) 5 3 5 (⟨#[]⟩) ([])).n) ((RdD.mk 0 3 1 (⟨#[]⟩) (⟨#[]⟩) 5 3 5 (⟨#[]⟩) ([])).tm) (nxK (lastK (RdD.mk 0 3 1 (⟨#[]⟩) (⟨#[]⟩) 5 3 5 (⟨#[]⟩) ([])) ([(⟨#[97]⟩, ⟨#[]⟩), (⟨#[98]⟩, ⟨#[]⟩)] : List PrT))) ((RdD.mk 0 3 1 (⟨#[]⟩) (⟨#[]⟩) 5 3 5 (⟨#[]⟩) ([])).prs ++ ([(⟨#[97]⟩, ⟨#[]⟩), (⟨#[98]⟩, ⟨#[]⟩)] : List PrT).take (pgN (RdD.mk 0 3 1 (⟨#[]⟩) (⟨#[]⟩) 5 3 5 (⟨#[]⟩) ([])) ([(⟨#[97]⟩, ⟨#[]⟩), (⟨#[98]⟩, ⟨#[]⟩)] : List PrT)))).n - ((RdD.mk ((RdD.mk 0 3 1 (⟨#[]⟩) (⟨#[]⟩) 5 3 5 (⟨#[]⟩) ([])).c) ((RdD.mk 0 3 1 (⟨#[]⟩) (⟨#[]⟩) 5 3 5 (⟨#[]⟩) ([])).rq) ((RdD.mk 0 3 1 (⟨#[]⟩) (⟨#[]⟩) 5 3 5 (⟨#[]⟩) ([])).nd) ((RdD.mk 0 3 1 (⟨#[]⟩) (⟨#[]⟩) 5 3 5 (⟨#[]⟩) ([])).k0) ((RdD.mk 0 3 1 (⟨#[]⟩) (⟨#[]⟩) 5 3 5 (⟨#[]⟩) ([])).to_) ((RdD.mk 0 3 1 (⟨#[]⟩) (⟨#[]⟩) 5 3 5 (⟨#[]⟩) ([])).at0) ((RdD.mk 0 3 1 (⟨#[]⟩) (⟨#[]⟩) 5 3 5 (⟨#[]⟩) ([])).n) ((RdD.mk 0 3 1 (⟨#[]⟩) (⟨#[]⟩) 5 3 5 (⟨#[]⟩) ([])).tm) (nxK (lastK (RdD.mk 0 3 1 (⟨#[]⟩) (⟨#[]⟩) 5 3 5 (⟨#[]⟩) ([])) ([(⟨#[97]⟩, ⟨#[]⟩), (⟨#[98]⟩, ⟨#[]⟩)] : List PrT))) ((RdD.mk 0 3 1 (⟨#[]⟩) (⟨#[]⟩) 5 3 5 (⟨#[]⟩) ([])).prs ++ ([(⟨#[97]⟩, ⟨#[]⟩), (⟨#[98]⟩, ⟨#[]⟩)] : List PrT).take (pgN (RdD.mk 0 3 1 (⟨#[]⟩) (⟨#[]⟩) 5 3 5 (⟨#[]⟩) ([])) ([(⟨#[97]⟩, ⟨#[]⟩), (⟨#[98]⟩, ⟨#[]⟩)] : List PrT)))).prs.length : Int)) == 1)) h142 rfl fun a143 h143 => ?_; clear h142
 have hc144 : (mnI 2 ((RdD.mk ((RdD.mk 0 3 1 (⟨#[]⟩) (⟨#[]⟩) 5 3 5 (⟨#[]⟩) ([])).c) ((RdD.mk 0 3 1 (⟨#[]⟩) (⟨#[]⟩) 5 3 5 (⟨#[]⟩) ([])).rq) ((RdD.mk 0 3 1 (⟨#[]⟩) (⟨#[]⟩) 5 3 5 (⟨#[]⟩) ([])).nd) ((RdD.mk 0 3 1 (⟨#[]⟩) (⟨#[]⟩) 5 3 5 (⟨#[]⟩) ([])).k0) ((RdD.mk 0 3 1 (⟨#[]⟩) (⟨#[]⟩) 5 3 5 (⟨#[]⟩) ([])).to_) ((RdD.mk 0 3 1 (⟨#[]⟩) (⟨#[]⟩) 5 3 5 (⟨#[]⟩) ([])).at0) ((RdD.mk 0 3 1 (⟨#[]⟩) (⟨#[]⟩) 5 3 5 (⟨#[]⟩) ([])).n) ((RdD.mk 0 3 1 (⟨#[]⟩) (⟨#[]⟩) 5 3 5 (⟨#[]⟩) ([])).tm) (nxK (lastK (RdD.mk 0 3 1 (⟨#[]⟩) (⟨#[]⟩) 5 3 5 (⟨#[]⟩) ([])) ([(⟨#[97]⟩, ⟨#[]⟩), (⟨#[98]⟩, ⟨#[]⟩)] : List PrT))) ((RdD.mk 0 3 1 (⟨#[]⟩) (⟨#[]⟩) 5 3 5 (⟨#[]⟩) ([])).prs ++ ([(⟨#[97]⟩, ⟨#[]⟩), (⟨#[98]⟩, ⟨#[]⟩)] : List PrT).take (pgN (RdD.mk 0 3 1 (⟨#[]⟩) (⟨#[]⟩) 5 3 5 (⟨#[]⟩) ([])) ([(⟨#[97]⟩, ⟨#[]⟩), (⟨#[98]⟩, ⟨#[]⟩)] : List PrT)))).n - ((RdD.mk ((RdD.mk 0 3 1 (⟨#[]⟩) (⟨#[]⟩) 5 3 5 (⟨#[]⟩) ([])).c) ((RdD.mk 0 3 1 (⟨#[]⟩) (⟨#[]⟩) 5 3 5 (⟨#[]⟩) ([])).rq) ((RdD.mk 0 3 1 (⟨#[]⟩) (⟨#[]⟩) 5 3 5 (⟨#[]⟩) ([])).nd) ((RdD.mk 0 3 1 (⟨#[]⟩) (⟨#[]⟩) 5 3 5 (⟨#[]⟩) ([])).k0) ((RdD.mk 0 3 1 (⟨#[]⟩) (⟨#[]⟩) 5 3 5 (⟨#[]⟩) ([])).to_) ((RdD.mk 0 3 1 (⟨#[]⟩) (⟨#[]⟩) 5 3 5 (⟨#[]⟩) ([])).at0) ((RdD.mk 0 3 1 (⟨#[]⟩) (⟨#[]⟩) 5 3 5 (⟨#[]⟩) ([])).n) ((RdD.mk 0 3 1 (⟨#[]⟩) (⟨#[]⟩) 5 3 5 (⟨#[]⟩) ([])).tm) (nxK (lastK (RdD.mk 0 3 1 (⟨#[]⟩) (⟨#[]⟩) 5 3 5 (⟨#[]⟩) ([])) ([(⟨#[97]⟩, ⟨#[]⟩), (⟨#[98]⟩, ⟨#[]⟩)] : List PrT))) ((RdD.mk 0 3 1 (⟨#[]⟩) (⟨#[]⟩) 5 3 5 (⟨#[]⟩) ([])).prs ++ ([(⟨#[97]⟩, ⟨#[]⟩), (⟨#[98]⟩, ⟨#[]⟩)] : List PrT).take (pgN (RdD.mk 0 3 1 (⟨#[]⟩) (⟨#[]⟩) 5 3 5 (⟨#[]⟩) ([])) ([(⟨#[97]⟩, ⟨#[]⟩), (⟨#[98]⟩, ⟨#[]⟩)] : List PrT)))).prs.length : Int)) == 1) = true := by decide
 rw [hc144] at h143; clear hc144
 refine pk0 (v := pt N92 11) h143 rfl fun a145 h145 => ?_; clear h143
 refine pk (v := .string ((RdD.mk ((RdD.mk 0 3 1 (⟨#[]⟩) (⟨#[]⟩) 5 3 5 (⟨#[]⟩) ([])).c) ((RdD.mk 0 3 1 (⟨#[]⟩) (⟨#[]⟩) 5 3 5 (⟨#[]⟩) ([])).rq) ((RdD.mk 0 3 1 (⟨#[]⟩) (⟨#[]⟩) 5 3 5 (⟨#[]⟩) ([])).nd) ((RdD.mk 0 3 1 (⟨#[]⟩) (⟨#[]⟩) 5 3 5 (⟨#[]⟩) ([])).k0) ((RdD.mk 0 3 1 (⟨#[]⟩) (⟨#[]⟩) 5 3 5 (⟨#[]⟩) ([])).to_) ((RdD.mk 0 3 1 (⟨#[]⟩) (⟨#[]⟩) 5 3 5 (⟨#[]⟩) ([])).at0) ((RdD.mk 0 3 1 (⟨#[]⟩) (⟨#[]⟩) 5 3 5 (⟨#[]⟩) ([])).n) ((RdD.mk 0 3 1 (⟨#[]⟩) (⟨#[]⟩) 5 3 5 (⟨#[]⟩) ([])).tm) (nxK (lastK (RdD.mk 0 3 1 (⟨#[]⟩) (⟨#[]⟩) 5 3 5 (⟨#[]⟩) ([])) ([(⟨#[97]⟩, ⟨#[]⟩), (⟨#[98]⟩, ⟨#[]⟩)] : List PrT))) ((RdD.mk 0 3 1 (⟨#[]⟩) (⟨#[]⟩) 5 3 5 (⟨#[]⟩) ([])).prs ++ ([(⟨#[97]⟩, ⟨#[]⟩), (⟨#[98]⟩, ⟨#[]⟩)] : List PrT).take (pgN (RdD.mk 0 3 1 (⟨#[]⟩) (⟨#[]⟩) 5 3 5 (⟨#[]⟩) ([])) ([(⟨#[97]⟩, ⟨#[]⟩), (⟨#[98]⟩, ⟨#[]⟩)] : List PrT)))).key)) h145 rfl (rn_load1 rfl rfl Try.isAgg9 (hk106'.cell rfl)) fun a146 h146 => ?_; clear h145
 refine pk0 (v := .bool (((RdD.mk ((RdD.mk 0 3 1 (⟨#[]⟩) (⟨#[]⟩) 5 3 5 (⟨#[]⟩) ([])).c) ((RdD.mk 0 3 1 (⟨#[]⟩) (⟨#[]⟩) 5 3 5 (⟨#[]⟩) ([])).rq) ((RdD.mk 0 3 1 (⟨#[]⟩) (⟨#[]⟩) 5 3 5 (⟨#[]⟩) ([])).nd) ((RdD.mk 0 3 1 (⟨#[]⟩) (⟨#[]⟩) 5 3 5 (⟨#[]⟩) ([])).k0) ((RdD.mk 0 3 1 (⟨#[]⟩) (⟨#[]⟩) 5 3 5 (⟨#[]⟩) ([])).to_) ((RdD.mk 0 3 1 (⟨#[]⟩) (⟨#[]⟩) 5 3 5 (⟨#[]⟩) ([])).at0) ((RdD.mk 0 3 1 (⟨#[]⟩) (⟨#[]⟩) 5 3 5 (⟨#[]⟩) ([])).n) ((RdD.mk 0 3 1 (⟨#[]⟩) (⟨#[]⟩) 5 3 5 (⟨#[]⟩) ([])).tm) (nxK (lastK (RdD.mk 0 3 1 (⟨#[]⟩) (⟨#[]⟩) 5 3 5 (⟨#[]⟩) ([])) ([(⟨#[97]⟩, ⟨#[]⟩), (⟨#[98]⟩, ⟨#[]⟩)] : List PrT))) ((RdD.mk 0 3 1 (⟨#[]⟩) (⟨#[]⟩) 5 3 5 (⟨#[]⟩) ([])).prs ++ ([(⟨#[97]⟩, ⟨#[]⟩), (⟨#[98]⟩, ⟨#[]⟩)] : List PrT).take (pgN (RdD.mk 0 3 1 (⟨#[]⟩) (⟨#[]⟩) 5 3 5 (⟨#[]⟩) ([])) ([(⟨#[97]⟩, ⟨#[]⟩), (⟨#[98]⟩, ⟨#[]⟩)] : List PrT)))).key : ByteArray).toList == (⟨#[98, 0]⟩ : ByteArray).toList)) h146 rfl fun a147 h147 => ?_; clear h146
 refine pk0 (v := .bool (((RdD.mk ((RdD.mk 0 3 1 (⟨#[]⟩) (⟨#[]⟩) 5 3 5 (⟨#[]⟩) ([])).c) ((RdD.mk 0 3 1 (⟨#[]⟩) (⟨#[]⟩) 5 3 5 (⟨#[]⟩) ([])).rq) ((RdD.mk 0 3 1 (⟨#[]⟩) (⟨#[]⟩) 5 3 5 (⟨#[]⟩) ([])).nd) ((RdD.mk 0 3 1 (⟨#[]⟩) (⟨#[]⟩) 5 3 5 (⟨#[]⟩) ([])).k0) ((RdD.mk 0 3 1 (⟨#[]⟩) (⟨#[]⟩) 5 3 5 (⟨#[]⟩) ([])).to_) ((RdD.mk 0 3 1 (⟨#[]⟩) (⟨#[]⟩) 5 3 5 (⟨#[]⟩) ([])).at0) ((RdD.mk 0 3 1 (⟨#[]⟩) (⟨#[]⟩) 5 3 5 (⟨#[]⟩) ([])).n) ((RdD.mk 0 3 1 (⟨#[]⟩) (⟨#[]⟩) 5 3 5 (⟨#[]⟩) ([])).tm) (nxK (lastK (RdD.mk 0 3 1 (⟨#[]⟩) (⟨#[]⟩) 5 3 5 (⟨#[]⟩) ([])) ([(⟨#[97]⟩, ⟨#[]⟩), (⟨#[98]⟩, ⟨#[]⟩)] : List PrT))) ((RdD.mk 0 3 1 (⟨#[]⟩) (⟨#[]⟩) 5 3 5 (⟨#[]⟩) ([])).prs ++ ([(⟨#[97]⟩, ⟨#[]⟩), (⟨#[98]⟩, ⟨#[]⟩)] : List PrT).take (pgN (RdD.mk 0 3 1 (⟨#[]⟩) (⟨#[]⟩) 5 3 5 (⟨#[]⟩) ([])) ([(⟨#[97]⟩, ⟨#[]⟩), (⟨#[98]⟩, ⟨#[]⟩)] : List PrT)))).key : ByteArray).toList == (⟨#[98, 0]⟩ : ByteArray).toList)) h147 rfl fun a148 h148 => ?_; clear h147
 refine pk0 (v := .bool (((RdD.mk ((RdD.mk 0 3 1 (⟨#[]⟩) (⟨#[]⟩) 5 3 5 (⟨#[]⟩) ([])).c) ((RdD.mk 0 3 1 (⟨#[]⟩) (⟨#[]⟩) 5 3 5 (⟨#[]⟩) ([])).rq) ((RdD.mk 0 3 1 (⟨#[]⟩) (⟨#[]⟩) 5 3 5 (⟨#[]⟩) ([])).nd) ((RdD.mk 0 3 1 (⟨#[]⟩) (⟨#[]⟩) 5 3 5 (⟨#[]⟩) ([])).k0) ((RdD.mk 0 3 1 (⟨#[]⟩) (⟨#[]⟩) 5 3 5 (⟨#[]⟩) ([])).to_) ((RdD.mk 0 3 1 (⟨#[]⟩) (⟨#[]⟩) 5 3 5 (⟨#[]⟩) ([])).at0) ((RdD.mk 0 3 1 (⟨#[]⟩) (⟨#[]⟩) 5 3 5 (⟨#[]⟩) ([])).n) ((RdD.mk 0 3 1 (⟨#[]⟩) (⟨#[]⟩) 5 3 5 (⟨#[]⟩) ([])).tm) (nxK (lastK (RdD.mk 0 3 1 (⟨#[]⟩) (⟨#[]⟩) 5 3 5 (⟨#[]⟩) ([])) ([(⟨#[97]⟩, ⟨#[]⟩), (⟨#[98]⟩, ⟨#[]⟩)] : List PrT))) ((RdD.mk 0 3 1 (⟨#[]⟩) (⟨#[]⟩) 5 3 5 (⟨#[]⟩) ([])).prs ++ ([(⟨#[97]⟩, ⟨#[]⟩), (⟨#[98]⟩, ⟨#[]⟩)] : List PrT).take (pgN (RdD.mk 0 3 1 (⟨#[]⟩) (⟨#[]⟩) 5 3 5 (⟨#[]⟩) ([])) ([(⟨#[97]⟩, ⟨#[]⟩), (⟨#[98]⟩, ⟨#[]⟩)] : List PrT)))).key : ByteArray).toList == (⟨#[98, 0]⟩ : ByteArray).toList)) h148 rfl fun a149 h149 => ?_; clear h148
 refine pl_nil ?_
 refine co_then ?_
 refine wp_ret ?_
 refine co_ret1 h149 rfl rfl ?_
 have hB150 := hb_call hB0 hb14
 have hB151 := hb_call hB150 hb27
 have hB152 := hb_new hB151 hg35
 have hB153 := hb_at hB152 hg45 (by omega)
 have hB154 := hb_new hB153 hg53
 have hB155 := hb_foot hB154 hb76 (fun i hlt hS => by (try simp at hS); first | omega | (simp; omega) | simp_all)
 have hB156 := hb_call hB155 hb85
 have hB157 := hb_new hB156 hg93
 have hB158 := hb_at hB157 hg108 (by omega)
 exact ⟨ret_bool (by first | rfl | decide | (rw [toList_data, toList_data]; decide)), hB158⟩
end Go.Proofs.Ytaoibbakflacoaa

/- catenaref05.Set, without keys.Set. Conditions: the texts read as l, of at most 1000. -/
namespace Go.Proofs.Ytaoibbakflacoaa
open Go.RowKit Go.PlainAid Go.WideMaps Go.Maps Go.Sort Go.Shelf

theorem own_lowK {w : World} {B B' : Nat} {e : TypeId} {k : Nat} {v : Value} {n : Nat} {xs : List Value} (h : w.ownsRow B e k v n xs) (hb : B' ≤ B) : w.ownsRow B' e k v n xs := by
  obtain ⟨h1, h2⟩ := h
  refine ⟨h1, ?_⟩
  rcases h2 with h2 | ⟨g, cap, cur, hv, hg, r⟩
  · exact Or.inl h2
  · exact Or.inr ⟨g, cap, cur, hv, Nat.le_trans hb hg, r⟩
theorem info_strK : (Try.prog.info? 9).map (fun i => (i.zero, i.size, i.bytes)) = some (some (.string ⟨#[]⟩), 1, 16) := by kernel_rfl
theorem bl_lt (x y : List UInt8) : Op.bytesLess x y = decide (x < y) := bytesLess_eq x y
/-- A text's bytes. -/
abbrev kb (s : ByteArray) : List UInt8 := s.data.toList
/-- ys rises, and has just what l has. -/
def SetOf (ys l : List ByteArray) : Prop := (ys.map kb).Pairwise (· < ·) ∧ ∀ x, x ∈ ys.map kb ↔ x ∈ l.map kb
def mkB (x : List UInt8) : ByteArray := ⟨x.toArray⟩
theorem mk_kb (s : ByteArray) : mkB (kb s) = s := by apply ByteArray.ext; simp [kb, mkB]
theorem kb_inj {a b : ByteArray} (h : kb a = kb b) : a = b := by rw [← mk_kb a, h, mk_kb]
/-- What stands in a world stands behind allocations and draws: the list of steps. -/
theorem ins_rising {L : List (List UInt8)} {x : List UInt8} {k : Nat} (h : L.Pairwise (· < ·)) (h1 : ∀ y ∈ L.take k, y < x) (h2 : ∀ y ∈ L.drop k, x < y) : (L.take k ++ x :: L.drop k).Pairwise (· < ·) := by
  have h' := h
  rw [← List.take_append_drop k L, List.pairwise_append] at h'
  rw [List.pairwise_append, List.pairwise_cons]
  refine ⟨h'.1, ⟨h2, h'.2.1⟩, fun a ha b hb => ?_⟩
  rcases List.mem_cons.1 hb with rfl | hb
  · exact h1 a ha
  · exact h'.2.2 a ha b hb
theorem SetOf.ins {ys m : List ByteArray} {s : ByteArray} {k : Nat} (h : SetOf ys m) (hk : k ≤ ys.length) (h1 : ∀ j (_ : j < ys.length), j < k → kb ys[j] < kb s) (h2 : ∀ h : k < ys.length, kb s < kb ys[k]) : SetOf (ys.take k ++ [s] ++ ys.drop k) (m ++ [s]) := by
  have e : (ys.take k ++ [s] ++ ys.drop k).map kb = (ys.map kb).take k ++ kb s :: (ys.map kb).drop k := by simp [List.map_take, List.map_drop]
  refine ⟨?_, fun x => ?_⟩
  · rw [e]
    refine ins_rising h.1 (fun y hy => ?_) (fun y hy => ?_)
    · rw [← List.map_take] at hy
      obtain ⟨z, hz, rfl⟩ := List.mem_map.1 hy
      obtain ⟨j, hj, rfl⟩ := List.getElem_of_mem hz
      have hj' : j < k ∧ j < ys.length := by rw [List.length_take] at hj; omega
      rw [List.getElem_take]
      exact h1 j hj'.2 hj'.1
    · by_cases hkl : k < ys.length
      · have hp := h.1
        have hkl' : k < (ys.map kb).length := by simpa using hkl
        rw [← List.take_append_drop k (ys.map kb), List.pairwise_append] at hp
        have hp2 := hp.2.1
        rw [List.drop_eq_getElem_cons hkl'] at hp2 hy
        rw [List.pairwise_cons] at hp2
        have hx := h2 hkl
        rw [List.getElem_map] at hp2 hy
        rcases List.mem_cons.1 hy with rfl | hy
        · exact hx
        · exact List.lt_trans hx (hp2.1 y hy)
      · rw [List.drop_eq_nil_of_le (by simp; omega)] at hy; exact absurd hy (by simp)
  · have hm := h.2 x
    have hsplit : x ∈ ys.map kb ↔ x ∈ (ys.map kb).take k ∨ x ∈ (ys.map kb).drop k := by
      conv => lhs; rw [← List.take_append_drop k (ys.map kb)]
      exact List.mem_append
    rw [e, List.map_append, List.mem_append, List.mem_append, List.mem_cons, ← hm, hsplit]
    simp only [List.map_cons, List.map_nil, List.mem_singleton]
    constructor
    · rintro (h | h | h)
      · exact .inl (.inl h)
      · exact .inr h
      · exact .inl (.inr h)
    · rintro ((h | h) | h)
      · exact .inl h
      · exact .inr (.inr h)
      · exact .inr (.inl h)
theorem SetOf.skip {ys m : List ByteArray} {s : ByteArray} (h : SetOf ys m) (hs : s ∈ ys) : SetOf ys (m ++ [s]) := by
  refine ⟨h.1, fun x => ?_⟩
  rw [h.2 x, List.map_append, List.mem_append]
  constructor
  · exact .inl
  · rintro (k | k)
    · exact k
    · obtain rfl : x = kb s := by simpa using k
      exact (h.2 _).1 (List.mem_map_of_mem hs)
theorem strE_oneL (l : List ByteArray) : ∀ y ∈ l, (strE y).length = 1 ∧ ∀ u ∈ strE y, u.oneCell' = true := by
  intro y _; exact ⟨rfl, fun u hu => by simp [strE] at hu; subst hu; rfl⟩
theorem lt_facts {q s : ByteArray} {b : Bool} (h : decide (kb q < kb s) = b) : Op.bytesLess q.data.toList s.data.toList = b ∧ Op.bytesLess q.toList s.toList = b := by
  refine ⟨by rw [bl_lt]; exact h, by rw [Go.ByteArray.toList_eq, Go.ByteArray.toList_eq, bl_lt]; exact h⟩
theorem eq_facts {q s : ByteArray} (h : q ≠ s) : (q.data.toList == s.data.toList) = false ∧ (q.toList == s.toList) = false := by
  have e : q.data.toList ≠ s.data.toList := fun e => h (kb_inj e)
  refine ⟨beq_eq_false_iff_ne.2 e, ?_⟩
  rw [Go.ByteArray.toList_eq, Go.ByteArray.toList_eq]; exact beq_eq_false_iff_ne.2 e

set_option maxRecDepth 100000 in
set_option maxHeartbeats 3200000 in
theorem rset_any (v : Value) (l : List ByteArray) (w : World) (hs : SliceOf strE 1 w v l) (hl : l.length ≤ 1000) :
    Calls Try.prog 27 #[v] w fun e w' => ∃ u ys, e = .returned u ∧ (SetOf ys l ∧ ys.length ≤ l.length) ∧ w'.ownsRow w.heap.size 9 1 u ys.length (ys.flatMap strE) ∧ Below w.heap.size w w' := by
  obtain ⟨i0, hi, hz0, hz1, hz2⟩ := info_parts info_strK
  have HS := Lib.hid hs
  obtain ⟨ao, cap, rfl, hcap, hcm, _, _⟩ := hs
  go_enter Try.func27, Try.ntmps27
  go_wp2
  go_loopg [3, 4] (l.length + 1) (fun g s3 s4 wr => ∃ (i : Nat) (ys : List ByteArray), s4 = .int .i64 i ∧ i ≤ l.length ∧ l.length + 1 ≤ i + g ∧ ys.length ≤ i ∧ Hid (wr.ownsRow w.heap.size 9 1 s3 ys.length (ys.flatMap strE)) ∧ Hid (SetOf ys (l.take i)) ∧ Hid (Below w.heap.size w wr))
  case atStart => exact ⟨0, [], rfl, by omega, by omega, by simp, Lib.hid (World.ownsRow_nil _ _ _ _), Lib.hid ⟨by simp, by simp⟩, Lib.hid (Below.refl _ _)⟩
  case round =>
    obtain ⟨i, ys, rfl, hi4, hg, hyl, HO, HSET, HB⟩ := hrel
    by_cases hlt : i < l.length
    · have HSL := Lib.hid (SliceOf.own (enc := strE) HO.out (fun _ _ => rfl))
      obtain ⟨ao2, cap2, rfl, hc2, hm2, hnil2, _⟩ := HSL.out
      have HT : Hid (l.take (i + 1) = l.take i ++ [l[i]]) := Lib.hid (by rw [List.take_add_one, List.getElem?_eq_getElem hlt]; rfl)
      obtain ⟨s, hsv⟩ : ∃ s, s = l[i] := ⟨_, rfl⟩
      have HSV := Lib.hid hsv
      rw [← hsv] at HT
      have hdl : decide ((i : Int) < (l.length : Int)) = true := decide_eq_true (by omega)
      obtain ⟨n2, hn2⟩ : ∃ n2, n2 = ys.length := ⟨_, rfl⟩
      have HN2 := Lib.hid hn2
      rw [← hn2] at HO HSL hc2 hyl hnil2 ⊢
      obtain ⟨gO, hgO⟩ : ∃ gO, gO = gk := ⟨_, rfl⟩
      rw [← hgO] at hg
      clear hsv hn2
      go_wp2
      go_loopg [5] (n2 + 1) (fun g s5 wr' => ∃ k : Nat, s5 = .int .i64 k ∧ k ≤ n2 ∧ n2 + 1 ≤ k + g ∧ Hid (∀ j (_ : j < ys.length), j < k → kb ys[j] < kb s) ∧ Hid (wr'.ownsRow w.heap.size 9 1 (.slice ao2 n2 cap2) n2 (ys.flatMap strE)) ∧ Hid (Below w.heap.size w wr'))
      case atStart => exact ⟨0, rfl, by omega, by omega, Lib.hid (fun j _ h => absurd h (by omega)), HO, HB⟩
      case round =>
        obtain ⟨k, rfl, hk, hg2, HLT, HO2, HB2⟩ := hrel
        have HSL2 := Lib.hid (SliceOf.own (enc := strE) (l := ys) (by rw [← HN2.out]; exact HO2.out) (fun _ _ => rfl))
        have HLS := Lib.hid (HS.out.below HB2.out)
        obtain ⟨b, off, rfl, hrl⟩ := (show ∃ b off, ao = some ⟨b, off, none⟩ ∧ wr.cell? ⟨b, off + i, none⟩ = some (.string s) by
          obtain ⟨a', c', e1, _, _, _, hx⟩ := HLS.out
          obtain ⟨b, off, e2, hr⟩ := hx i hlt
          simp only [Value.slice.injEq] at e1
          refine ⟨b, off, by rw [e1.1, e2], ?_⟩
          rw [HSV.out]; simpa using hr 0 _ rfl)
        by_cases hkl : k < n2
        · have hklI : decide ((k : Int) < (n2 : Int)) = true := decide_eq_true (by omega)
          have hkl' : k < ys.length := by have := HN2.out; omega
          obtain ⟨b2, off2, rfl, hrk⟩ := (show ∃ b2 off2, ao2 = some ⟨b2, off2, none⟩ ∧ wr.cell? ⟨b2, off2 + k, none⟩ = some (.string ys[k]) by
            obtain ⟨a', c', e1, _, _, _, hx⟩ := HSL2.out
            obtain ⟨b, off, e2, hr⟩ := hx k hkl'
            simp only [Value.slice.injEq] at e1
            exact ⟨b, off, by rw [e1.1, e2], by simpa using hr 0 _ rfl⟩)
          obtain ⟨q, hqv⟩ : ∃ q, q = ys[k] := ⟨_, rfl⟩
          have HQ := Lib.hid hqv
          rw [← hqv] at hrk
          have HCL := Lib.hid hrl; have HCK := Lib.hid hrk
          clear hqv
          cases hlq : decide (kb q < kb s) with
          | true =>
            obtain ⟨f1, f2⟩ := lt_facts hlq
            have HLT2 : Hid (∀ j (_ : j < ys.length), j < k + 1 → kb ys[j] < kb s) := Lib.hid (fun j hj hjk => by
              by_cases e : j = k
              · subst e; rw [← HQ.out]; exact of_decide_eq_true hlq
              · exact HLT.out j hj (by omega))
            clear hlq
            go_wp2_with fail
            go_quiet (fail)
            obtain ⟨z, hz⟩ : ∃ z, z = nq := ⟨_, rfl⟩
            rw [← hz]; clear hz
            go_wp2
            go_roundg (gk - 1)
            case rel => exact ⟨k + 1, by go_num, by omega, by omega, HLT2, Lib.hid (row_below HO2.out (below_draws (Below.refl _ _) z)), Lib.hid (below_draws HB2.out z)⟩
            case measure => omega
          | false =>
            obtain ⟨f1, f2⟩ := lt_facts hlq
            by_cases hqs : q = s
            · subst hqs
              have HSET2 := Lib.hid (HSET.out.skip (s := q) (by rw [HQ.out]; exact List.getElem_mem _))
              rw [← HT.out] at HSET2
              clear hlq
              go_wp2_with fail
              go_quiet (fail)
              obtain ⟨z, hz⟩ : ∃ z, z = nq := ⟨_, rfl⟩
              rw [← hz]; clear hz
              have c1 : (wr.drewN z).cell? ⟨b2, off2 + k, none⟩ = some (.string q) := HCK.out
              have c2 : (wr.drewN z).cell? ⟨b, off + i, none⟩ = some (.string q) := HCL.out
              go_wp2_with fail
              go_quiet (fail)
              obtain ⟨z2, hz2⟩ : ∃ z, z = nq := ⟨_, rfl⟩
              rw [← hz2]; clear hz2
              go_wp2
              go_roundg (gO - 1)
              case rel => exact ⟨i + 1, ys, by go_num, by omega, by omega, by have := HN2.out; omega, Lib.hid (by have h5 := row_below HO2.out (below_draws (Below.refl wr.heap.size wr) (z + z2)); rw [HN2.out] at h5 ⊢; exact h5), HSET2, Lib.hid (below_draws HB2.out (z + z2))⟩
              case measure => omega
            · have HIN := Lib.hid (HSET.out.ins (s := s) (k := k) (by omega) HLT.out (fun h => by
                rcases List.le_iff_lt_or_eq.1 (List.not_lt.1 (of_decide_eq_false hlq)) with h5 | h5
                · rw [← HQ.out]; exact h5
                · exact absurd (kb_inj h5).symm hqs))
              rw [← HT.out] at HIN
              obtain ⟨f4, f5⟩ := eq_facts hqs
              clear hlq hqs
              go_wp2_with fail
              go_quiet (fail)
              obtain ⟨z, hz⟩ : ∃ z, z = nq := ⟨_, rfl⟩
              rw [← hz]; clear hz
              have c1 : (wr.drewN z).cell? ⟨b2, off2 + k, none⟩ = some (.string q) := HCK.out
              have c2 : (wr.drewN z).cell? ⟨b, off + i, none⟩ = some (.string s) := HCL.out
              go_wp2_with fail
              go_quiet (fail)
              obtain ⟨z2, hz2⟩ : ∃ z, z = nq := ⟨_, rfl⟩
              rw [← hz2]; clear hz2
              obtain ⟨W8, hW8⟩ : ∃ W8, W8 = (wr.drewN z).drewN z2 := ⟨_, rfl⟩
              have HB8 : Hid (Below w.heap.size w W8) := Lib.hid (by rw [hW8]; exact below_draws (below_draws HB2.out z) z2)
              have HO8 : Hid (W8.ownsRow w.heap.size 9 1 (.slice (some ⟨b2, off2, none⟩) n2 cap2) n2 (ys.flatMap strE)) := Lib.hid (by rw [hW8]; exact row_below HO2.out (below_draws (below_draws (Below.refl wr.heap.size wr) z) z2))
              have HSL8 := Lib.hid (SliceOf.own (enc := strE) (l := ys) (by rw [← HN2.out]; exact HO8.out) (fun _ _ => rfl))
              have HC8 : Hid (W8.cell? ⟨b, off + i, none⟩ = some (.string s)) := Lib.hid (by rw [hW8]; exact c2)
              rw [← hW8]
              clear hW8 c2
              have hu1 := run_upto (P := Try.prog) (T := 87) (sz := 1) Try.underlying87 Try.sizeOf9 (some ⟨b2, off2, none⟩) n2 cap2 k (by omega)
              have hu2 := run_from (P := Try.prog) (T := 87) (sz := 1) Try.underlying87 Try.sizeOf9 (some ⟨b2, off2, none⟩) n2 cap2 k (by omega)
              obtain ⟨v1, hv1⟩ : ∃ v1, v1 = sliced (some ⟨b2, off2, none⟩) 0 k cap2 1 := ⟨_, rfl⟩
              obtain ⟨v2, hv2⟩ : ∃ v2, v2 = sliced (some ⟨b2, off2, none⟩) k n2 cap2 1 := ⟨_, rfl⟩
              rw [← hv1] at hu1
              rw [← hv2] at hu2
              have HV1 : Hid (SliceOf strE 1 W8 v1 (ys.take k)) := Lib.hid (by rw [hv1]; simpa using HSL8.out.sliced 0 k (by omega) (by have := HN2.out; omega))
              have HV2 : Hid (SliceOf strE 1 W8 v2 (ys.drop k)) := Lib.hid (by rw [hv2]; have h5 := HSL8.out.sliced k n2 (by omega) (by have := HN2.out; omega); rw [show ys.take n2 = ys from by rw [HN2.out]; exact List.take_length] at h5; exact h5)
              have hsz8 := HB8.out.size
              have c8 := HC8.out
              have hb8 : b < W8.heap.size := World.block_lt_of_cell? W8 _ c8
              have HLT6 : Hid ((ys.take k).length = k) := Lib.hid (by have := HN2.out; rw [List.length_take]; omega)
              have HLD6 : Hid ((ys.drop k).length = n2 - k) := Lib.hid (by have := HN2.out; rw [List.length_drop]; omega)
              clear hv1 hv2
              go_wp2_with fail
              go_region_law (first
                | (refine step_append_src rfl (.tmp 45) (.tmp 48) 87 rfl W8.heap.size 9 i0 (.string ⟨#[]⟩) 1 16 Try.underlying87 hi hz0 hz1 hz2 rfl (by decide) _ 0 [] rfl (by first | exact row_empty _ _ _ _ _ (by simp) (by omega) | exact (row_empty _ _ _ _ _ (by simp) (by omega)).alloc _) strE (ys.take k) _ rfl (HV1.out.below (by (repeat (first | exact Below.refl _ _ | refine Below.alloc ?_ (by first | omega | (simp; done) | (simp; omega)) _ | refine Below.drew ?_ | refine below_draws ?_ _)))) (strE_oneL _) (by rw [List.length_take]; unfold maxLen; omega) (by rw [List.length_take]; omega) (by simp <;> omega) ?_; intro v5 w5 hown5 hgr5; have hbx : Below W8.heap.size W8 w5 := Below.grown (by (repeat (first | exact Below.refl _ _ | refine Below.alloc ?_ (by first | omega | (simp; done) | (simp; omega)) _ | refine Below.drew ?_ | refine below_draws ?_ _))) hgr5 (by simp <;> omega) (fun k hk => by cases hk; simp <;> omega); have c5 := cell_below hbx HC8.out; have ho5 := Lib.hid (show w5.ownsRow W8.heap.size 9 1 v5 k ((ys.take k).flatMap strE) by have h7 := hown5; rw [Nat.zero_add, HLT6.out] at h7; exact h7); clear hown5)
                | (refine step_append_lies _ rfl (.tmp 49) (.tmp 54) 87 rfl W8.heap.size 9 i0 (.string ⟨#[]⟩) 1 16 Try.underlying87 hi hz0 hz1 hz2 rfl (by decide) _ k _ rfl (by first | exact ho5.out | exact ho5.out.alloc _) _ 1 1 [.string s] rfl rfl (by first | exact World.news_of_block (alloc_at _ _) | exact fun j u hj => hgr5.cell (World.news_of_block (alloc_at' _ _ _ (by simp)) j u hj) (by rw [Addr.add_lit]; intro h8; injection h8 with h9; first | omega | (simp at h9; done) | (simp at h9; omega)) | exact fun j u hj => hgr5.cell (cell_below (Below.alloc (Below.refl _ _) (Nat.le_refl _) _) (World.news_of_block (alloc_at' _ _ _ (by simp)) j u hj)) (by rw [Addr.add_lit]; intro h8; injection h8 with h9; first | omega | (simp at h9; done) | (simp at h9; omega))) (by simp [Value.oneCell']) (by omega) (by unfold maxLen; omega) (by omega) (by have := hbx.size; simp <;> omega) _ rfl ?_; intro g6 cp6 w6 hown6 hgr6 hg6 hg6s))
              all_goals (
                have hob := Lib.hid (own_block ho5.out)
                have hsz5 := hbx.size
                have hbx6 := Lib.hid (Below.grown (B := W8.heap.size) (a := W8) (by first | exact hbx | exact hbx.drew | exact (hbx.alloc (by first | omega | (simp; omega)) _) | exact (hbx.alloc (by first | omega | (simp; omega)) _).drew | exact hbx.drew.drew | exact (hbx.drew.alloc (by first | omega | (simp; omega)) _)) hgr6 (by first | omega | (simp; omega)) (fun k hk => hob.out k hk))
                have HO6 := Lib.hid hown6
                have hsz6 := hbx6.out.size
                clear hown6 hgr6 hgr5 hu1 hsz5 c5 hbx
                go_wp2_with (at_builtin; go_loud (refine wpList_append_src rfl (.tmp 56) (.tmp 59) 87 rfl W8.heap.size 9 i0 (.string ⟨#[]⟩) 1 16 Try.underlying87 hi hz0 hz1 hz2 rfl (by decide) _ _ _ rfl HO6.out strE (ys.drop k) _ rfl (HV2.out.below hbx6.out) (strE_oneL _) (by rw [HLD6.out]; unfold maxLen; omega) (by rw [HLD6.out]; omega) (by omega) ?_); intro v7 w7 hown7 hgr7)
                have HO7 : Hid (w7.ownsRow w.heap.size 9 1 v7 (ys.take k ++ [s] ++ ys.drop k).length ((ys.take k ++ [s] ++ ys.drop k).flatMap strE)) := Lib.hid (own_lowK (by rw [List.flatMap_append, List.flatMap_append, List.length_append, List.length_append, HLT6.out, List.length_singleton]; exact hown7) hsz8)
                have HB7 := Lib.hid ((HB8.out.trans (hbx6.out.mono hsz8)).grown hgr7 (by omega) (fun j hj => by have := (HO6.out.lt j hj).1; omega))
                have HL7 : Hid ((ys.take k ++ [s] ++ ys.drop k).length = n2 + 1) := Lib.hid (by rw [List.length_append, List.length_append, HLT6.out, HLD6.out, List.length_singleton]; omega)
                clear hown7 hgr7
                go_wp2
                go_roundg (gO - 1)
                case rel => exact ⟨i + 1, ys.take k ++ [s] ++ ys.drop k, by go_num, by omega, by omega, by rw [HL7.out]; omega, HO7, HIN, HB7⟩
                case measure => omega)
        · obtain rfl : k = n2 := by omega
          have hklI : decide ((k : Int) < (k : Int)) = false := decide_eq_false (by omega)
          have HIN := Lib.hid (HSET.out.ins (s := s) (k := k) (by have := HN2.out; omega) HLT.out (fun h => by have := HN2.out; omega))
          rw [← HT.out] at HIN
          have HCL := Lib.hid hrl
          go_wp2_with fail
          go_quiet (fail)
          obtain ⟨z, hz⟩ : ∃ z, z = nq := ⟨_, rfl⟩
          rw [← hz]; clear hz
          have c2 : (wr.drewN z).cell? ⟨b, off + i, none⟩ = some (.string s) := HCL.out
          go_wp2_with fail
          go_quiet (fail)
          obtain ⟨z2, hz2⟩ : ∃ z, z = nq := ⟨_, rfl⟩
          rw [← hz2]; clear hz2
          obtain ⟨W8, hW8⟩ : ∃ W8, W8 = (wr.drewN z).drewN z2 := ⟨_, rfl⟩
          have HB8 : Hid (Below w.heap.size w W8) := Lib.hid (by rw [hW8]; exact below_draws (below_draws HB2.out z) z2)
          have HO8 : Hid (W8.ownsRow w.heap.size 9 1 (.slice ao2 k cap2) k (ys.flatMap strE)) := Lib.hid (by rw [hW8]; exact row_below HO2.out (below_draws (below_draws (Below.refl wr.heap.size wr) z) z2))
          have HSL8 := Lib.hid (SliceOf.own (enc := strE) (l := ys) (by rw [← HN2.out]; exact HO8.out) (fun _ _ => rfl))
          have HC8 : Hid (W8.cell? ⟨b, off + i, none⟩ = some (.string s)) := Lib.hid (by rw [hW8]; exact c2)
          rw [← hW8]
          clear hW8 c2
          have hu1 := run_upto (P := Try.prog) (T := 87) (sz := 1) Try.underlying87 Try.sizeOf9 ao2 k cap2 k (by omega)
          have hu2 := run_from (P := Try.prog) (T := 87) (sz := 1) Try.underlying87 Try.sizeOf9 ao2 k cap2 k (by omega)
          obtain ⟨v1, hv1⟩ : ∃ v1, v1 = sliced ao2 0 k cap2 1 := ⟨_, rfl⟩
          obtain ⟨v2, hv2⟩ : ∃ v2, v2 = sliced ao2 k k cap2 1 := ⟨_, rfl⟩
          rw [← hv1] at hu1
          rw [← hv2] at hu2
          have HV1 : Hid (SliceOf strE 1 W8 v1 (ys.take k)) := Lib.hid (by rw [hv1]; simpa using HSL8.out.sliced 0 k (by omega) (by have := HN2.out; omega))
          have HV2 : Hid (SliceOf strE 1 W8 v2 (ys.drop k)) := Lib.hid (by rw [hv2]; have h5 := HSL8.out.sliced k k (by omega) (by have := HN2.out; omega); rw [show ys.take k = ys from by rw [HN2.out]; exact List.take_length] at h5; exact h5)
          have hsz8 := HB8.out.size
          have c8 := HC8.out
          have hb8 : b < W8.heap.size := World.block_lt_of_cell? W8 _ c8
          have HLT6 : Hid ((ys.take k).length = k) := Lib.hid (by have := HN2.out; rw [List.length_take]; omega)
          have HLD6 : Hid ((ys.drop k).length = k - k) := Lib.hid (by have := HN2.out; rw [List.length_drop]; omega)
          clear hv1 hv2
          go_wp2_with fail
          go_region_law (first
            | (refine step_append_src rfl (.tmp 45) (.tmp 48) 87 rfl W8.heap.size 9 i0 (.string ⟨#[]⟩) 1 16 Try.underlying87 hi hz0 hz1 hz2 rfl (by decide) _ 0 [] rfl (by first | exact row_empty _ _ _ _ _ (by simp) (by omega) | exact (row_empty _ _ _ _ _ (by simp) (by omega)).alloc _) strE (ys.take k) _ rfl (HV1.out.below (by (repeat (first | exact Below.refl _ _ | refine Below.alloc ?_ (by first | omega | (simp; done) | (simp; omega)) _ | refine Below.drew ?_ | refine below_draws ?_ _)))) (strE_oneL _) (by rw [List.length_take]; unfold maxLen; omega) (by rw [List.length_take]; omega) (by simp <;> omega) ?_; intro v5 w5 hown5 hgr5; have hbx : Below W8.heap.size W8 w5 := Below.grown (by (repeat (first | exact Below.refl _ _ | refine Below.alloc ?_ (by first | omega | (simp; done) | (simp; omega)) _ | refine Below.drew ?_ | refine below_draws ?_ _))) hgr5 (by simp <;> omega) (fun k hk => by cases hk; simp <;> omega); have c5 := cell_below hbx HC8.out; have ho5 := Lib.hid (show w5.ownsRow W8.heap.size 9 1 v5 k ((ys.take k).flatMap strE) by have h7 := hown5; rw [Nat.zero_add, HLT6.out] at h7; exact h7); clear hown5)
            | (refine step_append_lies _ rfl (.tmp 49) (.tmp 54) 87 rfl W8.heap.size 9 i0 (.string ⟨#[]⟩) 1 16 Try.underlying87 hi hz0 hz1 hz2 rfl (by decide) _ k _ rfl (by first | exact ho5.out | exact ho5.out.alloc _) _ 1 1 [.string s] rfl rfl (by first | exact World.news_of_block (alloc_at _ _) | exact fun j u hj => hgr5.cell (World.news_of_block (alloc_at' _ _ _ (by simp)) j u hj) (by rw [Addr.add_lit]; intro h8; injection h8 with h9; first | omega | (simp at h9; done) | (simp at h9; omega)) | exact fun j u hj => hgr5.cell (cell_below (Below.alloc (Below.refl _ _) (Nat.le_refl _) _) (World.news_of_block (alloc_at' _ _ _ (by simp)) j u hj)) (by rw [Addr.add_lit]; intro h8; injection h8 with h9; first | omega | (simp at h9; done) | (simp at h9; omega))) (by simp [Value.oneCell']) (by omega) (by unfold maxLen; omega) (by omega) (by have := hbx.size; simp <;> omega) _ rfl ?_; intro g6 cp6 w6 hown6 hgr6 hg6 hg6s))
          all_goals (
            have hob := Lib.hid (own_block ho5.out)
            have hsz5 := hbx.size
            have hbx6 := Lib.hid (Below.grown (B := W8.heap.size) (a := W8) (by first | exact hbx | exact hbx.drew | exact (hbx.alloc (by first | omega | (simp; omega)) _) | exact (hbx.alloc (by first | omega | (simp; omega)) _).drew | exact hbx.drew.drew | exact (hbx.drew.alloc (by first | omega | (simp; omega)) _)) hgr6 (by first | omega | (simp; omega)) (fun k hk => hob.out k hk))
            have HO6 := Lib.hid hown6
            have hsz6 := hbx6.out.size
            clear hown6 hgr6 hgr5 hu1 hsz5 c5 hbx
            go_wp2_with (at_builtin; go_loud (refine wpList_append_src rfl (.tmp 56) (.tmp 59) 87 rfl W8.heap.size 9 i0 (.string ⟨#[]⟩) 1 16 Try.underlying87 hi hz0 hz1 hz2 rfl (by decide) _ _ _ rfl HO6.out strE (ys.drop k) _ rfl (HV2.out.below hbx6.out) (strE_oneL _) (by rw [HLD6.out]; unfold maxLen; omega) (by rw [HLD6.out]; omega) (by omega) ?_); intro v7 w7 hown7 hgr7)
            have HO7 : Hid (w7.ownsRow w.heap.size 9 1 v7 (ys.take k ++ [s] ++ ys.drop k).length ((ys.take k ++ [s] ++ ys.drop k).flatMap strE)) := Lib.hid (own_lowK (by rw [List.flatMap_append, List.flatMap_append, List.length_append, List.length_append, HLT6.out, List.length_singleton]; exact hown7) hsz8)
            have HB7 := Lib.hid ((HB8.out.trans (hbx6.out.mono hsz8)).grown hgr7 (by omega) (fun j hj => by have := (HO6.out.lt j hj).1; omega))
            have HL7 : Hid ((ys.take k ++ [s] ++ ys.drop k).length = k + 1) := Lib.hid (by rw [List.length_append, List.length_append, HLT6.out, HLD6.out, List.length_singleton]; omega)
            clear hown7 hgr7
            go_wp2
            go_roundg (gO - 1)
            case rel => exact ⟨i + 1, ys.take k ++ [s] ++ ys.drop k, by go_num, by omega, by omega, by rw [HL7.out]; omega, HO7, HIN, HB7⟩
            case measure => omega)
    · obtain rfl : i = l.length := by omega
      have hdl : decide ((l.length : Int) < (l.length : Int)) = false := decide_eq_false (by omega)
      rw [List.take_length] at HSET
      go_wp2
      go_ret
      exact ⟨_, ys, rfl, ⟨HSET.out, by omega⟩, HO.out, HB.out⟩
end Go.Proofs.Ytaoibbakflacoaa

/- The document's own ops: Set, Norm, Over. Conditions: at most 1000 pairs and operations. -/
namespace Go.Proofs.Ytaoibbakflacoaa
open Go.RowKit Go.PlainAid
set_option linter.unusedVariables false

open Go.Sort Go.Shelf Go.Lib

abbrev ValT := ByteArray × ByteArray
abbrev kB (s : ByteArray) : List UInt8 := s.data.toList
def lastF (g : ByteArray → Option OpT) (o : OpT) : ByteArray → Option OpT := fun b => if b = o.1 then some o else g b
/-- The last operation of each key. -/
def lastG (l : List OpT) : ByteArray → Option OpT := l.foldl lastF (fun _ => none)
theorem lastG_snoc (l : List OpT) (o : OpT) : lastG (l ++ [o]) = lastF (lastG l) o := by unfold lastG; rw [List.foldl_append]; rfl
theorem snoc_ind {α : Type} {C : List α → Prop} (h0 : C []) (h1 : ∀ l a, C l → C (l ++ [a])) (l : List α) : C l := by
  have : ∀ r : List α, C r.reverse := fun r => by
    induction r with
    | nil => exact h0
    | cons a r ih => rw [List.reverse_cons]; exact h1 _ _ ih
  rw [← List.reverse_reverse l]; exact this _
theorem lastG_key (l : List OpT) : ∀ k v, lastG l k = some v → v.1 = k := by
  refine snoc_ind (C := fun l => ∀ k v, lastG l k = some v → v.1 = k) (fun k v h => by cases h) (fun l o ih k v h => ?_) l
  rw [lastG_snoc] at h
  unfold lastF at h
  by_cases e : k = o.1
  · rw [if_pos e] at h; cases h; exact e.symm
  · rw [if_neg e] at h; exact ih k v h
/-- ys rises by its keys and holds just what g has. -/
def SetG {V : Type} (key : V → ByteArray) (g : ByteArray → Option V) (ys : List V) : Prop := ys.Pairwise (fun a b => kB (key a) < kB (key b)) ∧ ∀ y, y ∈ ys ↔ ∃ k, g k = some y
theorem strE_lenP (y : ByteArray) : (strE y).length = 1 := rfl
theorem rkeysSet_any (v : Value) (l : List ByteArray) (w : World) (hs : SliceOf strE 1 w v l) (hl : l.length ≤ 1000) :
    Calls Try.prog 27 #[v] w fun e w' => ∃ (ys : List ByteArray) (u : Value), e = .returned (u) ∧ w'.ownsRow w.heap.size 9 1 u ys.length (ys.flatMap strE) ∧ SetOf ys l ∧ ys.length ≤ l.length ∧ Below w.heap.size w w' :=
  (rset_any v l w hs hl).mono (by rintro e x ⟨u, ys, rfl, ⟨h1, h2⟩, h3, h4⟩; exact ⟨ys, u, rfl, h3, h1, h2, h4⟩)
def zOp : OpT := (⟨#[]⟩, ⟨#[]⟩, false)
/-- The last operation with a key. -/
def lastD (l : List OpT) (k : ByteArray) : OpT := (lastG l k).getD zOp
theorem toList_inj {a b : ByteArray} (h : a.toList = b.toList) : a = b := by
  rw [Go.ByteArray.toList_eq, Go.ByteArray.toList_eq] at h
  exact kb_inj h
theorem lastD_yes {l : List OpT} {i : Nat} {z : OpT} {k : ByteArray} (h : l[i]? = some z) (hk : (z.1.toList == k.toList) = true) : lastD (l.take (i + 1)) k = z := by
  have e : z.1 = k := toList_inj (by simpa using hk)
  unfold lastD; rw [takeO_at h, lastG_snoc]; unfold lastF; rw [if_pos e.symm]; rfl
theorem lastD_no {l : List OpT} {i : Nat} {z : OpT} {k : ByteArray} (h : l[i]? = some z) (hk : (z.1.toList == k.toList) = false) : lastD (l.take (i + 1)) k = lastD (l.take i) k := by
  have e : ¬ k = z.1 := fun e => by subst e; simp at hk
  unfold lastD; rw [takeO_at h, lastG_snoc]; unfold lastF; rw [if_neg e]
theorem blk_zOp {w : World} {N : Nat} {T : TypeId} (l : List OpT) (k : ByteArray) (h : Blk w N T #[.string ⟨#[]⟩, .string ⟨#[]⟩, .bool false]) : Blk w N T #[.string (lastD (l.take 0) k).1, .string (lastD (l.take 0) k).2.1, .bool (lastD (l.take 0) k).2.2] := h
theorem lastG_mem (l : List OpT) : ∀ k, (∃ v, lastG l k = some v) ↔ k ∈ l.map (·.1) := by
  refine snoc_ind (C := fun l => ∀ k, (∃ v, lastG l k = some v) ↔ k ∈ l.map (·.1)) (fun k => by simp [lastG]) (fun l o ih k => ?_) l
  rw [lastG_snoc, List.map_append, List.mem_append]
  unfold lastF
  by_cases e : k = o.1
  · subst e; simp
  · rw [if_neg e, ih k]; simp [e]
theorem SetOf.mem {ys m : List ByteArray} (h : SetOf ys m) (x : ByteArray) : x ∈ ys ↔ x ∈ m := by
  have := h.2 (kb x)
  constructor
  · intro hx
    obtain ⟨y, hy, e⟩ := List.mem_map.1 (this.1 (List.mem_map_of_mem hx))
    rwa [← kb_inj e]
  · intro hx
    obtain ⟨y, hy, e⟩ := List.mem_map.1 (this.2 (List.mem_map_of_mem hx))
    rwa [← kb_inj e]
theorem norm_set {l : List OpT} {ys : List ByteArray} (h : SetOf ys (l.map (·.1))) : SetG (fun y : OpT => y.1) (lastG l) (ys.map (lastD l)) := by
  have hk : ∀ y ∈ ys, lastG l y = some (lastD l y) ∧ (lastD l y).1 = y := fun y hy => by
    obtain ⟨v, hv⟩ := (lastG_mem l y).2 ((h.mem y).1 hy)
    unfold lastD; rw [hv]; exact ⟨rfl, lastG_key l y v hv⟩
  refine ⟨?_, fun y => ?_⟩
  · have hp : ys.Pairwise fun a b => kB a < kB b := List.pairwise_map.1 h.1
    rw [List.pairwise_map]
    exact hp.imp_of_mem (fun {a b} ha hb hab => by show kB (lastD l a).1 < kB (lastD l b).1; rw [(hk a ha).2, (hk b hb).2]; exact hab)
  · rw [List.mem_map]
    constructor
    · rintro ⟨k, hk1, rfl⟩; exact ⟨k, (hk k hk1).1⟩
    · rintro ⟨k, hv⟩
      have hm : k ∈ ys := (h.mem k).2 ((lastG_mem l k).1 ⟨y, hv⟩)
      exact ⟨k, hm, by unfold lastD; rw [hv]; rfl⟩
theorem map_snoc {α β : Type} {f : α → β} {l : List α} {i : Nat} {y : α} (h : l[i]? = some y) : (l.take i).map f ++ [f y] = (l.take (i + 1)).map f := by rw [takeO_at h]; simp

set_option maxRecDepth 100000 in
theorem ropsNorm_any (v : Value) (l : List OpT) (w : World) (hs : SliceOf opE 3 w v l) (hlen : l.length ≤ 1000) :
    Calls Try.prog 16 #[v] w fun e w' => ∃ (ys : List OpT) (u : Value), e = .returned (u) ∧ w'.ownsRow w.heap.size 59 3 u ys.length (ys.flatMap opE) ∧ SetG (fun y : OpT => y.1) (lastG l) ys ∧ ys.length ≤ l.length ∧ Below w.heap.size w w' := by
 have hB0 := Below.refl w.heap.size w
 have hl_hs := sl_len hs
 refine co_enter (n := 57) Try.func16 rfl rfl rfl [(0, v)] rfl (fun a h0 => ?_)
 refine co_seq ?_
 refine co_reg ?_
 refine pk0 (v := .slice none 0 0) h0 rfl fun a1 h1 => ?_; clear h0
 refine pl_nil ?_
 refine co_then ?_
 refine co_seq ?_
 refine co_reg ?_
 refine pk0 (v := .slice none 0 0) h1 rfl fun a2 h2 => ?_; clear h1
 refine pl_nil ?_
 refine co_then ?_
 refine co_seq ?_
 refine co_seq ?_
 refine co_reg ?_
 refine pk0 (v := .int .i64 0) h2 rfl fun a3 h3 => ?_; clear h2
 refine pl_nil ?_
 refine co_then ?_
 refine wp_block ?_
 have h4 : Slots 57 [(0, v), (3, .slice none 0 0), (4, .int .i64 0)] _ := h3.sub ⟨rfl, rfl, rfl, trivial⟩; clear h3
 refine co_loop (fun mm a x => ∃ (i : Nat) (u : Value), Slots 57 [(0, v), (3, u), (4, .int .i64 ((i : Nat) : Int))] a ∧ mm = l.length - i ∧ (i ≤ l.length) ∧ x.ownsRow w.heap.size 9 1 u ((l.take i).map (·.1)).length (((l.take i).map (·.1)).flatMap strE) ∧ Below w.heap.size w x) (l.length - 0) ?_ ?_
 · exact ⟨0, (.slice none 0 0), h4.sub ⟨rfl, rfl, (slot_eq rfl (congrArg (Value.int .i64) (by first | rfl | omega))), trivial⟩, rfl, by omega, (row_nilL _ _ _ _ _), hB0⟩
 · rintro k5 a6 w7 ⟨i, u, h6, rfl, hi8, hf9, hB10⟩
   have hz11 := hB10.size
   have hst : (l.take i).length ≤ i := List.length_take_le _ _; have hst2 : ((l.take i).map (·.1)).length ≤ i := by rw [List.length_map]; exact hst
   refine co_seq ?_
   refine co_seq ?_
   refine co_reg ?_
   refine pk0 (v := .int .i64 ((i : Nat) : Int)) h6 rfl fun a12 h12 => ?_; clear h6
   refine pk0 (v := v) h12 rfl fun a13 h13 => ?_; clear h12
   refine pk (v := .int .i64 ((l.length : Nat) : Int)) h13 rfl (rn_len rfl rfl Try.underlying23 (hs.below hB10)) fun a14 h14 => ?_; clear h13
   refine pk0 (v := .bool (decide (((i : Nat) : Int) < ((l.length : Nat) : Int)))) h14 rfl fun a15 h15 => ?_; clear h14
   refine pl_nil ?_
   refine co_then ?_
   cases hc16 : (decide (((i : Nat) : Int) < ((l.length : Nat) : Int)))
   ·
    rw [hc16] at h15
    have hp17 : ¬ (((i : Nat) : Int) < ((l.length : Nat) : Int)) := of_decide_eq_false hc16
    clear hc16
    refine co_false h15 rfl ?_
    refine wp_exit ?_
    refine co_thenX ?_
    refine co_thenX ?_
    refine co_blockX ?_
    refine co_then ?_
    refine co_seq ?_
    refine co_reg ?_
    refine pk0 (v := u) h15 rfl fun a18 h18 => ?_; clear h15
    refine pw h18 rfl (op_call (args := #[u]) (R := fun res xw => ∃ ys : List ByteArray, ∃ u : Value, res = u ∧ xw.ownsRow w7.heap.size 9 1 u ys.length (ys.flatMap strE) ∧ SetOf ys ((l.take i).map (·.1)) ∧ ys.length ≤ ((l.take i).map (·.1)).length ∧ Below w7.heap.size w7 xw) rfl rfl rfl (by kernel_rfl) (by kernel_rfl) (Try.call27 _ _) (rkeysSet_any u ((l.take i).map (·.1)) w7 (row_sl hf9 strE_lenP) (by rw [List.length_map, List.length_take]; omega)) (by rintro e x ⟨ys, u, rfl, hq23, hq24, hq25, hb26⟩; exact ⟨_, rfl, ⟨ys, u, rfl, hq23, hq24, hq25, hb26⟩⟩)) ?_; clear h18
    rintro u22 w20 a19 ⟨ys21, _, rfl, hq23, hq24, hq25, hb26⟩ h19
    have hz27 := hb26.size
    have hl28 := sl_len (row_sl hq23 strE_lenP)
    refine pk0 (v := u22) h19 rfl fun a29 h29 => ?_; clear h19
    refine pl_nil ?_
    refine co_then ?_
    refine co_seq ?_
    refine co_reg ?_
    refine pk0 (v := .slice none 0 0) h29 rfl fun a30 h30 => ?_; clear h29
    refine pl_nil ?_
    refine co_then ?_
    refine co_seq ?_
    refine co_seq ?_
    refine co_reg ?_
    refine pk0 (v := .int .i64 0) h30 rfl fun a31 h31 => ?_; clear h30
    refine pl_nil ?_
    refine co_then ?_
    refine wp_block ?_
    have hall : l.take i = l := List.take_of_length_le (by omega)
    have hset : SetOf ys21 (l.map (·.1)) := by have := hq24; rwa [hall] at this
    have hysl : ys21.length ≤ l.length := by have h := (by assumption : ys21.length ≤ ((l.take i).map (·.1)).length); rw [List.length_map, hall] at h; exact h
    have h32 : Slots 57 [(0, v), (3, u22), (5, .slice none 0 0), (6, .int .i64 0)] _ := h31.sub ⟨rfl, rfl, rfl, rfl, trivial⟩; clear h31
    refine co_loop (fun mm a x => ∃ (j : Nat) (u2 : Value), Slots 57 [(0, v), (3, u22), (5, u2), (6, .int .i64 ((j : Nat) : Int))] a ∧ mm = ys21.length - j ∧ (j ≤ ys21.length) ∧ x.ownsRow w7.heap.size 9 1 u22 ys21.length (ys21.flatMap strE) ∧ x.ownsRow w.heap.size 59 3 u2 ((ys21.take j).map (lastD l)).length (((ys21.take j).map (lastD l)).flatMap opE) ∧ Below w.heap.size w x) (ys21.length - 0) ?_ ?_
    have hB33 := hb_call hB10 hb26
    · exact ⟨0, (.slice none 0 0), h32.sub ⟨rfl, rfl, rfl, (slot_eq rfl (congrArg (Value.int .i64) (by first | rfl | omega))), trivial⟩, rfl, by omega, hq23, (row_nilL _ _ _ _ _), hB33⟩
    · rintro k34 a35 w36 ⟨j, u2, h35, rfl, hi37, hf38, hf39, hB40⟩
      have hz41 := hB40.size
      have hst3 : ((ys21.take j).map (lastD l)).length ≤ j := by rw [List.length_map]; exact List.length_take_le _ _
      refine co_seq ?_
      refine co_seq ?_
      refine co_reg ?_
      refine pk0 (v := .int .i64 ((j : Nat) : Int)) h35 rfl fun a42 h42 => ?_; clear h35
      refine pk0 (v := u22) h42 rfl fun a43 h43 => ?_; clear h42
      refine pk (v := .int .i64 ((ys21.length : Nat) : Int)) h43 rfl (rn_lenOwn rfl rfl Try.underlying87 hf38) fun a44 h44 => ?_; clear h43
      refine pk0 (v := .bool (decide (((j : Nat) : Int) < ((ys21.length : Nat) : Int)))) h44 rfl fun a45 h45 => ?_; clear h44
      refine pl_nil ?_
      refine co_then ?_
      cases hc46 : (decide (((j : Nat) : Int) < ((ys21.length : Nat) : Int)))
      ·
       rw [hc46] at h45
       have hp47 : ¬ (((j : Nat) : Int) < ((ys21.length : Nat) : Int)) := of_decide_eq_false hc46
       clear hc46
       refine co_false h45 rfl ?_
       refine wp_exit ?_
       refine co_thenX ?_
       refine co_thenX ?_
       refine co_blockX ?_
       refine co_then ?_
       refine co_seq ?_
       refine co_reg ?_
       refine pk0 (v := u2) h45 rfl fun a48 h48 => ?_; clear h45
       refine pk0 (v := u2) h48 rfl fun a49 h49 => ?_; clear h48
       refine pl_nil ?_
       refine co_then ?_
       refine wp_ret ?_
       refine co_ret1 h49 rfl rfl ?_
       have hallj : ys21.take j = ys21 := List.take_of_length_le (by omega)
       exact ⟨_, _, rfl, (row_eq (row_lows hf39 (by omega)) (by rw [hallj])), norm_set hset, by rw [List.length_map]; omega, hB40⟩
      ·
       rw [hc46] at h45
       have hp50 : ((j : Nat) : Int) < ((ys21.length : Nat) : Int) := of_decide_eq_true hc46
       clear hc46
       refine co_true h45 rfl ?_
       refine wp_skip ?_
       refine co_then ?_
       refine co_seq ?_
       refine wp_block ?_
       refine co_seq ?_
       refine co_reg ?_
       refine pk0 (v := .agg #[.string (⟨#[]⟩), .string (⟨#[]⟩), .bool false]) h45 rfl fun a51 h51 => ?_; clear h45
       refine pw h51 rfl (op_new (v := fun N => pt N 0) (T := 59) (cs := #[.string (⟨#[]⟩), .string (⟨#[]⟩), .bool false]) (by kernel_rfl) (by kernel_rfl) (by kernel_rfl)) ?_; clear h51
       rintro _ w53 a52 ⟨N54, rfl, hN57, hz58, hk56, hg55⟩ h52
       have ha59 := row_fresh hf38 hN57
       have ha60 := row_fresh hf39 hN57
       have hz61 := hg55.size
       try dsimp only at h52
       refine pwD h52 rfl (op_storeN rfl rfl rfl (by kernel_rfl) (by kernel_rfl) hk56 rfl) ?_; clear h52
       rintro _ w63 a62 ⟨hk64, hz65, hg66⟩ h62
       have hk64' : Blk w63 N54 59 #[.string (⟨#[]⟩), .string (⟨#[]⟩), .bool false] := hk64; clear hk64
       have hz67 := hg66.size
       refine pl_nil ?_
       refine co_then ?_
       refine co_seq ?_
       refine co_seq ?_
       refine co_reg ?_
       refine pk0 (v := .int .i64 0) h62 rfl fun a68 h68 => ?_; clear h62
       refine pl_nil ?_
       refine co_then ?_
       refine wp_block ?_
       obtain ⟨y69, hy69⟩ : ∃ z, ys21[j]? = some z := ⟨_, List.getElem?_eq_getElem (by omega)⟩
       have h70 : Slots 57 [(0, v), (3, u22), (5, u2), (6, .int .i64 ((j : Nat) : Int)), (7, pt N54 0), (8, .int .i64 0)] _ := h68.sub ⟨rfl, rfl, rfl, rfl, rfl, rfl, trivial⟩; clear h68
       refine co_loop (fun mm a x => ∃ (k : Nat), Slots 57 [(0, v), (3, u22), (5, u2), (6, .int .i64 ((j : Nat) : Int)), (7, pt N54 0), (8, .int .i64 ((k : Nat) : Int))] a ∧ mm = l.length - k ∧ (k ≤ l.length) ∧ Blk x N54 59 #[.string ((lastD (l.take k) y69).1), .string ((lastD (l.take k) y69).2.1), .bool ((lastD (l.take k) y69).2.2)] ∧ x.ownsRow w7.heap.size 9 1 u22 ys21.length (ys21.flatMap strE) ∧ x.ownsRow w.heap.size 59 3 u2 (((ys21.take j).map (lastD l)).length) (((ys21.take j).map (lastD l)).flatMap opE) ∧ Below w.heap.size w x) (l.length - 0) ?_ ?_
       have hr71 := row_kept_new hf38 hg55
       have hr72 := row_kept_at hr71 hg66 (ha59)
       have hr73 := row_kept_new hf39 hg55
       have hr74 := row_kept_at hr73 hg66 (ha60)
       have hB75 := hb_new hB40 hg55
       have hB76 := hb_at hB75 hg66 (by omega)
       · exact ⟨0, h70.sub ⟨rfl, rfl, rfl, rfl, rfl, (slot_eq rfl (congrArg (Value.int .i64) (by first | rfl | omega))), trivial⟩, rfl, by omega, (blk_zOp l y69 hk64'), hr72, hr74, hB76⟩
       · rintro k77 a78 w79 ⟨k, h78, rfl, hi80, hf81, hf82, hf83, hB84⟩
         have hz85 := hB84.size
         have hl86 := hf81.lt
         refine co_seq ?_
         refine co_seq ?_
         refine co_reg ?_
         refine pk0 (v := .int .i64 ((k : Nat) : Int)) h78 rfl fun a87 h87 => ?_; clear h78
         refine pk0 (v := v) h87 rfl fun a88 h88 => ?_; clear h87
         refine pk (v := .int .i64 ((l.length : Nat) : Int)) h88 rfl (rn_len rfl rfl Try.underlying23 (hs.below hB84)) fun a89 h89 => ?_; clear h88
         refine pk0 (v := .bool (decide (((k : Nat) : Int) < ((l.length : Nat) : Int)))) h89 rfl fun a90 h90 => ?_; clear h89
         refine pl_nil ?_
         refine co_then ?_
         cases hc91 : (decide (((k : Nat) : Int) < ((l.length : Nat) : Int)))
         ·
          rw [hc91] at h90
          have hp92 : ¬ (((k : Nat) : Int) < ((l.length : Nat) : Int)) := of_decide_eq_false hc91
          clear hc91
          refine co_false h90 rfl ?_
          refine wp_exit ?_
          refine co_thenX ?_
          refine co_thenX ?_
          refine co_blockX ?_
          refine co_then ?_
          refine co_reg ?_
          refine pk0 (v := u2) h90 rfl fun a93 h93 => ?_; clear h90
          refine pk (v := .agg #[.string ((lastD (l.take k) y69).1), .string ((lastD (l.take k) y69).2.1), .bool ((lastD (l.take k) y69).2.2)]) h93 rfl (rn_loadN rfl rfl Try.underlying59 rfl (by kernel_rfl) hf81.all) fun a94 h94 => ?_; clear h93
          refine pw h94 rfl (op_new (v := fun N => .slice (some ⟨N, 0, none⟩) 1 1) (T := 59) (cs := #[.string ((lastD (l.take k) y69).1), .string ((lastD (l.take k) y69).2.1), .bool ((lastD (l.take k) y69).2.2)]) (by kernel_rfl) (by kernel_rfl) (by kernel_rfl)) ?_; clear h94
          rintro _ w96 a95 ⟨N97, rfl, hN100, hz101, hk99, hg98⟩ h95
          have ha102 := row_fresh hf82 hN100
          have ha103 := row_fresh hf83 hN100
          have hz104 := hg98.size
          try dsimp only at h95
          have hr110 := row_kept_new hf83 hg98
          refine pw h95 rfl (op_append rfl w.heap.size 59 (z := .agg #[.string (⟨#[]⟩), .string (⟨#[]⟩), .bool false]) (size := 3) (bytes := 40) Try.underlying23 (by kernel_rfl) rfl rfl rfl hr110 rfl hk99 rfl (by kernel_rfl) (by first | omega | (simp only [List.length_nil, List.length_append, List.length_cons, List.length_take, List.length_drop]; omega)) (by first | omega | (simp only [List.length_nil, List.length_append, List.length_cons, List.length_take, List.length_drop]; omega)) (by omega)) ?_; clear h95
          rintro v107 w106 a105 ⟨hr108, hg109⟩ h105
          have hr108' : w106.ownsRow w.heap.size 59 3 v107 (((ys21.take j).map (lastD l) ++ [((lastD (l.take k) y69).1, (lastD (l.take k) y69).2.1, ((lastD (l.take k) y69).2.2))]).length) (((ys21.take j).map (lastD l) ++ [((lastD (l.take k) y69).1, (lastD (l.take k) y69).2.1, ((lastD (l.take k) y69).2.2))]).flatMap opE) := row_push (y := ((lastD (l.take k) y69).1, (lastD (l.take k) y69).2.1, ((lastD (l.take k) y69).2.2))) hr108 rfl rfl; clear hr108
          have hz111 := hg109.size
          refine pk0 (v := v107) h105 rfl fun a112 h112 => ?_; clear h105
          refine pl_nil ?_
          refine co_blockN ?_
          refine co_then ?_
          refine co_reg ?_
          refine pk0 (v := .int .i64 ((j : Nat) : Int)) h112 rfl fun a113 h113 => ?_; clear h112
          refine pk (v := .int .i64 ((j + 1 : Nat) : Int)) h113 rfl (rn_arith' rfl rfl rfl rfl rfl rfl (IntWalk.i64_in _ (by omega)) (by omega)) fun a114 h114 => ?_; clear h113
          refine pk0 (v := .int .i64 ((j + 1 : Nat) : Int)) h114 rfl fun a115 h115 => ?_; clear h114
          refine pl_nil ?_
          refine co_then ?_
          refine ⟨(ys21.length - (j + 1)), by omega, ?_⟩
          have hr116 := row_kept_new hf82 hg98
          have hr117 := row_kept_row hr116 hr110 hg109 (by decide)
          have hB118 := hb_new hB84 hg98
          have hB119 := hb_row hB118 hr110 (by omega) hg109
          exact ⟨j + 1, v107, h115.sub ⟨rfl, rfl, rfl, rfl, trivial⟩, rfl, by omega, hr117, (row_eq hr108' (by first | rfl | (rw [List.take_of_length_le (show l.length ≤ k by omega)]; exact map_snoc hy69))), hB119⟩
         ·
          rw [hc91] at h90
          have hp120 : ((k : Nat) : Int) < ((l.length : Nat) : Int) := of_decide_eq_true hc91
          clear hc91
          refine co_true h90 rfl ?_
          refine wp_skip ?_
          refine co_then ?_
          refine co_seq ?_
          refine wp_block ?_
          refine co_seq ?_
          refine dr_eq (by kernel_rfl) (fun w121 hg122 => ?_)
          have hz123 := hg122.size
          refine dk0 0 (v := v) h90 rfl rfl rfl fun a124 h124 => ?_; clear h90
          refine dk0 1 (v := .int .i64 ((k : Nat) : Int)) h124 rfl rfl rfl fun a125 h125 => ?_; clear h124
          have hB127 := hb_new hB84 hg122
          obtain ⟨y126, hy126⟩ : ∃ z, l[k]? = some z := ⟨_, List.getElem?_eq_getElem (by first | omega | (simp; done) | (simp; omega))⟩
          refine dk 2 (v := pt (blkOf v) (offOf v + k * 3)) h125 rfl rfl rfl (fun x hx => by subst hx; exact (rn_index rfl rfl rfl Try.underlying23 Try.sizeOf59 (hs.below hB127) (by omega) (by first | omega | (simp; done) | (simp; omega)))) fun a128 h128 => ?_; clear h125
          refine dk0 3 (v := pt (blkOf v) (offOf v + k * 3)) h128 rfl rfl rfl fun a129 h129 => ?_; clear h128
          refine dk 4 (v := .string y126.1) h129 rfl rfl rfl (fun x hx => by subst hx; exact (rn_load1 rfl rfl Try.isAgg9 ((sl_at (hs.below hB127) hy126) 0 _ rfl))) fun a130 h130 => ?_; clear h129
          refine dk0 5 (v := u22) h130 rfl rfl rfl fun a131 h131 => ?_; clear h130
          refine dk0 6 (v := .int .i64 ((j : Nat) : Int)) h131 rfl rfl rfl fun a132 h132 => ?_; clear h131
          have hr133 := row_kept_new hf82 hg122
          refine dk 7 (v := pt (blkOf u22) (offOf u22 + j * 1)) h132 rfl rfl rfl (fun x hx => by subst hx; exact (rn_index rfl rfl rfl Try.underlying87 Try.sizeOf9 (row_sl hr133 strE_lenP) (by omega) (by first | omega | (simp; done) | (simp; omega)))) fun a134 h134 => ?_; clear h132
          refine dk 8 (v := .string y69) h134 rfl rfl rfl (fun x hx => by subst hx; exact (rn_load1 rfl rfl Try.isAgg9 ((sl_at (row_sl hr133 strE_lenP) hy69) 0 _ rfl))) fun a135 h135 => ?_; clear h134
          refine dk0 9 (v := .bool (y126.1.toList == y69.toList)) h135 rfl rfl rfl fun a136 h136 => ?_; clear h135
          refine dr_done (by kernel_rfl) ?_
          refine co_then ?_
          cases hc137 : (y126.1.toList == y69.toList)
          ·
           rw [hc137] at h136
           refine co_false h136 rfl ?_
           refine wp_skip ?_
           refine co_blockN ?_
           refine co_then ?_
           refine co_reg ?_
           refine pk0 (v := .int .i64 ((k : Nat) : Int)) h136 rfl fun a138 h138 => ?_; clear h136
           refine pk (v := .int .i64 ((k + 1 : Nat) : Int)) h138 rfl (rn_arith' rfl rfl rfl rfl rfl rfl (IntWalk.i64_in _ (by omega)) (by omega)) fun a139 h139 => ?_; clear h138
           refine pk0 (v := .int .i64 ((k + 1 : Nat) : Int)) h139 rfl fun a140 h140 => ?_; clear h139
           refine pl_nil ?_
           refine co_then ?_
           refine ⟨(l.length - (k + 1)), by omega, ?_⟩
           have hk141 := hf81.kept hg122 (by simp)
           have hr142 := row_kept_new hf83 hg122
           exact ⟨k + 1, h140.sub ⟨rfl, rfl, rfl, rfl, rfl, rfl, trivial⟩, rfl, by omega, (by first | (rw [lastD_yes hy126 (by assumption)]; exact hk141) | (rw [lastD_no hy126 (by assumption)]; exact hk141)), hr133, hr142, hB127⟩
          ·
           rw [hc137] at h136
           refine co_true h136 rfl ?_
           refine co_reg ?_
           refine pk0 (v := v) h136 rfl fun a143 h143 => ?_; clear h136
           refine pk0 (v := .int .i64 ((k : Nat) : Int)) h143 rfl fun a144 h144 => ?_; clear h143
           refine pk (v := pt (blkOf v) (offOf v + k * 3)) h144 rfl (rn_index rfl rfl rfl Try.underlying23 Try.sizeOf59 (hs.below hB127) (by omega) (by first | omega | (simp; done) | (simp; omega))) fun a145 h145 => ?_; clear h144
           refine pk (v := .agg #[.string y126.1, .string y126.2.1, .bool y126.2.2]) h145 rfl (rn_loadN rfl rfl Try.underlying59 rfl (by kernel_rfl) (sl_at (hs.below hB127) hy126)) fun a146 h146 => ?_; clear h145
           have hk152 := hf81.kept hg122 (by simp)
           refine pwD h146 rfl (op_storeN rfl rfl rfl (by kernel_rfl) (by kernel_rfl) hk152 rfl) ?_; clear h146
           rintro _ w148 a147 ⟨hk149, hz150, hg151⟩ h147
           have hk149' : Blk w148 N54 59 #[.string y126.1, .string y126.2.1, .bool y126.2.2] := hk149; clear hk149
           have hz153 := hg151.size
           refine pl_nil ?_
           refine co_blockN ?_
           refine co_then ?_
           refine co_reg ?_
           refine pk0 (v := .int .i64 ((k : Nat) : Int)) h147 rfl fun a154 h154 => ?_; clear h147
           refine pk (v := .int .i64 ((k + 1 : Nat) : Int)) h154 rfl (rn_arith' rfl rfl rfl rfl rfl rfl (IntWalk.i64_in _ (by omega)) (by omega)) fun a155 h155 => ?_; clear h154
           refine pk0 (v := .int .i64 ((k + 1 : Nat) : Int)) h155 rfl fun a156 h156 => ?_; clear h155
           refine pl_nil ?_
           refine co_then ?_
           refine ⟨(l.length - (k + 1)), by omega, ?_⟩
           have hr157 := row_kept_at hr133 hg151 (ha59)
           have hr158 := row_kept_new hf83 hg122
           have hr159 := row_kept_at hr158 hg151 (ha60)
           have hB160 := hb_at hB127 hg151 (by omega)
           exact ⟨k + 1, h156.sub ⟨rfl, rfl, rfl, rfl, rfl, rfl, trivial⟩, rfl, by omega, (by first | (rw [lastD_yes hy126 (by assumption)]; exact hk149') | (rw [lastD_no hy126 (by assumption)]; exact hk149')), hr157, hr159, hB160⟩
   ·
    rw [hc16] at h15
    have hp161 : ((i : Nat) : Int) < ((l.length : Nat) : Int) := of_decide_eq_true hc16
    clear hc16
    refine co_true h15 rfl ?_
    refine wp_skip ?_
    refine co_then ?_
    refine co_seq ?_
    refine wp_block ?_
    refine co_reg ?_
    refine pk0 (v := u) h15 rfl fun a162 h162 => ?_; clear h15
    refine pk0 (v := v) h162 rfl fun a163 h163 => ?_; clear h162
    refine pk0 (v := .int .i64 ((i : Nat) : Int)) h163 rfl fun a164 h164 => ?_; clear h163
    obtain ⟨y165, hy165⟩ : ∃ z, l[i]? = some z := ⟨_, List.getElem?_eq_getElem (by first | omega | (simp; done) | (simp; omega))⟩
    refine pk (v := pt (blkOf v) (offOf v + i * 3)) h164 rfl (rn_index rfl rfl rfl Try.underlying23 Try.sizeOf59 (hs.below hB10) (by omega) (by first | omega | (simp; done) | (simp; omega))) fun a166 h166 => ?_; clear h164
    refine pk0 (v := pt (blkOf v) (offOf v + i * 3)) h166 rfl fun a167 h167 => ?_; clear h166
    refine pk (v := .string y165.1) h167 rfl (rn_load1 rfl rfl Try.isAgg9 ((sl_at (hs.below hB10) hy165) 0 _ rfl)) fun a168 h168 => ?_; clear h167
    refine pw h168 rfl (op_new (v := fun N => .slice (some ⟨N, 0, none⟩) 1 1) (T := 9) (cs := #[.string y165.1]) (by kernel_rfl) (by kernel_rfl) (by kernel_rfl)) ?_; clear h168
    rintro _ w170 a169 ⟨N171, rfl, hN174, hz175, hk173, hg172⟩ h169
    have ha176 := row_fresh hf9 hN174
    have hz177 := hg172.size
    try dsimp only at h169
    have hr183 := row_kept_new hf9 hg172
    refine pw h169 rfl (op_append rfl w.heap.size 9 (z := .string (⟨#[]⟩)) (size := 1) (bytes := 16) Try.underlying87 (by kernel_rfl) rfl rfl rfl hr183 rfl hk173 rfl (by kernel_rfl) (by first | omega | (simp only [List.length_nil, List.length_append, List.length_cons, List.length_take, List.length_drop]; omega)) (by first | omega | (simp only [List.length_nil, List.length_append, List.length_cons, List.length_take, List.length_drop]; omega)) (by omega)) ?_; clear h169
    rintro v180 w179 a178 ⟨hr181, hg182⟩ h178
    have hr181' : w179.ownsRow w.heap.size 9 1 v180 (((l.take i).map (·.1) ++ [y165.1]).length) (((l.take i).map (·.1) ++ [y165.1]).flatMap strE) := row_push (y := y165.1) hr181 rfl rfl; clear hr181
    have hz184 := hg182.size
    refine pk0 (v := v180) h178 rfl fun a185 h185 => ?_; clear h178
    refine pl_nil ?_
    refine co_blockN ?_
    refine co_then ?_
    refine co_reg ?_
    refine pk0 (v := .int .i64 ((i : Nat) : Int)) h185 rfl fun a186 h186 => ?_; clear h185
    refine pk (v := .int .i64 ((i + 1 : Nat) : Int)) h186 rfl (rn_arith' rfl rfl rfl rfl rfl rfl (IntWalk.i64_in _ (by omega)) (by omega)) fun a187 h187 => ?_; clear h186
    refine pk0 (v := .int .i64 ((i + 1 : Nat) : Int)) h187 rfl fun a188 h188 => ?_; clear h187
    refine pl_nil ?_
    refine co_then ?_
    refine ⟨(l.length - (i + 1)), by omega, ?_⟩
    have hB189 := hb_new hB10 hg172
    have hB190 := hb_row hB189 hr183 (by omega) hg182
    exact ⟨i + 1, v180, h188.sub ⟨rfl, rfl, rfl, trivial⟩, rfl, by omega, (row_eq hr181' (by first | rfl | exact map_snoc (by assumption))), hB190⟩
def asPair (o : OpT) : ValT := (o.1, o.2.1)
def kept (ys : List OpT) : List ValT := (ys.filter fun o => !o.2.2).map asPair
end Go.Proofs.Ytaoibbakflacoaa

/- catenalaw34, pure: a scan, page by page. Conditions: none. -/
namespace Go.Proofs.Ytaoibbakflacoaa
open Go.RowKit Go.PlainAid
set_option linter.unusedVariables false
def inB (F T k : ByteArray) : Bool := !(Op.bytesLess (kB k) (kB F)) && ((kB T == []) || Op.bytesLess (kB k) (kB T))
def opP (o : OpT) : PrT := (o.1, o.2.1)
/-- What a list has between two texts. -/
def hitP (all : List OpT) (F T : ByteArray) : List PrT := (all.filter fun o => inB F T o.1).map opP
theorem le_lt {x y : List UInt8} (h : le x y = true) : ¬ y < x := fun hl => by
  have := le_not x y h
  rw [bl_lt] at this
  exact absurd hl (of_decide_eq_false this)
theorem nxK_list (k : ByteArray) : kB (nxK k) = nextL (kB k) := by simp [nxK, kB]
theorem ll_irr (x : List UInt8) : ¬ x < x := List.lt_irrefl x
theorem ll_trans {x y z : List UInt8} (h : x < y) (g : y < z) : x < z := List.lt_trans h g
theorem le_trans' {x y z : List UInt8} (h : ¬ y < x) (g : y < z) : x < z := by
  by_cases e : x < z
  · exact e
  · by_cases e2 : y < x
    · exact absurd e2 h
    · exact absurd (List.lt_of_le_of_lt (List.not_lt.1 h) g) e
/-- Behind the page's last one, from the text that comes next on: just what is left. -/
theorem hit_next {all : List OpT} (hs : all.Pairwise (fun a b => kB a.1 < kB b.1)) (hk : ∀ o ∈ all, (kB o.1).length ≤ 8) {F T : ByteArray} {A B : List PrT} {y : PrT} (h : hitP all F T = A ++ y :: B) :
    (kB (nxK y.1) = [] → B = []) ∧ (kB (nxK y.1) ≠ [] → hitP all (nxK y.1) T = B) := by
  unfold hitP at h
  obtain ⟨A', R', e1, eA, eR⟩ := List.map_eq_append_iff.1 h
  obtain ⟨y', B', e2, ey, eB⟩ := List.map_eq_cons_iff.1 eR
  subst e2
  have hy1 : y.1 = y'.1 := by rw [← ey]; rfl
  have hS : (A' ++ y' :: B').Pairwise (fun a b => kB a.1 < kB b.1) := by rw [← e1]; exact hs.filter _
  obtain ⟨-, hR, hA⟩ := List.pairwise_append.1 hS
  have hB := (List.pairwise_cons.1 hR).1
  have hmem : ∀ o ∈ A' ++ y' :: B', o ∈ all ∧ inB F T o.1 = true := fun o ho => by rw [← e1] at ho; exact List.mem_filter.1 ho
  have hAy : ∀ a ∈ A', kB a.1 < kB y'.1 := fun a ha => hA a ha y' (List.mem_cons_self ..)
  have hsp := nx_spec 8 (kB y'.1)
  have hnk : kB (nxK y.1) = (nx 8 (kB y'.1)).getD [] := by rw [nxK_list, hy1]; rfl
  have hyF : ¬ kB y'.1 < kB F := by
    have := (hmem y' (by simp)).2
    unfold inB at this
    rw [Bool.and_eq_true] at this
    have h1 := this.1
    rw [bl_lt] at h1
    simpa using h1
  cases hn : nx 8 (kB y'.1) with
  | none =>
    rw [hn] at hsp hnk
    have hb : B' = [] := by
      cases B' with
      | nil => rfl
      | cons b r =>
        have h1 := hB b (List.mem_cons_self ..)
        have h2 := hsp (kB b.1) (hk b (hmem b (by simp)).1)
        exact absurd h1 (le_lt h2)
    refine ⟨fun _ => by rw [← eB, hb]; rfl, fun hne => absurd (by rw [hnk]; rfl) hne⟩
  | some m =>
    rw [hn] at hsp hnk
    obtain ⟨m1, m2, m3, m4⟩ := hsp
    have hnk : kB (nxK y.1) = m := hnk
    rw [bl_lt] at m3
    have m3 : kB y'.1 < m := of_decide_eq_true m3
    refine ⟨fun he => (by rw [hnk] at he; rw [he] at m1; simp at m1), fun _ => ?_⟩
    have hin : ∀ o ∈ all, inB (nxK y.1) T o.1 = (inB F T o.1 && decide (kB y'.1 < kB o.1)) := fun o ho => by
      unfold inB
      rw [hnk, bl_lt, bl_lt, bl_lt]
      have h4 := m4 (kB o.1) (hk o ho)
      by_cases hlt : kB y'.1 < kB o.1
      · have h5 : ¬ kB o.1 < m := by
          rcases h4 with h4 | h4
          · exact absurd hlt (le_lt h4)
          · exact le_lt h4
        have h6 : ¬ kB o.1 < kB F := fun h7 => hyF (ll_trans hlt h7)
        simp [hlt, h5, h6]
      · have h5 : kB o.1 < m := le_trans' hlt m3
        simp [hlt, h5]
    have hf : all.filter (fun o => inB (nxK y.1) T o.1) = (all.filter (fun o => inB F T o.1)).filter (fun o => decide (kB y'.1 < kB o.1)) := by
      rw [List.filter_filter]
      exact List.filter_congr fun o ho => by rw [hin o ho, Bool.and_comm]
    unfold hitP
    rw [hf, e1, List.filter_append, List.filter_cons_of_neg (by simp [ll_irr])]
    have hA0 : A'.filter (fun o => decide (kB y'.1 < kB o.1)) = [] := List.filter_eq_nil_iff.2 fun a ha => by
      have := hAy a ha
      simp; intro h9; exact absurd (ll_trans this h9) (ll_irr _)
    have hB0 : B'.filter (fun o => decide (kB y'.1 < kB o.1)) = B' := List.filter_eq_self.2 fun b hb => decide_eq_true (hB b hb)
    rw [hA0, hB0, List.nil_append]; exact eB
/-- What a page makes of the scan. -/
def nxD (d : RdD) (pl : List PrT) : RdD := { d with prs := d.prs ++ pl.take (pgN d pl), key := nxK (lastK d pl) }
/-- How a scan stands. -/
structure PgI (all : List OpT) (F T : ByteArray) (n : Nat) (i : Nat) (dn : Bool) (d : RdD) : Prop where
  con : d.n = (n : Int) ∧ d.rq = 2 ∧ d.tm = 9 ∧ d.nd = 0 ∧ d.to_ = T
  live : dn = false → d.prs ++ hitP all d.key T = hitP all F T ∧ d.prs.length < n ∧ i ≤ d.prs.length
  fin : dn = true → d.prs = (hitP all F T).take n ∧ i ≤ d.prs.length + 1
theorem PgI.step {all : List OpT} {F T : ByteArray} {n i : Nat} {d : RdD} {fg : Bool} {pl : List PrT} (hs : all.Pairwise (fun a b => kB a.1 < kB b.1)) (hk : ∀ o ∈ all, (kB o.1).length ≤ 8) (h : PgI all F T n i false d) (hn : 1 ≤ n)
    (hp : pl = (hitP all d.key T).take (mnI 2 (d.n - (d.prs.length : Int))).toNat) (hf : fg = decide ((mnI 2 (d.n - (d.prs.length : Int))).toNat < (hitP all d.key T).length)) : PgI all F T n (i + 1) (!moreF d fg pl) (nxD d pl) := by
  obtain ⟨l1, l2, l3⟩ := h.live rfl
  obtain ⟨c1, c2⟩ := h.con
  obtain ⟨P, hP⟩ : ∃ P, P = hitP all d.key T := ⟨_, rfl⟩
  obtain ⟨N, hN⟩ : ∃ N, N = (mnI 2 (d.n - (d.prs.length : Int))).toNat := ⟨_, rfl⟩
  have hm := mnI_p 2 (d.n - (d.prs.length : Int))
  have hN1 : 1 ≤ N ∧ N ≤ n - d.prs.length ∧ (N : Int) = mnI 2 (d.n - (d.prs.length : Int)) := by omega
  rw [← hP] at l1 hp hf
  rw [← hN] at hp hf
  have hpl : pl.length = min N P.length := by rw [hp, List.length_take]
  have hpg : pgN d pl = pl.length := by
    unfold pgN
    have := mnI_p (pl.length : Int) (mnI 2 (d.n - (d.prs.length : Int)))
    omega
  have htk : pl.take (pgN d pl) = pl := by rw [hpg, List.take_length]
  have hprs : (nxD d pl).prs = d.prs ++ pl := by show d.prs ++ pl.take (pgN d pl) = _; rw [htk]
  refine ⟨⟨c1, c2⟩, fun hd => ?_, fun hd => ?_⟩
  · have hmo : moreF d fg pl = true := by simpa using hd
    obtain ⟨q1, q2, q3, q4⟩ := more_y hmo
    rw [htk] at q2 q3
    rw [List.length_append] at q3
    have hne : ¬ pl = [] := fun e => by rw [e] at q2; simp at q2
    obtain ⟨A, y, hy⟩ : ∃ A y, pl = A ++ [y] := ⟨_, _, (List.dropLast_concat_getLast hne).symm⟩
    have hlast : lastK d pl = y.1 := by
      unfold lastK; rw [htk, hy]; simp
    have hcat : P = A ++ y :: P.drop N := by
      have := (List.take_append_drop N P).symm
      rw [← hp, hy, List.append_assoc] at this; exact this
    obtain ⟨n1, n2⟩ := hit_next hs hk (F := d.key) (T := T) (A := A) (B := P.drop N) (y := y) (by rw [← hP]; exact hcat)
    have hnn : kB (nxK y.1) ≠ [] := fun e => by
      rw [hlast, Go.ByteArray.toList_eq, Go.ByteArray.toList_eq] at q4
      have e : (nxK y.1).data.toList = [] := e
      rw [e] at q4; simp at q4
    refine ⟨?_, by rw [hprs, List.length_append]; omega, by rw [hprs, List.length_append]; omega⟩
    show (nxD d pl).prs ++ hitP all (nxK (lastK d pl)) T = _
    rw [hprs, hlast, n2 hnn, List.append_assoc, hp, List.take_append_drop, l1]
  · have hmo : moreF d fg pl = false := by simpa using hd
    refine ⟨?_, by rw [hprs, List.length_append]; omega⟩
    rw [hprs, ← l1]
    by_cases hfg : N < P.length
    · have hfg1 : fg = true := by rw [hf]; exact decide_eq_true hfg
      have hpN : pl.length = N := by omega
      by_cases h3 : (d.prs ++ pl).length < n
      · exfalso
        have hne : ¬ pl = [] := fun e => by rw [e] at hpN; simp at hpN; omega
        obtain ⟨A, y, hy⟩ : ∃ A y, pl = A ++ [y] := ⟨_, _, (List.dropLast_concat_getLast hne).symm⟩
        have hlast : lastK d pl = y.1 := by
          unfold lastK; rw [htk, hy]; simp
        have hcat : P = A ++ y :: P.drop N := by
          have := (List.take_append_drop N P).symm
          rw [← hp, hy, List.append_assoc] at this; exact this
        obtain ⟨n1, n2⟩ := hit_next hs hk (F := d.key) (T := T) (A := A) (B := P.drop N) (y := y) (by rw [← hP]; exact hcat)
        by_cases hk0 : kB (nxK y.1) = []
        · have := n1 hk0
          have h9 : (P.drop N).length = 0 := by rw [this]; rfl
          rw [List.length_drop] at h9; omega
        · refine more_n hmo hfg1 (by rw [htk]; omega) (by rw [htk]; omega) ?_
          rw [hlast, Go.ByteArray.toList_eq, Go.ByteArray.toList_eq]
          exact beq_eq_false_iff_ne.2 hk0
      · rw [List.length_append] at h3
        have e1 : n = d.prs.length + N := by omega
        rw [e1, List.take_length_add_append, hp]
    · have hpP : pl = P := by rw [hp]; exact List.take_of_length_le (by omega)
      rw [hpP]
      exact (List.take_of_length_le (by rw [List.length_append]; omega)).symm
theorem hit_snoc (all : List OpT) (o : OpT) (F T : ByteArray) : hitP (all ++ [o]) F T = hitP all F T ++ (if inB F T o.1 = true then [opP o] else []) := by
  unfold hitP
  rw [List.filter_append, List.map_append]
  congr 1
  by_cases h : inB F T o.1 = true
  · rw [if_pos h]; simp [h]
  · rw [if_neg h]; simp [h]
theorem hit_at {all : List OpT} {k : Nat} {o : OpT} (h : all[k]? = some o) (F T : ByteArray) : hitP (all.take (k + 1)) F T = hitP (all.take k) F T ++ (if inB F T o.1 = true then [opP o] else []) := by
  rw [List.take_add_one, h]; exact hit_snoc _ _ _ _
theorem hit_cut (all : List OpT) (k : Nat) (F T : ByteArray) : hitP all F T = hitP (all.take k) F T ++ hitP (all.drop k) F T := by
  have e := List.take_append_drop k all
  unfold hitP
  conv => lhs; rw [← e]
  rw [List.filter_append, List.map_append]
end Go.Proofs.Ytaoibbakflacoaa

/- Objects with a footprint: what holds of them depends on the blocks in S alone; a call turns S, and what it makes joins it. Conditions: none. -/
namespace Go.Proofs.Ytaoibbakflacoaa
open Go.RowKit Go.PlainAid
set_option linter.unusedVariables false

/-- S' holds what S held, and what was made since; nothing but S was turned. -/
structure Grew (S S' : Nat → Prop) (w x : World) : Prop where
  sub : ∀ q, S' q → S q ∨ w.heap.size ≤ q
  but : But S w x
section
variable {S S' D : Nat → Prop} {n N : Nat} {w x : World} {v u : Value} {T e : TypeId} {cs : Array Value} {B sz k : Nat} {xs : List Value}
theorem hbL {w0 : World} (h : Below w0.heap.size w0 w) (hlo : ∀ q, S q → w0.heap.size ≤ q) (hb : But S w x) : Below w0.heap.size w0 x := below_but h hb h.size (fun i _ h => hlo i h)
theorem Grew.lo {n0 : Nat} (h : Grew S S' w x) (hlo : ∀ q, S q → n0 ≤ q) (hn : n0 ≤ w.heap.size) : ∀ q, S' q → n0 ≤ q := fun q hq => by
  rcases h.sub q hq with k | k
  · exact hlo q k
  · omega
theorem Grew.off (h : Grew S S' w x) (hN : ¬ S N) (hl : N < w.heap.size) : ¬ S' N := fun hq => by
  rcases h.sub N hq with k | k
  · exact hN k
  · omega
theorem Grew.offR (h : Grew S S' w x) (hr : w.ownsRow B e sz v k xs) (hv : ∀ i, v.ownBlock = some i → ¬ S i) : ∀ i, v.ownBlock = some i → ¬ S' i := fun i hi => h.off (hv i hi) (hr.lt i hi).2
theorem off_new (hS : ∀ q, S q → q < w.heap.size) (hN : N = w.heap.size) : ¬ S N := fun h => by have := hS N h; omega
theorem offR_lo (hlo : ∀ q, S q → n ≤ q) (hu : ∀ i, v.ownBlock = some i → i < n) : ∀ i, v.ownBlock = some i → ¬ S i := fun i hi hq => by have := hlo i hq; have := hu i hi; omega
theorem offR_went (h : ∀ i, v.ownBlock = some i → ¬ S i) (hS : ∀ q, S q → q < w.heap.size) (hw : Went w v u) : ∀ i, u.ownBlock = some i → ¬ S i := fun i hi hq => by
  rcases hw with e | e
  · exact h i (e ▸ hi) hq
  · have := e i hi; have := hS i hq; omega
theorem offR_nil : ∀ i, (Value.slice none 0 0).ownBlock = some i → ¬ S i := fun i hi => by simp [Value.ownBlock] at hi
theorem row_sameL (h : w.ownsRow B e sz v k xs) (hk : ∀ i, v.ownBlock = some i → x.heap[i]? = w.heap[i]?) : x.ownsRow B e sz v k xs := by
  refine ⟨h.1, ?_⟩
  rcases h.2 with h1 | ⟨g, c, cur, rfl, hg, hh, h3⟩
  · exact .inl h1
  · exact .inr ⟨g, c, cur, rfl, hg, by rw [hk g rfl]; exact hh, h3⟩
theorem own_butS (h : w.ownsRow B e sz v k xs) (hb : But S w x) (hn : ∀ i, v.ownBlock = some i → ¬ S i) : x.ownsRow B e sz v k xs :=
  row_sameL h fun i hi => hb.block i (h.lt i hi).2 (hn i hi)
end
end Go.Proofs.Ytaoibbakflacoaa
