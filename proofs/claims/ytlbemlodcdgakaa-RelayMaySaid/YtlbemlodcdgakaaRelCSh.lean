/- Package relay: the options' closures. Conditions: up to 100 operations an entry. -/
import Derived.Test.YtlbemlodcdgakaaRelBSh
import Derived.Test.YtlbemlodcdgakaaFootSh
namespace Go.Proofs.Ytlbemlodcdgakaa
open Go.RowKit Go.PlainAid
set_option linter.unusedVariables false
set_option linter.unusedSimpArgs false

set_option maxRecDepth 100000 in
theorem numbersR_any (B : Nat) (N0 : Nat) (N1 : Nat) (N2 : Nat) (N3 : Nat) (k : Int) (ep : Int) (n : Int) (m : Int) (p : Int) (w : World) (hB : Blk w B 74 #[.int .i64 k, .int .i64 0, .int .i64 0, .int .i64 0, .bool false, .int .u64 0, .int .u64 0, .int .i64 0, .int .i64 0, .int .i64 0, .int .i64 0, .string (⟨#[]⟩), .string (⟨#[]⟩), .int .i64 0, .slice none 0 0, .int .u64 0, .int .i64 0, .int .i64 0, .slice none 0 0, .slice none 0 0, .slice none 0 0, .slice none 0 0]) (hN0 : Blk w N0 3 #[.int .i64 ep]) (hN1 : Blk w N1 3 #[.int .i64 n]) (hN2 : Blk w N2 3 #[.int .i64 m]) (hN3 : Blk w N3 3 #[.int .i64 p]) (hlt : N0 < B ∧ N1 < B ∧ N2 < B ∧ N3 < B) :
    Calls Try.prog 118 #[pt B 0, pt N0 0, pt N1 0, pt N2 0, pt N3 0] w fun e w' => e = .returned (.tuple #[]) ∧ Blk w' B 74 #[.int .i64 k, .int .i64 (mxI ep 0), .int .i64 0, .int .i64 0, .bool false, .int .u64 0, .int .u64 0, .int .i64 (mxI n 0), .int .i64 (mxI m 0), .int .i64 (mxI p 0), .int .i64 0, .string (⟨#[]⟩), .string (⟨#[]⟩), .int .i64 0, .slice none 0 0, .int .u64 0, .int .i64 0, .int .i64 0, .slice none 0 0, .slice none 0 0, .slice none 0 0, .slice none 0 0] ∧ But (fun q => q = B) w w' := by
 have hB0 := But.refl (fun q => q = B) w
 have hl_hB := hB.lt
 have hl_hN0 := hN0.lt
 have hl_hN1 := hN1.lt
 have hl_hN2 := hN2.lt
 have hl_hN3 := hN3.lt
 refine co_enter (n := 26) Try.func118 rfl rfl rfl [(0, pt B 0), (1, pt N0 0), (2, pt N1 0), (3, pt N2 0), (4, pt N3 0)] rfl (fun a h0 => ?_)
 refine dr_gen (fun x => But (fun q => q = B) w x ∧ Blk x N0 3 #[.int .i64 ep] ∧ Blk x N1 3 #[.int .i64 n] ∧ Blk x N2 3 #[.int .i64 m] ∧ Blk x N3 3 #[.int .i64 p]) (by kernel_rfl) (fun w1 hg2 => ?_) (fun w1 hg2 => ?_)
 ·
  have hz3 := hg2.size
  have hB4 := fb_new hB0 hg2
  have hk5 := hN0.kept hg2 (by simp)
  have hk6 := hN1.kept hg2 (by simp)
  have hk7 := hN2.kept hg2 (by simp)
  have hk8 := hN3.kept hg2 (by simp)
  exact ⟨hB4, hk5, hk6, hk7, hk8⟩
 have hz9 := hg2.size
 have hB10 := fb_new hB0 hg2
 have hk11 := hN0.kept hg2 (by simp)
 have hk12 := hN1.kept hg2 (by simp)
 have hk13 := hN2.kept hg2 (by simp)
 have hk14 := hN3.kept hg2 (by simp)
 refine dk0 0 (v := pt B 0) h0 rfl rfl ⟨hB10, hk11, hk12, hk13, hk14⟩ fun a15 h15 => ?_; clear h0
 refine dk0 1 (v := pt B 0) h15 rfl rfl ⟨hB10, hk11, hk12, hk13, hk14⟩ fun a16 h16 => ?_; clear h15
 refine dk0 2 (v := pt B 0) h16 rfl rfl ⟨hB10, hk11, hk12, hk13, hk14⟩ fun a17 h17 => ?_; clear h16
 refine dk0 3 (v := pt B 0) h17 rfl rfl ⟨hB10, hk11, hk12, hk13, hk14⟩ fun a18 h18 => ?_; clear h17
 refine dk 4 (v := .int .i64 ep) h18 rfl rfl ⟨hB10, hk11, hk12, hk13, hk14⟩ (fun x hx => (rn_load1 rfl rfl Try.isAgg3 (hx.2.1.cell rfl))) fun a19 h19 => ?_; clear h18
 have hmm20 := mxI_p ep 0
 refine dk0 5 (v := .int .i64 (mxI ep 0)) h19 rfl rfl ⟨hB10, hk11, hk12, hk13, hk14⟩ fun a21 h21 => ?_; clear h19
 refine dk 6 (v := .int .i64 n) h21 rfl rfl ⟨hB10, hk11, hk12, hk13, hk14⟩ (fun x hx => (rn_load1 rfl rfl Try.isAgg3 (hx.2.2.1.cell rfl))) fun a22 h22 => ?_; clear h21
 have hmm23 := mxI_p n 0
 refine dk0 7 (v := .int .i64 (mxI n 0)) h22 rfl rfl ⟨hB10, hk11, hk12, hk13, hk14⟩ fun a24 h24 => ?_; clear h22
 refine dk 8 (v := .int .i64 m) h24 rfl rfl ⟨hB10, hk11, hk12, hk13, hk14⟩ (fun x hx => (rn_load1 rfl rfl Try.isAgg3 (hx.2.2.2.1.cell rfl))) fun a25 h25 => ?_; clear h24
 have hmm26 := mxI_p m 0
 refine dk0 9 (v := .int .i64 (mxI m 0)) h25 rfl rfl ⟨hB10, hk11, hk12, hk13, hk14⟩ fun a27 h27 => ?_; clear h25
 refine dk 10 (v := .int .i64 p) h27 rfl rfl ⟨hB10, hk11, hk12, hk13, hk14⟩ (fun x hx => (rn_load1 rfl rfl Try.isAgg3 (hx.2.2.2.2.cell rfl))) fun a28 h28 => ?_; clear h27
 have hmm29 := mxI_p p 0
 refine dk0 11 (v := .int .i64 (mxI p 0)) h28 rfl rfl ⟨hB10, hk11, hk12, hk13, hk14⟩ fun a30 h30 => ?_; clear h28
 refine dk0 12 (v := pt B 0) h30 rfl rfl ⟨hB10, hk11, hk12, hk13, hk14⟩ fun a31 h31 => ?_; clear h30
 refine dk0 13 (v := pt B 1) h31 rfl rfl ⟨hB10, hk11, hk12, hk13, hk14⟩ fun a32 h32 => ?_; clear h31
 have hk38 := hB.kept hg2 (by simp)
 refine d1D 14 h32 rfl rfl (op_store1 rfl rfl rfl rfl Try.sizeOf3 hk38 rfl) ?_ ?_; clear h32
 ·
  rintro _ w34 ⟨hk35, hz36, hg37⟩
  have hk35' : Blk w34 B 74 #[.int .i64 k, .int .i64 (mxI ep 0), .int .i64 0, .int .i64 0, .bool false, .int .u64 0, .int .u64 0, .int .i64 0, .int .i64 0, .int .i64 0, .int .i64 0, .string (⟨#[]⟩), .string (⟨#[]⟩), .int .i64 0, .slice none 0 0, .int .u64 0, .int .i64 0, .int .i64 0, .slice none 0 0, .slice none 0 0, .slice none 0 0, .slice none 0 0] := hk35; clear hk35
  have hz39 := hg37.size
  have hB40 := fb_at hB10 hg37 (fun hlt => by first | (exfalso; omega) | (simp; done) | simp_all)
  have hk41 := hk11.kept hg37 (by simp; omega)
  have hk42 := hk12.kept hg37 (by simp; omega)
  have hk43 := hk13.kept hg37 (by simp; omega)
  have hk44 := hk14.kept hg37 (by simp; omega)
  exact ⟨hB40, hk41, hk42, hk43, hk44⟩
 rintro _ w34 a33 ⟨hk35, hz36, hg37⟩ h33
 have hk35' : Blk w34 B 74 #[.int .i64 k, .int .i64 (mxI ep 0), .int .i64 0, .int .i64 0, .bool false, .int .u64 0, .int .u64 0, .int .i64 0, .int .i64 0, .int .i64 0, .int .i64 0, .string (⟨#[]⟩), .string (⟨#[]⟩), .int .i64 0, .slice none 0 0, .int .u64 0, .int .i64 0, .int .i64 0, .slice none 0 0, .slice none 0 0, .slice none 0 0, .slice none 0 0] := hk35; clear hk35
 have hz39 := hg37.size
 have hB40 := fb_at hB10 hg37 (fun hlt => by first | (exfalso; omega) | (simp; done) | simp_all)
 have hk41 := hk11.kept hg37 (by simp; omega)
 have hk42 := hk12.kept hg37 (by simp; omega)
 have hk43 := hk13.kept hg37 (by simp; omega)
 have hk44 := hk14.kept hg37 (by simp; omega)
 refine dk0 15 (v := pt B 0) h33 rfl rfl ⟨hB40, hk41, hk42, hk43, hk44⟩ fun a45 h45 => ?_; clear h33
 refine dk0 16 (v := pt B 7) h45 rfl rfl ⟨hB40, hk41, hk42, hk43, hk44⟩ fun a46 h46 => ?_; clear h45
 refine d1D 17 h46 rfl rfl (op_store1 rfl rfl rfl rfl Try.sizeOf3 hk35' rfl) ?_ ?_; clear h46
 ·
  rintro _ w48 ⟨hk49, hz50, hg51⟩
  have hk49' : Blk w48 B 74 #[.int .i64 k, .int .i64 (mxI ep 0), .int .i64 0, .int .i64 0, .bool false, .int .u64 0, .int .u64 0, .int .i64 (mxI n 0), .int .i64 0, .int .i64 0, .int .i64 0, .string (⟨#[]⟩), .string (⟨#[]⟩), .int .i64 0, .slice none 0 0, .int .u64 0, .int .i64 0, .int .i64 0, .slice none 0 0, .slice none 0 0, .slice none 0 0, .slice none 0 0] := hk49; clear hk49
  have hz52 := hg51.size
  have hB53 := fb_at hB40 hg51 (fun hlt => by first | (exfalso; omega) | (simp; done) | simp_all)
  have hk54 := hk41.kept hg51 (by simp; omega)
  have hk55 := hk42.kept hg51 (by simp; omega)
  have hk56 := hk43.kept hg51 (by simp; omega)
  have hk57 := hk44.kept hg51 (by simp; omega)
  exact ⟨hB53, hk54, hk55, hk56, hk57⟩
 rintro _ w48 a47 ⟨hk49, hz50, hg51⟩ h47
 have hk49' : Blk w48 B 74 #[.int .i64 k, .int .i64 (mxI ep 0), .int .i64 0, .int .i64 0, .bool false, .int .u64 0, .int .u64 0, .int .i64 (mxI n 0), .int .i64 0, .int .i64 0, .int .i64 0, .string (⟨#[]⟩), .string (⟨#[]⟩), .int .i64 0, .slice none 0 0, .int .u64 0, .int .i64 0, .int .i64 0, .slice none 0 0, .slice none 0 0, .slice none 0 0, .slice none 0 0] := hk49; clear hk49
 have hz52 := hg51.size
 have hB53 := fb_at hB40 hg51 (fun hlt => by first | (exfalso; omega) | (simp; done) | simp_all)
 have hk54 := hk41.kept hg51 (by simp; omega)
 have hk55 := hk42.kept hg51 (by simp; omega)
 have hk56 := hk43.kept hg51 (by simp; omega)
 have hk57 := hk44.kept hg51 (by simp; omega)
 refine dk0 18 (v := pt B 0) h47 rfl rfl ⟨hB53, hk54, hk55, hk56, hk57⟩ fun a58 h58 => ?_; clear h47
 refine dk0 19 (v := pt B 8) h58 rfl rfl ⟨hB53, hk54, hk55, hk56, hk57⟩ fun a59 h59 => ?_; clear h58
 refine d1D 20 h59 rfl rfl (op_store1 rfl rfl rfl rfl Try.sizeOf3 hk49' rfl) ?_ ?_; clear h59
 ·
  rintro _ w61 ⟨hk62, hz63, hg64⟩
  have hk62' : Blk w61 B 74 #[.int .i64 k, .int .i64 (mxI ep 0), .int .i64 0, .int .i64 0, .bool false, .int .u64 0, .int .u64 0, .int .i64 (mxI n 0), .int .i64 (mxI m 0), .int .i64 0, .int .i64 0, .string (⟨#[]⟩), .string (⟨#[]⟩), .int .i64 0, .slice none 0 0, .int .u64 0, .int .i64 0, .int .i64 0, .slice none 0 0, .slice none 0 0, .slice none 0 0, .slice none 0 0] := hk62; clear hk62
  have hz65 := hg64.size
  have hB66 := fb_at hB53 hg64 (fun hlt => by first | (exfalso; omega) | (simp; done) | simp_all)
  have hk67 := hk54.kept hg64 (by simp; omega)
  have hk68 := hk55.kept hg64 (by simp; omega)
  have hk69 := hk56.kept hg64 (by simp; omega)
  have hk70 := hk57.kept hg64 (by simp; omega)
  exact ⟨hB66, hk67, hk68, hk69, hk70⟩
 rintro _ w61 a60 ⟨hk62, hz63, hg64⟩ h60
 have hk62' : Blk w61 B 74 #[.int .i64 k, .int .i64 (mxI ep 0), .int .i64 0, .int .i64 0, .bool false, .int .u64 0, .int .u64 0, .int .i64 (mxI n 0), .int .i64 (mxI m 0), .int .i64 0, .int .i64 0, .string (⟨#[]⟩), .string (⟨#[]⟩), .int .i64 0, .slice none 0 0, .int .u64 0, .int .i64 0, .int .i64 0, .slice none 0 0, .slice none 0 0, .slice none 0 0, .slice none 0 0] := hk62; clear hk62
 have hz65 := hg64.size
 have hB66 := fb_at hB53 hg64 (fun hlt => by first | (exfalso; omega) | (simp; done) | simp_all)
 have hk67 := hk54.kept hg64 (by simp; omega)
 have hk68 := hk55.kept hg64 (by simp; omega)
 have hk69 := hk56.kept hg64 (by simp; omega)
 have hk70 := hk57.kept hg64 (by simp; omega)
 refine dk0 21 (v := pt B 0) h60 rfl rfl ⟨hB66, hk67, hk68, hk69, hk70⟩ fun a71 h71 => ?_; clear h60
 refine dk0 22 (v := pt B 9) h71 rfl rfl ⟨hB66, hk67, hk68, hk69, hk70⟩ fun a72 h72 => ?_; clear h71
 refine d1D 23 h72 rfl rfl (op_store1 rfl rfl rfl rfl Try.sizeOf3 hk62' rfl) ?_ ?_; clear h72
 ·
  rintro _ w74 ⟨hk75, hz76, hg77⟩
  have hk75' : Blk w74 B 74 #[.int .i64 k, .int .i64 (mxI ep 0), .int .i64 0, .int .i64 0, .bool false, .int .u64 0, .int .u64 0, .int .i64 (mxI n 0), .int .i64 (mxI m 0), .int .i64 (mxI p 0), .int .i64 0, .string (⟨#[]⟩), .string (⟨#[]⟩), .int .i64 0, .slice none 0 0, .int .u64 0, .int .i64 0, .int .i64 0, .slice none 0 0, .slice none 0 0, .slice none 0 0, .slice none 0 0] := hk75; clear hk75
  have hz78 := hg77.size
  have hB79 := fb_at hB66 hg77 (fun hlt => by first | (exfalso; omega) | (simp; done) | simp_all)
  have hk80 := hk67.kept hg77 (by simp; omega)
  have hk81 := hk68.kept hg77 (by simp; omega)
  have hk82 := hk69.kept hg77 (by simp; omega)
  have hk83 := hk70.kept hg77 (by simp; omega)
  exact ⟨hB79, hk80, hk81, hk82, hk83⟩
 rintro _ w74 a73 ⟨hk75, hz76, hg77⟩ h73
 have hk75' : Blk w74 B 74 #[.int .i64 k, .int .i64 (mxI ep 0), .int .i64 0, .int .i64 0, .bool false, .int .u64 0, .int .u64 0, .int .i64 (mxI n 0), .int .i64 (mxI m 0), .int .i64 (mxI p 0), .int .i64 0, .string (⟨#[]⟩), .string (⟨#[]⟩), .int .i64 0, .slice none 0 0, .int .u64 0, .int .i64 0, .int .i64 0, .slice none 0 0, .slice none 0 0, .slice none 0 0, .slice none 0 0] := hk75; clear hk75
 have hz78 := hg77.size
 refine dr_done (by kernel_rfl) ?_
 refine co_ret0n h73 rfl ?_
 have hB79 := fb_at hB66 hg77 (fun hlt => by first | (exfalso; omega) | (simp; done) | simp_all)
 exact ⟨rfl, hk75', hB79⟩
set_option maxRecDepth 100000 in
theorem standR_any (B : Nat) (N0 : Nat) (N1 : Nat) (k : Int) (ep : Int) (n : Int) (m : Int) (p : Int) (sb : Int) (hz : Int) (w : World) (hB : Blk w B 74 #[.int .i64 k, .int .i64 (mxI ep 0), .int .i64 0, .int .i64 0, .bool false, .int .u64 0, .int .u64 0, .int .i64 (mxI n 0), .int .i64 (mxI m 0), .int .i64 (mxI p 0), .int .i64 0, .string (⟨#[]⟩), .string (⟨#[]⟩), .int .i64 0, .slice none 0 0, .int .u64 0, .int .i64 0, .int .i64 0, .slice none 0 0, .slice none 0 0, .slice none 0 0, .slice none 0 0]) (hN0 : Blk w N0 3 #[.int .i64 sb]) (hN1 : Blk w N1 29 #[.int .u64 hz]) (hlt : N0 < B ∧ N1 < B) :
    Calls Try.prog 119 #[pt B 0, pt N0 0, pt N1 0] w fun e w' => e = .returned (.tuple #[]) ∧ Blk w' B 74 #[.int .i64 k, .int .i64 (mxI ep 0), .int .i64 (mxI sb 0), .int .i64 0, .bool false, .int .u64 hz, .int .u64 0, .int .i64 (mxI n 0), .int .i64 (mxI m 0), .int .i64 (mxI p 0), .int .i64 0, .string (⟨#[]⟩), .string (⟨#[]⟩), .int .i64 0, .slice none 0 0, .int .u64 0, .int .i64 0, .int .i64 0, .slice none 0 0, .slice none 0 0, .slice none 0 0, .slice none 0 0] ∧ But (fun q => q = B) w w' := by
 have hB0 := But.refl (fun q => q = B) w
 have hl_hB := hB.lt
 have hl_hN0 := hN0.lt
 have hl_hN1 := hN1.lt
 refine co_enter (n := 13) Try.func119 rfl rfl rfl [(0, pt B 0), (1, pt N0 0), (2, pt N1 0)] rfl (fun a h0 => ?_)
 refine dr_gen (fun x => But (fun q => q = B) w x ∧ Blk x N0 3 #[.int .i64 sb] ∧ Blk x N1 29 #[.int .u64 hz]) (by kernel_rfl) (fun w1 hg2 => ?_) (fun w1 hg2 => ?_)
 ·
  have hz3 := hg2.size
  have hB4 := fb_new hB0 hg2
  have hk5 := hN0.kept hg2 (by simp)
  have hk6 := hN1.kept hg2 (by simp)
  exact ⟨hB4, hk5, hk6⟩
 have hz7 := hg2.size
 have hB8 := fb_new hB0 hg2
 have hk9 := hN0.kept hg2 (by simp)
 have hk10 := hN1.kept hg2 (by simp)
 refine dk0 0 (v := pt B 0) h0 rfl rfl ⟨hB8, hk9, hk10⟩ fun a11 h11 => ?_; clear h0
 refine dk0 1 (v := pt B 0) h11 rfl rfl ⟨hB8, hk9, hk10⟩ fun a12 h12 => ?_; clear h11
 refine dk 2 (v := .int .i64 sb) h12 rfl rfl ⟨hB8, hk9, hk10⟩ (fun x hx => (rn_load1 rfl rfl Try.isAgg3 (hx.2.1.cell rfl))) fun a13 h13 => ?_; clear h12
 have hmm14 := mxI_p sb 0
 refine dk0 3 (v := .int .i64 (mxI sb 0)) h13 rfl rfl ⟨hB8, hk9, hk10⟩ fun a15 h15 => ?_; clear h13
 refine dk 4 (v := .int .u64 hz) h15 rfl rfl ⟨hB8, hk9, hk10⟩ (fun x hx => (rn_load1 rfl rfl Try.isAgg29 (hx.2.2.cell rfl))) fun a16 h16 => ?_; clear h15
 refine dk0 5 (v := pt B 0) h16 rfl rfl ⟨hB8, hk9, hk10⟩ fun a17 h17 => ?_; clear h16
 refine dk0 6 (v := pt B 2) h17 rfl rfl ⟨hB8, hk9, hk10⟩ fun a18 h18 => ?_; clear h17
 have hk24 := hB.kept hg2 (by simp)
 refine d1D 7 h18 rfl rfl (op_store1 rfl rfl rfl rfl Try.sizeOf3 hk24 rfl) ?_ ?_; clear h18
 ·
  rintro _ w20 ⟨hk21, hz22, hg23⟩
  have hk21' : Blk w20 B 74 #[.int .i64 k, .int .i64 (mxI ep 0), .int .i64 (mxI sb 0), .int .i64 0, .bool false, .int .u64 0, .int .u64 0, .int .i64 (mxI n 0), .int .i64 (mxI m 0), .int .i64 (mxI p 0), .int .i64 0, .string (⟨#[]⟩), .string (⟨#[]⟩), .int .i64 0, .slice none 0 0, .int .u64 0, .int .i64 0, .int .i64 0, .slice none 0 0, .slice none 0 0, .slice none 0 0, .slice none 0 0] := hk21; clear hk21
  have hz25 := hg23.size
  have hB26 := fb_at hB8 hg23 (fun hlt => by first | (exfalso; omega) | (simp; done) | simp_all)
  have hk27 := hk9.kept hg23 (by simp; omega)
  have hk28 := hk10.kept hg23 (by simp; omega)
  exact ⟨hB26, hk27, hk28⟩
 rintro _ w20 a19 ⟨hk21, hz22, hg23⟩ h19
 have hk21' : Blk w20 B 74 #[.int .i64 k, .int .i64 (mxI ep 0), .int .i64 (mxI sb 0), .int .i64 0, .bool false, .int .u64 0, .int .u64 0, .int .i64 (mxI n 0), .int .i64 (mxI m 0), .int .i64 (mxI p 0), .int .i64 0, .string (⟨#[]⟩), .string (⟨#[]⟩), .int .i64 0, .slice none 0 0, .int .u64 0, .int .i64 0, .int .i64 0, .slice none 0 0, .slice none 0 0, .slice none 0 0, .slice none 0 0] := hk21; clear hk21
 have hz25 := hg23.size
 have hB26 := fb_at hB8 hg23 (fun hlt => by first | (exfalso; omega) | (simp; done) | simp_all)
 have hk27 := hk9.kept hg23 (by simp; omega)
 have hk28 := hk10.kept hg23 (by simp; omega)
 refine dk0 8 (v := pt B 0) h19 rfl rfl ⟨hB26, hk27, hk28⟩ fun a29 h29 => ?_; clear h19
 refine dk0 9 (v := pt B 5) h29 rfl rfl ⟨hB26, hk27, hk28⟩ fun a30 h30 => ?_; clear h29
 refine d1D 10 h30 rfl rfl (op_store1 rfl rfl rfl rfl Try.sizeOf29 hk21' rfl) ?_ ?_; clear h30
 ·
  rintro _ w32 ⟨hk33, hz34, hg35⟩
  have hk33' : Blk w32 B 74 #[.int .i64 k, .int .i64 (mxI ep 0), .int .i64 (mxI sb 0), .int .i64 0, .bool false, .int .u64 hz, .int .u64 0, .int .i64 (mxI n 0), .int .i64 (mxI m 0), .int .i64 (mxI p 0), .int .i64 0, .string (⟨#[]⟩), .string (⟨#[]⟩), .int .i64 0, .slice none 0 0, .int .u64 0, .int .i64 0, .int .i64 0, .slice none 0 0, .slice none 0 0, .slice none 0 0, .slice none 0 0] := hk33; clear hk33
  have hz36 := hg35.size
  have hB37 := fb_at hB26 hg35 (fun hlt => by first | (exfalso; omega) | (simp; done) | simp_all)
  have hk38 := hk27.kept hg35 (by simp; omega)
  have hk39 := hk28.kept hg35 (by simp; omega)
  exact ⟨hB37, hk38, hk39⟩
 rintro _ w32 a31 ⟨hk33, hz34, hg35⟩ h31
 have hk33' : Blk w32 B 74 #[.int .i64 k, .int .i64 (mxI ep 0), .int .i64 (mxI sb 0), .int .i64 0, .bool false, .int .u64 hz, .int .u64 0, .int .i64 (mxI n 0), .int .i64 (mxI m 0), .int .i64 (mxI p 0), .int .i64 0, .string (⟨#[]⟩), .string (⟨#[]⟩), .int .i64 0, .slice none 0 0, .int .u64 0, .int .i64 0, .int .i64 0, .slice none 0 0, .slice none 0 0, .slice none 0 0, .slice none 0 0] := hk33; clear hk33
 have hz36 := hg35.size
 refine dr_done (by kernel_rfl) ?_
 refine co_ret0n h31 rfl ?_
 have hB37 := fb_at hB26 hg35 (fun hlt => by first | (exfalso; omega) | (simp; done) | simp_all)
 exact ⟨rfl, hk33', hB37⟩
set_option maxRecDepth 100000 in
theorem entriesR_any (B : Nat) (N0 : Nat) (k : Int) (ep : Int) (n : Int) (m : Int) (p : Int) (sb : Int) (hz : Int) (v : Value) (l : List EntT) (w : World) (hB : Blk w B 74 #[.int .i64 k, .int .i64 (mxI ep 0), .int .i64 (mxI sb 0), .int .i64 0, .bool false, .int .u64 hz, .int .u64 0, .int .i64 (mxI n 0), .int .i64 (mxI m 0), .int .i64 (mxI p 0), .int .i64 0, .string (⟨#[]⟩), .string (⟨#[]⟩), .int .i64 0, .slice none 0 0, .int .u64 0, .int .i64 0, .int .i64 0, .slice none 0 0, .slice none 0 0, .slice none 0 0, .slice none 0 0]) (hN0 : Blk w N0 69 #[v]) (hlt : N0 < B) (hs : SliceOf entE 4 w v l) (hok : ∀ z ∈ l, EntOk w z) (hl20 : ∀ z ∈ l, z.opl.length ≤ 100) :
    Calls Try.prog 120 #[pt B 0, pt N0 0] w fun e w' => ∃ (L2 : List EntT) (u : Value), e = .returned (.tuple #[]) ∧ w'.ownsRow w.heap.size 38 4 u L2.length (L2.flatMap entE) ∧ EntsH (fun _ => False) w.heap.size w' L2 ∧ L2.map e0 = (l.take (mnI (l.length : Int) 4).toNat).map e0 ∧ Blk w' B 74 #[.int .i64 k, .int .i64 (mxI ep 0), .int .i64 (mxI sb 0), .int .i64 0, .bool false, .int .u64 hz, .int .u64 0, .int .i64 (mxI n 0), .int .i64 (mxI m 0), .int .i64 (mxI p 0), .int .i64 0, .string (⟨#[]⟩), .string (⟨#[]⟩), .int .i64 0, .slice none 0 0, .int .u64 0, .int .i64 0, .int .i64 0, .slice none 0 0, u, .slice none 0 0, .slice none 0 0] ∧ But (fun q => q = B) w w' := by
 have hB0 := But.refl (fun q => q = B) w
 have hl_hB := hB.lt
 have hl_hN0 := hN0.lt
 have hl_hs := sl_len hs
 refine co_enter (n := 12) Try.func120 rfl rfl rfl [(0, pt B 0), (1, pt N0 0)] rfl (fun a h0 => ?_)
 refine co_reg ?_
 refine pk0 (v := pt B 0) h0 rfl fun a1 h1 => ?_; clear h0
 refine pk (v := v) h1 rfl (rn_load1 rfl rfl Try.isAgg69 (hN0.cell rfl)) fun a2 h2 => ?_; clear h1
 refine pk (v := v) h2 rfl (rn_load1 rfl rfl Try.isAgg69 (hN0.cell rfl)) fun a3 h3 => ?_; clear h2
 refine pk (v := .int .i64 ((l.length : Nat) : Int)) h3 rfl (rn_len rfl rfl Try.underlying69 hs) fun a4 h4 => ?_; clear h3
 have hmm5 := mnI_p ((l.length : Nat) : Int) 4
 refine pk0 (v := .int .i64 (mnI ((l.length : Nat) : Int) 4)) h4 rfl fun a6 h6 => ?_; clear h4
 refine pk (v := subV v 0 ((mnI ((l.length : Nat) : Int) 4).toNat) 4) h6 rfl (rn_sliceTo rfl rfl rfl Try.underlying69 Try.sizeOf38 hs (by omega) (by omega)) fun a7 h7 => ?_; clear h6
 refine pw h7 rfl (op_call (args := #[subV v 0 ((mnI ((l.length : Nat) : Int) 4).toNat) 4]) (R := fun res xw => ∃ L2 : List EntT, ∃ u : Value, res = u ∧ xw.ownsRow w.heap.size 38 4 u L2.length (L2.flatMap entE) ∧ EntsH (fun _ => False) w.heap.size xw L2 ∧ L2.map e0 = (l.take ((mnI ((l.length : Nat) : Int) 4).toNat)).map e0 ∧ Below w.heap.size w xw) rfl rfl rfl (by kernel_rfl) (by kernel_rfl) (Try.call121 _ _) (freshEntriesH_any (subV v 0 ((mnI ((l.length : Nat) : Int) 4).toNat) 4) (l.take ((mnI ((l.length : Nat) : Int) 4).toNat)) w (sl_take hs _ (by omega)) (fun z hz => hok z (List.mem_of_mem_take hz)) (fun z hz => hl20 z (List.mem_of_mem_take hz)) (by rw [List.length_take]; omega)) (by rintro e x ⟨L2, u, rfl, hq12, hq13, hq14, hb15⟩; exact ⟨_, rfl, ⟨L2, u, rfl, hq12, hq13, hq14, hb15⟩⟩)) ?_; clear h7
 rintro u11 w9 a8 ⟨L210, _, rfl, hq12, hq13, hq14, hb15⟩ h8
 have hz16 := hb15.size
 have hl17 := sl_len (row_sl hq12 entE_len)
 have hll18 : L210.length = (l.take ((mnI ((l.length : Nat) : Int) 4).toNat)).length := by have hq := congrArg List.length hq14; rwa [List.length_map, List.length_map] at hq
 refine pk0 (v := pt B 0) h8 rfl fun a19 h19 => ?_; clear h8
 refine pk0 (v := pt B 19) h19 rfl fun a20 h20 => ?_; clear h19
 have hk26 := hB.below hb15
 refine pwD h20 rfl (op_store1 rfl rfl rfl (row_one hq12) Try.sizeOf69 hk26 rfl) ?_; clear h20
 rintro _ w22 a21 ⟨hk23, hz24, hg25⟩ h21
 have hk23' : Blk w22 B 74 #[.int .i64 k, .int .i64 (mxI ep 0), .int .i64 (mxI sb 0), .int .i64 0, .bool false, .int .u64 hz, .int .u64 0, .int .i64 (mxI n 0), .int .i64 (mxI m 0), .int .i64 (mxI p 0), .int .i64 0, .string (⟨#[]⟩), .string (⟨#[]⟩), .int .i64 0, .slice none 0 0, .int .u64 0, .int .i64 0, .int .i64 0, .slice none 0 0, u11, .slice none 0 0, .slice none 0 0] := hk23; clear hk23
 have hz27 := hg25.size
 refine pl_nil ?_
 refine co_ret0n h21 rfl ?_
 have hr28 := row_kept_at hq12 hg25 (own_neT hq12 hk26 (by decide))
 have hE29 := hq13.blk hk26 (by decide) hg25
 have hB30 := fb_call hB0 hb15
 have hB31 := fb_at hB30 hg25 (fun hlt => by first | (exfalso; omega) | (simp; done) | simp_all)
 exact ⟨_, _, rfl, (row_lows hr28 (by omega)), hE29, hq14, hk23', hB31⟩
end Go.Proofs.Ytlbemlodcdgakaa
