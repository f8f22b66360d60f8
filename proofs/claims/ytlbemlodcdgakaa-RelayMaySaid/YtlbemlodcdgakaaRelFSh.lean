/- Package relay: Fwd, Ack. Conditions: up to 100 operations an entry. -/
import Derived.Test.YtlbemlodcdgakaaRelESh
namespace Go.Proofs.Ytlbemlodcdgakaa
open Go.RowKit Go.PlainAid
set_option linter.unusedVariables false
set_option linter.unusedSimpArgs false


/-- What is adopted; where it begins; what is sent. -/
def fwA (l : List EntT) (gd : Int) : List EntT := l.take (bwI gd ((l.length : Nat) : Int)).toNat
def fwF (l : List EntT) (gd fr : Int) : Int := bwI fr (((fwA l gd).length : Nat) : Int)
def fwR (l : List EntT) (gd fr : Int) : List EntT := (fwA l gd).drop (fwF l gd fr).toNat
def fwE (l : List EntT) (gd fr : Int) : List EntT := (fwR l gd fr).take (mnI (((fwR l gd fr).length : Nat) : Int) 4).toNat
def akS (l : List EntT) (gd fr : Int) : List Int := tsL ((fwR l gd fr).take (mnI ((stN (fwR l gd fr) : Nat) : Int) 8).toNat)

set_option maxRecDepth 100000 in
theorem fwd_any (ep : Int) (ba : Int) (fr : Int) (sb : Int) (hz : Int) (v : Value) (l : List EntT) (gd : Int) (w : World) (hs : SliceOf entE 4 w v l) (hok : ∀ z ∈ l, EntOk w z) (hl20 : ∀ z ∈ l, z.opl.length ≤ 100) :
    Calls Try.prog 26 #[.int .i64 ep, .int .i64 ba, .int .i64 fr, .int .i64 sb, .int .u64 hz, v, .int .i64 gd] w fun e w' => ∃ (L2 : List EntT) (u : Value), e = .returned (.agg #[.int .i64 3, .int .i64 (mxI ep 0), .int .i64 (mxI sb 0), .int .i64 0, .bool false, .int .u64 hz, .int .u64 0, .int .i64 (mxI ba 0), .int .i64 (mxI (fwF l gd fr) 0), .int .i64 (mxI ((stN (fwA l gd) : Nat) : Int) 0), .int .i64 0, .string (⟨#[]⟩), .string (⟨#[]⟩), .int .i64 0, .slice none 0 0, .int .u64 0, .int .i64 0, .int .i64 0, .slice none 0 0, u, .slice none 0 0, .slice none 0 0]) ∧ w'.ownsRow w.heap.size 38 4 u L2.length (L2.flatMap entE) ∧ EntsH (fun _ => False) w.heap.size w' L2 ∧ L2.map e0 = (fwE l gd fr).map e0 ∧ Below w.heap.size w w' := by
 have hB0 := Below.refl w.heap.size w
 have hl_hs := sl_len hs
 refine co_enter (n := 41) Try.func26 rfl rfl rfl [(0, .int .i64 ep), (1, .int .i64 ba), (2, .int .i64 fr), (3, .int .i64 sb), (4, .int .u64 hz), (5, v), (6, .int .i64 gd)] rfl (fun a h0 => ?_)
 refine co_seq ?_
 refine co_reg ?_
 refine pw h0 rfl (op_new (v := fun N => pt N 0) (T := 74) (cs := #[.int .i64 0, .int .i64 0, .int .i64 0, .int .i64 0, .bool false, .int .u64 0, .int .u64 0, .int .i64 0, .int .i64 0, .int .i64 0, .int .i64 0, .string (⟨#[]⟩), .string (⟨#[]⟩), .int .i64 0, .slice none 0 0, .int .u64 0, .int .i64 0, .int .i64 0, .slice none 0 0, .slice none 0 0, .slice none 0 0, .slice none 0 0]) (by kernel_rfl) (by kernel_rfl) (by kernel_rfl)) ?_; clear h0
 rintro _ w2 a1 ⟨N3, rfl, hN6, hz7, hk5, hg4⟩ h1
 have hz8 := hg4.size
 try dsimp only at h1
 refine pl_nil ?_
 refine co_then ?_
 refine co_seq ?_
 refine co_reg ?_
 refine pk0 (v := v) h1 rfl fun a9 h9 => ?_; clear h1
 refine pk0 (v := .int .i64 gd) h9 rfl fun a10 h10 => ?_; clear h9
 refine pk0 (v := v) h10 rfl fun a11 h11 => ?_; clear h10
 have hB12 := hb_new hB0 hg4
 refine pk (v := .int .i64 ((l.length : Nat) : Int)) h11 rfl (rn_len rfl rfl Try.underlying69 (hs.below hB12)) fun a13 h13 => ?_; clear h11
 refine pw h13 rfl (op_call (args := #[.int .i64 gd, .int .i64 ((l.length : Nat) : Int)]) (R := fun res xw => res = .int .i64 (bwI gd ((l.length : Nat) : Int)) ∧ Below w2.heap.size w2 xw) rfl rfl rfl (by kernel_rfl) (by kernel_rfl) (Try.call67 _ _) (between_any gd l.length w2 ) (by rintro e x ⟨rfl, hb16⟩; exact ⟨_, rfl, ⟨rfl, hb16⟩⟩)) ?_; clear h13
 rintro _ w15 a14 ⟨rfl, hb16⟩ h14
 have hz17 := hb16.size
 have hm18 := bwI_p gd l.length
 have hB19 := hb_call hB12 hb16
 refine pk (v := subV v 0 ((bwI gd ((l.length : Nat) : Int)).toNat) 4) h14 rfl (rn_sliceTo rfl rfl rfl Try.underlying69 Try.sizeOf38 (hs.below hB19) (by omega) (by omega)) fun a20 h20 => ?_; clear h14
 refine pk0 (v := subV v 0 ((bwI gd ((l.length : Nat) : Int)).toNat) 4) h20 rfl fun a21 h21 => ?_; clear h20
 refine pl_nil ?_
 refine co_then ?_
 refine co_seq ?_
 refine co_reg ?_
 refine pk0 (v := .int .i64 fr) h21 rfl fun a22 h22 => ?_; clear h21
 refine pk0 (v := subV v 0 ((bwI gd ((l.length : Nat) : Int)).toNat) 4) h22 rfl fun a23 h23 => ?_; clear h22
 refine pk (v := .int .i64 (((l.take ((bwI gd ((l.length : Nat) : Int)).toNat)).length : Nat) : Int)) h23 rfl (rn_len rfl rfl Try.underlying69 (sl_take (hs.below hB19) _ (by omega))) fun a24 h24 => ?_; clear h23
 refine pw h24 rfl (op_call (args := #[.int .i64 fr, .int .i64 (((l.take ((bwI gd ((l.length : Nat) : Int)).toNat)).length : Nat) : Int)]) (R := fun res xw => res = .int .i64 (bwI fr ((((l.take ((bwI gd ((l.length : Nat) : Int)).toNat)).length) : Nat) : Int)) ∧ Below w15.heap.size w15 xw) rfl rfl rfl (by kernel_rfl) (by kernel_rfl) (Try.call67 _ _) (between_any fr ((l.take ((bwI gd ((l.length : Nat) : Int)).toNat)).length) w15 ) (by rintro e x ⟨rfl, hb27⟩; exact ⟨_, rfl, ⟨rfl, hb27⟩⟩)) ?_; clear h24
 rintro _ w26 a25 ⟨rfl, hb27⟩ h25
 have hz28 := hb27.size
 have hm29 := bwI_p fr ((l.take ((bwI gd ((l.length : Nat) : Int)).toNat)).length)
 refine pk0 (v := .int .i64 (bwI fr ((((l.take ((bwI gd ((l.length : Nat) : Int)).toNat)).length) : Nat) : Int))) h25 rfl fun a30 h30 => ?_; clear h25
 refine pl_nil ?_
 refine co_then ?_
 refine co_seq ?_
 refine dr_gen (fun x => Below w.heap.size w x) (by kernel_rfl) (fun w31 hg32 => ?_) (fun w31 hg32 => ?_)
 ·
  have hz33 := hg32.size
  have hB34 := hb_call hB19 hb27
  have hB35 := hb_new hB34 hg32
  exact hB35
 have hz36 := hg32.size
 have hB37 := hb_call hB19 hb27
 have hB38 := hb_new hB37 hg32
 refine dk0 0 (v := .int .i64 ep) h30 rfl rfl hB38 fun a39 h39 => ?_; clear h30
 refine dk0 1 (v := .int .i64 ba) h39 rfl rfl hB38 fun a40 h40 => ?_; clear h39
 refine dk0 2 (v := .int .i64 (bwI fr ((((l.take ((bwI gd ((l.length : Nat) : Int)).toNat)).length) : Nat) : Int))) h40 rfl rfl hB38 fun a41 h41 => ?_; clear h40
 refine dk0 3 (v := subV v 0 ((bwI gd ((l.length : Nat) : Int)).toNat) 4) h41 rfl rfl hB38 fun a42 h42 => ?_; clear h41
 refine dk0 6 (v := .int .i64 sb) h42 rfl rfl hB38 fun a43 h43 => ?_; clear h42
 refine dk0 7 (v := .int .u64 hz) h43 rfl rfl hB38 fun a44 h44 => ?_; clear h43
 refine dk0 9 (v := subV v 0 ((bwI gd ((l.length : Nat) : Int)).toNat) 4) h44 rfl rfl hB38 fun a45 h45 => ?_; clear h44
 refine dk0 10 (v := .int .i64 (bwI fr ((((l.take ((bwI gd ((l.length : Nat) : Int)).toNat)).length) : Nat) : Int))) h45 rfl rfl hB38 fun a46 h46 => ?_; clear h45
 refine dk 11 (v := subV (subV v 0 ((bwI gd ((l.length : Nat) : Int)).toNat) 4) ((bwI fr ((((l.take ((bwI gd ((l.length : Nat) : Int)).toNat)).length) : Nat) : Int)).toNat) ((l.take ((bwI gd ((l.length : Nat) : Int)).toNat)).length) 4) h46 rfl rfl hB38 (fun x hx => (rn_sliceFrom rfl rfl rfl Try.underlying69 Try.sizeOf38 (sl_take (hs.below hx) _ (by omega)) (by omega) (by omega))) fun a47 h47 => ?_; clear h46
 refine d1 4 h47 rfl rfl (op_call (args := #[subV v 0 ((bwI gd ((l.length : Nat) : Int)).toNat) 4]) (R := fun res xw => res = .int .i64 ((stN (l.take ((bwI gd ((l.length : Nat) : Int)).toNat)) : Nat) : Int) ∧ Below w31.heap.size w31 xw) rfl rfl rfl (by kernel_rfl) (by kernel_rfl) (Try.call70 _ _) (itemStamped_any (subV v 0 ((bwI gd ((l.length : Nat) : Int)).toNat) 4) (l.take ((bwI gd ((l.length : Nat) : Int)).toNat)) w31 (sl_take (hs.below hB38) _ (by omega)) (fun z hz => ((fun z hz => hok z (List.mem_of_mem_take hz)) z hz).below hB38)) (by rintro e x ⟨rfl, hb50⟩; exact ⟨_, rfl, ⟨rfl, hb50⟩⟩)) ?_ ?_; clear h47
 ·
  rintro _ w49 ⟨rfl, hb50⟩
  have hz51 := hb50.size
  have hB52 := hb_call hB38 hb50
  exact hB52
 rintro _ w49 a48 ⟨rfl, hb50⟩ h48
 have hz51 := hb50.size
 have hB52 := hb_call hB38 hb50
 refine d1 5 h48 rfl rfl (op_call (args := #[.int .i64 ep, .int .i64 ba, .int .i64 (bwI fr ((((l.take ((bwI gd ((l.length : Nat) : Int)).toNat)).length) : Nat) : Int)), .int .i64 ((stN (l.take ((bwI gd ((l.length : Nat) : Int)).toNat)) : Nat) : Int)]) (R := fun res xw => ∃ N0 : Nat, ∃ N1 : Nat, ∃ N2 : Nat, ∃ N3 : Nat, res = .func (.func 118) #[] #[pt N0 0, pt N1 0, pt N2 0, pt N3 0] ∧ Blk xw N0 3 #[.int .i64 ep] ∧ w49.heap.size ≤ N0 ∧ Blk xw N1 3 #[.int .i64 ba] ∧ w49.heap.size ≤ N1 ∧ Blk xw N2 3 #[.int .i64 (bwI fr ((((l.take ((bwI gd ((l.length : Nat) : Int)).toNat)).length) : Nat) : Int))] ∧ w49.heap.size ≤ N2 ∧ Blk xw N3 3 #[.int .i64 ((stN (l.take ((bwI gd ((l.length : Nat) : Int)).toNat)) : Nat) : Int)] ∧ w49.heap.size ≤ N3 ∧ Below w49.heap.size w49 xw) rfl rfl rfl (by kernel_rfl) (by kernel_rfl) (Try.call69 _ _) (numbers_any ep ba (bwI fr ((((l.take ((bwI gd ((l.length : Nat) : Int)).toNat)).length) : Nat) : Int)) ((stN (l.take ((bwI gd ((l.length : Nat) : Int)).toNat)) : Nat) : Int) w49 ) (by rintro e x ⟨N0, N1, N2, N3, rfl, hq59, hq60, hq61, hq62, hq63, hq64, hq65, hq66, hb67⟩; exact ⟨_, rfl, ⟨N0, N1, N2, N3, rfl, hq59, hq60, hq61, hq62, hq63, hq64, hq65, hq66, hb67⟩⟩)) ?_ ?_; clear h48
 ·
  rintro _ w54 ⟨N055, N156, N257, N358, rfl, hq59, hq60, hq61, hq62, hq63, hq64, hq65, hq66, hb67⟩
  have hz68 := hb67.size
  have hl69 := hq59.lt
  have hl70 := hq61.lt
  have hl71 := hq63.lt
  have hl72 := hq65.lt
  have hB73 := hb_call hB52 hb67
  exact hB73
 rintro _ w54 a53 ⟨N055, N156, N257, N358, rfl, hq59, hq60, hq61, hq62, hq63, hq64, hq65, hq66, hb67⟩ h53
 have hz68 := hb67.size
 have hl69 := hq59.lt
 have hl70 := hq61.lt
 have hl71 := hq63.lt
 have hl72 := hq65.lt
 have hB73 := hb_call hB52 hb67
 refine d1 8 h53 rfl rfl (op_call (args := #[.int .i64 sb, .int .u64 hz]) (R := fun res xw => ∃ N0 : Nat, ∃ N1 : Nat, res = .func (.func 119) #[] #[pt N0 0, pt N1 0] ∧ Blk xw N0 3 #[.int .i64 sb] ∧ w54.heap.size ≤ N0 ∧ Blk xw N1 29 #[.int .u64 hz] ∧ w54.heap.size ≤ N1 ∧ Below w54.heap.size w54 xw) rfl rfl rfl (by kernel_rfl) (by kernel_rfl) (Try.call71 _ _) (stand_any sb hz w54 ) (by rintro e x ⟨N0, N1, rfl, hq78, hq79, hq80, hq81, hb82⟩; exact ⟨_, rfl, ⟨N0, N1, rfl, hq78, hq79, hq80, hq81, hb82⟩⟩)) ?_ ?_; clear h53
 ·
  rintro _ w75 ⟨N076, N177, rfl, hq78, hq79, hq80, hq81, hb82⟩
  have hz83 := hb82.size
  have hl84 := hq78.lt
  have hl85 := hq80.lt
  have hB86 := hb_call hB73 hb82
  exact hB86
 rintro _ w75 a74 ⟨N076, N177, rfl, hq78, hq79, hq80, hq81, hb82⟩ h74
 have hz83 := hb82.size
 have hl84 := hq78.lt
 have hl85 := hq80.lt
 have hB86 := hb_call hB73 hb82
 refine d1 12 h74 rfl rfl (op_call (args := #[subV (subV v 0 ((bwI gd ((l.length : Nat) : Int)).toNat) 4) ((bwI fr ((((l.take ((bwI gd ((l.length : Nat) : Int)).toNat)).length) : Nat) : Int)).toNat) ((l.take ((bwI gd ((l.length : Nat) : Int)).toNat)).length) 4]) (R := fun res xw => ∃ N0 : Nat, res = .func (.func 120) #[] #[pt N0 0] ∧ Blk xw N0 69 #[(subV (subV v 0 ((bwI gd ((l.length : Nat) : Int)).toNat) 4) ((bwI fr ((((l.take ((bwI gd ((l.length : Nat) : Int)).toNat)).length) : Nat) : Int)).toNat) ((l.take ((bwI gd ((l.length : Nat) : Int)).toNat)).length) 4)] ∧ w75.heap.size ≤ N0 ∧ Below w75.heap.size w75 xw) rfl rfl rfl (by kernel_rfl) (by kernel_rfl) (Try.call72 _ _) (entriesO_any (subV (subV v 0 ((bwI gd ((l.length : Nat) : Int)).toNat) 4) ((bwI fr ((((l.take ((bwI gd ((l.length : Nat) : Int)).toNat)).length) : Nat) : Int)).toNat) ((l.take ((bwI gd ((l.length : Nat) : Int)).toNat)).length) 4) ((l.take ((bwI gd ((l.length : Nat) : Int)).toNat)).drop ((bwI fr ((((l.take ((bwI gd ((l.length : Nat) : Int)).toNat)).length) : Nat) : Int)).toNat)) w75 (sl_drop (sl_take (hs.below hB86) _ (by omega)) _ (by omega))) (by rintro e x ⟨N0, rfl, hq90, hq91, hb92⟩; exact ⟨_, rfl, ⟨N0, rfl, hq90, hq91, hb92⟩⟩)) ?_ ?_; clear h74
 ·
  rintro _ w88 ⟨N089, rfl, hq90, hq91, hb92⟩
  have hz93 := hb92.size
  have hl94 := hq90.lt
  have hB95 := hb_call hB86 hb92
  exact hB95
 rintro _ w88 a87 ⟨N089, rfl, hq90, hq91, hb92⟩ h87
 have hz93 := hb92.size
 have hl94 := hq90.lt
 have hB95 := hb_call hB86 hb92
 refine d1 13 h87 rfl rfl (op_new (v := fun N => .slice (some ⟨N, 0, none⟩) 3 3) (T := 115) (cs := #[.func (.func 118) #[] #[pt N055 0, pt N156 0, pt N257 0, pt N358 0], .func (.func 119) #[] #[pt N076 0, pt N177 0], .func (.func 120) #[] #[pt N089 0]]) (by kernel_rfl) (by kernel_rfl) (by kernel_rfl)) ?_ ?_; clear h87
 ·
  rintro _ w97 ⟨N98, rfl, hN101, hz102, hk100, hg99⟩
  have hz103 := hg99.size
  have hB104 := hb_new hB95 hg99
  exact hB104
 rintro _ w97 a96 ⟨N98, rfl, hN101, hz102, hk100, hg99⟩ h96
 have hz103 := hg99.size
 try dsimp only at h96
 have hB104 := hb_new hB95 hg99
 have hk107 := hq59.below hb82
 have hk108 := hk107.below hb92
 have hk109 := hk108.kept hg99 (by simp)
 have hk110 := hq61.below hb82
 have hk111 := hk110.below hb92
 have hk112 := hk111.kept hg99 (by simp)
 have hk113 := hq63.below hb82
 have hk114 := hk113.below hb92
 have hk115 := hk114.kept hg99 (by simp)
 have hk116 := hq65.below hb82
 have hk117 := hk116.below hb92
 have hk118 := hk117.kept hg99 (by simp)
 have hk119 := hq78.below hb92
 have hk120 := hk119.kept hg99 (by simp)
 have hk121 := hq80.below hb92
 have hk122 := hk121.kept hg99 (by simp)
 have hk123 := hq90.kept hg99 (by simp)
 refine d1 14 h96 rfl rfl (op_call (args := #[.int .i64 3, .slice (some ⟨N98, 0, none⟩) 3 3]) (R := fun res xw => ∃ L2 : List EntT, ∃ u : Value, res = .agg #[.int .i64 3, .int .i64 (mxI ep 0), .int .i64 (mxI sb 0), .int .i64 0, .bool false, .int .u64 hz, .int .u64 0, .int .i64 (mxI ba 0), .int .i64 (mxI (bwI fr ((((l.take ((bwI gd ((l.length : Nat) : Int)).toNat)).length) : Nat) : Int)) 0), .int .i64 (mxI ((stN (l.take ((bwI gd ((l.length : Nat) : Int)).toNat)) : Nat) : Int) 0), .int .i64 0, .string (⟨#[]⟩), .string (⟨#[]⟩), .int .i64 0, .slice none 0 0, .int .u64 0, .int .i64 0, .int .i64 0, .slice none 0 0, u, .slice none 0 0, .slice none 0 0] ∧ xw.ownsRow w97.heap.size 38 4 u L2.length (L2.flatMap entE) ∧ EntsH (fun _ => False) w97.heap.size xw L2 ∧ L2.map e0 = (((l.take ((bwI gd ((l.length : Nat) : Int)).toNat)).drop ((bwI fr ((((l.take ((bwI gd ((l.length : Nat) : Int)).toNat)).length) : Nat) : Int)).toNat)).take (mnI (((l.take ((bwI gd ((l.length : Nat) : Int)).toNat)).drop ((bwI fr ((((l.take ((bwI gd ((l.length : Nat) : Int)).toNat)).length) : Nat) : Int)).toNat)).length : Int) 4).toNat).map e0 ∧ Below w97.heap.size w97 xw) rfl rfl rfl (by kernel_rfl) (by kernel_rfl) (Try.call68 _ _) (message3_any N98 N055 N156 N257 N358 N076 N177 N089 3 ep ba (bwI fr ((((l.take ((bwI gd ((l.length : Nat) : Int)).toNat)).length) : Nat) : Int)) ((stN (l.take ((bwI gd ((l.length : Nat) : Int)).toNat)) : Nat) : Int) sb hz (subV (subV v 0 ((bwI gd ((l.length : Nat) : Int)).toNat) 4) ((bwI fr ((((l.take ((bwI gd ((l.length : Nat) : Int)).toNat)).length) : Nat) : Int)).toNat) ((l.take ((bwI gd ((l.length : Nat) : Int)).toNat)).length) 4) ((l.take ((bwI gd ((l.length : Nat) : Int)).toNat)).drop ((bwI fr ((((l.take ((bwI gd ((l.length : Nat) : Int)).toNat)).length) : Nat) : Int)).toNat)) w97 hk100 hk109 hk112 hk115 hk118 hk120 hk122 hk123 (sl_drop (sl_take (hs.below hB104) _ (by omega)) _ (by omega)) (fun z hz => ((fun z hz => (fun z hz => hok z (List.mem_of_mem_take hz)) z (List.mem_of_mem_drop hz)) z hz).below hB104) (fun z hz => hl20 z (List.mem_of_mem_take (List.mem_of_mem_drop hz)))) (by rintro e x ⟨L2, u, rfl, hq126, hq127, hq128, hb129⟩; exact ⟨_, rfl, ⟨L2, u, rfl, hq126, hq127, hq128, hb129⟩⟩)) ?_ ?_; clear h96
 ·
  rintro _ w106 ⟨L2124, u125, rfl, hq126, hq127, hq128, hb129⟩
  have hz130 := hb129.size
  have hl131 := sl_len (row_sl hq126 entE_len)
  have hB132 := hb_call hB104 hb129
  exact hB132
 rintro _ w106 a105 ⟨L2124, u125, rfl, hq126, hq127, hq128, hb129⟩ h105
 have hz130 := hb129.size
 have hl131 := sl_len (row_sl hq126 entE_len)
 have hB132 := hb_call hB104 hb129
 have hk138 := hk5.below hb16
 have hk139 := hk138.below hb27
 have hk140 := hk139.kept hg32 (by simp)
 have hk141 := hk140.below hb50
 have hk142 := hk141.below hb67
 have hk143 := hk142.below hb82
 have hk144 := hk143.below hb92
 have hk145 := hk144.kept hg99 (by simp)
 have hk146 := hk145.below hb129
 refine d1D 15 h105 rfl rfl (op_storeN rfl rfl rfl (all_cons rfl (all_cons rfl (all_cons rfl (all_cons rfl (all_cons rfl (all_cons rfl (all_cons rfl (all_cons rfl (all_cons rfl (all_cons rfl (all_cons rfl (all_cons rfl (all_cons rfl (all_cons rfl (all_cons rfl (all_cons rfl (all_cons rfl (all_cons rfl (all_cons rfl (all_cons (row_one hq126) (all_cons rfl (all_cons rfl all_nil)))))))))))))))))))))) (by kernel_rfl) hk146 rfl) ?_ ?_; clear h105
 ·
  rintro _ w134 ⟨hk135, hz136, hg137⟩
  have hk135' : Blk w134 N3 74 #[.int .i64 3, .int .i64 (mxI ep 0), .int .i64 (mxI sb 0), .int .i64 0, .bool false, .int .u64 hz, .int .u64 0, .int .i64 (mxI ba 0), .int .i64 (mxI (bwI fr ((((l.take ((bwI gd ((l.length : Nat) : Int)).toNat)).length) : Nat) : Int)) 0), .int .i64 (mxI ((stN (l.take ((bwI gd ((l.length : Nat) : Int)).toNat)) : Nat) : Int) 0), .int .i64 0, .string (⟨#[]⟩), .string (⟨#[]⟩), .int .i64 0, .slice none 0 0, .int .u64 0, .int .i64 0, .int .i64 0, .slice none 0 0, u125, .slice none 0 0, .slice none 0 0] := hk135; clear hk135
  have hz147 := hg137.size
  have hB148 := hb_at hB132 hg137 (by omega)
  exact hB148
 rintro _ w134 a133 ⟨hk135, hz136, hg137⟩ h133
 have hk135' : Blk w134 N3 74 #[.int .i64 3, .int .i64 (mxI ep 0), .int .i64 (mxI sb 0), .int .i64 0, .bool false, .int .u64 hz, .int .u64 0, .int .i64 (mxI ba 0), .int .i64 (mxI (bwI fr ((((l.take ((bwI gd ((l.length : Nat) : Int)).toNat)).length) : Nat) : Int)) 0), .int .i64 (mxI ((stN (l.take ((bwI gd ((l.length : Nat) : Int)).toNat)) : Nat) : Int) 0), .int .i64 0, .string (⟨#[]⟩), .string (⟨#[]⟩), .int .i64 0, .slice none 0 0, .int .u64 0, .int .i64 0, .int .i64 0, .slice none 0 0, u125, .slice none 0 0, .slice none 0 0] := hk135; clear hk135
 have hz147 := hg137.size
 refine dr_done (by kernel_rfl) ?_
 refine co_then ?_
 refine wp_ret ?_
 refine co_retC (Q := fun _ _ _ => True) h133 rfl rfl hk135' Try.underlying74 rfl (by kernel_rfl) ?_
 have hr148 := row_kept_at hq126 hg137 (own_neT hq126 hk146 (by decide))
 have hE149 := hq127.blk hk146 (by decide) hg137
 have hB150 := hb_at hB132 hg137 (by omega)
 exact ⟨_, _, (by rfl), (row_lows hr148 (by omega)), (entsH_low hE149 (by omega)), hq128, hB150⟩
set_option maxRecDepth 100000 in
theorem ack_any (ep : Int) (gd : Int) (he : Int) (fr : Int) (v : Value) (l : List EntT) (w : World) (hs : SliceOf entE 4 w v l) (hok : ∀ z ∈ l, EntOk w z) :
    Calls Try.prog 28 #[.int .i64 ep, .int .i64 gd, .int .i64 he, .int .i64 fr, v] w fun e w' => ∃ (u : Value), e = .returned (.agg #[.int .i64 4, .int .i64 (mxI ep 0), .int .i64 0, .int .i64 0, .bool false, .int .u64 0, .int .u64 0, .int .i64 (mxI (((fwA l gd).length : Nat) : Int) 0), .int .i64 (mxI he 0), .int .i64 (mxI (fwF l gd fr) 0), .int .i64 0, .string (⟨#[]⟩), .string (⟨#[]⟩), .int .i64 0, .slice none 0 0, .int .u64 0, .int .i64 0, .int .i64 0, .slice none 0 0, .slice none 0 0, u, .slice none 0 0]) ∧ w'.ownsRow w.heap.size 29 1 u (akS l gd fr).length ((akS l gd fr).flatMap (intE .u64)) ∧ Below w.heap.size w w' := by
 have hB0 := Below.refl w.heap.size w
 have hl_hs := sl_len hs
 refine co_enter (n := 34) Try.func28 rfl rfl rfl [(0, .int .i64 ep), (1, .int .i64 gd), (2, .int .i64 he), (3, .int .i64 fr), (4, v)] rfl (fun a h0 => ?_)
 refine co_seq ?_
 refine co_reg ?_
 refine pw h0 rfl (op_new (v := fun N => pt N 0) (T := 74) (cs := #[.int .i64 0, .int .i64 0, .int .i64 0, .int .i64 0, .bool false, .int .u64 0, .int .u64 0, .int .i64 0, .int .i64 0, .int .i64 0, .int .i64 0, .string (⟨#[]⟩), .string (⟨#[]⟩), .int .i64 0, .slice none 0 0, .int .u64 0, .int .i64 0, .int .i64 0, .slice none 0 0, .slice none 0 0, .slice none 0 0, .slice none 0 0]) (by kernel_rfl) (by kernel_rfl) (by kernel_rfl)) ?_; clear h0
 rintro _ w2 a1 ⟨N3, rfl, hN6, hz7, hk5, hg4⟩ h1
 have hz8 := hg4.size
 try dsimp only at h1
 refine pl_nil ?_
 refine co_then ?_
 refine co_seq ?_
 refine co_reg ?_
 refine pk0 (v := v) h1 rfl fun a9 h9 => ?_; clear h1
 refine pk0 (v := .int .i64 gd) h9 rfl fun a10 h10 => ?_; clear h9
 refine pk0 (v := v) h10 rfl fun a11 h11 => ?_; clear h10
 have hB12 := hb_new hB0 hg4
 refine pk (v := .int .i64 ((l.length : Nat) : Int)) h11 rfl (rn_len rfl rfl Try.underlying69 (hs.below hB12)) fun a13 h13 => ?_; clear h11
 refine pw h13 rfl (op_call (args := #[.int .i64 gd, .int .i64 ((l.length : Nat) : Int)]) (R := fun res xw => res = .int .i64 (bwI gd ((l.length : Nat) : Int)) ∧ Below w2.heap.size w2 xw) rfl rfl rfl (by kernel_rfl) (by kernel_rfl) (Try.call67 _ _) (between_any gd l.length w2 ) (by rintro e x ⟨rfl, hb16⟩; exact ⟨_, rfl, ⟨rfl, hb16⟩⟩)) ?_; clear h13
 rintro _ w15 a14 ⟨rfl, hb16⟩ h14
 have hz17 := hb16.size
 have hm18 := bwI_p gd l.length
 have hB19 := hb_call hB12 hb16
 refine pk (v := subV v 0 ((bwI gd ((l.length : Nat) : Int)).toNat) 4) h14 rfl (rn_sliceTo rfl rfl rfl Try.underlying69 Try.sizeOf38 (hs.below hB19) (by omega) (by omega)) fun a20 h20 => ?_; clear h14
 refine pk0 (v := subV v 0 ((bwI gd ((l.length : Nat) : Int)).toNat) 4) h20 rfl fun a21 h21 => ?_; clear h20
 refine pl_nil ?_
 refine co_then ?_
 refine co_seq ?_
 refine co_reg ?_
 refine pk0 (v := .int .i64 fr) h21 rfl fun a22 h22 => ?_; clear h21
 refine pk0 (v := subV v 0 ((bwI gd ((l.length : Nat) : Int)).toNat) 4) h22 rfl fun a23 h23 => ?_; clear h22
 refine pk (v := .int .i64 (((l.take ((bwI gd ((l.length : Nat) : Int)).toNat)).length : Nat) : Int)) h23 rfl (rn_len rfl rfl Try.underlying69 (sl_take (hs.below hB19) _ (by omega))) fun a24 h24 => ?_; clear h23
 refine pw h24 rfl (op_call (args := #[.int .i64 fr, .int .i64 (((l.take ((bwI gd ((l.length : Nat) : Int)).toNat)).length : Nat) : Int)]) (R := fun res xw => res = .int .i64 (bwI fr ((((l.take ((bwI gd ((l.length : Nat) : Int)).toNat)).length) : Nat) : Int)) ∧ Below w15.heap.size w15 xw) rfl rfl rfl (by kernel_rfl) (by kernel_rfl) (Try.call67 _ _) (between_any fr ((l.take ((bwI gd ((l.length : Nat) : Int)).toNat)).length) w15 ) (by rintro e x ⟨rfl, hb27⟩; exact ⟨_, rfl, ⟨rfl, hb27⟩⟩)) ?_; clear h24
 rintro _ w26 a25 ⟨rfl, hb27⟩ h25
 have hz28 := hb27.size
 have hm29 := bwI_p fr ((l.take ((bwI gd ((l.length : Nat) : Int)).toNat)).length)
 refine pk0 (v := .int .i64 (bwI fr ((((l.take ((bwI gd ((l.length : Nat) : Int)).toNat)).length) : Nat) : Int))) h25 rfl fun a30 h30 => ?_; clear h25
 refine pl_nil ?_
 refine co_then ?_
 refine co_seq ?_
 refine dr_gen (fun x => Below w.heap.size w x) (by kernel_rfl) (fun w31 hg32 => ?_) (fun w31 hg32 => ?_)
 ·
  have hz33 := hg32.size
  have hB34 := hb_call hB19 hb27
  have hB35 := hb_new hB34 hg32
  exact hB35
 have hz36 := hg32.size
 have hB37 := hb_call hB19 hb27
 have hB38 := hb_new hB37 hg32
 refine dk0 0 (v := .int .i64 ep) h30 rfl rfl hB38 fun a39 h39 => ?_; clear h30
 refine dk0 1 (v := subV v 0 ((bwI gd ((l.length : Nat) : Int)).toNat) 4) h39 rfl rfl hB38 fun a40 h40 => ?_; clear h39
 refine dk 2 (v := .int .i64 (((l.take ((bwI gd ((l.length : Nat) : Int)).toNat)).length : Nat) : Int)) h40 rfl rfl hB38 (fun x hx => (rn_len rfl rfl Try.underlying69 (sl_take (hs.below hx) _ (by omega)))) fun a41 h41 => ?_; clear h40
 refine dk0 3 (v := .int .i64 he) h41 rfl rfl hB38 fun a42 h42 => ?_; clear h41
 refine dk0 4 (v := .int .i64 (bwI fr ((((l.take ((bwI gd ((l.length : Nat) : Int)).toNat)).length) : Nat) : Int))) h42 rfl rfl hB38 fun a43 h43 => ?_; clear h42
 refine dk0 6 (v := subV v 0 ((bwI gd ((l.length : Nat) : Int)).toNat) 4) h43 rfl rfl hB38 fun a44 h44 => ?_; clear h43
 refine dk0 7 (v := .int .i64 (bwI fr ((((l.take ((bwI gd ((l.length : Nat) : Int)).toNat)).length) : Nat) : Int))) h44 rfl rfl hB38 fun a45 h45 => ?_; clear h44
 refine dk 8 (v := subV (subV v 0 ((bwI gd ((l.length : Nat) : Int)).toNat) 4) ((bwI fr ((((l.take ((bwI gd ((l.length : Nat) : Int)).toNat)).length) : Nat) : Int)).toNat) ((l.take ((bwI gd ((l.length : Nat) : Int)).toNat)).length) 4) h45 rfl rfl hB38 (fun x hx => (rn_sliceFrom rfl rfl rfl Try.underlying69 Try.sizeOf38 (sl_take (hs.below hx) _ (by omega)) (by omega) (by omega))) fun a46 h46 => ?_; clear h45
 refine d1 5 h46 rfl rfl (op_call (args := #[.int .i64 ep, .int .i64 (((l.take ((bwI gd ((l.length : Nat) : Int)).toNat)).length : Nat) : Int), .int .i64 he, .int .i64 (bwI fr ((((l.take ((bwI gd ((l.length : Nat) : Int)).toNat)).length) : Nat) : Int))]) (R := fun res xw => ∃ N0 : Nat, ∃ N1 : Nat, ∃ N2 : Nat, ∃ N3 : Nat, res = .func (.func 118) #[] #[pt N0 0, pt N1 0, pt N2 0, pt N3 0] ∧ Blk xw N0 3 #[.int .i64 ep] ∧ w31.heap.size ≤ N0 ∧ Blk xw N1 3 #[.int .i64 (((l.take ((bwI gd ((l.length : Nat) : Int)).toNat)).length : Nat) : Int)] ∧ w31.heap.size ≤ N1 ∧ Blk xw N2 3 #[.int .i64 he] ∧ w31.heap.size ≤ N2 ∧ Blk xw N3 3 #[.int .i64 (bwI fr ((((l.take ((bwI gd ((l.length : Nat) : Int)).toNat)).length) : Nat) : Int))] ∧ w31.heap.size ≤ N3 ∧ Below w31.heap.size w31 xw) rfl rfl rfl (by kernel_rfl) (by kernel_rfl) (Try.call69 _ _) (numbers_any ep (((l.take ((bwI gd ((l.length : Nat) : Int)).toNat)).length : Nat) : Int) he (bwI fr ((((l.take ((bwI gd ((l.length : Nat) : Int)).toNat)).length) : Nat) : Int)) w31 ) (by rintro e x ⟨N0, N1, N2, N3, rfl, hq53, hq54, hq55, hq56, hq57, hq58, hq59, hq60, hb61⟩; exact ⟨_, rfl, ⟨N0, N1, N2, N3, rfl, hq53, hq54, hq55, hq56, hq57, hq58, hq59, hq60, hb61⟩⟩)) ?_ ?_; clear h46
 ·
  rintro _ w48 ⟨N049, N150, N251, N352, rfl, hq53, hq54, hq55, hq56, hq57, hq58, hq59, hq60, hb61⟩
  have hz62 := hb61.size
  have hl63 := hq53.lt
  have hl64 := hq55.lt
  have hl65 := hq57.lt
  have hl66 := hq59.lt
  have hB67 := hb_call hB38 hb61
  exact hB67
 rintro _ w48 a47 ⟨N049, N150, N251, N352, rfl, hq53, hq54, hq55, hq56, hq57, hq58, hq59, hq60, hb61⟩ h47
 have hz62 := hb61.size
 have hl63 := hq53.lt
 have hl64 := hq55.lt
 have hl65 := hq57.lt
 have hl66 := hq59.lt
 have hB67 := hb_call hB38 hb61
 refine d1 9 h47 rfl rfl (op_call (args := #[subV (subV v 0 ((bwI gd ((l.length : Nat) : Int)).toNat) 4) ((bwI fr ((((l.take ((bwI gd ((l.length : Nat) : Int)).toNat)).length) : Nat) : Int)).toNat) ((l.take ((bwI gd ((l.length : Nat) : Int)).toNat)).length) 4]) (R := fun res xw => ∃ N0 : Nat, res = .func (.func 122) #[] #[pt N0 0] ∧ Blk xw N0 69 #[(subV (subV v 0 ((bwI gd ((l.length : Nat) : Int)).toNat) 4) ((bwI fr ((((l.take ((bwI gd ((l.length : Nat) : Int)).toNat)).length) : Nat) : Int)).toNat) ((l.take ((bwI gd ((l.length : Nat) : Int)).toNat)).length) 4)] ∧ w48.heap.size ≤ N0 ∧ Below w48.heap.size w48 xw) rfl rfl rfl (by kernel_rfl) (by kernel_rfl) (Try.call74 _ _) (stampsO_any (subV (subV v 0 ((bwI gd ((l.length : Nat) : Int)).toNat) 4) ((bwI fr ((((l.take ((bwI gd ((l.length : Nat) : Int)).toNat)).length) : Nat) : Int)).toNat) ((l.take ((bwI gd ((l.length : Nat) : Int)).toNat)).length) 4) ((l.take ((bwI gd ((l.length : Nat) : Int)).toNat)).drop ((bwI fr ((((l.take ((bwI gd ((l.length : Nat) : Int)).toNat)).length) : Nat) : Int)).toNat)) w48 (sl_drop (sl_take (hs.below hB67) _ (by omega)) _ (by omega))) (by rintro e x ⟨N0, rfl, hq71, hq72, hb73⟩; exact ⟨_, rfl, ⟨N0, rfl, hq71, hq72, hb73⟩⟩)) ?_ ?_; clear h47
 ·
  rintro _ w69 ⟨N070, rfl, hq71, hq72, hb73⟩
  have hz74 := hb73.size
  have hl75 := hq71.lt
  have hB76 := hb_call hB67 hb73
  exact hB76
 rintro _ w69 a68 ⟨N070, rfl, hq71, hq72, hb73⟩ h68
 have hz74 := hb73.size
 have hl75 := hq71.lt
 have hB76 := hb_call hB67 hb73
 refine d1 10 h68 rfl rfl (op_new (v := fun N => .slice (some ⟨N, 0, none⟩) 2 2) (T := 115) (cs := #[.func (.func 118) #[] #[pt N049 0, pt N150 0, pt N251 0, pt N352 0], .func (.func 122) #[] #[pt N070 0]]) (by kernel_rfl) (by kernel_rfl) (by kernel_rfl)) ?_ ?_; clear h68
 ·
  rintro _ w78 ⟨N79, rfl, hN82, hz83, hk81, hg80⟩
  have hz84 := hg80.size
  have hB85 := hb_new hB76 hg80
  exact hB85
 rintro _ w78 a77 ⟨N79, rfl, hN82, hz83, hk81, hg80⟩ h77
 have hz84 := hg80.size
 try dsimp only at h77
 have hB85 := hb_new hB76 hg80
 have hk88 := hq53.below hb73
 have hk89 := hk88.kept hg80 (by simp)
 have hk90 := hq55.below hb73
 have hk91 := hk90.kept hg80 (by simp)
 have hk92 := hq57.below hb73
 have hk93 := hk92.kept hg80 (by simp)
 have hk94 := hq59.below hb73
 have hk95 := hk94.kept hg80 (by simp)
 have hk96 := hq71.kept hg80 (by simp)
 refine d1 11 h77 rfl rfl (op_call (args := #[.int .i64 4, .slice (some ⟨N79, 0, none⟩) 2 2]) (R := fun res xw => ∃ u : Value, res = .agg #[.int .i64 4, .int .i64 (mxI ep 0), .int .i64 0, .int .i64 0, .bool false, .int .u64 0, .int .u64 0, .int .i64 (mxI (((l.take ((bwI gd ((l.length : Nat) : Int)).toNat)).length : Nat) : Int) 0), .int .i64 (mxI he 0), .int .i64 (mxI (bwI fr ((((l.take ((bwI gd ((l.length : Nat) : Int)).toNat)).length) : Nat) : Int)) 0), .int .i64 0, .string (⟨#[]⟩), .string (⟨#[]⟩), .int .i64 0, .slice none 0 0, .int .u64 0, .int .i64 0, .int .i64 0, .slice none 0 0, .slice none 0 0, u, .slice none 0 0] ∧ xw.ownsRow w78.heap.size 29 1 u (tsL (((l.take ((bwI gd ((l.length : Nat) : Int)).toNat)).drop ((bwI fr ((((l.take ((bwI gd ((l.length : Nat) : Int)).toNat)).length) : Nat) : Int)).toNat)).take (mnI ((stN ((l.take ((bwI gd ((l.length : Nat) : Int)).toNat)).drop ((bwI fr ((((l.take ((bwI gd ((l.length : Nat) : Int)).toNat)).length) : Nat) : Int)).toNat)) : Nat) : Int) 8).toNat)).length ((tsL (((l.take ((bwI gd ((l.length : Nat) : Int)).toNat)).drop ((bwI fr ((((l.take ((bwI gd ((l.length : Nat) : Int)).toNat)).length) : Nat) : Int)).toNat)).take (mnI ((stN ((l.take ((bwI gd ((l.length : Nat) : Int)).toNat)).drop ((bwI fr ((((l.take ((bwI gd ((l.length : Nat) : Int)).toNat)).length) : Nat) : Int)).toNat)) : Nat) : Int) 8).toNat)).flatMap (intE .u64)) ∧ Below w78.heap.size w78 xw) rfl rfl rfl (by kernel_rfl) (by kernel_rfl) (Try.call68 _ _) (message2_any N79 N049 N150 N251 N352 N070 4 ep (((l.take ((bwI gd ((l.length : Nat) : Int)).toNat)).length : Nat) : Int) he (bwI fr ((((l.take ((bwI gd ((l.length : Nat) : Int)).toNat)).length) : Nat) : Int)) (subV (subV v 0 ((bwI gd ((l.length : Nat) : Int)).toNat) 4) ((bwI fr ((((l.take ((bwI gd ((l.length : Nat) : Int)).toNat)).length) : Nat) : Int)).toNat) ((l.take ((bwI gd ((l.length : Nat) : Int)).toNat)).length) 4) ((l.take ((bwI gd ((l.length : Nat) : Int)).toNat)).drop ((bwI fr ((((l.take ((bwI gd ((l.length : Nat) : Int)).toNat)).length) : Nat) : Int)).toNat)) w78 hk81 hk89 hk91 hk93 hk95 hk96 (sl_drop (sl_take (hs.below hB85) _ (by omega)) _ (by omega)) (fun z hz => ((fun z hz => (fun z hz => hok z (List.mem_of_mem_take hz)) z (List.mem_of_mem_drop hz)) z hz).below hB85)) (by rintro e x ⟨u, rfl, hq98, hb99⟩; exact ⟨_, rfl, ⟨u, rfl, hq98, hb99⟩⟩)) ?_ ?_; clear h77
 ·
  rintro _ w87 ⟨u97, rfl, hq98, hb99⟩
  have hz100 := hb99.size
  have hl101 := sl_len (row_sl hq98 (intE_len .u64))
  have hB102 := hb_call hB85 hb99
  exact hB102
 rintro _ w87 a86 ⟨u97, rfl, hq98, hb99⟩ h86
 have hz100 := hb99.size
 have hl101 := sl_len (row_sl hq98 (intE_len .u64))
 have hB102 := hb_call hB85 hb99
 have hk108 := hk5.below hb16
 have hk109 := hk108.below hb27
 have hk110 := hk109.kept hg32 (by simp)
 have hk111 := hk110.below hb61
 have hk112 := hk111.below hb73
 have hk113 := hk112.kept hg80 (by simp)
 have hk114 := hk113.below hb99
 refine d1D 12 h86 rfl rfl (op_storeN rfl rfl rfl (all_cons rfl (all_cons rfl (all_cons rfl (all_cons rfl (all_cons rfl (all_cons rfl (all_cons rfl (all_cons rfl (all_cons rfl (all_cons rfl (all_cons rfl (all_cons rfl (all_cons rfl (all_cons rfl (all_cons rfl (all_cons rfl (all_cons rfl (all_cons rfl (all_cons rfl (all_cons rfl (all_cons (row_one hq98) (all_cons rfl all_nil)))))))))))))))))))))) (by kernel_rfl) hk114 rfl) ?_ ?_; clear h86
 ·
  rintro _ w104 ⟨hk105, hz106, hg107⟩
  have hk105' : Blk w104 N3 74 #[.int .i64 4, .int .i64 (mxI ep 0), .int .i64 0, .int .i64 0, .bool false, .int .u64 0, .int .u64 0, .int .i64 (mxI (((l.take ((bwI gd ((l.length : Nat) : Int)).toNat)).length : Nat) : Int) 0), .int .i64 (mxI he 0), .int .i64 (mxI (bwI fr ((((l.take ((bwI gd ((l.length : Nat) : Int)).toNat)).length) : Nat) : Int)) 0), .int .i64 0, .string (⟨#[]⟩), .string (⟨#[]⟩), .int .i64 0, .slice none 0 0, .int .u64 0, .int .i64 0, .int .i64 0, .slice none 0 0, .slice none 0 0, u97, .slice none 0 0] := hk105; clear hk105
  have hz115 := hg107.size
  have hB116 := hb_at hB102 hg107 (by omega)
  exact hB116
 rintro _ w104 a103 ⟨hk105, hz106, hg107⟩ h103
 have hk105' : Blk w104 N3 74 #[.int .i64 4, .int .i64 (mxI ep 0), .int .i64 0, .int .i64 0, .bool false, .int .u64 0, .int .u64 0, .int .i64 (mxI (((l.take ((bwI gd ((l.length : Nat) : Int)).toNat)).length : Nat) : Int) 0), .int .i64 (mxI he 0), .int .i64 (mxI (bwI fr ((((l.take ((bwI gd ((l.length : Nat) : Int)).toNat)).length) : Nat) : Int)) 0), .int .i64 0, .string (⟨#[]⟩), .string (⟨#[]⟩), .int .i64 0, .slice none 0 0, .int .u64 0, .int .i64 0, .int .i64 0, .slice none 0 0, .slice none 0 0, u97, .slice none 0 0] := hk105; clear hk105
 have hz115 := hg107.size
 refine dr_done (by kernel_rfl) ?_
 refine co_then ?_
 refine wp_ret ?_
 refine co_retC (Q := fun _ _ _ => True) h103 rfl rfl hk105' Try.underlying74 rfl (by kernel_rfl) ?_
 have hr116 := row_kept_at hq98 hg107 (own_neT hq98 hk114 (by decide))
 have hB117 := hb_at hB102 hg107 (by omega)
 exact ⟨_, (by rfl), (row_lows hr116 (by omega)), hB117⟩
end Go.Proofs.Ytlbemlodcdgakaa
