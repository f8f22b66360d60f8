/- Put together: StyBGp, StyCGp, StyLGp, StyEGp, GoGp, RlgFGp, AdUGp, AdYGp, AdZGp, AdSGp, StyFGp, StyGGp. Conditions: as each says. -/
import Derived.Test.YtniojcnkjehflaaGq1
import Derived.LoopN
/- Package story: agree, common, Holds, Add. Conditions: up to 100 entries, 100 operations each. -/
namespace Go.Proofs.Ytniojcnkjehflaa
open Go.RowKit Go.PlainAid
set_option linter.unusedVariables false
set_option linter.unusedSimpArgs false


theorem entsH_low {m n : Nat} {w : World} {L : List EntT} (h : EntsH (fun _ => False) m w L) (hn : n ≤ m) : EntsH (fun _ => False) n w L := fun z hz => by
  have k := h z hz
  exact ⟨k.row, fun i hi => .inr (by rcases k.ins i hi with q | q; exact q.elim; omega), k.len, k.each, k.ts0, k.ts1, k.cl, k.rq⟩
def hoE (l l2 : List EntT) : Int := if l2.length < l.length then 7 else if comN l l2 < l.length then 18 else 0
theorem hoE_7 {l l2 : List EntT} (h : l2.length < l.length) : hoE l l2 = 7 := if_pos h
theorem hoE_18 {l l2 : List EntT} (h : ¬ l2.length < l.length) (h2 : comN l l2 < l.length) : hoE l l2 = 18 := by unfold hoE; rw [if_neg h, if_pos h2]
theorem hoE_0 {l l2 : List EntT} (h : ¬ l2.length < l.length) (h2 : ¬ comN l l2 < l.length) : hoE l l2 = 0 := by unfold hoE; rw [if_neg h, if_neg h2]
theorem ok_take {w : World} {l : List EntT} {k : Nat} (h : ∀ z ∈ l, EntOk w z) : ∀ z ∈ l.take k, EntOk w z := fun z hz => h z (List.mem_of_mem_take hz)
theorem eq_arr2 (a b c d : Int) (w : World) : (binOp .eql 121 (.agg #[.int .i64 a, .int .i64 b]) (.agg #[.int .i64 c, .int .i64 d])).run Try.prog w = .ok (.bool (a == c && b == d)) w := by
  have ht := Try.underlying121
  have hE := Try.underlying3
  have hs : ∀ w : World, (sizeOf 3).run Try.prog w = .ok 1 w := fun w => by kernel_rfl
  have hg : ∀ w : World, (isAgg 3).run Try.prog w = .ok false w := fun w => by kernel_rfl
  have hp : ∀ (w : World) (a b : Int) (i : Nat), i < 2 → (part 3 #[.int .i64 a, .int .i64 b] (i * 1)).run Try.prog w = .ok (.int .i64 (if i = 0 then a else b)) w := by
    intro w a b i hi
    match i, hi with
    | 0, _ => simp [part, Sem.run_bind, hg, hs]
    | 1, _ => simp [part, Sem.run_bind, hg, hs]
  have q2 : ∀ (n : Nat) (w : World), (Op.equalIn (n + 1 + 1) 121 (.agg #[.int .i64 a, .int .i64 b]) (.agg #[.int .i64 c, .int .i64 d])).run Try.prog w = .ok (a == c && b == d) w := by
    intro n w
    have e1 : ∀ (w : World) (x y : Int), (Op.equalIn (n + 1) 3 (.int .i64 x) (.int .i64 y)).run Try.prog w = .ok (x == y) w := fun w x y => by
        simp [Op.equalIn, Sem.run_bind, run_underlying hE]
    have h00 := fun w => hp w a b 0 (by omega); have h01 := fun w => hp w a b 1 (by omega)
    have h10 := fun w => hp w c d 0 (by omega); have h11 := fun w => hp w c d 1 (by omega)
    simp only [Nat.zero_mul, Nat.one_mul, if_true, Nat.one_ne_zero, if_false] at h00 h01 h10 h11
    rw [Op.equalIn]
    simp only [Sem.run_bind, run_underlying ht, Result.andThen_ok, hs]
    simp [Std.Legacy.Range.forIn_eq_forIn_range', List.range', Sem.run_bind, h00, h01, h10, h11, e1, Sem.run_ite, hs]
    by_cases h1 : a = c <;> by_cases h2 : b = d <;> simp [h1, h2]
  rw [run_eql_struct, show (10000 : Nat) = 9998 + 1 + 1 from rfl, q2 9998]; rfl
theorem arr2_kl : KL Try.prog 121 arr2K := arr2KL Try.underlying121 Try.underlying3 (fun w => by kernel_rfl) (fun w => by kernel_rfl)
theorem int_z (w : World) : (zeroValue 3).run Try.prog w = .ok (intK 0) w := by kernel_rfl
theorem MapG.eq {K V : Type} [DecidableEq K] {kv : K → Value} {enc : V → Value} {z : V} {w : World} {B : Nat} {g g' : K → V} (h : MapG kv enc z w B g) (e : g = g') : MapG kv enc z w B g' := e ▸ h

set_option maxRecDepth 100000 in
theorem itemWho_any (c : Int) (r : Int) (v : Value) (ts : Int) (w : World)  :
    Calls Try.prog 66 #[.agg #[.int .i64 c, .int .i64 r, v, .int .u64 ts]] w fun e w' => e = .returned (.agg #[.int .i64 c, .int .i64 r]) ∧ Below w.heap.size w w' := by
 have hB0 := Below.refl w.heap.size w
 refine co_enter (n := 10) Try.func66 rfl rfl rfl [(0, .agg #[.int .i64 c, .int .i64 r, v, .int .u64 ts])] rfl (fun a h0 => ?_)
 refine co_seq ?_
 refine co_reg ?_
 refine pw h0 rfl (op_new (v := fun N => pt N 0) (T := 37) (cs := #[.int .i64 c, .int .i64 r, v, .int .u64 ts]) (by kernel_rfl) (by kernel_rfl) (by kernel_rfl)) ?_; clear h0
 rintro _ w2 a1 ⟨N3, rfl, hN6, hz7, hk5, hg4⟩ h1
 have hz8 := hg4.size
 try dsimp only at h1
 refine pw h1 rfl (op_new (v := fun N => pt N 0) (T := 121) (cs := #[.int .i64 0, .int .i64 0]) (by kernel_rfl) (by kernel_rfl) (by kernel_rfl)) ?_; clear h1
 rintro _ w10 a9 ⟨N11, rfl, hN14, hz15, hk13, hg12⟩ h9
 have hz16 := hg12.size
 try dsimp only at h9
 refine pl_nil ?_
 refine co_then ?_
 refine co_seq ?_
 refine co_reg ?_
 refine pk0 (v := pt N3 0) h9 rfl fun a17 h17 => ?_; clear h9
 refine pk0 (v := pt N3 0) h17 rfl fun a18 h18 => ?_; clear h17
 have hk19 := hk5.kept hg12 (by simp)
 refine pk (v := .int .i64 c) h18 rfl (rn_load1 rfl rfl Try.isAgg3 (hk19.cell rfl)) fun a20 h20 => ?_; clear h18
 refine pk0 (v := pt N3 0) h20 rfl fun a21 h21 => ?_; clear h20
 refine pk0 (v := pt N3 1) h21 rfl fun a22 h22 => ?_; clear h21
 refine pk (v := .int .i64 r) h22 rfl (rn_load1 rfl rfl Try.isAgg3 (hk19.cell rfl)) fun a23 h23 => ?_; clear h22
 refine pk0 (v := .agg #[.int .i64 c, .int .i64 r]) h23 rfl fun a24 h24 => ?_; clear h23
 refine pwD h24 rfl (op_storeN rfl rfl rfl (by kernel_rfl) (by kernel_rfl) hk13 rfl) ?_; clear h24
 rintro _ w26 a25 ⟨hk27, hz28, hg29⟩ h25
 have hk27' : Blk w26 N11 121 #[.int .i64 c, .int .i64 r] := hk27; clear hk27
 have hz30 := hg29.size
 refine pl_nil ?_
 refine co_then ?_
 refine wp_ret ?_
 refine co_retC (Q := fun _ _ _ => True) h25 rfl rfl hk27' Try.underlying121 rfl (by kernel_rfl) ?_
 have hB31 := hb_new hB0 hg4
 have hB32 := hb_new hB31 hg12
 have hB33 := hb_at hB32 hg29 (by omega)
 exact ⟨rfl, hB33⟩
set_option maxRecDepth 100000 in
theorem itemTwins_any (c : Int) (r : Int) (v : Value) (ts : Int) (c2 : Int) (r2 : Int) (v2 : Value) (ts2 : Int) (w : World)  :
    Calls Try.prog 47 #[.agg #[.int .i64 c, .int .i64 r, v, .int .u64 ts], .agg #[.int .i64 c2, .int .i64 r2, v2, .int .u64 ts2]] w fun e w' => e = .returned (.bool ((c == (c2 : Int)) && (r == (r2 : Int)))) ∧ Below w.heap.size w w' := by
 have hB0 := Below.refl w.heap.size w
 refine co_enter (n := 10) Try.func47 rfl rfl rfl [(0, .agg #[.int .i64 c, .int .i64 r, v, .int .u64 ts]), (1, .agg #[.int .i64 c2, .int .i64 r2, v2, .int .u64 ts2])] rfl (fun a h0 => ?_)
 refine co_seq ?_
 refine co_reg ?_
 refine pw h0 rfl (op_new (v := fun N => pt N 0) (T := 37) (cs := #[.int .i64 c, .int .i64 r, v, .int .u64 ts]) (by kernel_rfl) (by kernel_rfl) (by kernel_rfl)) ?_; clear h0
 rintro _ w2 a1 ⟨N3, rfl, hN6, hz7, hk5, hg4⟩ h1
 have hz8 := hg4.size
 try dsimp only at h1
 refine pw h1 rfl (op_new (v := fun N => pt N 0) (T := 37) (cs := #[.int .i64 c2, .int .i64 r2, v2, .int .u64 ts2]) (by kernel_rfl) (by kernel_rfl) (by kernel_rfl)) ?_; clear h1
 rintro _ w10 a9 ⟨N11, rfl, hN14, hz15, hk13, hg12⟩ h9
 have hz16 := hg12.size
 try dsimp only at h9
 refine pk0 (v := .bool false) h9 rfl fun a17 h17 => ?_; clear h9
 refine pl_nil ?_
 refine co_then ?_
 refine co_seq ?_
 refine dr_gen (fun x => Below w.heap.size w x ∧ Blk x N3 37 #[.int .i64 c, .int .i64 r, v, .int .u64 ts] ∧ Blk x N11 37 #[.int .i64 c2, .int .i64 r2, v2, .int .u64 ts2]) (by kernel_rfl) (fun w18 hg19 => ?_) (fun w18 hg19 => ?_)
 ·
  have hz20 := hg19.size
  have hB21 := hb_new hB0 hg4
  have hB22 := hb_new hB21 hg12
  have hB23 := hb_new hB22 hg19
  have hk24 := hk5.kept hg12 (by simp)
  have hk25 := hk24.kept hg19 (by simp)
  have hk26 := hk13.kept hg19 (by simp)
  exact ⟨hB23, hk25, hk26⟩
 have hz27 := hg19.size
 have hB28 := hb_new hB0 hg4
 have hB29 := hb_new hB28 hg12
 have hB30 := hb_new hB29 hg19
 have hk31 := hk5.kept hg12 (by simp)
 have hk32 := hk31.kept hg19 (by simp)
 have hk33 := hk13.kept hg19 (by simp)
 refine dk 0 (v := .agg #[.int .i64 c, .int .i64 r, v, .int .u64 ts]) h17 rfl rfl ⟨hB30, hk32, hk33⟩ (fun x hx => (rn_loadN rfl rfl Try.underlying37 rfl (by kernel_rfl) hx.2.1.all)) fun a34 h34 => ?_; clear h17
 refine dk 2 (v := .agg #[.int .i64 c2, .int .i64 r2, v2, .int .u64 ts2]) h34 rfl rfl ⟨hB30, hk32, hk33⟩ (fun x hx => (rn_loadN rfl rfl Try.underlying37 rfl (by kernel_rfl) hx.2.2.all)) fun a35 h35 => ?_; clear h34
 refine d1 1 h35 rfl rfl (op_call (args := #[.agg #[.int .i64 c, .int .i64 r, v, .int .u64 ts]]) (R := fun res xw => res = .agg #[.int .i64 c, .int .i64 r] ∧ Below w18.heap.size w18 xw) rfl rfl rfl (by kernel_rfl) (by kernel_rfl) (Try.call66 _ _) (itemWho_any c r v ts w18 ) (by rintro e x ⟨rfl, hb38⟩; exact ⟨_, rfl, ⟨rfl, hb38⟩⟩)) ?_ ?_; clear h35
 ·
  rintro _ w37 ⟨rfl, hb38⟩
  have hz39 := hb38.size
  have hB40 := hb_call hB30 hb38
  have hk41 := hk32.below hb38
  have hk42 := hk33.below hb38
  exact ⟨hB40, hk41, hk42⟩
 rintro _ w37 a36 ⟨rfl, hb38⟩ h36
 have hz39 := hb38.size
 have hB40 := hb_call hB30 hb38
 have hk41 := hk32.below hb38
 have hk42 := hk33.below hb38
 refine d1 3 h36 rfl rfl (op_call (args := #[.agg #[.int .i64 c2, .int .i64 r2, v2, .int .u64 ts2]]) (R := fun res xw => res = .agg #[.int .i64 c2, .int .i64 r2] ∧ Below w37.heap.size w37 xw) rfl rfl rfl (by kernel_rfl) (by kernel_rfl) (Try.call66 _ _) (itemWho_any c2 r2 v2 ts2 w37 ) (by rintro e x ⟨rfl, hb45⟩; exact ⟨_, rfl, ⟨rfl, hb45⟩⟩)) ?_ ?_; clear h36
 ·
  rintro _ w44 ⟨rfl, hb45⟩
  have hz46 := hb45.size
  have hB47 := hb_call hB40 hb45
  have hk48 := hk41.below hb45
  have hk49 := hk42.below hb45
  exact ⟨hB47, hk48, hk49⟩
 rintro _ w44 a43 ⟨rfl, hb45⟩ h43
 have hz46 := hb45.size
 have hB47 := hb_call hB40 hb45
 have hk48 := hk41.below hb45
 have hk49 := hk42.below hb45
 refine dk 4 (v := .bool (c == c2 && r == r2)) h43 rfl rfl ⟨hB47, hk48, hk49⟩ (fun x hx => (rn_eqS rfl rfl rfl Try.eqGuardType121 (eq_arr2 _ _ _ _ _))) fun a50 h50 => ?_; clear h43
 refine dk0 5 (v := .bool (c == c2 && r == r2)) h50 rfl rfl ⟨hB47, hk48, hk49⟩ fun a51 h51 => ?_; clear h50
 refine dr_done (by kernel_rfl) ?_
 refine co_then ?_
 refine wp_ret ?_
 refine co_ret1 h51 rfl rfl ?_
 exact ⟨ret_bool (by first | rfl | simp_all), hB47⟩
set_option maxRecDepth 100000 in
theorem agree_any (c : Int) (r : Int) (v : Value) (ts : Int) (c2 : Int) (r2 : Int) (v2 : Value) (ts2 : Int) (w : World)  :
    Calls Try.prog 56 #[.agg #[.int .i64 c, .int .i64 r, v, .int .u64 ts], .agg #[.int .i64 c2, .int .i64 r2, v2, .int .u64 ts2]] w fun e w' => e = .returned (.bool (decide (c = c2 ∧ r = r2 ∧ ts = ts2))) ∧ Below w.heap.size w w' := by
 have hB0 := Below.refl w.heap.size w
 refine co_enter (n := 15) Try.func56 rfl rfl rfl [(0, .agg #[.int .i64 c, .int .i64 r, v, .int .u64 ts]), (1, .agg #[.int .i64 c2, .int .i64 r2, v2, .int .u64 ts2])] rfl (fun a h0 => ?_)
 refine co_seq ?_
 refine co_reg ?_
 refine pw h0 rfl (op_new (v := fun N => pt N 0) (T := 37) (cs := #[.int .i64 c, .int .i64 r, v, .int .u64 ts]) (by kernel_rfl) (by kernel_rfl) (by kernel_rfl)) ?_; clear h0
 rintro _ w2 a1 ⟨N3, rfl, hN6, hz7, hk5, hg4⟩ h1
 have hz8 := hg4.size
 try dsimp only at h1
 refine pw h1 rfl (op_new (v := fun N => pt N 0) (T := 37) (cs := #[.int .i64 c2, .int .i64 r2, v2, .int .u64 ts2]) (by kernel_rfl) (by kernel_rfl) (by kernel_rfl)) ?_; clear h1
 rintro _ w10 a9 ⟨N11, rfl, hN14, hz15, hk13, hg12⟩ h9
 have hz16 := hg12.size
 try dsimp only at h9
 refine pk0 (v := .bool false) h9 rfl fun a17 h17 => ?_; clear h9
 refine pl_nil ?_
 refine co_then ?_
 refine co_seq ?_
 refine co_reg ?_
 have hk18 := hk5.kept hg12 (by simp)
 refine pk (v := .agg #[.int .i64 c, .int .i64 r, v, .int .u64 ts]) h17 rfl (rn_loadN rfl rfl Try.underlying37 rfl (by kernel_rfl) hk18.all) fun a19 h19 => ?_; clear h17
 refine pk (v := .agg #[.int .i64 c2, .int .i64 r2, v2, .int .u64 ts2]) h19 rfl (rn_loadN rfl rfl Try.underlying37 rfl (by kernel_rfl) hk13.all) fun a20 h20 => ?_; clear h19
 refine pw h20 rfl (op_call (args := #[.agg #[.int .i64 c, .int .i64 r, v, .int .u64 ts], .agg #[.int .i64 c2, .int .i64 r2, v2, .int .u64 ts2]]) (R := fun res xw => res = .bool ((c == (c2 : Int)) && (r == (r2 : Int))) ∧ Below w10.heap.size w10 xw) rfl rfl rfl (by kernel_rfl) (by kernel_rfl) (Try.call47 _ _) (itemTwins_any c r v ts c2 r2 v2 ts2 w10 ) (by rintro e x ⟨rfl, hb23⟩; exact ⟨_, rfl, ⟨rfl, hb23⟩⟩)) ?_; clear h20
 rintro _ w22 a21 ⟨rfl, hb23⟩ h21
 have hz24 := hb23.size
 refine pk0 (v := .bool ((c == (c2 : Int)) && (r == (r2 : Int)))) h21 rfl fun a25 h25 => ?_; clear h21
 have hB27 := hb_new hB0 hg4
 have hB28 := hb_new hB27 hg12
 have hB29 := hb_call hB28 hb23
 cases hc26 : (((c == (c2 : Int)) && (r == (r2 : Int))))
 ·
  rw [hc26] at h25
  have hp30 : ¬ (c = c2 ∧ r = r2) := by first | simpa using hc26 | simpa [and_assoc] using hc26
  clear hc26
  refine psk h25 rfl fun a31 h31 => ?_; clear h25
  refine psk h31 rfl fun a32 h32 => ?_; clear h31
  refine psk h32 rfl fun a33 h33 => ?_; clear h32
  refine psk h33 rfl fun a34 h34 => ?_; clear h33
  refine psk h34 rfl fun a35 h35 => ?_; clear h34
  refine pk0 (v := .bool false) h35 rfl fun a36 h36 => ?_; clear h35
  refine pk0 (v := .bool false) h36 rfl fun a37 h37 => ?_; clear h36
  refine pl_nil ?_
  refine co_then ?_
  refine wp_ret ?_
  refine co_ret1 h37 rfl rfl ?_
  exact ⟨ret_bool (by first | (symm; exact decide_eq_true (by omega)) | (symm; exact decide_eq_false (by omega)) | (simp_all; done) | (simp_all; rfl)), hB29⟩
 ·
  rw [hc26] at h25
  have hp38 : c = c2 ∧ r = r2 := by first | simpa using hc26 | simpa [and_assoc] using hc26
  clear hc26
  refine pk0 (v := pt N3 3) h25 rfl fun a39 h39 => ?_; clear h25
  have hk40 := hk18.below hb23
  refine pk (v := .int .u64 ts) h39 rfl (rn_load1 rfl rfl Try.isAgg23 (hk40.cell rfl)) fun a41 h41 => ?_; clear h39
  refine pk0 (v := pt N11 3) h41 rfl fun a42 h42 => ?_; clear h41
  have hk43 := hk13.below hb23
  refine pk (v := .int .u64 ts2) h42 rfl (rn_load1 rfl rfl Try.isAgg23 (hk43.cell rfl)) fun a44 h44 => ?_; clear h42
  refine pk0 (v := .bool (ts == ts2)) h44 rfl fun a45 h45 => ?_; clear h44
  refine pk0 (v := .bool (ts == ts2)) h45 rfl fun a46 h46 => ?_; clear h45
  refine pk0 (v := .bool (ts == ts2)) h46 rfl fun a47 h47 => ?_; clear h46
  refine pl_nil ?_
  refine co_then ?_
  refine wp_ret ?_
  refine co_ret1 h47 rfl rfl ?_
  exact ⟨ret_bool (by first | (symm; exact decide_eq_true (by omega)) | (symm; exact decide_eq_false (by omega)) | (simp_all; done) | (simp_all; rfl)), hB29⟩
set_option maxRecDepth 100000 in
theorem common_any (v : Value) (l : List EntT) (v2 : Value) (l2 : List EntT) (w : World) (hs : SliceOf entE 4 w v l) (hok : ∀ z ∈ l, EntOk w z) (hs2 : SliceOf entE 4 w v2 l2) (hok2 : ∀ z ∈ l2, EntOk w z) :
    Calls Try.prog 55 #[v, v2, .func (.func 56) #[] #[]] w fun e w' => e = .returned (.int .i64 ((comN l l2 : Nat) : Int)) ∧ Below w.heap.size w w' := by
 have hB0 := Below.refl w.heap.size w
 have hl_hs := sl_len hs
 have hl_hs2 := sl_len hs2
 refine co_enter (n := 33) Try.func55 rfl rfl rfl [(0, v), (1, v2), (2, .func (.func 56) #[] #[])] rfl (fun a h0 => ?_)
 refine co_seq ?_
 refine co_reg ?_
 refine pk0 (v := .int .i64 0) h0 rfl fun a1 h1 => ?_; clear h0
 refine pl_nil ?_
 refine co_then ?_
 refine co_seq ?_
 refine co_reg ?_
 refine pk0 (v := .int .i64 0) h1 rfl fun a2 h2 => ?_; clear h1
 refine pl_nil ?_
 refine co_then ?_
 refine co_seq ?_
 refine wp_block ?_
 have h3 : Slots 33 [(0, v), (1, v2), (2, .func (.func 56) #[] #[]), (7, .int .i64 0)] _ := h2.sub ⟨rfl, rfl, rfl, rfl, trivial⟩; clear h2
 refine co_loop (fun mm a x => ∃ (n : Nat), Slots 33 [(0, v), (1, v2), (2, .func (.func 56) #[] #[]), (7, .int .i64 ((n : Nat) : Int))] a ∧ mm = l.length - n ∧ (n ≤ l.length) ∧ (n ≤ l2.length) ∧ (comN (l.drop n) (l2.drop n) + n = comN l l2) ∧ Below w.heap.size w x) (l.length - 0) ?_ ?_
 · exact ⟨0, h3.sub ⟨rfl, rfl, rfl, (slot_eq rfl (congrArg (Value.int .i64) (by first | rfl | omega))), trivial⟩, rfl, by omega, by omega, by first | rfl | exact hc9, hB0⟩
 · rintro k4 a5 w6 ⟨n, h5, rfl, hi7, hi8, hi9, hB10⟩
   have hz11 := hB10.size
   refine co_seq ?_
   refine co_seq ?_
   refine dr_gen (fun x => Below w.heap.size w x) (by kernel_rfl) (fun w12 hg13 => ?_) (fun w12 hg13 => ?_)
   ·
    have hz14 := hg13.size
    have hB15 := hb_new hB10 hg13
    exact hB15
   have hz16 := hg13.size
   have hB17 := hb_new hB10 hg13
   refine dk0 0 (v := .int .i64 ((n : Nat) : Int)) h5 rfl rfl hB17 fun a18 h18 => ?_; clear h5
   refine dk0 1 (v := v) h18 rfl rfl hB17 fun a19 h19 => ?_; clear h18
   refine dk 2 (v := .int .i64 ((l.length : Nat) : Int)) h19 rfl rfl hB17 (fun x hx => (rn_len rfl rfl Try.underlying29 (hs.below hx))) fun a20 h20 => ?_; clear h19
   refine dk0 3 (v := .bool (decide (((n : Nat) : Int) < ((l.length : Nat) : Int)))) h20 rfl rfl hB17 fun a21 h21 => ?_; clear h20
   refine dk0 4 (v := .bool (decide (((n : Nat) : Int) < ((l.length : Nat) : Int)))) h21 rfl rfl hB17 fun a22 h22 => ?_; clear h21
   cases hc23 : (decide (((n : Nat) : Int) < ((l.length : Nat) : Int)))
   ·
    rw [hc23] at h22
    have hp24 : ¬ (((n : Nat) : Int) < ((l.length : Nat) : Int)) := of_decide_eq_false hc23
    clear hc23
    refine dsk 5 h22 rfl rfl hB17 fun a25 h25 => ?_; clear h22
    refine dsk 6 h25 rfl rfl hB17 fun a26 h26 => ?_; clear h25
    refine dsk 7 h26 rfl rfl hB17 fun a27 h27 => ?_; clear h26
    refine dsk 8 h27 rfl rfl hB17 fun a28 h28 => ?_; clear h27
    refine dk0 9 (v := .bool false) h28 rfl rfl hB17 fun a29 h29 => ?_; clear h28
    refine dk0 10 (v := .bool false) h29 rfl rfl hB17 fun a30 h30 => ?_; clear h29
    refine dsk 11 h30 rfl rfl hB17 fun a31 h31 => ?_; clear h30
    refine dsk 12 h31 rfl rfl hB17 fun a32 h32 => ?_; clear h31
    refine dsk 13 h32 rfl rfl hB17 fun a33 h33 => ?_; clear h32
    refine dsk 14 h33 rfl rfl hB17 fun a34 h34 => ?_; clear h33
    refine dsk 15 h34 rfl rfl hB17 fun a35 h35 => ?_; clear h34
    refine dsk 16 h35 rfl rfl hB17 fun a36 h36 => ?_; clear h35
    refine dsk 17 h36 rfl rfl hB17 fun a37 h37 => ?_; clear h36
    refine dsk 18 h37 rfl rfl hB17 fun a38 h38 => ?_; clear h37
    refine dsk 19 h38 rfl rfl hB17 fun a39 h39 => ?_; clear h38
    refine dsk 20 h39 rfl rfl hB17 fun a40 h40 => ?_; clear h39
    refine dk0 21 (v := .bool false) h40 rfl rfl hB17 fun a41 h41 => ?_; clear h40
    refine dr_done (by kernel_rfl) ?_
    refine co_then ?_
    refine co_false h41 rfl ?_
    refine wp_exit ?_
    refine co_thenX ?_
    refine co_thenX ?_
    refine co_blockX ?_
    refine co_then ?_
    refine co_seq ?_
    refine co_reg ?_
    refine pk0 (v := .int .i64 ((n : Nat) : Int)) h41 rfl fun a42 h42 => ?_; clear h41
    refine pk0 (v := .int .i64 ((n : Nat) : Int)) h42 rfl fun a43 h43 => ?_; clear h42
    refine pl_nil ?_
    refine co_then ?_
    refine wp_ret ?_
    refine co_ret1 h43 rfl rfl ?_
    exact ⟨by rw [com_end (by assumption : comN (l.drop n) (l2.drop n) + n = comN l l2) (by omega)], hB17⟩
   ·
    rw [hc23] at h22
    have hp44 : ((n : Nat) : Int) < ((l.length : Nat) : Int) := of_decide_eq_true hc23
    clear hc23
    refine dk0 5 (v := .int .i64 ((n : Nat) : Int)) h22 rfl rfl hB17 fun a45 h45 => ?_; clear h22
    refine dk0 6 (v := v2) h45 rfl rfl hB17 fun a46 h46 => ?_; clear h45
    refine dk 7 (v := .int .i64 ((l2.length : Nat) : Int)) h46 rfl rfl hB17 (fun x hx => (rn_len rfl rfl Try.underlying29 (hs2.below hx))) fun a47 h47 => ?_; clear h46
    refine dk0 8 (v := .bool (decide (((n : Nat) : Int) < ((l2.length : Nat) : Int)))) h47 rfl rfl hB17 fun a48 h48 => ?_; clear h47
    refine dk0 9 (v := .bool (decide (((n : Nat) : Int) < ((l2.length : Nat) : Int)))) h48 rfl rfl hB17 fun a49 h49 => ?_; clear h48
    refine dk0 10 (v := .bool (decide (((n : Nat) : Int) < ((l2.length : Nat) : Int)))) h49 rfl rfl hB17 fun a50 h50 => ?_; clear h49
    cases hc51 : (decide (((n : Nat) : Int) < ((l2.length : Nat) : Int)))
    ·
     rw [hc51] at h50
     have hp52 : ¬ (((n : Nat) : Int) < ((l2.length : Nat) : Int)) := of_decide_eq_false hc51
     clear hc51
     refine dsk 11 h50 rfl rfl hB17 fun a53 h53 => ?_; clear h50
     refine dsk 12 h53 rfl rfl hB17 fun a54 h54 => ?_; clear h53
     refine dsk 13 h54 rfl rfl hB17 fun a55 h55 => ?_; clear h54
     refine dsk 14 h55 rfl rfl hB17 fun a56 h56 => ?_; clear h55
     refine dsk 15 h56 rfl rfl hB17 fun a57 h57 => ?_; clear h56
     refine dsk 16 h57 rfl rfl hB17 fun a58 h58 => ?_; clear h57
     refine dsk 17 h58 rfl rfl hB17 fun a59 h59 => ?_; clear h58
     refine dsk 18 h59 rfl rfl hB17 fun a60 h60 => ?_; clear h59
     refine dsk 19 h60 rfl rfl hB17 fun a61 h61 => ?_; clear h60
     refine dsk 20 h61 rfl rfl hB17 fun a62 h62 => ?_; clear h61
     refine dk0 21 (v := .bool false) h62 rfl rfl hB17 fun a63 h63 => ?_; clear h62
     refine dr_done (by kernel_rfl) ?_
     refine co_then ?_
     refine co_false h63 rfl ?_
     refine wp_exit ?_
     refine co_thenX ?_
     refine co_thenX ?_
     refine co_blockX ?_
     refine co_then ?_
     refine co_seq ?_
     refine co_reg ?_
     refine pk0 (v := .int .i64 ((n : Nat) : Int)) h63 rfl fun a64 h64 => ?_; clear h63
     refine pk0 (v := .int .i64 ((n : Nat) : Int)) h64 rfl fun a65 h65 => ?_; clear h64
     refine pl_nil ?_
     refine co_then ?_
     refine wp_ret ?_
     refine co_ret1 h65 rfl rfl ?_
     exact ⟨by rw [com_end (by assumption : comN (l.drop n) (l2.drop n) + n = comN l l2) (by omega)], hB17⟩
    ·
     rw [hc51] at h50
     have hp66 : ((n : Nat) : Int) < ((l2.length : Nat) : Int) := of_decide_eq_true hc51
     clear hc51
     refine dk0 11 (v := .func (.func 56) #[] #[]) h50 rfl rfl hB17 fun a67 h67 => ?_; clear h50
     refine dk0 12 (v := v) h67 rfl rfl hB17 fun a68 h68 => ?_; clear h67
     refine dk0 13 (v := .int .i64 ((n : Nat) : Int)) h68 rfl rfl hB17 fun a69 h69 => ?_; clear h68
     obtain ⟨y70, hy70⟩ : ∃ z, l[n]? = some z := ⟨_, List.getElem?_eq_getElem (by first | omega | (simp; done) | (simp; omega))⟩
     have oky70 := hok _ (List.mem_of_getElem? hy70)
     have k71 : 0 ≤ y70.ts := oky70.ts0
     have k72 : y70.ts < 18446744073709551616 := oky70.ts1
     refine dk 14 (v := pt (blkOf v) (offOf v + n * 4)) h69 rfl rfl hB17 (fun x hx => (rn_index rfl rfl rfl Try.underlying29 Try.sizeOf37 (hs.below hx) (by omega) (by first | omega | (simp; done) | (simp; omega)))) fun a73 h73 => ?_; clear h69
     refine dk 15 (v := .agg #[.int .i64 y70.client, .int .i64 y70.req, y70.ops, .int .u64 y70.ts]) h73 rfl rfl hB17 (fun x hx => (rn_loadN rfl rfl Try.underlying37 rfl (by kernel_rfl) (sl_at (hs.below hx) hy70))) fun a74 h74 => ?_; clear h73
     refine dk0 16 (v := v2) h74 rfl rfl hB17 fun a75 h75 => ?_; clear h74
     refine dk0 17 (v := .int .i64 ((n : Nat) : Int)) h75 rfl rfl hB17 fun a76 h76 => ?_; clear h75
     obtain ⟨y77, hy77⟩ : ∃ z, l2[n]? = some z := ⟨_, List.getElem?_eq_getElem (by first | omega | (simp; done) | (simp; omega))⟩
     have oky77 := hok2 _ (List.mem_of_getElem? hy77)
     have k78 : 0 ≤ y77.ts := oky77.ts0
     have k79 : y77.ts < 18446744073709551616 := oky77.ts1
     refine dk 18 (v := pt (blkOf v2) (offOf v2 + n * 4)) h76 rfl rfl hB17 (fun x hx => (rn_index rfl rfl rfl Try.underlying29 Try.sizeOf37 (hs2.below hx) (by omega) (by first | omega | (simp; done) | (simp; omega)))) fun a80 h80 => ?_; clear h76
     refine dk 19 (v := .agg #[.int .i64 y77.client, .int .i64 y77.req, y77.ops, .int .u64 y77.ts]) h80 rfl rfl hB17 (fun x hx => (rn_loadN rfl rfl Try.underlying37 rfl (by kernel_rfl) (sl_at (hs2.below hx) hy77))) fun a81 h81 => ?_; clear h80
     refine d1 20 h81 rfl rfl (op_call (args := #[.agg #[.int .i64 y70.client, .int .i64 y70.req, y70.ops, .int .u64 y70.ts], .agg #[.int .i64 y77.client, .int .i64 y77.req, y77.ops, .int .u64 y77.ts]]) (R := fun res xw => res = .bool (decide (y70.client = y77.client ∧ y70.req = y77.req ∧ y70.ts = y77.ts)) ∧ Below w12.heap.size w12 xw) rfl rfl rfl (by kernel_rfl) (by kernel_rfl) (Try.call56 _ _) (agree_any y70.client y70.req y70.ops y70.ts y77.client y77.req y77.ops y77.ts w12 ) (by rintro e x ⟨rfl, hb84⟩; exact ⟨_, rfl, ⟨rfl, hb84⟩⟩)) ?_ ?_; clear h81
     ·
      rintro _ w83 ⟨rfl, hb84⟩
      have hz85 := hb84.size
      have hB86 := hb_call hB17 hb84
      exact hB86
     rintro _ w83 a82 ⟨rfl, hb84⟩ h82
     have hz85 := hb84.size
     have hB86 := hb_call hB17 hb84
     refine dk0 21 (v := .bool (decide (y70.client = y77.client ∧ y70.req = y77.req ∧ y70.ts = y77.ts))) h82 rfl rfl hB86 fun a87 h87 => ?_; clear h82
     refine dr_done (by kernel_rfl) ?_
     refine co_then ?_
     cases hc88 : (decide (y70.client = y77.client ∧ y70.req = y77.req ∧ y70.ts = y77.ts))
     ·
      rw [hc88] at h87
      have hp89 : ¬ (y70.client = y77.client ∧ y70.req = y77.req ∧ y70.ts = y77.ts) := of_decide_eq_false hc88
      clear hc88
      refine co_false h87 rfl ?_
      refine wp_exit ?_
      refine co_thenX ?_
      refine co_thenX ?_
      refine co_blockX ?_
      refine co_then ?_
      refine co_seq ?_
      refine co_reg ?_
      refine pk0 (v := .int .i64 ((n : Nat) : Int)) h87 rfl fun a90 h90 => ?_; clear h87
      refine pk0 (v := .int .i64 ((n : Nat) : Int)) h90 rfl fun a91 h91 => ?_; clear h90
      refine pl_nil ?_
      refine co_then ?_
      refine wp_ret ?_
      refine co_ret1 h91 rfl rfl ?_
      exact ⟨by rw [com_no (by assumption : comN (l.drop n) (l2.drop n) + n = comN l l2) hy70 hy77 (decide_eq_false (by omega))], hB86⟩
     ·
      rw [hc88] at h87
      have hp92 : y70.client = y77.client ∧ y70.req = y77.req ∧ y70.ts = y77.ts := of_decide_eq_true hc88
      clear hc88
      refine co_true h87 rfl ?_
      refine wp_skip ?_
      refine co_then ?_
      refine wp_block ?_
      refine co_reg ?_
      refine pk0 (v := .int .i64 ((n : Nat) : Int)) h87 rfl fun a93 h93 => ?_; clear h87
      refine pk (v := .int .i64 ((n + 1 : Nat) : Int)) h93 rfl (rn_arith' rfl rfl rfl rfl rfl rfl (IntWalk.i64_in _ (by omega)) (by omega)) fun a94 h94 => ?_; clear h93
      refine pk0 (v := .int .i64 ((n + 1 : Nat) : Int)) h94 rfl fun a95 h95 => ?_; clear h94
      refine pl_nil ?_
      refine co_blockN ?_
      refine co_then ?_
      refine ⟨(l.length - (n + 1)), by omega, ?_⟩
      have hc9 := com_step (by assumption : comN (l.drop n) (l2.drop n) + n = comN l l2) hy70 hy77 (decide_eq_true (by omega))
      exact ⟨n + 1, h95.sub ⟨rfl, rfl, rfl, rfl, trivial⟩, rfl, by omega, by omega, by first | rfl | exact hc9, hB86⟩
set_option maxRecDepth 100000 in
theorem holds_any (v : Value) (l : List EntT) (v2 : Value) (l2 : List EntT) (w : World) (hs : SliceOf entE 4 w v l) (hok : ∀ z ∈ l, EntOk w z) (hs2 : SliceOf entE 4 w v2 l2) (hok2 : ∀ z ∈ l2, EntOk w z) :
    Calls Try.prog 29 #[v, v2] w fun e w' => e = .returned (.int .i64 (hoE l l2)) ∧ Below w.heap.size w w' := by
 have hB0 := Below.refl w.heap.size w
 have hl_hs := sl_len hs
 have hl_hs2 := sl_len hs2
 refine co_enter (n := 16) Try.func29 rfl rfl rfl [(0, v), (1, v2)] rfl (fun a h0 => ?_)
 refine co_seq ?_
 refine co_reg ?_
 refine pk0 (v := .int .i64 0) h0 rfl fun a1 h1 => ?_; clear h0
 refine pl_nil ?_
 refine co_then ?_
 refine co_seq ?_
 refine co_seq ?_
 refine co_reg ?_
 refine pk0 (v := v2) h1 rfl fun a2 h2 => ?_; clear h1
 refine pk (v := .int .i64 ((l2.length : Nat) : Int)) h2 rfl (rn_len rfl rfl Try.underlying29 hs2) fun a3 h3 => ?_; clear h2
 refine pk0 (v := v) h3 rfl fun a4 h4 => ?_; clear h3
 refine pk (v := .int .i64 ((l.length : Nat) : Int)) h4 rfl (rn_len rfl rfl Try.underlying29 hs) fun a5 h5 => ?_; clear h4
 refine pk0 (v := .bool (decide (((l2.length : Nat) : Int) < ((l.length : Nat) : Int)))) h5 rfl fun a6 h6 => ?_; clear h5
 refine pl_nil ?_
 refine co_then ?_
 cases hc7 : (decide (((l2.length : Nat) : Int) < ((l.length : Nat) : Int)))
 ·
  rw [hc7] at h6
  have hp8 : ¬ (((l2.length : Nat) : Int) < ((l.length : Nat) : Int)) := of_decide_eq_false hc7
  clear hc7
  refine co_false h6 rfl ?_
  refine wp_skip ?_
  refine co_then ?_
  refine co_seq ?_
  refine co_seq ?_
  refine co_reg ?_
  refine pk0 (v := v) h6 rfl fun a9 h9 => ?_; clear h6
  refine pk0 (v := v2) h9 rfl fun a10 h10 => ?_; clear h9
  refine pw h10 rfl (op_call (args := #[v, v2, .func (.func 56) #[] #[]]) (R := fun res xw => res = .int .i64 ((comN l l2 : Nat) : Int) ∧ Below w.heap.size w xw) rfl rfl rfl (by kernel_rfl) (by kernel_rfl) (Try.call55 _ _) (common_any v l v2 l2 w hs (fun z hz => (hok z hz).below hB0) hs2 (fun z hz => (hok2 z hz).below hB0)) (by rintro e x ⟨rfl, hb13⟩; exact ⟨_, rfl, ⟨rfl, hb13⟩⟩)) ?_; clear h10
  rintro _ w12 a11 ⟨rfl, hb13⟩ h11
  have hz14 := hb13.size
  have hcm15 := com_le l l2
  refine pk0 (v := v) h11 rfl fun a16 h16 => ?_; clear h11
  have hB17 := hb_call hB0 hb13
  refine pk (v := .int .i64 ((l.length : Nat) : Int)) h16 rfl (rn_len rfl rfl Try.underlying29 (hs.below hB17)) fun a18 h18 => ?_; clear h16
  refine pk0 (v := .bool (decide (((comN l l2 : Nat) : Int) < ((l.length : Nat) : Int)))) h18 rfl fun a19 h19 => ?_; clear h18
  refine pl_nil ?_
  refine co_then ?_
  cases hc20 : (decide (((comN l l2 : Nat) : Int) < ((l.length : Nat) : Int)))
  ·
   rw [hc20] at h19
   have hp21 : ¬ (((comN l l2 : Nat) : Int) < ((l.length : Nat) : Int)) := of_decide_eq_false hc20
   clear hc20
   refine co_false h19 rfl ?_
   refine wp_skip ?_
   refine co_then ?_
   refine co_seq ?_
   refine co_reg ?_
   refine pk0 (v := .int .i64 0) h19 rfl fun a22 h22 => ?_; clear h19
   refine pl_nil ?_
   refine co_then ?_
   refine wp_ret ?_
   refine co_ret1 h22 rfl rfl ?_
   exact ⟨ret_int (by first | exact (hoE_7 (by omega)).symm | exact (hoE_18 (by omega) (by omega)).symm | exact (hoE_0 (by omega) (by omega)).symm), hB17⟩
  ·
   rw [hc20] at h19
   have hp23 : ((comN l l2 : Nat) : Int) < ((l.length : Nat) : Int) := of_decide_eq_true hc20
   clear hc20
   refine co_true h19 rfl ?_
   refine co_seq ?_
   refine co_reg ?_
   refine pk0 (v := .int .i64 18) h19 rfl fun a24 h24 => ?_; clear h19
   refine pl_nil ?_
   refine co_then ?_
   refine wp_ret ?_
   refine co_thenR ?_
   refine co_ret1 h24 rfl rfl ?_
   exact ⟨ret_int (by first | exact (hoE_7 (by omega)).symm | exact (hoE_18 (by omega) (by omega)).symm | exact (hoE_0 (by omega) (by omega)).symm), hB17⟩
 ·
  rw [hc7] at h6
  have hp25 : ((l2.length : Nat) : Int) < ((l.length : Nat) : Int) := of_decide_eq_true hc7
  clear hc7
  refine co_true h6 rfl ?_
  refine co_seq ?_
  refine co_reg ?_
  refine pk0 (v := .int .i64 7) h6 rfl fun a26 h26 => ?_; clear h6
  refine pl_nil ?_
  refine co_then ?_
  refine wp_ret ?_
  refine co_thenR ?_
  refine co_ret1 h26 rfl rfl ?_
  exact ⟨ret_int (by first | exact (hoE_7 (by omega)).symm | exact (hoE_18 (by omega) (by omega)).symm | exact (hoE_0 (by omega) (by omega)).symm), hB0⟩
set_option maxRecDepth 100000 in
theorem addNo_any (v : Value) (l : List EntT) (v2 : Value) (l2 : List EntT) (sb : Int) (w : World) (hs : SliceOf entE 4 w v l) (hok : ∀ z ∈ l, EntOk w z) (hs2 : SliceOf entE 4 w v2 l2) (hok2 : ∀ z ∈ l2, EntOk w z) (hl20 : ∀ z ∈ l, z.opl.length ≤ 100) (hlen : l.length ≤ 100) (hlen2 : l2.length ≤ 100) (hsb : -9223372036854775808 ≤ sb ∧ sb ≤ 9223372036854775807) (hc : comN l (l2.take ((mnI (mxI sb 0) ((stN l2 : Nat) : Int)).toNat)) < min l.length (l2.take ((mnI (mxI sb 0) ((stN l2 : Nat) : Int)).toNat)).length) :
    Calls Try.prog 26 #[v, v2, .int .i64 sb] w fun e w' => e = .returned (.tuple #[.slice none 0 0, .int .i64 18]) ∧ Below w.heap.size w w' := by
 have hmx9 := mxI_p sb 0
 have hmn9 := mnI_p (mxI sb 0) ((stN l2 : Nat) : Int)
 have hst9 := stN_le l2
 have hcl9 := com_le l (l2.take ((mnI (mxI sb 0) ((stN l2 : Nat) : Int)).toNat))
 have hkl9 : (l2.take ((mnI (mxI sb 0) ((stN l2 : Nat) : Int)).toNat)).length = (mnI (mxI sb 0) ((stN l2 : Nat) : Int)).toNat := by rw [List.length_take]; omega
 have hB0 := Below.refl w.heap.size w
 have hl_hs := sl_len hs
 have hl_hs2 := sl_len hs2
 refine co_enter (n := 56) Try.func26 rfl rfl rfl [(0, v), (1, v2), (2, .int .i64 sb)] rfl (fun a h0 => ?_)
 refine co_seq ?_
 refine co_reg ?_
 refine pk0 (v := .slice none 0 0) h0 rfl fun a1 h1 => ?_; clear h0
 refine pk0 (v := .int .i64 0) h1 rfl fun a2 h2 => ?_; clear h1
 refine pl_nil ?_
 refine co_then ?_
 refine co_seq ?_
 refine co_reg ?_
 refine pk0 (v := v2) h2 rfl fun a3 h3 => ?_; clear h2
 refine pk0 (v := .int .i64 sb) h3 rfl fun a4 h4 => ?_; clear h3
 have hmm5 := mxI_p sb 0
 refine pk0 (v := .int .i64 (mxI sb 0)) h4 rfl fun a6 h6 => ?_; clear h4
 refine pk0 (v := v2) h6 rfl fun a7 h7 => ?_; clear h6
 refine pw h7 rfl (op_call (args := #[v2]) (R := fun res xw => res = .int .i64 ((stN l2 : Nat) : Int) ∧ Below w.heap.size w xw) rfl rfl rfl (by kernel_rfl) (by kernel_rfl) (Try.call54 _ _) (itemStamped_any v2 l2 w hs2 (fun z hz => (hok2 z hz).below hB0)) (by rintro e x ⟨rfl, hb10⟩; exact ⟨_, rfl, ⟨rfl, hb10⟩⟩)) ?_; clear h7
 rintro _ w9 a8 ⟨rfl, hb10⟩ h8
 have hz11 := hb10.size
 have hmm12 := mnI_p (mxI sb 0) ((stN l2 : Nat) : Int)
 refine pk0 (v := .int .i64 (mnI (mxI sb 0) ((stN l2 : Nat) : Int))) h8 rfl fun a13 h13 => ?_; clear h8
 have hB14 := hb_call hB0 hb10
 refine pk (v := subV v2 0 ((mnI (mxI sb 0) ((stN l2 : Nat) : Int)).toNat) 4) h13 rfl (rn_sliceTo rfl rfl rfl Try.underlying29 Try.sizeOf37 (hs2.below hB14) (by omega) (by omega)) fun a15 h15 => ?_; clear h13
 refine pk0 (v := subV v2 0 ((mnI (mxI sb 0) ((stN l2 : Nat) : Int)).toNat) 4) h15 rfl fun a16 h16 => ?_; clear h15
 refine pl_nil ?_
 refine co_then ?_
 refine co_seq ?_
 refine co_seq ?_
 refine co_reg ?_
 refine pk0 (v := v) h16 rfl fun a17 h17 => ?_; clear h16
 refine pk0 (v := subV v2 0 ((mnI (mxI sb 0) ((stN l2 : Nat) : Int)).toNat) 4) h17 rfl fun a18 h18 => ?_; clear h17
 refine pw h18 rfl (op_call (args := #[v, subV v2 0 ((mnI (mxI sb 0) ((stN l2 : Nat) : Int)).toNat) 4, .func (.func 56) #[] #[]]) (R := fun res xw => res = .int .i64 ((comN l (l2.take ((mnI (mxI sb 0) ((stN l2 : Nat) : Int)).toNat)) : Nat) : Int) ∧ Below w9.heap.size w9 xw) rfl rfl rfl (by kernel_rfl) (by kernel_rfl) (Try.call55 _ _) (common_any v l (subV v2 0 ((mnI (mxI sb 0) ((stN l2 : Nat) : Int)).toNat) 4) (l2.take ((mnI (mxI sb 0) ((stN l2 : Nat) : Int)).toNat)) w9 (hs.below hB14) (fun z hz => (hok z hz).below hB14) (sl_take (hs2.below hB14) _ (by omega)) (fun z hz => ((ok_take hok2) z hz).below hB14)) (by rintro e x ⟨rfl, hb21⟩; exact ⟨_, rfl, ⟨rfl, hb21⟩⟩)) ?_; clear h18
 rintro _ w20 a19 ⟨rfl, hb21⟩ h19
 have hz22 := hb21.size
 have hcm23 := com_le l (l2.take ((mnI (mxI sb 0) ((stN l2 : Nat) : Int)).toNat))
 refine pk0 (v := v) h19 rfl fun a24 h24 => ?_; clear h19
 have hB25 := hb_call hB14 hb21
 refine pk (v := .int .i64 ((l.length : Nat) : Int)) h24 rfl (rn_len rfl rfl Try.underlying29 (hs.below hB25)) fun a26 h26 => ?_; clear h24
 refine pk0 (v := subV v2 0 ((mnI (mxI sb 0) ((stN l2 : Nat) : Int)).toNat) 4) h26 rfl fun a27 h27 => ?_; clear h26
 refine pk (v := .int .i64 (((l2.take ((mnI (mxI sb 0) ((stN l2 : Nat) : Int)).toNat)).length : Nat) : Int)) h27 rfl (rn_len rfl rfl Try.underlying29 (sl_take (hs2.below hB25) _ (by omega))) fun a28 h28 => ?_; clear h27
 have hmm29 := mnI_p ((l.length : Nat) : Int) (((l2.take ((mnI (mxI sb 0) ((stN l2 : Nat) : Int)).toNat)).length : Nat) : Int)
 refine pk0 (v := .int .i64 (mnI ((l.length : Nat) : Int) (((l2.take ((mnI (mxI sb 0) ((stN l2 : Nat) : Int)).toNat)).length : Nat) : Int))) h28 rfl fun a30 h30 => ?_; clear h28
 refine pk0 (v := .bool (decide (((comN l (l2.take ((mnI (mxI sb 0) ((stN l2 : Nat) : Int)).toNat)) : Nat) : Int) < mnI ((l.length : Nat) : Int) (((l2.take ((mnI (mxI sb 0) ((stN l2 : Nat) : Int)).toNat)).length : Nat) : Int)))) h30 rfl fun a31 h31 => ?_; clear h30
 refine pl_nil ?_
 refine co_then ?_
 have hc32 : (decide (((comN l (l2.take ((mnI (mxI sb 0) ((stN l2 : Nat) : Int)).toNat)) : Nat) : Int) < mnI ((l.length : Nat) : Int) (((l2.take ((mnI (mxI sb 0) ((stN l2 : Nat) : Int)).toNat)).length : Nat) : Int))) = true := decide_eq_true (by omega)
 rw [hc32] at h31; clear hc32
 refine co_true h31 rfl ?_
 refine co_seq ?_
 refine co_reg ?_
 refine pk0 (v := .slice none 0 0) h31 rfl fun a33 h33 => ?_; clear h31
 refine pk0 (v := .int .i64 18) h33 rfl fun a34 h34 => ?_; clear h33
 refine pl_nil ?_
 refine co_then ?_
 refine wp_ret ?_
 refine co_thenR ?_
 refine co_ret2 h34 rfl rfl rfl ?_
 exact ⟨rfl, hB25⟩
set_option maxRecDepth 100000 in
theorem addOk_any (v : Value) (l : List EntT) (v2 : Value) (l2 : List EntT) (sb : Int) (w : World) (hs : SliceOf entE 4 w v l) (hok : ∀ z ∈ l, EntOk w z) (hs2 : SliceOf entE 4 w v2 l2) (hok2 : ∀ z ∈ l2, EntOk w z) (hl20 : ∀ z ∈ l, z.opl.length ≤ 100) (hlen : l.length ≤ 100) (hlen2 : l2.length ≤ 100) (hsb : -9223372036854775808 ≤ sb ∧ sb ≤ 9223372036854775807) (hc : ¬ comN l (l2.take ((mnI (mxI sb 0) ((stN l2 : Nat) : Int)).toNat)) < min l.length (l2.take ((mnI (mxI sb 0) ((stN l2 : Nat) : Int)).toNat)).length) :
    Calls Try.prog 26 #[v, v2, .int .i64 sb] w fun e w' => ∃ (L2 : List EntT) (W2 : List EntT) (u : Value), e = .returned (.tuple #[u, .int .i64 0]) ∧ w'.ownsRow w.heap.size 37 4 u L2.length (L2.flatMap entE) ∧ EntsH (fun _ => False) w.heap.size w' L2 ∧ W2.map e0 = l.map e0 ∧ L2 = addL W2 (l2.take ((mnI (mxI sb 0) ((stN l2 : Nat) : Int)).toNat)) ∧ Below w.heap.size w w' := by
 have hmx9 := mxI_p sb 0
 have hmn9 := mnI_p (mxI sb 0) ((stN l2 : Nat) : Int)
 have hst9 := stN_le l2
 have hcl9 := com_le l (l2.take ((mnI (mxI sb 0) ((stN l2 : Nat) : Int)).toNat))
 have hkl9 : (l2.take ((mnI (mxI sb 0) ((stN l2 : Nat) : Int)).toNat)).length = (mnI (mxI sb 0) ((stN l2 : Nat) : Int)).toNat := by rw [List.length_take]; omega
 have hB0 := Below.refl w.heap.size w
 have hl_hs := sl_len hs
 have hl_hs2 := sl_len hs2
 refine co_enter (n := 56) Try.func26 rfl rfl rfl [(0, v), (1, v2), (2, .int .i64 sb)] rfl (fun a h0 => ?_)
 refine co_seq ?_
 refine co_reg ?_
 refine pk0 (v := .slice none 0 0) h0 rfl fun a1 h1 => ?_; clear h0
 refine pk0 (v := .int .i64 0) h1 rfl fun a2 h2 => ?_; clear h1
 refine pl_nil ?_
 refine co_then ?_
 refine co_seq ?_
 refine co_reg ?_
 refine pk0 (v := v2) h2 rfl fun a3 h3 => ?_; clear h2
 refine pk0 (v := .int .i64 sb) h3 rfl fun a4 h4 => ?_; clear h3
 have hmm5 := mxI_p sb 0
 refine pk0 (v := .int .i64 (mxI sb 0)) h4 rfl fun a6 h6 => ?_; clear h4
 refine pk0 (v := v2) h6 rfl fun a7 h7 => ?_; clear h6
 refine pw h7 rfl (op_call (args := #[v2]) (R := fun res xw => res = .int .i64 ((stN l2 : Nat) : Int) ∧ Below w.heap.size w xw) rfl rfl rfl (by kernel_rfl) (by kernel_rfl) (Try.call54 _ _) (itemStamped_any v2 l2 w hs2 (fun z hz => (hok2 z hz).below hB0)) (by rintro e x ⟨rfl, hb10⟩; exact ⟨_, rfl, ⟨rfl, hb10⟩⟩)) ?_; clear h7
 rintro _ w9 a8 ⟨rfl, hb10⟩ h8
 have hz11 := hb10.size
 have hmm12 := mnI_p (mxI sb 0) ((stN l2 : Nat) : Int)
 refine pk0 (v := .int .i64 (mnI (mxI sb 0) ((stN l2 : Nat) : Int))) h8 rfl fun a13 h13 => ?_; clear h8
 have hB14 := hb_call hB0 hb10
 refine pk (v := subV v2 0 ((mnI (mxI sb 0) ((stN l2 : Nat) : Int)).toNat) 4) h13 rfl (rn_sliceTo rfl rfl rfl Try.underlying29 Try.sizeOf37 (hs2.below hB14) (by omega) (by omega)) fun a15 h15 => ?_; clear h13
 refine pk0 (v := subV v2 0 ((mnI (mxI sb 0) ((stN l2 : Nat) : Int)).toNat) 4) h15 rfl fun a16 h16 => ?_; clear h15
 refine pl_nil ?_
 refine co_then ?_
 refine co_seq ?_
 refine co_seq ?_
 refine co_reg ?_
 refine pk0 (v := v) h16 rfl fun a17 h17 => ?_; clear h16
 refine pk0 (v := subV v2 0 ((mnI (mxI sb 0) ((stN l2 : Nat) : Int)).toNat) 4) h17 rfl fun a18 h18 => ?_; clear h17
 refine pw h18 rfl (op_call (args := #[v, subV v2 0 ((mnI (mxI sb 0) ((stN l2 : Nat) : Int)).toNat) 4, .func (.func 56) #[] #[]]) (R := fun res xw => res = .int .i64 ((comN l (l2.take ((mnI (mxI sb 0) ((stN l2 : Nat) : Int)).toNat)) : Nat) : Int) ∧ Below w9.heap.size w9 xw) rfl rfl rfl (by kernel_rfl) (by kernel_rfl) (Try.call55 _ _) (common_any v l (subV v2 0 ((mnI (mxI sb 0) ((stN l2 : Nat) : Int)).toNat) 4) (l2.take ((mnI (mxI sb 0) ((stN l2 : Nat) : Int)).toNat)) w9 (hs.below hB14) (fun z hz => (hok z hz).below hB14) (sl_take (hs2.below hB14) _ (by omega)) (fun z hz => ((ok_take hok2) z hz).below hB14)) (by rintro e x ⟨rfl, hb21⟩; exact ⟨_, rfl, ⟨rfl, hb21⟩⟩)) ?_; clear h18
 rintro _ w20 a19 ⟨rfl, hb21⟩ h19
 have hz22 := hb21.size
 have hcm23 := com_le l (l2.take ((mnI (mxI sb 0) ((stN l2 : Nat) : Int)).toNat))
 refine pk0 (v := v) h19 rfl fun a24 h24 => ?_; clear h19
 have hB25 := hb_call hB14 hb21
 refine pk (v := .int .i64 ((l.length : Nat) : Int)) h24 rfl (rn_len rfl rfl Try.underlying29 (hs.below hB25)) fun a26 h26 => ?_; clear h24
 refine pk0 (v := subV v2 0 ((mnI (mxI sb 0) ((stN l2 : Nat) : Int)).toNat) 4) h26 rfl fun a27 h27 => ?_; clear h26
 refine pk (v := .int .i64 (((l2.take ((mnI (mxI sb 0) ((stN l2 : Nat) : Int)).toNat)).length : Nat) : Int)) h27 rfl (rn_len rfl rfl Try.underlying29 (sl_take (hs2.below hB25) _ (by omega))) fun a28 h28 => ?_; clear h27
 have hmm29 := mnI_p ((l.length : Nat) : Int) (((l2.take ((mnI (mxI sb 0) ((stN l2 : Nat) : Int)).toNat)).length : Nat) : Int)
 refine pk0 (v := .int .i64 (mnI ((l.length : Nat) : Int) (((l2.take ((mnI (mxI sb 0) ((stN l2 : Nat) : Int)).toNat)).length : Nat) : Int))) h28 rfl fun a30 h30 => ?_; clear h28
 refine pk0 (v := .bool (decide (((comN l (l2.take ((mnI (mxI sb 0) ((stN l2 : Nat) : Int)).toNat)) : Nat) : Int) < mnI ((l.length : Nat) : Int) (((l2.take ((mnI (mxI sb 0) ((stN l2 : Nat) : Int)).toNat)).length : Nat) : Int)))) h30 rfl fun a31 h31 => ?_; clear h30
 refine pl_nil ?_
 refine co_then ?_
 have hc32 : (decide (((comN l (l2.take ((mnI (mxI sb 0) ((stN l2 : Nat) : Int)).toNat)) : Nat) : Int) < mnI ((l.length : Nat) : Int) (((l2.take ((mnI (mxI sb 0) ((stN l2 : Nat) : Int)).toNat)).length : Nat) : Int))) = false := decide_eq_false (by omega)
 rw [hc32] at h31; clear hc32
 refine co_false h31 rfl ?_
 refine wp_skip ?_
 refine co_then ?_
 refine co_seq ?_
 refine co_reg ?_
 refine pk0 (v := v) h31 rfl fun a33 h33 => ?_; clear h31
 refine pw h33 rfl (op_call (args := #[v]) (R := fun res xw => ∃ L2 : List EntT, ∃ u : Value, res = u ∧ xw.ownsRow w20.heap.size 37 4 u L2.length (L2.flatMap entE) ∧ EntsH (fun _ => False) w20.heap.size xw L2 ∧ L2.map e0 = l.map e0 ∧ Below w20.heap.size w20 xw) rfl rfl rfl (by kernel_rfl) (by kernel_rfl) (Try.call40 _ _) (freshEntriesH_any v l w20 (hs.below hB25) (fun z hz => (hok z hz).below hB25) hl20 hlen) (by rintro e x ⟨L2, u, rfl, hq38, hq39, hq40, hb41⟩; exact ⟨_, rfl, ⟨L2, u, rfl, hq38, hq39, hq40, hb41⟩⟩)) ?_; clear h33
 rintro u37 w35 a34 ⟨L236, _, rfl, hq38, hq39, hq40, hb41⟩ h34
 have hz42 := hb41.size
 have hl43 := sl_len (row_sl hq38 entE_len)
 have hll44 : L236.length = l.length := by have hq := congrArg List.length hq40; rwa [List.length_map, List.length_map] at hq
 refine pk0 (v := u37) h34 rfl fun a45 h45 => ?_; clear h34
 refine pl_nil ?_
 refine co_then ?_
 refine co_seq ?_
 refine co_seq ?_
 refine co_reg ?_
 refine pk0 (v := v) h45 rfl fun a46 h46 => ?_; clear h45
 have hB47 := hb_call hB25 hb41
 refine pk (v := .int .i64 ((l.length : Nat) : Int)) h46 rfl (rn_len rfl rfl Try.underlying29 (hs.below hB47)) fun a48 h48 => ?_; clear h46
 refine pk0 (v := .int .i64 ((l.length : Nat) : Int)) h48 rfl fun a49 h49 => ?_; clear h48
 refine pl_nil ?_
 refine co_then ?_
 refine wp_block ?_
 have h50 : Slots 56 [(0, v), (8, subV v2 0 ((mnI (mxI sb 0) ((stN l2 : Nat) : Int)).toNat) 4), (9, u37), (10, .int .i64 ((l.length : Nat) : Int))] _ := h49.sub ⟨rfl, rfl, rfl, rfl, trivial⟩; clear h49
 refine co_loop (fun mm a x => ∃ (i : Nat) (u1 : Value) (Lk : List EntT), Slots 56 [(0, v), (8, subV v2 0 ((mnI (mxI sb 0) ((stN l2 : Nat) : Int)).toNat) 4), (9, u1), (10, .int .i64 ((i : Nat) : Int))] a ∧ mm = (l2.take ((mnI (mxI sb 0) ((stN l2 : Nat) : Int)).toNat)).length - i ∧ (l.length ≤ i) ∧ (i ≤ (l2.take ((mnI (mxI sb 0) ((stN l2 : Nat) : Int)).toNat)).length ∨ i = l.length) ∧ (Lk = addL L236 ((l2.take ((mnI (mxI sb 0) ((stN l2 : Nat) : Int)).toNat)).take i)) ∧ x.ownsRow w.heap.size 37 4 u1 Lk.length (Lk.flatMap entE) ∧ EntsH (fun _ => False) w.heap.size x Lk ∧ Below w.heap.size w x) ((l2.take ((mnI (mxI sb 0) ((stN l2 : Nat) : Int)).toNat)).length - l.length) ?_ ?_
 · exact ⟨l.length, u37, L236, h50.sub ⟨rfl, rfl, rfl, rfl, trivial⟩, rfl, by omega, by omega, by first | exact hL9 | exact (addL_0 (by omega)).symm, (row_eq (row_lows hq38 (by omega)) (rfl)), (entsH_low hq39 (by omega)), hB47⟩
 · rintro k51 a52 w53 ⟨i, u1, Lk, h52, rfl, hi54, hi55, hi56, hf57, hf58, hB59⟩
   have hz60 := hB59.size
   have hLl9 : Lk.length ≤ 200 := by rw [(by assumption : Lk = addL L236 ((l2.take ((mnI (mxI sb 0) ((stN l2 : Nat) : Int)).toNat)).take i)), addL_len, List.length_take]; omega
   refine co_seq ?_
   refine co_seq ?_
   refine co_reg ?_
   refine pk0 (v := .int .i64 ((i : Nat) : Int)) h52 rfl fun a61 h61 => ?_; clear h52
   refine pk0 (v := subV v2 0 ((mnI (mxI sb 0) ((stN l2 : Nat) : Int)).toNat) 4) h61 rfl fun a62 h62 => ?_; clear h61
   refine pk (v := .int .i64 (((l2.take ((mnI (mxI sb 0) ((stN l2 : Nat) : Int)).toNat)).length : Nat) : Int)) h62 rfl (rn_len rfl rfl Try.underlying29 (sl_take (hs2.below hB59) _ (by omega))) fun a63 h63 => ?_; clear h62
   refine pk0 (v := .bool (decide (((i : Nat) : Int) < (((l2.take ((mnI (mxI sb 0) ((stN l2 : Nat) : Int)).toNat)).length : Nat) : Int)))) h63 rfl fun a64 h64 => ?_; clear h63
   refine pl_nil ?_
   refine co_then ?_
   cases hc65 : (decide (((i : Nat) : Int) < (((l2.take ((mnI (mxI sb 0) ((stN l2 : Nat) : Int)).toNat)).length : Nat) : Int)))
   ·
    rw [hc65] at h64
    have hp66 : ¬ (((i : Nat) : Int) < (((l2.take ((mnI (mxI sb 0) ((stN l2 : Nat) : Int)).toNat)).length : Nat) : Int)) := of_decide_eq_false hc65
    clear hc65
    refine co_false h64 rfl ?_
    refine wp_exit ?_
    refine co_thenX ?_
    refine co_thenX ?_
    refine co_blockX ?_
    refine co_then ?_
    refine co_seq ?_
    refine co_reg ?_
    refine pk0 (v := u1) h64 rfl fun a67 h67 => ?_; clear h64
    refine pk0 (v := u1) h67 rfl fun a68 h68 => ?_; clear h67
    refine pk0 (v := .int .i64 0) h68 rfl fun a69 h69 => ?_; clear h68
    refine pl_nil ?_
    refine co_then ?_
    refine wp_ret ?_
    refine co_ret2 h69 rfl rfl rfl ?_
    exact ⟨_, _, _, rfl, (row_lows hf57 (by omega)), hf58, hq40, by have hq := (by assumption : Lk = _); rwa [addL_all (by omega)] at hq, hB59⟩
   ·
    rw [hc65] at h64
    have hp70 : ((i : Nat) : Int) < (((l2.take ((mnI (mxI sb 0) ((stN l2 : Nat) : Int)).toNat)).length : Nat) : Int) := of_decide_eq_true hc65
    clear hc65
    refine co_true h64 rfl ?_
    refine wp_skip ?_
    refine co_then ?_
    refine co_seq ?_
    refine wp_block ?_
    refine co_seq ?_
    refine co_reg ?_
    refine pk0 (v := subV v2 0 ((mnI (mxI sb 0) ((stN l2 : Nat) : Int)).toNat) 4) h64 rfl fun a71 h71 => ?_; clear h64
    refine pk0 (v := .int .i64 ((i : Nat) : Int)) h71 rfl fun a72 h72 => ?_; clear h71
    obtain ⟨y73, hy73⟩ : ∃ z, (l2.take ((mnI (mxI sb 0) ((stN l2 : Nat) : Int)).toNat))[i]? = some z := ⟨_, List.getElem?_eq_getElem (by first | omega | (simp; done) | (simp; omega))⟩
    have oky73 := (fun z hz => hok2 z (List.mem_of_mem_take hz)) _ (List.mem_of_getElem? hy73)
    have k74 : 0 ≤ y73.ts := oky73.ts0
    have k75 : y73.ts < 18446744073709551616 := oky73.ts1
    refine pk (v := pt (blkOf (subV v2 0 ((mnI (mxI sb 0) ((stN l2 : Nat) : Int)).toNat) 4)) (offOf (subV v2 0 ((mnI (mxI sb 0) ((stN l2 : Nat) : Int)).toNat) 4) + i * 4)) h72 rfl (rn_index rfl rfl rfl Try.underlying29 Try.sizeOf37 (sl_take (hs2.below hB59) _ (by omega)) (by omega) (by first | omega | (simp; done) | (simp; omega))) fun a76 h76 => ?_; clear h72
    refine pk (v := .agg #[.int .i64 y73.client, .int .i64 y73.req, y73.ops, .int .u64 y73.ts]) h76 rfl (rn_loadN rfl rfl Try.underlying37 rfl (by kernel_rfl) (sl_at (sl_take (hs2.below hB59) _ (by omega)) hy73)) fun a77 h77 => ?_; clear h76
    refine pw h77 rfl (op_new (v := fun N => pt N 0) (T := 37) (cs := #[.int .i64 0, .int .i64 0, .slice none 0 0, .int .u64 0]) (by kernel_rfl) (by kernel_rfl) (by kernel_rfl)) ?_; clear h77
    rintro _ w79 a78 ⟨N80, rfl, hN83, hz84, hk82, hg81⟩ h78
    have ha85 := row_fresh hf57 hN83
    have hz86 := hg81.size
    try dsimp only at h78
    have hB92 := hb_new hB59 hg81
    refine pwD h78 rfl (op_storeN rfl rfl rfl (all_cons rfl (all_cons rfl (all_cons (sl_one (oky73.ops.below hB92)) (all_cons rfl all_nil)))) (by kernel_rfl) hk82 rfl) ?_; clear h78
    rintro _ w88 a87 ⟨hk89, hz90, hg91⟩ h87
    have hk89' : Blk w88 N80 37 #[.int .i64 y73.client, .int .i64 y73.req, y73.ops, .int .u64 y73.ts] := hk89; clear hk89
    have hz93 := hg91.size
    refine pl_nil ?_
    refine co_then ?_
    refine co_reg ?_
    refine pk0 (v := u1) h87 rfl fun a94 h94 => ?_; clear h87
    refine pk0 (v := pt N80 0) h94 rfl fun a95 h95 => ?_; clear h94
    refine pk0 (v := pt N80 0) h95 rfl fun a96 h96 => ?_; clear h95
    refine pk (v := .int .i64 y73.client) h96 rfl (rn_load1 rfl rfl Try.isAgg3 (hk89'.cell rfl)) fun a97 h97 => ?_; clear h96
    refine pk0 (v := pt N80 0) h97 rfl fun a98 h98 => ?_; clear h97
    refine pk0 (v := pt N80 1) h98 rfl fun a99 h99 => ?_; clear h98
    refine pk (v := .int .i64 y73.req) h99 rfl (rn_load1 rfl rfl Try.isAgg3 (hk89'.cell rfl)) fun a100 h100 => ?_; clear h99
    refine pk0 (v := .agg #[.int .i64 y73.client, .int .i64 y73.req, .slice none 0 0]) h100 rfl fun a101 h101 => ?_; clear h100
    refine pk0 (v := pt N80 3) h101 rfl fun a102 h102 => ?_; clear h101
    refine pk (v := .int .u64 y73.ts) h102 rfl (rn_load1 rfl rfl Try.isAgg23 (hk89'.cell rfl)) fun a103 h103 => ?_; clear h102
    refine pk0 (v := .agg #[.int .i64 y73.client, .int .i64 y73.req, .slice none 0 0, .int .u64 y73.ts]) h103 rfl fun a104 h104 => ?_; clear h103
    refine pw h104 rfl (op_new (v := fun N => .slice (some ⟨N, 0, none⟩) 1 1) (T := 37) (cs := #[.int .i64 y73.client, .int .i64 y73.req, .slice none 0 0, .int .u64 y73.ts]) (by kernel_rfl) (by kernel_rfl) (by kernel_rfl)) ?_; clear h104
    rintro _ w106 a105 ⟨N107, rfl, hN110, hz111, hk109, hg108⟩ h105
    have hr113 := row_kept_new hf57 hg81
    have hr114 := row_kept_at hr113 hg91 (ha85)
    have ha112 := row_fresh hr114 hN110
    have hz115 := hg108.size
    try dsimp only at h105
    have hr122 := row_kept_new hr114 hg108
    refine pw h105 rfl (op_append rfl w.heap.size 37 (z := .agg #[.int .i64 0, .int .i64 0, .slice none 0 0, .int .u64 0]) (size := 4) (bytes := 48) Try.underlying29 (by kernel_rfl) rfl rfl rfl hr122 rfl hk109 rfl (by kernel_rfl) (by first | omega | (simp only [List.length_nil, List.length_append, List.length_cons, List.length_take, List.length_drop]; omega)) (by first | omega | (simp only [List.length_nil, List.length_append, List.length_cons, List.length_take, List.length_drop]; omega)) (by omega)) ?_; clear h105
    rintro v118 w117 a116 ⟨hr119, hg120⟩ h116
    have hr119' : w117.ownsRow w.heap.size 37 4 v118 ((Lk ++ [(EntT.mk y73.client y73.req (.slice none 0 0) [] y73.ts)]).length) ((Lk ++ [(EntT.mk y73.client y73.req (.slice none 0 0) [] y73.ts)]).flatMap entE) := row_push (y := (EntT.mk y73.client y73.req (.slice none 0 0) [] y73.ts)) hr119 rfl rfl; clear hr119
    have hz123 := hg120.size
    refine pk0 (v := v118) h116 rfl fun a124 h124 => ?_; clear h116
    refine pl_nil ?_
    refine co_blockN ?_
    refine co_then ?_
    refine co_reg ?_
    refine pk0 (v := .int .i64 ((i : Nat) : Int)) h124 rfl fun a125 h125 => ?_; clear h124
    refine pk (v := .int .i64 ((i + 1 : Nat) : Int)) h125 rfl (rn_arith' rfl rfl rfl rfl rfl rfl (IntWalk.i64_in _ (by omega)) (by omega)) fun a126 h126 => ?_; clear h125
    refine pk0 (v := .int .i64 ((i + 1 : Nat) : Int)) h126 rfl fun a127 h127 => ?_; clear h126
    refine pl_nil ?_
    refine co_then ?_
    refine ⟨((l2.take ((mnI (mxI sb 0) ((stN l2 : Nat) : Int)).toNat)).length - (i + 1)), by omega, ?_⟩
    have hL9 := addL_snoc (W := L236) (by omega) hy73
    rw [← (by assumption : Lk = addL L236 ((l2.take ((mnI (mxI sb 0) ((stN l2 : Nat) : Int)).toNat)).take i))] at hL9
    have hE128 := hf58.new hg81
    have hE129 := hE128.blk hk82 (by decide) hg91
    have hE130 := hE129.new hg108
    have hE131 := hE130.row hr122 (by decide) hg120
    have hB132 := hb_at hB92 hg91 (by omega)
    have hB133 := hb_new hB132 hg108
    have hB134 := hb_row hB133 hr122 (by omega) hg120
    exact ⟨i + 1, v118, (Lk ++ [(EntT.mk y73.client y73.req (.slice none 0 0) [] y73.ts)]), h127.sub ⟨rfl, rfl, rfl, rfl, trivial⟩, rfl, by omega, by omega, by first | exact hL9 | exact (addL_0 (by omega)).symm, (row_eq hr119' (rfl)), (EntsH.snoc hE131 (e := bareE y73) ⟨World.ownsRow_nil _ _ _ _, (fun i hi => by cases hi), Nat.zero_le _, (fun o ho => by cases ho), oky73.ts0, oky73.ts1, oky73.cl, oky73.rq⟩), hB134⟩
end Go.Proofs.Ytniojcnkjehflaa

/- catenalaw37: what awake asks of Fill. Conditions: awake's own lists. -/
namespace Go.Proofs.Ytniojcnkjehflaa
open Go.RowKit Go.PlainAid
set_option linter.unusedVariables false
set_option linter.unusedSimpArgs false


def opV (o : OpT) : Value := .agg #[.string o.1, .string o.2.1, .bool o.2.2]
def deedE (d : Int × Int) : List Value := [.int .i64 0, .int .i64 d.1, .int .i64 d.2, .int .i64 0, .string ⟨#[]⟩, .string ⟨#[]⟩, .int .u64 0, .int .i64 0, .slice none 0 0, .int .i64 0, .int .i64 0, .int .i64 0, .int .i64 0, .int .u64 0, .int .i64 0, .slice none 0 0]
theorem deedE_len (d : Int × Int) : (deedE d).length = 16 := rfl
theorem ds_at {ds : List (Int × Int)} {j : Nat} {y : Int × Int} (h : ds = [(1, 0), (2, 3)]) (hy : ds[j]? = some y) : (j = 0 ∧ y.1 = 1 ∧ y.2 = 0) ∨ (j = 1 ∧ y.1 = 2 ∧ y.2 = 3) := by
  subst h
  match j, hy with
  | 0, hy => left; simp at hy; subst hy; exact ⟨rfl, rfl, rfl⟩
  | 1, hy => right; simp at hy; subst hy; exact ⟨rfl, rfl, rfl⟩
  | j + 2, hy => simp at hy
def awL : List EntT := [EntT.mk 0 1 (.slice none 0 0) [] 3, EntT.mk 0 2 (.slice none 0 0) [] 5]
theorem awl_at {l : List EntT} {j : Nat} {y : EntT} (h : l = awL) (hy : l[j]? = some y) : (j = 0 ∧ y.client = 0 ∧ y.req = 1 ∧ y.ts = 3 ∧ twN (l.take j) 0 1 = 0) ∨ (j = 1 ∧ y.client = 0 ∧ y.req = 2 ∧ y.ts = 5 ∧ twN (l.take j) 0 2 = 0) := by
  subst h
  match j, hy with
  | 0, hy => left; simp [awL] at hy; subst hy; exact ⟨rfl, rfl, rfl, rfl, rfl⟩
  | 1, hy => right; simp [awL] at hy; subst hy; exact ⟨rfl, rfl, rfl, rfl, by decide⟩
  | j + 2, hy => simp [awL] at hy
set_option maxRecDepth 100000 in
theorem writes_any (rq : Int) (k : Int) (w : World) (hk : k = 0 ∨ k = 3) :
    Calls Try.prog 77 #[.agg #[.int .i64 0, .int .i64 rq, .int .i64 k, .int .i64 0, .string (⟨#[]⟩), .string (⟨#[]⟩), .int .u64 0, .int .i64 0, .slice none 0 0, .int .i64 0, .int .i64 0, .int .i64 0, .int .i64 0, .int .u64 0, .int .i64 0, .slice none 0 0]] w fun e w' => e = .returned (.bool true) ∧ Below w.heap.size w w' := by
 have hB0 := Below.refl w.heap.size w
 refine co_enter (n := 13) Try.func77 rfl rfl rfl [(0, .agg #[.int .i64 0, .int .i64 rq, .int .i64 k, .int .i64 0, .string (⟨#[]⟩), .string (⟨#[]⟩), .int .u64 0, .int .i64 0, .slice none 0 0, .int .i64 0, .int .i64 0, .int .i64 0, .int .i64 0, .int .u64 0, .int .i64 0, .slice none 0 0])] rfl (fun a h0 => ?_)
 refine co_seq ?_
 refine co_reg ?_
 refine pw h0 rfl (op_new (v := fun N => pt N 0) (T := 104) (cs := #[.int .i64 0, .int .i64 rq, .int .i64 k, .int .i64 0, .string (⟨#[]⟩), .string (⟨#[]⟩), .int .u64 0, .int .i64 0, .slice none 0 0, .int .i64 0, .int .i64 0, .int .i64 0, .int .i64 0, .int .u64 0, .int .i64 0, .slice none 0 0]) (by kernel_rfl) (by kernel_rfl) (by kernel_rfl)) ?_; clear h0
 rintro _ w2 a1 ⟨N3, rfl, hN6, hz7, hk5, hg4⟩ h1
 have hz8 := hg4.size
 try dsimp only at h1
 refine pk0 (v := .bool false) h1 rfl fun a9 h9 => ?_; clear h1
 refine pl_nil ?_
 refine co_then ?_
 refine co_seq ?_
 refine co_reg ?_
 refine pk0 (v := pt N3 2) h9 rfl fun a10 h10 => ?_; clear h9
 refine pk0 (v := pt N3 2) h10 rfl fun a11 h11 => ?_; clear h10
 refine pk (v := .int .i64 k) h11 rfl (rn_load1 rfl rfl Try.isAgg3 (hk5.cell rfl)) fun a12 h12 => ?_; clear h11
 refine pk0 (v := .bool (k == 0)) h12 rfl fun a13 h13 => ?_; clear h12
 refine pk0 (v := .bool (k == 0)) h13 rfl fun a14 h14 => ?_; clear h13
 have hB16 := hb_new hB0 hg4
 cases hc15 : (k == 0)
 ·
  rw [hc15] at h14
  have hp17 : ¬ (k = 0) := by first | simpa using hc15 | simpa [and_assoc] using hc15
  clear hc15
  refine pk0 (v := pt N3 2) h14 rfl fun a18 h18 => ?_; clear h14
  refine pk0 (v := pt N3 2) h18 rfl fun a19 h19 => ?_; clear h18
  refine pk (v := .int .i64 k) h19 rfl (rn_load1 rfl rfl Try.isAgg3 (hk5.cell rfl)) fun a20 h20 => ?_; clear h19
  refine pk0 (v := .bool (k == 3)) h20 rfl fun a21 h21 => ?_; clear h20
  refine pk0 (v := .bool (k == 3)) h21 rfl fun a22 h22 => ?_; clear h21
  refine pk0 (v := .bool (k == 3)) h22 rfl fun a23 h23 => ?_; clear h22
  refine pl_nil ?_
  refine co_then ?_
  refine wp_ret ?_
  refine co_ret1 h23 rfl rfl ?_
  exact ⟨ret_bool (by first | rfl | (simp; omega)), hB16⟩
 ·
  rw [hc15] at h14
  have hp24 : k = 0 := by first | simpa using hc15 | simpa [and_assoc] using hc15
  clear hc15
  refine psk h14 rfl fun a25 h25 => ?_; clear h14
  refine psk h25 rfl fun a26 h26 => ?_; clear h25
  refine psk h26 rfl fun a27 h27 => ?_; clear h26
  refine psk h27 rfl fun a28 h28 => ?_; clear h27
  refine pk0 (v := .bool true) h28 rfl fun a29 h29 => ?_; clear h28
  refine pk0 (v := .bool true) h29 rfl fun a30 h30 => ?_; clear h29
  refine pl_nil ?_
  refine co_then ?_
  refine wp_ret ?_
  refine co_ret1 h30 rfl rfl ?_
  exact ⟨ret_bool (by first | rfl | (simp; omega)), hB16⟩
set_option maxRecDepth 100000 in
theorem deedOf_any (rq : Int) (v : Value) (ts : Int) (v2 : Value) (ds : List (Int × Int)) (w : World) (hs2 : SliceOf deedE 16 w v2 ds) (hds : ds = [(1, 0), (2, 3)]) (hrq : rq = 1 ∨ rq = 2) :
    Calls Try.prog 71 #[.agg #[.int .i64 0, .int .i64 rq, v, .int .u64 ts], v2] w fun e w' => ∃ (k : Int) (q : Int), e = .returned (.tuple #[.agg #[.int .i64 0, .int .i64 q, .int .i64 k, .int .i64 0, .string (⟨#[]⟩), .string (⟨#[]⟩), .int .u64 0, .int .i64 0, .slice none 0 0, .int .i64 0, .int .i64 0, .int .i64 0, .int .i64 0, .int .u64 0, .int .i64 0, .slice none 0 0], .bool true]) ∧ ((rq = 1 ∧ k = 0) ∨ (rq = 2 ∧ k = 3)) ∧ Below w.heap.size w w' := by
 have hdl : ds.length = 2 := by rw [hds]; rfl
 have hB0 := Below.refl w.heap.size w
 have hl_hs2 := sl_len hs2
 refine co_enter (n := 42) Try.func71 rfl rfl rfl [(0, .agg #[.int .i64 0, .int .i64 rq, v, .int .u64 ts]), (1, v2)] rfl (fun a h0 => ?_)
 refine co_seq ?_
 refine co_reg ?_
 refine pw h0 rfl (op_new (v := fun N => pt N 0) (T := 37) (cs := #[.int .i64 0, .int .i64 rq, v, .int .u64 ts]) (by kernel_rfl) (by kernel_rfl) (by kernel_rfl)) ?_; clear h0
 rintro _ w2 a1 ⟨N3, rfl, hN6, hz7, hk5, hg4⟩ h1
 have hz8 := hg4.size
 try dsimp only at h1
 refine pw h1 rfl (op_new (v := fun N => pt N 0) (T := 104) (cs := #[.int .i64 0, .int .i64 0, .int .i64 0, .int .i64 0, .string (⟨#[]⟩), .string (⟨#[]⟩), .int .u64 0, .int .i64 0, .slice none 0 0, .int .i64 0, .int .i64 0, .int .i64 0, .int .i64 0, .int .u64 0, .int .i64 0, .slice none 0 0]) (by kernel_rfl) (by kernel_rfl) (by kernel_rfl)) ?_; clear h1
 rintro _ w10 a9 ⟨N11, rfl, hN14, hz15, hk13, hg12⟩ h9
 have hz16 := hg12.size
 try dsimp only at h9
 refine pk0 (v := .bool false) h9 rfl fun a17 h17 => ?_; clear h9
 refine pl_nil ?_
 refine co_then ?_
 refine co_seq ?_
 refine co_seq ?_
 refine co_reg ?_
 refine pk0 (v := v2) h17 rfl fun a18 h18 => ?_; clear h17
 have hB19 := hb_new hB0 hg4
 have hB20 := hb_new hB19 hg12
 refine pk (v := .int .i64 ((ds.length : Nat) : Int)) h18 rfl (rn_len rfl rfl Try.underlying105 (hs2.below hB20)) fun a21 h21 => ?_; clear h18
 refine pk0 (v := .int .i64 0) h21 rfl fun a22 h22 => ?_; clear h21
 refine pl_nil ?_
 refine co_then ?_
 refine wp_block ?_
 refine wp_loop_rounds 3 ?_
 refine co_unroll (n := 2) ?_
 refine co_seq ?_
 refine co_reg ?_
 refine pk0 (v := .bool (decide (0 < ((ds.length : Nat) : Int)))) h22 rfl fun a23 h23 => ?_; clear h22
 refine pl_nil ?_
 refine co_then ?_
 refine co_seq ?_
 have hc24 : (decide (0 < ((ds.length : Nat) : Int))) = true := decide_eq_true (by omega)
 rw [hc24] at h23; clear hc24
 refine co_true h23 rfl ?_
 refine wp_skip ?_
 refine co_then ?_
 refine co_seq ?_
 refine wp_block ?_
 refine co_seq ?_
 refine co_reg ?_
 refine pk0 (v := .int .i64 0) h23 rfl fun a25 h25 => ?_; clear h23
 refine pk0 (v := .int .i64 0) h25 rfl fun a26 h26 => ?_; clear h25
 refine pl_nil ?_
 refine co_then ?_
 refine co_seq ?_
 refine co_reg ?_
 refine pk0 (v := v2) h26 rfl fun a27 h27 => ?_; clear h26
 refine pk0 (v := v2) h27 rfl fun a28 h28 => ?_; clear h27
 refine pk (v := .int .i64 ((ds.length : Nat) : Int)) h28 rfl (rn_len rfl rfl Try.underlying105 (hs2.below hB20)) fun a29 h29 => ?_; clear h28
 refine pk (v := .int .i64 (((ds.length : Nat) : Int) - 1)) h29 rfl (rn_arith rfl rfl rfl rfl rfl rfl (IntWalk.i64_in _ (by omega))) fun a30 h30 => ?_; clear h29
 refine pk0 (v := .int .i64 0) h30 rfl fun a31 h31 => ?_; clear h30
 refine pk (v := .int .i64 ((((ds.length : Nat) : Int) - 1) - 0)) h31 rfl (rn_arith rfl rfl rfl rfl rfl rfl (IntWalk.i64_in _ (by omega))) fun a32 h32 => ?_; clear h31
 obtain ⟨y33, hy33⟩ : ∃ z, ds[((((ds.length : Nat) : Int) - 1) - 0).toNat]? = some z := ⟨_, List.getElem?_eq_getElem (by first | omega | (simp; done) | (simp; omega))⟩
 have hz34 := ds_at hds hy33
 refine pk (v := pt (blkOf v2) (offOf v2 + (((((ds.length : Nat) : Int) - 1) - 0).toNat) * 16)) h32 rfl (rn_index rfl rfl rfl Try.underlying105 Try.sizeOf104 (hs2.below hB20) (by omega) (by first | omega | (simp; done) | (simp; omega))) fun a35 h35 => ?_; clear h32
 refine pk (v := .agg #[.int .i64 0, .int .i64 y33.1, .int .i64 y33.2, .int .i64 0, .string (⟨#[]⟩), .string (⟨#[]⟩), .int .u64 0, .int .i64 0, .slice none 0 0, .int .i64 0, .int .i64 0, .int .i64 0, .int .i64 0, .int .u64 0, .int .i64 0, .slice none 0 0]) h35 rfl (rn_loadN rfl rfl Try.underlying104 rfl (by kernel_rfl) (sl_at (hs2.below hB20) hy33)) fun a36 h36 => ?_; clear h35
 refine pw h36 rfl (op_new (v := fun N => pt N 0) (T := 104) (cs := #[.int .i64 0, .int .i64 0, .int .i64 0, .int .i64 0, .string (⟨#[]⟩), .string (⟨#[]⟩), .int .u64 0, .int .i64 0, .slice none 0 0, .int .i64 0, .int .i64 0, .int .i64 0, .int .i64 0, .int .u64 0, .int .i64 0, .slice none 0 0]) (by kernel_rfl) (by kernel_rfl) (by kernel_rfl)) ?_; clear h36
 rintro _ w38 a37 ⟨N39, rfl, hN42, hz43, hk41, hg40⟩ h37
 have hz44 := hg40.size
 try dsimp only at h37
 refine pwD h37 rfl (op_storeN rfl rfl rfl (all_cons rfl (all_cons rfl (all_cons rfl (all_cons rfl (all_cons rfl (all_cons rfl (all_cons rfl (all_cons rfl (all_cons rfl (all_cons rfl (all_cons rfl (all_cons rfl (all_cons rfl (all_cons rfl (all_cons rfl (all_cons rfl all_nil)))))))))))))))) (by kernel_rfl) hk41 rfl) ?_; clear h37
 rintro _ w46 a45 ⟨hk47, hz48, hg49⟩ h45
 have hk47' : Blk w46 N39 104 #[.int .i64 0, .int .i64 y33.1, .int .i64 y33.2, .int .i64 0, .string (⟨#[]⟩), .string (⟨#[]⟩), .int .u64 0, .int .i64 0, .slice none 0 0, .int .i64 0, .int .i64 0, .int .i64 0, .int .i64 0, .int .u64 0, .int .i64 0, .slice none 0 0] := hk47; clear hk47
 have hz50 := hg49.size
 refine pl_nil ?_
 refine co_then ?_
 refine co_seq ?_
 refine co_reg ?_
 refine pk0 (v := pt N39 0) h45 rfl fun a51 h51 => ?_; clear h45
 refine pk (v := .int .i64 0) h51 rfl (rn_load1 rfl rfl Try.isAgg3 (hk47'.cell rfl)) fun a52 h52 => ?_; clear h51
 refine pk0 (v := pt N3 0) h52 rfl fun a53 h53 => ?_; clear h52
 refine pk0 (v := pt N3 0) h53 rfl fun a54 h54 => ?_; clear h53
 have hk55 := hk5.kept hg12 (by simp)
 have hk56 := hk55.kept hg40 (by simp)
 have hk57 := hk56.kept hg49 (by simp; omega)
 refine pk (v := .int .i64 0) h54 rfl (rn_load1 rfl rfl Try.isAgg3 (hk57.cell rfl)) fun a58 h58 => ?_; clear h54
 refine pk0 (v := .bool ((0 : Int) == 0)) h58 rfl fun a59 h59 => ?_; clear h58
 refine pk0 (v := .bool ((0 : Int) == 0)) h59 rfl fun a60 h60 => ?_; clear h59
 have hc61 : ((0 : Int) == 0) = true := by first | (simp; done) | (simp; omega) | exact beq_false_of_ne (by omega) | exact beq_iff_eq.2 (by omega)
 rw [hc61] at h60; clear hc61
 refine pk0 (v := pt N39 1) h60 rfl fun a62 h62 => ?_; clear h60
 refine pk (v := .int .i64 y33.1) h62 rfl (rn_load1 rfl rfl Try.isAgg3 (hk47'.cell rfl)) fun a63 h63 => ?_; clear h62
 refine pk0 (v := pt N3 0) h63 rfl fun a64 h64 => ?_; clear h63
 refine pk0 (v := pt N3 1) h64 rfl fun a65 h65 => ?_; clear h64
 refine pk (v := .int .i64 rq) h65 rfl (rn_load1 rfl rfl Try.isAgg3 (hk57.cell rfl)) fun a66 h66 => ?_; clear h65
 refine pk0 (v := .bool (y33.1 == rq)) h66 rfl fun a67 h67 => ?_; clear h66
 refine pk0 (v := .bool (y33.1 == rq)) h67 rfl fun a68 h68 => ?_; clear h67
 refine pk0 (v := .bool (y33.1 == rq)) h68 rfl fun a69 h69 => ?_; clear h68
 have hB71 := hb_new hB20 hg40
 have hB72 := hb_at hB71 hg49 (by omega)
 have hk73 := hk13.kept hg40 (by simp)
 have hk74 := hk73.kept hg49 (by simp; omega)
 cases hc70 : (y33.1 == rq)
 ·
  rw [hc70] at h69
  have hp75 : ¬ (y33.1 = rq) := by first | simpa using hc70 | simpa [and_assoc] using hc70
  clear hc70
  refine psk h69 rfl fun a76 h76 => ?_; clear h69
  refine psk h76 rfl fun a77 h77 => ?_; clear h76
  refine pk0 (v := .bool false) h77 rfl fun a78 h78 => ?_; clear h77
  refine pl_nil ?_
  refine co_then ?_
  refine co_false h78 rfl ?_
  refine wp_skip ?_
  refine co_blockN ?_
  refine co_then ?_
  refine co_reg ?_
  refine pk0 (v := .int .i64 1) h78 rfl fun a79 h79 => ?_; clear h78
  refine pk0 (v := .int .i64 1) h79 rfl fun a80 h80 => ?_; clear h79
  refine pl_nil ?_
  refine co_then ?_
  refine co_unroll (n := 1) ?_
  refine co_seq ?_
  refine co_reg ?_
  refine pk0 (v := .bool (decide (1 < ((ds.length : Nat) : Int)))) h80 rfl fun a81 h81 => ?_; clear h80
  refine pl_nil ?_
  refine co_then ?_
  refine co_seq ?_
  have hc82 : (decide (1 < ((ds.length : Nat) : Int))) = true := decide_eq_true (by omega)
  rw [hc82] at h81; clear hc82
  refine co_true h81 rfl ?_
  refine wp_skip ?_
  refine co_then ?_
  refine co_seq ?_
  refine wp_block ?_
  refine co_seq ?_
  refine co_reg ?_
  refine pk0 (v := .int .i64 1) h81 rfl fun a83 h83 => ?_; clear h81
  refine pk0 (v := .int .i64 1) h83 rfl fun a84 h84 => ?_; clear h83
  refine pl_nil ?_
  refine co_then ?_
  refine co_seq ?_
  refine co_reg ?_
  refine pk0 (v := v2) h84 rfl fun a85 h85 => ?_; clear h84
  refine pk0 (v := v2) h85 rfl fun a86 h86 => ?_; clear h85
  refine pk (v := .int .i64 ((ds.length : Nat) : Int)) h86 rfl (rn_len rfl rfl Try.underlying105 (hs2.below hB72)) fun a87 h87 => ?_; clear h86
  refine pk (v := .int .i64 (((ds.length : Nat) : Int) - 1)) h87 rfl (rn_arith rfl rfl rfl rfl rfl rfl (IntWalk.i64_in _ (by omega))) fun a88 h88 => ?_; clear h87
  refine pk0 (v := .int .i64 1) h88 rfl fun a89 h89 => ?_; clear h88
  refine pk (v := .int .i64 ((((ds.length : Nat) : Int) - 1) - 1)) h89 rfl (rn_arith rfl rfl rfl rfl rfl rfl (IntWalk.i64_in _ (by omega))) fun a90 h90 => ?_; clear h89
  obtain ⟨y91, hy91⟩ : ∃ z, ds[((((ds.length : Nat) : Int) - 1) - 1).toNat]? = some z := ⟨_, List.getElem?_eq_getElem (by first | omega | (simp; done) | (simp; omega))⟩
  have hz92 := ds_at hds hy91
  refine pk (v := pt (blkOf v2) (offOf v2 + (((((ds.length : Nat) : Int) - 1) - 1).toNat) * 16)) h90 rfl (rn_index rfl rfl rfl Try.underlying105 Try.sizeOf104 (hs2.below hB72) (by omega) (by first | omega | (simp; done) | (simp; omega))) fun a93 h93 => ?_; clear h90
  refine pk (v := .agg #[.int .i64 0, .int .i64 y91.1, .int .i64 y91.2, .int .i64 0, .string (⟨#[]⟩), .string (⟨#[]⟩), .int .u64 0, .int .i64 0, .slice none 0 0, .int .i64 0, .int .i64 0, .int .i64 0, .int .i64 0, .int .u64 0, .int .i64 0, .slice none 0 0]) h93 rfl (rn_loadN rfl rfl Try.underlying104 rfl (by kernel_rfl) (sl_at (hs2.below hB72) hy91)) fun a94 h94 => ?_; clear h93
  refine pw h94 rfl (op_new (v := fun N => pt N 0) (T := 104) (cs := #[.int .i64 0, .int .i64 0, .int .i64 0, .int .i64 0, .string (⟨#[]⟩), .string (⟨#[]⟩), .int .u64 0, .int .i64 0, .slice none 0 0, .int .i64 0, .int .i64 0, .int .i64 0, .int .i64 0, .int .u64 0, .int .i64 0, .slice none 0 0]) (by kernel_rfl) (by kernel_rfl) (by kernel_rfl)) ?_; clear h94
  rintro _ w96 a95 ⟨N97, rfl, hN100, hz101, hk99, hg98⟩ h95
  have hz102 := hg98.size
  try dsimp only at h95
  refine pwD h95 rfl (op_storeN rfl rfl rfl (all_cons rfl (all_cons rfl (all_cons rfl (all_cons rfl (all_cons rfl (all_cons rfl (all_cons rfl (all_cons rfl (all_cons rfl (all_cons rfl (all_cons rfl (all_cons rfl (all_cons rfl (all_cons rfl (all_cons rfl (all_cons rfl all_nil)))))))))))))))) (by kernel_rfl) hk99 rfl) ?_; clear h95
  rintro _ w104 a103 ⟨hk105, hz106, hg107⟩ h103
  have hk105' : Blk w104 N97 104 #[.int .i64 0, .int .i64 y91.1, .int .i64 y91.2, .int .i64 0, .string (⟨#[]⟩), .string (⟨#[]⟩), .int .u64 0, .int .i64 0, .slice none 0 0, .int .i64 0, .int .i64 0, .int .i64 0, .int .i64 0, .int .u64 0, .int .i64 0, .slice none 0 0] := hk105; clear hk105
  have hz108 := hg107.size
  refine pl_nil ?_
  refine co_then ?_
  refine co_seq ?_
  refine co_reg ?_
  refine pk0 (v := pt N97 0) h103 rfl fun a109 h109 => ?_; clear h103
  refine pk (v := .int .i64 0) h109 rfl (rn_load1 rfl rfl Try.isAgg3 (hk105'.cell rfl)) fun a110 h110 => ?_; clear h109
  refine pk0 (v := pt N3 0) h110 rfl fun a111 h111 => ?_; clear h110
  refine pk0 (v := pt N3 0) h111 rfl fun a112 h112 => ?_; clear h111
  have hk113 := hk57.kept hg98 (by simp)
  have hk114 := hk113.kept hg107 (by simp; omega)
  refine pk (v := .int .i64 0) h112 rfl (rn_load1 rfl rfl Try.isAgg3 (hk114.cell rfl)) fun a115 h115 => ?_; clear h112
  refine pk0 (v := .bool ((0 : Int) == 0)) h115 rfl fun a116 h116 => ?_; clear h115
  refine pk0 (v := .bool ((0 : Int) == 0)) h116 rfl fun a117 h117 => ?_; clear h116
  have hc118 : ((0 : Int) == 0) = true := by first | (simp; done) | (simp; omega) | exact beq_false_of_ne (by omega) | exact beq_iff_eq.2 (by omega)
  rw [hc118] at h117; clear hc118
  refine pk0 (v := pt N97 1) h117 rfl fun a119 h119 => ?_; clear h117
  refine pk (v := .int .i64 y91.1) h119 rfl (rn_load1 rfl rfl Try.isAgg3 (hk105'.cell rfl)) fun a120 h120 => ?_; clear h119
  refine pk0 (v := pt N3 0) h120 rfl fun a121 h121 => ?_; clear h120
  refine pk0 (v := pt N3 1) h121 rfl fun a122 h122 => ?_; clear h121
  refine pk (v := .int .i64 rq) h122 rfl (rn_load1 rfl rfl Try.isAgg3 (hk114.cell rfl)) fun a123 h123 => ?_; clear h122
  refine pk0 (v := .bool (y91.1 == rq)) h123 rfl fun a124 h124 => ?_; clear h123
  refine pk0 (v := .bool (y91.1 == rq)) h124 rfl fun a125 h125 => ?_; clear h124
  refine pk0 (v := .bool (y91.1 == rq)) h125 rfl fun a126 h126 => ?_; clear h125
  have hB128 := hb_new hB72 hg98
  have hB129 := hb_at hB128 hg107 (by omega)
  have hk130 := hk74.kept hg98 (by simp)
  have hk131 := hk130.kept hg107 (by simp; omega)
  have hk132 := hk47'.kept hg98 (by simp)
  have hk133 := hk132.kept hg107 (by simp; omega)
  cases hc127 : (y91.1 == rq)
  ·
   rw [hc127] at h126
   have hp134 : ¬ (y91.1 = rq) := by first | simpa using hc127 | simpa [and_assoc] using hc127
   clear hc127
   refine psk h126 rfl fun a135 h135 => ?_; clear h126
   refine psk h135 rfl fun a136 h136 => ?_; clear h135
   refine pk0 (v := .bool false) h136 rfl fun a137 h137 => ?_; clear h136
   refine pl_nil ?_
   refine co_then ?_
   refine co_false h137 rfl ?_
   refine wp_skip ?_
   refine co_blockN ?_
   refine co_then ?_
   refine co_reg ?_
   refine pk0 (v := .int .i64 2) h137 rfl fun a138 h138 => ?_; clear h137
   refine pk0 (v := .int .i64 2) h138 rfl fun a139 h139 => ?_; clear h138
   refine pl_nil ?_
   refine co_then ?_
   refine co_unroll (n := 0) ?_
   refine co_seq ?_
   refine co_reg ?_
   refine pk0 (v := .bool (decide (2 < ((ds.length : Nat) : Int)))) h139 rfl fun a140 h140 => ?_; clear h139
   refine pl_nil ?_
   refine co_then ?_
   refine co_seq ?_
   have hc141 : (decide (2 < ((ds.length : Nat) : Int))) = false := decide_eq_false (by omega)
   rw [hc141] at h140; clear hc141
   refine co_false h140 rfl ?_
   refine wp_exit ?_
   refine co_thenX ?_
   refine co_thenX ?_
   refine co_blockX ?_
   refine co_then ?_
   refine co_seq ?_
   refine co_reg ?_
   refine pk0 (v := .agg #[.int .i64 0, .int .i64 0, .int .i64 0, .int .i64 0, .string (⟨#[]⟩), .string (⟨#[]⟩), .int .u64 0, .int .i64 0, .slice none 0 0, .int .i64 0, .int .i64 0, .int .i64 0, .int .i64 0, .int .u64 0, .int .i64 0, .slice none 0 0]) h140 rfl fun a142 h142 => ?_; clear h140
   refine pwD h142 rfl (op_storeN rfl rfl rfl (all_cons rfl (all_cons rfl (all_cons rfl (all_cons rfl (all_cons rfl (all_cons rfl (all_cons rfl (all_cons rfl (all_cons rfl (all_cons rfl (all_cons rfl (all_cons rfl (all_cons rfl (all_cons rfl (all_cons rfl (all_cons rfl all_nil)))))))))))))))) (by kernel_rfl) hk131 rfl) ?_; clear h142
   rintro _ w144 a143 ⟨hk145, hz146, hg147⟩ h143
   have hk145' : Blk w144 N11 104 #[.int .i64 0, .int .i64 0, .int .i64 0, .int .i64 0, .string (⟨#[]⟩), .string (⟨#[]⟩), .int .u64 0, .int .i64 0, .slice none 0 0, .int .i64 0, .int .i64 0, .int .i64 0, .int .i64 0, .int .u64 0, .int .i64 0, .slice none 0 0] := hk145; clear hk145
   have hz148 := hg147.size
   refine pk0 (v := .bool false) h143 rfl fun a149 h149 => ?_; clear h143
   refine pl_nil ?_
   refine co_then ?_
   refine wp_ret ?_
   refine co_retC1 (Q := fun _ _ _ => True) h149 rfl rfl rfl hk145' Try.underlying104 rfl (by kernel_rfl) ?_
   exfalso; omega
  ·
   rw [hc127] at h126
   have hp150 : y91.1 = rq := by first | simpa using hc127 | simpa [and_assoc] using hc127
   clear hc127
   refine pk (v := .agg #[.int .i64 0, .int .i64 y91.1, .int .i64 y91.2, .int .i64 0, .string (⟨#[]⟩), .string (⟨#[]⟩), .int .u64 0, .int .i64 0, .slice none 0 0, .int .i64 0, .int .i64 0, .int .i64 0, .int .i64 0, .int .u64 0, .int .i64 0, .slice none 0 0]) h126 rfl (rn_loadN rfl rfl Try.underlying104 rfl (by kernel_rfl) hk105'.all) fun a151 h151 => ?_; clear h126
   refine pw h151 rfl (op_call (args := #[.agg #[.int .i64 0, .int .i64 y91.1, .int .i64 y91.2, .int .i64 0, .string (⟨#[]⟩), .string (⟨#[]⟩), .int .u64 0, .int .i64 0, .slice none 0 0, .int .i64 0, .int .i64 0, .int .i64 0, .int .i64 0, .int .u64 0, .int .i64 0, .slice none 0 0]]) (R := fun res xw => res = .bool true ∧ Below w104.heap.size w104 xw) rfl rfl rfl (by kernel_rfl) (by kernel_rfl) (Try.call77 _ _) (writes_any y91.1 y91.2 w104 (by omega)) (by rintro e x ⟨rfl, hb154⟩; exact ⟨_, rfl, ⟨rfl, hb154⟩⟩)) ?_; clear h151
   rintro _ w153 a152 ⟨rfl, hb154⟩ h152
   have hz155 := hb154.size
   refine pk0 (v := .bool true) h152 rfl fun a156 h156 => ?_; clear h152
   refine pl_nil ?_
   refine co_then ?_
   refine co_true h156 rfl ?_
   refine co_seq ?_
   refine co_reg ?_
   have hk157 := hk105'.below hb154
   refine pk (v := .agg #[.int .i64 0, .int .i64 y91.1, .int .i64 y91.2, .int .i64 0, .string (⟨#[]⟩), .string (⟨#[]⟩), .int .u64 0, .int .i64 0, .slice none 0 0, .int .i64 0, .int .i64 0, .int .i64 0, .int .i64 0, .int .u64 0, .int .i64 0, .slice none 0 0]) h156 rfl (rn_loadN rfl rfl Try.underlying104 rfl (by kernel_rfl) hk157.all) fun a158 h158 => ?_; clear h156
   have hk164 := hk131.below hb154
   refine pwD h158 rfl (op_storeN rfl rfl rfl (all_cons rfl (all_cons rfl (all_cons rfl (all_cons rfl (all_cons rfl (all_cons rfl (all_cons rfl (all_cons rfl (all_cons rfl (all_cons rfl (all_cons rfl (all_cons rfl (all_cons rfl (all_cons rfl (all_cons rfl (all_cons rfl all_nil)))))))))))))))) (by kernel_rfl) hk164 rfl) ?_; clear h158
   rintro _ w160 a159 ⟨hk161, hz162, hg163⟩ h159
   have hk161' : Blk w160 N11 104 #[.int .i64 0, .int .i64 y91.1, .int .i64 y91.2, .int .i64 0, .string (⟨#[]⟩), .string (⟨#[]⟩), .int .u64 0, .int .i64 0, .slice none 0 0, .int .i64 0, .int .i64 0, .int .i64 0, .int .i64 0, .int .u64 0, .int .i64 0, .slice none 0 0] := hk161; clear hk161
   have hz165 := hg163.size
   refine pk0 (v := .bool true) h159 rfl fun a166 h166 => ?_; clear h159
   refine pl_nil ?_
   refine co_then ?_
   refine wp_ret ?_
   refine co_blockR ?_
   refine co_thenR ?_
   refine co_thenR ?_
   refine co_blockR ?_
   refine co_thenR ?_
   refine co_retC1 (Q := fun _ _ _ => True) h166 rfl rfl rfl hk161' Try.underlying104 rfl (by kernel_rfl) ?_
   have hB167 := hb_call hB129 hb154
   have hB168 := hb_at hB167 hg163 (by omega)
   exact ⟨_, _, rfl, by omega, hB168⟩
 ·
  rw [hc70] at h69
  have hp169 : y33.1 = rq := by first | simpa using hc70 | simpa [and_assoc] using hc70
  clear hc70
  refine pk (v := .agg #[.int .i64 0, .int .i64 y33.1, .int .i64 y33.2, .int .i64 0, .string (⟨#[]⟩), .string (⟨#[]⟩), .int .u64 0, .int .i64 0, .slice none 0 0, .int .i64 0, .int .i64 0, .int .i64 0, .int .i64 0, .int .u64 0, .int .i64 0, .slice none 0 0]) h69 rfl (rn_loadN rfl rfl Try.underlying104 rfl (by kernel_rfl) hk47'.all) fun a170 h170 => ?_; clear h69
  refine pw h170 rfl (op_call (args := #[.agg #[.int .i64 0, .int .i64 y33.1, .int .i64 y33.2, .int .i64 0, .string (⟨#[]⟩), .string (⟨#[]⟩), .int .u64 0, .int .i64 0, .slice none 0 0, .int .i64 0, .int .i64 0, .int .i64 0, .int .i64 0, .int .u64 0, .int .i64 0, .slice none 0 0]]) (R := fun res xw => res = .bool true ∧ Below w46.heap.size w46 xw) rfl rfl rfl (by kernel_rfl) (by kernel_rfl) (Try.call77 _ _) (writes_any y33.1 y33.2 w46 (by omega)) (by rintro e x ⟨rfl, hb173⟩; exact ⟨_, rfl, ⟨rfl, hb173⟩⟩)) ?_; clear h170
  rintro _ w172 a171 ⟨rfl, hb173⟩ h171
  have hz174 := hb173.size
  refine pk0 (v := .bool true) h171 rfl fun a175 h175 => ?_; clear h171
  refine pl_nil ?_
  refine co_then ?_
  refine co_true h175 rfl ?_
  refine co_seq ?_
  refine co_reg ?_
  have hk176 := hk47'.below hb173
  refine pk (v := .agg #[.int .i64 0, .int .i64 y33.1, .int .i64 y33.2, .int .i64 0, .string (⟨#[]⟩), .string (⟨#[]⟩), .int .u64 0, .int .i64 0, .slice none 0 0, .int .i64 0, .int .i64 0, .int .i64 0, .int .i64 0, .int .u64 0, .int .i64 0, .slice none 0 0]) h175 rfl (rn_loadN rfl rfl Try.underlying104 rfl (by kernel_rfl) hk176.all) fun a177 h177 => ?_; clear h175
  have hk183 := hk74.below hb173
  refine pwD h177 rfl (op_storeN rfl rfl rfl (all_cons rfl (all_cons rfl (all_cons rfl (all_cons rfl (all_cons rfl (all_cons rfl (all_cons rfl (all_cons rfl (all_cons rfl (all_cons rfl (all_cons rfl (all_cons rfl (all_cons rfl (all_cons rfl (all_cons rfl (all_cons rfl all_nil)))))))))))))))) (by kernel_rfl) hk183 rfl) ?_; clear h177
  rintro _ w179 a178 ⟨hk180, hz181, hg182⟩ h178
  have hk180' : Blk w179 N11 104 #[.int .i64 0, .int .i64 y33.1, .int .i64 y33.2, .int .i64 0, .string (⟨#[]⟩), .string (⟨#[]⟩), .int .u64 0, .int .i64 0, .slice none 0 0, .int .i64 0, .int .i64 0, .int .i64 0, .int .i64 0, .int .u64 0, .int .i64 0, .slice none 0 0] := hk180; clear hk180
  have hz184 := hg182.size
  refine pk0 (v := .bool true) h178 rfl fun a185 h185 => ?_; clear h178
  refine pl_nil ?_
  refine co_then ?_
  refine wp_ret ?_
  refine co_blockR ?_
  refine co_thenR ?_
  refine co_thenR ?_
  refine co_blockR ?_
  refine co_thenR ?_
  refine co_retC1 (Q := fun _ _ _ => True) h185 rfl rfl rfl hk180' Try.underlying104 rfl (by kernel_rfl) ?_
  have hB186 := hb_call hB72 hb173
  have hB187 := hb_at hB186 hg182 (by omega)
  exact ⟨_, _, rfl, by omega, hB187⟩
end Go.Proofs.Ytniojcnkjehflaa

/- math/bits.Len of 0. Conditions: none. -/
namespace Go.Proofs.Ytniojcnkjehflaa
open Go.RowKit Go.PlainAid
set_option linter.unusedVariables false
set_option maxRecDepth 100000 in
set_option maxHeartbeats 4000000 in
theorem len64_0 (w : World) : Calls Try.prog 97 #[.int .u64 0] w fun e w' => (∃ r : Int, e = .returned (.int .i64 r)) ∧ Below w.heap.size w w' := by
  go_enter Try.func97, Try.ntmps97
  go_wp2
  go_ret
  exact ⟨⟨_, rfl⟩, Below.refl _ _⟩
theorem len_0 (w : World) : Calls Try.prog 86 #[.int .u64 0] w fun e w' => (∃ r : Int, e = .returned (.int .i64 r)) ∧ Below w.heap.size w w' := by
  go_enter Try.func86, Try.ntmps86
  go_wp2_with (go_at_call 97; refine (len64_0 _).mono ?_; rintro e w1 ⟨⟨r, rfl⟩, hb⟩)
  go_ret
  exact ⟨⟨_, rfl⟩, hb⟩
theorem len_z (n : Int) (h : n = 0) (w : World) : Calls Try.prog 86 #[.int .u64 n] w fun e w' => (∃ r : Int, e = .returned (.int .i64 r)) ∧ Below w.heap.size w w' := by subst h; exact len_0 w
end Go.Proofs.Ytniojcnkjehflaa

/- Package ops: Norm of nothing. Conditions: none. -/
namespace Go.Proofs.Ytniojcnkjehflaa
open Go.RowKit Go.PlainAid
set_option linter.unusedVariables false
set_option linter.unusedSimpArgs false

set_option maxRecDepth 100000 in
theorem insSortN (v : Value) (b : Int) (w : World) (hb0 : b = 0) :
    Calls Try.prog 88 #[v, .int .i64 0, .int .i64 b, .func (.func 79) #[] #[]] w fun e w' => e = .returned (.tuple #[]) ∧ Below w.heap.size w w' := by
 have hB0 := Below.refl w.heap.size w
 refine co_enter (n := 53) Try.func88 rfl rfl rfl [(0, v), (1, .int .i64 0), (2, .int .i64 b), (3, .func (.func 79) #[] #[])] rfl (fun a h0 => ?_)
 refine co_seq ?_
 refine co_reg ?_
 refine pk0 (v := .int .i64 0) h0 rfl fun a1 h1 => ?_; clear h0
 refine pk0 (v := .int .i64 1) h1 rfl fun a2 h2 => ?_; clear h1
 refine pk0 (v := .int .i64 1) h2 rfl fun a3 h3 => ?_; clear h2
 refine pl_nil ?_
 refine co_then ?_
 refine wp_block ?_
 refine wp_loop_rounds 2 ?_
 refine co_unroll (n := 1) ?_
 refine co_seq ?_
 refine co_seq ?_
 refine co_reg ?_
 refine pk0 (v := .int .i64 1) h3 rfl fun a4 h4 => ?_; clear h3
 refine pk0 (v := .int .i64 b) h4 rfl fun a5 h5 => ?_; clear h4
 refine pk0 (v := .bool (decide (1 < b))) h5 rfl fun a6 h6 => ?_; clear h5
 refine pl_nil ?_
 refine co_then ?_
 have hc7 : (decide (1 < b)) = false := decide_eq_false (by omega)
 rw [hc7] at h6; clear hc7
 refine co_false h6 rfl ?_
 refine wp_exit ?_
 refine co_thenX ?_
 refine co_thenX ?_
 refine co_blockX ?_
 refine co_ret0n h6 rfl ?_
 exact ⟨rfl, hB0⟩
set_option maxRecDepth 100000 in
theorem pdqSortN (v : Value) (b : Int) (n : Int) (w : World) (hb0 : b = 0) :
    Calls Try.prog 85 #[v, .int .i64 0, .int .i64 b, .int .i64 n, .func (.func 79) #[] #[]] w fun e w' => e = .returned (.tuple #[]) ∧ Below w.heap.size w w' := by
 have hB0 := Below.refl w.heap.size w
 refine co_enter (n := 148) Try.func85 rfl rfl rfl [(0, v), (1, .int .i64 0), (2, .int .i64 b), (3, .int .i64 n), (4, .func (.func 79) #[] #[])] rfl (fun a h0 => ?_)
 refine co_seq ?_
 refine co_reg ?_
 refine pk0 (v := .bool true) h0 rfl fun a1 h1 => ?_; clear h0
 refine pl_nil ?_
 refine co_then ?_
 refine co_seq ?_
 refine co_reg ?_
 refine pk0 (v := .bool true) h1 rfl fun a2 h2 => ?_; clear h1
 refine pl_nil ?_
 refine co_then ?_
 refine wp_block ?_
 refine wp_loop_rounds 2 ?_
 refine co_unroll (n := 1) ?_
 refine wp_block ?_
 refine co_seq ?_
 refine co_reg ?_
 refine pk0 (v := .int .i64 b) h2 rfl fun a3 h3 => ?_; clear h2
 refine pk0 (v := .int .i64 0) h3 rfl fun a4 h4 => ?_; clear h3
 refine pk (v := .int .i64 (b - 0)) h4 rfl (rn_arith rfl rfl rfl rfl rfl rfl (IntWalk.i64_in _ (by omega))) fun a5 h5 => ?_; clear h4
 refine pk0 (v := .int .i64 (b - 0)) h5 rfl fun a6 h6 => ?_; clear h5
 refine pl_nil ?_
 refine co_then ?_
 refine co_seq ?_
 refine co_seq ?_
 refine co_reg ?_
 refine pk0 (v := .int .i64 (b - 0)) h6 rfl fun a7 h7 => ?_; clear h6
 refine pk0 (v := .bool (decide (b - 0 ≤ 12))) h7 rfl fun a8 h8 => ?_; clear h7
 refine pl_nil ?_
 refine co_then ?_
 have hc9 : (decide (b - 0 ≤ 12)) = true := decide_eq_true (by omega)
 rw [hc9] at h8; clear hc9
 refine co_true h8 rfl ?_
 refine co_seq ?_
 refine co_reg ?_
 refine pk0 (v := v) h8 rfl fun a10 h10 => ?_; clear h8
 refine pk0 (v := .int .i64 0) h10 rfl fun a11 h11 => ?_; clear h10
 refine pk0 (v := .int .i64 b) h11 rfl fun a12 h12 => ?_; clear h11
 refine pk0 (v := .func (.func 79) #[] #[]) h12 rfl fun a13 h13 => ?_; clear h12
 refine pw h13 rfl (op_call (args := #[v, .int .i64 0, .int .i64 b, .func (.func 79) #[] #[]]) (R := fun res xw => res = .tuple #[] ∧ Below w.heap.size w xw) rfl rfl rfl (by kernel_rfl) (by kernel_rfl) (Try.call88 _ _) (insSortN v b w (by omega)) (by rintro e x ⟨rfl, hb16⟩; exact ⟨_, rfl, ⟨rfl, hb16⟩⟩)) ?_; clear h13
 rintro _ w15 a14 ⟨rfl, hb16⟩ h14
 have hz17 := hb16.size
 refine pl_nil ?_
 refine co_then ?_
 refine wp_ret ?_
 refine co_thenR ?_
 refine co_blockR ?_
 refine co_thenR ?_
 refine co_blockR ?_
 refine co_ret0 h14 rfl ?_
 have hB18 := hb_call hB0 hb16
 exact ⟨rfl, hB18⟩
set_option maxRecDepth 100000 in
theorem sortFuncN (v : Value) (l : List OpT) (w : World) (hs : SliceOf opE 3 w v l) (hl : l.length = 0) :
    Calls Try.prog 82 #[v, .func (.func 79) #[] #[]] w fun e w' => e = .returned (.tuple #[]) ∧ Below w.heap.size w w' := by
 have hB0 := Below.refl w.heap.size w
 have hl_hs := sl_len hs
 refine co_enter (n := 14) Try.func82 rfl rfl rfl [(0, v), (1, .func (.func 79) #[] #[])] rfl (fun a h0 => ?_)
 refine co_seq ?_
 refine co_reg ?_
 refine pk0 (v := v) h0 rfl fun a1 h1 => ?_; clear h0
 refine pk (v := .int .i64 ((l.length : Nat) : Int)) h1 rfl (rn_len rfl rfl Try.underlying138 hs) fun a2 h2 => ?_; clear h1
 refine pk0 (v := .int .i64 ((l.length : Nat) : Int)) h2 rfl fun a3 h3 => ?_; clear h2
 refine pl_nil ?_
 refine co_then ?_
 refine co_reg ?_
 refine pk0 (v := v) h3 rfl fun a4 h4 => ?_; clear h3
 refine pk0 (v := .int .i64 ((l.length : Nat) : Int)) h4 rfl fun a5 h5 => ?_; clear h4
 refine pk0 (v := .int .i64 ((l.length : Nat) : Int)) h5 rfl fun a6 h6 => ?_; clear h5
 refine pk (v := .int .u64 ((l.length : Nat) : Int)) h6 rfl (rn_conv rfl rfl Try.underlying3 Try.underlying149 (IntWalk.u64_in _ (by omega))) fun a7 h7 => ?_; clear h6
 refine pw h7 rfl (op_call (args := #[.int .u64 ((l.length : Nat) : Int)]) (R := fun res xw => ∃ r : Int, res = .int .i64 r ∧ Below w.heap.size w xw) rfl rfl rfl (by kernel_rfl) (by kernel_rfl) (Try.call86 _ _) (len_z ((l.length : Nat) : Int) (by omega) w) (by rintro e x ⟨⟨r, h0⟩, h⟩; exact ⟨_, h0, r, rfl, h⟩)) ?_; clear h7
 rintro _ w9 a8 ⟨r10, rfl, hb11⟩ h8
 have hz12 := hb11.size
 refine pk0 (v := .func (.func 79) #[] #[]) h8 rfl fun a13 h13 => ?_; clear h8
 refine pw h13 rfl (op_call (args := #[v, .int .i64 0, .int .i64 ((l.length : Nat) : Int), .int .i64 r10, .func (.func 79) #[] #[]]) (R := fun res xw => res = .tuple #[] ∧ Below w9.heap.size w9 xw) rfl rfl rfl (by kernel_rfl) (by kernel_rfl) (Try.call85 _ _) (pdqSortN v ((l.length : Nat) : Int) r10 w9 (by omega)) (by rintro e x ⟨rfl, hb16⟩; exact ⟨_, rfl, ⟨rfl, hb16⟩⟩)) ?_; clear h13
 rintro _ w15 a14 ⟨rfl, hb16⟩ h14
 have hz17 := hb16.size
 refine pl_nil ?_
 refine co_ret0n h14 rfl ?_
 have hB18 := hb_call hB0 hb11
 have hB19 := hb_call hB18 hb16
 exact ⟨rfl, hB19⟩
set_option maxRecDepth 100000 in
theorem sortedN (B : Nat) (g : ByteArray → Option OpT) (w : World) (hm : MapO strK opV w B g 0) :
    Calls Try.prog 78 #[.map (some B), .func (.func 79) #[] #[]] w fun e w' => ∃ (u : Value), e = .returned (u) ∧ w'.ownsRow w.heap.size 137 3 u ([] : List OpT).length (([] : List OpT).flatMap opE) ∧ Below w.heap.size w w' := by
 have hB0 := Below.refl w.heap.size w
 have hBl := hm.lt
 refine co_enter (n := 25) Try.func78 rfl rfl rfl [(0, .map (some B)), (1, .func (.func 79) #[] #[])] rfl (fun a h0 => ?_)
 refine co_seq ?_
 refine co_reg ?_
 refine pk0 (v := .slice none 0 0) h0 rfl fun a1 h1 => ?_; clear h0
 refine pl_nil ?_
 refine co_then ?_
 refine co_seq ?_
 refine co_reg ?_
 refine pk0 (v := .map (some B)) h1 rfl fun a2 h2 => ?_; clear h1
 refine pw h2 rfl (op_lenO (ts := #[]) rfl rfl Try.underlying136 hm (by kernel_rfl) rfl) ?_; clear h2
 rintro _ _ a3 ⟨k5, rfl, hk6, rfl⟩ h3
 refine pw h3 rfl (op_makeOwn (base := w.heap.size) (enc := opE) (k := k5) (by_ := 40) (z := .agg #[.string (⟨#[]⟩), .string (⟨#[]⟩), .bool false]) (size := 3) rfl rfl rfl Try.underlying138 (by kernel_rfl) (by omega) (by unfold maxLen; omega) (Nat.le_refl _)) ?_; clear h3
 rintro _ w8 a7 ⟨N9, rfl, hN10, hr11, hg12⟩ h7
 have hz13 := hg12.size
 refine pk0 (v := .slice (some ⟨N9, 0, none⟩) 0 k5) h7 rfl fun a14 h14 => ?_; clear h7
 refine pl_nil ?_
 refine co_then ?_
 refine co_seq ?_
 refine co_seq ?_
 refine co_reg ?_
 refine pk0 (v := .map (some B)) h14 rfl fun a15 h15 => ?_; clear h14
 have hM26 := hm.kept hg12 (by simp)
 refine pw h15 rfl (op_rangeO (⟨#[]⟩ : ByteArray) rfl rfl Try.underlying136 hM26) ?_; clear h15
 rintro _ w17 a16 ⟨r18, rfl, hN19, hz20, ⟨lt21, hI22, hfu23, hlc24⟩, hg25⟩ h16
 have ha27 := row_fresh hr11 hN19
 have hz28 := hg25.size
 have hl29 := hI22.lt
 refine pl_nil ?_
 refine co_then ?_
 refine wp_block ?_
 refine wp_loop_rounds 1 ?_
 refine co_unroll (n := 0) ?_
 refine co_seq ?_
 refine co_reg ?_
 refine pl_want h16 rfl rfl rfl (op_nextO rfl rfl hI22) ?_; clear h16
 rintro _ w31 a30 (⟨hnil40, rfl, rfl⟩ | ⟨p32, l33, l34, hleft35, rfl, hI36, hen37, hz38, hg39⟩) h30
 ·
  refine pk0 (v := .bool false) h30 rfl fun a41 h41 => ?_; clear h30
  refine pl_nil ?_
  refine co_then ?_
  refine co_seq ?_
  refine co_false h41 rfl ?_
  refine wp_exit ?_
  refine co_thenX ?_
  refine co_thenX ?_
  refine co_blockX ?_
  refine co_then ?_
  refine co_seq ?_
  refine co_reg ?_
  refine pk0 (v := .slice (some ⟨N9, 0, none⟩) 0 k5) h41 rfl fun a42 h42 => ?_; clear h41
  refine pk0 (v := .func (.func 79) #[] #[]) h42 rfl fun a43 h43 => ?_; clear h42
  have hr46 := row_kept_new hr11 hg25
  refine pw h43 rfl (op_call (args := #[.slice (some ⟨N9, 0, none⟩) 0 k5, .func (.func 79) #[] #[]]) (R := fun res xw => res = .tuple #[] ∧ Below w17.heap.size w17 xw) rfl rfl rfl (by kernel_rfl) (by kernel_rfl) (Try.call82 _ _) (sortFuncN (.slice (some ⟨N9, 0, none⟩) 0 k5) ([]) w17 (row_sl hr46 opE_len) (by simp)) (by rintro e x ⟨rfl, hb47⟩; exact ⟨_, rfl, ⟨rfl, hb47⟩⟩)) ?_; clear h43
  rintro _ w45 a44 ⟨rfl, hb47⟩ h44
  have hz48 := hb47.size
  refine pl_nil ?_
  refine co_then ?_
  refine co_seq ?_
  refine co_reg ?_
  refine pk0 (v := .slice (some ⟨N9, 0, none⟩) 0 k5) h44 rfl fun a49 h49 => ?_; clear h44
  refine pk0 (v := .slice (some ⟨N9, 0, none⟩) 0 k5) h49 rfl fun a50 h50 => ?_; clear h49
  refine pl_nil ?_
  refine co_then ?_
  refine wp_ret ?_
  refine co_ret1 h50 rfl rfl ?_
  have hr51 := row_kept_new hr46 (below_grown hb47)
  have hB52 := hb_new hB0 hg12
  have hB53 := hb_new hB52 hg25
  have hB54 := hb_call hB53 hb47
  exact ⟨_, rfl, (row_lows hr51 (by omega)), hB54⟩
 · exfalso; have hq := congrArg List.length hleft35; simp only [List.length_append, List.length_cons] at hq; omega
set_option maxRecDepth 100000 in
theorem opsNormN  (w : World)  :
    Calls Try.prog 72 #[.slice none 0 0] w fun e w' => ∃ (u : Value), e = .returned (u) ∧ w'.ownsRow w.heap.size 74 3 u ([] : List OpT).length (([] : List OpT).flatMap opE) ∧ Below w.heap.size w w' := by
 have hB0 := Below.refl w.heap.size w
 refine co_enter (n := 37) Try.func72 rfl rfl rfl [(0, .slice none 0 0)] rfl (fun a h0 => ?_)
 refine co_seq ?_
 refine co_reg ?_
 refine pk0 (v := .slice none 0 0) h0 rfl fun a1 h1 => ?_; clear h0
 refine pl_nil ?_
 refine co_then ?_
 refine co_seq ?_
 refine co_reg ?_
 refine pw h1 rfl (op_makeO strK opV (by kernel_rfl) (by kernel_rfl) rfl) ?_; clear h1
 rintro _ w3 a2 ⟨B4, rfl, hN5, hz6, hm7, hg8⟩ h2
 have hz9 := hg8.size
 have hl10 := hm7.lt
 refine pk0 (v := .map (some B4)) h2 rfl fun a11 h11 => ?_; clear h2
 refine pl_nil ?_
 refine co_then ?_
 refine co_seq ?_
 refine co_seq ?_
 refine co_reg ?_
 refine pk0 (v := .slice none 0 0) h11 rfl fun a12 h12 => ?_; clear h11
 refine pk0 (v := .int .i64 0) h12 rfl fun a13 h13 => ?_; clear h12
 refine pk0 (v := .int .i64 0) h13 rfl fun a14 h14 => ?_; clear h13
 refine pl_nil ?_
 refine co_then ?_
 refine wp_block ?_
 refine wp_loop_rounds 1 ?_
 refine co_unroll (n := 0) ?_
 refine co_seq ?_
 refine co_reg ?_
 refine pk0 (v := .bool (decide (0 < 0))) h14 rfl fun a15 h15 => ?_; clear h14
 refine pl_nil ?_
 refine co_then ?_
 refine co_seq ?_
 have hc16 : (decide (0 < 0)) = false := decide_eq_false (by omega)
 rw [hc16] at h15; clear hc16
 refine co_false h15 rfl ?_
 refine wp_exit ?_
 refine co_thenX ?_
 refine co_thenX ?_
 refine co_blockX ?_
 refine co_then ?_
 refine co_seq ?_
 refine co_reg ?_
 refine pk0 (v := .map (some B4)) h15 rfl fun a17 h17 => ?_; clear h15
 refine pw h17 rfl (op_lenO (ts := #[]) rfl rfl Try.underlying136 hm7 (by kernel_rfl) rfl) ?_; clear h17
 rintro _ _ a18 ⟨k20, rfl, hk21, rfl⟩ h18
 refine pw h18 rfl (op_makeOwn (base := w3.heap.size) (enc := opE) (k := k20) (by_ := 40) (z := .agg #[.string (⟨#[]⟩), .string (⟨#[]⟩), .bool false]) (size := 3) rfl rfl rfl Try.underlying33 (by kernel_rfl) (by omega) (by unfold maxLen; omega) (Nat.le_refl _)) ?_; clear h18
 rintro _ w23 a22 ⟨N24, rfl, hN25, hr26, hg27⟩ h22
 have hz28 := hg27.size
 refine pk0 (v := .slice (some ⟨N24, 0, none⟩) 0 k20) h22 rfl fun a29 h29 => ?_; clear h22
 refine pl_nil ?_
 refine co_then ?_
 refine co_seq ?_
 refine co_seq ?_
 refine co_reg ?_
 refine pk0 (v := .map (some B4)) h29 rfl fun a30 h30 => ?_; clear h29
 have hM33 := hm7.kept hg27 (by simp)
 refine pw h30 rfl (op_call (args := #[.map (some B4), .func (.func 79) #[] #[]]) (R := fun res xw => ∃ u : Value, res = u ∧ xw.ownsRow w23.heap.size 137 3 u ([] : List OpT).length (([] : List OpT).flatMap opE) ∧ Below w23.heap.size w23 xw) rfl rfl rfl (by kernel_rfl) (by kernel_rfl) (Try.call78 _ _) (sortedN B4 (fun _ => none) w23 hM33) (by rintro e x ⟨u, rfl, hq35, hb36⟩; exact ⟨_, rfl, ⟨u, rfl, hq35, hb36⟩⟩)) ?_; clear h30
 rintro u34 w32 a31 ⟨_, rfl, hq35, hb36⟩ h31
 have hz37 := hb36.size
 have hl38 := sl_len (row_sl hq35 opE_len)
 have hn39 : ([] : List OpT).length = 0 := rfl
 refine pk (v := .int .i64 ((([] : List OpT).length : Nat) : Int)) h31 rfl (rn_lenOwn rfl rfl Try.underlying138 hq35) fun a40 h40 => ?_; clear h31
 refine pk0 (v := .int .i64 0) h40 rfl fun a41 h41 => ?_; clear h40
 refine pl_nil ?_
 refine co_then ?_
 refine wp_block ?_
 refine wp_loop_rounds 1 ?_
 refine co_unroll (n := 0) ?_
 refine co_seq ?_
 refine co_reg ?_
 refine pk0 (v := .bool (decide (0 < ((([] : List OpT).length : Nat) : Int)))) h41 rfl fun a42 h42 => ?_; clear h41
 refine pl_nil ?_
 refine co_then ?_
 refine co_seq ?_
 have hc43 : (decide (0 < ((([] : List OpT).length : Nat) : Int))) = false := decide_eq_false (by omega)
 rw [hc43] at h42; clear hc43
 refine co_false h42 rfl ?_
 refine wp_exit ?_
 refine co_thenX ?_
 refine co_thenX ?_
 refine co_blockX ?_
 refine co_then ?_
 refine co_seq ?_
 refine co_reg ?_
 refine pk0 (v := .slice (some ⟨N24, 0, none⟩) 0 k20) h42 rfl fun a44 h44 => ?_; clear h42
 refine pk0 (v := .slice (some ⟨N24, 0, none⟩) 0 k20) h44 rfl fun a45 h45 => ?_; clear h44
 refine pl_nil ?_
 refine co_then ?_
 refine wp_ret ?_
 refine co_ret1 h45 rfl rfl ?_
 have hr46 := row_kept_new hr26 (below_grown hb36)
 have hB47 := hb_new hB0 hg8
 have hB48 := hb_new hB47 hg27
 have hB49 := hb_call hB48 hb36
 exact ⟨_, rfl, (row_lows hr46 (by omega)), hB49⟩
end Go.Proofs.Ytniojcnkjehflaa

/- Objects with a footprint: what holds of them depends on the blocks in S alone; a call turns S, and what it makes joins it. Conditions: none. -/
namespace Go.Proofs.Ytniojcnkjehflaa
open Go.RowKit Go.PlainAid
set_option linter.unusedVariables false

/-- S' holds what S held, and what was made since; nothing but S was turned. -/
structure Grew (S S' : Nat → Prop) (w x : World) : Prop where
  sub : ∀ q, S' q → S q ∨ w.heap.size ≤ q
  but : But S w x
section
variable {S S' D : Nat → Prop} {n N : Nat} {w x : World} {v u : Value} {T e : TypeId} {cs : Array Value} {B sz k : Nat} {xs : List Value}
theorem Grew.lo {n0 : Nat} (h : Grew S S' w x) (hlo : ∀ q, S q → n0 ≤ q) (hn : n0 ≤ w.heap.size) : ∀ q, S' q → n0 ≤ q := fun q hq => by
  rcases h.sub q hq with k | k
  · exact hlo q k
  · omega
theorem Grew.off (h : Grew S S' w x) (hN : ¬ S N) (hl : N < w.heap.size) : ¬ S' N := fun hq => by
  rcases h.sub N hq with k | k
  · exact hN k
  · omega
theorem row_block {i : Nat} (h : w.ownsRow B e sz v k xs) (hi : v.ownBlock = some i) : ∃ cs, w.heap[i]? = some (.cells cs e (0, 0)) := by
  rcases h.2 with ⟨rfl, _⟩ | ⟨g, c, cur, rfl, _, hh, _⟩
  · simp [Value.ownBlock] at hi
  · simp only [Value.ownBlock, Option.some.injEq] at hi; subst hi; exact ⟨_, hh⟩
theorem row_sameL (h : w.ownsRow B e sz v k xs) (hk : ∀ i, v.ownBlock = some i → x.heap[i]? = w.heap[i]?) : x.ownsRow B e sz v k xs := by
  refine ⟨h.1, ?_⟩
  rcases h.2 with h1 | ⟨g, c, cur, rfl, hg, hh, h3⟩
  · exact .inl h1
  · exact .inr ⟨g, c, cur, rfl, hg, by rw [hk g rfl]; exact hh, h3⟩
end
end Go.Proofs.Ytniojcnkjehflaa

/- Package rlog: one that nobody made; the log as one object. Conditions: at most 100 entries, 20 operations each. -/
namespace Go.Proofs.Ytniojcnkjehflaa
open Go.RowKit Go.PlainAid
set_option linter.unusedVariables false

def TyL (w : World) (k : Nat) : Prop := (∃ cs T fr, w.heap[k]? = some (.cells cs T fr) ∧ (T = 68 ∨ T = 37 ∨ T = 74 ∨ T = 31)) ∨ ∃ es cl, w.heap[k]? = some (.map es cl)
/-- A type that is none of a log's parts. -/
def offL (T : TypeId) : Prop := T ≠ 68 ∧ T ≠ 37 ∧ T ≠ 74 ∧ T ≠ 31
instance (T : TypeId) : Decidable (offL T) := by unfold offL; infer_instance
theorem not_tyL {w : World} {N : Nat} {T : TypeId} {cs : Array Value} (hb : w.heap[N]? = some (.cells cs T (0, 0))) (hT : offL T) : ¬ TyL w N := by
  rintro (⟨cs', T', fr, h1, h2⟩ | ⟨es, cl, h1⟩)
  · rw [hb] at h1
    simp only [Option.some.injEq, Obj.cells.injEq] at h1
    obtain ⟨_, rfl, _⟩ := h1
    rcases h2 with q | q | q | q
    · exact hT.1 q
    · exact hT.2.1 q
    · exact hT.2.2.1 q
    · exact hT.2.2.2 q
  · rw [hb] at h1; cases h1
/-- Blocks that were there, each of a type that a log's parts have. -/
def OfL (S : Nat → Prop) (w : World) : Prop := ∀ q, S q → q < w.heap.size ∧ TyL w q
/-- A log that was made: its parts are in S. -/
def LObj (S : Nat → Prop) (w : World) (b : Nat) (L : List EntT) : Prop := OfL S w ∧ ∃ M u, LgP S w.heap.size w b M u L
section
variable {S S' D : Nat → Prop} {n : Nat} {w x : World} {b M N : Nat} {u v : Value} {L : List EntT} {cs : Array Value} {T e : TypeId} {B sz k : Nat} {xs : List Value}
theorem ins_in (h : InS S w.heap.size v) (hr : w.ownsRow B e sz v k xs) : ∀ i, v.ownBlock = some i → S i := fun i hi => by
  rcases h i hi with q | q
  · exact q
  · have := (hr.lt i hi).2; omega
/-- All that is the log's is as it was: so is the log. -/
theorem LObj.keep (h : LObj S w b L) (hs : w.heap.size ≤ x.heap.size) (hk : ∀ q, S q → x.heap[q]? = w.heap[q]?) : LObj S x b L := by
  obtain ⟨hS, M, u, h⟩ := h
  have hb : S b := by
    rcases h.sb with q | q
    · exact q
    · have := h.blk.lt; omega
  have hty : OfL S x := fun q hq => ⟨by have := (hS q hq).1; omega, by
    have h1 := (hS q hq).2
    unfold TyL at h1 ⊢
    rw [hk q hq]; exact h1⟩
  have up : ∀ {v : Value}, (∀ i, v.ownBlock = some i → S i) → InS S x.heap.size v := fun hv i hi => .inl (hv i hi)
  refine ⟨hty, M, u, ?_, ?_, row_sameL h.row (fun i hi => hk i (ins_in h.su h.row i hi)), fun e he => ⟨row_sameL (h.ents e he).row (fun i hi => hk i (ins_in (h.ents e he).ins (h.ents e he).row i hi)), up (ins_in (h.ents e he).ins (h.ents e he).row), (h.ents e he).len, (h.ents e he).each, (h.ents e he).ts0, (h.ents e he).ts1, (h.ents e he).cl, (h.ents e he).rq⟩, .inl hb, ?_, up (ins_in h.su h.row), h.uq, h.len⟩
  · have hB := h.blk
    unfold Blk at hB ⊢
    rw [hk b hb]; exact hB
  · obtain ⟨c, hm⟩ := h.map
    have hM : S M := by
      rcases h.sM with q | q
      · exact q
      · have := hm.lt; omega
    obtain ⟨l, ⟨es, cl, h1, h2⟩, h3⟩ := hm
    exact ⟨c, l, ⟨es, cl, by rw [hk M hM]; exact h1, h2⟩, h3⟩
  · obtain ⟨c, hm⟩ := h.map
    rcases h.sM with q | q
    · exact .inl q
    · have := hm.lt; omega
theorem LObj.gr {row : Option Nat} (h : LObj S w b L) (hg : w.grownBy x row) (hr : ∀ k, row = some k → ¬ S k) : LObj S x b L :=
  h.keep hg.size fun k hk => hg.block k (h.1 k hk).1 (fun e => hr k e.symm hk)
theorem LObj.new (h : LObj S w b L) (hg : w.grownBy x none) : LObj S x b L := h.gr hg (fun k e => by cases e)
theorem LObj.call (h : LObj S w b L) (hb : Below w.heap.size w x) : LObj S x b L := h.new (below_grown hb)
theorem LObj.at (h : LObj S w b L) (hb : Blk w N T cs) (hT : offL T) (hg : w.grownBy x (some N)) : LObj S x b L := h.gr hg (fun k e => by cases e; exact fun hS => not_tyL hb hT (h.1 N hS).2)
theorem LObj.row (h : LObj S w b L) (hr : w.ownsRow B e sz v k xs) (hT : offL e) (hg : w.grownBy x v.ownBlock) : LObj S x b L :=
  h.gr hg (fun k e hS => by obtain ⟨cs, hc⟩ := row_block hr e; exact not_tyL hc hT (h.1 k hS).2)
theorem LObj.but (h : LObj S w b L) (hd : ∀ q, S q → D q → False) (hb : But D w x) : LObj S x b L := h.keep hb.size fun k hk => hb.block k (h.1 k hk).1 (fun q => hd k hk q)
end
end Go.Proofs.Ytniojcnkjehflaa

/- The document's log: Set. Conditions: at most 100 entries, 20 operations each. -/
namespace Go.Proofs.Ytniojcnkjehflaa
open Go.RowKit Go.PlainAid
set_option linter.unusedVariables false


/-- What Set makes of the entries, as far as anybody sees. -/
def setL (L : List EntT) (i c r : Int) (l : List OpT) (ts : Int) : List EntT :=
  if setE L i c r l ts ≠ 0 then L else if (L[i.toNat]?).map nmE = some (c, r) then restF L i.toNat ts else L.take i.toNat ++ [EntT.mk c r (.slice none 0 0) l ts]
section
variable {L Lk X Mk : List EntT} {i k : Nat} {y y0 : EntT} {q : Int × Int} {c r ts : Int} {l : List OpT} {n : Int}
theorem setL_no (h : setE L n c r l ts ≠ 0) : setL L n c r l ts = L := by unfold setL; rw [if_pos h]
theorem setL_tw (h : setE L n c r l ts = 0) (h2 : (L[n.toNat]?).map nmE = some (c, r)) : setL L n c r l ts = restF L n.toNat ts := by unfold setL; rw [if_neg (by rw [h]; simp), if_pos h2]
theorem setL_nw (h : setE L n c r l ts = 0) (h2 : ¬ (L[n.toNat]?).map nmE = some (c, r)) : setL L n c r l ts = L.take n.toNat ++ [EntT.mk c r (.slice none 0 0) l ts] := by unfold setL; rw [if_neg (by rw [h]; simp), if_neg h2]
end
end Go.Proofs.Ytniojcnkjehflaa

/- Package rlog: what is right stays right (pure; as far as adopt needs it). Conditions: none. -/
namespace Go.Proofs.Ytniojcnkjehflaa
open Go.RowKit Go.PlainAid
set_option linter.unusedVariables false


/-- A log that is right. -/
structure RI (L : List EntT) : Prop where
  chk : ∀ e ∈ L, chkB e.client e.req e.opl = 0
  uq : UqN L
  up : ∀ i y p, L[i + 1]? = some y → L[i]? = some p → y.ts ≠ 0 → p.ts ≠ 0 ∧ p.ts < y.ts
theorem RI.nil : RI [] := ⟨fun e he => by simp at he, by simp [UqN], fun i y p h => by simp at h⟩
theorem RI.e0 {A B : List EntT} (h : A.map e0 = B.map e0) (hA : RI A) : RI B := by
  have ba := h.symm
  refine ⟨fun e he => ?_, hA.uq.nm (e0_f (f := nmE) (fun _ => rfl) ba), fun i y p hy hp hn => ?_⟩
  · obtain ⟨i, hi⟩ := List.getElem?_of_mem he
    obtain ⟨z, hz, e1⟩ := e0_at ba hi
    obtain ⟨_, k2, k3, k4⟩ := e0_ts e1
    rw [← k2, ← k3, ← k4]; exact hA.chk z (List.mem_of_getElem? hz)
  · obtain ⟨y', h1, e1⟩ := e0_at ba hy
    obtain ⟨p', h2, e2⟩ := e0_at ba hp
    have := hA.up i y' p' h1 h2 (by rw [(e0_ts e1).1]; exact hn)
    rw [(e0_ts e1).1, (e0_ts e2).1] at this; exact this
theorem rgF_0 : ∀ (r pre : List EntT), rgF pre r = 0 ↔ (∀ e ∈ r, chkB e.client e.req e.opl = 0) ∧ (∀ i y, r[i]? = some y → ¬ 0 < twN (pre ++ r.take i) y.client y.req) ∧ (∀ i y, r[i]? = some y → badT (pre ++ r.take i) y = false)
  | [], pre => by simp [rgF]
  | e :: r, pre => by
    have ih := rgF_0 r (pre ++ [e])
    rw [rgF]
    by_cases h1 : chkB e.client e.req e.opl ≠ 0
    · rw [if_pos h1]; exact ⟨fun h => absurd h h1, fun h => absurd (h.1 e (by simp)) h1⟩
    · rw [if_neg h1]
      by_cases h2 : 0 < twN pre e.client e.req
      · rw [if_pos h2]; exact ⟨(fun h => by cases h), fun h => absurd h2 (by simpa using h.2.1 0 e rfl)⟩
      · rw [if_neg h2]
        by_cases h3 : badT pre e = true
        · rw [if_pos h3]; exact ⟨(fun h => by cases h), fun h => by have := h.2.2 0 e rfl; simp [h3] at this⟩
        · rw [if_neg h3, ih]
          constructor
          · rintro ⟨k1, k2, k3⟩
            refine ⟨fun x hx => ?_, fun i y hy => ?_, fun i y hy => ?_⟩
            · rw [List.mem_cons] at hx; rcases hx with rfl | hx; omega; exact k1 x hx
            · cases i with
              | zero => simp at hy; subst hy; simpa using h2
              | succ i => simp at hy; have := k2 i y hy; simpa using this
            · cases i with
              | zero => simp at hy; subst hy; simpa using h3
              | succ i => simp at hy; have := k3 i y hy; simpa using this
          · rintro ⟨k1, k2, k3⟩
            refine ⟨fun x hx => k1 x (List.mem_cons_of_mem _ hx), fun i y hy => ?_, fun i y hy => ?_⟩
            · have := k2 (i + 1) y (by simpa using hy); simpa using this
            · have := k3 (i + 1) y (by simpa using hy); simpa using this
theorem rev_ind {α : Type} {p : List α → Prop} (h0 : p []) (h1 : ∀ l y, p l → p (l ++ [y])) (l : List α) : p l := by
  rw [← List.reverse_reverse l]
  induction l.reverse with
  | nil => exact h0
  | cons y r ih => rw [List.reverse_cons]; exact h1 _ _ ih
theorem twN_none {L : List EntT} {c r : Int} : ¬ 0 < twN L c r ↔ ∀ z ∈ L, nmE z ≠ (c, r) := by
  refine rev_ind (p := fun L => ¬ 0 < twN L c r ↔ ∀ z ∈ L, nmE z ≠ (c, r)) ?_ (fun l y ih => ?_) L
  · simp [twN]
  · rw [twN_snoc]
    have h0 := twN_pos l c r
    constructor
    · intro h z hz
      rw [List.mem_append, List.mem_singleton] at hz
      rcases hz with hz | rfl
      · exact ih.1 (by split at h <;> omega) z hz
      · intro e; simp only [nmE, Prod.mk.injEq] at e; rw [if_pos e] at h; omega
    · intro h
      have h1 := ih.2 (fun z hz => h z (by simp [hz]))
      have h2 : ¬ (y.client = c ∧ y.req = r) := fun q => h y (by simp) (by simp [nmE, q.1, q.2])
      rw [if_neg h2]; omega
theorem RI.right {L : List EntT} (h : RI L) : rightI L = 0 := by
  unfold rightI
  rw [rgF_0]
  refine ⟨h.chk, fun i y hy => ?_, fun i y hy => ?_⟩
  · rw [List.nil_append, twN_none]
    intro z hz e
    obtain ⟨j, hj⟩ := List.getElem?_of_mem hz
    have hl := (List.getElem?_eq_some_iff.1 hj).1
    rw [List.length_take] at hl
    rw [List.getElem?_take, if_pos (by omega)] at hj
    have := h.uq.at hj hy e
    omega
  · rw [List.nil_append]
    cases i with
    | zero => exact badM_0 rfl
    | succ i =>
      have hl := (List.getElem?_eq_some_iff.1 hy).1
      rw [bad_at (j := i) (by omega) (by omega) (List.getElem?_eq_getElem (by omega))]
      refine decide_eq_false (fun q => ?_)
      have := h.up i y _ hy (List.getElem?_eq_getElem (by omega)) q.1
      omega
section
variable {L : List EntT} {i c r ts n h : Int} {l : List OpT}
theorem RI.take (h : RI L) (k : Nat) : RI (L.take k) := ⟨fun e he => h.chk e (List.mem_of_mem_take he), h.uq.take k, fun i y p hy hp hn => by
  have hl := (List.getElem?_eq_some_iff.1 hy).1
  rw [List.length_take] at hl
  rw [List.getElem?_take, if_pos (by omega)] at hy hp
  exact h.up i y p hy hp hn⟩
theorem setE_0 (h : setE L i c r l ts = 0) : 0 ≤ i ∧ i ≤ (L.length : Int) ∧ chkB c r l = 0 ∧ i < 100 ∧ findN (L.take i.toNat) (c, r) = none ∧ badT (L.take i.toNat) (EntT.mk c r (.slice none 0 0) l ts) = false := by
  unfold setE at h
  split at h
  · cases h
  · rename_i h1
    split at h
    · rename_i h2; exact absurd h h2
    · rename_i h2
      split at h
      · cases h
      · rename_i h3
        split at h
        · cases h
        · rename_i h4
          split at h
          · cases h
          · rename_i h5
            refine ⟨by omega, by omega, by omega, by omega, ?_, by simpa using h5⟩
            cases hf : findN (L.take i.toNat) (c, r) with
            | none => rfl
            | some a => rw [hf] at h4; exact absurd rfl h4
theorem bad_pre {k : Nat} {p : EntT} {v : Value} (hb : badT (L.take (k + 1)) (EntT.mk c r v l ts) = false) (hp : L[k]? = some p) (hn : ts ≠ 0) : p.ts ≠ 0 ∧ p.ts < ts := by
  rw [bad_at (j := k) (by omega) (by omega) hp] at hb
  have := of_decide_eq_false hb
  simp only [] at this
  omega
theorem RI.set (hR : RI L) : RI (setL L i c r l ts) := by
  by_cases h0 : setE L i c r l ts ≠ 0
  · rw [setL_no h0]; exact hR
  · have h0' : setE L i c r l ts = 0 := by omega
    obtain ⟨k1, k2, k3, k4, k5, k6⟩ := setE_0 h0'
    by_cases h1 : (L[i.toNat]?).map nmE = some (c, r)
    · rw [setL_tw h0' h1]
      obtain ⟨y0, hy0, _⟩ := Option.map_eq_some_iff.1 h1
      by_cases hts : y0.ts = ts
      · rw [restF_same hy0 hts]; exact hR
      · rw [← restF_ne (k := L.length) hy0 hts (Nat.le_refl _)]
        have hil := (List.getElem?_eq_some_iff.1 hy0).1
        have hat : ∀ j y, (rsL L i.toNat ts L.length)[j]? = some y → ∃ z, L[j]? = some z ∧ y.client = z.client ∧ y.req = z.req ∧ y.opl = z.opl ∧ y.ts = if j = i.toNat then ts else if i.toNat < j then 0 else z.ts := by
          intro j y hy
          simp only [rsL, List.getElem?_mapIdx] at hy
          obtain ⟨z, hz, rfl⟩ := Option.map_eq_some_iff.1 hy
          have hjl := (List.getElem?_eq_some_iff.1 hz).1
          refine ⟨z, hz, ?_⟩
          by_cases e1 : j = i.toNat
          · rw [if_pos e1, if_pos e1]; exact ⟨rfl, rfl, rfl, rfl⟩
          · rw [if_neg e1, if_neg e1]
            by_cases e2 : i.toNat < j
            · rw [if_pos ⟨e2, hjl⟩, if_pos e2]; exact ⟨rfl, rfl, rfl, rfl⟩
            · rw [if_neg (fun q => e2 q.1), if_neg e2]; exact ⟨rfl, rfl, rfl, rfl⟩
        refine ⟨fun e he => ?_, hR.uq.nm (rsL_nm _ _ _ _), fun j y p hy hp hn => ?_⟩
        · obtain ⟨j, hj⟩ := List.getElem?_of_mem he
          obtain ⟨z, hz, q1, q2, q3, _⟩ := hat j e hj
          rw [q1, q2, q3]; exact hR.chk z (List.mem_of_getElem? hz)
        · obtain ⟨y', hy', _, _, _, q1⟩ := hat _ y hy
          obtain ⟨p', hp', _, _, _, q2⟩ := hat _ p hp
          rw [q1] at hn ⊢; rw [q2]
          by_cases e1 : j + 1 = i.toNat
          · rw [if_pos e1] at hn ⊢
            rw [if_neg (by omega), if_neg (by omega)]
            rw [← e1] at k6
            exact bad_pre k6 hp' hn
          · rw [if_neg e1] at hn ⊢
            by_cases e2 : i.toNat < j + 1
            · rw [if_pos e2] at hn; exact absurd rfl hn
            · rw [if_neg e2] at hn ⊢
              rw [if_neg (by omega), if_neg (by omega)]
              exact hR.up j y' p' hy' hp' hn
    · rw [setL_nw h0' h1]
      have hT := hR.take i.toNat
      have hlen : (L.take i.toNat).length = i.toNat := by rw [List.length_take]; omega
      refine ⟨fun e he => ?_, hT.uq.snoc k5, fun j y p hy hp hn => ?_⟩
      · rw [List.mem_append, List.mem_singleton] at he
        rcases he with he | rfl; exact hT.chk e he; exact k3
      · have hjl := (List.getElem?_eq_some_iff.1 hy).1
        rw [List.length_append, hlen] at hjl
        simp at hjl
        by_cases e1 : j + 1 < i.toNat
        · rw [List.getElem?_append_left (by omega)] at hy hp
          exact hT.up j y p hy hp hn
        · have e2 : j + 1 = i.toNat := by omega
          rw [List.getElem?_append_right (by omega), hlen, e2, Nat.sub_self] at hy
          simp at hy; subst hy
          rw [List.getElem?_append_left (by omega), List.getElem?_take, if_pos (by omega)] at hp
          rw [← e2] at k6
          exact bad_pre k6 hp hn
theorem stN_at : ∀ {L : List EntT} {j : Nat} {y : EntT}, j < stN L → L[j]? = some y → y.ts ≠ 0
  | [], j, y, h, hy => by simp at hy
  | e :: r, j, y, h, hy => by
    unfold stN at h
    rw [List.takeWhile_cons] at h
    by_cases he : e.ts ≠ 0
    · rw [if_pos (by simpa using he)] at h
      cases j with
      | zero => simp at hy; subst hy; exact he
      | succ j => simp at hy; exact stN_at (L := r) (by unfold stN; simpa using h) hy
    · rw [if_neg (by simpa using he)] at h; simp at h
theorem stN_zero : ∀ {L : List EntT} {y : EntT}, L[stN L]? = some y → y.ts = 0
  | [], y, hy => by simp at hy
  | e :: r, y, hy => by
    unfold stN at hy
    rw [List.takeWhile_cons] at hy
    by_cases he : e.ts ≠ 0
    · rw [if_pos (by simpa using he)] at hy
      rw [List.length_cons, List.getElem?_cons_succ] at hy; exact stN_zero (L := r) (by unfold stN; exact hy)
    · rw [if_neg (by simpa using he)] at hy; simp at hy; subst hy; omega
theorem stE_0 (h : stE L i ts = 0) : 0 ≤ i ∧ i < (L.length : Int) ∧ ts ≠ 0 ∧ i = ((stN L : Nat) : Int) ∧ lastT L < ts := by
  unfold stE at h
  split at h
  · cases h
  · split at h
    · cases h
    · split at h
      · cases h
      · rename_i h1 h2 h3; refine ⟨by omega, by omega, h2, by omega, by omega⟩
theorem RI.st (hR : RI L) : RI (stL L i ts) := by
  by_cases h0 : stE L i ts ≠ 0
  · rw [stL_no h0]; exact hR
  · have h0' : stE L i ts = 0 := by omega
    obtain ⟨k1, k2, k3, k4, k5⟩ := stE_0 h0'
    have hi : i.toNat = stN L := by omega
    have hil : i.toNat < L.length := by omega
    have hy0 := List.getElem?_eq_getElem hil
    rw [stL_ok h0' hy0]
    have hat : ∀ j y, (L.set i.toNat { L[i.toNat] with ts := ts })[j]? = some y → ∃ z, L[j]? = some z ∧ y.client = z.client ∧ y.req = z.req ∧ y.opl = z.opl ∧ y.ts = if j = i.toNat then ts else z.ts := by
      intro j y hy
      rw [List.getElem?_set] at hy
      by_cases e1 : i.toNat = j
      · subst e1
        rw [if_pos rfl, if_pos hil] at hy
        simp only [Option.some.injEq] at hy
        subst hy
        exact ⟨_, hy0, rfl, rfl, rfl, by rw [if_pos rfl]⟩
      · rw [if_neg e1] at hy
        exact ⟨y, hy, rfl, rfl, rfl, by rw [if_neg (fun q => e1 q.symm)]⟩
    refine ⟨fun e he => ?_, hR.uq.nm ?_, fun j y p hy hp hn => ?_⟩
    · obtain ⟨j, hj⟩ := List.getElem?_of_mem he
      obtain ⟨z, hz, q1, q2, q3, _⟩ := hat j e hj
      rw [q1, q2, q3]; exact hR.chk z (List.mem_of_getElem? hz)
    · rw [← stL_ok h0' hy0]; exact stL_nm
    · obtain ⟨y', hy', _, _, _, q1⟩ := hat _ y hy
      obtain ⟨p', hp', _, _, _, q2⟩ := hat _ p hp
      rw [q1] at hn ⊢; rw [q2]
      by_cases e1 : j + 1 = i.toNat
      · rw [if_pos e1, if_neg (by omega)]
        refine ⟨stN_at (L := L) (by omega) hp', ?_⟩
        rw [show p'.ts = lastT L from lastT_at (j := j) (by omega) (by omega) hp']; exact k5
      · rw [if_neg e1] at hn ⊢
        by_cases e2 : j = i.toNat
        · exfalso
          have h1 := hR.up j y' p' hy' hp' hn
          rw [e2, hi] at hp'
          exact h1.1 (stN_zero hp')
        · rw [if_neg e2]; exact hR.up j y' p' hy' hp' hn
end


section
variable {L : List EntT} {i c r ts n h : Int} {l : List OpT}
variable {A B : List EntT}
end

end Go.Proofs.Ytniojcnkjehflaa

/- Package rlog: the document's log as an object (as far as adopt needs it). Conditions: none. -/
namespace Go.Proofs.Ytniojcnkjehflaa
open Go.RowKit Go.PlainAid
set_option linter.unusedVariables false

def RObj (D : Nat → Prop) (w : World) (d : Nat) (u : Value) (X : List EntT) : Prop := (∀ q, D q → q < w.heap.size) ∧ RgP D w.heap.size w d u X
section
variable {S S' D A : Nat → Prop} {n : Nat} {w x : World} {b d : Nat} {u v : Value} {L X : List EntT}
theorem RObj.keep (h : RObj D w d u X) (hs : w.heap.size ≤ x.heap.size) (hk : ∀ q, D q → x.heap[q]? = w.heap[q]?) : RObj D x d u X := by
  obtain ⟨hS, h⟩ := h
  have hb : D d := by
    rcases h.sb with q | q
    · exact q
    · have := h.blk.lt; omega
  have up : ∀ {v : Value}, (∀ i, v.ownBlock = some i → D i) → InS D x.heap.size v := fun hv i hi => .inl (hv i hi)
  refine ⟨fun q hq => by have := hS q hq; omega, ?_, row_sameL h.row (fun i hi => hk i (ins_in h.su h.row i hi)), fun e he => ?_, .inl hb, up (ins_in h.su h.row), h.len⟩
  · have hB := h.blk
    unfold Blk at hB ⊢
    rw [hk d hb]; exact hB
  · have k := h.ents e he
    exact ⟨row_sameL k.row (fun i hi => hk i (ins_in k.ins k.row i hi)), up (ins_in k.ins k.row), k.len, k.each, k.ts0, k.ts1, k.cl, k.rq⟩
theorem RObj.gr {row : Option Nat} (h : RObj D w d u X) (hg : w.grownBy x row) (hr : ∀ k, row = some k → ¬ D k) : RObj D x d u X := h.keep hg.size fun k hk => hg.block k (h.1 k hk) (fun e => hr k e.symm hk)
theorem RObj.but (h : RObj D w d u X) (hb : But S w x) (hd : ∀ q, D q → S q → False) : RObj D x d u X := h.keep hb.size fun k hk => hb.block k (h.1 k hk) (fun q => hd k hk q)
end
end Go.Proofs.Ytniojcnkjehflaa

/- Package item: SameAll of the document. Conditions: none. -/
namespace Go.Proofs.Ytniojcnkjehflaa
open Go.RowKit Go.PlainAid
set_option linter.unusedVariables false
set_option linter.unusedSimpArgs false

section
variable {L X A B : List EntT} {i : Nat} {y z : EntT} {c r a : Int}
theorem e0_both (h : A.map e0 = B.map e0) (hy : A[i]? = some y) (hz : B[i]? = some z) : y.client = z.client ∧ y.req = z.req ∧ y.opl = z.opl ∧ y.ts = z.ts := by
  obtain ⟨x, hx, e⟩ := e0_at h hy
  rw [hz] at hx; cases hx
  obtain ⟨k1, k2, k3, k4⟩ := e0_ts e
  exact ⟨k2.symm, k3.symm, k4.symm, k1.symm⟩
end

set_option maxRecDepth 100000 in
theorem sameOpsE_any (v : Value) (l : List OpT) (v2 : Value) (w : World) (hs : SliceOf opE 3 w v l) (hs2 : SliceOf opE 3 w v2 l) :
    Calls Try.prog 68 #[v, v2] w fun e w' => e = .returned (.bool true) ∧ Below w.heap.size w w' := by
 have hB0 := Below.refl w.heap.size w
 have hl_hs := sl_len hs
 have hl_hs2 := sl_len hs2
 refine co_enter (n := 32) Try.func68 rfl rfl rfl [(0, v), (1, v2)] rfl (fun a h0 => ?_)
 refine co_seq ?_
 refine co_reg ?_
 refine pk0 (v := .bool false) h0 rfl fun a1 h1 => ?_; clear h0
 refine pl_nil ?_
 refine co_then ?_
 refine co_seq ?_
 refine co_seq ?_
 refine co_reg ?_
 refine pk0 (v := v) h1 rfl fun a2 h2 => ?_; clear h1
 refine pk (v := .int .i64 ((l.length : Nat) : Int)) h2 rfl (rn_len rfl rfl Try.underlying33 hs) fun a3 h3 => ?_; clear h2
 refine pk0 (v := v2) h3 rfl fun a4 h4 => ?_; clear h3
 refine pk (v := .int .i64 ((l.length : Nat) : Int)) h4 rfl (rn_len rfl rfl Try.underlying33 hs2) fun a5 h5 => ?_; clear h4
 refine pk0 (v := .bool (((l.length : Nat) : Int) != ((l.length : Nat) : Int))) h5 rfl fun a6 h6 => ?_; clear h5
 refine pl_nil ?_
 refine co_then ?_
 have hc7 : (((l.length : Nat) : Int) != ((l.length : Nat) : Int)) = false := by first | (simp; done) | (simp; omega) | exact beq_false_of_ne (by omega) | exact beq_iff_eq.2 (by omega)
 rw [hc7] at h6; clear hc7
 refine co_false h6 rfl ?_
 refine wp_skip ?_
 refine co_then ?_
 refine co_seq ?_
 refine co_seq ?_
 refine co_reg ?_
 refine pk0 (v := .int .i64 0) h6 rfl fun a8 h8 => ?_; clear h6
 refine pl_nil ?_
 refine co_then ?_
 refine wp_block ?_
 have h9 : Slots 32 [(0, v), (1, v2), (5, .int .i64 0)] _ := h8.sub ⟨rfl, rfl, rfl, trivial⟩; clear h8
 refine co_loop (fun mm a x => ∃ (i : Nat), Slots 32 [(0, v), (1, v2), (5, .int .i64 ((i : Nat) : Int))] a ∧ mm = l.length - i ∧ (i ≤ l.length) ∧ Below w.heap.size w x) (l.length - 0) ?_ ?_
 · exact ⟨0, h9.sub ⟨rfl, rfl, (slot_eq rfl (congrArg (Value.int .i64) (by first | rfl | omega))), trivial⟩, rfl, by omega, hB0⟩
 · rintro k10 a11 w12 ⟨i, h11, rfl, hi13, hB14⟩
   have hz15 := hB14.size
   refine co_seq ?_
   refine co_seq ?_
   refine co_reg ?_
   refine pk0 (v := .int .i64 ((i : Nat) : Int)) h11 rfl fun a16 h16 => ?_; clear h11
   refine pk0 (v := v) h16 rfl fun a17 h17 => ?_; clear h16
   refine pk (v := .int .i64 ((l.length : Nat) : Int)) h17 rfl (rn_len rfl rfl Try.underlying33 (hs.below hB14)) fun a18 h18 => ?_; clear h17
   refine pk0 (v := .bool (decide (((i : Nat) : Int) < ((l.length : Nat) : Int)))) h18 rfl fun a19 h19 => ?_; clear h18
   refine pk0 (v := .bool (decide (((i : Nat) : Int) < ((l.length : Nat) : Int)))) h19 rfl fun a20 h20 => ?_; clear h19
   cases hc21 : (decide (((i : Nat) : Int) < ((l.length : Nat) : Int)))
   ·
    rw [hc21] at h20
    have hp22 : ¬ (((i : Nat) : Int) < ((l.length : Nat) : Int)) := of_decide_eq_false hc21
    clear hc21
    refine psk h20 rfl fun a23 h23 => ?_; clear h20
    refine psk h23 rfl fun a24 h24 => ?_; clear h23
    refine psk h24 rfl fun a25 h25 => ?_; clear h24
    refine psk h25 rfl fun a26 h26 => ?_; clear h25
    refine pk0 (v := .bool false) h26 rfl fun a27 h27 => ?_; clear h26
    refine pl_nil ?_
    refine co_then ?_
    refine co_false h27 rfl ?_
    refine wp_exit ?_
    refine co_thenX ?_
    refine co_thenX ?_
    refine co_blockX ?_
    refine co_then ?_
    refine co_seq ?_
    refine co_reg ?_
    refine pk0 (v := .bool true) h27 rfl fun a28 h28 => ?_; clear h27
    refine pl_nil ?_
    refine co_then ?_
    refine wp_ret ?_
    refine co_ret1 h28 rfl rfl ?_
    exact ⟨rfl, hB14⟩
   ·
    rw [hc21] at h20
    have hp29 : ((i : Nat) : Int) < ((l.length : Nat) : Int) := of_decide_eq_true hc21
    clear hc21
    refine pk0 (v := .int .i64 ((i : Nat) : Int)) h20 rfl fun a30 h30 => ?_; clear h20
    refine pk0 (v := v2) h30 rfl fun a31 h31 => ?_; clear h30
    refine pk (v := .int .i64 ((l.length : Nat) : Int)) h31 rfl (rn_len rfl rfl Try.underlying33 (hs2.below hB14)) fun a32 h32 => ?_; clear h31
    refine pk0 (v := .bool (decide (((i : Nat) : Int) < ((l.length : Nat) : Int)))) h32 rfl fun a33 h33 => ?_; clear h32
    refine pk0 (v := .bool (decide (((i : Nat) : Int) < ((l.length : Nat) : Int)))) h33 rfl fun a34 h34 => ?_; clear h33
    refine pl_nil ?_
    refine co_then ?_
    have hc35 : (decide (((i : Nat) : Int) < ((l.length : Nat) : Int))) = true := decide_eq_true (by omega)
    rw [hc35] at h34; clear hc35
    refine co_true h34 rfl ?_
    refine wp_skip ?_
    refine co_then ?_
    refine co_seq ?_
    refine wp_block ?_
    refine co_seq ?_
    refine dr_eq (by kernel_rfl) (fun w36 hg37 => ?_)
    have hz38 := hg37.size
    refine dk0 0 (v := v) h34 rfl rfl rfl fun a39 h39 => ?_; clear h34
    refine dk0 1 (v := .int .i64 ((i : Nat) : Int)) h39 rfl rfl rfl fun a40 h40 => ?_; clear h39
    have hB42 := hb_new hB14 hg37
    obtain ⟨y41, hy41⟩ : ∃ z, l[i]? = some z := ⟨_, List.getElem?_eq_getElem (by first | omega | (simp; done) | (simp; omega))⟩
    refine dk 2 (v := pt (blkOf v) (offOf v + i * 3)) h40 rfl rfl rfl (fun x hx => by subst hx; exact (rn_index rfl rfl rfl Try.underlying33 Try.sizeOf74 (hs.below hB42) (by omega) (by first | omega | (simp; done) | (simp; omega)))) fun a43 h43 => ?_; clear h40
    refine dk 3 (v := .agg #[.string y41.1, .string y41.2.1, .bool y41.2.2]) h43 rfl rfl rfl (fun x hx => by subst hx; exact (rn_loadN rfl rfl Try.underlying74 rfl (by kernel_rfl) (sl_at (hs.below hB42) hy41))) fun a44 h44 => ?_; clear h43
    refine dk0 4 (v := v2) h44 rfl rfl rfl fun a45 h45 => ?_; clear h44
    refine dk0 5 (v := .int .i64 ((i : Nat) : Int)) h45 rfl rfl rfl fun a46 h46 => ?_; clear h45
    refine dk 6 (v := pt (blkOf v2) (offOf v2 + i * 3)) h46 rfl rfl rfl (fun x hx => by subst hx; exact (rn_index rfl rfl rfl Try.underlying33 Try.sizeOf74 (hs2.below hB42) (by omega) (by first | omega | (simp; done) | (simp; omega)))) fun a47 h47 => ?_; clear h46
    refine dk 7 (v := .agg #[.string y41.1, .string y41.2.1, .bool y41.2.2]) h47 rfl rfl rfl (fun x hx => by subst hx; exact (rn_loadN rfl rfl Try.underlying74 rfl (by kernel_rfl) (sl_at (hs2.below hB42) hy41))) fun a48 h48 => ?_; clear h47
    refine dk 8 (v := .bool (!(y41.1.toList == y41.1.toList && y41.2.1.toList == y41.2.1.toList && y41.2.2 == y41.2.2))) h48 rfl rfl rfl (fun x hx => by subst hx; exact (rn_neS rfl rfl rfl Try.eqGuardType74 (eq_op _ _ _ _ _ _ _))) fun a49 h49 => ?_; clear h48
    refine dr_done (by kernel_rfl) ?_
    refine co_then ?_
    have hc50 : (!(y41.1.toList == y41.1.toList && y41.2.1.toList == y41.2.1.toList && y41.2.2 == y41.2.2)) = false := by simp
    rw [hc50] at h49; clear hc50
    refine co_false h49 rfl ?_
    refine wp_skip ?_
    refine co_blockN ?_
    refine co_then ?_
    refine co_reg ?_
    refine pk0 (v := .int .i64 ((i : Nat) : Int)) h49 rfl fun a51 h51 => ?_; clear h49
    refine pk (v := .int .i64 ((i + 1 : Nat) : Int)) h51 rfl (rn_arith' rfl rfl rfl rfl rfl rfl (IntWalk.i64_in _ (by omega)) (by omega)) fun a52 h52 => ?_; clear h51
    refine pk0 (v := .int .i64 ((i + 1 : Nat) : Int)) h52 rfl fun a53 h53 => ?_; clear h52
    refine pl_nil ?_
    refine co_then ?_
    refine ⟨(l.length - (i + 1)), by omega, ?_⟩
    exact ⟨i + 1, h53.sub ⟨rfl, rfl, rfl, trivial⟩, rfl, by omega, hB42⟩
set_option maxRecDepth 100000 in
theorem sameBatE_any (c : Int) (r : Int) (v : Value) (l : List OpT) (v2 : Value) (w : World) (hs : SliceOf opE 3 w v l) (hs2 : SliceOf opE 3 w v2 l) :
    Calls Try.prog 51 #[.agg #[.int .i64 c, .int .i64 r, v], .agg #[.int .i64 c, .int .i64 r, v2]] w fun e w' => e = .returned (.bool true) ∧ Below w.heap.size w w' := by
 have hB0 := Below.refl w.heap.size w
 have hl_hs := sl_len hs
 have hl_hs2 := sl_len hs2
 refine co_enter (n := 24) Try.func51 rfl rfl rfl [(0, .agg #[.int .i64 c, .int .i64 r, v]), (1, .agg #[.int .i64 c, .int .i64 r, v2])] rfl (fun a h0 => ?_)
 refine co_seq ?_
 refine co_reg ?_
 refine pw h0 rfl (op_new (v := fun N => pt N 0) (T := 35) (cs := #[.int .i64 c, .int .i64 r, v]) (by kernel_rfl) (by kernel_rfl) (by kernel_rfl)) ?_; clear h0
 rintro _ w2 a1 ⟨N3, rfl, hN6, hz7, hk5, hg4⟩ h1
 have hz8 := hg4.size
 try dsimp only at h1
 refine pw h1 rfl (op_new (v := fun N => pt N 0) (T := 35) (cs := #[.int .i64 c, .int .i64 r, v2]) (by kernel_rfl) (by kernel_rfl) (by kernel_rfl)) ?_; clear h1
 rintro _ w10 a9 ⟨N11, rfl, hN14, hz15, hk13, hg12⟩ h9
 have hz16 := hg12.size
 try dsimp only at h9
 refine pk0 (v := .bool false) h9 rfl fun a17 h17 => ?_; clear h9
 refine pl_nil ?_
 refine co_then ?_
 refine co_seq ?_
 refine co_reg ?_
 refine pk0 (v := pt N3 0) h17 rfl fun a18 h18 => ?_; clear h17
 have hk19 := hk5.kept hg12 (by simp)
 refine pk (v := .int .i64 c) h18 rfl (rn_load1 rfl rfl Try.isAgg3 (hk19.cell rfl)) fun a20 h20 => ?_; clear h18
 refine pk0 (v := pt N11 0) h20 rfl fun a21 h21 => ?_; clear h20
 refine pk (v := .int .i64 c) h21 rfl (rn_load1 rfl rfl Try.isAgg3 (hk13.cell rfl)) fun a22 h22 => ?_; clear h21
 refine pk0 (v := .bool (c == c)) h22 rfl fun a23 h23 => ?_; clear h22
 refine pk0 (v := .bool (c == c)) h23 rfl fun a24 h24 => ?_; clear h23
 have hc25 : (c == c) = true := by first | (simp; done) | (simp; omega) | exact beq_false_of_ne (by omega) | exact beq_iff_eq.2 (by omega)
 rw [hc25] at h24; clear hc25
 refine pk0 (v := pt N3 1) h24 rfl fun a26 h26 => ?_; clear h24
 refine pk (v := .int .i64 r) h26 rfl (rn_load1 rfl rfl Try.isAgg3 (hk19.cell rfl)) fun a27 h27 => ?_; clear h26
 refine pk0 (v := pt N11 1) h27 rfl fun a28 h28 => ?_; clear h27
 refine pk (v := .int .i64 r) h28 rfl (rn_load1 rfl rfl Try.isAgg3 (hk13.cell rfl)) fun a29 h29 => ?_; clear h28
 refine pk0 (v := .bool (r == r)) h29 rfl fun a30 h30 => ?_; clear h29
 refine pk0 (v := .bool (r == r)) h30 rfl fun a31 h31 => ?_; clear h30
 refine pk0 (v := .bool (r == r)) h31 rfl fun a32 h32 => ?_; clear h31
 have hc33 : (r == r) = true := by first | (simp; done) | (simp; omega) | exact beq_false_of_ne (by omega) | exact beq_iff_eq.2 (by omega)
 rw [hc33] at h32; clear hc33
 refine pk0 (v := pt N3 2) h32 rfl fun a34 h34 => ?_; clear h32
 refine pk (v := v) h34 rfl (rn_load1 rfl rfl Try.isAgg33 (hk19.cell rfl)) fun a35 h35 => ?_; clear h34
 refine pk0 (v := pt N11 2) h35 rfl fun a36 h36 => ?_; clear h35
 refine pk (v := v2) h36 rfl (rn_load1 rfl rfl Try.isAgg33 (hk13.cell rfl)) fun a37 h37 => ?_; clear h36
 have hB40 := hb_new hB0 hg4
 have hB41 := hb_new hB40 hg12
 refine pw h37 rfl (op_call (args := #[v, v2]) (R := fun res xw => res = .bool true ∧ Below w10.heap.size w10 xw) rfl rfl rfl (by kernel_rfl) (by kernel_rfl) (Try.call68 _ _) (sameOpsE_any v l v2 w10 (hs.below hB41) (hs2.below hB41)) (by rintro e x ⟨rfl, hb42⟩; exact ⟨_, rfl, ⟨rfl, hb42⟩⟩)) ?_; clear h37
 rintro _ w39 a38 ⟨rfl, hb42⟩ h38
 have hz43 := hb42.size
 refine pk0 (v := .bool true) h38 rfl fun a44 h44 => ?_; clear h38
 refine pk0 (v := .bool true) h44 rfl fun a45 h45 => ?_; clear h44
 refine pl_nil ?_
 refine co_then ?_
 refine wp_ret ?_
 refine co_ret1 h45 rfl rfl ?_
 have hB46 := hb_call hB41 hb42
 exact ⟨rfl, hB46⟩
set_option maxRecDepth 100000 in
theorem sameEntE_any (c : Int) (r : Int) (v : Value) (l : List OpT) (ts : Int) (v2 : Value) (w : World) (hs : SliceOf opE 3 w v l) (hs2 : SliceOf opE 3 w v2 l) :
    Calls Try.prog 19 #[.agg #[.int .i64 c, .int .i64 r, v, .int .u64 ts], .agg #[.int .i64 c, .int .i64 r, v2, .int .u64 ts]] w fun e w' => e = .returned (.bool true) ∧ Below w.heap.size w w' := by
 have hB0 := Below.refl w.heap.size w
 have hl_hs := sl_len hs
 have hl_hs2 := sl_len hs2
 refine co_enter (n := 17) Try.func19 rfl rfl rfl [(0, .agg #[.int .i64 c, .int .i64 r, v, .int .u64 ts]), (1, .agg #[.int .i64 c, .int .i64 r, v2, .int .u64 ts])] rfl (fun a h0 => ?_)
 refine co_seq ?_
 refine co_reg ?_
 refine pw h0 rfl (op_new (v := fun N => pt N 0) (T := 37) (cs := #[.int .i64 c, .int .i64 r, v, .int .u64 ts]) (by kernel_rfl) (by kernel_rfl) (by kernel_rfl)) ?_; clear h0
 rintro _ w2 a1 ⟨N3, rfl, hN6, hz7, hk5, hg4⟩ h1
 have hz8 := hg4.size
 try dsimp only at h1
 refine pw h1 rfl (op_new (v := fun N => pt N 0) (T := 37) (cs := #[.int .i64 c, .int .i64 r, v2, .int .u64 ts]) (by kernel_rfl) (by kernel_rfl) (by kernel_rfl)) ?_; clear h1
 rintro _ w10 a9 ⟨N11, rfl, hN14, hz15, hk13, hg12⟩ h9
 have hz16 := hg12.size
 try dsimp only at h9
 refine pk0 (v := .bool false) h9 rfl fun a17 h17 => ?_; clear h9
 refine pl_nil ?_
 refine co_then ?_
 refine co_seq ?_
 refine co_reg ?_
 refine pk0 (v := pt N3 3) h17 rfl fun a18 h18 => ?_; clear h17
 have hk19 := hk5.kept hg12 (by simp)
 refine pk (v := .int .u64 ts) h18 rfl (rn_load1 rfl rfl Try.isAgg23 (hk19.cell rfl)) fun a20 h20 => ?_; clear h18
 refine pk0 (v := pt N11 3) h20 rfl fun a21 h21 => ?_; clear h20
 refine pk (v := .int .u64 ts) h21 rfl (rn_load1 rfl rfl Try.isAgg23 (hk13.cell rfl)) fun a22 h22 => ?_; clear h21
 refine pk0 (v := .bool (ts == ts)) h22 rfl fun a23 h23 => ?_; clear h22
 refine pk0 (v := .bool (ts == ts)) h23 rfl fun a24 h24 => ?_; clear h23
 have hc25 : (ts == ts) = true := by first | (simp; done) | (simp; omega) | exact beq_false_of_ne (by omega) | exact beq_iff_eq.2 (by omega)
 rw [hc25] at h24; clear hc25
 refine pk0 (v := pt N3 0) h24 rfl fun a26 h26 => ?_; clear h24
 refine pk (v := .agg #[.int .i64 c, .int .i64 r, v]) h26 rfl (rn_loadN rfl rfl Try.underlying35 rfl (by kernel_rfl) (blk_part hk19 0 (by rfl))) fun a27 h27 => ?_; clear h26
 refine pk0 (v := pt N11 0) h27 rfl fun a28 h28 => ?_; clear h27
 refine pk (v := .agg #[.int .i64 c, .int .i64 r, v2]) h28 rfl (rn_loadN rfl rfl Try.underlying35 rfl (by kernel_rfl) (blk_part hk13 0 (by rfl))) fun a29 h29 => ?_; clear h28
 have hB32 := hb_new hB0 hg4
 have hB33 := hb_new hB32 hg12
 refine pw h29 rfl (op_call (args := #[.agg #[.int .i64 c, .int .i64 r, v], .agg #[.int .i64 c, .int .i64 r, v2]]) (R := fun res xw => res = .bool true ∧ Below w10.heap.size w10 xw) rfl rfl rfl (by kernel_rfl) (by kernel_rfl) (Try.call51 _ _) (sameBatE_any c r v l v2 w10 (hs.below hB33) (hs2.below hB33)) (by rintro e x ⟨rfl, hb34⟩; exact ⟨_, rfl, ⟨rfl, hb34⟩⟩)) ?_; clear h29
 rintro _ w31 a30 ⟨rfl, hb34⟩ h30
 have hz35 := hb34.size
 refine pk0 (v := .bool true) h30 rfl fun a36 h36 => ?_; clear h30
 refine pk0 (v := .bool true) h36 rfl fun a37 h37 => ?_; clear h36
 refine pl_nil ?_
 refine co_then ?_
 refine wp_ret ?_
 refine co_ret1 h37 rfl rfl ?_
 have hB38 := hb_call hB33 hb34
 exact ⟨rfl, hB38⟩

theorem sameEntG (c r : Int) (v : Value) (l : List OpT) (ts c2 r2 : Int) (v2 : Value) (l2 : List OpT) (ts2 : Int) (w : World) (hs : SliceOf opE 3 w v l) (hs2 : SliceOf opE 3 w v2 l2) (heq : c = c2 ∧ r = r2 ∧ l = l2 ∧ ts = ts2) :
    Calls Try.prog 19 #[.agg #[.int .i64 c, .int .i64 r, v, .int .u64 ts], .agg #[.int .i64 c2, .int .i64 r2, v2, .int .u64 ts2]] w fun e w' => e = .returned (.bool true) ∧ Below w.heap.size w w' := by
  obtain ⟨rfl, rfl, rfl, rfl⟩ := heq
  exact sameEntE_any c r v l ts v2 w hs hs2

set_option maxRecDepth 100000 in
theorem sameAllE_any (v : Value) (l : List EntT) (v2 : Value) (l2 : List EntT) (w : World) (hs : SliceOf entE 4 w v l) (hok : ∀ z ∈ l, EntOk w z) (hs2 : SliceOf entE 4 w v2 l2) (hok2 : ∀ z ∈ l2, EntOk w z) (heq : l.map e0 = l2.map e0) :
    Calls Try.prog 27 #[v, v2] w fun e w' => e = .returned (.bool true) ∧ Below w.heap.size w w' := by
 have hll := e0_len heq
 have hB0 := Below.refl w.heap.size w
 have hl_hs := sl_len hs
 have hl_hs2 := sl_len hs2
 refine co_enter (n := 33) Try.func27 rfl rfl rfl [(0, v), (1, v2)] rfl (fun a h0 => ?_)
 refine co_seq ?_
 refine co_reg ?_
 refine pk0 (v := .bool false) h0 rfl fun a1 h1 => ?_; clear h0
 refine pl_nil ?_
 refine co_then ?_
 refine co_seq ?_
 refine co_seq ?_
 refine co_reg ?_
 refine pk0 (v := v) h1 rfl fun a2 h2 => ?_; clear h1
 refine pk (v := .int .i64 ((l.length : Nat) : Int)) h2 rfl (rn_len rfl rfl Try.underlying29 hs) fun a3 h3 => ?_; clear h2
 refine pk0 (v := v2) h3 rfl fun a4 h4 => ?_; clear h3
 refine pk (v := .int .i64 ((l2.length : Nat) : Int)) h4 rfl (rn_len rfl rfl Try.underlying29 hs2) fun a5 h5 => ?_; clear h4
 refine pk0 (v := .bool (((l.length : Nat) : Int) != ((l2.length : Nat) : Int))) h5 rfl fun a6 h6 => ?_; clear h5
 refine pl_nil ?_
 refine co_then ?_
 have hc7 : (((l.length : Nat) : Int) != ((l2.length : Nat) : Int)) = false := by first | (simp; done) | (simp; omega) | exact beq_false_of_ne (by omega) | exact beq_iff_eq.2 (by omega)
 rw [hc7] at h6; clear hc7
 refine co_false h6 rfl ?_
 refine wp_skip ?_
 refine co_then ?_
 refine co_seq ?_
 refine co_seq ?_
 refine co_reg ?_
 refine pk0 (v := .int .i64 0) h6 rfl fun a8 h8 => ?_; clear h6
 refine pl_nil ?_
 refine co_then ?_
 refine wp_block ?_
 have h9 : Slots 33 [(0, v), (1, v2), (5, .int .i64 0)] _ := h8.sub ⟨rfl, rfl, rfl, trivial⟩; clear h8
 refine co_loop (fun mm a x => ∃ (i : Nat), Slots 33 [(0, v), (1, v2), (5, .int .i64 ((i : Nat) : Int))] a ∧ mm = l.length - i ∧ (i ≤ l.length) ∧ Below w.heap.size w x) (l.length - 0) ?_ ?_
 · exact ⟨0, h9.sub ⟨rfl, rfl, (slot_eq rfl (congrArg (Value.int .i64) (by first | rfl | omega))), trivial⟩, rfl, by omega, hB0⟩
 · rintro k10 a11 w12 ⟨i, h11, rfl, hi13, hB14⟩
   have hz15 := hB14.size
   refine co_seq ?_
   refine co_seq ?_
   refine co_reg ?_
   refine pk0 (v := .int .i64 ((i : Nat) : Int)) h11 rfl fun a16 h16 => ?_; clear h11
   refine pk0 (v := v) h16 rfl fun a17 h17 => ?_; clear h16
   refine pk (v := .int .i64 ((l.length : Nat) : Int)) h17 rfl (rn_len rfl rfl Try.underlying29 (hs.below hB14)) fun a18 h18 => ?_; clear h17
   refine pk0 (v := .bool (decide (((i : Nat) : Int) < ((l.length : Nat) : Int)))) h18 rfl fun a19 h19 => ?_; clear h18
   refine pk0 (v := .bool (decide (((i : Nat) : Int) < ((l.length : Nat) : Int)))) h19 rfl fun a20 h20 => ?_; clear h19
   cases hc21 : (decide (((i : Nat) : Int) < ((l.length : Nat) : Int)))
   ·
    rw [hc21] at h20
    have hp22 : ¬ (((i : Nat) : Int) < ((l.length : Nat) : Int)) := of_decide_eq_false hc21
    clear hc21
    refine psk h20 rfl fun a23 h23 => ?_; clear h20
    refine psk h23 rfl fun a24 h24 => ?_; clear h23
    refine psk h24 rfl fun a25 h25 => ?_; clear h24
    refine psk h25 rfl fun a26 h26 => ?_; clear h25
    refine pk0 (v := .bool false) h26 rfl fun a27 h27 => ?_; clear h26
    refine pl_nil ?_
    refine co_then ?_
    refine co_false h27 rfl ?_
    refine wp_exit ?_
    refine co_thenX ?_
    refine co_thenX ?_
    refine co_blockX ?_
    refine co_then ?_
    refine co_seq ?_
    refine co_reg ?_
    refine pk0 (v := .bool true) h27 rfl fun a28 h28 => ?_; clear h27
    refine pl_nil ?_
    refine co_then ?_
    refine wp_ret ?_
    refine co_ret1 h28 rfl rfl ?_
    exact ⟨rfl, hB14⟩
   ·
    rw [hc21] at h20
    have hp29 : ((i : Nat) : Int) < ((l.length : Nat) : Int) := of_decide_eq_true hc21
    clear hc21
    refine pk0 (v := .int .i64 ((i : Nat) : Int)) h20 rfl fun a30 h30 => ?_; clear h20
    refine pk0 (v := v2) h30 rfl fun a31 h31 => ?_; clear h30
    refine pk (v := .int .i64 ((l2.length : Nat) : Int)) h31 rfl (rn_len rfl rfl Try.underlying29 (hs2.below hB14)) fun a32 h32 => ?_; clear h31
    refine pk0 (v := .bool (decide (((i : Nat) : Int) < ((l2.length : Nat) : Int)))) h32 rfl fun a33 h33 => ?_; clear h32
    refine pk0 (v := .bool (decide (((i : Nat) : Int) < ((l2.length : Nat) : Int)))) h33 rfl fun a34 h34 => ?_; clear h33
    refine pl_nil ?_
    refine co_then ?_
    have hc35 : (decide (((i : Nat) : Int) < ((l2.length : Nat) : Int))) = true := decide_eq_true (by omega)
    rw [hc35] at h34; clear hc35
    refine co_true h34 rfl ?_
    refine wp_skip ?_
    refine co_then ?_
    refine co_seq ?_
    refine wp_block ?_
    refine co_seq ?_
    refine dr_gen (fun x => Below w.heap.size w x) (by kernel_rfl) (fun w36 hg37 => ?_) (fun w36 hg37 => ?_)
    ·
     have hz38 := hg37.size
     have hB39 := hb_new hB14 hg37
     exact hB39
    have hz40 := hg37.size
    have hB41 := hb_new hB14 hg37
    refine dk0 0 (v := v) h34 rfl rfl hB41 fun a42 h42 => ?_; clear h34
    refine dk0 1 (v := .int .i64 ((i : Nat) : Int)) h42 rfl rfl hB41 fun a43 h43 => ?_; clear h42
    obtain ⟨y44, hy44⟩ : ∃ z, l[i]? = some z := ⟨_, List.getElem?_eq_getElem (by first | omega | (simp; done) | (simp; omega))⟩
    have oky44 := hok _ (List.mem_of_getElem? hy44)
    have k45 : 0 ≤ y44.ts := oky44.ts0
    have k46 : y44.ts < 18446744073709551616 := oky44.ts1
    refine dk 2 (v := pt (blkOf v) (offOf v + i * 4)) h43 rfl rfl hB41 (fun x hx => (rn_index rfl rfl rfl Try.underlying29 Try.sizeOf37 (hs.below hx) (by omega) (by first | omega | (simp; done) | (simp; omega)))) fun a47 h47 => ?_; clear h43
    refine dk 3 (v := .agg #[.int .i64 y44.client, .int .i64 y44.req, y44.ops, .int .u64 y44.ts]) h47 rfl rfl hB41 (fun x hx => (rn_loadN rfl rfl Try.underlying37 rfl (by kernel_rfl) (sl_at (hs.below hx) hy44))) fun a48 h48 => ?_; clear h47
    refine dk0 4 (v := v2) h48 rfl rfl hB41 fun a49 h49 => ?_; clear h48
    refine dk0 5 (v := .int .i64 ((i : Nat) : Int)) h49 rfl rfl hB41 fun a50 h50 => ?_; clear h49
    obtain ⟨y51, hy51⟩ : ∃ z, l2[i]? = some z := ⟨_, List.getElem?_eq_getElem (by first | omega | (simp; done) | (simp; omega))⟩
    have oky51 := hok2 _ (List.mem_of_getElem? hy51)
    have k52 : 0 ≤ y51.ts := oky51.ts0
    have k53 : y51.ts < 18446744073709551616 := oky51.ts1
    refine dk 6 (v := pt (blkOf v2) (offOf v2 + i * 4)) h50 rfl rfl hB41 (fun x hx => (rn_index rfl rfl rfl Try.underlying29 Try.sizeOf37 (hs2.below hx) (by omega) (by first | omega | (simp; done) | (simp; omega)))) fun a54 h54 => ?_; clear h50
    refine dk 7 (v := .agg #[.int .i64 y51.client, .int .i64 y51.req, y51.ops, .int .u64 y51.ts]) h54 rfl rfl hB41 (fun x hx => (rn_loadN rfl rfl Try.underlying37 rfl (by kernel_rfl) (sl_at (hs2.below hx) hy51))) fun a55 h55 => ?_; clear h54
    refine d1 8 h55 rfl rfl (op_call (args := #[.agg #[.int .i64 y44.client, .int .i64 y44.req, y44.ops, .int .u64 y44.ts], .agg #[.int .i64 y51.client, .int .i64 y51.req, y51.ops, .int .u64 y51.ts]]) (R := fun res xw => res = .bool true ∧ Below w36.heap.size w36 xw) rfl rfl rfl (by kernel_rfl) (by kernel_rfl) (Try.call19 _ _) (sameEntG y44.client y44.req y44.ops y44.opl y44.ts y51.client y51.req y51.ops y51.opl y51.ts w36 (oky44.ops.below hB41) (oky51.ops.below hB41) (e0_both heq hy44 hy51)) (by rintro e x ⟨rfl, hb58⟩; exact ⟨_, rfl, ⟨rfl, hb58⟩⟩)) ?_ ?_; clear h55
    ·
     rintro _ w57 ⟨rfl, hb58⟩
     have hz59 := hb58.size
     have hB60 := hb_call hB41 hb58
     exact hB60
    rintro _ w57 a56 ⟨rfl, hb58⟩ h56
    have hz59 := hb58.size
    have hB60 := hb_call hB41 hb58
    refine dk0 9 (v := .bool false) h56 rfl rfl hB60 fun a61 h61 => ?_; clear h56
    refine dr_done (by kernel_rfl) ?_
    refine co_then ?_
    refine co_false h61 rfl ?_
    refine wp_skip ?_
    refine co_blockN ?_
    refine co_then ?_
    refine co_reg ?_
    refine pk0 (v := .int .i64 ((i : Nat) : Int)) h61 rfl fun a62 h62 => ?_; clear h61
    refine pk (v := .int .i64 ((i + 1 : Nat) : Int)) h62 rfl (rn_arith' rfl rfl rfl rfl rfl rfl (IntWalk.i64_in _ (by omega)) (by omega)) fun a63 h63 => ?_; clear h62
    refine pk0 (v := .int .i64 ((i + 1 : Nat) : Int)) h63 rfl fun a64 h64 => ?_; clear h63
    refine pl_nil ?_
    refine co_then ?_
    refine ⟨(l.length - (i + 1)), by omega, ?_⟩
    exact ⟨i + 1, h64.sub ⟨rfl, rfl, rfl, trivial⟩, rfl, by omega, hB60⟩
end Go.Proofs.Ytniojcnkjehflaa

/- catenalaw37: awake. Conditions: none. -/
namespace Go.Proofs.Ytniojcnkjehflaa
open Go.RowKit Go.PlainAid
set_option linter.unusedVariables false
set_option linter.unusedSimpArgs false


theorem aw_w2 {L2 W2 K : List EntT} (h1 : W2.map e0 = ([] : List EntT).map e0) (h2 : L2 = addL W2 K) (hK : K = awL) : L2 = awL := by
  have : W2 = [] := by simpa using h1
  subst this; subst hK; rw [h2]; rfl
def aw3 : List EntT := [EntT.mk 0 1 (.slice none 0 0) [] 3, EntT.mk 0 2 (.slice none 0 0) [] 5, EntT.mk 0 3 (.slice none 0 0) [] 0]
theorem aw3_ok (w : World) : ∀ z ∈ aw3, EntOk w z := fun z hz => by
  simp [aw3] at hz
  rcases hz with rfl | rfl | rfl <;> exact ⟨SliceOf.nil _ _ _, (fun o ho => by cases ho), by decide, by decide, rfl, rfl⟩
theorem aw3_k {L3 : List EntT} (h : L3 = aw3) : L3.take ((mnI (mxI 9 0) ((stN L3 : Nat) : Int)).toNat) = awL := by subst h; rfl


theorem awl_ok (w : World) : ∀ z ∈ awL, EntOk w z := fun z hz => by
  simp [awL] at hz
  rcases hz with rfl | rfl <;> exact ⟨SliceOf.nil _ _ _, (fun o ho => by cases ho), by decide, by decide, rfl, rfl⟩


theorem deedOf_z (c rq : Int) (v : Value) (ts : Int) (v2 : Value) (ds : List (Int × Int)) (w : World) (hs2 : SliceOf deedE 16 w v2 ds) (hds : ds = [(1, 0), (2, 3)]) (hrq : rq = 1 ∨ rq = 2) (hc : c = 0) :
    Calls Try.prog 71 #[.agg #[.int .i64 c, .int .i64 rq, v, .int .u64 ts], v2] w fun e w' => ∃ (k : Int) (q : Int), e = .returned (.tuple #[.agg #[.int .i64 0, .int .i64 q, .int .i64 k, .int .i64 0, .string (⟨#[]⟩), .string (⟨#[]⟩), .int .u64 0, .int .i64 0, .slice none 0 0, .int .i64 0, .int .i64 0, .int .i64 0, .int .i64 0, .int .u64 0, .int .i64 0, .slice none 0 0], .bool true]) ∧ ((rq = 1 ∧ k = 0) ∨ (rq = 2 ∧ k = 3)) ∧ Below w.heap.size w w' := by subst hc; exact deedOf_any rq v ts v2 ds w hs2 hds hrq

set_option maxRecDepth 100000 in
set_option maxHeartbeats 1600000 in
theorem fillAw_any (v : Value) (l : List EntT) (v2 : Value) (ds : List (Int × Int)) (w : World) (hs : SliceOf entE 4 w v l) (hok : ∀ z ∈ l, EntOk w z) (hl : l = awL) (hs2 : SliceOf deedE 16 w v2 ds) (hds : ds = [(1, 0), (2, 3)]) :
    Calls Try.prog 53 #[v, v2] w fun e w' => ∃ (L2 : List EntT) (u : Value), e = .returned (.tuple #[u, .int .i64 0]) ∧ w'.ownsRow w.heap.size 37 4 u L2.length (L2.flatMap entE) ∧ L2.length = 2 ∧ Below w.heap.size w w' := by
 have hll : l.length = 2 := by rw [hl]; rfl
 have hB0 := Below.refl w.heap.size w
 have hl_hs := sl_len hs
 have hl_hs2 := sl_len hs2
 refine co_enter (n := 79) Try.func53 rfl rfl rfl [(0, v), (1, v2)] rfl (fun a h0 => ?_)
 refine co_seq ?_
 refine co_reg ?_
 refine pk0 (v := .slice none 0 0) h0 rfl fun a1 h1 => ?_; clear h0
 refine pk0 (v := .int .i64 0) h1 rfl fun a2 h2 => ?_; clear h1
 refine pl_nil ?_
 refine co_then ?_
 refine co_seq ?_
 refine co_reg ?_
 refine pw h2 rfl (op_makeG arr2K intK 0 (by kernel_rfl) (by kernel_rfl) rfl) ?_; clear h2
 rintro _ w4 a3 ⟨B5, rfl, hN6, hz7, hm8, hg9⟩ h3
 have hz10 := hg9.size
 have hl11 := hm8.lt
 refine pk0 (v := .map (some B5)) h3 rfl fun a12 h12 => ?_; clear h3
 refine pl_nil ?_
 refine co_then ?_
 refine co_seq ?_
 refine co_reg ?_
 refine pk0 (v := .int .u64 0) h12 rfl fun a13 h13 => ?_; clear h12
 refine pl_nil ?_
 refine co_then ?_
 refine co_seq ?_
 refine co_reg ?_
 refine pk0 (v := .slice none 0 0) h13 rfl fun a14 h14 => ?_; clear h13
 refine pl_nil ?_
 refine co_then ?_
 refine co_seq ?_
 refine co_seq ?_
 refine co_reg ?_
 refine pk0 (v := v) h14 rfl fun a15 h15 => ?_; clear h14
 have hB16 := hb_new hB0 hg9
 refine pk (v := .int .i64 ((l.length : Nat) : Int)) h15 rfl (rn_len rfl rfl Try.underlying29 (hs.below hB16)) fun a17 h17 => ?_; clear h15
 refine pk0 (v := .int .i64 0) h17 rfl fun a18 h18 => ?_; clear h17
 refine pl_nil ?_
 refine co_then ?_
 refine wp_block ?_
 have h19 : Slots 79 [(1, v2), (6, .map (some B5)), (7, .int .u64 0), (8, .slice none 0 0), (16, v), (17, .int .i64 ((l.length : Nat) : Int)), (18, .int .i64 0)] _ := h18.sub ⟨rfl, rfl, rfl, rfl, rfl, rfl, rfl, trivial⟩; clear h18
 refine co_loop (fun mm a x => ∃ (j : Nat) (z : Int) (u : Value) (Lk : List EntT), Slots 79 [(1, v2), (6, .map (some B5)), (7, .int .u64 z), (8, u), (16, v), (17, .int .i64 ((l.length : Nat) : Int)), (18, .int .i64 ((j : Nat) : Int))] a ∧ mm = l.length - j ∧ (j ≤ l.length) ∧ (Lk.length = j) ∧ ((j = 0 ∧ z = 0) ∨ (j = 1 ∧ z = 3) ∨ (j = 2 ∧ z = 5)) ∧ MapG arr2K intK 0 x B5 (fun k : Int × Int => twN (l.take j) k.1 k.2) ∧ x.ownsRow w.heap.size 37 4 u Lk.length (Lk.flatMap entE) ∧ Below w.heap.size w x) (l.length - 0) ?_ ?_
 · exact ⟨0, 0, (.slice none 0 0), [], h19.sub ⟨rfl, rfl, rfl, rfl, rfl, rfl, (slot_eq rfl (congrArg (Value.int .i64) (by first | rfl | omega))), trivial⟩, rfl, by omega, by first | rfl | (simp only [List.length_append, List.length_cons, List.length_nil]; omega), by omega, (hm8.eq (funext fun k => by simp [twN])), (row_nilL _ _ _ _ _), hB16⟩
 · rintro k20 a21 w22 ⟨j, z, u, Lk, h21, rfl, hi23, hi24, hi25, hf26, hf27, hB28⟩
   have hz29 := hB28.size
   have hl30 := hf26.lt
   refine co_seq ?_
   refine co_reg ?_
   refine pk0 (v := .bool (decide (((j : Nat) : Int) < ((l.length : Nat) : Int)))) h21 rfl fun a31 h31 => ?_; clear h21
   refine pl_nil ?_
   refine co_then ?_
   refine co_seq ?_
   cases hc32 : (decide (((j : Nat) : Int) < ((l.length : Nat) : Int)))
   ·
    rw [hc32] at h31
    have hp33 : ¬ (((j : Nat) : Int) < ((l.length : Nat) : Int)) := of_decide_eq_false hc32
    clear hc32
    refine co_false h31 rfl ?_
    refine wp_exit ?_
    refine co_thenX ?_
    refine co_thenX ?_
    refine co_blockX ?_
    refine co_then ?_
    refine co_seq ?_
    refine co_reg ?_
    refine pk0 (v := u) h31 rfl fun a34 h34 => ?_; clear h31
    refine pk0 (v := u) h34 rfl fun a35 h35 => ?_; clear h34
    refine pk0 (v := .int .i64 0) h35 rfl fun a36 h36 => ?_; clear h35
    refine pl_nil ?_
    refine co_then ?_
    refine wp_ret ?_
    refine co_ret2 h36 rfl rfl rfl ?_
    exact ⟨_, _, rfl, (row_lows hf27 (by omega)), by omega, hB28⟩
   ·
    rw [hc32] at h31
    have hp37 : ((j : Nat) : Int) < ((l.length : Nat) : Int) := of_decide_eq_true hc32
    clear hc32
    refine co_true h31 rfl ?_
    refine wp_skip ?_
    refine co_then ?_
    refine co_seq ?_
    refine wp_block ?_
    refine co_seq ?_
    refine co_reg ?_
    obtain ⟨y38, hy38⟩ : ∃ z, l[j]? = some z := ⟨_, List.getElem?_eq_getElem (by first | omega | (simp; done) | (simp; omega))⟩
    have oky38 := hok _ (List.mem_of_getElem? hy38)
    have k39 : 0 ≤ y38.ts := oky38.ts0
    have k40 : y38.ts < 18446744073709551616 := oky38.ts1
    have hz41 := awl_at hl hy38
    have htwy38 : twN (l.take j) y38.client y38.req = 0 := by rcases hz41 with ⟨_, h1, h2, _, h3⟩ | ⟨_, h1, h2, _, h3⟩ <;> rw [h1, h2] <;> exact h3
    refine pk (v := pt (blkOf v) (offOf v + j * 4)) h31 rfl (rn_index rfl rfl rfl Try.underlying29 Try.sizeOf37 (hs.below hB28) (by omega) (by first | omega | (simp; done) | (simp; omega))) fun a42 h42 => ?_; clear h31
    refine pk (v := .agg #[.int .i64 y38.client, .int .i64 y38.req, y38.ops, .int .u64 y38.ts]) h42 rfl (rn_loadN rfl rfl Try.underlying37 rfl (by kernel_rfl) (sl_at (hs.below hB28) hy38)) fun a43 h43 => ?_; clear h42
    refine pw h43 rfl (op_new (v := fun N => pt N 0) (T := 37) (cs := #[.int .i64 0, .int .i64 0, .slice none 0 0, .int .u64 0]) (by kernel_rfl) (by kernel_rfl) (by kernel_rfl)) ?_; clear h43
    rintro _ w45 a44 ⟨N46, rfl, hN49, hz50, hk48, hg47⟩ h44
    have ha51 := row_fresh hf27 hN49
    have hz52 := hg47.size
    try dsimp only at h44
    have hB58 := hb_new hB28 hg47
    refine pwD h44 rfl (op_storeN rfl rfl rfl (all_cons rfl (all_cons rfl (all_cons (sl_one (oky38.ops.below hB58)) (all_cons rfl all_nil)))) (by kernel_rfl) hk48 rfl) ?_; clear h44
    rintro _ w54 a53 ⟨hk55, hz56, hg57⟩ h53
    have hk55' : Blk w54 N46 37 #[.int .i64 y38.client, .int .i64 y38.req, y38.ops, .int .u64 y38.ts] := hk55; clear hk55
    have hz59 := hg57.size
    refine pl_nil ?_
    refine co_then ?_
    refine co_seq ?_
    refine co_reg ?_
    refine pk (v := .agg #[.int .i64 y38.client, .int .i64 y38.req, y38.ops, .int .u64 y38.ts]) h53 rfl (rn_loadN rfl rfl Try.underlying37 rfl (by kernel_rfl) hk55'.all) fun a60 h60 => ?_; clear h53
    refine pk0 (v := v2) h60 rfl fun a61 h61 => ?_; clear h60
    have hB64 := hb_at hB58 hg57 (by omega)
    have hcly38 : y38.client = 0 := by omega
    refine pw h61 rfl (op_call (args := #[.agg #[.int .i64 y38.client, .int .i64 y38.req, y38.ops, .int .u64 y38.ts], v2]) (R := fun res xw => ∃ (k q : Int), res = .tuple #[.agg #[.int .i64 0, .int .i64 q, .int .i64 k, .int .i64 0, .string (⟨#[]⟩), .string (⟨#[]⟩), .int .u64 0, .int .i64 0, .slice none 0 0, .int .i64 0, .int .i64 0, .int .i64 0, .int .i64 0, .int .u64 0, .int .i64 0, .slice none 0 0], .bool true] ∧ ((y38.req = 1 ∧ k = 0) ∨ (y38.req = 2 ∧ k = 3)) ∧ Below w54.heap.size w54 xw) rfl rfl rfl (by kernel_rfl) (by kernel_rfl) (Try.call71 _ _) (deedOf_z y38.client y38.req (y38.ops) y38.ts v2 ds w54 (hs2.below hB64) hds (by omega) hcly38) (by rintro e x ⟨k, q, h0, h⟩; exact ⟨_, h0, k, q, rfl, h⟩)) ?_; clear h61
    rintro _ w63 a62 ⟨k65, q66, rfl, hp67, hb68⟩ h62
    have hz69 := hb68.size
    refine pk0 (v := .tuple #[.agg #[.int .i64 0, .int .i64 q66, .int .i64 k65, .int .i64 0, .string (⟨#[]⟩), .string (⟨#[]⟩), .int .u64 0, .int .i64 0, .slice none 0 0, .int .i64 0, .int .i64 0, .int .i64 0, .int .i64 0, .int .u64 0, .int .i64 0, .slice none 0 0], .bool true]) h62 rfl fun a70 h70 => ?_; clear h62
    refine pk0 (v := .agg #[.int .i64 0, .int .i64 q66, .int .i64 k65, .int .i64 0, .string (⟨#[]⟩), .string (⟨#[]⟩), .int .u64 0, .int .i64 0, .slice none 0 0, .int .i64 0, .int .i64 0, .int .i64 0, .int .i64 0, .int .u64 0, .int .i64 0, .slice none 0 0]) h70 rfl fun a71 h71 => ?_; clear h70
    refine pk0 (v := .bool true) h71 rfl fun a72 h72 => ?_; clear h71
    refine pw h72 rfl (op_new (v := fun N => pt N 0) (T := 104) (cs := #[.int .i64 0, .int .i64 0, .int .i64 0, .int .i64 0, .string (⟨#[]⟩), .string (⟨#[]⟩), .int .u64 0, .int .i64 0, .slice none 0 0, .int .i64 0, .int .i64 0, .int .i64 0, .int .i64 0, .int .u64 0, .int .i64 0, .slice none 0 0]) (by kernel_rfl) (by kernel_rfl) (by kernel_rfl)) ?_; clear h72
    rintro _ w74 a73 ⟨N75, rfl, hN78, hz79, hk77, hg76⟩ h73
    have hr81 := row_kept_new hf27 hg47
    have hr82 := row_kept_at hr81 hg57 (ha51)
    have hr83 := row_kept_new hr82 (below_grown hb68)
    have ha80 := row_fresh hr83 hN78
    have hz84 := hg76.size
    try dsimp only at h73
    refine pwD h73 rfl (op_storeN rfl rfl rfl (all_cons rfl (all_cons rfl (all_cons rfl (all_cons rfl (all_cons rfl (all_cons rfl (all_cons rfl (all_cons rfl (all_cons rfl (all_cons rfl (all_cons rfl (all_cons rfl (all_cons rfl (all_cons rfl (all_cons rfl (all_cons rfl all_nil)))))))))))))))) (by kernel_rfl) hk77 rfl) ?_; clear h73
    rintro _ w86 a85 ⟨hk87, hz88, hg89⟩ h85
    have hk87' : Blk w86 N75 104 #[.int .i64 0, .int .i64 q66, .int .i64 k65, .int .i64 0, .string (⟨#[]⟩), .string (⟨#[]⟩), .int .u64 0, .int .i64 0, .slice none 0 0, .int .i64 0, .int .i64 0, .int .i64 0, .int .i64 0, .int .u64 0, .int .i64 0, .slice none 0 0] := hk87; clear hk87
    have hz90 := hg89.size
    refine pk0 (v := .bool true) h85 rfl fun a91 h91 => ?_; clear h85
    refine pl_nil ?_
    refine co_then ?_
    refine co_seq ?_
    refine co_seq ?_
    refine co_reg ?_
    refine pk0 (v := .bool true) h91 rfl fun a92 h92 => ?_; clear h91
    refine pk0 (v := .bool false) h92 rfl fun a93 h93 => ?_; clear h92
    refine pl_nil ?_
    refine co_then ?_
    refine co_false h93 rfl ?_
    refine wp_skip ?_
    refine co_then ?_
    refine co_seq ?_
    refine co_reg ?_
    refine pk0 (v := pt N46 0) h93 rfl fun a94 h94 => ?_; clear h93
    refine pk0 (v := pt N46 0) h94 rfl fun a95 h95 => ?_; clear h94
    have hk96 := hk55'.below hb68
    have hk97 := hk96.kept hg76 (by simp)
    have hk98 := hk97.kept hg89 (by simp; omega)
    refine pk (v := .int .i64 y38.client) h95 rfl (rn_load1 rfl rfl Try.isAgg3 (hk98.cell rfl)) fun a99 h99 => ?_; clear h95
    refine pk0 (v := pt N46 0) h99 rfl fun a100 h100 => ?_; clear h99
    refine pk0 (v := pt N46 1) h100 rfl fun a101 h101 => ?_; clear h100
    refine pk (v := .int .i64 y38.req) h101 rfl (rn_load1 rfl rfl Try.isAgg3 (hk98.cell rfl)) fun a102 h102 => ?_; clear h101
    refine pk0 (v := .agg #[.int .i64 y38.client, .int .i64 y38.req]) h102 rfl fun a103 h103 => ?_; clear h102
    refine pw h103 rfl (op_new (v := fun N => pt N 0) (T := 121) (cs := #[.int .i64 0, .int .i64 0]) (by kernel_rfl) (by kernel_rfl) (by kernel_rfl)) ?_; clear h103
    rintro _ w105 a104 ⟨N106, rfl, hN109, hz110, hk108, hg107⟩ h104
    have hr112 := row_kept_new hr83 hg76
    have hr113 := row_kept_at hr112 hg89 (ha80)
    have ha111 := row_fresh hr113 hN109
    have hz114 := hg107.size
    try dsimp only at h104
    refine pwD h104 rfl (op_storeN rfl rfl rfl (by kernel_rfl) (by kernel_rfl) hk108 rfl) ?_; clear h104
    rintro _ w116 a115 ⟨hk117, hz118, hg119⟩ h115
    have hk117' : Blk w116 N106 121 #[.int .i64 y38.client, .int .i64 y38.req] := hk117; clear hk117
    have hz120 := hg119.size
    refine pl_nil ?_
    refine co_then ?_
    refine co_seq ?_
    refine co_seq ?_
    refine co_reg ?_
    refine pk0 (v := .map (some B5)) h115 rfl fun a121 h121 => ?_; clear h115
    refine pk (v := .agg #[.int .i64 y38.client, .int .i64 y38.req]) h121 rfl (rn_loadN rfl rfl Try.underlying121 rfl (by kernel_rfl) hk117'.all) fun a122 h122 => ?_; clear h121
    have hI124 := hf26.kept hg47 (by simp)
    have hI125 := hI124.kept hg57 (by simp; omega)
    have hI126 := hI125.kept (below_grown hb68) (by simp)
    have hI127 := hI126.kept hg76 (by simp)
    have hI128 := hI127.kept hg89 (by simp; omega)
    have hI129 := hI128.kept hg107 (by simp)
    have hI130 := hI129.kept hg119 (by simp; omega)
    have k123 : 0 ≤ twN (l.take j) y38.client y38.req ∧ twN (l.take j) y38.client y38.req ≤ 2 := by have := twN_pos (l.take j) y38.client y38.req; rw [List.length_take] at this; omega
    refine pk (v := .int .i64 (twN (l.take j) y38.client y38.req)) h122 rfl (rn_lookG (a := (y38.client, y38.req)) arr2_kl rfl rfl rfl Try.underlying120 int_z hI130) fun a131 h131 => ?_; clear h122
    refine pk0 (v := .bool (decide (twN (l.take j) y38.client y38.req > 0))) h131 rfl fun a132 h132 => ?_; clear h131
    refine pk0 (v := .bool (decide (twN (l.take j) y38.client y38.req > 0))) h132 rfl fun a133 h133 => ?_; clear h132
    have hc134 : (decide (twN (l.take j) y38.client y38.req > 0)) = false := decide_eq_false (by omega)
    rw [hc134] at h133; clear hc134
    refine pk0 (v := pt N46 3) h133 rfl fun a135 h135 => ?_; clear h133
    have hk136 := hk98.kept hg107 (by simp)
    have hk137 := hk136.kept hg119 (by simp; omega)
    refine pk (v := .int .u64 y38.ts) h135 rfl (rn_load1 rfl rfl Try.isAgg23 (hk137.cell rfl)) fun a138 h138 => ?_; clear h135
    refine pk0 (v := .int .u64 z) h138 rfl fun a139 h139 => ?_; clear h138
    refine pk0 (v := .bool (decide (y38.ts ≤ z))) h139 rfl fun a140 h140 => ?_; clear h139
    refine pk0 (v := .bool (decide (y38.ts ≤ z))) h140 rfl fun a141 h141 => ?_; clear h140
    refine pl_nil ?_
    refine co_then ?_
    have hc142 : (decide (y38.ts ≤ z)) = false := decide_eq_false (by omega)
    rw [hc142] at h141; clear hc142
    refine co_false h141 rfl ?_
    refine wp_skip ?_
    refine co_then ?_
    refine co_seq ?_
    refine dr_gen (fun x => Below w.heap.size w x ∧ Blk x N106 121 #[.int .i64 y38.client, .int .i64 y38.req]) (by kernel_rfl) (fun w143 hg144 => ?_) (fun w143 hg144 => ?_)
    ·
     have hz145 := hg144.size
     have hB146 := hb_call hB64 hb68
     have hB147 := hb_new hB146 hg76
     have hB148 := hb_at hB147 hg89 (by omega)
     have hB149 := hb_new hB148 hg107
     have hB150 := hb_at hB149 hg119 (by omega)
     have hB151 := hb_new hB150 hg144
     have hk152 := hk117'.kept hg144 (by simp)
     exact ⟨hB151, hk152⟩
    have hz153 := hg144.size
    have hB154 := hb_call hB64 hb68
    have hB155 := hb_new hB154 hg76
    have hB156 := hb_at hB155 hg89 (by omega)
    have hB157 := hb_new hB156 hg107
    have hB158 := hb_at hB157 hg119 (by omega)
    have hB159 := hb_new hB158 hg144
    have hk160 := hk117'.kept hg144 (by simp)
    refine dk0 0 (v := .map (some B5)) h141 rfl rfl ⟨hB159, hk160⟩ fun a161 h161 => ?_; clear h141
    refine dk 1 (v := .agg #[.int .i64 y38.client, .int .i64 y38.req]) h161 rfl rfl ⟨hB159, hk160⟩ (fun x hx => (rn_loadN rfl rfl Try.underlying121 rfl (by kernel_rfl) hx.2.all)) fun a162 h162 => ?_; clear h161
    refine dr_many [2, 4] (by kernel_rfl) (by simp) ⟨?_, ?_, trivial⟩
    ·
     have hI164 := hI130.kept hg144 (by simp)
     have k163 : 0 ≤ twN (l.take j) y38.client y38.req ∧ twN (l.take j) y38.client y38.req ≤ 2 := by have := twN_pos (l.take j) y38.client y38.req; rw [List.length_take] at this; omega
     refine dr_opVal (i := 2) (v := .int .i64 (twN (l.take j) y38.client y38.req)) h162 rfl rfl rfl rfl (by kernel_rfl) rfl (rn_lookG (a := (y38.client, y38.req)) arr2_kl rfl rfl rfl Try.underlying120 int_z hI164) ⟨hB159, hk160⟩ (fun a165 h165 => ?_); clear h162
     refine dk 3 (v := .int .i64 ((twN (l.take j) y38.client y38.req) + 1)) h165 rfl rfl ⟨hB159, hk160⟩ (fun x hx => (rn_arith rfl rfl rfl rfl rfl rfl (IntWalk.i64_in _ (by omega)))) fun a166 h166 => ?_; clear h165
     refine d1 4 h166 rfl rfl (op_entryG (a := (y38.client, y38.req)) arr2_kl rfl rfl rfl Try.underlying120 int_z hI164) ?_ ?_; clear h166
     ·
      rintro _ w168 ⟨s169, rfl, hm170, hS171, hz172, hg173⟩
      have hz174 := hg173.size
      have hl175 := hm170.lt
      have hB176 := hb_at hB159 hg173 (by omega)
      have hk177 := hk160.kept hg173 (by simp; omega)
      exact ⟨hB176, hk177⟩
     rintro _ w168 a167 ⟨s169, rfl, hm170, hS171, hz172, hg173⟩ h167
     have hz174 := hg173.size
     have hl175 := hm170.lt
     have hB176 := hb_at hB159 hg173 (by omega)
     have hk177 := hk160.kept hg173 (by simp; omega)
     refine dk0 5 (v := .int .i64 ((s169 : Nat) : Int)) h167 rfl rfl ⟨hB176, hk177⟩ fun a178 h178 => ?_; clear h167
     refine d1D 6 h178 rfl rfl (op_entryStoreG (a := (y38.client, y38.req)) (v := ((twN (l.take j) y38.client y38.req) + 1)) (st := s169) arr2K_inj rfl rfl rfl rfl hm170 hS171) ?_ ?_; clear h178
     ·
      rintro _ w180 ⟨hm181, hz182, hg183⟩
      have hz184 := hg183.size
      have hl185 := hm181.lt
      have hB186 := hb_at hB176 hg183 (by omega)
      have hk187 := hk177.kept hg183 (by simp; omega)
      exact ⟨hB186, hk187⟩
     rintro _ w180 a179 ⟨hm181, hz182, hg183⟩ h179
     have hz184 := hg183.size
     have hl185 := hm181.lt
     refine dr_done (by kernel_rfl) ?_
     refine co_then ?_
     refine co_seq ?_
     refine co_reg ?_
     refine pk0 (v := pt N46 3) h179 rfl fun a186 h186 => ?_; clear h179
     have hk187 := hk137.kept hg144 (by simp)
     have hk188 := hk187.kept hg173 (by simp; omega)
     have hk189 := hk188.kept hg183 (by simp; omega)
     refine pk (v := .int .u64 y38.ts) h186 rfl (rn_load1 rfl rfl Try.isAgg23 (hk189.cell rfl)) fun a190 h190 => ?_; clear h186
     refine pk0 (v := .int .u64 y38.ts) h190 rfl fun a191 h191 => ?_; clear h190
     refine pl_nil ?_
     refine co_then ?_
     refine co_seq ?_
     refine co_reg ?_
     refine pk0 (v := pt N106 0) h191 rfl fun a192 h192 => ?_; clear h191
     have hk193 := hk177.kept hg183 (by simp; omega)
     refine pk (v := .int .i64 y38.client) h192 rfl (rn_load1 rfl rfl Try.isAgg3 (hk193.cell rfl)) fun a194 h194 => ?_; clear h192
     refine pk0 (v := pt N106 1) h194 rfl fun a195 h195 => ?_; clear h194
     refine pk (v := .int .i64 y38.req) h195 rfl (rn_load1 rfl rfl Try.isAgg3 (hk193.cell rfl)) fun a196 h196 => ?_; clear h195
     refine pk0 (v := .agg #[.int .i64 y38.client, .int .i64 y38.req, .slice none 0 0]) h196 rfl fun a197 h197 => ?_; clear h196
     refine pk0 (v := pt N46 3) h197 rfl fun a198 h198 => ?_; clear h197
     refine pk (v := .int .u64 y38.ts) h198 rfl (rn_load1 rfl rfl Try.isAgg23 (hk189.cell rfl)) fun a199 h199 => ?_; clear h198
     refine pk0 (v := .agg #[.int .i64 y38.client, .int .i64 y38.req, .slice none 0 0, .int .u64 y38.ts]) h199 rfl fun a200 h200 => ?_; clear h199
     refine pw h200 rfl (op_new (v := fun N => pt N 0) (T := 37) (cs := #[.int .i64 0, .int .i64 0, .slice none 0 0, .int .u64 0]) (by kernel_rfl) (by kernel_rfl) (by kernel_rfl)) ?_; clear h200
     rintro _ w202 a201 ⟨N203, rfl, hN206, hz207, hk205, hg204⟩ h201
     have hr209 := row_kept_new hr113 hg107
     have hr210 := row_kept_at hr209 hg119 (ha111)
     have hr211 := row_kept_new hr210 hg144
     have hr212 := row_kept_at hr211 hg173 (hI164.row hr211)
     have hr213 := row_kept_at hr212 hg183 (hm170.row hr212)
     have ha208 := row_fresh hr213 hN206
     have hz214 := hg204.size
     try dsimp only at h201
     refine pwD h201 rfl (op_storeN rfl rfl rfl (all_cons rfl (all_cons rfl (all_cons rfl (all_cons rfl all_nil)))) (by kernel_rfl) hk205 rfl) ?_; clear h201
     rintro _ w216 a215 ⟨hk217, hz218, hg219⟩ h215
     have hk217' : Blk w216 N203 37 #[.int .i64 y38.client, .int .i64 y38.req, .slice none 0 0, .int .u64 y38.ts] := hk217; clear hk217
     have hz220 := hg219.size
     refine pl_nil ?_
     refine co_then ?_
     refine co_seq ?_
     refine co_seq ?_
     refine co_reg ?_
     refine pk0 (v := pt N75 2) h215 rfl fun a221 h221 => ?_; clear h215
     refine pk0 (v := pt N75 2) h221 rfl fun a222 h222 => ?_; clear h221
     have hk223 := hk87'.kept hg107 (by simp)
     have hk224 := hk223.kept hg119 (by simp; omega)
     have hk225 := hk224.kept hg144 (by simp)
     have hk226 := hk225.kept hg173 (by simp; omega)
     have hk227 := hk226.kept hg183 (by simp; omega)
     have hk228 := hk227.kept hg204 (by simp)
     have hk229 := hk228.kept hg219 (by simp; omega)
     refine pk (v := .int .i64 k65) h222 rfl (rn_load1 rfl rfl Try.isAgg3 (hk229.cell rfl)) fun a230 h230 => ?_; clear h222
     refine pk0 (v := .bool (k65 == 0)) h230 rfl fun a231 h231 => ?_; clear h230
     refine pl_nil ?_
     refine co_then ?_
     have hB233 := hb_at hB176 hg183 (by omega)
     have hB234 := hb_new hB233 hg204
     have hB235 := hb_at hB234 hg219 (by omega)
     have hr236 := row_kept_new hr213 hg204
     have hr237 := row_kept_at hr236 hg219 (ha208)
     have hk238 := hk189.kept hg204 (by simp)
     have hk239 := hk238.kept hg219 (by simp; omega)
     have hk240 := hk193.kept hg204 (by simp)
     have hk241 := hk240.kept hg219 (by simp; omega)
     have hI242 := hm181.kept hg204 (by simp)
     have hI243 := hI242.kept hg219 (by simp; omega)
     cases hc232 : (k65 == 0)
     ·
      rw [hc232] at h231
      have hp244 : ¬ (k65 = 0) := by first | simpa using hc232 | simpa [and_assoc] using hc232
      clear hc232
      refine co_false h231 rfl ?_
      refine wp_skip ?_
      refine co_then ?_
      refine co_reg ?_
      refine pk0 (v := u) h231 rfl fun a245 h245 => ?_; clear h231
      refine pk (v := .agg #[.int .i64 y38.client, .int .i64 y38.req, .slice none 0 0, .int .u64 y38.ts]) h245 rfl (rn_loadN rfl rfl Try.underlying37 rfl (by kernel_rfl) hk217'.all) fun a246 h246 => ?_; clear h245
      refine pw h246 rfl (op_new (v := fun N => .slice (some ⟨N, 0, none⟩) 1 1) (T := 37) (cs := #[.int .i64 y38.client, .int .i64 y38.req, .slice none 0 0, .int .u64 y38.ts]) (by kernel_rfl) (by kernel_rfl) (by kernel_rfl)) ?_; clear h246
      rintro _ w248 a247 ⟨N249, rfl, hN252, hz253, hk251, hg250⟩ h247
      have ha254 := row_fresh hr237 hN252
      have hz255 := hg250.size
      try dsimp only at h247
      have hr262 := row_kept_new hr237 hg250
      refine pw h247 rfl (op_append rfl w.heap.size 37 (z := .agg #[.int .i64 0, .int .i64 0, .slice none 0 0, .int .u64 0]) (size := 4) (bytes := 48) Try.underlying29 (by kernel_rfl) rfl rfl rfl hr262 rfl hk251 rfl (by kernel_rfl) (by first | omega | (simp only [List.length_nil, List.length_append, List.length_cons, List.length_take, List.length_drop]; omega)) (by first | omega | (simp only [List.length_nil, List.length_append, List.length_cons, List.length_take, List.length_drop]; omega)) (by omega)) ?_; clear h247
      rintro v258 w257 a256 ⟨hr259, hg260⟩ h256
      have hr259' : w257.ownsRow w.heap.size 37 4 v258 ((Lk ++ [(EntT.mk y38.client y38.req (.slice none 0 0) [] y38.ts)]).length) ((Lk ++ [(EntT.mk y38.client y38.req (.slice none 0 0) [] y38.ts)]).flatMap entE) := row_push (y := (EntT.mk y38.client y38.req (.slice none 0 0) [] y38.ts)) hr259 rfl rfl; clear hr259
      have hz263 := hg260.size
      refine pk0 (v := v258) h256 rfl fun a264 h264 => ?_; clear h256
      refine pl_nil ?_
      refine co_blockN ?_
      refine co_then ?_
      refine co_reg ?_
      refine pk (v := .int .i64 ((j + 1 : Nat) : Int)) h264 rfl (rn_arith' rfl rfl rfl rfl rfl rfl (IntWalk.i64_in _ (by omega)) (by omega)) fun a265 h265 => ?_; clear h264
      refine pk0 (v := .int .i64 ((j + 1 : Nat) : Int)) h265 rfl fun a266 h266 => ?_; clear h265
      refine pl_nil ?_
      refine co_then ?_
      refine ⟨(l.length - (j + 1)), by omega, ?_⟩
      have hI267 := hI243.kept hg250 (by simp)
      have hI268 := hI267.kept hg260 (hI267.row hr262)
      have hB269 := hb_new hB235 hg250
      have hB270 := hb_row hB269 hr262 (by omega) hg260
      exact ⟨j + 1, y38.ts, v258, (Lk ++ [(EntT.mk y38.client y38.req (.slice none 0 0) [] y38.ts)]), h266.sub ⟨rfl, rfl, rfl, rfl, rfl, rfl, rfl, trivial⟩, rfl, by omega, by first | rfl | (simp only [List.length_append, List.length_cons, List.length_nil]; omega), by omega, (hI268.eq (tw_step hy38)), (row_eq hr259' (rfl)), hB270⟩
     ·
      rw [hc232] at h231
      have hp271 : k65 = 0 := by first | simpa using hc232 | simpa [and_assoc] using hc232
      clear hc232
      refine co_true h231 rfl ?_
      refine co_reg ?_
      refine pk0 (v := pt N75 2) h231 rfl fun a272 h272 => ?_; clear h231
      refine pk0 (v := pt N75 8) h272 rfl fun a273 h273 => ?_; clear h272
      refine pk (v := .slice none 0 0) h273 rfl (rn_load1 rfl rfl Try.isAgg33 (hk229.cell rfl)) fun a274 h274 => ?_; clear h273
      refine pw h274 rfl (op_call (args := #[.slice none 0 0]) (R := fun res xw => ∃ u : Value, res = u ∧ xw.ownsRow w216.heap.size 74 3 u ([] : List OpT).length (([] : List OpT).flatMap opE) ∧ Below w216.heap.size w216 xw) rfl rfl rfl (by kernel_rfl) (by kernel_rfl) (Try.call72 _ _) (opsNormN  w216 ) (by rintro e x ⟨u, rfl, hq278, hb279⟩; exact ⟨_, rfl, ⟨u, rfl, hq278, hb279⟩⟩)) ?_; clear h274
      rintro u277 w276 a275 ⟨_, rfl, hq278, hb279⟩ h275
      have hz280 := hb279.size
      have hl281 := sl_len (row_sl hq278 opE_len)
      refine pk0 (v := pt N203 0) h275 rfl fun a282 h282 => ?_; clear h275
      refine pk0 (v := pt N203 2) h282 rfl fun a283 h283 => ?_; clear h282
      have hk289 := hk217'.below hb279
      refine pwD h283 rfl (op_store1 rfl rfl rfl (row_one hq278) Try.sizeOf33 hk289 rfl) ?_; clear h283
      rintro _ w285 a284 ⟨hk286, hz287, hg288⟩ h284
      have hk286' : Blk w285 N203 37 #[.int .i64 y38.client, .int .i64 y38.req, u277, .int .u64 y38.ts] := hk286; clear hk286
      have hz290 := hg288.size
      refine pl_nil ?_
      refine co_then ?_
      refine co_reg ?_
      refine pk0 (v := u) h284 rfl fun a291 h291 => ?_; clear h284
      refine pk (v := .agg #[.int .i64 y38.client, .int .i64 y38.req, u277, .int .u64 y38.ts]) h291 rfl (rn_loadN rfl rfl Try.underlying37 rfl (by kernel_rfl) hk286'.all) fun a292 h292 => ?_; clear h291
      refine pw h292 rfl (op_new (v := fun N => .slice (some ⟨N, 0, none⟩) 1 1) (T := 37) (cs := #[.int .i64 y38.client, .int .i64 y38.req, u277, .int .u64 y38.ts]) (by kernel_rfl) (by kernel_rfl) (by kernel_rfl)) ?_; clear h292
      rintro _ w294 a293 ⟨N295, rfl, hN298, hz299, hk297, hg296⟩ h293
      have hr301 := row_kept_new hr237 (below_grown hb279)
      have hr302 := row_kept_at hr301 hg288 (ha208)
      have ha300 := row_fresh hr302 hN298
      have hr304 := row_kept_at hq278 hg288 (row_ne_lt hq278 (by omega))
      have ha303 := row_fresh hr304 hN298
      have hz305 := hg296.size
      try dsimp only at h293
      have hr312 := row_kept_new hr302 hg296
      have hr313 := row_kept_new hr304 hg296
      refine pw h293 rfl (op_append rfl w.heap.size 37 (z := .agg #[.int .i64 0, .int .i64 0, .slice none 0 0, .int .u64 0]) (size := 4) (bytes := 48) Try.underlying29 (by kernel_rfl) rfl rfl rfl hr312 rfl hk297 rfl (all_cons rfl (all_cons rfl (all_cons (row_one hr313) (all_cons rfl all_nil)))) (by first | omega | (simp only [List.length_nil, List.length_append, List.length_cons, List.length_take, List.length_drop]; omega)) (by first | omega | (simp only [List.length_nil, List.length_append, List.length_cons, List.length_take, List.length_drop]; omega)) (by omega)) ?_; clear h293
      rintro v308 w307 a306 ⟨hr309, hg310⟩ h306
      have hr309' : w307.ownsRow w.heap.size 37 4 v308 ((Lk ++ [(EntT.mk y38.client y38.req u277 [] y38.ts)]).length) ((Lk ++ [(EntT.mk y38.client y38.req u277 [] y38.ts)]).flatMap entE) := row_push (y := (EntT.mk y38.client y38.req u277 [] y38.ts)) hr309 rfl rfl; clear hr309
      have hz314 := hg310.size
      refine pk0 (v := v308) h306 rfl fun a315 h315 => ?_; clear h306
      refine pl_nil ?_
      refine co_blockN ?_
      refine co_then ?_
      refine co_reg ?_
      refine pk (v := .int .i64 ((j + 1 : Nat) : Int)) h315 rfl (rn_arith' rfl rfl rfl rfl rfl rfl (IntWalk.i64_in _ (by omega)) (by omega)) fun a316 h316 => ?_; clear h315
      refine pk0 (v := .int .i64 ((j + 1 : Nat) : Int)) h316 rfl fun a317 h317 => ?_; clear h316
      refine pl_nil ?_
      refine co_then ?_
      refine ⟨(l.length - (j + 1)), by omega, ?_⟩
      have hI318 := hI243.kept (below_grown hb279) (by simp)
      have hI319 := hI318.kept hg288 (by simp; omega)
      have hI320 := hI319.kept hg296 (by simp)
      have hI321 := hI320.kept hg310 (hI320.row hr312)
      have hB322 := hb_call hB235 hb279
      have hB323 := hb_at hB322 hg288 (by omega)
      have hB324 := hb_new hB323 hg296
      have hB325 := hb_row hB324 hr312 (by omega) hg310
      exact ⟨j + 1, y38.ts, v308, (Lk ++ [(EntT.mk y38.client y38.req u277 [] y38.ts)]), h317.sub ⟨rfl, rfl, rfl, rfl, rfl, rfl, rfl, trivial⟩, rfl, by omega, by first | rfl | (simp only [List.length_append, List.length_cons, List.length_nil]; omega), by omega, (hI321.eq (tw_step hy38)), (row_eq hr309' (rfl)), hB325⟩
    ·
     have hI333 := hI130.kept hg144 (by simp)
     refine dr_op (i := 4) h162 rfl rfl rfl rfl (op_entryG (a := (y38.client, y38.req)) arr2_kl rfl rfl rfl Try.underlying120 int_z hI333) ?_ ?_; clear h162
     ·
      rintro _ w327 ⟨s328, rfl, hm329, hS330, hz331, hg332⟩
      have hz334 := hg332.size
      have hl335 := hm329.lt
      have hB336 := hb_at hB159 hg332 (by omega)
      have hk337 := hk160.kept hg332 (by simp; omega)
      exact ⟨hB336, hk337⟩
     rintro _ w327 a326 ⟨s328, rfl, hm329, hS330, hz331, hg332⟩ h326
     have hz334 := hg332.size
     have hl335 := hm329.lt
     have hB336 := hb_at hB159 hg332 (by omega)
     have hk337 := hk160.kept hg332 (by simp; omega)
     refine dk0 5 (v := .int .i64 ((s328 : Nat) : Int)) h326 rfl rfl ⟨hB336, hk337⟩ fun a338 h338 => ?_; clear h326
     refine dr_many [2] (by kernel_rfl) (by simp) ⟨?_, trivial⟩
     ·
      have k339 : 0 ≤ twN (l.take j) y38.client y38.req ∧ twN (l.take j) y38.client y38.req ≤ 2 := by have := twN_pos (l.take j) y38.client y38.req; rw [List.length_take] at this; omega
      refine dr_opVal (i := 2) (v := .int .i64 (twN (l.take j) y38.client y38.req)) h338 rfl rfl rfl rfl (by kernel_rfl) rfl (rn_lookG (a := (y38.client, y38.req)) arr2_kl rfl rfl rfl Try.underlying120 int_z hm329) ⟨hB336, hk337⟩ (fun a340 h340 => ?_); clear h338
      refine dk 3 (v := .int .i64 ((twN (l.take j) y38.client y38.req) + 1)) h340 rfl rfl ⟨hB336, hk337⟩ (fun x hx => (rn_arith rfl rfl rfl rfl rfl rfl (IntWalk.i64_in _ (by omega)))) fun a341 h341 => ?_; clear h340
      refine d1D 6 h341 rfl rfl (op_entryStoreG (a := (y38.client, y38.req)) (v := ((twN (l.take j) y38.client y38.req) + 1)) (st := s328) arr2K_inj rfl rfl rfl rfl hm329 hS330) ?_ ?_; clear h341
      ·
       rintro _ w343 ⟨hm344, hz345, hg346⟩
       have hz347 := hg346.size
       have hl348 := hm344.lt
       have hB349 := hb_at hB336 hg346 (by omega)
       have hk350 := hk337.kept hg346 (by simp; omega)
       exact ⟨hB349, hk350⟩
      rintro _ w343 a342 ⟨hm344, hz345, hg346⟩ h342
      have hz347 := hg346.size
      have hl348 := hm344.lt
      refine dr_done (by kernel_rfl) ?_
      refine co_then ?_
      refine co_seq ?_
      refine co_reg ?_
      refine pk0 (v := pt N46 3) h342 rfl fun a349 h349 => ?_; clear h342
      have hk350 := hk137.kept hg144 (by simp)
      have hk351 := hk350.kept hg332 (by simp; omega)
      have hk352 := hk351.kept hg346 (by simp; omega)
      refine pk (v := .int .u64 y38.ts) h349 rfl (rn_load1 rfl rfl Try.isAgg23 (hk352.cell rfl)) fun a353 h353 => ?_; clear h349
      refine pk0 (v := .int .u64 y38.ts) h353 rfl fun a354 h354 => ?_; clear h353
      refine pl_nil ?_
      refine co_then ?_
      refine co_seq ?_
      refine co_reg ?_
      refine pk0 (v := pt N106 0) h354 rfl fun a355 h355 => ?_; clear h354
      have hk356 := hk337.kept hg346 (by simp; omega)
      refine pk (v := .int .i64 y38.client) h355 rfl (rn_load1 rfl rfl Try.isAgg3 (hk356.cell rfl)) fun a357 h357 => ?_; clear h355
      refine pk0 (v := pt N106 1) h357 rfl fun a358 h358 => ?_; clear h357
      refine pk (v := .int .i64 y38.req) h358 rfl (rn_load1 rfl rfl Try.isAgg3 (hk356.cell rfl)) fun a359 h359 => ?_; clear h358
      refine pk0 (v := .agg #[.int .i64 y38.client, .int .i64 y38.req, .slice none 0 0]) h359 rfl fun a360 h360 => ?_; clear h359
      refine pk0 (v := pt N46 3) h360 rfl fun a361 h361 => ?_; clear h360
      refine pk (v := .int .u64 y38.ts) h361 rfl (rn_load1 rfl rfl Try.isAgg23 (hk352.cell rfl)) fun a362 h362 => ?_; clear h361
      refine pk0 (v := .agg #[.int .i64 y38.client, .int .i64 y38.req, .slice none 0 0, .int .u64 y38.ts]) h362 rfl fun a363 h363 => ?_; clear h362
      refine pw h363 rfl (op_new (v := fun N => pt N 0) (T := 37) (cs := #[.int .i64 0, .int .i64 0, .slice none 0 0, .int .u64 0]) (by kernel_rfl) (by kernel_rfl) (by kernel_rfl)) ?_; clear h363
      rintro _ w365 a364 ⟨N366, rfl, hN369, hz370, hk368, hg367⟩ h364
      have hr372 := row_kept_new hr113 hg107
      have hr373 := row_kept_at hr372 hg119 (ha111)
      have hr374 := row_kept_new hr373 hg144
      have hr375 := row_kept_at hr374 hg332 (hI333.row hr374)
      have hr376 := row_kept_at hr375 hg346 (hm329.row hr375)
      have ha371 := row_fresh hr376 hN369
      have hz377 := hg367.size
      try dsimp only at h364
      refine pwD h364 rfl (op_storeN rfl rfl rfl (all_cons rfl (all_cons rfl (all_cons rfl (all_cons rfl all_nil)))) (by kernel_rfl) hk368 rfl) ?_; clear h364
      rintro _ w379 a378 ⟨hk380, hz381, hg382⟩ h378
      have hk380' : Blk w379 N366 37 #[.int .i64 y38.client, .int .i64 y38.req, .slice none 0 0, .int .u64 y38.ts] := hk380; clear hk380
      have hz383 := hg382.size
      refine pl_nil ?_
      refine co_then ?_
      refine co_seq ?_
      refine co_seq ?_
      refine co_reg ?_
      refine pk0 (v := pt N75 2) h378 rfl fun a384 h384 => ?_; clear h378
      refine pk0 (v := pt N75 2) h384 rfl fun a385 h385 => ?_; clear h384
      have hk386 := hk87'.kept hg107 (by simp)
      have hk387 := hk386.kept hg119 (by simp; omega)
      have hk388 := hk387.kept hg144 (by simp)
      have hk389 := hk388.kept hg332 (by simp; omega)
      have hk390 := hk389.kept hg346 (by simp; omega)
      have hk391 := hk390.kept hg367 (by simp)
      have hk392 := hk391.kept hg382 (by simp; omega)
      refine pk (v := .int .i64 k65) h385 rfl (rn_load1 rfl rfl Try.isAgg3 (hk392.cell rfl)) fun a393 h393 => ?_; clear h385
      refine pk0 (v := .bool (k65 == 0)) h393 rfl fun a394 h394 => ?_; clear h393
      refine pl_nil ?_
      refine co_then ?_
      have hB396 := hb_at hB336 hg346 (by omega)
      have hB397 := hb_new hB396 hg367
      have hB398 := hb_at hB397 hg382 (by omega)
      have hr399 := row_kept_new hr376 hg367
      have hr400 := row_kept_at hr399 hg382 (ha371)
      have hk401 := hk352.kept hg367 (by simp)
      have hk402 := hk401.kept hg382 (by simp; omega)
      have hk403 := hk356.kept hg367 (by simp)
      have hk404 := hk403.kept hg382 (by simp; omega)
      have hI405 := hm344.kept hg367 (by simp)
      have hI406 := hI405.kept hg382 (by simp; omega)
      cases hc395 : (k65 == 0)
      ·
       rw [hc395] at h394
       have hp407 : ¬ (k65 = 0) := by first | simpa using hc395 | simpa [and_assoc] using hc395
       clear hc395
       refine co_false h394 rfl ?_
       refine wp_skip ?_
       refine co_then ?_
       refine co_reg ?_
       refine pk0 (v := u) h394 rfl fun a408 h408 => ?_; clear h394
       refine pk (v := .agg #[.int .i64 y38.client, .int .i64 y38.req, .slice none 0 0, .int .u64 y38.ts]) h408 rfl (rn_loadN rfl rfl Try.underlying37 rfl (by kernel_rfl) hk380'.all) fun a409 h409 => ?_; clear h408
       refine pw h409 rfl (op_new (v := fun N => .slice (some ⟨N, 0, none⟩) 1 1) (T := 37) (cs := #[.int .i64 y38.client, .int .i64 y38.req, .slice none 0 0, .int .u64 y38.ts]) (by kernel_rfl) (by kernel_rfl) (by kernel_rfl)) ?_; clear h409
       rintro _ w411 a410 ⟨N412, rfl, hN415, hz416, hk414, hg413⟩ h410
       have ha417 := row_fresh hr400 hN415
       have hz418 := hg413.size
       try dsimp only at h410
       have hr425 := row_kept_new hr400 hg413
       refine pw h410 rfl (op_append rfl w.heap.size 37 (z := .agg #[.int .i64 0, .int .i64 0, .slice none 0 0, .int .u64 0]) (size := 4) (bytes := 48) Try.underlying29 (by kernel_rfl) rfl rfl rfl hr425 rfl hk414 rfl (by kernel_rfl) (by first | omega | (simp only [List.length_nil, List.length_append, List.length_cons, List.length_take, List.length_drop]; omega)) (by first | omega | (simp only [List.length_nil, List.length_append, List.length_cons, List.length_take, List.length_drop]; omega)) (by omega)) ?_; clear h410
       rintro v421 w420 a419 ⟨hr422, hg423⟩ h419
       have hr422' : w420.ownsRow w.heap.size 37 4 v421 ((Lk ++ [(EntT.mk y38.client y38.req (.slice none 0 0) [] y38.ts)]).length) ((Lk ++ [(EntT.mk y38.client y38.req (.slice none 0 0) [] y38.ts)]).flatMap entE) := row_push (y := (EntT.mk y38.client y38.req (.slice none 0 0) [] y38.ts)) hr422 rfl rfl; clear hr422
       have hz426 := hg423.size
       refine pk0 (v := v421) h419 rfl fun a427 h427 => ?_; clear h419
       refine pl_nil ?_
       refine co_blockN ?_
       refine co_then ?_
       refine co_reg ?_
       refine pk (v := .int .i64 ((j + 1 : Nat) : Int)) h427 rfl (rn_arith' rfl rfl rfl rfl rfl rfl (IntWalk.i64_in _ (by omega)) (by omega)) fun a428 h428 => ?_; clear h427
       refine pk0 (v := .int .i64 ((j + 1 : Nat) : Int)) h428 rfl fun a429 h429 => ?_; clear h428
       refine pl_nil ?_
       refine co_then ?_
       refine ⟨(l.length - (j + 1)), by omega, ?_⟩
       have hI430 := hI406.kept hg413 (by simp)
       have hI431 := hI430.kept hg423 (hI430.row hr425)
       have hB432 := hb_new hB398 hg413
       have hB433 := hb_row hB432 hr425 (by omega) hg423
       exact ⟨j + 1, y38.ts, v421, (Lk ++ [(EntT.mk y38.client y38.req (.slice none 0 0) [] y38.ts)]), h429.sub ⟨rfl, rfl, rfl, rfl, rfl, rfl, rfl, trivial⟩, rfl, by omega, by first | rfl | (simp only [List.length_append, List.length_cons, List.length_nil]; omega), by omega, (hI431.eq (tw_step hy38)), (row_eq hr422' (rfl)), hB433⟩
      ·
       rw [hc395] at h394
       have hp434 : k65 = 0 := by first | simpa using hc395 | simpa [and_assoc] using hc395
       clear hc395
       refine co_true h394 rfl ?_
       refine co_reg ?_
       refine pk0 (v := pt N75 2) h394 rfl fun a435 h435 => ?_; clear h394
       refine pk0 (v := pt N75 8) h435 rfl fun a436 h436 => ?_; clear h435
       refine pk (v := .slice none 0 0) h436 rfl (rn_load1 rfl rfl Try.isAgg33 (hk392.cell rfl)) fun a437 h437 => ?_; clear h436
       refine pw h437 rfl (op_call (args := #[.slice none 0 0]) (R := fun res xw => ∃ u : Value, res = u ∧ xw.ownsRow w379.heap.size 74 3 u ([] : List OpT).length (([] : List OpT).flatMap opE) ∧ Below w379.heap.size w379 xw) rfl rfl rfl (by kernel_rfl) (by kernel_rfl) (Try.call72 _ _) (opsNormN  w379 ) (by rintro e x ⟨u, rfl, hq441, hb442⟩; exact ⟨_, rfl, ⟨u, rfl, hq441, hb442⟩⟩)) ?_; clear h437
       rintro u440 w439 a438 ⟨_, rfl, hq441, hb442⟩ h438
       have hz443 := hb442.size
       have hl444 := sl_len (row_sl hq441 opE_len)
       refine pk0 (v := pt N366 0) h438 rfl fun a445 h445 => ?_; clear h438
       refine pk0 (v := pt N366 2) h445 rfl fun a446 h446 => ?_; clear h445
       have hk452 := hk380'.below hb442
       refine pwD h446 rfl (op_store1 rfl rfl rfl (row_one hq441) Try.sizeOf33 hk452 rfl) ?_; clear h446
       rintro _ w448 a447 ⟨hk449, hz450, hg451⟩ h447
       have hk449' : Blk w448 N366 37 #[.int .i64 y38.client, .int .i64 y38.req, u440, .int .u64 y38.ts] := hk449; clear hk449
       have hz453 := hg451.size
       refine pl_nil ?_
       refine co_then ?_
       refine co_reg ?_
       refine pk0 (v := u) h447 rfl fun a454 h454 => ?_; clear h447
       refine pk (v := .agg #[.int .i64 y38.client, .int .i64 y38.req, u440, .int .u64 y38.ts]) h454 rfl (rn_loadN rfl rfl Try.underlying37 rfl (by kernel_rfl) hk449'.all) fun a455 h455 => ?_; clear h454
       refine pw h455 rfl (op_new (v := fun N => .slice (some ⟨N, 0, none⟩) 1 1) (T := 37) (cs := #[.int .i64 y38.client, .int .i64 y38.req, u440, .int .u64 y38.ts]) (by kernel_rfl) (by kernel_rfl) (by kernel_rfl)) ?_; clear h455
       rintro _ w457 a456 ⟨N458, rfl, hN461, hz462, hk460, hg459⟩ h456
       have hr464 := row_kept_new hr400 (below_grown hb442)
       have hr465 := row_kept_at hr464 hg451 (ha371)
       have ha463 := row_fresh hr465 hN461
       have hr467 := row_kept_at hq441 hg451 (row_ne_lt hq441 (by omega))
       have ha466 := row_fresh hr467 hN461
       have hz468 := hg459.size
       try dsimp only at h456
       have hr475 := row_kept_new hr465 hg459
       have hr476 := row_kept_new hr467 hg459
       refine pw h456 rfl (op_append rfl w.heap.size 37 (z := .agg #[.int .i64 0, .int .i64 0, .slice none 0 0, .int .u64 0]) (size := 4) (bytes := 48) Try.underlying29 (by kernel_rfl) rfl rfl rfl hr475 rfl hk460 rfl (all_cons rfl (all_cons rfl (all_cons (row_one hr476) (all_cons rfl all_nil)))) (by first | omega | (simp only [List.length_nil, List.length_append, List.length_cons, List.length_take, List.length_drop]; omega)) (by first | omega | (simp only [List.length_nil, List.length_append, List.length_cons, List.length_take, List.length_drop]; omega)) (by omega)) ?_; clear h456
       rintro v471 w470 a469 ⟨hr472, hg473⟩ h469
       have hr472' : w470.ownsRow w.heap.size 37 4 v471 ((Lk ++ [(EntT.mk y38.client y38.req u440 [] y38.ts)]).length) ((Lk ++ [(EntT.mk y38.client y38.req u440 [] y38.ts)]).flatMap entE) := row_push (y := (EntT.mk y38.client y38.req u440 [] y38.ts)) hr472 rfl rfl; clear hr472
       have hz477 := hg473.size
       refine pk0 (v := v471) h469 rfl fun a478 h478 => ?_; clear h469
       refine pl_nil ?_
       refine co_blockN ?_
       refine co_then ?_
       refine co_reg ?_
       refine pk (v := .int .i64 ((j + 1 : Nat) : Int)) h478 rfl (rn_arith' rfl rfl rfl rfl rfl rfl (IntWalk.i64_in _ (by omega)) (by omega)) fun a479 h479 => ?_; clear h478
       refine pk0 (v := .int .i64 ((j + 1 : Nat) : Int)) h479 rfl fun a480 h480 => ?_; clear h479
       refine pl_nil ?_
       refine co_then ?_
       refine ⟨(l.length - (j + 1)), by omega, ?_⟩
       have hI481 := hI406.kept (below_grown hb442) (by simp)
       have hI482 := hI481.kept hg451 (by simp; omega)
       have hI483 := hI482.kept hg459 (by simp)
       have hI484 := hI483.kept hg473 (hI483.row hr475)
       have hB485 := hb_call hB398 hb442
       have hB486 := hb_at hB485 hg451 (by omega)
       have hB487 := hb_new hB486 hg459
       have hB488 := hb_row hB487 hr475 (by omega) hg473
       exact ⟨j + 1, y38.ts, v471, (Lk ++ [(EntT.mk y38.client y38.req u440 [] y38.ts)]), h480.sub ⟨rfl, rfl, rfl, rfl, rfl, rfl, rfl, trivial⟩, rfl, by omega, by first | rfl | (simp only [List.length_append, List.length_cons, List.length_nil]; omega), by omega, (hI484.eq (tw_step hy38)), (row_eq hr472' (rfl)), hB488⟩

theorem awAdd_any (v : Value) (L3 : List EntT) (h3 : L3 = aw3) (w : World) (hs : SliceOf entE 4 w v L3) : Calls Try.prog 26 #[.slice none 0 0, v, .int .i64 9] w fun e w' => ∃ (L2 : List EntT) (u : Value), e = .returned (.tuple #[u, .int .i64 0]) ∧ w'.ownsRow w.heap.size 37 4 u L2.length (L2.flatMap entE) ∧ L2 = awL ∧ Below w.heap.size w w' := by
  have hl : L3.length = 3 := by rw [h3]; rfl
  refine (addOk_any (.slice none 0 0) [] v L3 9 w (SliceOf.nil _ _ _) (fun z hz => by cases hz) hs (by rw [h3]; exact aw3_ok w) (fun z hz => by cases hz) (by simp) (by omega) (by omega) (by rw [com_nilL]; simp)).mono ?_
  rintro e x ⟨L2, W2, u, rfl, h1, h2, h4, h5, h6⟩
  exact ⟨L2, u, rfl, h1, aw_w2 h4 h5 (aw3_k h3), h6⟩

set_option maxRecDepth 100000 in
theorem awake37  (w : World)  :
    Calls Try.prog 25 #[] w fun e w' => e = .returned (.bool true) ∧ Below w.heap.size w w' := by
 obtain ⟨A3, hA3⟩ : ∃ L : List EntT, L = aw3 := ⟨_, rfl⟩
 obtain ⟨DS, hDS⟩ : ∃ L : List (Int × Int), L = [(1, 0), (2, 3)] := ⟨_, rfl⟩
 have hB0 := Below.refl w.heap.size w
 refine co_enter (n := 48) Try.func25 rfl rfl rfl [] rfl (fun a h0 => ?_)
 refine co_seq ?_
 refine co_reg ?_
 refine pk0 (v := .bool false) h0 rfl fun a1 h1 => ?_; clear h0
 refine pl_nil ?_
 refine co_then ?_
 refine co_seq ?_
 refine co_reg ?_
 refine pk0 (v := .agg #[.int .i64 0, .int .i64 1, .slice none 0 0]) h1 rfl fun a2 h2 => ?_; clear h1
 refine pk0 (v := .agg #[.int .i64 0, .int .i64 1, .slice none 0 0, .int .u64 3]) h2 rfl fun a3 h3 => ?_; clear h2
 refine pk0 (v := .agg #[.int .i64 0, .int .i64 2, .slice none 0 0]) h3 rfl fun a4 h4 => ?_; clear h3
 refine pk0 (v := .agg #[.int .i64 0, .int .i64 2, .slice none 0 0, .int .u64 5]) h4 rfl fun a5 h5 => ?_; clear h4
 refine pk0 (v := .agg #[.int .i64 0, .int .i64 3, .slice none 0 0]) h5 rfl fun a6 h6 => ?_; clear h5
 refine pk0 (v := .agg #[.int .i64 0, .int .i64 3, .slice none 0 0, .int .u64 0]) h6 rfl fun a7 h7 => ?_; clear h6
 refine pw h7 rfl (op_new (v := fun N => .slice (some ⟨N, 0, none⟩) 3 3) (T := 37) (cs := #[.int .i64 0, .int .i64 1, .slice none 0 0, .int .u64 3, .int .i64 0, .int .i64 2, .slice none 0 0, .int .u64 5, .int .i64 0, .int .i64 3, .slice none 0 0, .int .u64 0]) (by kernel_rfl) (by kernel_rfl) (by kernel_rfl)) ?_; clear h7
 rintro _ w9 a8 ⟨N10, rfl, hN13, hz14, hk12, hg11⟩ h8
 have hz15 := hg11.size
 try dsimp only at h8
 have hr18 : w9.ownsRow N10 37 4 (.slice (some ⟨N10, 0, none⟩) 3 3) A3.length (A3.flatMap entE) := by rw [hA3]; exact row_of_cells (enc := entE) (sz := 4) ([EntT.mk 0 1 (.slice none 0 0) [] 3, EntT.mk 0 2 (.slice none 0 0) [] 5, EntT.mk 0 3 (.slice none 0 0) [] 0] : List EntT) hk12 (Nat.le_refl _) rfl rfl (by unfold maxLen; simp)
 have hB19 := hb_new hB0 hg11
 refine pw h8 rfl (op_call (args := #[.slice none 0 0, .slice (some ⟨N10, 0, none⟩) 3 3, .int .i64 9]) (R := fun res xw => ∃ (L2 : List EntT) (u : Value), res = .tuple #[u, .int .i64 0] ∧ xw.ownsRow w9.heap.size 37 4 u L2.length (L2.flatMap entE) ∧ L2 = awL ∧ Below w9.heap.size w9 xw) rfl rfl rfl (by kernel_rfl) (by kernel_rfl) (Try.call26 _ _) (awAdd_any (.slice (some ⟨N10, 0, none⟩) 3 3) A3 hA3 w9 (row_sl hr18 entE_len)) (by rintro e x ⟨L2, u, h0, h⟩; exact ⟨_, h0, L2, u, rfl, h⟩)) ?_; clear h8
 rintro _ w17 a16 ⟨L21, u20, rfl, hr22, hL25, hb24⟩ h16
 have hz26 := hb24.size
 have hl27 : L21.length = 2 := by rw [hL25]; rfl
 refine pk0 (v := .tuple #[u20, .int .i64 0]) h16 rfl fun a28 h28 => ?_; clear h16
 refine pk0 (v := u20) h28 rfl fun a29 h29 => ?_; clear h28
 refine pk0 (v := .int .i64 0) h29 rfl fun a30 h30 => ?_; clear h29
 refine pk0 (v := u20) h30 rfl fun a31 h31 => ?_; clear h30
 refine pk0 (v := .int .i64 0) h31 rfl fun a32 h32 => ?_; clear h31
 refine pl_nil ?_
 refine co_then ?_
 refine co_seq ?_
 refine co_reg ?_
 refine pk0 (v := u20) h32 rfl fun a33 h33 => ?_; clear h32
 refine pk0 (v := .agg #[.int .i64 0, .int .i64 1, .int .i64 0, .int .i64 0, .string (⟨#[]⟩), .string (⟨#[]⟩), .int .u64 0, .int .i64 0, .slice none 0 0, .int .i64 0, .int .i64 0, .int .i64 0, .int .i64 0, .int .u64 0, .int .i64 0, .slice none 0 0]) h33 rfl fun a34 h34 => ?_; clear h33
 refine pk0 (v := .agg #[.int .i64 3, .int .i64 0, .string (⟨#[]⟩), .string (⟨#[]⟩), .int .u64 0, .int .i64 0, .slice none 0 0]) h34 rfl fun a35 h35 => ?_; clear h34
 refine pk0 (v := .agg #[.int .i64 0, .int .i64 2, .int .i64 3, .int .i64 0, .string (⟨#[]⟩), .string (⟨#[]⟩), .int .u64 0, .int .i64 0, .slice none 0 0, .int .i64 0, .int .i64 0, .int .i64 0, .int .i64 0, .int .u64 0, .int .i64 0, .slice none 0 0]) h35 rfl fun a36 h36 => ?_; clear h35
 refine pw h36 rfl (op_new (v := fun N => .slice (some ⟨N, 0, none⟩) 2 2) (T := 104) (cs := #[.int .i64 0, .int .i64 1, .int .i64 0, .int .i64 0, .string (⟨#[]⟩), .string (⟨#[]⟩), .int .u64 0, .int .i64 0, .slice none 0 0, .int .i64 0, .int .i64 0, .int .i64 0, .int .i64 0, .int .u64 0, .int .i64 0, .slice none 0 0, .int .i64 0, .int .i64 2, .int .i64 3, .int .i64 0, .string (⟨#[]⟩), .string (⟨#[]⟩), .int .u64 0, .int .i64 0, .slice none 0 0, .int .i64 0, .int .i64 0, .int .i64 0, .int .i64 0, .int .u64 0, .int .i64 0, .slice none 0 0]) (by kernel_rfl) (by kernel_rfl) (by kernel_rfl)) ?_; clear h36
 rintro _ w38 a37 ⟨N39, rfl, hN42, hz43, hk41, hg40⟩ h37
 have hr45 := row_kept_new hr18 (below_grown hb24)
 have ha44 := row_fresh hr45 hN42
 have ha46 := row_fresh hr22 hN42
 have hz47 := hg40.size
 try dsimp only at h37
 have hr50 : w38.ownsRow N39 104 16 (.slice (some ⟨N39, 0, none⟩) 2 2) DS.length (DS.flatMap deedE) := by rw [hDS]; exact row_of_cells (enc := deedE) (sz := 16) ([(1, 0), (2, 3)] : List (Int × Int)) hk41 (Nat.le_refl _) rfl rfl (by unfold maxLen; simp)
 have hr51 := row_kept_new hr22 hg40
 refine pw h37 rfl (op_call (args := #[u20, .slice (some ⟨N39, 0, none⟩) 2 2]) (R := fun res xw => ∃ L2 : List EntT, ∃ u : Value, res = .tuple #[u, .int .i64 0] ∧ xw.ownsRow w38.heap.size 37 4 u L2.length (L2.flatMap entE) ∧ L2.length = 2 ∧ Below w38.heap.size w38 xw) rfl rfl rfl (by kernel_rfl) (by kernel_rfl) (Try.call53 _ _) (fillAw_any u20 L21 (.slice (some ⟨N39, 0, none⟩) 2 2) DS w38 (row_sl hr51 entE_len) (by rw [hL25]; exact awl_ok _) hL25 (row_sl hr50 deedE_len) hDS) (by rintro e x ⟨L2, u, rfl, hq54, hq55, hb56⟩; exact ⟨_, rfl, ⟨L2, u, rfl, hq54, hq55, hb56⟩⟩)) ?_; clear h37
 rintro _ w49 a48 ⟨L252, u53, rfl, hq54, hq55, hb56⟩ h48
 have hz57 := hb56.size
 have hl58 := sl_len (row_sl hq54 entE_len)
 refine pk0 (v := .tuple #[u53, .int .i64 0]) h48 rfl fun a59 h59 => ?_; clear h48
 refine pk0 (v := u53) h59 rfl fun a60 h60 => ?_; clear h59
 refine pk0 (v := .int .i64 0) h60 rfl fun a61 h61 => ?_; clear h60
 refine pk0 (v := u53) h61 rfl fun a62 h62 => ?_; clear h61
 refine pk0 (v := .int .i64 0) h62 rfl fun a63 h63 => ?_; clear h62
 refine pl_nil ?_
 refine co_then ?_
 refine co_seq ?_
 refine co_reg ?_
 refine pk0 (v := .int .i64 0) h63 rfl fun a64 h64 => ?_; clear h63
 refine pk0 (v := .bool ((0 : Int) == 0)) h64 rfl fun a65 h65 => ?_; clear h64
 refine pk0 (v := .bool ((0 : Int) == 0)) h65 rfl fun a66 h66 => ?_; clear h65
 have hc67 : ((0 : Int) == 0) = true := by first | (simp; done) | (simp; omega) | exact beq_false_of_ne (by omega) | exact beq_iff_eq.2 (by omega)
 rw [hc67] at h66; clear hc67
 refine pk0 (v := u20) h66 rfl fun a68 h68 => ?_; clear h66
 have hr69 := row_kept_new hr51 (below_grown hb56)
 refine pk (v := .int .i64 ((L21.length : Nat) : Int)) h68 rfl (rn_lenOwn rfl rfl Try.underlying29 hr69) fun a70 h70 => ?_; clear h68
 refine pk0 (v := .bool (((L21.length : Nat) : Int) == 2)) h70 rfl fun a71 h71 => ?_; clear h70
 refine pk0 (v := .bool (((L21.length : Nat) : Int) == 2)) h71 rfl fun a72 h72 => ?_; clear h71
 refine pk0 (v := .bool (((L21.length : Nat) : Int) == 2)) h72 rfl fun a73 h73 => ?_; clear h72
 have hc74 : (((L21.length : Nat) : Int) == 2) = true := by first | (simp; done) | (simp; omega) | exact beq_false_of_ne (by omega) | exact beq_iff_eq.2 (by omega)
 rw [hc74] at h73; clear hc74
 refine pk0 (v := .int .i64 0) h73 rfl fun a75 h75 => ?_; clear h73
 refine pk0 (v := .bool ((0 : Int) == 0)) h75 rfl fun a76 h76 => ?_; clear h75
 refine pk0 (v := .bool ((0 : Int) == 0)) h76 rfl fun a77 h77 => ?_; clear h76
 refine pk0 (v := .bool ((0 : Int) == 0)) h77 rfl fun a78 h78 => ?_; clear h77
 have hc79 : ((0 : Int) == 0) = true := by first | (simp; done) | (simp; omega) | exact beq_false_of_ne (by omega) | exact beq_iff_eq.2 (by omega)
 rw [hc79] at h78; clear hc79
 refine pk0 (v := u53) h78 rfl fun a80 h80 => ?_; clear h78
 refine pk (v := .int .i64 ((L252.length : Nat) : Int)) h80 rfl (rn_lenOwn rfl rfl Try.underlying29 hq54) fun a81 h81 => ?_; clear h80
 refine pk0 (v := .bool (((L252.length : Nat) : Int) == 2)) h81 rfl fun a82 h82 => ?_; clear h81
 refine pk0 (v := .bool (((L252.length : Nat) : Int) == 2)) h82 rfl fun a83 h83 => ?_; clear h82
 refine pk0 (v := .bool (((L252.length : Nat) : Int) == 2)) h83 rfl fun a84 h84 => ?_; clear h83
 have hc85 : (((L252.length : Nat) : Int) == 2) = true := by first | (simp; done) | (simp; omega) | exact beq_false_of_ne (by omega) | exact beq_iff_eq.2 (by omega)
 rw [hc85] at h84; clear hc85
 refine pk0 (v := u20) h84 rfl fun a86 h86 => ?_; clear h84
 refine pk0 (v := u20) h86 rfl fun a87 h87 => ?_; clear h86
 refine pk (v := subV u20 0 1 4) h87 rfl (rn_sliceTo rfl rfl rfl Try.underlying29 Try.sizeOf37 (row_sl hr69 entE_len) (by omega) (by omega)) fun a88 h88 => ?_; clear h87
 refine pw h88 rfl (op_call (args := #[u20, subV u20 0 1 4]) (R := fun res xw => res = .int .i64 7 ∧ Below w49.heap.size w49 xw) rfl rfl rfl (by kernel_rfl) (by kernel_rfl) (Try.call29 _ _) (holds_any u20 L21 (subV u20 0 1 4) (L21.take 1) w49 (row_sl hr69 entE_len) (by rw [hL25]; exact awl_ok _) (sl_take (row_sl hr69 entE_len) _ (by omega)) (fun z hz => by have := List.mem_of_mem_take hz; rw [hL25] at this; exact awl_ok _ z this)) (by rintro e x ⟨h0, h⟩; rw [hoE_7 (by rw [List.length_take]; omega)] at h0; exact ⟨_, h0, rfl, h⟩)) ?_; clear h88
 rintro _ w90 a89 ⟨rfl, hb91⟩ h89
 have hz92 := hb91.size
 refine pk0 (v := .bool ((7 : Int) == 7)) h89 rfl fun a93 h93 => ?_; clear h89
 refine pk0 (v := .bool ((7 : Int) == 7)) h93 rfl fun a94 h94 => ?_; clear h93
 refine pk0 (v := .bool ((7 : Int) == 7)) h94 rfl fun a95 h95 => ?_; clear h94
 refine pl_nil ?_
 refine co_then ?_
 refine wp_ret ?_
 refine co_ret1 h95 rfl rfl ?_
 have hB96 := hb_call hB19 hb24
 have hB97 := hb_new hB96 hg40
 have hB98 := hb_call hB97 hb56
 have hB99 := hb_call hB98 hb91
 exact ⟨rfl, hB99⟩
end Go.Proofs.Ytniojcnkjehflaa

/- catenalaw37: StoryGrows. Conditions: none. -/
namespace Go.Proofs.Ytniojcnkjehflaa
open Go.RowKit Go.PlainAid
set_option linter.unusedVariables false
set_option linter.unusedSimpArgs false


theorem fold_nnG : ∀ (l : List EntT) (m : Int), m ≤ l.foldl (fun n e => n + (e.opl.length : Int)) m
  | [], m => Int.le_refl _
  | e :: r, m => by
    rw [List.foldl_cons]
    have := fold_nnG r (m + (e.opl.length : Int)); omega
theorem much_100 {l : List EntT} (h : ¬ muchN l > 100) : l.length ≤ 100 := by
  have hs : 0 ≤ sumN (l.take 200) := fold_nnG _ 0
  unfold muchN at h; omega
theorem sum_geG : ∀ (l : List EntT) (m : Int), ∀ z ∈ l, m + (z.opl.length : Int) ≤ l.foldl (fun n e => n + (e.opl.length : Int)) m
  | [], m, z, hz => by cases hz
  | e :: r, m, z, hz => by
    simp only [List.foldl_cons]
    rcases List.mem_cons.1 hz with rfl | hz
    · exact fold_nnG r _
    · have := sum_geG r (m + (e.opl.length : Int)) z hz; omega
theorem much_ops100 {l : List EntT} (h : ¬ muchN l > 100) : ∀ z ∈ l, z.opl.length ≤ 100 := fun z hz => by
  have hl := much_100 h
  have h2 : muchN l = (l.length : Int) + sumN (l.take 200) := rfl
  rw [List.take_of_length_le (by omega)] at h2
  have h3 : (0 : Int) + (z.opl.length : Int) ≤ sumN l := sum_geG l 0 z hz
  omega
theorem okE_take {w : World} {l : List EntT} {k : Nat} (h : ∀ z ∈ l, EntOk w z) : ∀ z ∈ l.take k, EntOk w z := fun z hz => h z (List.mem_of_mem_take hz)
theorem addL_e0 {W l K : List EntT} (h : W.map e0 = l.map e0) : (addL W K).map e0 = (addL l K).map e0 := by
  unfold addL; rw [List.map_append, List.map_append, h, e0_len h]
theorem ok_e0len {L : List EntT} {w : World} {S : Nat → Prop} {n : Nat} (h : EntsH S n w L) : ∀ z ∈ L, z.opl.length ≤ 100 := fun z hz => (h z hz).len

set_option maxRecDepth 100000 in
set_option maxHeartbeats 3200000 in
theorem storyGrows_any (v : Value) (l : List EntT) (v2 : Value) (l2 : List EntT) (sb : Int) (w : World) (hs : SliceOf entE 4 w v l) (hok : ∀ z ∈ l, EntOkS w z) (hlA : l.length ≤ 2932031007403) (hs2 : SliceOf entE 4 w v2 l2) (hok2 : ∀ z ∈ l2, EntOkS w z) (hlB : l2.length ≤ 2932031007403) (hsb : -9223372036854775808 ≤ sb ∧ sb ≤ 9223372036854775807) :
    Calls Try.prog 5 #[v, v2, .int .i64 sb] w fun e w' => e = .returned (.bool true) ∧ Below w.heap.size w w' := by
 have hB0 := Below.refl w.heap.size w
 have hl_hs := sl_len hs
 have hl_hs2 := sl_len hs2
 by_cases hc : comN l (l2.take ((mnI (mxI sb 0) ((stN l2 : Nat) : Int)).toNat)) < min l.length (l2.take ((mnI (mxI sb 0) ((stN l2 : Nat) : Int)).toNat)).length
 · skip
   refine co_enter (n := 86) Try.func5 rfl rfl rfl [(0, v), (1, v2), (2, .int .i64 sb)] rfl (fun a h0 => ?_)
   refine co_seq ?_
   refine co_reg ?_
   refine pk0 (v := .bool false) h0 rfl fun a1 h1 => ?_; clear h0
   refine pl_nil ?_
   refine co_then ?_
   refine co_seq ?_
   refine co_seq ?_
   refine co_reg ?_
   refine pk0 (v := v) h1 rfl fun a2 h2 => ?_; clear h1
   refine pw h2 rfl (op_call (args := #[v]) (R := fun res xw => res = .int .i64 (muchN l) ∧ Below w.heap.size w xw) rfl rfl rfl (by kernel_rfl) (by kernel_rfl) (Try.call15 _ _) (much_any v l w (hs.below hB0) (fun z hz => ⟨(hok z hz).1.below hB0, (hok z hz).2⟩) hlA) (by rintro e x ⟨rfl, h⟩; exact ⟨_, rfl, rfl, h⟩)) ?_; clear h2
   rintro _ w4 a3 ⟨rfl, hb5⟩ h3
   have hz6 := hb5.size
   refine pk0 (v := .bool (decide (muchN l > 100))) h3 rfl fun a7 h7 => ?_; clear h3
   refine pk0 (v := .bool (decide (muchN l > 100))) h7 rfl fun a8 h8 => ?_; clear h7
   have hB10 := hb_call hB0 hb5
   cases hc9 : (decide (muchN l > 100))
   ·
    rw [hc9] at h8
    have hp11 : ¬ (muchN l > 100) := of_decide_eq_false hc9
    clear hc9
    refine pk0 (v := v2) h8 rfl fun a12 h12 => ?_; clear h8
    refine pw h12 rfl (op_call (args := #[v2]) (R := fun res xw => res = .int .i64 (muchN l2) ∧ Below w4.heap.size w4 xw) rfl rfl rfl (by kernel_rfl) (by kernel_rfl) (Try.call15 _ _) (much_any v2 l2 w4 (hs2.below hB10) (fun z hz => ⟨(hok2 z hz).1.below hB10, (hok2 z hz).2⟩) hlB) (by rintro e x ⟨rfl, h⟩; exact ⟨_, rfl, rfl, h⟩)) ?_; clear h12
    rintro _ w14 a13 ⟨rfl, hb15⟩ h13
    have hz16 := hb15.size
    refine pk0 (v := .bool (decide (muchN l2 > 100))) h13 rfl fun a17 h17 => ?_; clear h13
    refine pk0 (v := .bool (decide (muchN l2 > 100))) h17 rfl fun a18 h18 => ?_; clear h17
    refine pl_nil ?_
    refine co_then ?_
    have hB20 := hb_call hB10 hb15
    cases hc19 : (decide (muchN l2 > 100))
    ·
     rw [hc19] at h18
     have hp21 : ¬ (muchN l2 > 100) := of_decide_eq_false hc19
     clear hc19
     refine co_false h18 rfl ?_
     refine wp_skip ?_
     refine co_then ?_
     refine co_seq ?_
     refine co_reg ?_
     refine pk0 (v := v) h18 rfl fun a22 h22 => ?_; clear h18
     refine pk0 (v := v2) h22 rfl fun a23 h23 => ?_; clear h22
     refine pk0 (v := .int .i64 sb) h23 rfl fun a24 h24 => ?_; clear h23
     have hl100A := much_100 (l := l) (by omega); have ho100A := much_ops100 (l := l) (by omega)
     have hl100B := much_100 (l := l2) (by omega); have ho100B := much_ops100 (l := l2) (by omega)
     refine pw h24 rfl (op_call (args := #[v, v2, .int .i64 sb]) (R := fun res xw => res = .tuple #[.slice none 0 0, .int .i64 18] ∧ Below w14.heap.size w14 xw) rfl rfl rfl (by kernel_rfl) (by kernel_rfl) (Try.call26 _ _) (addNo_any v l v2 l2 sb w14 (hs.below hB20) (fun z hz => (hok z hz).1.below hB20) (hs2.below hB20) (fun z hz => (hok2 z hz).1.below hB20) ho100A (by omega) (by omega) (by omega) hc) (by rintro e x ⟨rfl, h⟩; exact ⟨_, rfl, rfl, h⟩)) ?_; clear h24
     rintro _ w26 a25 ⟨rfl, hb27⟩ h25
     have hz28 := hb27.size
     refine pk0 (v := .tuple #[.slice none 0 0, .int .i64 18]) h25 rfl fun a29 h29 => ?_; clear h25
     refine pk0 (v := .slice none 0 0) h29 rfl fun a30 h30 => ?_; clear h29
     refine pk0 (v := .int .i64 18) h30 rfl fun a31 h31 => ?_; clear h30
     refine pk0 (v := .slice none 0 0) h31 rfl fun a32 h32 => ?_; clear h31
     refine pk0 (v := .int .i64 18) h32 rfl fun a33 h33 => ?_; clear h32
     refine pl_nil ?_
     refine co_then ?_
     refine co_seq ?_
     refine co_seq ?_
     refine co_reg ?_
     refine pk0 (v := .int .i64 18) h33 rfl fun a34 h34 => ?_; clear h33
     refine pk0 (v := .bool ((18 : Int) != 0)) h34 rfl fun a35 h35 => ?_; clear h34
     refine pl_nil ?_
     refine co_then ?_
     have hc36 : ((18 : Int) != 0) = true := by first | (simp; done) | (simp; omega) | exact beq_false_of_ne (by omega) | exact beq_iff_eq.2 (by omega)
     rw [hc36] at h35; clear hc36
     refine co_true h35 rfl ?_
     refine co_seq ?_
     refine co_reg ?_
     refine pk0 (v := .slice none 0 0) h35 rfl fun a37 h37 => ?_; clear h35
     refine pk0 (v := .int .i64 0) h37 rfl fun a38 h38 => ?_; clear h37
     refine pk0 (v := .bool ((0 : Int) == 0)) h38 rfl fun a39 h39 => ?_; clear h38
     refine pk0 (v := .bool ((0 : Int) == 0)) h39 rfl fun a40 h40 => ?_; clear h39
     have hc41 : ((0 : Int) == 0) = true := by first | (simp; done) | (simp; omega) | exact beq_false_of_ne (by omega) | exact beq_iff_eq.2 (by omega)
     rw [hc41] at h40; clear hc41
     refine pk0 (v := .int .i64 18) h40 rfl fun a42 h42 => ?_; clear h40
     refine pk0 (v := .bool ((18 : Int) == 18)) h42 rfl fun a43 h43 => ?_; clear h42
     refine pk0 (v := .bool ((18 : Int) == 18)) h43 rfl fun a44 h44 => ?_; clear h43
     refine pk0 (v := .bool ((18 : Int) == 18)) h44 rfl fun a45 h45 => ?_; clear h44
     have hc46 : ((18 : Int) == 18) = true := by first | (simp; done) | (simp; omega) | exact beq_false_of_ne (by omega) | exact beq_iff_eq.2 (by omega)
     rw [hc46] at h45; clear hc46
     have hB49 := hb_call hB20 hb27
     refine pw h45 rfl (op_call (args := #[]) (R := fun res xw => res = .bool true ∧ Below w26.heap.size w26 xw) rfl rfl rfl (by kernel_rfl) (by kernel_rfl) (Try.call25 _ _) (awake37 w26) (by rintro e x ⟨rfl, h⟩; exact ⟨_, rfl, rfl, h⟩)) ?_; clear h45
     rintro _ w48 a47 ⟨rfl, hb50⟩ h47
     have hz51 := hb50.size
     refine pk0 (v := .bool true) h47 rfl fun a52 h52 => ?_; clear h47
     refine pk0 (v := .bool true) h52 rfl fun a53 h53 => ?_; clear h52
     refine pl_nil ?_
     refine co_then ?_
     refine wp_ret ?_
     refine co_thenR ?_
     refine co_ret1 h53 rfl rfl ?_
     have hB54 := hb_call hB49 hb50
     exact ⟨rfl, hB54⟩
    ·
     rw [hc19] at h18
     have hp55 : muchN l2 > 100 := of_decide_eq_true hc19
     clear hc19
     refine co_true h18 rfl ?_
     refine co_seq ?_
     refine co_reg ?_
     refine pw h18 rfl (op_call (args := #[]) (R := fun res xw => res = .bool true ∧ Below w14.heap.size w14 xw) rfl rfl rfl (by kernel_rfl) (by kernel_rfl) (Try.call25 _ _) (awake37 w14) (by rintro e x ⟨rfl, h⟩; exact ⟨_, rfl, rfl, h⟩)) ?_; clear h18
     rintro _ w57 a56 ⟨rfl, hb58⟩ h56
     have hz59 := hb58.size
     refine pk0 (v := .bool true) h56 rfl fun a60 h60 => ?_; clear h56
     refine pl_nil ?_
     refine co_then ?_
     refine wp_ret ?_
     refine co_thenR ?_
     refine co_ret1 h60 rfl rfl ?_
     have hB61 := hb_call hB20 hb58
     exact ⟨rfl, hB61⟩
   ·
    rw [hc9] at h8
    have hp62 : muchN l > 100 := of_decide_eq_true hc9
    clear hc9
    refine psk h8 rfl fun a63 h63 => ?_; clear h8
    refine psk h63 rfl fun a64 h64 => ?_; clear h63
    refine psk h64 rfl fun a65 h65 => ?_; clear h64
    refine pk0 (v := .bool true) h65 rfl fun a66 h66 => ?_; clear h65
    refine pl_nil ?_
    refine co_then ?_
    refine co_true h66 rfl ?_
    refine co_seq ?_
    refine co_reg ?_
    refine pw h66 rfl (op_call (args := #[]) (R := fun res xw => res = .bool true ∧ Below w4.heap.size w4 xw) rfl rfl rfl (by kernel_rfl) (by kernel_rfl) (Try.call25 _ _) (awake37 w4) (by rintro e x ⟨rfl, h⟩; exact ⟨_, rfl, rfl, h⟩)) ?_; clear h66
    rintro _ w68 a67 ⟨rfl, hb69⟩ h67
    have hz70 := hb69.size
    refine pk0 (v := .bool true) h67 rfl fun a71 h71 => ?_; clear h67
    refine pl_nil ?_
    refine co_then ?_
    refine wp_ret ?_
    refine co_thenR ?_
    refine co_ret1 h71 rfl rfl ?_
    have hB72 := hb_call hB10 hb69
    exact ⟨rfl, hB72⟩
 · skip
   refine co_enter (n := 86) Try.func5 rfl rfl rfl [(0, v), (1, v2), (2, .int .i64 sb)] rfl (fun a h0 => ?_)
   refine co_seq ?_
   refine co_reg ?_
   refine pk0 (v := .bool false) h0 rfl fun a73 h73 => ?_; clear h0
   refine pl_nil ?_
   refine co_then ?_
   refine co_seq ?_
   refine co_seq ?_
   refine co_reg ?_
   refine pk0 (v := v) h73 rfl fun a74 h74 => ?_; clear h73
   refine pw h74 rfl (op_call (args := #[v]) (R := fun res xw => res = .int .i64 (muchN l) ∧ Below w.heap.size w xw) rfl rfl rfl (by kernel_rfl) (by kernel_rfl) (Try.call15 _ _) (much_any v l w (hs.below hB0) (fun z hz => ⟨(hok z hz).1.below hB0, (hok z hz).2⟩) hlA) (by rintro e x ⟨rfl, h⟩; exact ⟨_, rfl, rfl, h⟩)) ?_; clear h74
   rintro _ w76 a75 ⟨rfl, hb77⟩ h75
   have hz78 := hb77.size
   refine pk0 (v := .bool (decide (muchN l > 100))) h75 rfl fun a79 h79 => ?_; clear h75
   refine pk0 (v := .bool (decide (muchN l > 100))) h79 rfl fun a80 h80 => ?_; clear h79
   have hB82 := hb_call hB0 hb77
   cases hc81 : (decide (muchN l > 100))
   ·
    rw [hc81] at h80
    have hp83 : ¬ (muchN l > 100) := of_decide_eq_false hc81
    clear hc81
    refine pk0 (v := v2) h80 rfl fun a84 h84 => ?_; clear h80
    refine pw h84 rfl (op_call (args := #[v2]) (R := fun res xw => res = .int .i64 (muchN l2) ∧ Below w76.heap.size w76 xw) rfl rfl rfl (by kernel_rfl) (by kernel_rfl) (Try.call15 _ _) (much_any v2 l2 w76 (hs2.below hB82) (fun z hz => ⟨(hok2 z hz).1.below hB82, (hok2 z hz).2⟩) hlB) (by rintro e x ⟨rfl, h⟩; exact ⟨_, rfl, rfl, h⟩)) ?_; clear h84
    rintro _ w86 a85 ⟨rfl, hb87⟩ h85
    have hz88 := hb87.size
    refine pk0 (v := .bool (decide (muchN l2 > 100))) h85 rfl fun a89 h89 => ?_; clear h85
    refine pk0 (v := .bool (decide (muchN l2 > 100))) h89 rfl fun a90 h90 => ?_; clear h89
    refine pl_nil ?_
    refine co_then ?_
    have hB92 := hb_call hB82 hb87
    cases hc91 : (decide (muchN l2 > 100))
    ·
     rw [hc91] at h90
     have hp93 : ¬ (muchN l2 > 100) := of_decide_eq_false hc91
     clear hc91
     refine co_false h90 rfl ?_
     refine wp_skip ?_
     refine co_then ?_
     refine co_seq ?_
     refine co_reg ?_
     refine pk0 (v := v) h90 rfl fun a94 h94 => ?_; clear h90
     refine pk0 (v := v2) h94 rfl fun a95 h95 => ?_; clear h94
     refine pk0 (v := .int .i64 sb) h95 rfl fun a96 h96 => ?_; clear h95
     have hl100A := much_100 (l := l) (by omega); have ho100A := much_ops100 (l := l) (by omega)
     have hl100B := much_100 (l := l2) (by omega); have ho100B := much_ops100 (l := l2) (by omega)
     refine pw h96 rfl (op_call (args := #[v, v2, .int .i64 sb]) (R := fun res xw => ∃ (L2 W2 : List EntT) (u : Value), res = .tuple #[u, .int .i64 0] ∧ xw.ownsRow w86.heap.size 37 4 u L2.length (L2.flatMap entE) ∧ EntsH (fun _ => False) w86.heap.size xw L2 ∧ W2.map e0 = l.map e0 ∧ L2 = addL W2 (l2.take ((mnI (mxI sb 0) ((stN l2 : Nat) : Int)).toNat)) ∧ Below w86.heap.size w86 xw) rfl rfl rfl (by kernel_rfl) (by kernel_rfl) (Try.call26 _ _) (addOk_any v l v2 l2 sb w86 (hs.below hB92) (fun z hz => (hok z hz).1.below hB92) (hs2.below hB92) (fun z hz => (hok2 z hz).1.below hB92) ho100A (by omega) (by omega) (by omega) hc) (by rintro e x ⟨L2, W2, u, h0, h⟩; exact ⟨_, h0, L2, W2, u, rfl, h⟩)) ?_; clear h96
     rintro _ w98 a97 ⟨L100, W101, u99, rfl, hr102, hE103, he105, hL106, hb104⟩ h97
     have hz107 := hb104.size
     have hg1 : L100.map e0 = (addL l (l2.take ((mnI (mxI sb 0) ((stN l2 : Nat) : Int)).toNat))).map e0 := by rw [hL106]; exact addL_e0 he105
     have hgl : L100.length = max l.length (l2.take ((mnI (mxI sb 0) ((stN l2 : Nat) : Int)).toNat)).length := by rw [e0_len hg1, addL_len]
     have hgk : (l2.take ((mnI (mxI sb 0) ((stN l2 : Nat) : Int)).toNat)).length = (mnI (mxI sb 0) ((stN l2 : Nat) : Int)).toNat := by have hz1 := mxI_p sb 0; have hz2 := mnI_p (mxI sb 0) ((stN l2 : Nat) : Int); have hz3 := stN_le l2; rw [List.length_take]; omega
     have hgz := mxI_p sb 0; have hgy := mnI_p (mxI sb 0) ((stN l2 : Nat) : Int); have hgx := stN_le l2
     refine pk0 (v := .tuple #[u99, .int .i64 0]) h97 rfl fun a108 h108 => ?_; clear h97
     refine pk0 (v := u99) h108 rfl fun a109 h109 => ?_; clear h108
     refine pk0 (v := .int .i64 0) h109 rfl fun a110 h110 => ?_; clear h109
     refine pk0 (v := u99) h110 rfl fun a111 h111 => ?_; clear h110
     refine pk0 (v := .int .i64 0) h111 rfl fun a112 h112 => ?_; clear h111
     refine pl_nil ?_
     refine co_then ?_
     refine co_seq ?_
     refine co_seq ?_
     refine co_reg ?_
     refine pk0 (v := .int .i64 0) h112 rfl fun a113 h113 => ?_; clear h112
     refine pk0 (v := .bool ((0 : Int) != 0)) h113 rfl fun a114 h114 => ?_; clear h113
     refine pl_nil ?_
     refine co_then ?_
     have hc115 : ((0 : Int) != 0) = false := by first | (simp; done) | (simp; omega) | exact beq_false_of_ne (by omega) | exact beq_iff_eq.2 (by omega)
     rw [hc115] at h114; clear hc115
     refine co_false h114 rfl ?_
     refine wp_skip ?_
     refine co_then ?_
     refine co_seq ?_
     refine co_seq ?_
     refine co_reg ?_
     refine pk0 (v := u99) h114 rfl fun a116 h116 => ?_; clear h114
     refine pk (v := .int .i64 ((L100.length : Nat) : Int)) h116 rfl (rn_lenOwn rfl rfl Try.underlying29 hr102) fun a117 h117 => ?_; clear h116
     refine pk0 (v := v) h117 rfl fun a118 h118 => ?_; clear h117
     have hB119 := hb_call hB92 hb104
     refine pk (v := .int .i64 ((l.length : Nat) : Int)) h118 rfl (rn_len rfl rfl Try.underlying29 (hs.below hB119)) fun a120 h120 => ?_; clear h118
     refine pk0 (v := .bool (decide (((L100.length : Nat) : Int) < ((l.length : Nat) : Int)))) h120 rfl fun a121 h121 => ?_; clear h120
     refine pk0 (v := .bool (decide (((L100.length : Nat) : Int) < ((l.length : Nat) : Int)))) h121 rfl fun a122 h122 => ?_; clear h121
     have hc123 : (decide (((L100.length : Nat) : Int) < ((l.length : Nat) : Int))) = false := decide_eq_false (by omega)
     rw [hc123] at h122; clear hc123
     refine pk0 (v := u99) h122 rfl fun a124 h124 => ?_; clear h122
     refine pk0 (v := v) h124 rfl fun a125 h125 => ?_; clear h124
     refine pk (v := .int .i64 ((l.length : Nat) : Int)) h125 rfl (rn_len rfl rfl Try.underlying29 (hs.below hB119)) fun a126 h126 => ?_; clear h125
     refine pk (v := subV u99 0 l.length 4) h126 rfl (rn_sliceTo rfl rfl rfl Try.underlying29 Try.sizeOf37 (row_sl hr102 entE_len) (by omega) (by omega)) fun a127 h127 => ?_; clear h126
     refine pk0 (v := v) h127 rfl fun a128 h128 => ?_; clear h127
     refine pw h128 rfl (op_call (args := #[subV u99 0 l.length 4, v]) (R := fun res xw => res = .bool true ∧ Below w98.heap.size w98 xw) rfl rfl rfl (by kernel_rfl) (by kernel_rfl) (Try.call27 _ _) (sameAllE_any (subV u99 0 l.length 4) (L100.take l.length) v l w98 (sl_take (row_sl hr102 entE_len) _ (by omega)) (okE_take (entsH_got hE103)) (hs.below hB119) (fun z hz => (hok z hz).1.below hB119) (add_take hg1).2) (by rintro e x ⟨rfl, h⟩; exact ⟨_, rfl, rfl, h⟩)) ?_; clear h128
     rintro _ w130 a129 ⟨rfl, hb131⟩ h129
     have hz132 := hb131.size
     refine pk0 (v := .bool false) h129 rfl fun a133 h133 => ?_; clear h129
     refine pk0 (v := .bool false) h133 rfl fun a134 h134 => ?_; clear h133
     refine pl_nil ?_
     refine co_then ?_
     refine co_false h134 rfl ?_
     refine wp_skip ?_
     refine co_then ?_
     refine co_seq ?_
     refine co_reg ?_
     refine pk0 (v := u99) h134 rfl fun a135 h135 => ?_; clear h134
     refine pk0 (v := v2) h135 rfl fun a136 h136 => ?_; clear h135
     refine pk0 (v := .int .i64 sb) h136 rfl fun a137 h137 => ?_; clear h136
     have hB140 := hb_call hB119 hb131
     have hag := add_again (L := L100) hc hg1
     have hr149 := row_kept_new hr102 (below_grown hb131)
     have hE150 := hE103.new (below_grown hb131)
     refine pw h137 rfl (op_call (args := #[u99, v2, .int .i64 sb]) (R := fun res xw => ∃ (L2 W2 : List EntT) (u : Value), res = .tuple #[u, .int .i64 0] ∧ xw.ownsRow w130.heap.size 37 4 u L2.length (L2.flatMap entE) ∧ EntsH (fun _ => False) w130.heap.size xw L2 ∧ W2.map e0 = L100.map e0 ∧ L2 = addL W2 (l2.take ((mnI (mxI sb 0) ((stN l2 : Nat) : Int)).toNat)) ∧ Below w130.heap.size w130 xw) rfl rfl rfl (by kernel_rfl) (by kernel_rfl) (Try.call26 _ _) (addOk_any u99 L100 v2 l2 sb w130 (row_sl hr149 entE_len) (entsH_got hE150) (hs2.below hB140) (fun z hz => (hok2 z hz).1.below hB140) (ok_e0len hE150) (by omega) (by omega) (by omega) hag.1) (by rintro e x ⟨L2, W2, u, h0, h⟩; exact ⟨_, h0, L2, W2, u, rfl, h⟩)) ?_; clear h137
     rintro _ w139 a138 ⟨L142, W143, u141, rfl, hr144, hE145, he147, hL148, hb146⟩ h138
     have hz151 := hb146.size
     have hg2 : L142.map e0 = L100.map e0 := by rw [hL148, addL_e0 he147, hag.2]
     refine pk0 (v := .tuple #[u141, .int .i64 0]) h138 rfl fun a152 h152 => ?_; clear h138
     refine pk0 (v := u141) h152 rfl fun a153 h153 => ?_; clear h152
     refine pk0 (v := .int .i64 0) h153 rfl fun a154 h154 => ?_; clear h153
     refine pk0 (v := u141) h154 rfl fun a155 h155 => ?_; clear h154
     refine pk0 (v := .int .i64 0) h155 rfl fun a156 h156 => ?_; clear h155
     refine pl_nil ?_
     refine co_then ?_
     refine co_seq ?_
     refine co_reg ?_
     refine pk0 (v := u99) h156 rfl fun a157 h157 => ?_; clear h156
     have hr158 := row_kept_new hr149 (below_grown hb146)
     refine pk (v := .int .i64 ((L100.length : Nat) : Int)) h157 rfl (rn_lenOwn rfl rfl Try.underlying29 hr158) fun a159 h159 => ?_; clear h157
     refine pk0 (v := v2) h159 rfl fun a160 h160 => ?_; clear h159
     have hB163 := hb_call hB140 hb146
     refine pw h160 rfl (op_call (args := #[v2]) (R := fun res xw => res = .int .i64 ((stN l2 : Nat) : Int) ∧ Below w139.heap.size w139 xw) rfl rfl rfl (by kernel_rfl) (by kernel_rfl) (Try.call28 _ _) (ritemStamped_any v2 l2 w139 (hs2.below hB163) (fun z hz => (hok2 z hz).1.below hB163)) (by rintro e x ⟨rfl, h⟩; exact ⟨_, rfl, rfl, h⟩)) ?_; clear h160
     rintro _ w162 a161 ⟨rfl, hb164⟩ h161
     have hz165 := hb164.size
     refine pk0 (v := .int .i64 sb) h161 rfl fun a166 h166 => ?_; clear h161
     have hmm167 := mxI_p sb 0
     refine pk0 (v := .int .i64 (mxI sb 0)) h166 rfl fun a168 h168 => ?_; clear h166
     have hmm169 := mnI_p ((L100.length : Nat) : Int) ((stN l2 : Nat) : Int)
     have hmm170 := mnI_p (mnI ((L100.length : Nat) : Int) ((stN l2 : Nat) : Int)) (mxI sb 0)
     refine pk0 (v := .int .i64 (mnI (mnI ((L100.length : Nat) : Int) ((stN l2 : Nat) : Int)) (mxI sb 0))) h168 rfl fun a171 h171 => ?_; clear h168
     refine pk0 (v := .int .i64 (mnI (mnI ((L100.length : Nat) : Int) ((stN l2 : Nat) : Int)) (mxI sb 0))) h171 rfl fun a172 h172 => ?_; clear h171
     refine pl_nil ?_
     refine co_then ?_
     refine co_seq ?_
     refine co_reg ?_
     refine pk0 (v := .int .i64 0) h172 rfl fun a173 h173 => ?_; clear h172
     refine pk0 (v := .bool ((0 : Int) == 0)) h173 rfl fun a174 h174 => ?_; clear h173
     refine pk0 (v := .bool ((0 : Int) == 0)) h174 rfl fun a175 h175 => ?_; clear h174
     have hc176 : ((0 : Int) == 0) = true := by first | (simp; done) | (simp; omega) | exact beq_false_of_ne (by omega) | exact beq_iff_eq.2 (by omega)
     rw [hc176] at h175; clear hc176
     refine pk0 (v := u99) h175 rfl fun a177 h177 => ?_; clear h175
     refine pk0 (v := u141) h177 rfl fun a178 h178 => ?_; clear h177
     have hB181 := hb_call hB163 hb164
     have hE182 := hE150.new (below_grown hb146)
     have hE183 := hE182.new (below_grown hb164)
     have hr184 := row_kept_new hr158 (below_grown hb164)
     have hr185 := row_kept_new hr144 (below_grown hb164)
     have hE186 := hE145.new (below_grown hb164)
     refine pw h178 rfl (op_call (args := #[u99, u141]) (R := fun res xw => res = .bool true ∧ Below w162.heap.size w162 xw) rfl rfl rfl (by kernel_rfl) (by kernel_rfl) (Try.call27 _ _) (sameAllE_any u99 L100 u141 L142 w162 (row_sl hr184 entE_len) (entsH_got hE183) (row_sl hr185 entE_len) (entsH_got hE186) hg2.symm) (by rintro e x ⟨rfl, h⟩; exact ⟨_, rfl, rfl, h⟩)) ?_; clear h178
     rintro _ w180 a179 ⟨rfl, hb187⟩ h179
     have hz188 := hb187.size
     refine pk0 (v := .bool true) h179 rfl fun a189 h189 => ?_; clear h179
     refine pk0 (v := .bool true) h189 rfl fun a190 h190 => ?_; clear h189
     refine pk0 (v := u99) h190 rfl fun a191 h191 => ?_; clear h190
     refine pk0 (v := .int .i64 (mnI (mnI ((L100.length : Nat) : Int) ((stN l2 : Nat) : Int)) (mxI sb 0))) h191 rfl fun a192 h192 => ?_; clear h191
     have hr193 := row_kept_new hr184 (below_grown hb187)
     refine pk (v := subV u99 0 ((mnI (mnI ((L100.length : Nat) : Int) ((stN l2 : Nat) : Int)) (mxI sb 0)).toNat) 4) h192 rfl (rn_sliceTo rfl rfl rfl Try.underlying29 Try.sizeOf37 (row_sl hr193 entE_len) (by omega) (by omega)) fun a194 h194 => ?_; clear h192
     refine pk0 (v := v2) h194 rfl fun a195 h195 => ?_; clear h194
     have hB198 := hb_call hB181 hb187
     have hho := add_holds (n := ((mnI (mnI ((L100.length : Nat) : Int) ((stN l2 : Nat) : Int)) (mxI sb 0)).toNat)) (G := l2) rfl hc hg1 (by omega)
     have hE199 := hE183.new (below_grown hb187)
     refine pw h195 rfl (op_call (args := #[subV u99 0 ((mnI (mnI ((L100.length : Nat) : Int) ((stN l2 : Nat) : Int)) (mxI sb 0)).toNat) 4, v2]) (R := fun res xw => res = .int .i64 0 ∧ Below w180.heap.size w180 xw) rfl rfl rfl (by kernel_rfl) (by kernel_rfl) (Try.call29 _ _) (holds_any (subV u99 0 ((mnI (mnI ((L100.length : Nat) : Int) ((stN l2 : Nat) : Int)) (mxI sb 0)).toNat) 4) (L100.take ((mnI (mnI ((L100.length : Nat) : Int) ((stN l2 : Nat) : Int)) (mxI sb 0)).toNat)) v2 l2 w180 (sl_take (row_sl hr193 entE_len) _ (by omega)) (okE_take (entsH_got hE199)) (hs2.below hB198) (fun z hz => (hok2 z hz).1.below hB198)) (by rintro e x ⟨h0, h⟩; rw [hoE_0 (by omega) (by omega)] at h0; exact ⟨_, h0, rfl, h⟩)) ?_; clear h195
     rintro _ w197 a196 ⟨rfl, hb200⟩ h196
     have hz201 := hb200.size
     refine pk0 (v := .bool ((0 : Int) == 0)) h196 rfl fun a202 h202 => ?_; clear h196
     refine pk0 (v := .bool ((0 : Int) == 0)) h202 rfl fun a203 h203 => ?_; clear h202
     refine pk0 (v := .bool ((0 : Int) == 0)) h203 rfl fun a204 h204 => ?_; clear h203
     have hc205 : ((0 : Int) == 0) = true := by first | (simp; done) | (simp; omega) | exact beq_false_of_ne (by omega) | exact beq_iff_eq.2 (by omega)
     rw [hc205] at h204; clear hc205
     have hB208 := hb_call hB198 hb200
     have hr209 := row_kept_new hr185 (below_grown hb187)
     have hr210 := row_kept_new hr209 (below_grown hb200)
     have hE211 := hE186.new (below_grown hb187)
     have hE212 := hE211.new (below_grown hb200)
     refine pw h204 rfl (op_call (args := #[]) (R := fun res xw => res = .bool true ∧ Below w197.heap.size w197 xw) rfl rfl rfl (by kernel_rfl) (by kernel_rfl) (Try.call25 _ _) (awake37 w197) (by rintro e x ⟨rfl, h⟩; exact ⟨_, rfl, rfl, h⟩)) ?_; clear h204
     rintro _ w207 a206 ⟨rfl, hb213⟩ h206
     have hz214 := hb213.size
     refine pk0 (v := .bool true) h206 rfl fun a215 h215 => ?_; clear h206
     refine pk0 (v := .bool true) h215 rfl fun a216 h216 => ?_; clear h215
     refine pl_nil ?_
     refine co_then ?_
     refine wp_ret ?_
     refine co_ret1 h216 rfl rfl ?_
     have hB217 := hb_call hB208 hb213
     exact ⟨rfl, hB217⟩
    ·
     rw [hc91] at h90
     have hp218 : muchN l2 > 100 := of_decide_eq_true hc91
     clear hc91
     refine co_true h90 rfl ?_
     refine co_seq ?_
     refine co_reg ?_
     refine pw h90 rfl (op_call (args := #[]) (R := fun res xw => res = .bool true ∧ Below w86.heap.size w86 xw) rfl rfl rfl (by kernel_rfl) (by kernel_rfl) (Try.call25 _ _) (awake37 w86) (by rintro e x ⟨rfl, h⟩; exact ⟨_, rfl, rfl, h⟩)) ?_; clear h90
     rintro _ w220 a219 ⟨rfl, hb221⟩ h219
     have hz222 := hb221.size
     refine pk0 (v := .bool true) h219 rfl fun a223 h223 => ?_; clear h219
     refine pl_nil ?_
     refine co_then ?_
     refine wp_ret ?_
     refine co_thenR ?_
     refine co_ret1 h223 rfl rfl ?_
     have hB224 := hb_call hB92 hb221
     exact ⟨rfl, hB224⟩
   ·
    rw [hc81] at h80
    have hp225 : muchN l > 100 := of_decide_eq_true hc81
    clear hc81
    refine psk h80 rfl fun a226 h226 => ?_; clear h80
    refine psk h226 rfl fun a227 h227 => ?_; clear h226
    refine psk h227 rfl fun a228 h228 => ?_; clear h227
    refine pk0 (v := .bool true) h228 rfl fun a229 h229 => ?_; clear h228
    refine pl_nil ?_
    refine co_then ?_
    refine co_true h229 rfl ?_
    refine co_seq ?_
    refine co_reg ?_
    refine pw h229 rfl (op_call (args := #[]) (R := fun res xw => res = .bool true ∧ Below w76.heap.size w76 xw) rfl rfl rfl (by kernel_rfl) (by kernel_rfl) (Try.call25 _ _) (awake37 w76) (by rintro e x ⟨rfl, h⟩; exact ⟨_, rfl, rfl, h⟩)) ?_; clear h229
    rintro _ w231 a230 ⟨rfl, hb232⟩ h230
    have hz233 := hb232.size
    refine pk0 (v := .bool true) h230 rfl fun a234 h234 => ?_; clear h230
    refine pl_nil ?_
    refine co_then ?_
    refine wp_ret ?_
    refine co_thenR ?_
    refine co_ret1 h234 rfl rfl ?_
    have hB235 := hb_call hB82 hb232
    exact ⟨rfl, hB235⟩

theorem storyGrows_l (v : Value) (l : List EntT) (v2 : Value) (l2 : List EntT) (sb : Int) (w : World) (hs : SliceOf entE 4 w v l) (g : (∀ z ∈ l, EntOkS w z) ∧ l.length ≤ 2932031007403) (hs2 : SliceOf entE 4 w v2 l2) (g2 : (∀ z ∈ l2, EntOkS w z) ∧ l2.length ≤ 2932031007403) (h : (Lit.int .i64 sb).wf = true) :
    Calls Try.prog 5 #[v, v2, .int .i64 sb] w fun e w' => e = .returned (.bool true) ∧ Below w.heap.size w w' := storyGrows_any v l v2 l2 sb w hs g.1 g.2 hs2 g2.1 g2.2 (wf_i64 h)

end Go.Proofs.Ytniojcnkjehflaa
