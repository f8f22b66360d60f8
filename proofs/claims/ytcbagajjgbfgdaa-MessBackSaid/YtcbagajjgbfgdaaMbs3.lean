/- Put together: MessBMbq, MessCMbq, MessEMbq, MessFMbq, MessGMbq, WireVbMbq, EatsMbq, OpsDMbq, ItemPMbq, MessHMbq, MessIMbq. Conditions: as each says. -/
import Derived.Test.YtcbagajjgbfgdaaMbs2
import Derived.Test.YtcbagajjgbfgdaaMbs1
/- Package mess: Check. Conditions: none. -/
namespace Go.Proofs.Ytcbagajjgbfgdaa
open Go.RowKit Go.PlainAid
set_option linter.unusedVariables false


theorem byteAt_pstr {k : Int} {i : Nat} (h : i < (pstr k).size) : ∃ c, (ptL k)[i]? = some c ∧ byteAt (pstr k) i = ((c.toNat : Nat) : Int) := by
  have h' : i < (ptL k).length := by simpa [pstr, ByteArray.size] using h
  refine ⟨(ptL k)[i], List.getElem?_eq_getElem h', ?_⟩
  unfold byteAt pstr
  simp [h']
theorem pstr_len (k : Int) : (pstr k).size = (ptL k).length := by simp [pstr, ByteArray.size]
theorem ptL_all (k : Int) : (ptL k).all (fun c => decide (c.toNat < 128)) = true := by
  unfold ptL
  repeat' split
  all_goals rfl
theorem ptL_ascii (k : Int) : ∀ c ∈ ptL k, c.toNat < 128 := fun c hc => of_decide_eq_true (List.all_eq_true.1 (ptL_all k) c hc)
theorem pstr_ascii (k : Int) : Ascii (pstr k) := by
  intro i h
  have h' : i < (ptL k).length := by rw [← pstr_len]; exact h
  have e : (pstr k)[i]'h = ((ptL k).toArray)[i]'(by simpa using h') := rfl
  rw [e, List.getElem_toArray]
  exact ptL_ascii k _ (List.getElem_mem h')
def cP (d : MsgD) (c : UInt8) : Int := chkP d (c.toNat : Int)
def chkMg (d : MsgD) : Int := if 1 ≤ d.k ∧ d.k ≤ 15 then chkF (cP d) (ptL d.k) else 11
theorem cp_x {d : MsgD} {p : Int} (h : p = 120) : chkP d p = if d.e < 0 ∨ d.e > 21 then 1 else 0 := by unfold chkP; rw [if_pos h]
theorem cp_n {d : MsgD} {p : Int} (h : p = 101 ∨ p = 115 ∨ p = 113 ∨ p = 110 ∨ p = 109 ∨ p = 112) : chkP d p = if numP d p < 0 ∨ numP d p > 1073741824 then 5 else 0 := by unfold chkP; rw [if_neg (by omega), if_pos (show numL p from h)]
theorem nn {p : Int} (h : ¬ (p = 101 ∨ p = 115 ∨ p = 113 ∨ p = 110 ∨ p = 109 ∨ p = 112)) : ¬ numL p := h
theorem cp_k {d : MsgD} {p : Int} (h : p = 107) : chkP d p = if (d.key.size : Int) > 8 then 3 else 0 := by unfold chkP; rw [if_neg (by omega), if_neg (nn (by omega)), if_pos h]
theorem cp_t {d : MsgD} {p : Int} (h : p = 116) : chkP d p = if (d.to_.size : Int) > 8 then 3 else 0 := by unfold chkP; rw [if_neg (by omega), if_neg (nn (by omega)), if_neg (by omega), if_pos h]
theorem cp_C {d : MsgD} {p : Int} (h : p = 67) : chkP d p = chkC d.cep d.cms := by unfold chkP; rw [if_neg (by omega), if_neg (nn (by omega)), if_neg (by omega), if_neg (by omega), if_pos h]
theorem cp_B {d : MsgD} {p : Int} (h : p = 66) : chkP d p = chkB d.bc d.br d.bl := by unfold chkP; rw [if_neg (by omega), if_neg (nn (by omega)), if_neg (by omega), if_neg (by omega), if_neg (by omega), if_pos h]
theorem cp_L {d : MsgD} {p : Int} (h : p = 76) : chkP d p = chkLs 4 chkEn d.en := by unfold chkP; rw [if_neg (by omega), if_neg (nn (by omega)), if_neg (by omega), if_neg (by omega), if_neg (by omega), if_neg (by omega), if_pos h]
theorem cp_S {d : MsgD} {p : Int} (h : p = 83) : chkP d p = chkLs 8 chkSt d.st := by unfold chkP; rw [if_neg (by omega), if_neg (nn (by omega)), if_neg (by omega), if_neg (by omega), if_neg (by omega), if_neg (by omega), if_neg (by omega), if_pos h]
theorem cp_R {d : MsgD} {p : Int} (h : p = 82) : chkP d p = chkLs 32 chkPair d.pr := by unfold chkP; rw [if_neg (by omega), if_neg (nn (by omega)), if_neg (by omega), if_neg (by omega), if_neg (by omega), if_neg (by omega), if_neg (by omega), if_neg (by omega), if_pos h]
theorem cp_0 {d : MsgD} {p : Int} (h : ¬ (p = 120 ∨ (p = 101 ∨ p = 115 ∨ p = 113 ∨ p = 110 ∨ p = 109 ∨ p = 112) ∨ p = 107 ∨ p = 116 ∨ p = 67 ∨ p = 66 ∨ p = 76 ∨ p = 83 ∨ p = 82)) : chkP d p = 0 := by unfold chkP; rw [if_neg (by omega), if_neg (nn (by omega)), if_neg (by omega), if_neg (by omega), if_neg (by omega), if_neg (by omega), if_neg (by omega), if_neg (by omega), if_neg (by omega)]

set_option maxRecDepth 100000 in
theorem mListE_any (v : Value) (l : List EntT) (w : World) (hs : SliceOf entE 4 w v l) (hok : ∀ z ∈ l, EntOk w z) :
    Calls Try.prog 60 #[v, .int .i64 4, .func (.func 61) #[] #[]] w fun e w' => e = .returned (.int .i64 (chkLs 4 chkEn l)) ∧ Below w.heap.size w w' := by
 have hB0 := Below.refl w.heap.size w;have hl_hs := sl_len hs;refine co_enter (n := 27) Try.func60 rfl rfl rfl [(0, v), (1, .int .i64 4), (2, .func (.func 61) #[] #[])] rfl (fun a s => ?_);refine q2 ?_;refine pk0 (v := .int .i64 0) s rfl fun _ s => q6 ?_;refine pk0 (v := v) s rfl fun _ s => ?_;refine pk (v := .int .i64 (l.length : Int)) s rfl (rn_len rfl rfl Try.underlying30 hs) fun _ s => ?_;refine pk0 (v := .int .i64 4) s rfl fun _ s => ?_;refine pk0 (v := .bool (decide ((l.length : Int) > 4))) s rfl fun _ s => q1 ?_;cases hc6 : (decide ((l.length : Int) > 4))
 ·
  rw [hc6] at s;have hp7 : ¬ ((l.length : Int) > 4) := of_decide_eq_false hc6;refine co_false s rfl <| q8 ?_;refine pk0 (v := v) s rfl fun _ s => ?_;refine pk (v := .int .i64 (l.length : Int)) s rfl (rn_len rfl rfl Try.underlying30 hs) fun _ s => ?_;refine pk0 (v := .int .i64 0) s rfl fun _ s => q1 <| wp_block ?_;have s : Slots 27 [(0, v), (1, .int .i64 4), (2, .func (.func 61) #[] #[]), (6, .int .i64 0), (14, v), (15, .int .i64 (l.length : Int)), (16, .int .i64 0)] _ := s.sub ⟨rfl, rfl, rfl, rfl, rfl, rfl, rfl, trivial⟩;refine co_loop (fun mm a x => ∃ (i : Nat), Slots 27 [(0, v), (1, .int .i64 4), (2, .func (.func 61) #[] #[]), (6, .int .i64 0), (14, v), (15, .int .i64 (l.length : Int)), (16, .int .i64 (i : Int))] a ∧ mm = l.length - i ∧ (i ≤ l.length) ∧ (chkF chkEn (l.drop i) = chkF chkEn l) ∧ Below w.heap.size w x) (l.length - 0) ?_ ?_
  · exact ⟨0, s.sub ⟨rfl, rfl, rfl, rfl, rfl, rfl, (slot_eq rfl (congrArg (Value.int .i64) (by first | rfl | omega))), trivial⟩, rfl, by omega, by first | rfl | exact hL', hB0⟩
  · rintro k12 a13 w14 ⟨i, s, rfl, hi15, hi16, hB17⟩
    have hz18 := hB17.size;have hL : chkF chkEn (l.drop i) = chkF chkEn l := by assumption
    refine q2 ?_;refine pk0 (v := .bool (decide ((i : Int) < (l.length : Int)))) s rfl fun _ s => q1 <| co_seq ?_;cases hc20 : (decide ((i : Int) < (l.length : Int)))
    ·
     rw [hc20] at s;have hp21 : ¬ ((i : Int) < (l.length : Int)) := of_decide_eq_false hc20;refine co_false s rfl <| wp_exit <| co_thenX <| co_thenX <| qx <| q2 ?_;refine pk0 (v := .int .i64 0) s rfl fun _ s => q4 ?_;refine co_ret1 s rfl rfl ?_;exact ⟨ret_int (by unfold chkLs; rw [if_neg (by omega)]; exact cF_end (i := i) hL (by omega)), hB17⟩
    rw [hc20] at s;have hp23 : (i : Int) < (l.length : Int) := of_decide_eq_true hc20;refine co_true s rfl <| q0 <| co_seq <| wp_block <| q2 ?_;obtain ⟨y24, hy24⟩ : ∃ z, l[i]? = some z := ⟨_, List.getElem?_eq_getElem (by first | omega | (simp; done) | (simp; omega))⟩;have oky24 := hok _ (List.mem_of_getElem? hy24);have k25 : 0 ≤ y24.ts := oky24.ts0;have k26 : y24.ts < 18446744073709551616 := oky24.ts1;refine pk (v := pt (blkOf v) (offOf v + i * 4)) s rfl (rn_index rfl rfl rfl Try.underlying30 Try.sizeOf66 (hs.below hB17) (by omega) (by first | omega | (simp; done) | (simp; omega))) fun _ s => ?_;refine pk (v := .agg #[.int .i64 y24.client, .int .i64 y24.req, y24.ops, .int .u64 y24.ts]) s rfl (rn_loadN rfl rfl Try.underlying66 rfl (by kernel_rfl) (sl_at (hs.below hB17) hy24)) fun _ s => ?_;refine pw s rfl (op_new (v := fun N => pt N 0) (T := 66) (cs := #[.int .i64 0, .int .i64 0, .slice none 0 0, .int .u64 0]) (by kernel_rfl) (by kernel_rfl) (by kernel_rfl)) ?_;rintro _ w30 a29 ⟨N31, rfl, hN34, hz35, hk33, hg32⟩ s;have hz36 := hg32.size
    try dsimp only at s
    have hB42 := hb_new hB17 hg32;refine pwD s rfl (op_storeN rfl rfl rfl (all_cons rfl (all_cons rfl (all_cons (sl_one (oky24.ops.below hB42)) (all_cons rfl all_nil)))) (by kernel_rfl) hk33 rfl) ?_;rintro _ w38 a37 ⟨hk39, hz40, hg41⟩ s;have hk39' : Blk w38 N31 66 #[.int .i64 y24.client, .int .i64 y24.req, y24.ops, .int .u64 y24.ts] := hk39;have hz43 := hg41.size;refine q3 ?_;refine pk0 (v := .func (.func 61) #[] #[]) s rfl fun _ s => ?_;refine pk (v := .agg #[.int .i64 y24.client, .int .i64 y24.req, y24.ops, .int .u64 y24.ts]) s rfl (rn_loadN rfl rfl Try.underlying66 rfl (by kernel_rfl) hk39'.all) fun _ s => ?_;have hB48 := hb_at hB42 hg41 (by omega);refine pw s rfl (op_call (args := #[.agg #[.int .i64 y24.client, .int .i64 y24.req, y24.ops, .int .u64 y24.ts]]) (R := fun res xw => res = .int .i64 (chkB y24.client y24.req y24.opl) ∧ Below w38.heap.size w38 xw) rfl rfl rfl (by kernel_rfl) (by kernel_rfl) (Try.call61 _ _) (itemCheck_any y24.client y24.req y24.ops y24.opl y24.ts w38 (oky24.ops.below hB48)) (by rintro e x ⟨rfl, hb49⟩; exact ⟨_, rfl, ⟨rfl, hb49⟩⟩)) ?_;rintro _ w47 a46 ⟨rfl, hb49⟩ s;have hz50 := hb49.size;refine pk0 (v := .int .i64 (chkB y24.client y24.req y24.opl)) s rfl fun _ s => q3 ?_;refine pk0 (v := .int .i64 (chkB y24.client y24.req y24.opl)) s rfl fun _ s => ?_;refine pk0 (v := .bool (chkB y24.client y24.req y24.opl != 0)) s rfl fun _ s => q1 ?_;have hB55 := hb_call hB48 hb49;cases hc54 : (chkB y24.client y24.req y24.opl != 0)
    ·
     rw [hc54] at s;have hp56 : ¬ (chkB y24.client y24.req y24.opl ≠ 0) := by first | simpa using hc54 | simpa [and_assoc] using hc54
     refine co_false s rfl <| wp_skip <| co_blockN <| co_then <| co_reg ?_;refine pk (v := .int .i64 ((i + 1 : Nat) : Int)) s rfl (rn_arith' rfl rfl rfl rfl rfl rfl (IntWalk.i64_in _ (by omega)) (by omega)) fun _ s => ?_;refine pk0 (v := .int .i64 ((i + 1 : Nat) : Int)) s rfl fun _ s => q1 ?_;refine ⟨(l.length - (i + 1)), by omega, ?_⟩;have hL' := cF_step (f := chkEn) hL hy24 (by first | omega | (unfold chkEn; omega));exact ⟨i + 1, s.sub ⟨rfl, rfl, rfl, rfl, rfl, rfl, rfl, trivial⟩, rfl, by omega, by first | rfl | exact hL', hB55⟩
    rw [hc54] at s;have hp59 : chkB y24.client y24.req y24.opl ≠ 0 := by first | simpa using hc54 | simpa [and_assoc] using hc54
    refine co_true s rfl <| q2 ?_;refine pk0 (v := .int .i64 (chkB y24.client y24.req y24.opl)) s rfl fun _ s => ?_;refine pk0 (v := .int .i64 (chkB y24.client y24.req y24.opl)) s rfl fun _ s => q4 <| qr <| co_thenR <| qr ?_;refine co_ret1 s rfl rfl ?_;exact ⟨ret_int (by unfold chkLs; rw [if_neg (by omega)]; exact cF_bad (f := chkEn) (i := i) hL hy24 (by first | omega | (unfold chkEn; omega))), hB55⟩
 rw [hc6] at s;have hp62 : (l.length : Int) > 4 := of_decide_eq_true hc6;refine co_true s rfl <| q2 ?_;refine pk0 (v := .int .i64 6) s rfl fun _ s => q5 ?_;refine co_ret1 s rfl rfl ?_;exact ⟨ret_int (by unfold chkLs; rw [if_pos (by omega)]), hB0⟩
set_option maxRecDepth 100000 in
theorem mTextK_any (B : Nat) (p : Int) (w : World) (hp : p = 107) :
    Calls Try.prog 38 #[pt B 0, .int .i32 p] w fun e w' => e = .returned (pt B 11) ∧ Below w.heap.size w w' := by
 have hB0 := Below.refl w.heap.size w;refine co_enter (n := 13) Try.func38 rfl rfl rfl [(0, pt B 0), (1, .int .i32 p)] rfl (fun a s => ?_);refine q2 ?_;refine pk0 (v := .pointer none) s rfl fun _ s => q6 ?_;refine pk0 (v := .int .i32 p) s rfl fun _ s => ?_;refine pk0 (v := .bool (p == 107)) s rfl fun _ s => q1 ?_;have hc4 : (p == 107) = true := by first | (simp; done) | (simp; omega)
 rw [hc4] at s;refine co_true s rfl <| q2 ?_;refine pk0 (v := pt B 0) s rfl fun _ s => ?_;refine pk0 (v := pt B 0) s rfl fun _ s => ?_;refine pk0 (v := pt B 11) s rfl fun _ s => ?_;refine pk0 (v := pt B 11) s rfl fun _ s => q5 ?_;refine co_ret1 s rfl rfl ?_;exact ⟨rfl, hB0⟩
set_option maxRecDepth 100000 in
theorem mTextT_any (B : Nat) (p : Int) (w : World) (hp : p = 116) :
    Calls Try.prog 38 #[pt B 0, .int .i32 p] w fun e w' => e = .returned (pt B 12) ∧ Below w.heap.size w w' := by
 have hB0 := Below.refl w.heap.size w;refine co_enter (n := 13) Try.func38 rfl rfl rfl [(0, pt B 0), (1, .int .i32 p)] rfl (fun a s => ?_);refine q2 ?_;refine pk0 (v := .pointer none) s rfl fun _ s => q6 ?_;refine pk0 (v := .int .i32 p) s rfl fun _ s => ?_;refine pk0 (v := .bool (p == 107)) s rfl fun _ s => q1 ?_;have hc4 : (p == 107) = false := by first | (simp; done) | (simp; omega)
 rw [hc4] at s;refine co_false s rfl <| q7 ?_;refine pk0 (v := pt B 0) s rfl fun _ s => ?_;refine pk0 (v := pt B 0) s rfl fun _ s => ?_;refine pk0 (v := pt B 12) s rfl fun _ s => ?_;refine pk0 (v := pt B 12) s rfl fun _ s => q4 ?_;refine co_ret1 s rfl rfl ?_;exact ⟨rfl, hB0⟩
set_option maxRecDepth 100000 in
theorem mBigA_any (B : Nat) (p : Int) (w : World) (hp : p = 97) :
    Calls Try.prog 36 #[pt B 0, .int .i32 p] w fun e w' => e = .returned (pt B 5) ∧ Below w.heap.size w w' := by
 have hB0 := Below.refl w.heap.size w;refine co_enter (n := 13) Try.func36 rfl rfl rfl [(0, pt B 0), (1, .int .i32 p)] rfl (fun a s => ?_);refine q2 ?_;refine pk0 (v := .pointer none) s rfl fun _ s => q6 ?_;refine pk0 (v := .int .i32 p) s rfl fun _ s => ?_;refine pk0 (v := .bool (p == 97)) s rfl fun _ s => q1 ?_;have hc4 : (p == 97) = true := by first | (simp; done) | (simp; omega)
 rw [hc4] at s;refine co_true s rfl <| q2 ?_;refine pk0 (v := pt B 0) s rfl fun _ s => ?_;refine pk0 (v := pt B 0) s rfl fun _ s => ?_;refine pk0 (v := pt B 5) s rfl fun _ s => ?_;refine pk0 (v := pt B 5) s rfl fun _ s => q5 ?_;refine co_ret1 s rfl rfl ?_;exact ⟨rfl, hB0⟩
set_option maxRecDepth 100000 in
theorem mBigL_any (B : Nat) (p : Int) (w : World) (hp : p = 108) :
    Calls Try.prog 36 #[pt B 0, .int .i32 p] w fun e w' => e = .returned (pt B 6) ∧ Below w.heap.size w w' := by
 have hB0 := Below.refl w.heap.size w;refine co_enter (n := 13) Try.func36 rfl rfl rfl [(0, pt B 0), (1, .int .i32 p)] rfl (fun a s => ?_);refine q2 ?_;refine pk0 (v := .pointer none) s rfl fun _ s => q6 ?_;refine pk0 (v := .int .i32 p) s rfl fun _ s => ?_;refine pk0 (v := .bool (p == 97)) s rfl fun _ s => q1 ?_;have hc4 : (p == 97) = false := by first | (simp; done) | (simp; omega)
 rw [hc4] at s;refine co_false s rfl <| q7 ?_;refine pk0 (v := pt B 0) s rfl fun _ s => ?_;refine pk0 (v := pt B 0) s rfl fun _ s => ?_;refine pk0 (v := pt B 6) s rfl fun _ s => ?_;refine pk0 (v := pt B 6) s rfl fun _ s => q4 ?_;refine co_ret1 s rfl rfl ?_;exact ⟨rfl, hB0⟩
set_option maxRecDepth 100000 in
theorem mCheckP_any (B : Nat) (d : MsgD) (mv : Value) (bv : Value) (ev : Value) (sv : Value) (pv : Value) (p : Int) (w : World) (hB : Blk w B 34 #[.int .i64 d.k, .int .i64 d.ep, .int .i64 d.rq, .int .i64 d.sr, .bool d.fg, .int .u64 d.at_, .int .u64 d.la, .int .i64 d.n, .int .i64 d.m, .int .i64 d.p, .int .i64 d.e, .string d.key, .string d.to_, .int .i64 d.cep, mv, .int .u64 d.cfl, .int .i64 d.bc, .int .i64 d.br, bv, ev, sv, pv]) (hm : SliceOf memE 2 w mv d.cms) (hb : SliceOf opE 3 w bv d.bl) (he : SliceOf entE 4 w ev d.en) (ht : SliceOf (intE .u64) 1 w sv d.st) (hp : SliceOf prE 2 w pv d.pr) (hok : ∀ z ∈ d.en, EntOk w z) (hR : MsgR d) :
    Calls Try.prog 30 #[pt B 0, .int .i32 p] w fun e w' => e = .returned (.int .i64 (chkP d p)) ∧ Below w.heap.size w w' := by
 have hrng := hR.rng;have hnp := np_7 (d := d) (p := p);have hB0 := Below.refl w.heap.size w;have hl_hB := hB.lt;have hl_hm := sl_len hm;have hl_hb := sl_len hb;have hl_he := sl_len he;have hl_ht := sl_len ht;have hl_hp := sl_len hp;refine co_enter (n := 74) Try.func30 rfl rfl rfl [(0, pt B 0), (1, .int .i32 p)] rfl (fun a s => ?_);refine q2 ?_;refine pk0 (v := .int .i64 0) s rfl fun _ s => q3 ?_;refine pk0 (v := .int .i64 1073741824) s rfl fun _ s => ?_;refine pk0 (v := .int .i64 5) s rfl fun _ s => q6 ?_;refine pk0 (v := .int .i32 p) s rfl fun _ s => q1 <| wp_block <| co_seq <| wp_block <| co_seq <| wp_block <| co_seq <| wp_block <| co_seq <| wp_block <| co_seq <| wp_block <| co_seq <| wp_block <| co_seq <| wp_block <| co_seq <| wp_block <| co_seq <| q9 ?_;refine pk0 (v := .bool (p == 120)) s rfl fun _ s => ?_;refine pk0 (v := .bool (p == 120)) s rfl fun _ s => q1 ?_;cases hc7 : (p == 120)
 ·
  rw [hc7] at s;have hp8 : ¬ (p = 120) := by first | simpa using hc7 | simpa [and_assoc] using hc7
  refine co_false s rfl <| q0 <| co_seq <| q9 ?_;refine pk0 (v := .bool (p == 101)) s rfl fun _ s => ?_;refine pk0 (v := .bool (p == 101)) s rfl fun _ s => q1 ?_;cases hc11 : (p == 101)
  ·
   rw [hc11] at s;have hp12 : ¬ (p = 101) := by first | simpa using hc11 | simpa [and_assoc] using hc11
   refine co_false s rfl <| q2 ?_;refine pk0 (v := .bool (p == 115)) s rfl fun _ s => ?_;refine pk0 (v := .bool (p == 115)) s rfl fun _ s => q1 ?_;cases hc15 : (p == 115)
   ·
    rw [hc15] at s;have hp16 : ¬ (p = 115) := by first | simpa using hc15 | simpa [and_assoc] using hc15
    refine co_false s rfl <| q2 ?_;refine pk0 (v := .bool (p == 113)) s rfl fun _ s => ?_;refine pk0 (v := .bool (p == 113)) s rfl fun _ s => q1 ?_;cases hc19 : (p == 113)
    ·
     rw [hc19] at s;have hp20 : ¬ (p = 113) := by first | simpa using hc19 | simpa [and_assoc] using hc19
     refine co_false s rfl <| q2 ?_;refine pk0 (v := .bool (p == 110)) s rfl fun _ s => ?_;refine pk0 (v := .bool (p == 110)) s rfl fun _ s => q1 ?_;cases hc23 : (p == 110)
     ·
      rw [hc23] at s;have hp24 : ¬ (p = 110) := by first | simpa using hc23 | simpa [and_assoc] using hc23
      refine co_false s rfl <| q2 ?_;refine pk0 (v := .bool (p == 109)) s rfl fun _ s => ?_;refine pk0 (v := .bool (p == 109)) s rfl fun _ s => q1 ?_;cases hc27 : (p == 109)
      ·
       rw [hc27] at s;have hp28 : ¬ (p = 109) := by first | simpa using hc27 | simpa [and_assoc] using hc27
       refine co_false s rfl <| co_reg ?_;refine pk0 (v := .bool (p == 112)) s rfl fun _ s => ?_;refine pk0 (v := .bool (p == 112)) s rfl fun _ s => q1 ?_;cases hc31 : (p == 112)
       ·
        rw [hc31] at s;have hp32 : ¬ (p = 112) := by first | simpa using hc31 | simpa [and_assoc] using hc31
        refine co_false s rfl <| q0 <| co_seq <| q9 ?_;refine pk0 (v := .bool (p == 107)) s rfl fun _ s => ?_;refine pk0 (v := .bool (p == 107)) s rfl fun _ s => q1 ?_;cases hc35 : (p == 107)
        ·
         rw [hc35] at s;have hp36 : ¬ (p = 107) := by first | simpa using hc35 | simpa [and_assoc] using hc35
         refine co_false s rfl <| co_reg ?_;refine pk0 (v := .bool (p == 116)) s rfl fun _ s => ?_;refine pk0 (v := .bool (p == 116)) s rfl fun _ s => q1 ?_;cases hc39 : (p == 116)
         ·
          rw [hc39] at s;have hp40 : ¬ (p = 116) := by first | simpa using hc39 | simpa [and_assoc] using hc39
          refine co_false s rfl <| q8 ?_;refine pk0 (v := .bool (p == 67)) s rfl fun _ s => ?_;refine pk0 (v := .bool (p == 67)) s rfl fun _ s => q1 ?_;cases hc43 : (p == 67)
          ·
           rw [hc43] at s;have hp44 : ¬ (p = 67) := by first | simpa using hc43 | simpa [and_assoc] using hc43
           refine co_false s rfl <| q8 ?_;refine pk0 (v := .bool (p == 66)) s rfl fun _ s => ?_;refine pk0 (v := .bool (p == 66)) s rfl fun _ s => q1 ?_;cases hc47 : (p == 66)
           ·
            rw [hc47] at s;have hp48 : ¬ (p = 66) := by first | simpa using hc47 | simpa [and_assoc] using hc47
            refine co_false s rfl <| q8 ?_;refine pk0 (v := .bool (p == 76)) s rfl fun _ s => ?_;refine pk0 (v := .bool (p == 76)) s rfl fun _ s => q1 ?_;cases hc51 : (p == 76)
            ·
             rw [hc51] at s;have hp52 : ¬ (p = 76) := by first | simpa using hc51 | simpa [and_assoc] using hc51
             refine co_false s rfl <| q8 ?_;refine pk0 (v := .bool (p == 83)) s rfl fun _ s => ?_;refine pk0 (v := .bool (p == 83)) s rfl fun _ s => q1 ?_;cases hc55 : (p == 83)
             ·
              rw [hc55] at s;have hp56 : ¬ (p = 83) := by first | simpa using hc55 | simpa [and_assoc] using hc55
              refine co_false s rfl <| q7 ?_;refine pk0 (v := .bool (p == 82)) s rfl fun _ s => ?_;refine pk0 (v := .bool (p == 82)) s rfl fun _ s => q1 ?_;cases hc59 : (p == 82)
              ·
               rw [hc59] at s;have hp60 : ¬ (p = 82) := by first | simpa using hc59 | simpa [and_assoc] using hc59
               refine co_false s rfl <| q0 <| wp_exit ?_;refine co_blockY (by decide) ?_;refine co_thenX ?_;refine co_blockY (by decide) ?_;refine co_thenX ?_;refine co_blockY (by decide) ?_;refine co_thenX ?_;refine co_blockY (by decide) ?_;refine co_thenX ?_;refine co_blockY (by decide) ?_;refine co_thenX ?_;refine co_blockY (by decide) ?_;refine co_thenX ?_;refine co_blockY (by decide) ?_;refine co_thenX ?_;refine co_blockY (by decide) ?_;refine co_thenX <| qx <| q2 ?_;refine pk0 (v := .int .i64 0) s rfl fun _ s => q4 ?_;refine co_ret1 s rfl rfl ?_;exact ⟨ret_int (by rw [cp_0 (by omega)]), hB0⟩
              rw [hc59] at s;have hp62 : p = 82 := by first | simpa using hc59 | simpa [and_assoc] using hc59
              refine co_true s rfl <| wp_exit <| co_thenX ?_;refine co_blockY (by decide) ?_;refine co_thenX ?_;refine co_blockY (by decide) ?_;refine co_thenX ?_;refine co_blockY (by decide) ?_;refine co_thenX ?_;refine co_blockY (by decide) ?_;refine co_thenX ?_;refine co_blockY (by decide) ?_;refine co_thenX ?_;refine co_blockY (by decide) ?_;refine co_thenX ?_;refine co_blockY (by decide) ?_;refine co_thenX <| qx <| q9 ?_;refine pk0 (v := pt B 0) s rfl fun _ s => ?_;refine pk0 (v := pt B 0) s rfl fun _ s => ?_;refine pk0 (v := pt B 21) s rfl fun _ s => ?_;refine pk (v := pv) s rfl (rn_load1 rfl rfl Try.isAgg32 (hB.cell rfl)) fun _ s => ?_;refine pw s rfl (op_call (args := #[pv, .int .i64 32, .func (.func 65) #[] #[]]) (R := fun res xw => res = .int .i64 (chkLs 32 chkPair d.pr) ∧ Below w.heap.size w xw) rfl rfl rfl (by kernel_rfl) (by kernel_rfl) (Try.call64 _ _) (mListP_any pv d.pr w hp) (by rintro e x ⟨rfl, hb69⟩; exact ⟨_, rfl, ⟨rfl, hb69⟩⟩)) ?_;rintro _ w68 a67 ⟨rfl, hb69⟩ s;have hz70 := hb69.size;refine pk0 (v := .int .i64 (chkLs 32 chkPair d.pr)) s rfl fun _ s => q5 <| qr ?_;refine co_ret1 s rfl rfl ?_;have hB72 := hb_call hB0 hb69;exact ⟨ret_int (by rw [cp_R (by omega)]), hB72⟩
             rw [hc55] at s;have hp73 : p = 83 := by first | simpa using hc55 | simpa [and_assoc] using hc55
             refine co_true s rfl <| wp_exit <| co_thenX <| co_thenX ?_;refine co_blockY (by decide) ?_;refine co_thenX ?_;refine co_blockY (by decide) ?_;refine co_thenX ?_;refine co_blockY (by decide) ?_;refine co_thenX ?_;refine co_blockY (by decide) ?_;refine co_thenX ?_;refine co_blockY (by decide) ?_;refine co_thenX ?_;refine co_blockY (by decide) ?_;refine co_thenX <| qx <| q9 ?_;refine pk0 (v := pt B 0) s rfl fun _ s => ?_;refine pk0 (v := pt B 0) s rfl fun _ s => ?_;refine pk0 (v := pt B 20) s rfl fun _ s => ?_;refine pk (v := sv) s rfl (rn_load1 rfl rfl Try.isAgg31 (hB.cell rfl)) fun _ s => ?_;refine pw s rfl (op_call (args := #[sv, .int .i64 8, .func (.func 63) #[] #[]]) (R := fun res xw => res = .int .i64 (chkLs 8 chkSt d.st) ∧ Below w.heap.size w xw) rfl rfl rfl (by kernel_rfl) (by kernel_rfl) (Try.call62 _ _) (mListS_any sv d.st w ht (hR.st)) (by rintro e x ⟨rfl, hb80⟩; exact ⟨_, rfl, ⟨rfl, hb80⟩⟩)) ?_;rintro _ w79 a78 ⟨rfl, hb80⟩ s;have hz81 := hb80.size;refine pk0 (v := .int .i64 (chkLs 8 chkSt d.st)) s rfl fun _ s => q5 <| qr <| qr ?_;refine co_ret1 s rfl rfl ?_;have hB83 := hb_call hB0 hb80;exact ⟨ret_int (by rw [cp_S (by omega)]), hB83⟩
            rw [hc51] at s;have hp84 : p = 76 := by first | simpa using hc51 | simpa [and_assoc] using hc51
            refine co_true s rfl <| wp_exit <| co_thenX <| co_thenX ?_;refine co_blockY (by decide) ?_;refine co_thenX ?_;refine co_blockY (by decide) ?_;refine co_thenX ?_;refine co_blockY (by decide) ?_;refine co_thenX ?_;refine co_blockY (by decide) ?_;refine co_thenX ?_;refine co_blockY (by decide) ?_;refine co_thenX <| qx <| q9 ?_;refine pk0 (v := pt B 0) s rfl fun _ s => ?_;refine pk0 (v := pt B 0) s rfl fun _ s => ?_;refine pk0 (v := pt B 19) s rfl fun _ s => ?_;refine pk (v := ev) s rfl (rn_load1 rfl rfl Try.isAgg30 (hB.cell rfl)) fun _ s => ?_;refine pw s rfl (op_call (args := #[ev, .int .i64 4, .func (.func 61) #[] #[]]) (R := fun res xw => res = .int .i64 (chkLs 4 chkEn d.en) ∧ Below w.heap.size w xw) rfl rfl rfl (by kernel_rfl) (by kernel_rfl) (Try.call60 _ _) (mListE_any ev d.en w he hok) (by rintro e x ⟨rfl, hb91⟩; exact ⟨_, rfl, ⟨rfl, hb91⟩⟩)) ?_;rintro _ w90 a89 ⟨rfl, hb91⟩ s;have hz92 := hb91.size;refine pk0 (v := .int .i64 (chkLs 4 chkEn d.en)) s rfl fun _ s => q5 <| qr <| qr <| qr ?_;refine co_ret1 s rfl rfl ?_;have hB94 := hb_call hB0 hb91;exact ⟨ret_int (by rw [cp_L (by omega)]), hB94⟩
           rw [hc47] at s;have hp95 : p = 66 := by first | simpa using hc47 | simpa [and_assoc] using hc47
           refine co_true s rfl <| wp_exit <| co_thenX <| co_thenX ?_;refine co_blockY (by decide) ?_;refine co_thenX ?_;refine co_blockY (by decide) ?_;refine co_thenX ?_;refine co_blockY (by decide) ?_;refine co_thenX ?_;refine co_blockY (by decide) ?_;refine co_thenX <| qx <| q9 ?_;refine pk0 (v := pt B 0) s rfl fun _ s => ?_;refine pk0 (v := pt B 0) s rfl fun _ s => ?_;refine pk0 (v := pt B 16) s rfl fun _ s => ?_;refine pk (v := .agg #[.int .i64 d.bc, .int .i64 d.br, bv]) s rfl (rn_loadN rfl rfl Try.underlying29 rfl (by kernel_rfl) (blk_part hB 16 (by rfl))) fun _ s => ?_;refine pw s rfl (op_call (args := #[.agg #[.int .i64 d.bc, .int .i64 d.br, bv]]) (R := fun res xw => res = .int .i64 (chkB d.bc d.br d.bl) ∧ Below w.heap.size w xw) rfl rfl rfl (by kernel_rfl) (by kernel_rfl) (Try.call59 _ _) (opsCheck_any d.bc d.br bv d.bl w hb) (by rintro e x ⟨rfl, hb102⟩; exact ⟨_, rfl, ⟨rfl, hb102⟩⟩)) ?_;rintro _ w101 a100 ⟨rfl, hb102⟩ s;have hz103 := hb102.size;refine pk0 (v := .int .i64 (chkB d.bc d.br d.bl)) s rfl fun _ s => q5 <| qr <| qr <| qr <| qr ?_;refine co_ret1 s rfl rfl ?_;have hB105 := hb_call hB0 hb102;exact ⟨ret_int (by rw [cp_B (by omega)]), hB105⟩
          rw [hc43] at s;have hp106 : p = 67 := by first | simpa using hc43 | simpa [and_assoc] using hc43
          refine co_true s rfl <| wp_exit <| co_thenX <| co_thenX ?_;refine co_blockY (by decide) ?_;refine co_thenX ?_;refine co_blockY (by decide) ?_;refine co_thenX ?_;refine co_blockY (by decide) ?_;refine co_thenX <| qx <| q9 ?_;refine pk0 (v := pt B 0) s rfl fun _ s => ?_;refine pk0 (v := pt B 0) s rfl fun _ s => ?_;refine pk0 (v := pt B 13) s rfl fun _ s => ?_;refine pk (v := .agg #[.int .i64 d.cep, mv, .int .u64 d.cfl]) s rfl (rn_loadN rfl rfl Try.underlying26 rfl (by kernel_rfl) (blk_part hB 13 (by rfl))) fun _ s => ?_;refine pw s rfl (op_call (args := #[.agg #[.int .i64 d.cep, mv, .int .u64 d.cfl]]) (R := fun res xw => res = .int .i64 (chkC d.cep d.cms) ∧ Below w.heap.size w xw) rfl rfl rfl (by kernel_rfl) (by kernel_rfl) (Try.call58 _ _) (wcheck_any d.cep mv d.cms d.cfl w hm hR.mem (by omega) (by omega)) (by rintro e x ⟨rfl, hb113⟩; exact ⟨_, rfl, ⟨rfl, hb113⟩⟩)) ?_;rintro _ w112 a111 ⟨rfl, hb113⟩ s;have hz114 := hb113.size;refine pk0 (v := .int .i64 (chkC d.cep d.cms)) s rfl fun _ s => q5 <| qr <| qr <| qr <| qr <| qr ?_;refine co_ret1 s rfl rfl ?_;have hB116 := hb_call hB0 hb113;exact ⟨ret_int (by rw [cp_C (by omega)]), hB116⟩
         rw [hc39] at s;have hp117 : p = 116 := by first | simpa using hc39 | simpa [and_assoc] using hc39
         refine co_true s rfl <| wp_exit <| co_thenX <| co_thenX ?_;refine co_blockY (by decide) ?_;refine co_thenX ?_;refine co_blockY (by decide) ?_;refine co_thenX <| qx <| q9 ?_;refine pk0 (v := pt B 0) s rfl fun _ s => ?_;refine pk0 (v := .int .i32 p) s rfl fun _ s => ?_;refine pw s rfl (op_call (args := #[pt B 0, .int .i32 p]) (R := fun res xw => res = pt B 12 ∧ Below w.heap.size w xw) rfl rfl rfl (by kernel_rfl) (by kernel_rfl) (Try.call38 _ _) (mTextT_any B p w (by omega)) (by rintro e x ⟨rfl, hb122⟩; exact ⟨_, rfl, ⟨rfl, hb122⟩⟩)) ?_;rintro _ w121 a120 ⟨rfl, hb122⟩ s;have hz123 := hb122.size;refine pk0 (v := pt B 12) s rfl fun _ s => ?_;have hk125 := hB.below hb122;refine pk (v := .string d.to_) s rfl (rn_load1 rfl rfl Try.isAgg9 (hk125.cell rfl)) fun _ s => ?_;refine pk (v := .int .i64 (d.to_.size : Int)) s rfl (rn_lenStr rfl rfl Try.underlying9) fun _ s => ?_;refine pk0 (v := .bool (decide ((d.to_.size : Int) > 8))) s rfl fun _ s => q1 ?_;have hB130 := hb_call hB0 hb122;cases hc129 : (decide ((d.to_.size : Int) > 8))
         ·
          rw [hc129] at s;have hp131 : ¬ ((d.to_.size : Int) > 8) := of_decide_eq_false hc129;refine co_false s rfl <| q0 <| wp_exit ?_;refine co_blockY (by decide) ?_;refine co_thenX ?_;refine co_blockY (by decide) ?_;refine co_thenX ?_;refine co_blockY (by decide) ?_;refine co_thenX ?_;refine co_blockY (by decide) ?_;refine co_thenX ?_;refine co_blockY (by decide) ?_;refine co_thenX <| qx <| q2 ?_;refine pk0 (v := .int .i64 0) s rfl fun _ s => q4 ?_;refine co_ret1 s rfl rfl ?_;exact ⟨ret_int (by rw [cp_t (by omega)]; first | rw [if_pos (by omega)] | rw [if_neg (by omega)]), hB130⟩
         rw [hc129] at s;have hp133 : (d.to_.size : Int) > 8 := of_decide_eq_true hc129;refine co_true s rfl <| q2 ?_;refine pk0 (v := .int .i64 3) s rfl fun _ s => q5 <| qr <| qr <| qr <| qr <| qr <| qr ?_;refine co_ret1 s rfl rfl ?_;exact ⟨ret_int (by rw [cp_t (by omega)]; first | rw [if_pos (by omega)] | rw [if_neg (by omega)]), hB130⟩
        rw [hc35] at s;have hp135 : p = 107 := by first | simpa using hc35 | simpa [and_assoc] using hc35
        refine co_true s rfl <| q0 ?_;refine co_true s rfl <| wp_exit <| co_thenX <| co_thenX ?_;refine co_blockY (by decide) ?_;refine co_thenX ?_;refine co_blockY (by decide) ?_;refine co_thenX <| qx <| q9 ?_;refine pk0 (v := pt B 0) s rfl fun _ s => ?_;refine pk0 (v := .int .i32 p) s rfl fun _ s => ?_;refine pw s rfl (op_call (args := #[pt B 0, .int .i32 p]) (R := fun res xw => res = pt B 11 ∧ Below w.heap.size w xw) rfl rfl rfl (by kernel_rfl) (by kernel_rfl) (Try.call38 _ _) (mTextK_any B p w (by omega)) (by rintro e x ⟨rfl, hb140⟩; exact ⟨_, rfl, ⟨rfl, hb140⟩⟩)) ?_;rintro _ w139 a138 ⟨rfl, hb140⟩ s;have hz141 := hb140.size;refine pk0 (v := pt B 11) s rfl fun _ s => ?_;have hk143 := hB.below hb140;refine pk (v := .string d.key) s rfl (rn_load1 rfl rfl Try.isAgg9 (hk143.cell rfl)) fun _ s => ?_;refine pk (v := .int .i64 (d.key.size : Int)) s rfl (rn_lenStr rfl rfl Try.underlying9) fun _ s => ?_;refine pk0 (v := .bool (decide ((d.key.size : Int) > 8))) s rfl fun _ s => q1 ?_;have hB148 := hb_call hB0 hb140;cases hc147 : (decide ((d.key.size : Int) > 8))
        ·
         rw [hc147] at s;have hp149 : ¬ ((d.key.size : Int) > 8) := of_decide_eq_false hc147;refine co_false s rfl <| q0 <| wp_exit ?_;refine co_blockY (by decide) ?_;refine co_thenX ?_;refine co_blockY (by decide) ?_;refine co_thenX ?_;refine co_blockY (by decide) ?_;refine co_thenX ?_;refine co_blockY (by decide) ?_;refine co_thenX ?_;refine co_blockY (by decide) ?_;refine co_thenX <| qx <| q2 ?_;refine pk0 (v := .int .i64 0) s rfl fun _ s => q4 ?_;refine co_ret1 s rfl rfl ?_;exact ⟨ret_int (by rw [cp_k (by omega)]; first | rw [if_pos (by omega)] | rw [if_neg (by omega)]), hB148⟩
        rw [hc147] at s;have hp151 : (d.key.size : Int) > 8 := of_decide_eq_true hc147;refine co_true s rfl <| q2 ?_;refine pk0 (v := .int .i64 3) s rfl fun _ s => q5 <| qr <| qr <| qr <| qr <| qr <| qr ?_;refine co_ret1 s rfl rfl ?_;exact ⟨ret_int (by rw [cp_k (by omega)]; first | rw [if_pos (by omega)] | rw [if_neg (by omega)]), hB148⟩
       rw [hc31] at s;have hp153 : p = 112 := by first | simpa using hc31 | simpa [and_assoc] using hc31
       refine co_true s rfl <| wp_exit <| co_thenX <| co_thenX ?_;refine co_blockY (by decide) ?_;refine co_thenX <| qx <| q9 ?_;refine pk0 (v := pt B 0) s rfl fun _ s => ?_;refine pk0 (v := .int .i32 p) s rfl fun _ s => ?_;refine pw s rfl (op_call (args := #[pt B 0, .int .i32 p]) (R := fun res xw => res = .int .i64 (numP d p) ∧ Below w.heap.size w xw) rfl rfl rfl (by kernel_rfl) (by kernel_rfl) (Try.call42 _ _) (mNumber_any B d mv bv ev sv pv p w hB hm hb he ht hp) (by rintro e x ⟨rfl, hb158⟩; exact ⟨_, rfl, ⟨rfl, hb158⟩⟩)) ?_;rintro _ w157 a156 ⟨rfl, hb158⟩ s;have hz159 := hb158.size;refine pk0 (v := .int .i64 (numP d p)) s rfl fun _ s => q3 ?_;refine pk0 (v := .int .i64 (numP d p)) s rfl fun _ s => ?_;refine pk0 (v := .bool (decide (numP d p < 0))) s rfl fun _ s => ?_;refine pk0 (v := .bool (decide (numP d p < 0))) s rfl fun _ s => ?_;have hB165 := hb_call hB0 hb158;cases hc164 : (decide (numP d p < 0))
       ·
        rw [hc164] at s;have hp166 : ¬ (numP d p < 0) := of_decide_eq_false hc164;refine pk0 (v := .int .i64 (numP d p)) s rfl fun _ s => ?_;refine pk0 (v := .int .i64 1073741824) s rfl fun _ s => ?_;refine pk0 (v := .bool (decide (numP d p > 1073741824))) s rfl fun _ s => ?_;refine pk0 (v := .bool (decide (numP d p > 1073741824))) s rfl fun _ s => q1 ?_;cases hc171 : (decide (numP d p > 1073741824))
        ·
         rw [hc171] at s;have hp172 : ¬ (numP d p > 1073741824) := of_decide_eq_false hc171;refine co_false s rfl <| q0 <| wp_exit ?_;refine co_blockY (by decide) ?_;refine co_thenX ?_;refine co_blockY (by decide) ?_;refine co_thenX ?_;refine co_blockY (by decide) ?_;refine co_thenX ?_;refine co_blockY (by decide) ?_;refine co_thenX ?_;refine co_blockY (by decide) ?_;refine co_thenX ?_;refine co_blockY (by decide) ?_;refine co_thenX <| qx <| q2 ?_;refine pk0 (v := .int .i64 0) s rfl fun _ s => q4 ?_;refine co_ret1 s rfl rfl ?_;exact ⟨ret_int (by rw [cp_n (by omega)]; first | rw [if_pos (by omega)] | rw [if_neg (by omega)]), hB165⟩
        rw [hc171] at s;have hp174 : numP d p > 1073741824 := of_decide_eq_true hc171;refine co_true s rfl <| q2 ?_;refine pk0 (v := .int .i64 5) s rfl fun _ s => ?_;refine pk0 (v := .int .i64 5) s rfl fun _ s => q5 <| qr <| qr <| qr <| qr <| qr <| qr <| qr ?_;refine co_ret1 s rfl rfl ?_;exact ⟨ret_int (by rw [cp_n (by omega)]; first | rw [if_pos (by omega)] | rw [if_neg (by omega)]), hB165⟩
       rw [hc164] at s;have hp177 : numP d p < 0 := of_decide_eq_true hc164;refine psk s rfl fun _ s => ?_;refine psk s rfl fun _ s => ?_;refine psk s rfl fun _ s => ?_;refine pk0 (v := .bool true) s rfl fun _ s => q1 ?_;refine co_true s rfl <| q2 ?_;refine pk0 (v := .int .i64 5) s rfl fun _ s => ?_;refine pk0 (v := .int .i64 5) s rfl fun _ s => q5 <| qr <| qr <| qr <| qr <| qr <| qr <| qr ?_;refine co_ret1 s rfl rfl ?_;exact ⟨ret_int (by rw [cp_n (by omega)]; first | rw [if_pos (by omega)] | rw [if_neg (by omega)]), hB165⟩
      rw [hc27] at s;have hp184 : p = 109 := by first | simpa using hc27 | simpa [and_assoc] using hc27
      refine co_true s rfl <| q0 ?_;refine co_true s rfl <| wp_exit <| co_thenX <| co_thenX ?_;refine co_blockY (by decide) ?_;refine co_thenX <| qx <| q9 ?_;refine pk0 (v := pt B 0) s rfl fun _ s => ?_;refine pk0 (v := .int .i32 p) s rfl fun _ s => ?_;refine pw s rfl (op_call (args := #[pt B 0, .int .i32 p]) (R := fun res xw => res = .int .i64 (numP d p) ∧ Below w.heap.size w xw) rfl rfl rfl (by kernel_rfl) (by kernel_rfl) (Try.call42 _ _) (mNumber_any B d mv bv ev sv pv p w hB hm hb he ht hp) (by rintro e x ⟨rfl, hb189⟩; exact ⟨_, rfl, ⟨rfl, hb189⟩⟩)) ?_;rintro _ w188 a187 ⟨rfl, hb189⟩ s;have hz190 := hb189.size;refine pk0 (v := .int .i64 (numP d p)) s rfl fun _ s => q3 ?_;refine pk0 (v := .int .i64 (numP d p)) s rfl fun _ s => ?_;refine pk0 (v := .bool (decide (numP d p < 0))) s rfl fun _ s => ?_;refine pk0 (v := .bool (decide (numP d p < 0))) s rfl fun _ s => ?_;have hB196 := hb_call hB0 hb189;cases hc195 : (decide (numP d p < 0))
      ·
       rw [hc195] at s;have hp197 : ¬ (numP d p < 0) := of_decide_eq_false hc195;refine pk0 (v := .int .i64 (numP d p)) s rfl fun _ s => ?_;refine pk0 (v := .int .i64 1073741824) s rfl fun _ s => ?_;refine pk0 (v := .bool (decide (numP d p > 1073741824))) s rfl fun _ s => ?_;refine pk0 (v := .bool (decide (numP d p > 1073741824))) s rfl fun _ s => q1 ?_;cases hc202 : (decide (numP d p > 1073741824))
       ·
        rw [hc202] at s;have hp203 : ¬ (numP d p > 1073741824) := of_decide_eq_false hc202;refine co_false s rfl <| q0 <| wp_exit ?_;refine co_blockY (by decide) ?_;refine co_thenX ?_;refine co_blockY (by decide) ?_;refine co_thenX ?_;refine co_blockY (by decide) ?_;refine co_thenX ?_;refine co_blockY (by decide) ?_;refine co_thenX ?_;refine co_blockY (by decide) ?_;refine co_thenX ?_;refine co_blockY (by decide) ?_;refine co_thenX <| qx <| q2 ?_;refine pk0 (v := .int .i64 0) s rfl fun _ s => q4 ?_;refine co_ret1 s rfl rfl ?_;exact ⟨ret_int (by rw [cp_n (by omega)]; first | rw [if_pos (by omega)] | rw [if_neg (by omega)]), hB196⟩
       rw [hc202] at s;have hp205 : numP d p > 1073741824 := of_decide_eq_true hc202;refine co_true s rfl <| q2 ?_;refine pk0 (v := .int .i64 5) s rfl fun _ s => ?_;refine pk0 (v := .int .i64 5) s rfl fun _ s => q5 <| qr <| qr <| qr <| qr <| qr <| qr <| qr ?_;refine co_ret1 s rfl rfl ?_;exact ⟨ret_int (by rw [cp_n (by omega)]; first | rw [if_pos (by omega)] | rw [if_neg (by omega)]), hB196⟩
      rw [hc195] at s;have hp208 : numP d p < 0 := of_decide_eq_true hc195;refine psk s rfl fun _ s => ?_;refine psk s rfl fun _ s => ?_;refine psk s rfl fun _ s => ?_;refine pk0 (v := .bool true) s rfl fun _ s => q1 ?_;refine co_true s rfl <| q2 ?_;refine pk0 (v := .int .i64 5) s rfl fun _ s => ?_;refine pk0 (v := .int .i64 5) s rfl fun _ s => q5 <| qr <| qr <| qr <| qr <| qr <| qr <| qr ?_;refine co_ret1 s rfl rfl ?_;exact ⟨ret_int (by rw [cp_n (by omega)]; first | rw [if_pos (by omega)] | rw [if_neg (by omega)]), hB196⟩
     rw [hc23] at s;have hp215 : p = 110 := by first | simpa using hc23 | simpa [and_assoc] using hc23
     refine co_true s rfl <| q0 ?_;refine co_true s rfl <| wp_exit <| co_thenX <| co_thenX ?_;refine co_blockY (by decide) ?_;refine co_thenX <| qx <| q9 ?_;refine pk0 (v := pt B 0) s rfl fun _ s => ?_;refine pk0 (v := .int .i32 p) s rfl fun _ s => ?_;refine pw s rfl (op_call (args := #[pt B 0, .int .i32 p]) (R := fun res xw => res = .int .i64 (numP d p) ∧ Below w.heap.size w xw) rfl rfl rfl (by kernel_rfl) (by kernel_rfl) (Try.call42 _ _) (mNumber_any B d mv bv ev sv pv p w hB hm hb he ht hp) (by rintro e x ⟨rfl, hb220⟩; exact ⟨_, rfl, ⟨rfl, hb220⟩⟩)) ?_;rintro _ w219 a218 ⟨rfl, hb220⟩ s;have hz221 := hb220.size;refine pk0 (v := .int .i64 (numP d p)) s rfl fun _ s => q3 ?_;refine pk0 (v := .int .i64 (numP d p)) s rfl fun _ s => ?_;refine pk0 (v := .bool (decide (numP d p < 0))) s rfl fun _ s => ?_;refine pk0 (v := .bool (decide (numP d p < 0))) s rfl fun _ s => ?_;have hB227 := hb_call hB0 hb220;cases hc226 : (decide (numP d p < 0))
     ·
      rw [hc226] at s;have hp228 : ¬ (numP d p < 0) := of_decide_eq_false hc226;refine pk0 (v := .int .i64 (numP d p)) s rfl fun _ s => ?_;refine pk0 (v := .int .i64 1073741824) s rfl fun _ s => ?_;refine pk0 (v := .bool (decide (numP d p > 1073741824))) s rfl fun _ s => ?_;refine pk0 (v := .bool (decide (numP d p > 1073741824))) s rfl fun _ s => q1 ?_;cases hc233 : (decide (numP d p > 1073741824))
      ·
       rw [hc233] at s;have hp234 : ¬ (numP d p > 1073741824) := of_decide_eq_false hc233;refine co_false s rfl <| q0 <| wp_exit ?_;refine co_blockY (by decide) ?_;refine co_thenX ?_;refine co_blockY (by decide) ?_;refine co_thenX ?_;refine co_blockY (by decide) ?_;refine co_thenX ?_;refine co_blockY (by decide) ?_;refine co_thenX ?_;refine co_blockY (by decide) ?_;refine co_thenX ?_;refine co_blockY (by decide) ?_;refine co_thenX <| qx <| q2 ?_;refine pk0 (v := .int .i64 0) s rfl fun _ s => q4 ?_;refine co_ret1 s rfl rfl ?_;exact ⟨ret_int (by rw [cp_n (by omega)]; first | rw [if_pos (by omega)] | rw [if_neg (by omega)]), hB227⟩
      rw [hc233] at s;have hp236 : numP d p > 1073741824 := of_decide_eq_true hc233;refine co_true s rfl <| q2 ?_;refine pk0 (v := .int .i64 5) s rfl fun _ s => ?_;refine pk0 (v := .int .i64 5) s rfl fun _ s => q5 <| qr <| qr <| qr <| qr <| qr <| qr <| qr ?_;refine co_ret1 s rfl rfl ?_;exact ⟨ret_int (by rw [cp_n (by omega)]; first | rw [if_pos (by omega)] | rw [if_neg (by omega)]), hB227⟩
     rw [hc226] at s;have hp239 : numP d p < 0 := of_decide_eq_true hc226;refine psk s rfl fun _ s => ?_;refine psk s rfl fun _ s => ?_;refine psk s rfl fun _ s => ?_;refine pk0 (v := .bool true) s rfl fun _ s => q1 ?_;refine co_true s rfl <| q2 ?_;refine pk0 (v := .int .i64 5) s rfl fun _ s => ?_;refine pk0 (v := .int .i64 5) s rfl fun _ s => q5 <| qr <| qr <| qr <| qr <| qr <| qr <| qr ?_;refine co_ret1 s rfl rfl ?_;exact ⟨ret_int (by rw [cp_n (by omega)]; first | rw [if_pos (by omega)] | rw [if_neg (by omega)]), hB227⟩
    rw [hc19] at s;have hp246 : p = 113 := by first | simpa using hc19 | simpa [and_assoc] using hc19
    refine co_true s rfl <| q0 ?_;refine co_true s rfl <| wp_exit <| co_thenX <| co_thenX ?_;refine co_blockY (by decide) ?_;refine co_thenX <| qx <| q9 ?_;refine pk0 (v := pt B 0) s rfl fun _ s => ?_;refine pk0 (v := .int .i32 p) s rfl fun _ s => ?_;refine pw s rfl (op_call (args := #[pt B 0, .int .i32 p]) (R := fun res xw => res = .int .i64 (numP d p) ∧ Below w.heap.size w xw) rfl rfl rfl (by kernel_rfl) (by kernel_rfl) (Try.call42 _ _) (mNumber_any B d mv bv ev sv pv p w hB hm hb he ht hp) (by rintro e x ⟨rfl, hb251⟩; exact ⟨_, rfl, ⟨rfl, hb251⟩⟩)) ?_;rintro _ w250 a249 ⟨rfl, hb251⟩ s;have hz252 := hb251.size;refine pk0 (v := .int .i64 (numP d p)) s rfl fun _ s => q3 ?_;refine pk0 (v := .int .i64 (numP d p)) s rfl fun _ s => ?_;refine pk0 (v := .bool (decide (numP d p < 0))) s rfl fun _ s => ?_;refine pk0 (v := .bool (decide (numP d p < 0))) s rfl fun _ s => ?_;have hB258 := hb_call hB0 hb251;cases hc257 : (decide (numP d p < 0))
    ·
     rw [hc257] at s;have hp259 : ¬ (numP d p < 0) := of_decide_eq_false hc257;refine pk0 (v := .int .i64 (numP d p)) s rfl fun _ s => ?_;refine pk0 (v := .int .i64 1073741824) s rfl fun _ s => ?_;refine pk0 (v := .bool (decide (numP d p > 1073741824))) s rfl fun _ s => ?_;refine pk0 (v := .bool (decide (numP d p > 1073741824))) s rfl fun _ s => q1 ?_;cases hc264 : (decide (numP d p > 1073741824))
     ·
      rw [hc264] at s;have hp265 : ¬ (numP d p > 1073741824) := of_decide_eq_false hc264;refine co_false s rfl <| q0 <| wp_exit ?_;refine co_blockY (by decide) ?_;refine co_thenX ?_;refine co_blockY (by decide) ?_;refine co_thenX ?_;refine co_blockY (by decide) ?_;refine co_thenX ?_;refine co_blockY (by decide) ?_;refine co_thenX ?_;refine co_blockY (by decide) ?_;refine co_thenX ?_;refine co_blockY (by decide) ?_;refine co_thenX <| qx <| q2 ?_;refine pk0 (v := .int .i64 0) s rfl fun _ s => q4 ?_;refine co_ret1 s rfl rfl ?_;exact ⟨ret_int (by rw [cp_n (by omega)]; first | rw [if_pos (by omega)] | rw [if_neg (by omega)]), hB258⟩
     rw [hc264] at s;have hp267 : numP d p > 1073741824 := of_decide_eq_true hc264;refine co_true s rfl <| q2 ?_;refine pk0 (v := .int .i64 5) s rfl fun _ s => ?_;refine pk0 (v := .int .i64 5) s rfl fun _ s => q5 <| qr <| qr <| qr <| qr <| qr <| qr <| qr ?_;refine co_ret1 s rfl rfl ?_;exact ⟨ret_int (by rw [cp_n (by omega)]; first | rw [if_pos (by omega)] | rw [if_neg (by omega)]), hB258⟩
    rw [hc257] at s;have hp270 : numP d p < 0 := of_decide_eq_true hc257;refine psk s rfl fun _ s => ?_;refine psk s rfl fun _ s => ?_;refine psk s rfl fun _ s => ?_;refine pk0 (v := .bool true) s rfl fun _ s => q1 ?_;refine co_true s rfl <| q2 ?_;refine pk0 (v := .int .i64 5) s rfl fun _ s => ?_;refine pk0 (v := .int .i64 5) s rfl fun _ s => q5 <| qr <| qr <| qr <| qr <| qr <| qr <| qr ?_;refine co_ret1 s rfl rfl ?_;exact ⟨ret_int (by rw [cp_n (by omega)]; first | rw [if_pos (by omega)] | rw [if_neg (by omega)]), hB258⟩
   rw [hc15] at s;have hp277 : p = 115 := by first | simpa using hc15 | simpa [and_assoc] using hc15
   refine co_true s rfl <| q0 ?_;refine co_true s rfl <| wp_exit <| co_thenX <| co_thenX ?_;refine co_blockY (by decide) ?_;refine co_thenX <| qx <| q9 ?_;refine pk0 (v := pt B 0) s rfl fun _ s => ?_;refine pk0 (v := .int .i32 p) s rfl fun _ s => ?_;refine pw s rfl (op_call (args := #[pt B 0, .int .i32 p]) (R := fun res xw => res = .int .i64 (numP d p) ∧ Below w.heap.size w xw) rfl rfl rfl (by kernel_rfl) (by kernel_rfl) (Try.call42 _ _) (mNumber_any B d mv bv ev sv pv p w hB hm hb he ht hp) (by rintro e x ⟨rfl, hb282⟩; exact ⟨_, rfl, ⟨rfl, hb282⟩⟩)) ?_;rintro _ w281 a280 ⟨rfl, hb282⟩ s;have hz283 := hb282.size;refine pk0 (v := .int .i64 (numP d p)) s rfl fun _ s => q3 ?_;refine pk0 (v := .int .i64 (numP d p)) s rfl fun _ s => ?_;refine pk0 (v := .bool (decide (numP d p < 0))) s rfl fun _ s => ?_;refine pk0 (v := .bool (decide (numP d p < 0))) s rfl fun _ s => ?_;have hB289 := hb_call hB0 hb282;cases hc288 : (decide (numP d p < 0))
   ·
    rw [hc288] at s;have hp290 : ¬ (numP d p < 0) := of_decide_eq_false hc288;refine pk0 (v := .int .i64 (numP d p)) s rfl fun _ s => ?_;refine pk0 (v := .int .i64 1073741824) s rfl fun _ s => ?_;refine pk0 (v := .bool (decide (numP d p > 1073741824))) s rfl fun _ s => ?_;refine pk0 (v := .bool (decide (numP d p > 1073741824))) s rfl fun _ s => q1 ?_;cases hc295 : (decide (numP d p > 1073741824))
    ·
     rw [hc295] at s;have hp296 : ¬ (numP d p > 1073741824) := of_decide_eq_false hc295;refine co_false s rfl <| q0 <| wp_exit ?_;refine co_blockY (by decide) ?_;refine co_thenX ?_;refine co_blockY (by decide) ?_;refine co_thenX ?_;refine co_blockY (by decide) ?_;refine co_thenX ?_;refine co_blockY (by decide) ?_;refine co_thenX ?_;refine co_blockY (by decide) ?_;refine co_thenX ?_;refine co_blockY (by decide) ?_;refine co_thenX <| qx <| q2 ?_;refine pk0 (v := .int .i64 0) s rfl fun _ s => q4 ?_;refine co_ret1 s rfl rfl ?_;exact ⟨ret_int (by rw [cp_n (by omega)]; first | rw [if_pos (by omega)] | rw [if_neg (by omega)]), hB289⟩
    rw [hc295] at s;have hp298 : numP d p > 1073741824 := of_decide_eq_true hc295;refine co_true s rfl <| q2 ?_;refine pk0 (v := .int .i64 5) s rfl fun _ s => ?_;refine pk0 (v := .int .i64 5) s rfl fun _ s => q5 <| qr <| qr <| qr <| qr <| qr <| qr <| qr ?_;refine co_ret1 s rfl rfl ?_;exact ⟨ret_int (by rw [cp_n (by omega)]; first | rw [if_pos (by omega)] | rw [if_neg (by omega)]), hB289⟩
   rw [hc288] at s;have hp301 : numP d p < 0 := of_decide_eq_true hc288;refine psk s rfl fun _ s => ?_;refine psk s rfl fun _ s => ?_;refine psk s rfl fun _ s => ?_;refine pk0 (v := .bool true) s rfl fun _ s => q1 ?_;refine co_true s rfl <| q2 ?_;refine pk0 (v := .int .i64 5) s rfl fun _ s => ?_;refine pk0 (v := .int .i64 5) s rfl fun _ s => q5 <| qr <| qr <| qr <| qr <| qr <| qr <| qr ?_;refine co_ret1 s rfl rfl ?_;exact ⟨ret_int (by rw [cp_n (by omega)]; first | rw [if_pos (by omega)] | rw [if_neg (by omega)]), hB289⟩
  rw [hc11] at s;have hp308 : p = 101 := by first | simpa using hc11 | simpa [and_assoc] using hc11
  refine co_true s rfl <| q0 ?_;refine co_true s rfl <| wp_exit <| co_thenX <| co_thenX ?_;refine co_blockY (by decide) ?_;refine co_thenX <| qx <| q9 ?_;refine pk0 (v := pt B 0) s rfl fun _ s => ?_;refine pk0 (v := .int .i32 p) s rfl fun _ s => ?_;refine pw s rfl (op_call (args := #[pt B 0, .int .i32 p]) (R := fun res xw => res = .int .i64 (numP d p) ∧ Below w.heap.size w xw) rfl rfl rfl (by kernel_rfl) (by kernel_rfl) (Try.call42 _ _) (mNumber_any B d mv bv ev sv pv p w hB hm hb he ht hp) (by rintro e x ⟨rfl, hb313⟩; exact ⟨_, rfl, ⟨rfl, hb313⟩⟩)) ?_;rintro _ w312 a311 ⟨rfl, hb313⟩ s;have hz314 := hb313.size;refine pk0 (v := .int .i64 (numP d p)) s rfl fun _ s => q3 ?_;refine pk0 (v := .int .i64 (numP d p)) s rfl fun _ s => ?_;refine pk0 (v := .bool (decide (numP d p < 0))) s rfl fun _ s => ?_;refine pk0 (v := .bool (decide (numP d p < 0))) s rfl fun _ s => ?_;have hB320 := hb_call hB0 hb313;cases hc319 : (decide (numP d p < 0))
  ·
   rw [hc319] at s;have hp321 : ¬ (numP d p < 0) := of_decide_eq_false hc319;refine pk0 (v := .int .i64 (numP d p)) s rfl fun _ s => ?_;refine pk0 (v := .int .i64 1073741824) s rfl fun _ s => ?_;refine pk0 (v := .bool (decide (numP d p > 1073741824))) s rfl fun _ s => ?_;refine pk0 (v := .bool (decide (numP d p > 1073741824))) s rfl fun _ s => q1 ?_;cases hc326 : (decide (numP d p > 1073741824))
   ·
    rw [hc326] at s;have hp327 : ¬ (numP d p > 1073741824) := of_decide_eq_false hc326;refine co_false s rfl <| q0 <| wp_exit ?_;refine co_blockY (by decide) ?_;refine co_thenX ?_;refine co_blockY (by decide) ?_;refine co_thenX ?_;refine co_blockY (by decide) ?_;refine co_thenX ?_;refine co_blockY (by decide) ?_;refine co_thenX ?_;refine co_blockY (by decide) ?_;refine co_thenX ?_;refine co_blockY (by decide) ?_;refine co_thenX <| qx <| q2 ?_;refine pk0 (v := .int .i64 0) s rfl fun _ s => q4 ?_;refine co_ret1 s rfl rfl ?_;exact ⟨ret_int (by rw [cp_n (by omega)]; first | rw [if_pos (by omega)] | rw [if_neg (by omega)]), hB320⟩
   rw [hc326] at s;have hp329 : numP d p > 1073741824 := of_decide_eq_true hc326;refine co_true s rfl <| q2 ?_;refine pk0 (v := .int .i64 5) s rfl fun _ s => ?_;refine pk0 (v := .int .i64 5) s rfl fun _ s => q5 <| qr <| qr <| qr <| qr <| qr <| qr <| qr ?_;refine co_ret1 s rfl rfl ?_;exact ⟨ret_int (by rw [cp_n (by omega)]; first | rw [if_pos (by omega)] | rw [if_neg (by omega)]), hB320⟩
  rw [hc319] at s;have hp332 : numP d p < 0 := of_decide_eq_true hc319;refine psk s rfl fun _ s => ?_;refine psk s rfl fun _ s => ?_;refine psk s rfl fun _ s => ?_;refine pk0 (v := .bool true) s rfl fun _ s => q1 ?_;refine co_true s rfl <| q2 ?_;refine pk0 (v := .int .i64 5) s rfl fun _ s => ?_;refine pk0 (v := .int .i64 5) s rfl fun _ s => q5 <| qr <| qr <| qr <| qr <| qr <| qr <| qr ?_;refine co_ret1 s rfl rfl ?_;exact ⟨ret_int (by rw [cp_n (by omega)]; first | rw [if_pos (by omega)] | rw [if_neg (by omega)]), hB320⟩
 rw [hc7] at s;have hp339 : p = 120 := by first | simpa using hc7 | simpa [and_assoc] using hc7
 refine co_true s rfl <| wp_exit <| co_thenX <| co_thenX <| qx <| co_reg ?_;refine pk0 (v := .int .i64 21) s rfl fun _ s => ?_;refine pk0 (v := .int .i64 1) s rfl fun _ s => pl_nil <| co_blockN <| co_then <| q9 ?_;refine pk0 (v := pt B 0) s rfl fun _ s => ?_;refine pk0 (v := .int .i32 p) s rfl fun _ s => ?_;refine pw s rfl (op_call (args := #[pt B 0, .int .i32 p]) (R := fun res xw => res = .int .i64 (numP d p) ∧ Below w.heap.size w xw) rfl rfl rfl (by kernel_rfl) (by kernel_rfl) (Try.call42 _ _) (mNumber_any B d mv bv ev sv pv p w hB hm hb he ht hp) (by rintro e x ⟨rfl, hb346⟩; exact ⟨_, rfl, ⟨rfl, hb346⟩⟩)) ?_;rintro _ w345 a344 ⟨rfl, hb346⟩ s;have hz347 := hb346.size;refine pk0 (v := .int .i64 (numP d p)) s rfl fun _ s => q3 ?_;refine pk0 (v := .int .i64 (numP d p)) s rfl fun _ s => ?_;refine pk0 (v := .bool (decide (numP d p < 0))) s rfl fun _ s => ?_;refine pk0 (v := .bool (decide (numP d p < 0))) s rfl fun _ s => ?_;have hB353 := hb_call hB0 hb346;cases hc352 : (decide (numP d p < 0))
 ·
  rw [hc352] at s;have hp354 : ¬ (numP d p < 0) := of_decide_eq_false hc352;refine pk0 (v := .int .i64 (numP d p)) s rfl fun _ s => ?_;refine pk0 (v := .int .i64 21) s rfl fun _ s => ?_;refine pk0 (v := .bool (decide (numP d p > 21))) s rfl fun _ s => ?_;refine pk0 (v := .bool (decide (numP d p > 21))) s rfl fun _ s => q1 ?_;cases hc359 : (decide (numP d p > 21))
  ·
   rw [hc359] at s;have hp360 : ¬ (numP d p > 21) := of_decide_eq_false hc359;refine co_false s rfl <| q0 <| wp_exit ?_;refine co_blockY (by decide) ?_;refine co_thenX ?_;refine co_blockY (by decide) ?_;refine co_thenX ?_;refine co_blockY (by decide) ?_;refine co_thenX ?_;refine co_blockY (by decide) ?_;refine co_thenX ?_;refine co_blockY (by decide) ?_;refine co_thenX ?_;refine co_blockY (by decide) ?_;refine co_thenX <| qx <| q2 ?_;refine pk0 (v := .int .i64 0) s rfl fun _ s => q4 ?_;refine co_ret1 s rfl rfl ?_;exact ⟨ret_int (by have hn := np_7 (d := d) (p := p) (by omega); rw [cp_x (by omega)]; first | rw [if_pos (by omega)] | rw [if_neg (by omega)]), hB353⟩
  rw [hc359] at s;have hp362 : numP d p > 21 := of_decide_eq_true hc359;refine co_true s rfl <| q2 ?_;refine pk0 (v := .int .i64 1) s rfl fun _ s => ?_;refine pk0 (v := .int .i64 1) s rfl fun _ s => q5 <| qr <| qr <| qr <| qr <| qr <| qr <| qr ?_;refine co_ret1 s rfl rfl ?_;exact ⟨ret_int (by have hn := np_7 (d := d) (p := p) (by omega); rw [cp_x (by omega)]; first | rw [if_pos (by omega)] | rw [if_neg (by omega)]), hB353⟩
 rw [hc352] at s;have hp365 : numP d p < 0 := of_decide_eq_true hc352;refine psk s rfl fun _ s => ?_;refine psk s rfl fun _ s => ?_;refine psk s rfl fun _ s => ?_;refine pk0 (v := .bool true) s rfl fun _ s => q1 ?_;refine co_true s rfl <| q2 ?_;refine pk0 (v := .int .i64 1) s rfl fun _ s => ?_;refine pk0 (v := .int .i64 1) s rfl fun _ s => q5 <| qr <| qr <| qr <| qr <| qr <| qr <| qr ?_;refine co_ret1 s rfl rfl ?_;exact ⟨ret_int (by have hn := np_7 (d := d) (p := p) (by omega); rw [cp_x (by omega)]; first | rw [if_pos (by omega)] | rw [if_neg (by omega)]), hB353⟩
set_option maxRecDepth 100000 in
theorem mCheck_any (d : MsgD) (mv : Value) (bv : Value) (ev : Value) (sv : Value) (pv : Value) (w : World) (hm : SliceOf memE 2 w mv d.cms) (hb : SliceOf opE 3 w bv d.bl) (he : SliceOf entE 4 w ev d.en) (ht : SliceOf (intE .u64) 1 w sv d.st) (hp : SliceOf prE 2 w pv d.pr) (hok : ∀ z ∈ d.en, EntOk w z) (hR : MsgR d) :
    Calls Try.prog 11 #[.agg #[.int .i64 d.k, .int .i64 d.ep, .int .i64 d.rq, .int .i64 d.sr, .bool d.fg, .int .u64 d.at_, .int .u64 d.la, .int .i64 d.n, .int .i64 d.m, .int .i64 d.p, .int .i64 d.e, .string d.key, .string d.to_, .int .i64 d.cep, mv, .int .u64 d.cfl, .int .i64 d.bc, .int .i64 d.br, bv, ev, sv, pv]] w fun e w' => e = .returned (.int .i64 (chkMg d)) ∧ Below w.heap.size w w' := by
 have hrng := hR.rng;have hB0 := Below.refl w.heap.size w;have hl_hm := sl_len hm;have hl_hb := sl_len hb;have hl_he := sl_len he;have hl_ht := sl_len ht;have hl_hp := sl_len hp;refine co_enter (n := 22) Try.func11 rfl rfl rfl [(0, .agg #[.int .i64 d.k, .int .i64 d.ep, .int .i64 d.rq, .int .i64 d.sr, .bool d.fg, .int .u64 d.at_, .int .u64 d.la, .int .i64 d.n, .int .i64 d.m, .int .i64 d.p, .int .i64 d.e, .string d.key, .string d.to_, .int .i64 d.cep, mv, .int .u64 d.cfl, .int .i64 d.bc, .int .i64 d.br, bv, ev, sv, pv])] rfl (fun a s => ?_);refine q2 ?_;refine pw s rfl (op_new (v := fun N => pt N 0) (T := 34) (cs := #[.int .i64 d.k, .int .i64 d.ep, .int .i64 d.rq, .int .i64 d.sr, .bool d.fg, .int .u64 d.at_, .int .u64 d.la, .int .i64 d.n, .int .i64 d.m, .int .i64 d.p, .int .i64 d.e, .string d.key, .string d.to_, .int .i64 d.cep, mv, .int .u64 d.cfl, .int .i64 d.bc, .int .i64 d.br, bv, ev, sv, pv]) (by kernel_rfl) (by kernel_rfl) (by kernel_rfl)) ?_;rintro _ w2 a1 ⟨N3, rfl, hN6, hz7, hk5, hg4⟩ s;have hz8 := hg4.size
 try dsimp only at s
 refine pk0 (v := .int .i64 0) s rfl fun _ s => q6 ?_;refine pk0 (v := pt N3 0) s rfl fun _ s => ?_;refine pk (v := .int .i64 d.k) s rfl (rn_load1 rfl rfl Try.isAgg3 (hk5.cell rfl)) fun _ s => ?_;refine pw s rfl (op_call (args := #[.int .i64 d.k]) (R := fun res xw => res = .bool (decide (1 ≤ d.k ∧ d.k ≤ 15)) ∧ Below w2.heap.size w2 xw) rfl rfl rfl (by kernel_rfl) (by kernel_rfl) (Try.call20 _ _) (mKnown_any d.k w2 ) (by rintro e x ⟨rfl, hb14⟩; exact ⟨_, rfl, ⟨rfl, hb14⟩⟩)) ?_;rintro _ w13 a12 ⟨rfl, hb14⟩ s;have hz15 := hb14.size;have hB17 := hb_new hB0 hg4;have hB18 := hb_call hB17 hb14;cases hc16 : (decide (1 ≤ d.k ∧ d.k ≤ 15))
 ·
  rw [hc16] at s;have hp19 : ¬ (1 ≤ d.k ∧ d.k ≤ 15) := of_decide_eq_false hc16;refine pk0 (v := .bool true) s rfl fun _ s => q1 ?_;refine co_true s rfl <| q2 ?_;refine pk0 (v := .int .i64 11) s rfl fun _ s => q5 ?_;refine co_ret1 s rfl rfl ?_;exact ⟨ret_int (by unfold chkMg; rw [if_neg (by omega)]), hB18⟩
 rw [hc16] at s;have hp22 : 1 ≤ d.k ∧ d.k ≤ 15 := of_decide_eq_true hc16;refine pk0 (v := .bool false) s rfl fun _ s => q1 ?_;refine co_false s rfl <| q8 ?_;refine pk0 (v := pt N3 0) s rfl fun _ s => ?_;have hk25 := hk5.below hb14;refine pk (v := .int .i64 d.k) s rfl (rn_load1 rfl rfl Try.isAgg3 (hk25.cell rfl)) fun _ s => ?_;refine pw s rfl (op_call (args := #[.int .i64 d.k]) (R := fun res xw => res = .string (pstr d.k) ∧ Below w13.heap.size w13 xw) rfl rfl rfl (by kernel_rfl) (by kernel_rfl) (Try.call14 _ _) (mParts_any d.k w13 ) (by rintro e x ⟨rfl, hb29⟩; exact ⟨_, rfl, ⟨rfl, hb29⟩⟩)) ?_;rintro _ w28 a27 ⟨rfl, hb29⟩ s;have hz30 := hb29.size;refine pw s rfl (op_rangeS rfl rfl Try.underlying9) ?_;rintro _ w32 a31 ⟨r33, rfl, hN34, hI35, hz36, hg37⟩ s;have hz38 := hg37.size;have hl39 := hI35.lt;refine q1 <| wp_block ?_;have s : Slots 22 [(1, pt N3 0), (2, .int .i64 0), (12, .string (pstr d.k)), (13, pt r33 0)] _ := s.sub ⟨rfl, rfl, rfl, rfl, trivial⟩;refine co_loop (fun mm a x => ∃ (i : Nat), Slots 22 [(1, pt N3 0), (2, .int .i64 0), (12, .string (pstr d.k)), (13, pt r33 0)] a ∧ mm = (pstr d.k).size - i ∧ (i ≤ (pstr d.k).size) ∧ (chkF (cP d) ((ptL d.k).drop i) = chkF (cP d) (ptL d.k)) ∧ SIt x r33 (pstr d.k) i ∧ Below w.heap.size w x ∧ Blk x N3 34 #[.int .i64 d.k, .int .i64 d.ep, .int .i64 d.rq, .int .i64 d.sr, .bool d.fg, .int .u64 d.at_, .int .u64 d.la, .int .i64 d.n, .int .i64 d.m, .int .i64 d.p, .int .i64 d.e, .string d.key, .string d.to_, .int .i64 d.cep, mv, .int .u64 d.cfl, .int .i64 d.bc, .int .i64 d.br, bv, ev, sv, pv]) ((pstr d.k).size - 0) ?_ ?_;have hB41 := hb_call hB18 hb29;have hB42 := hb_new hB41 hg37;have hk43 := hk25.below hb29;have hk44 := hk43.kept hg37 (by simp)
 · exact ⟨0, s.sub ⟨rfl, rfl, rfl, rfl, trivial⟩, rfl, by omega, by first | rfl | exact hL', hI35, hB42, hk44⟩
 · rintro k45 a46 w47 ⟨i, s, rfl, hi48, hi49, hf50, hB51, hk52⟩
   have hz53 := hB51.size;have hl54 := hk52.lt;have hl55 := hf50.lt;have hL : chkF (cP d) ((ptL d.k).drop i) = chkF (cP d) (ptL d.k) := by assumption
   refine q2 ?_;refine pl_want s rfl rfl rfl (op_nextS rfl rfl hf50 (pstr_ascii _)) ?_;rintro _ w57 a56 (⟨hend58, rfl, rfl⟩ | ⟨hlt59, rfl, hI60, hz61, hg62⟩) s
   ·
    refine pk0 (v := .bool false) s rfl fun _ s => q1 <| co_seq ?_;refine co_false s rfl <| wp_exit <| co_thenX <| co_thenX <| qx <| q2 ?_;refine pk0 (v := .int .i64 0) s rfl fun _ s => q4 ?_;refine co_ret1 s rfl rfl ?_;have hpl := pstr_len d.k;exact ⟨ret_int (by unfold chkMg; rw [if_pos (by omega)]; exact cF_end (i := i) hL (by omega)), hB51⟩
   have hz65 := hg62.size;have hl66 := hI60.lt;refine pk0 (v := .bool true) s rfl fun _ s => q1 <| co_seq ?_;refine co_true s rfl <| q0 <| wp_block <| q2 ?_;refine pk0 (v := .int .i32 (byteAt (pstr d.k) i)) s rfl fun _ s => ?_;refine pk0 (v := .int .i32 (byteAt (pstr d.k) i)) s rfl fun _ s => q3 ?_;refine pk0 (v := .int .i32 (byteAt (pstr d.k) i)) s rfl fun _ s => ?_;have hB73 := hb_at hB51 hg62 (by omega);have hk74 := hk52.kept hg62 (by simp; omega);refine pw s rfl (op_call (args := #[pt N3 0, .int .i32 (byteAt (pstr d.k) i)]) (R := fun res xw => res = .int .i64 (chkP d (byteAt (pstr d.k) i)) ∧ Below w57.heap.size w57 xw) rfl rfl rfl (by kernel_rfl) (by kernel_rfl) (Try.call30 _ _) (mCheckP_any N3 d mv bv ev sv pv (byteAt (pstr d.k) i) w57 hk74 (hm.below hB73) (hb.below hB73) (he.below hB73) (ht.below hB73) (hp.below hB73) (fun z hz => (hok z hz).below hB73) hR) (by rintro e x ⟨rfl, hb75⟩; exact ⟨_, rfl, ⟨rfl, hb75⟩⟩)) ?_;rintro _ w72 a71 ⟨rfl, hb75⟩ s;have hz76 := hb75.size;refine pk0 (v := .int .i64 (chkP d (byteAt (pstr d.k) i))) s rfl fun _ s => q3 ?_;refine pk0 (v := .int .i64 (chkP d (byteAt (pstr d.k) i))) s rfl fun _ s => ?_;refine pk0 (v := .bool (chkP d (byteAt (pstr d.k) i) != 0)) s rfl fun _ s => q1 ?_;have hB81 := hb_call hB73 hb75;cases hc80 : (chkP d (byteAt (pstr d.k) i) != 0)
   ·
    rw [hc80] at s;have hp82 : ¬ (chkP d (byteAt (pstr d.k) i) ≠ 0) := by first | simpa using hc80 | simpa [and_assoc] using hc80
    refine co_false s rfl <| wp_skip <| co_blockN <| co_then ?_;refine ⟨((pstr d.k).size - (i + 1)), by omega, ?_⟩;obtain ⟨c, hc, hcb⟩ := byteAt_pstr (k := d.k) (i := i) (by omega);have hL' := cF_step (f := cP d) hL hc (by show chkP d _ = 0; rw [← hcb]; omega);have hI83 := hI60.kept (below_grown hb75) (by simp);have hk84 := hk74.below hb75;exact ⟨i + 1, s.sub ⟨rfl, rfl, rfl, rfl, trivial⟩, rfl, by omega, by first | rfl | exact hL', hI83, hB81, hk84⟩
   rw [hc80] at s;have hp85 : chkP d (byteAt (pstr d.k) i) ≠ 0 := by first | simpa using hc80 | simpa [and_assoc] using hc80
   refine co_true s rfl <| q2 ?_;refine pk0 (v := .int .i64 (chkP d (byteAt (pstr d.k) i))) s rfl fun _ s => ?_;refine pk0 (v := .int .i64 (chkP d (byteAt (pstr d.k) i))) s rfl fun _ s => q4 <| qr <| qr ?_;refine co_ret1 s rfl rfl ?_;obtain ⟨c, hc, hcb⟩ := byteAt_pstr (k := d.k) (i := i) (by omega);exact ⟨ret_int (by unfold chkMg; rw [if_pos (by omega), hcb]; exact cF_bad (f := cP d) (i := i) hL hc (by show chkP d _ ≠ 0; rw [← hcb]; omega)), hB81⟩
end Go.Proofs.Ytcbagajjgbfgdaa

/- The document's own messages: what is wrong with a part. Conditions: none. -/
namespace Go.Proofs.Ytcbagajjgbfgdaa
open Go.RowKit Go.PlainAid
set_option linter.unusedVariables false


/-- The document's letters. -/
def plet (c : Int) : Int := if c = 114 then 113 else if c = 69 then 76 else c
theorem pl_114 {c : Int} (h : c = 114) : plet c = 113 := by unfold plet; rw [if_pos h]
theorem pl_69 {c : Int} (h : c = 69) : plet c = 76 := by unfold plet; rw [if_neg (by omega), if_pos h]
theorem pl_o {c : Int} (h : ¬ c = 114) (h1 : ¬ c = 69) : plet c = c := by unfold plet; rw [if_neg h, if_neg h1]
def dlet (c : UInt8) : UInt8 := if c = 113 then 114 else if c = 76 then 69 else c
def rL (k : Int) : List UInt8 := if 1 ≤ k ∧ k ≤ 15 then (ptL k).map dlet else [63]
def rstr (k : Int) : ByteArray := ⟨(rL k).toArray⟩
theorem rstr_len (k : Int) : (rstr k).size = (rL k).length := by simp [rstr, ByteArray.size]
theorem rL_len {k : Int} (h : 1 ≤ k ∧ k ≤ 15) : (rL k).length = (ptL k).length := by unfold rL; rw [if_pos h]; simp
theorem u8_ne {c e : UInt8} (h : c ≠ e) : ((c.toNat : Nat) : Int) ≠ ((e.toNat : Nat) : Int) := fun q => h (UInt8.toNat.inj (by omega))
theorem dlet_back (c : UInt8) (h1 : c ≠ 114) (h2 : c ≠ 69) : plet ((dlet c).toNat : Int) = ((c.toNat : Nat) : Int) := by
  unfold dlet
  split
  · rename_i h; subst h; rfl
  split
  · rename_i h; subst h; rfl
  · exact pl_o (c := ((c.toNat : Nat) : Int)) (u8_ne (e := 114) h1) (u8_ne (e := 69) h2)
theorem ptL_no (k : Int) : (ptL k).all (fun c => decide (c ≠ 114) && decide (c ≠ 69)) = true := by
  unfold ptL
  repeat' split
  all_goals rfl
theorem plet_dlet {k : Int} {c : UInt8} (h : c ∈ ptL k) : plet ((dlet c).toNat : Int) = ((c.toNat : Nat) : Int) := by
  have := List.all_eq_true.1 (ptL_no k) c h
  simp only [Bool.and_eq_true, decide_eq_true_eq] at this
  exact dlet_back c this.1 this.2
theorem ptL_small (k : Int) : (ptL k).length ≤ 7 := by
  unfold ptL
  repeat' split
  all_goals decide
theorem rstr_small (k : Int) : (rstr k).size ≤ 7 := by
  rw [rstr_len]; unfold rL
  split
  · rw [List.length_map]; exact ptL_small k
  · decide
theorem dlet_no (c : UInt8) : (dlet c).toNat ≠ 113 ∧ (dlet c).toNat ≠ 76 := by
  unfold dlet
  split
  · decide
  split
  · decide
  · rename_i h1 h2; exact ⟨fun e => h1 (UInt8.toNat.inj e), fun e => h2 (UInt8.toNat.inj e)⟩
theorem byteAt_rstr {k : Int} {i : Nat} (hk : 1 ≤ k ∧ k ≤ 15) (h : i < (rstr k).size) : ∃ c, (ptL k)[i]? = some c ∧ plet (byteAt (rstr k) i) = ((c.toNat : Nat) : Int) ∧ byteAt (rstr k) i ≠ 113 ∧ byteAt (rstr k) i ≠ 76 := by
  have h' : i < (ptL k).length := by rw [rstr_len, rL_len hk] at h; exact h
  have e : byteAt (rstr k) i = ((dlet (ptL k)[i]).toNat : Int) := by
    unfold byteAt rstr rL
    rw [if_pos hk]; simp [h']
  refine ⟨(ptL k)[i], List.getElem?_eq_getElem h', ?_, ?_⟩
  · rw [e]; exact plet_dlet (List.getElem_mem h')
  · have := dlet_no (ptL k)[i]; rw [e]; omega
theorem rstr_q {k : Int} (h : 1 ≤ k ∧ k ≤ 15) : ¬ (rstr k).toList = (⟨#[63]⟩ : ByteArray).toList := by
  rcases (show k = 1 ∨ k = 2 ∨ k = 3 ∨ k = 4 ∨ k = 5 ∨ k = 6 ∨ k = 7 ∨ k = 8 ∨ k = 9 ∨ k = 10 ∨ k = 11 ∨ k = 12 ∨ k = 13 ∨ k = 14 ∨ k = 15 by omega) with e | e | e | e | e | e | e | e | e | e | e | e | e | e | e <;> subst e <;> decide +kernel
theorem rstr_n {k : Int} (h : ¬ (1 ≤ k ∧ k ≤ 15)) : rstr k = (⟨#[63]⟩ : ByteArray) := by unfold rstr rL; rw [if_neg h]
set_option maxRecDepth 100000 in
theorem rmParts_any (k : Int) (w : World)  :
    Calls Try.prog 28 #[.int .i64 k] w fun e w' => e = .returned (.string (rstr k)) ∧ Below w.heap.size w w' := by
 have hB0 := Below.refl w.heap.size w;refine co_enter (n := 31) Try.func28 rfl rfl rfl [(0, .int .i64 k)] rfl (fun a s => ?_);refine q2 ?_;refine pk0 (v := .string (⟨#[]⟩)) s rfl fun _ s => q6 ?_;refine pk0 (v := .int .i64 k) s rfl fun _ s => q1 <| wp_block <| q2 ?_;refine pk0 (v := .bool (k == 1)) s rfl fun _ s => ?_;refine pk0 (v := .bool (k == 1)) s rfl fun _ s => q1 ?_;cases hc5 : (k == 1)
 ·
  rw [hc5] at s;have hp6 : ¬ (k = 1) := by first | simpa using hc5 | simpa [and_assoc] using hc5
  refine co_false s rfl <| q2 ?_;refine pk0 (v := .bool (k == 2)) s rfl fun _ s => ?_;refine pk0 (v := .bool (k == 2)) s rfl fun _ s => q1 ?_;cases hc9 : (k == 2)
  ·
   rw [hc9] at s;have hp10 : ¬ (k = 2) := by first | simpa using hc9 | simpa [and_assoc] using hc9
   refine co_false s rfl <| q2 ?_;refine pk0 (v := .bool (k == 3)) s rfl fun _ s => ?_;refine pk0 (v := .bool (k == 3)) s rfl fun _ s => q1 ?_;cases hc13 : (k == 3)
   ·
    rw [hc13] at s;have hp14 : ¬ (k = 3) := by first | simpa using hc13 | simpa [and_assoc] using hc13
    refine co_false s rfl <| q2 ?_;refine pk0 (v := .bool (k == 4)) s rfl fun _ s => ?_;refine pk0 (v := .bool (k == 4)) s rfl fun _ s => q1 ?_;cases hc17 : (k == 4)
    ·
     rw [hc17] at s;have hp18 : ¬ (k = 4) := by first | simpa using hc17 | simpa [and_assoc] using hc17
     refine co_false s rfl <| q2 ?_;refine pk0 (v := .bool (k == 5)) s rfl fun _ s => ?_;refine pk0 (v := .bool (k == 5)) s rfl fun _ s => q1 ?_;cases hc21 : (k == 5)
     ·
      rw [hc21] at s;have hp22 : ¬ (k = 5) := by first | simpa using hc21 | simpa [and_assoc] using hc21
      refine co_false s rfl <| q9 ?_;refine pk0 (v := .bool (k == 6)) s rfl fun _ s => ?_;refine pk0 (v := .bool (k == 6)) s rfl fun _ s => q1 ?_;cases hc25 : (k == 6)
      ·
       rw [hc25] at s;have hp26 : ¬ (k = 6) := by first | simpa using hc25 | simpa [and_assoc] using hc25
       refine co_false s rfl <| co_reg ?_;refine pk0 (v := .bool (k == 11)) s rfl fun _ s => ?_;refine pk0 (v := .bool (k == 11)) s rfl fun _ s => q1 ?_;cases hc29 : (k == 11)
       ·
        rw [hc29] at s;have hp30 : ¬ (k = 11) := by first | simpa using hc29 | simpa [and_assoc] using hc29
        refine co_false s rfl <| q2 ?_;refine pk0 (v := .bool (k == 7)) s rfl fun _ s => ?_;refine pk0 (v := .bool (k == 7)) s rfl fun _ s => q1 ?_;cases hc33 : (k == 7)
        ·
         rw [hc33] at s;have hp34 : ¬ (k = 7) := by first | simpa using hc33 | simpa [and_assoc] using hc33
         refine co_false s rfl <| q2 ?_;refine pk0 (v := .bool (k == 8)) s rfl fun _ s => ?_;refine pk0 (v := .bool (k == 8)) s rfl fun _ s => q1 ?_;cases hc37 : (k == 8)
         ·
          rw [hc37] at s;have hp38 : ¬ (k = 8) := by first | simpa using hc37 | simpa [and_assoc] using hc37
          refine co_false s rfl <| q2 ?_;refine pk0 (v := .bool (k == 9)) s rfl fun _ s => ?_;refine pk0 (v := .bool (k == 9)) s rfl fun _ s => q1 ?_;cases hc41 : (k == 9)
          ·
           rw [hc41] at s;have hp42 : ¬ (k = 9) := by first | simpa using hc41 | simpa [and_assoc] using hc41
           refine co_false s rfl <| q2 ?_;refine pk0 (v := .bool (k == 10)) s rfl fun _ s => ?_;refine pk0 (v := .bool (k == 10)) s rfl fun _ s => q1 ?_;cases hc45 : (k == 10)
           ·
            rw [hc45] at s;have hp46 : ¬ (k = 10) := by first | simpa using hc45 | simpa [and_assoc] using hc45
            refine co_false s rfl <| q9 ?_;refine pk0 (v := .bool (k == 12)) s rfl fun _ s => ?_;refine pk0 (v := .bool (k == 12)) s rfl fun _ s => q1 ?_;cases hc49 : (k == 12)
            ·
             rw [hc49] at s;have hp50 : ¬ (k = 12) := by first | simpa using hc49 | simpa [and_assoc] using hc49
             refine co_false s rfl <| q2 ?_;refine pk0 (v := .bool (k == 13)) s rfl fun _ s => ?_;refine pk0 (v := .bool (k == 13)) s rfl fun _ s => q1 ?_;cases hc53 : (k == 13)
             ·
              rw [hc53] at s;have hp54 : ¬ (k = 13) := by first | simpa using hc53 | simpa [and_assoc] using hc53
              refine co_false s rfl <| co_reg ?_;refine pk0 (v := .bool (k == 14)) s rfl fun _ s => ?_;refine pk0 (v := .bool (k == 14)) s rfl fun _ s => q1 ?_;cases hc57 : (k == 14)
              ·
               rw [hc57] at s;have hp58 : ¬ (k = 14) := by first | simpa using hc57 | simpa [and_assoc] using hc57
               refine co_false s rfl <| q2 ?_;refine pk0 (v := .bool (k == 15)) s rfl fun _ s => ?_;refine pk0 (v := .bool (k == 15)) s rfl fun _ s => q1 ?_;cases hc61 : (k == 15)
               ·
                rw [hc61] at s;have hp62 : ¬ (k = 15) := by first | simpa using hc61 | simpa [and_assoc] using hc61
                refine co_false s rfl <| wp_skip <| co_blockN <| co_then <| q2 ?_;refine pk0 (v := .string (⟨#[63]⟩)) s rfl fun _ s => q4 ?_;refine co_ret1 s rfl rfl ?_;exact ⟨by rw [rstr_n (by omega)], hB0⟩
               rw [hc61] at s;have hp64 : k = 15 := by first | simpa using hc61 | simpa [and_assoc] using hc61
               refine co_true s rfl <| q2 ?_;refine pk0 (v := .string (⟨#[]⟩)) s rfl fun _ s => q4 <| qr ?_;refine co_ret1 s rfl rfl ?_;exact ⟨by rw [show k = 15 by omega]; rfl, hB0⟩
              rw [hc57] at s;have hp66 : k = 14 := by first | simpa using hc57 | simpa [and_assoc] using hc57
              refine co_true s rfl <| q2 ?_;refine pk0 (v := .string (⟨#[114, 110]⟩)) s rfl fun _ s => q4 <| qr ?_;refine co_ret1 s rfl rfl ?_;exact ⟨by rw [show k = 14 by omega]; rfl, hB0⟩
             rw [hc53] at s;have hp68 : k = 13 := by first | simpa using hc53 | simpa [and_assoc] using hc53
             refine co_true s rfl <| q0 ?_;refine co_true s rfl <| q2 ?_;refine pk0 (v := .string (⟨#[114, 110]⟩)) s rfl fun _ s => q4 <| qr ?_;refine co_ret1 s rfl rfl ?_;exact ⟨by rw [show k = 13 by omega]; rfl, hB0⟩
            rw [hc49] at s;have hp70 : k = 12 := by first | simpa using hc49 | simpa [and_assoc] using hc49
            refine co_true s rfl <| q0 ?_;refine co_true s rfl <| q2 ?_;refine pk0 (v := .string (⟨#[114, 110]⟩)) s rfl fun _ s => q4 <| qr ?_;refine co_ret1 s rfl rfl ?_;exact ⟨by rw [show k = 12 by omega]; rfl, hB0⟩
           rw [hc45] at s;have hp72 : k = 10 := by first | simpa using hc45 | simpa [and_assoc] using hc45
           refine co_true s rfl <| q2 ?_;refine pk0 (v := .string (⟨#[114, 107, 97, 102, 82]⟩)) s rfl fun _ s => q4 <| qr ?_;refine co_ret1 s rfl rfl ?_;exact ⟨by rw [show k = 10 by omega]; rfl, hB0⟩
          rw [hc41] at s;have hp74 : k = 9 := by first | simpa using hc41 | simpa [and_assoc] using hc41
          refine co_true s rfl <| q2 ?_;refine pk0 (v := .string (⟨#[114, 107, 116, 97, 110]⟩)) s rfl fun _ s => q4 <| qr ?_;refine co_ret1 s rfl rfl ?_;exact ⟨by rw [show k = 9 by omega]; rfl, hB0⟩
         rw [hc37] at s;have hp76 : k = 8 := by first | simpa using hc37 | simpa [and_assoc] using hc37
         refine co_true s rfl <| q2 ?_;refine pk0 (v := .string (⟨#[114, 107, 97]⟩)) s rfl fun _ s => q4 <| qr ?_;refine co_ret1 s rfl rfl ?_;exact ⟨by rw [show k = 8 by omega]; rfl, hB0⟩
        rw [hc33] at s;have hp78 : k = 7 := by first | simpa using hc33 | simpa [and_assoc] using hc33
        refine co_true s rfl <| q2 ?_;refine pk0 (v := .string (⟨#[114, 120, 101, 110]⟩)) s rfl fun _ s => q4 <| qr ?_;refine co_ret1 s rfl rfl ?_;exact ⟨by rw [show k = 7 by omega]; rfl, hB0⟩
       rw [hc29] at s;have hp80 : k = 11 := by first | simpa using hc29 | simpa [and_assoc] using hc29
       refine co_true s rfl <| q2 ?_;refine pk0 (v := .string (⟨#[114, 97]⟩)) s rfl fun _ s => q4 <| qr ?_;refine co_ret1 s rfl rfl ?_;exact ⟨by rw [show k = 11 by omega]; rfl, hB0⟩
      rw [hc25] at s;have hp82 : k = 6 := by first | simpa using hc25 | simpa [and_assoc] using hc25
      refine co_true s rfl <| q0 ?_;refine co_true s rfl <| q2 ?_;refine pk0 (v := .string (⟨#[114, 97]⟩)) s rfl fun _ s => q4 <| qr ?_;refine co_ret1 s rfl rfl ?_;exact ⟨by rw [show k = 6 by omega]; rfl, hB0⟩
     rw [hc21] at s;have hp84 : k = 5 := by first | simpa using hc21 | simpa [and_assoc] using hc21
     refine co_true s rfl <| q2 ?_;refine pk0 (v := .string (⟨#[101, 66]⟩)) s rfl fun _ s => q4 <| qr ?_;refine co_ret1 s rfl rfl ?_;exact ⟨by rw [show k = 5 by omega]; rfl, hB0⟩
    rw [hc17] at s;have hp86 : k = 4 := by first | simpa using hc17 | simpa [and_assoc] using hc17
    refine co_true s rfl <| q2 ?_;refine pk0 (v := .string (⟨#[101, 110, 109, 112, 83]⟩)) s rfl fun _ s => q4 <| qr ?_;refine co_ret1 s rfl rfl ?_;exact ⟨by rw [show k = 4 by omega]; rfl, hB0⟩
   rw [hc13] at s;have hp88 : k = 3 := by first | simpa using hc13 | simpa [and_assoc] using hc13
   refine co_true s rfl <| q2 ?_;refine pk0 (v := .string (⟨#[101, 110, 109, 112, 114, 97, 69]⟩)) s rfl fun _ s => q4 <| qr ?_;refine co_ret1 s rfl rfl ?_;exact ⟨by rw [show k = 3 by omega]; rfl, hB0⟩
  rw [hc9] at s;have hp90 : k = 2 := by first | simpa using hc9 | simpa [and_assoc] using hc9
  refine co_true s rfl <| q2 ?_;refine pk0 (v := .string (⟨#[101, 115, 102, 97, 108]⟩)) s rfl fun _ s => q4 <| qr ?_;refine co_ret1 s rfl rfl ?_;exact ⟨by rw [show k = 2 by omega]; rfl, hB0⟩
 rw [hc5] at s;have hp92 : k = 1 := by first | simpa using hc5 | simpa [and_assoc] using hc5
 refine co_true s rfl <| q2 ?_;refine pk0 (v := .string (⟨#[67, 97]⟩)) s rfl fun _ s => q4 <| qr ?_;refine co_ret1 s rfl rfl ?_;exact ⟨by rw [show k = 1 by omega]; rfl, hB0⟩
end Go.Proofs.Ytcbagajjgbfgdaa

/- Writers that were handed in; the document's own messages: a part is written. Conditions: none. -/
namespace Go.Proofs.Ytcbagajjgbfgdaa
open Go.RowKit Go.PlainAid
set_option linter.unusedVariables false
set_option linter.unusedSimpArgs false


/-- What a call on a writer, block b, may turn: b, and bytes that lie behind it. -/
def Ru (w : World) (b : Nat) (k : Nat) : Prop := k = b ∨ (b < k ∧ ∃ cs, w.heap[k]? = some (.cells cs 5 (0, 0)))
section
variable {w x w0 : World} {b N m : Nat} {l : List UInt8}
theorem ow_ru (h : OW b l m w) {k : Nat} (hk : Rw w b k) : Ru w b k := by
  rcases h.wr.only hk with h1 | h1
  · exact Or.inl h1
  · rcases hk with h2 | h2
    · exact Or.inl h2
    · exact Or.inr ⟨h1, h.wr.row_is h2⟩
theorem fb_ru (h0 : But (Ru w0 b) w0 w) (h : OW b l m w) (hb : But (Rw w b) w x) : But (Ru w0 b) w0 x :=
  h0.trans' hb (fun i hi hk => by
    rcases Classical.em (Ru w0 b i) with h1 | h1
    · exact h1
    · rcases ow_ru h hk with h2 | ⟨h2, cs, h3⟩
      · exact Or.inl h2
      · rw [h0.block i hi h1] at h3; exact Or.inr ⟨h2, cs, h3⟩)
theorem ru_below (hwb : w0.heap.size ≤ b) (h0 : Below w0.heap.size w0 w) (hb : But (Ru w b) w x) : Below w0.heap.size w0 x :=
  hb_foot h0 hb (fun i _ hi => by rcases hi with h1 | h1 <;> omega)
theorem blk_ru {T : TypeId} {cs : Array Value} (hk : Blk w N T cs) (hT : T ≠ 5) (hne : N ≠ b) (hb : But (Ru w b) w x) : Blk x N T cs :=
  hk.but hb (by
    rintro (h1 | ⟨_, c, h2⟩)
    · exact hne h1
    · unfold Blk at hk; rw [hk] at h2; injection h2 with h2; injection h2 with h2 h3; exact hT h3)
theorem sit_ru {r pos : Nat} {s : ByteArray} (h : SIt w r s pos) (hne : r ≠ b) (hb : But (Ru w b) w x) : SIt x r s pos :=
  h.but hb (by
    rintro (h1 | ⟨_, c, h2⟩)
    · exact hne h1
    · rw [show w.heap[r]? = _ from h] at h2; cases h2)
theorem OW.sit {r pos : Nat} {s : ByteArray} (h : OW b l m w) (hs : SIt w r s pos) (hne : b ≠ r) (hg : w.grownBy x (some r)) : OW b l m x :=
  ⟨h.wr.keep (grown_but hg) (fun e1 => hne (Option.some.inj e1).symm) (fun k hk' e1 => by
    obtain ⟨c, h1⟩ := h.wr.row_is hk'
    rw [← Option.some.inj e1, show w.heap[r]? = _ from hs] at h1; cases h1), h.len⟩
end
/-- The letters that a message's parts have. -/
def LetP (p : Int) : Prop := p = 101 ∨ p = 115 ∨ p = 113 ∨ p = 110 ∨ p = 109 ∨ p = 112 ∨ p = 120 ∨ p = 97 ∨ p = 108 ∨ p = 102 ∨ p = 107 ∨ p = 116 ∨ p = 67 ∨ p = 66 ∨ p = 76 ∨ p = 83 ∨ p = 82


/-- A text, with its length. -/
def txM (s : ByteArray) : List UInt8 := putL (s.size : Int) ++ s.data.toList
def putEn (e : EntT) : List UInt8 := txM (putE e.client e.req e.opl e.ts)
def putPr (y : PrT) : List UInt8 := txM y.1 ++ txM y.2
/-- The bytes of a part, by the program's letter. -/
def putP (d : MsgD) (p : Int) : List UInt8 :=
  if p = 102 then [flagB d.fg] else if p = 97 then putL d.at_ else if p = 108 then putL d.la
  else if p = 107 then txM d.key else if p = 116 then txM d.to_
  else if p = 67 then txM (putCf d.cep d.cms d.cfl) else if p = 66 then txM (putB d.bc d.br d.bl)
  else if p = 76 then putL ((d.en.length : Nat) : Int) ++ d.en.flatMap putEn
  else if p = 83 then putL ((d.st.length : Nat) : Int) ++ d.st.flatMap putL
  else if p = 82 then putL ((d.pr.length : Nat) : Int) ++ d.pr.flatMap putPr
  else putL (numP d p)
theorem pp_f {d : MsgD} {p : Int} (h : p = 102) : putP d p = [flagB d.fg] := by unfold putP; rw [if_pos h]
theorem pp_a {d : MsgD} {p : Int} (h : p = 97) : putP d p = putL d.at_ := by unfold putP; rw [if_neg (by omega), if_pos h]
theorem pp_l {d : MsgD} {p : Int} (h : p = 108) : putP d p = putL d.la := by unfold putP; rw [if_neg (by omega), if_neg (by omega), if_pos h]
theorem pp_k {d : MsgD} {p : Int} (h : p = 107) : putP d p = txM d.key := by unfold putP; rw [if_neg (by omega), if_neg (by omega), if_neg (by omega), if_pos h]
theorem pp_t {d : MsgD} {p : Int} (h : p = 116) : putP d p = txM d.to_ := by unfold putP; rw [if_neg (by omega), if_neg (by omega), if_neg (by omega), if_neg (by omega), if_pos h]
theorem pp_C {d : MsgD} {p : Int} (h : p = 67) : putP d p = txM (putCf d.cep d.cms d.cfl) := by unfold putP; rw [if_neg (by omega), if_neg (by omega), if_neg (by omega), if_neg (by omega), if_neg (by omega), if_pos h]
theorem pp_B {d : MsgD} {p : Int} (h : p = 66) : putP d p = txM (putB d.bc d.br d.bl) := by unfold putP; rw [if_neg (by omega), if_neg (by omega), if_neg (by omega), if_neg (by omega), if_neg (by omega), if_neg (by omega), if_pos h]
theorem pp_L {d : MsgD} {p : Int} (h : p = 76) : putP d p = putL ((d.en.length : Nat) : Int) ++ d.en.flatMap putEn := by unfold putP; rw [if_neg (by omega), if_neg (by omega), if_neg (by omega), if_neg (by omega), if_neg (by omega), if_neg (by omega), if_neg (by omega), if_pos h]
theorem pp_S {d : MsgD} {p : Int} (h : p = 83) : putP d p = putL ((d.st.length : Nat) : Int) ++ d.st.flatMap putL := by unfold putP; rw [if_neg (by omega), if_neg (by omega), if_neg (by omega), if_neg (by omega), if_neg (by omega), if_neg (by omega), if_neg (by omega), if_neg (by omega), if_pos h]
theorem pp_R {d : MsgD} {p : Int} (h : p = 82) : putP d p = putL ((d.pr.length : Nat) : Int) ++ d.pr.flatMap putPr := by unfold putP; rw [if_neg (by omega), if_neg (by omega), if_neg (by omega), if_neg (by omega), if_neg (by omega), if_neg (by omega), if_neg (by omega), if_neg (by omega), if_neg (by omega), if_pos h]
theorem pp_n {d : MsgD} {p : Int} (h : (p = 101 ∨ p = 115 ∨ p = 113 ∨ p = 110 ∨ p = 109 ∨ p = 112) ∨ p = 120) : putP d p = putL (numP d p) := by unfold putP; rw [if_neg (by omega), if_neg (by omega), if_neg (by omega), if_neg (by omega), if_neg (by omega), if_neg (by omega), if_neg (by omega), if_neg (by omega), if_neg (by omega), if_neg (by omega)]
theorem takeM {α : Type} {l : List α} {i : Nat} {y : α} (h : l[i]? = some y) : l.take (i + 1) = l.take i ++ [y] := by rw [List.take_add_one, h]; rfl
theorem cLs_len {α : Type} {m : Int} {f : α → Int} {l : List α} (h : chkLs m f l = 0) : (l.length : Int) ≤ m := by
  unfold chkLs at h; split at h
  · omega
  · omega
theorem cF_all {α : Type} {f : α → Int} : ∀ {l : List α}, chkF f l = 0 → ∀ y ∈ l, f y = 0
  | [], _, _, h => by cases h
  | x :: r, h, y, hy => by
    unfold chkF at h
    split at h
    · omega
    · rcases List.mem_cons.1 hy with rfl | hy
      · omega
      · exact cF_all h y hy
theorem cPair_ok {y : PrT} (h : chkPair y = 0) : y.1.size ≤ 8 ∧ y.2.size ≤ 8 := by
  unfold chkPair keyC at h
  repeat' split at h
  all_goals omega
theorem pr_small {d : MsgD} (h : chkLs 32 chkPair d.pr = 0) : ∀ y ∈ d.pr, y.1.size ≤ 8 ∧ y.2.size ≤ 8 := by
  have hl := cLs_len h
  unfold chkLs at h; rw [if_neg (by omega)] at h
  exact fun y hy => cPair_ok (cF_all h y hy)
/-- What a part that may be has. -/
theorem part_ok {d : MsgD} {p : Int} (h : chkP d p = 0) : (p = 120 → 0 ≤ d.e ∧ d.e ≤ 21) ∧ ((p = 101 ∨ p = 115 ∨ p = 113 ∨ p = 110 ∨ p = 109 ∨ p = 112) → 0 ≤ numP d p ∧ numP d p ≤ 1073741824) ∧ (p = 107 → d.key.size ≤ 8) ∧ (p = 116 → d.to_.size ≤ 8) ∧ (p = 76 → d.en.length ≤ 4) ∧ (p = 83 → d.st.length ≤ 8) ∧ (p = 82 → d.pr.length ≤ 32) := by
  refine ⟨fun e => ?_, fun e => ?_, fun e => ?_, fun e => ?_, fun e => ?_, fun e => ?_, fun e => ?_⟩
  · rw [cp_x e] at h; split at h <;> omega
  · rw [cp_n e] at h; split at h <;> omega
  · rw [cp_k e] at h; split at h <;> omega
  · rw [cp_t e] at h; split at h <;> omega
  · rw [cp_L e] at h; have := cLs_len h; omega
  · rw [cp_S e] at h; have := cLs_len h; omega
  · rw [cp_R e] at h; have := cLs_len h; omega
def LetD (c : Int) : Prop := (c ≠ 113 ∧ c ≠ 76) ∧ (c = 101 ∨ c = 115 ∨ c = 114 ∨ c = 110 ∨ c = 109 ∨ c = 112 ∨ c = 120 ∨ c = 97 ∨ c = 108 ∨ c = 102 ∨ c = 107 ∨ c = 116 ∨ c = 67 ∨ c = 66 ∨ c = 69 ∨ c = 83 ∨ c = 82)

end Go.Proofs.Ytcbagajjgbfgdaa

/- Package mess: a part is written. Conditions: none. -/
namespace Go.Proofs.Ytcbagajjgbfgdaa
open Go.RowKit Go.PlainAid
set_option linter.unusedVariables false
set_option linter.unusedSimpArgs false


theorem part_n {d : MsgD} {p : Int} (h : chkP d p = 0) (hp : (p = 101 ∨ p = 115 ∨ p = 113 ∨ p = 110 ∨ p = 109 ∨ p = 112) ∨ p = 120) : 0 ≤ numP d p ∧ numP d p ≤ 1073741824 := by
  rcases hp with hp | hp
  · exact (part_ok h).2.1 hp
  · have h1 := (part_ok h).1 hp
    have h2 := np_7 (d := d) (p := p) (by omega)
    omega

set_option maxRecDepth 100000 in
set_option maxHeartbeats 3200000 in
theorem mWrite_any (w0 : World) (b : Nat) (l0 : List UInt8) (m0 : Nat) (B : Nat) (d : MsgD) (mv : Value) (bv : Value) (ev : Value) (sv : Value) (pv : Value) (p : Int) (w : World) (hbw : Below w0.heap.size w0 w) (hwb : w0.heap.size ≤ b) (ho : OW b l0 m0 w) (hB : Blk w B 34 #[.int .i64 d.k, .int .i64 d.ep, .int .i64 d.rq, .int .i64 d.sr, .bool d.fg, .int .u64 d.at_, .int .u64 d.la, .int .i64 d.n, .int .i64 d.m, .int .i64 d.p, .int .i64 d.e, .string d.key, .string d.to_, .int .i64 d.cep, mv, .int .u64 d.cfl, .int .i64 d.bc, .int .i64 d.br, bv, ev, sv, pv]) (hm : SliceOf memE 2 w0 mv d.cms) (hb : SliceOf opE 3 w0 bv d.bl) (he : SliceOf entE 4 w0 ev d.en) (ht : SliceOf (intE .u64) 1 w0 sv d.st) (hp : SliceOf prE 2 w0 pv d.pr) (hok : ∀ z ∈ d.en, EntOk w0 z) (hR : MsgR d) (hc : LetP p) (hck : chkP d p = 0) (hm0 : m0 ≤ 100000) (hbB : b ≠ B) :
    Calls Try.prog 15 #[pt b 0, pt B 0, .int .i32 p] w fun e w' => e = .returned (.tuple #[]) ∧ OW b (l0 ++ putP d p) (m0 + 4000) w' ∧ But (Ru w b) w w' := by
 have hrng := hR.rng;have hnp := np_7 (d := d) (p := p);have hB0 := But.refl (Ru w b) w;have hl_ho := ho.lt;have hl_hB := hB.lt;have hl_hm := sl_len hm;have hl_hb := sl_len hb;have hl_he := sl_len he;have hl_ht := sl_len ht;have hl_hp := sl_len hp;refine co_enter (n := 153) Try.func15 rfl rfl rfl [(0, pt b 0), (1, pt B 0), (2, .int .i32 p)] rfl (fun a s => ?_);refine q2 ?_;refine pk0 (v := .int .i32 p) s rfl fun _ s => q1 <| wp_block <| q2 ?_;refine pk0 (v := .bool (p == 102)) s rfl fun _ s => ?_;refine pk0 (v := .bool (p == 102)) s rfl fun _ s => q1 ?_;cases hc4 : (p == 102)
 ·
  rw [hc4] at s;have hp5 : ¬ (p = 102) := by first | simpa using hc4 | simpa [and_assoc] using hc4
  refine co_false s rfl <| q9 ?_;refine pk0 (v := .bool (p == 97)) s rfl fun _ s => ?_;refine pk0 (v := .bool (p == 97)) s rfl fun _ s => q1 ?_;cases hc8 : (p == 97)
  ·
   rw [hc8] at s;have hp9 : ¬ (p = 97) := by first | simpa using hc8 | simpa [and_assoc] using hc8
   refine co_false s rfl <| co_reg ?_;refine pk0 (v := .bool (p == 108)) s rfl fun _ s => ?_;refine pk0 (v := .bool (p == 108)) s rfl fun _ s => q1 ?_;cases hc12 : (p == 108)
   ·
    rw [hc12] at s;have hp13 : ¬ (p = 108) := by first | simpa using hc12 | simpa [and_assoc] using hc12
    refine co_false s rfl <| q9 ?_;refine pk0 (v := .bool (p == 107)) s rfl fun _ s => ?_;refine pk0 (v := .bool (p == 107)) s rfl fun _ s => q1 ?_;cases hc16 : (p == 107)
    ·
     rw [hc16] at s;have hp17 : ¬ (p = 107) := by first | simpa using hc16 | simpa [and_assoc] using hc16
     refine co_false s rfl <| co_reg ?_;refine pk0 (v := .bool (p == 116)) s rfl fun _ s => ?_;refine pk0 (v := .bool (p == 116)) s rfl fun _ s => q1 ?_;cases hc20 : (p == 116)
     ·
      rw [hc20] at s;have hp21 : ¬ (p = 116) := by first | simpa using hc20 | simpa [and_assoc] using hc20
      refine co_false s rfl <| q2 ?_;refine pk0 (v := .bool (p == 67)) s rfl fun _ s => ?_;refine pk0 (v := .bool (p == 67)) s rfl fun _ s => q1 ?_;cases hc24 : (p == 67)
      ·
       rw [hc24] at s;have hp25 : ¬ (p = 67) := by first | simpa using hc24 | simpa [and_assoc] using hc24
       refine co_false s rfl <| q2 ?_;refine pk0 (v := .bool (p == 66)) s rfl fun _ s => ?_;refine pk0 (v := .bool (p == 66)) s rfl fun _ s => q1 ?_;cases hc28 : (p == 66)
       ·
        rw [hc28] at s;have hp29 : ¬ (p = 66) := by first | simpa using hc28 | simpa [and_assoc] using hc28
        refine co_false s rfl <| q2 ?_;refine pk0 (v := .bool (p == 76)) s rfl fun _ s => ?_;refine pk0 (v := .bool (p == 76)) s rfl fun _ s => q1 ?_;cases hc32 : (p == 76)
        ·
         rw [hc32] at s;have hp33 : ¬ (p = 76) := by first | simpa using hc32 | simpa [and_assoc] using hc32
         refine co_false s rfl <| q2 ?_;refine pk0 (v := .bool (p == 83)) s rfl fun _ s => ?_;refine pk0 (v := .bool (p == 83)) s rfl fun _ s => q1 ?_;cases hc36 : (p == 83)
         ·
          rw [hc36] at s;have hp37 : ¬ (p = 83) := by first | simpa using hc36 | simpa [and_assoc] using hc36
          refine co_false s rfl <| q2 ?_;refine pk0 (v := .bool (p == 82)) s rfl fun _ s => ?_;refine pk0 (v := .bool (p == 82)) s rfl fun _ s => q1 ?_;cases hc40 : (p == 82)
          ·
           rw [hc40] at s;have hp41 : ¬ (p = 82) := by first | simpa using hc40 | simpa [and_assoc] using hc40
           refine co_false s rfl <| co_reg ?_;refine pk0 (v := pt b 0) s rfl fun _ s => ?_;refine pk0 (v := pt B 0) s rfl fun _ s => ?_;refine pk0 (v := .int .i32 p) s rfl fun _ s => ?_;refine pw s rfl (op_call (args := #[pt B 0, .int .i32 p]) (R := fun res xw => res = .int .i64 (numP d p) ∧ Below w.heap.size w xw) rfl rfl rfl (by kernel_rfl) (by kernel_rfl) (Try.call42 _ _) (mNumber_any B d mv bv ev sv pv p w hB (hm.below (ru_below hwb hbw hB0)) (hb.below (ru_below hwb hbw hB0)) (he.below (ru_below hwb hbw hB0)) (ht.below (ru_below hwb hbw hB0)) (hp.below (ru_below hwb hbw hB0))) (by rintro e x ⟨rfl, hb47⟩; exact ⟨_, rfl, ⟨rfl, hb47⟩⟩)) ?_;rintro _ w46 a45 ⟨rfl, hb47⟩ s;have hz48 := hb47.size;have hcn : (p = 101 ∨ p = 115 ∨ p = 113 ∨ p = 110 ∨ p = 109 ∨ p = 112) ∨ p = 120 := by have hcc := hc; unfold LetP at hcc; omega
           have hpn := part_n hck hcn;have ho53 := ho.below hb47;refine pw s rfl (op_call (args := #[pt b 0, .int .i64 (numP d p)]) (R := fun res xw => res = pt b 0 ∧ OW b (l0 ++ putL (numP d p)) (m0 + 9) xw ∧ But (Rw w46 b) w46 xw) rfl rfl rfl (by kernel_rfl) (by kernel_rfl) (Try.call13 _ _) (ow_num b l0 m0 (numP d p) w46 ho53 (by omega) (by omega) (by omega)) (by rintro e x ⟨rfl, h1, h2⟩; exact ⟨_, rfl, rfl, h1, h2⟩)) ?_;rintro _ w50 a49 ⟨rfl, ho51, hx52⟩ s;have hz54 := hx52.size;have hl55 := ho51.lt;refine pl_nil <| co_blockN ?_;refine co_ret0n s rfl ?_;have hB56 := fb_call hB0 hb47;have hB57 := fb_ru hB56 ho53 hx52;have hpp := pp_n (d := d) (p := p) (by omega);exact ⟨rfl, ho51.eq (by rw [hpp] <;> simp [txM]) (by omega), hB57⟩
          rw [hc40] at s;have hp58 : p = 82 := by first | simpa using hc40 | simpa [and_assoc] using hc40
          refine co_true s rfl <| q2 ?_;refine pk0 (v := pt b 0) s rfl fun _ s => ?_;refine pk0 (v := pt B 0) s rfl fun _ s => ?_;refine pk0 (v := pt B 0) s rfl fun _ s => ?_;refine pk0 (v := pt B 21) s rfl fun _ s => ?_;refine pk (v := pv) s rfl (rn_load1 rfl rfl Try.isAgg32 (hB.cell rfl)) fun _ s => ?_;refine pk (v := .int .i64 (d.pr.length : Int)) s rfl (rn_len rfl rfl Try.underlying32 (hp.below (ru_below hwb hbw hB0))) fun _ s => ?_;have hpo67 := (part_ok hck).2.2.2.2.2.2 (by omega);refine pw s rfl (op_call (args := #[pt b 0, .int .i64 (d.pr.length : Int)]) (R := fun res xw => res = pt b 0 ∧ OW b (l0 ++ putL (d.pr.length : Int)) (m0 + 9) xw ∧ But (Rw w b) w xw) rfl rfl rfl (by kernel_rfl) (by kernel_rfl) (Try.call13 _ _) (ow_num b l0 m0 (d.pr.length : Int) w ho (by omega) (by omega) (by omega)) (by rintro e x ⟨rfl, h1, h2⟩; exact ⟨_, rfl, rfl, h1, h2⟩)) ?_;rintro _ w66 a65 ⟨rfl, ho68, hx69⟩ s;have hz70 := hx69.size;have hl71 := ho68.lt;refine q3 ?_;refine pk0 (v := pt B 0) s rfl fun _ s => ?_;refine pk0 (v := pt B 0) s rfl fun _ s => ?_;refine pk0 (v := pt B 21) s rfl fun _ s => ?_;have hk75 := blk_wr hB ho (by decide) (by omega) hx69;refine pk (v := pv) s rfl (rn_load1 rfl rfl Try.isAgg32 (hk75.cell rfl)) fun _ s => ?_;have hB77 := fb_ru hB0 ho hx69;refine pk (v := .int .i64 (d.pr.length : Int)) s rfl (rn_len rfl rfl Try.underlying32 (hp.below (ru_below hwb hbw hB77))) fun _ s => ?_;refine pk0 (v := .int .i64 0) s rfl fun _ s => q1 <| wp_block ?_;have hps := pr_small (d := d) (by rw [← cp_R (d := d) (p := p) (by omega)]; exact hck);have s : Slots 153 [(0, pt b 0), (1, pt B 0), (2, .int .i32 p), (139, pv), (140, .int .i64 (d.pr.length : Int)), (141, .int .i64 0)] _ := s.sub ⟨rfl, rfl, rfl, rfl, rfl, rfl, trivial⟩;refine co_loop (fun mm a x => ∃ (i : Nat), Slots 153 [(0, pt b 0), (1, pt B 0), (2, .int .i32 p), (139, pv), (140, .int .i64 (d.pr.length : Int)), (141, .int .i64 (i : Int))] a ∧ mm = d.pr.length - i ∧ (i ≤ d.pr.length) ∧ OW b ((l0 ++ putL (d.pr.length : Int)) ++ (d.pr.take i).flatMap putPr) ((m0 + 9) + 40 * i) x ∧ But (Ru w b) w x ∧ Blk x B 34 #[.int .i64 d.k, .int .i64 d.ep, .int .i64 d.rq, .int .i64 d.sr, .bool d.fg, .int .u64 d.at_, .int .u64 d.la, .int .i64 d.n, .int .i64 d.m, .int .i64 d.p, .int .i64 d.e, .string d.key, .string d.to_, .int .i64 d.cep, mv, .int .u64 d.cfl, .int .i64 d.bc, .int .i64 d.br, bv, ev, sv, pv]) (d.pr.length - 0) ?_ ?_
          · exact ⟨0, s.sub ⟨rfl, rfl, rfl, rfl, rfl, (slot_eq rfl (congrArg (Value.int .i64) (by first | rfl | omega))), trivial⟩, rfl, by omega, (ho68.eq (by first | (simp; done) | (rw [takeM (by assumption)]; simp [putPr, txM])) (by first | omega | (simp; done) | (simp; omega))), hB77, hk75⟩
          · rintro k81 a82 w83 ⟨i, s, rfl, hi84, hf85, hB86, hk87⟩
            have hz88 := hB86.size;have hl89 := hk87.lt;have hl90 := hf85.lt;refine q2 ?_;refine pk0 (v := .bool (decide ((i : Int) < (d.pr.length : Int)))) s rfl fun _ s => q1 <| co_seq ?_;cases hc92 : (decide ((i : Int) < (d.pr.length : Int)))
            ·
             rw [hc92] at s;have hp93 : ¬ ((i : Int) < (d.pr.length : Int)) := of_decide_eq_false hc92;refine co_false s rfl <| wp_exit <| co_thenX <| co_thenX <| co_blockX <| co_blockN ?_;refine co_ret0n s rfl ?_;have hpp := pp_R (d := d) (p := p) (by omega);have hta : d.pr.take i = d.pr := List.take_of_length_le (by omega);exact ⟨rfl, hf85.eq (by rw [hpp] <;> simp [txM, hta]) (by omega), hB86⟩
            rw [hc92] at s;have hp94 : (i : Int) < (d.pr.length : Int) := of_decide_eq_true hc92;refine co_true s rfl <| q0 <| co_seq <| wp_block <| q2 ?_;obtain ⟨y95, hy95⟩ : ∃ z, d.pr[i]? = some z := ⟨_, List.getElem?_eq_getElem (by first | omega | (simp; done) | (simp; omega))⟩;have oky95 := hps _ (List.mem_of_getElem? hy95);have k96 : y95.1.size ≤ 8 := oky95.1;have k97 : y95.2.size ≤ 8 := oky95.2;refine pk (v := pt (blkOf pv) (offOf pv + i * 2)) s rfl (rn_index rfl rfl rfl Try.underlying32 Try.sizeOf84 (hp.below (ru_below hwb hbw hB86)) (by omega) (by first | omega | (simp; done) | (simp; omega))) fun _ s => ?_;refine pk (v := .agg #[.string y95.1, .string y95.2]) s rfl (rn_loadN rfl rfl Try.underlying84 rfl (by kernel_rfl) (sl_at (hp.below (ru_below hwb hbw hB86)) hy95)) fun _ s => ?_;refine pw s rfl (op_new (v := fun N => pt N 0) (T := 84) (cs := #[.string (⟨#[]⟩), .string (⟨#[]⟩)]) (by kernel_rfl) (by kernel_rfl) (by kernel_rfl)) ?_;rintro _ w101 a100 ⟨N102, rfl, hN105, hz106, hk104, hg103⟩ s;have hz107 := hg103.size
            try dsimp only at s
            refine pwD s rfl (op_storeN rfl rfl rfl (by kernel_rfl) (by kernel_rfl) hk104 rfl) ?_;rintro _ w109 a108 ⟨hk110, hz111, hg112⟩ s;have hk110' : Blk w109 N102 84 #[.string y95.1, .string y95.2] := hk110;have hz113 := hg112.size;refine q1 ?_;refine dr_gen (fun x => But (Ru w b) w x ∧ Blk x N102 84 #[.string y95.1, .string y95.2]) (by kernel_rfl) (fun w114 hg115 => ?_) (fun w114 hg115 => ?_)
            ·
             have hz116 := hg115.size;have hB117 := fb_new hB86 hg103;have hB118 := fb_at hB117 hg112 (fun hlt => by first | (exfalso; omega) | (simp; done) | simp_all);have hB119 := fb_new hB118 hg115;have hk120 := hk110'.kept hg115 (by simp);exact ⟨hB119, hk120⟩
            have hz121 := hg115.size;have hB122 := fb_new hB86 hg103;have hB123 := fb_at hB122 hg112 (fun hlt => by first | (exfalso; omega) | (simp; done) | simp_all);have hB124 := fb_new hB123 hg115;have hk125 := hk110'.kept hg115 (by simp);refine dk0 0 (v := pt b 0) s rfl rfl ⟨hB124, hk125⟩ fun _ s => ?_;refine dk0 1 (v := pt N102 0) s rfl rfl ⟨hB124, hk125⟩ fun _ s => ?_;refine dk 2 (v := .string y95.1) s rfl rfl ⟨hB124, hk125⟩ (fun x hx => (rn_load1 rfl rfl Try.isAgg9 (hx.2.cell rfl))) fun _ s => ?_;refine dk0 4 (v := pt N102 1) s rfl rfl ⟨hB124, hk125⟩ fun _ s => ?_;refine dk 5 (v := .string y95.2) s rfl rfl ⟨hB124, hk125⟩ (fun x hx => (rn_load1 rfl rfl Try.isAgg9 (hx.2.cell rfl))) fun _ s => ?_;have ho135 := hf85.new hg103;have ho136 := ho135.at hk104 (by decide) (by omega) hg112;have ho137 := ho136.new hg115;refine d1 3 s rfl rfl (op_call (args := #[pt b 0, .string y95.1]) (R := fun res xw => res = pt b 0 ∧ OW b (((l0 ++ putL (d.pr.length : Int)) ++ (d.pr.take i).flatMap putPr) ++ (putL (y95.1.size : Int) ++ y95.1.data.toList)) ((m0 + 9) + 40 * i + (9 + y95.1.size)) xw ∧ But (Rw w114 b) w114 xw) rfl rfl rfl (by kernel_rfl) (by kernel_rfl) (Try.call37 _ _) (ow_text b ((l0 ++ putL (d.pr.length : Int)) ++ (d.pr.take i).flatMap putPr) ((m0 + 9) + 40 * i) y95.1 w114 ho137 (by first | omega | (simp; done) | (simp; omega))) (by rintro e x ⟨rfl, h1, h2⟩; exact ⟨_, rfl, rfl, h1, h2⟩)) ?_ ?_
            ·
             rintro _ w132 ⟨rfl, ho133, hx134⟩;have hz138 := hx134.size;have hl139 := ho133.lt;have hB140 := fb_ru hB124 ho137 hx134;have hk141 := blk_wr hk125 ho137 (by decide) (by omega) hx134;exact ⟨hB140, hk141⟩
            rintro _ w132 a131 ⟨rfl, ho133, hx134⟩ s;have hz138 := hx134.size;have hl139 := ho133.lt;have hB140 := fb_ru hB124 ho137 hx134;have hk141 := blk_wr hk125 ho137 (by decide) (by omega) hx134;refine d1 6 s rfl rfl (op_call (args := #[pt b 0, .string y95.2]) (R := fun res xw => res = pt b 0 ∧ OW b ((((l0 ++ putL (d.pr.length : Int)) ++ (d.pr.take i).flatMap putPr) ++ (putL (y95.1.size : Int) ++ y95.1.data.toList)) ++ (putL (y95.2.size : Int) ++ y95.2.data.toList)) ((m0 + 9) + 40 * i + (9 + y95.1.size) + (9 + y95.2.size)) xw ∧ But (Rw w132 b) w132 xw) rfl rfl rfl (by kernel_rfl) (by kernel_rfl) (Try.call37 _ _) (ow_text b (((l0 ++ putL (d.pr.length : Int)) ++ (d.pr.take i).flatMap putPr) ++ (putL (y95.1.size : Int) ++ y95.1.data.toList)) ((m0 + 9) + 40 * i + (9 + y95.1.size)) y95.2 w132 ho133 (by first | omega | (simp; done) | (simp; omega))) (by rintro e x ⟨rfl, h1, h2⟩; exact ⟨_, rfl, rfl, h1, h2⟩)) ?_ ?_
            ·
             rintro _ w143 ⟨rfl, ho144, hx145⟩;have hz146 := hx145.size;have hl147 := ho144.lt;have hB148 := fb_ru hB140 ho133 hx145;have hk149 := blk_wr hk141 ho133 (by decide) (by omega) hx145;exact ⟨hB148, hk149⟩
            rintro _ w143 a142 ⟨rfl, ho144, hx145⟩ s;have hz146 := hx145.size;have hl147 := ho144.lt;refine dr_done (by kernel_rfl) ?_;refine co_blockN <| co_then <| co_reg ?_;refine pk (v := .int .i64 ((i + 1 : Nat) : Int)) s rfl (rn_arith' rfl rfl rfl rfl rfl rfl (IntWalk.i64_in _ (by omega)) (by omega)) fun _ s => ?_;refine pk0 (v := .int .i64 ((i + 1 : Nat) : Int)) s rfl fun _ s => q1 ?_;refine ⟨(d.pr.length - (i + 1)), by omega, ?_⟩;have hB150 := fb_ru hB140 ho133 hx145;have hk151 := hk87.kept hg103 (by simp);have hk152 := hk151.kept hg112 (by simp; omega);have hk153 := hk152.kept hg115 (by simp);have hk154 := blk_wr hk153 ho137 (by decide) (by omega) hx134;have hk155 := blk_wr hk154 ho133 (by decide) (by omega) hx145;exact ⟨i + 1, s.sub ⟨rfl, rfl, rfl, rfl, rfl, rfl, trivial⟩, rfl, by omega, (ho144.eq (by first | (simp; done) | (rw [takeM (by assumption)]; simp [putPr, txM])) (by first | omega | (simp; done) | (simp; omega))), hB150, hk155⟩
         rw [hc36] at s;have hp156 : p = 83 := by first | simpa using hc36 | simpa [and_assoc] using hc36
         refine co_true s rfl <| q2 ?_;refine pk0 (v := pt b 0) s rfl fun _ s => ?_;refine pk0 (v := pt B 0) s rfl fun _ s => ?_;refine pk0 (v := pt B 0) s rfl fun _ s => ?_;refine pk0 (v := pt B 20) s rfl fun _ s => ?_;refine pk (v := sv) s rfl (rn_load1 rfl rfl Try.isAgg31 (hB.cell rfl)) fun _ s => ?_;refine pk (v := .int .i64 (d.st.length : Int)) s rfl (rn_len rfl rfl Try.underlying31 (ht.below (ru_below hwb hbw hB0))) fun _ s => ?_;have hpo165 := (part_ok hck).2.2.2.2.2.1 (by omega);refine pw s rfl (op_call (args := #[pt b 0, .int .i64 (d.st.length : Int)]) (R := fun res xw => res = pt b 0 ∧ OW b (l0 ++ putL (d.st.length : Int)) (m0 + 9) xw ∧ But (Rw w b) w xw) rfl rfl rfl (by kernel_rfl) (by kernel_rfl) (Try.call13 _ _) (ow_num b l0 m0 (d.st.length : Int) w ho (by omega) (by omega) (by omega)) (by rintro e x ⟨rfl, h1, h2⟩; exact ⟨_, rfl, rfl, h1, h2⟩)) ?_;rintro _ w164 a163 ⟨rfl, ho166, hx167⟩ s;have hz168 := hx167.size;have hl169 := ho166.lt;refine q3 ?_;refine pk0 (v := pt B 0) s rfl fun _ s => ?_;refine pk0 (v := pt B 0) s rfl fun _ s => ?_;refine pk0 (v := pt B 20) s rfl fun _ s => ?_;have hk173 := blk_wr hB ho (by decide) (by omega) hx167;refine pk (v := sv) s rfl (rn_load1 rfl rfl Try.isAgg31 (hk173.cell rfl)) fun _ s => ?_;have hB175 := fb_ru hB0 ho hx167;refine pk (v := .int .i64 (d.st.length : Int)) s rfl (rn_len rfl rfl Try.underlying31 (ht.below (ru_below hwb hbw hB175))) fun _ s => ?_;refine pk0 (v := .int .i64 0) s rfl fun _ s => q1 <| wp_block ?_;have s : Slots 153 [(0, pt b 0), (1, pt B 0), (2, .int .i32 p), (117, sv), (118, .int .i64 (d.st.length : Int)), (119, .int .i64 0)] _ := s.sub ⟨rfl, rfl, rfl, rfl, rfl, rfl, trivial⟩;refine co_loop (fun mm a x => ∃ (i : Nat), Slots 153 [(0, pt b 0), (1, pt B 0), (2, .int .i32 p), (117, sv), (118, .int .i64 (d.st.length : Int)), (119, .int .i64 (i : Int))] a ∧ mm = d.st.length - i ∧ (i ≤ d.st.length) ∧ OW b ((l0 ++ putL (d.st.length : Int)) ++ (d.st.take i).flatMap putL) ((m0 + 9) + 9 * i) x ∧ But (Ru w b) w x ∧ Blk x B 34 #[.int .i64 d.k, .int .i64 d.ep, .int .i64 d.rq, .int .i64 d.sr, .bool d.fg, .int .u64 d.at_, .int .u64 d.la, .int .i64 d.n, .int .i64 d.m, .int .i64 d.p, .int .i64 d.e, .string d.key, .string d.to_, .int .i64 d.cep, mv, .int .u64 d.cfl, .int .i64 d.bc, .int .i64 d.br, bv, ev, sv, pv]) (d.st.length - 0) ?_ ?_
         · exact ⟨0, s.sub ⟨rfl, rfl, rfl, rfl, rfl, (slot_eq rfl (congrArg (Value.int .i64) (by first | rfl | omega))), trivial⟩, rfl, by omega, (ho166.eq (by first | (simp; done) | (rw [takeM (by assumption)]; simp [putL, txM])) (by first | omega | (simp; done) | (simp; omega))), hB175, hk173⟩
         · rintro k179 a180 w181 ⟨i, s, rfl, hi182, hf183, hB184, hk185⟩
           have hz186 := hB184.size;have hl187 := hk185.lt;have hl188 := hf183.lt;refine q2 ?_;refine pk0 (v := .bool (decide ((i : Int) < (d.st.length : Int)))) s rfl fun _ s => q1 <| co_seq ?_;cases hc190 : (decide ((i : Int) < (d.st.length : Int)))
           ·
            rw [hc190] at s;have hp191 : ¬ ((i : Int) < (d.st.length : Int)) := of_decide_eq_false hc190;refine co_false s rfl <| wp_exit <| co_thenX <| co_thenX <| co_blockX <| co_blockN ?_;refine co_ret0n s rfl ?_;have hpp := pp_S (d := d) (p := p) (by omega);have hta : d.st.take i = d.st := List.take_of_length_le (by omega);exact ⟨rfl, hf183.eq (by rw [hpp] <;> simp [txM, hta]) (by omega), hB184⟩
           rw [hc190] at s;have hp192 : (i : Int) < (d.st.length : Int) := of_decide_eq_true hc190;refine co_true s rfl <| q0 <| co_seq <| wp_block <| q2 ?_;obtain ⟨y193, hy193⟩ : ∃ z, d.st[i]? = some z := ⟨_, List.getElem?_eq_getElem (by first | omega | (simp; done) | (simp; omega))⟩;have oky193 := hR.st _ (List.mem_of_getElem? hy193);have k194 : 0 ≤ y193 := oky193.1;have k195 : y193 < 18446744073709551616 := oky193.2;refine pk (v := pt (blkOf sv) (offOf sv + i * 1)) s rfl (rn_index rfl rfl rfl Try.underlying31 Try.sizeOf22 (ht.below (ru_below hwb hbw hB184)) (by omega) (by first | omega | (simp; done) | (simp; omega))) fun _ s => ?_;refine pk (v := .int .u64 y193) s rfl (rn_load1 rfl rfl Try.isAgg22 ((sl_at (ht.below (ru_below hwb hbw hB184)) hy193) 0 _ rfl)) fun _ s => ?_;refine pk0 (v := .int .u64 y193) s rfl fun _ s => q1 <| co_reg ?_;refine pk0 (v := pt b 0) s rfl fun _ s => ?_;refine pk0 (v := .int .u64 y193) s rfl fun _ s => ?_;refine pw s rfl (op_call (args := #[pt b 0, .int .u64 y193]) (R := fun res xw => res = pt b 0 ∧ OW b (((l0 ++ putL (d.st.length : Int)) ++ (d.st.take i).flatMap putL) ++ putL y193) ((m0 + 9) + 9 * i + 9) xw ∧ But (Rw w181 b) w181 xw) rfl rfl rfl (by kernel_rfl) (by kernel_rfl) (Try.call35 _ _) (ow_big b ((l0 ++ putL (d.st.length : Int)) ++ (d.st.take i).flatMap putL) ((m0 + 9) + 9 * i) y193 w181 hf183 (by omega) (by omega) (by omega)) (by rintro e x ⟨rfl, h1, h2⟩; exact ⟨_, rfl, rfl, h1, h2⟩)) ?_;rintro _ w202 a201 ⟨rfl, ho203, hx204⟩ s;have hz205 := hx204.size;have hl206 := ho203.lt;refine pl_nil <| co_blockN <| co_then <| co_reg ?_;refine pk (v := .int .i64 ((i + 1 : Nat) : Int)) s rfl (rn_arith' rfl rfl rfl rfl rfl rfl (IntWalk.i64_in _ (by omega)) (by omega)) fun _ s => ?_;refine pk0 (v := .int .i64 ((i + 1 : Nat) : Int)) s rfl fun _ s => q1 ?_;refine ⟨(d.st.length - (i + 1)), by omega, ?_⟩;have hB209 := fb_ru hB184 hf183 hx204;have hk210 := blk_wr hk185 hf183 (by decide) (by omega) hx204;exact ⟨i + 1, s.sub ⟨rfl, rfl, rfl, rfl, rfl, rfl, trivial⟩, rfl, by omega, (ho203.eq (by first | (simp; done) | (rw [takeM (by assumption)]; simp [putL, txM])) (by first | omega | (simp; done) | (simp; omega))), hB209, hk210⟩
        rw [hc32] at s;have hp211 : p = 76 := by first | simpa using hc32 | simpa [and_assoc] using hc32
        refine co_true s rfl <| q2 ?_;refine pk0 (v := pt b 0) s rfl fun _ s => ?_;refine pk0 (v := pt B 0) s rfl fun _ s => ?_;refine pk0 (v := pt B 0) s rfl fun _ s => ?_;refine pk0 (v := pt B 19) s rfl fun _ s => ?_;refine pk (v := ev) s rfl (rn_load1 rfl rfl Try.isAgg30 (hB.cell rfl)) fun _ s => ?_;refine pk (v := .int .i64 (d.en.length : Int)) s rfl (rn_len rfl rfl Try.underlying30 (he.below (ru_below hwb hbw hB0))) fun _ s => ?_;have hpo220 := (part_ok hck).2.2.2.2.1 (by omega);refine pw s rfl (op_call (args := #[pt b 0, .int .i64 (d.en.length : Int)]) (R := fun res xw => res = pt b 0 ∧ OW b (l0 ++ putL (d.en.length : Int)) (m0 + 9) xw ∧ But (Rw w b) w xw) rfl rfl rfl (by kernel_rfl) (by kernel_rfl) (Try.call13 _ _) (ow_num b l0 m0 (d.en.length : Int) w ho (by omega) (by omega) (by omega)) (by rintro e x ⟨rfl, h1, h2⟩; exact ⟨_, rfl, rfl, h1, h2⟩)) ?_;rintro _ w219 a218 ⟨rfl, ho221, hx222⟩ s;have hz223 := hx222.size;have hl224 := ho221.lt;refine q3 ?_;refine pk0 (v := pt B 0) s rfl fun _ s => ?_;refine pk0 (v := pt B 0) s rfl fun _ s => ?_;refine pk0 (v := pt B 19) s rfl fun _ s => ?_;have hk228 := blk_wr hB ho (by decide) (by omega) hx222;refine pk (v := ev) s rfl (rn_load1 rfl rfl Try.isAgg30 (hk228.cell rfl)) fun _ s => ?_;have hB230 := fb_ru hB0 ho hx222;refine pk (v := .int .i64 (d.en.length : Int)) s rfl (rn_len rfl rfl Try.underlying30 (he.below (ru_below hwb hbw hB230))) fun _ s => ?_;refine pk0 (v := .int .i64 0) s rfl fun _ s => q1 <| wp_block ?_;have s : Slots 153 [(0, pt b 0), (1, pt B 0), (2, .int .i32 p), (90, ev), (91, .int .i64 (d.en.length : Int)), (92, .int .i64 0)] _ := s.sub ⟨rfl, rfl, rfl, rfl, rfl, rfl, trivial⟩;refine co_loop (fun mm a x => ∃ (i : Nat), Slots 153 [(0, pt b 0), (1, pt B 0), (2, .int .i32 p), (90, ev), (91, .int .i64 (d.en.length : Int)), (92, .int .i64 (i : Int))] a ∧ mm = d.en.length - i ∧ (i ≤ d.en.length) ∧ OW b ((l0 ++ putL (d.en.length : Int)) ++ (d.en.take i).flatMap putEn) ((m0 + 9) + 300 * i) x ∧ But (Ru w b) w x ∧ Blk x B 34 #[.int .i64 d.k, .int .i64 d.ep, .int .i64 d.rq, .int .i64 d.sr, .bool d.fg, .int .u64 d.at_, .int .u64 d.la, .int .i64 d.n, .int .i64 d.m, .int .i64 d.p, .int .i64 d.e, .string d.key, .string d.to_, .int .i64 d.cep, mv, .int .u64 d.cfl, .int .i64 d.bc, .int .i64 d.br, bv, ev, sv, pv]) (d.en.length - 0) ?_ ?_
        · exact ⟨0, s.sub ⟨rfl, rfl, rfl, rfl, rfl, (slot_eq rfl (congrArg (Value.int .i64) (by first | rfl | omega))), trivial⟩, rfl, by omega, (ho221.eq (by first | (simp; done) | (rw [takeM (by assumption)]; simp [putEn, txM])) (by first | omega | (simp; done) | (simp; omega))), hB230, hk228⟩
        · rintro k234 a235 w236 ⟨i, s, rfl, hi237, hf238, hB239, hk240⟩
          have hz241 := hB239.size;have hl242 := hk240.lt;have hl243 := hf238.lt;refine q2 ?_;refine pk0 (v := .bool (decide ((i : Int) < (d.en.length : Int)))) s rfl fun _ s => q1 <| co_seq ?_;cases hc245 : (decide ((i : Int) < (d.en.length : Int)))
          ·
           rw [hc245] at s;have hp246 : ¬ ((i : Int) < (d.en.length : Int)) := of_decide_eq_false hc245;refine co_false s rfl <| wp_exit <| co_thenX <| co_thenX <| co_blockX <| co_blockN ?_;refine co_ret0n s rfl ?_;have hpp := pp_L (d := d) (p := p) (by omega);have hta : d.en.take i = d.en := List.take_of_length_le (by omega);exact ⟨rfl, hf238.eq (by rw [hpp] <;> simp [txM, hta]) (by omega), hB239⟩
          rw [hc245] at s;have hp247 : (i : Int) < (d.en.length : Int) := of_decide_eq_true hc245;refine co_true s rfl <| q0 <| co_seq <| wp_block <| q2 ?_;obtain ⟨y248, hy248⟩ : ∃ z, d.en[i]? = some z := ⟨_, List.getElem?_eq_getElem (by first | omega | (simp; done) | (simp; omega))⟩;have oky248 := hok _ (List.mem_of_getElem? hy248);have k249 : 0 ≤ y248.ts := oky248.ts0;have k250 : y248.ts < 18446744073709551616 := oky248.ts1;refine pk (v := pt (blkOf ev) (offOf ev + i * 4)) s rfl (rn_index rfl rfl rfl Try.underlying30 Try.sizeOf66 (he.below (ru_below hwb hbw hB239)) (by omega) (by first | omega | (simp; done) | (simp; omega))) fun _ s => ?_;refine pk (v := .agg #[.int .i64 y248.client, .int .i64 y248.req, y248.ops, .int .u64 y248.ts]) s rfl (rn_loadN rfl rfl Try.underlying66 rfl (by kernel_rfl) (sl_at (he.below (ru_below hwb hbw hB239)) hy248)) fun _ s => ?_;refine pw s rfl (op_new (v := fun N => pt N 0) (T := 66) (cs := #[.int .i64 0, .int .i64 0, .slice none 0 0, .int .u64 0]) (by kernel_rfl) (by kernel_rfl) (by kernel_rfl)) ?_;rintro _ w254 a253 ⟨N255, rfl, hN258, hz259, hk257, hg256⟩ s;have hz260 := hg256.size
          try dsimp only at s
          have hB266 := fb_new hB239 hg256;refine pwD s rfl (op_storeN rfl rfl rfl (all_cons rfl (all_cons rfl (all_cons (sl_one (oky248.ops.below (ru_below hwb hbw hB266))) (all_cons rfl all_nil)))) (by kernel_rfl) hk257 rfl) ?_;rintro _ w262 a261 ⟨hk263, hz264, hg265⟩ s;have hk263' : Blk w262 N255 66 #[.int .i64 y248.client, .int .i64 y248.req, y248.ops, .int .u64 y248.ts] := hk263;have hz267 := hg265.size;refine q3 ?_;refine pk (v := .agg #[.int .i64 y248.client, .int .i64 y248.req, y248.ops, .int .u64 y248.ts]) s rfl (rn_loadN rfl rfl Try.underlying66 rfl (by kernel_rfl) hk263'.all) fun _ s => ?_;have hB271 := fb_at hB266 hg265 (fun hlt => by first | (exfalso; omega) | (simp; done) | simp_all);refine pw s rfl (op_call (args := #[.agg #[.int .i64 y248.client, .int .i64 y248.req, y248.ops, .int .u64 y248.ts]]) (R := fun res xw => res = .tuple #[.string (putE y248.client y248.req y248.opl y248.ts), .int .i64 (chkB y248.client y248.req y248.opl)] ∧ Below w262.heap.size w262 xw) rfl rfl rfl (by kernel_rfl) (by kernel_rfl) (Try.call41 _ _) (itemPut_any y248.client y248.req y248.ops y248.opl y248.ts w262 (oky248.ops.below (ru_below hwb hbw hB271)) (by omega)) (by rintro e x ⟨rfl, hb272⟩; exact ⟨_, rfl, ⟨rfl, hb272⟩⟩)) ?_;rintro _ w270 a269 ⟨rfl, hb272⟩ s;have hz273 := hb272.size;refine pk0 (v := .tuple #[.string (putE y248.client y248.req y248.opl y248.ts), .int .i64 (chkB y248.client y248.req y248.opl)]) s rfl fun _ s => ?_;refine pk0 (v := .string (putE y248.client y248.req y248.opl y248.ts)) s rfl fun _ s => ?_;refine pk0 (v := .int .i64 (chkB y248.client y248.req y248.opl)) s rfl fun _ s => ?_;refine pk0 (v := .string (putE y248.client y248.req y248.opl y248.ts)) s rfl fun _ s => ?_;refine pk0 (v := .int .i64 (chkB y248.client y248.req y248.opl)) s rfl fun _ s => q1 <| co_reg ?_;refine pk0 (v := pt b 0) s rfl fun _ s => ?_;refine pk0 (v := .string (putE y248.client y248.req y248.opl y248.ts)) s rfl fun _ s => ?_;have hsm283 : (putE y248.client y248.req y248.opl y248.ts : ByteArray).size ≤ 220 := putE_small;have ho286 := hf238.new hg256;have ho287 := ho286.at hk257 (by decide) (by omega) hg265;have ho288 := ho287.below hb272;refine pw s rfl (op_call (args := #[pt b 0, .string (putE y248.client y248.req y248.opl y248.ts)]) (R := fun res xw => res = pt b 0 ∧ OW b (((l0 ++ putL (d.en.length : Int)) ++ (d.en.take i).flatMap putEn) ++ (putL ((putE y248.client y248.req y248.opl y248.ts : ByteArray).size : Int) ++ (putE y248.client y248.req y248.opl y248.ts : ByteArray).data.toList)) ((m0 + 9) + 300 * i + (9 + (putE y248.client y248.req y248.opl y248.ts : ByteArray).size)) xw ∧ But (Rw w270 b) w270 xw) rfl rfl rfl (by kernel_rfl) (by kernel_rfl) (Try.call37 _ _) (ow_text b ((l0 ++ putL (d.en.length : Int)) ++ (d.en.take i).flatMap putEn) ((m0 + 9) + 300 * i) (putE y248.client y248.req y248.opl y248.ts) w270 ho288 (by first | omega | (simp; done) | (simp; omega))) (by rintro e x ⟨rfl, h1, h2⟩; exact ⟨_, rfl, rfl, h1, h2⟩)) ?_;rintro _ w282 a281 ⟨rfl, ho284, hx285⟩ s;have hz289 := hx285.size;have hl290 := ho284.lt;refine pl_nil <| co_blockN <| co_then <| co_reg ?_;refine pk (v := .int .i64 ((i + 1 : Nat) : Int)) s rfl (rn_arith' rfl rfl rfl rfl rfl rfl (IntWalk.i64_in _ (by omega)) (by omega)) fun _ s => ?_;refine pk0 (v := .int .i64 ((i + 1 : Nat) : Int)) s rfl fun _ s => q1 ?_;refine ⟨(d.en.length - (i + 1)), by omega, ?_⟩;have hB293 := fb_call hB271 hb272;have hB294 := fb_ru hB293 ho288 hx285;have hk295 := hk240.kept hg256 (by simp);have hk296 := hk295.kept hg265 (by simp; omega);have hk297 := hk296.below hb272;have hk298 := blk_wr hk297 ho288 (by decide) (by omega) hx285;exact ⟨i + 1, s.sub ⟨rfl, rfl, rfl, rfl, rfl, rfl, trivial⟩, rfl, by omega, (ho284.eq (by first | (simp; done) | (rw [takeM (by assumption)]; simp [putEn, txM])) (by first | omega | (simp; done) | (simp; omega))), hB294, hk298⟩
       rw [hc28] at s;have hp299 : p = 66 := by first | simpa using hc28 | simpa [and_assoc] using hc28
       refine co_true s rfl <| q2 ?_;refine pk0 (v := pt B 0) s rfl fun _ s => ?_;refine pk0 (v := pt B 0) s rfl fun _ s => ?_;refine pk0 (v := pt B 16) s rfl fun _ s => ?_;refine pk (v := .agg #[.int .i64 d.bc, .int .i64 d.br, bv]) s rfl (rn_loadN rfl rfl Try.underlying29 rfl (by kernel_rfl) (blk_part hB 16 (by rfl))) fun _ s => ?_;refine pw s rfl (op_call (args := #[.agg #[.int .i64 d.bc, .int .i64 d.br, bv]]) (R := fun res xw => res = .tuple #[.string (putB d.bc d.br d.bl), .int .i64 (chkB d.bc d.br d.bl)] ∧ Below w.heap.size w xw) rfl rfl rfl (by kernel_rfl) (by kernel_rfl) (Try.call40 _ _) (opsPut_any d.bc d.br bv d.bl w (hb.below (ru_below hwb hbw hB0))) (by rintro e x ⟨rfl, hb306⟩; exact ⟨_, rfl, ⟨rfl, hb306⟩⟩)) ?_;rintro _ w305 a304 ⟨rfl, hb306⟩ s;have hz307 := hb306.size;refine pk0 (v := .tuple #[.string (putB d.bc d.br d.bl), .int .i64 (chkB d.bc d.br d.bl)]) s rfl fun _ s => ?_;refine pk0 (v := .string (putB d.bc d.br d.bl)) s rfl fun _ s => ?_;refine pk0 (v := .int .i64 (chkB d.bc d.br d.bl)) s rfl fun _ s => ?_;refine pk0 (v := .string (putB d.bc d.br d.bl)) s rfl fun _ s => ?_;refine pk0 (v := .int .i64 (chkB d.bc d.br d.bl)) s rfl fun _ s => q1 <| co_reg ?_;refine pk0 (v := pt b 0) s rfl fun _ s => ?_;refine pk0 (v := .string (putB d.bc d.br d.bl)) s rfl fun _ s => ?_;have hsm317 := putB_small (c := d.bc) (r := d.br) (l := d.bl);have ho320 := ho.below hb306;refine pw s rfl (op_call (args := #[pt b 0, .string (putB d.bc d.br d.bl)]) (R := fun res xw => res = pt b 0 ∧ OW b (l0 ++ (putL ((putB d.bc d.br d.bl : ByteArray).size : Int) ++ (putB d.bc d.br d.bl : ByteArray).data.toList)) (m0 + (9 + (putB d.bc d.br d.bl : ByteArray).size)) xw ∧ But (Rw w305 b) w305 xw) rfl rfl rfl (by kernel_rfl) (by kernel_rfl) (Try.call37 _ _) (ow_text b l0 m0 (putB d.bc d.br d.bl) w305 ho320 (by first | omega | (simp; done) | (simp; omega))) (by rintro e x ⟨rfl, h1, h2⟩; exact ⟨_, rfl, rfl, h1, h2⟩)) ?_;rintro _ w316 a315 ⟨rfl, ho318, hx319⟩ s;have hz321 := hx319.size;have hl322 := ho318.lt;refine pl_nil <| co_blockN ?_;refine co_ret0n s rfl ?_;have hB323 := fb_call hB0 hb306;have hB324 := fb_ru hB323 ho320 hx319;have hpp := pp_B (d := d) (p := p) (by omega);exact ⟨rfl, ho318.eq (by rw [hpp] <;> simp [txM]) (by omega), hB324⟩
      rw [hc24] at s;have hp325 : p = 67 := by first | simpa using hc24 | simpa [and_assoc] using hc24
      refine co_true s rfl <| q2 ?_;refine pk0 (v := pt B 0) s rfl fun _ s => ?_;refine pk0 (v := pt B 0) s rfl fun _ s => ?_;refine pk0 (v := pt B 13) s rfl fun _ s => ?_;refine pk (v := .agg #[.int .i64 d.cep, mv, .int .u64 d.cfl]) s rfl (rn_loadN rfl rfl Try.underlying26 rfl (by kernel_rfl) (blk_part hB 13 (by rfl))) fun _ s => ?_;refine pw s rfl (op_call (args := #[.agg #[.int .i64 d.cep, mv, .int .u64 d.cfl]]) (R := fun res xw => res = .tuple #[.string (putCf d.cep d.cms d.cfl), .int .i64 (chkC d.cep d.cms)] ∧ Below w.heap.size w xw) rfl rfl rfl (by kernel_rfl) (by kernel_rfl) (Try.call39 _ _) (cPut_any d.cep mv d.cms d.cfl w (hm.below (ru_below hwb hbw hB0)) hR.mem (by omega) (by omega)) (by rintro e x ⟨rfl, hb332⟩; exact ⟨_, rfl, ⟨rfl, hb332⟩⟩)) ?_;rintro _ w331 a330 ⟨rfl, hb332⟩ s;have hz333 := hb332.size;refine pk0 (v := .tuple #[.string (putCf d.cep d.cms d.cfl), .int .i64 (chkC d.cep d.cms)]) s rfl fun _ s => ?_;refine pk0 (v := .string (putCf d.cep d.cms d.cfl)) s rfl fun _ s => ?_;refine pk0 (v := .int .i64 (chkC d.cep d.cms)) s rfl fun _ s => ?_;refine pk0 (v := .string (putCf d.cep d.cms d.cfl)) s rfl fun _ s => ?_;refine pk0 (v := .int .i64 (chkC d.cep d.cms)) s rfl fun _ s => q1 <| co_reg ?_;refine pk0 (v := pt b 0) s rfl fun _ s => ?_;refine pk0 (v := .string (putCf d.cep d.cms d.cfl)) s rfl fun _ s => ?_;have hsm343 := putCf_small (ep := d.cep) (ms := d.cms) (fl := d.cfl);have ho346 := ho.below hb332;refine pw s rfl (op_call (args := #[pt b 0, .string (putCf d.cep d.cms d.cfl)]) (R := fun res xw => res = pt b 0 ∧ OW b (l0 ++ (putL ((putCf d.cep d.cms d.cfl : ByteArray).size : Int) ++ (putCf d.cep d.cms d.cfl : ByteArray).data.toList)) (m0 + (9 + (putCf d.cep d.cms d.cfl : ByteArray).size)) xw ∧ But (Rw w331 b) w331 xw) rfl rfl rfl (by kernel_rfl) (by kernel_rfl) (Try.call37 _ _) (ow_text b l0 m0 (putCf d.cep d.cms d.cfl) w331 ho346 (by first | omega | (simp; done) | (simp; omega))) (by rintro e x ⟨rfl, h1, h2⟩; exact ⟨_, rfl, rfl, h1, h2⟩)) ?_;rintro _ w342 a341 ⟨rfl, ho344, hx345⟩ s;have hz347 := hx345.size;have hl348 := ho344.lt;refine pl_nil <| co_blockN ?_;refine co_ret0n s rfl ?_;have hB349 := fb_call hB0 hb332;have hB350 := fb_ru hB349 ho346 hx345;have hpp := pp_C (d := d) (p := p) (by omega);exact ⟨rfl, ho344.eq (by rw [hpp] <;> simp [txM]) (by omega), hB350⟩
     rw [hc20] at s;have hp351 : p = 116 := by first | simpa using hc20 | simpa [and_assoc] using hc20
     refine co_true s rfl <| co_reg ?_;refine pk0 (v := pt b 0) s rfl fun _ s => ?_;refine pk0 (v := pt B 0) s rfl fun _ s => ?_;refine pk0 (v := .int .i32 p) s rfl fun _ s => ?_;refine pw s rfl (op_call (args := #[pt B 0, .int .i32 p]) (R := fun res xw => res = pt B 12 ∧ Below w.heap.size w xw) rfl rfl rfl (by kernel_rfl) (by kernel_rfl) (Try.call38 _ _) (mTextT_any B p w (by omega)) (by rintro e x ⟨rfl, hb357⟩; exact ⟨_, rfl, ⟨rfl, hb357⟩⟩)) ?_;rintro _ w356 a355 ⟨rfl, hb357⟩ s;have hz358 := hb357.size;refine pk0 (v := pt B 12) s rfl fun _ s => ?_;have hk360 := hB.below hb357;refine pk (v := .string d.to_) s rfl (rn_load1 rfl rfl Try.isAgg9 (hk360.cell rfl)) fun _ s => ?_;have hpo364 := (part_ok hck).2.2.2.1 (by omega);have ho367 := ho.below hb357;refine pw s rfl (op_call (args := #[pt b 0, .string d.to_]) (R := fun res xw => res = pt b 0 ∧ OW b (l0 ++ (putL (d.to_.size : Int) ++ d.to_.data.toList)) (m0 + (9 + d.to_.size)) xw ∧ But (Rw w356 b) w356 xw) rfl rfl rfl (by kernel_rfl) (by kernel_rfl) (Try.call37 _ _) (ow_text b l0 m0 d.to_ w356 ho367 (by first | omega | (simp; done) | (simp; omega))) (by rintro e x ⟨rfl, h1, h2⟩; exact ⟨_, rfl, rfl, h1, h2⟩)) ?_;rintro _ w363 a362 ⟨rfl, ho365, hx366⟩ s;have hz368 := hx366.size;have hl369 := ho365.lt;refine pl_nil <| co_blockN ?_;refine co_ret0n s rfl ?_;have hB370 := fb_call hB0 hb357;have hB371 := fb_ru hB370 ho367 hx366;have hpp := pp_t (d := d) (p := p) (by omega);exact ⟨rfl, ho365.eq (by rw [hpp] <;> simp [txM]) (by omega), hB371⟩
    rw [hc16] at s;have hp372 : p = 107 := by first | simpa using hc16 | simpa [and_assoc] using hc16
    refine co_true s rfl <| q0 ?_;refine co_true s rfl <| co_reg ?_;refine pk0 (v := pt b 0) s rfl fun _ s => ?_;refine pk0 (v := pt B 0) s rfl fun _ s => ?_;refine pk0 (v := .int .i32 p) s rfl fun _ s => ?_;refine pw s rfl (op_call (args := #[pt B 0, .int .i32 p]) (R := fun res xw => res = pt B 11 ∧ Below w.heap.size w xw) rfl rfl rfl (by kernel_rfl) (by kernel_rfl) (Try.call38 _ _) (mTextK_any B p w (by omega)) (by rintro e x ⟨rfl, hb378⟩; exact ⟨_, rfl, ⟨rfl, hb378⟩⟩)) ?_;rintro _ w377 a376 ⟨rfl, hb378⟩ s;have hz379 := hb378.size;refine pk0 (v := pt B 11) s rfl fun _ s => ?_;have hk381 := hB.below hb378;refine pk (v := .string d.key) s rfl (rn_load1 rfl rfl Try.isAgg9 (hk381.cell rfl)) fun _ s => ?_;have hpo385 := (part_ok hck).2.2.1 (by omega);have ho388 := ho.below hb378;refine pw s rfl (op_call (args := #[pt b 0, .string d.key]) (R := fun res xw => res = pt b 0 ∧ OW b (l0 ++ (putL (d.key.size : Int) ++ d.key.data.toList)) (m0 + (9 + d.key.size)) xw ∧ But (Rw w377 b) w377 xw) rfl rfl rfl (by kernel_rfl) (by kernel_rfl) (Try.call37 _ _) (ow_text b l0 m0 d.key w377 ho388 (by first | omega | (simp; done) | (simp; omega))) (by rintro e x ⟨rfl, h1, h2⟩; exact ⟨_, rfl, rfl, h1, h2⟩)) ?_;rintro _ w384 a383 ⟨rfl, ho386, hx387⟩ s;have hz389 := hx387.size;have hl390 := ho386.lt;refine pl_nil <| co_blockN ?_;refine co_ret0n s rfl ?_;have hB391 := fb_call hB0 hb378;have hB392 := fb_ru hB391 ho388 hx387;have hpp := pp_k (d := d) (p := p) (by omega);exact ⟨rfl, ho386.eq (by rw [hpp] <;> simp [txM]) (by omega), hB392⟩
   rw [hc12] at s;have hp393 : p = 108 := by first | simpa using hc12 | simpa [and_assoc] using hc12
   refine co_true s rfl <| co_reg ?_;refine pk0 (v := pt b 0) s rfl fun _ s => ?_;refine pk0 (v := pt B 0) s rfl fun _ s => ?_;refine pk0 (v := .int .i32 p) s rfl fun _ s => ?_;refine pw s rfl (op_call (args := #[pt B 0, .int .i32 p]) (R := fun res xw => res = pt B 6 ∧ Below w.heap.size w xw) rfl rfl rfl (by kernel_rfl) (by kernel_rfl) (Try.call36 _ _) (mBigL_any B p w (by omega)) (by rintro e x ⟨rfl, hb399⟩; exact ⟨_, rfl, ⟨rfl, hb399⟩⟩)) ?_;rintro _ w398 a397 ⟨rfl, hb399⟩ s;have hz400 := hb399.size;refine pk0 (v := pt B 6) s rfl fun _ s => ?_;have hk402 := hB.below hb399;refine pk (v := .int .u64 d.la) s rfl (rn_load1 rfl rfl Try.isAgg22 (hk402.cell rfl)) fun _ s => ?_;have ho408 := ho.below hb399;refine pw s rfl (op_call (args := #[pt b 0, .int .u64 d.la]) (R := fun res xw => res = pt b 0 ∧ OW b (l0 ++ putL d.la) (m0 + 9) xw ∧ But (Rw w398 b) w398 xw) rfl rfl rfl (by kernel_rfl) (by kernel_rfl) (Try.call35 _ _) (ow_big b l0 m0 d.la w398 ho408 (by omega) (by omega) (by omega)) (by rintro e x ⟨rfl, h1, h2⟩; exact ⟨_, rfl, rfl, h1, h2⟩)) ?_;rintro _ w405 a404 ⟨rfl, ho406, hx407⟩ s;have hz409 := hx407.size;have hl410 := ho406.lt;refine pl_nil <| co_blockN ?_;refine co_ret0n s rfl ?_;have hB411 := fb_call hB0 hb399;have hB412 := fb_ru hB411 ho408 hx407;have hpp := pp_l (d := d) (p := p) (by omega);exact ⟨rfl, ho406.eq (by rw [hpp] <;> simp [txM]) (by omega), hB412⟩
  rw [hc8] at s;have hp413 : p = 97 := by first | simpa using hc8 | simpa [and_assoc] using hc8
  refine co_true s rfl <| q0 ?_;refine co_true s rfl <| co_reg ?_;refine pk0 (v := pt b 0) s rfl fun _ s => ?_;refine pk0 (v := pt B 0) s rfl fun _ s => ?_;refine pk0 (v := .int .i32 p) s rfl fun _ s => ?_;refine pw s rfl (op_call (args := #[pt B 0, .int .i32 p]) (R := fun res xw => res = pt B 5 ∧ Below w.heap.size w xw) rfl rfl rfl (by kernel_rfl) (by kernel_rfl) (Try.call36 _ _) (mBigA_any B p w (by omega)) (by rintro e x ⟨rfl, hb419⟩; exact ⟨_, rfl, ⟨rfl, hb419⟩⟩)) ?_;rintro _ w418 a417 ⟨rfl, hb419⟩ s;have hz420 := hb419.size;refine pk0 (v := pt B 5) s rfl fun _ s => ?_;have hk422 := hB.below hb419;refine pk (v := .int .u64 d.at_) s rfl (rn_load1 rfl rfl Try.isAgg22 (hk422.cell rfl)) fun _ s => ?_;have ho428 := ho.below hb419;refine pw s rfl (op_call (args := #[pt b 0, .int .u64 d.at_]) (R := fun res xw => res = pt b 0 ∧ OW b (l0 ++ putL d.at_) (m0 + 9) xw ∧ But (Rw w418 b) w418 xw) rfl rfl rfl (by kernel_rfl) (by kernel_rfl) (Try.call35 _ _) (ow_big b l0 m0 d.at_ w418 ho428 (by omega) (by omega) (by omega)) (by rintro e x ⟨rfl, h1, h2⟩; exact ⟨_, rfl, rfl, h1, h2⟩)) ?_;rintro _ w425 a424 ⟨rfl, ho426, hx427⟩ s;have hz429 := hx427.size;have hl430 := ho426.lt;refine pl_nil <| co_blockN ?_;refine co_ret0n s rfl ?_;have hB431 := fb_call hB0 hb419;have hB432 := fb_ru hB431 ho428 hx427;have hpp := pp_a (d := d) (p := p) (by omega);exact ⟨rfl, ho426.eq (by rw [hpp] <;> simp [txM]) (by omega), hB432⟩
 rw [hc4] at s;have hp433 : p = 102 := by first | simpa using hc4 | simpa [and_assoc] using hc4
 refine co_true s rfl <| co_reg ?_;refine pk0 (v := pt b 0) s rfl fun _ s => ?_;refine pk0 (v := pt B 0) s rfl fun _ s => ?_;refine pk0 (v := pt B 0) s rfl fun _ s => ?_;refine pk0 (v := pt B 4) s rfl fun _ s => ?_;refine pk (v := .bool d.fg) s rfl (rn_load1 rfl rfl Try.isAgg4 (hB.cell rfl)) fun _ s => ?_;refine pw s rfl (op_call (args := #[pt b 0, .bool d.fg]) (R := fun res xw => res = pt b 0 ∧ OW b (l0 ++ [flagB d.fg]) (m0 + 1) xw ∧ But (Rw w b) w xw) rfl rfl rfl (by kernel_rfl) (by kernel_rfl) (Try.call34 _ _) (ow_flag b l0 m0 d.fg w ho (by omega)) (by rintro e x ⟨rfl, h1, h2⟩; exact ⟨_, rfl, rfl, h1, h2⟩)) ?_;rintro _ w440 a439 ⟨rfl, ho441, hx442⟩ s;have hz443 := hx442.size;have hl444 := ho441.lt;refine pl_nil <| co_blockN ?_;refine co_ret0n s rfl ?_;have hB445 := fb_ru hB0 ho hx442;have hpp := pp_f (d := d) (p := p) (by omega);exact ⟨rfl, ho441.eq (by rw [hpp] <;> simp [txM]) (by omega), hB445⟩
end Go.Proofs.Ytcbagajjgbfgdaa

/- Package mess and the document's own: Put. Conditions: none. -/
namespace Go.Proofs.Ytcbagajjgbfgdaa
open Go.RowKit Go.PlainAid
set_option linter.unusedVariables false
set_option linter.unusedSimpArgs false


def qP (d : MsgD) (c : UInt8) : List UInt8 := putP d (c.toNat : Int)
/-- The bytes of a message that may be put. -/
def putML (d : MsgD) : List UInt8 := putL d.k ++ (ptL d.k).flatMap (qP d)
def putM9 (d : MsgD) : ByteArray := if chkMg d = 0 then ⟨(putML d).toArray⟩ else ⟨#[]⟩
theorem putM9_ok {d : MsgD} (h : chkMg d = 0) : putM9 d = ⟨(putML d).toArray⟩ := if_pos h
theorem putM9_err {d : MsgD} (h : chkMg d ≠ 0) : putM9 d = ⟨#[]⟩ := if_neg h
theorem ptL_let (k : Int) : ∀ c ∈ ptL k, LetP (c.toNat : Int) := by
  have h : (ptL k).all (fun c => decide (c = 101 ∨ c = 115 ∨ c = 113 ∨ c = 110 ∨ c = 109 ∨ c = 112 ∨ c = 120 ∨ c = 97 ∨ c = 108 ∨ c = 102 ∨ c = 107 ∨ c = 116 ∨ c = 67 ∨ c = 66 ∨ c = 76 ∨ c = 83 ∨ c = 82)) = true := by
    unfold ptL
    repeat' split
    all_goals rfl
  intro c hc
  have := of_decide_eq_true (List.all_eq_true.1 h c hc)
  unfold LetP
  rcases this with e | e | e | e | e | e | e | e | e | e | e | e | e | e | e | e | e <;> subst e <;> decide
theorem dlet_let {c : UInt8} (h : LetP (c.toNat : Int)) : LetD ((dlet c).toNat : Int) := by
  have hc : c = 101 ∨ c = 115 ∨ c = 113 ∨ c = 110 ∨ c = 109 ∨ c = 112 ∨ c = 120 ∨ c = 97 ∨ c = 108 ∨ c = 102 ∨ c = 107 ∨ c = 116 ∨ c = 67 ∨ c = 66 ∨ c = 76 ∨ c = 83 ∨ c = 82 := by
    unfold LetP at h
    rcases h with e | e | e | e | e | e | e | e | e | e | e | e | e | e | e | e | e
    · exact .inl (UInt8.toNat.inj (by simp; omega))
    · exact .inr (.inl (UInt8.toNat.inj (by simp; omega)))
    · exact .inr (.inr (.inl (UInt8.toNat.inj (by simp; omega))))
    · exact .inr (.inr (.inr (.inl (UInt8.toNat.inj (by simp; omega)))))
    · exact .inr (.inr (.inr (.inr (.inl (UInt8.toNat.inj (by simp; omega))))))
    · exact .inr (.inr (.inr (.inr (.inr (.inl (UInt8.toNat.inj (by simp; omega)))))))
    · exact .inr (.inr (.inr (.inr (.inr (.inr (.inl (UInt8.toNat.inj (by simp; omega))))))))
    · exact .inr (.inr (.inr (.inr (.inr (.inr (.inr (.inl (UInt8.toNat.inj (by simp; omega)))))))))
    · exact .inr (.inr (.inr (.inr (.inr (.inr (.inr (.inr (.inl (UInt8.toNat.inj (by simp; omega))))))))))
    · exact .inr (.inr (.inr (.inr (.inr (.inr (.inr (.inr (.inr (.inl (UInt8.toNat.inj (by simp; omega)))))))))))
    · exact .inr (.inr (.inr (.inr (.inr (.inr (.inr (.inr (.inr (.inr (.inl (UInt8.toNat.inj (by simp; omega))))))))))))
    · exact .inr (.inr (.inr (.inr (.inr (.inr (.inr (.inr (.inr (.inr (.inr (.inl (UInt8.toNat.inj (by simp; omega)))))))))))))
    · exact .inr (.inr (.inr (.inr (.inr (.inr (.inr (.inr (.inr (.inr (.inr (.inr (.inl (UInt8.toNat.inj (by simp; omega))))))))))))))
    · exact .inr (.inr (.inr (.inr (.inr (.inr (.inr (.inr (.inr (.inr (.inr (.inr (.inr (.inl (UInt8.toNat.inj (by simp; omega)))))))))))))))
    · exact .inr (.inr (.inr (.inr (.inr (.inr (.inr (.inr (.inr (.inr (.inr (.inr (.inr (.inr (.inl (UInt8.toNat.inj (by simp; omega))))))))))))))))
    · exact .inr (.inr (.inr (.inr (.inr (.inr (.inr (.inr (.inr (.inr (.inr (.inr (.inr (.inr (.inr (.inl (UInt8.toNat.inj (by simp; omega)))))))))))))))))
    · exact .inr (.inr (.inr (.inr (.inr (.inr (.inr (.inr (.inr (.inr (.inr (.inr (.inr (.inr (.inr (.inr (UInt8.toNat.inj (by simp; omega)))))))))))))))))
  unfold LetD
  rcases hc with e | e | e | e | e | e | e | e | e | e | e | e | e | e | e | e | e <;> subst e <;> decide
theorem qP_at {d : MsgD} {c : UInt8} {q : Int} (h : q = ((c.toNat : Nat) : Int)) : putP d q = qP d c := by subst h; rfl
theorem cMg_at {d : MsgD} (h : chkMg d = 0) {i : Nat} {c : UInt8} (hc : (ptL d.k)[i]? = some c) : chkP d (c.toNat : Int) = 0 := by
  unfold chkMg at h
  split at h
  · exact cF_all h c (List.mem_of_getElem? hc)
  · omega
theorem cMg_k {d : MsgD} (h : chkMg d = 0) : 1 ≤ d.k ∧ d.k ≤ 15 := by
  unfold chkMg at h
  split at h
  · assumption
  · omega
theorem byteAt_rs {k : Int} {i : Nat} {c : UInt8} (hk : 1 ≤ k ∧ k ≤ 15) (h : (ptL k)[i]? = some c) : byteAt (rstr k) i = ((dlet c).toNat : Int) := by
  obtain ⟨h', rfl⟩ := List.getElem?_eq_some_iff.1 h
  unfold byteAt rstr rL
  rw [if_pos hk]; simp [h']
theorem letD_at {k : Int} {i : Nat} {c : UInt8} (hk : 1 ≤ k ∧ k ≤ 15) (h : (ptL k)[i]? = some c) : LetD (byteAt (rstr k) i) := by
  rw [byteAt_rs hk h]; exact dlet_let (ptL_let k c (List.mem_of_getElem? h))

set_option maxRecDepth 100000 in
theorem mPut_any (d : MsgD) (mv : Value) (bv : Value) (ev : Value) (sv : Value) (pv : Value) (w : World) (hm : SliceOf memE 2 w mv d.cms) (hb : SliceOf opE 3 w bv d.bl) (he : SliceOf entE 4 w ev d.en) (ht : SliceOf (intE .u64) 1 w sv d.st) (hp : SliceOf prE 2 w pv d.pr) (hok : ∀ z ∈ d.en, EntOk w z) (hR : MsgR d) :
    Calls Try.prog 6 #[.agg #[.int .i64 d.k, .int .i64 d.ep, .int .i64 d.rq, .int .i64 d.sr, .bool d.fg, .int .u64 d.at_, .int .u64 d.la, .int .i64 d.n, .int .i64 d.m, .int .i64 d.p, .int .i64 d.e, .string d.key, .string d.to_, .int .i64 d.cep, mv, .int .u64 d.cfl, .int .i64 d.bc, .int .i64 d.br, bv, ev, sv, pv]] w fun e w' => e = .returned (.tuple #[.string (putM9 d), .int .i64 (chkMg d)]) ∧ Below w.heap.size w w' := by
 have hrng := hR.rng;have hkk : chkMg d = 0 → 1 ≤ d.k ∧ d.k ≤ 15 := cMg_k;have hps := pstr_len d.k;have hps2 := ptL_small d.k;have hB0 := Below.refl w.heap.size w;have hl_hm := sl_len hm;have hl_hb := sl_len hb;have hl_he := sl_len he;have hl_ht := sl_len ht;have hl_hp := sl_len hp;refine co_enter (n := 31) Try.func6 rfl rfl rfl [(0, .agg #[.int .i64 d.k, .int .i64 d.ep, .int .i64 d.rq, .int .i64 d.sr, .bool d.fg, .int .u64 d.at_, .int .u64 d.la, .int .i64 d.n, .int .i64 d.m, .int .i64 d.p, .int .i64 d.e, .string d.key, .string d.to_, .int .i64 d.cep, mv, .int .u64 d.cfl, .int .i64 d.bc, .int .i64 d.br, bv, ev, sv, pv])] rfl (fun a s => ?_);refine q2 ?_;refine pw s rfl (op_new (v := fun N => pt N 0) (T := 34) (cs := #[.int .i64 d.k, .int .i64 d.ep, .int .i64 d.rq, .int .i64 d.sr, .bool d.fg, .int .u64 d.at_, .int .u64 d.la, .int .i64 d.n, .int .i64 d.m, .int .i64 d.p, .int .i64 d.e, .string d.key, .string d.to_, .int .i64 d.cep, mv, .int .u64 d.cfl, .int .i64 d.bc, .int .i64 d.br, bv, ev, sv, pv]) (by kernel_rfl) (by kernel_rfl) (by kernel_rfl)) ?_;rintro _ w2 a1 ⟨N3, rfl, hN6, hz7, hk5, hg4⟩ s;have hz8 := hg4.size
 try dsimp only at s
 refine pk0 (v := .string (⟨#[]⟩)) s rfl fun _ s => ?_;refine pk0 (v := .int .i64 0) s rfl fun _ s => q6 ?_;refine pk (v := .agg #[.int .i64 d.k, .int .i64 d.ep, .int .i64 d.rq, .int .i64 d.sr, .bool d.fg, .int .u64 d.at_, .int .u64 d.la, .int .i64 d.n, .int .i64 d.m, .int .i64 d.p, .int .i64 d.e, .string d.key, .string d.to_, .int .i64 d.cep, mv, .int .u64 d.cfl, .int .i64 d.bc, .int .i64 d.br, bv, ev, sv, pv]) s rfl (rn_loadN rfl rfl Try.underlying34 rfl (by kernel_rfl) hk5.all) fun _ s => ?_;have hB14 := hb_new hB0 hg4;refine pw s rfl (op_call (args := #[.agg #[.int .i64 d.k, .int .i64 d.ep, .int .i64 d.rq, .int .i64 d.sr, .bool d.fg, .int .u64 d.at_, .int .u64 d.la, .int .i64 d.n, .int .i64 d.m, .int .i64 d.p, .int .i64 d.e, .string d.key, .string d.to_, .int .i64 d.cep, mv, .int .u64 d.cfl, .int .i64 d.bc, .int .i64 d.br, bv, ev, sv, pv]]) (R := fun res xw => res = .int .i64 (chkMg d) ∧ Below w2.heap.size w2 xw) rfl rfl rfl (by kernel_rfl) (by kernel_rfl) (Try.call11 _ _) (mCheck_any d mv bv ev sv pv w2 (hm.below hB14) (hb.below hB14) (he.below hB14) (ht.below hB14) (hp.below hB14) (fun z hz => (hok z hz).below hB14) hR) (by rintro e x ⟨rfl, hb15⟩; exact ⟨_, rfl, ⟨rfl, hb15⟩⟩)) ?_;rintro _ w13 a12 ⟨rfl, hb15⟩ s;have hz16 := hb15.size;refine pk0 (v := .int .i64 (chkMg d)) s rfl fun _ s => q3 ?_;refine pk0 (v := .int .i64 (chkMg d)) s rfl fun _ s => ?_;refine pk0 (v := .bool (chkMg d != 0)) s rfl fun _ s => q1 ?_;have hB21 := hb_call hB14 hb15;cases hc20 : (chkMg d != 0)
 ·
  rw [hc20] at s;have hp22 : ¬ (chkMg d ≠ 0) := by first | simpa using hc20 | simpa [and_assoc] using hc20
  refine co_false s rfl <| q0 <| co_seq ?_;refine dr_gen (fun x => Below w.heap.size w x ∧ Blk x N3 34 #[.int .i64 d.k, .int .i64 d.ep, .int .i64 d.rq, .int .i64 d.sr, .bool d.fg, .int .u64 d.at_, .int .u64 d.la, .int .i64 d.n, .int .i64 d.m, .int .i64 d.p, .int .i64 d.e, .string d.key, .string d.to_, .int .i64 d.cep, mv, .int .u64 d.cfl, .int .i64 d.bc, .int .i64 d.br, bv, ev, sv, pv]) (by kernel_rfl) (fun w23 hg24 => ?_) (fun w23 hg24 => ?_)
  ·
   have hz25 := hg24.size;have hB26 := hb_new hB21 hg24;have hk27 := hk5.below hb15;have hk28 := hk27.kept hg24 (by simp);exact ⟨hB26, hk28⟩
  have hz29 := hg24.size;have hB30 := hb_new hB21 hg24;have hk31 := hk5.below hb15;have hk32 := hk31.kept hg24 (by simp);refine dk0 1 (v := pt N3 0) s rfl rfl ⟨hB30, hk32⟩ fun _ s => ?_;refine dk 2 (v := .int .i64 d.k) s rfl rfl ⟨hB30, hk32⟩ (fun x hx => (rn_load1 rfl rfl Try.isAgg3 (hx.2.cell rfl))) fun _ s => ?_;refine d1 0 s rfl rfl (op_call (args := #[]) (R := fun res xw => ∃ b : Nat, res = pt b 0 ∧ b = w23.heap.size ∧ OW b [] 0 xw ∧ Below w23.heap.size w23 xw) rfl rfl rfl (by kernel_rfl) (by kernel_rfl) (Try.call12 _ _) (ow_new w23) (by rintro e x ⟨b, rfl, h0, h1, h2⟩; exact ⟨_, rfl, b, rfl, h0, h1, h2⟩)) ?_ ?_
  ·
   rintro _ w36 ⟨b37, rfl, hN38, ho39, hb40⟩;have hz41 := hb40.size;have hl42 := ho39.lt;have hB43 := hb_call hB30 hb40;have hk44 := hk32.below hb40;exact ⟨hB43, hk44⟩
  rintro _ w36 a35 ⟨b37, rfl, hN38, ho39, hb40⟩ s;have hz41 := hb40.size;have hl42 := ho39.lt;have hB43 := hb_call hB30 hb40;have hk44 := hk32.below hb40;refine d1 3 s rfl rfl (op_call (args := #[pt b37 0, .int .i64 d.k]) (R := fun res xw => res = pt b37 0 ∧ OW b37 (([] : List UInt8) ++ putL d.k) (0 + 9) xw ∧ But (Rw w36 b37) w36 xw) rfl rfl rfl (by kernel_rfl) (by kernel_rfl) (Try.call13 _ _) (ow_num b37 ([]) 0 d.k w36 ho39 (by omega) (by omega) (by omega)) (by rintro e x ⟨rfl, h1, h2⟩; exact ⟨_, rfl, rfl, h1, h2⟩)) ?_ ?_
  ·
   rintro _ w46 ⟨rfl, ho47, hx48⟩;have hz49 := hx48.size;have hl50 := ho47.lt;have hB51 := hb_wr hB43 ho39 (by omega) hx48;have hk52 := blk_wr hk44 ho39 (by decide) (by omega) hx48;exact ⟨hB51, hk52⟩
  rintro _ w46 a45 ⟨rfl, ho47, hx48⟩ s;have hz49 := hx48.size;have hl50 := ho47.lt;have hB51 := hb_wr hB43 ho39 (by omega) hx48;have hk52 := blk_wr hk44 ho39 (by decide) (by omega) hx48;refine dk0 4 (v := pt b37 0) s rfl rfl ⟨hB51, hk52⟩ fun _ s => ?_;refine dr_done (by kernel_rfl) ?_;refine co_then <| q9 ?_;refine pk0 (v := pt N3 0) s rfl fun _ s => ?_;refine pk (v := .int .i64 d.k) s rfl (rn_load1 rfl rfl Try.isAgg3 (hk52.cell rfl)) fun _ s => ?_;refine pw s rfl (op_call (args := #[.int .i64 d.k]) (R := fun res xw => res = .string (pstr d.k) ∧ Below w46.heap.size w46 xw) rfl rfl rfl (by kernel_rfl) (by kernel_rfl) (Try.call14 _ _) (mParts_any d.k w46 ) (by rintro e x ⟨rfl, hb58⟩; exact ⟨_, rfl, ⟨rfl, hb58⟩⟩)) ?_;rintro _ w57 a56 ⟨rfl, hb58⟩ s;have hz59 := hb58.size;refine pw s rfl (op_rangeS rfl rfl Try.underlying9) ?_;rintro _ w61 a60 ⟨r62, rfl, hN63, hI64, hz65, hg66⟩ s;have hz67 := hg66.size;have hl68 := hI64.lt;refine q1 <| wp_block ?_;have s : Slots 31 [(1, pt N3 0), (2, .string (⟨#[]⟩)), (3, .int .i64 0), (5, pt b37 0), (20, pt r62 0)] _ := s.sub ⟨rfl, rfl, rfl, rfl, rfl, trivial⟩;refine co_loop (fun mm a x => ∃ (i : Nat), Slots 31 [(1, pt N3 0), (2, .string (⟨#[]⟩)), (3, .int .i64 0), (5, pt b37 0), (20, pt r62 0)] a ∧ mm = (pstr d.k).size - i ∧ (i ≤ (pstr d.k).size) ∧ OW b37 (putL d.k ++ ((ptL d.k).take i).flatMap (qP d)) (9 + 4000 * i) x ∧ SIt x r62 (pstr d.k) i ∧ Below w.heap.size w x ∧ Blk x N3 34 #[.int .i64 d.k, .int .i64 d.ep, .int .i64 d.rq, .int .i64 d.sr, .bool d.fg, .int .u64 d.at_, .int .u64 d.la, .int .i64 d.n, .int .i64 d.m, .int .i64 d.p, .int .i64 d.e, .string d.key, .string d.to_, .int .i64 d.cep, mv, .int .u64 d.cfl, .int .i64 d.bc, .int .i64 d.br, bv, ev, sv, pv]) ((pstr d.k).size - 0) ?_ ?_;have ho70 := ho47.below hb58;have ho71 := ho70.new hg66;have hB72 := hb_call hB51 hb58;have hB73 := hb_new hB72 hg66;have hk74 := hk52.below hb58;have hk75 := hk74.kept hg66 (by simp)
  · exact ⟨0, s.sub ⟨rfl, rfl, rfl, rfl, rfl, trivial⟩, rfl, by omega, (ho71.eq (by first | (simp; done) | (rw [takeM hcl, List.flatMap_append, ← List.append_assoc]; simp [← qP_at hcb])) (by first | omega | (simp; done) | (simp; omega))), hI64, hB73, hk75⟩
  · rintro k76 a77 w78 ⟨i, s, rfl, hi79, hf80, hf81, hB82, hk83⟩
    have hz84 := hB82.size;have hl85 := hk83.lt;have hl86 := hf80.lt;have hl87 := hf81.lt;refine q2 ?_;refine pl_want s rfl rfl rfl (op_nextS rfl rfl hf81 (pstr_ascii _)) ?_;rintro _ w89 a88 (⟨hend90, rfl, rfl⟩ | ⟨hlt91, rfl, hI92, hz93, hg94⟩) s
    ·
     refine pk0 (v := .bool false) s rfl fun _ s => q1 <| co_seq ?_;refine co_false s rfl <| wp_exit <| co_thenX <| co_thenX <| qx <| q2 ?_;refine pk0 (v := pt b37 0) s rfl fun _ s => ?_;refine pw s rfl (op_call (args := #[pt b37 0]) (R := fun res xw => res = .tuple #[.string (⟨(putL d.k ++ ((ptL d.k).take i).flatMap (qP d)).toArray⟩), .int .i64 0] ∧ Below w78.heap.size w78 xw) rfl rfl rfl (by kernel_rfl) (by kernel_rfl) (Try.call16 _ _) (ow_done b37 (putL d.k ++ ((ptL d.k).take i).flatMap (qP d)) (9 + 4000 * i) w78 hf80) (by rintro e x ⟨rfl, h2⟩; exact ⟨_, rfl, rfl, h2⟩)) ?_;rintro _ w98 a97 ⟨rfl, hb99⟩ s;have hz100 := hb99.size;refine pk0 (v := .string (⟨(putL d.k ++ ((ptL d.k).take i).flatMap (qP d)).toArray⟩)) s rfl fun _ s => ?_;refine pk0 (v := .int .i64 0) s rfl fun _ s => ?_;refine pk0 (v := .string (⟨(putL d.k ++ ((ptL d.k).take i).flatMap (qP d)).toArray⟩)) s rfl fun _ s => ?_;refine pk0 (v := .int .i64 0) s rfl fun _ s => q4 ?_;refine co_ret2 s rfl rfl rfl ?_;have hB105 := hb_call hB82 hb99;have hpl := pstr_len d.k;exact ⟨by rw [putM9_ok (by omega), show chkMg d = 0 by omega, List.take_of_length_le (by omega)]; rfl, hB105⟩
    have hz106 := hg94.size;have hl107 := hI92.lt;refine pk0 (v := .bool true) s rfl fun _ s => q1 <| co_seq ?_;refine co_true s rfl <| q0 <| wp_block <| q2 ?_;refine pk0 (v := .int .i32 (byteAt (pstr d.k) i)) s rfl fun _ s => ?_;refine pk0 (v := .int .i32 (byteAt (pstr d.k) i)) s rfl fun _ s => q1 <| co_reg ?_;refine pk0 (v := pt b37 0) s rfl fun _ s => ?_;refine pk0 (v := .int .i32 (byteAt (pstr d.k) i)) s rfl fun _ s => ?_;obtain ⟨cl, hcl, hcb⟩ := byteAt_pstr (k := d.k) (i := i) (by omega);have hB115 := hb_at hB82 hg94 (by omega);have ho116 := hf80.sit hf81 (by omega) hg94;have hk117 := hk83.kept hg94 (by simp; omega);refine pw s rfl (op_call (args := #[pt b37 0, pt N3 0, .int .i32 (byteAt (pstr d.k) i)]) (R := fun res xw => res = .tuple #[] ∧ OW b37 ((putL d.k ++ ((ptL d.k).take i).flatMap (qP d)) ++ putP d (byteAt (pstr d.k) i)) ((9 + 4000 * i) + 4000) xw ∧ But (Ru w89 b37) w89 xw) rfl rfl rfl (by kernel_rfl) (by kernel_rfl) (Try.call15 _ _) (mWrite_any w b37 (putL d.k ++ ((ptL d.k).take i).flatMap (qP d)) (9 + 4000 * i) N3 d mv bv ev sv pv (byteAt (pstr d.k) i) w89 hB115 (by omega) ho116 hk117 hm hb he ht hp hok hR (by rw [hcb]; exact ptL_let _ _ (List.mem_of_getElem? hcl)) (by rw [hcb]; exact cMg_at (by omega) hcl) (by omega) (by omega)) (by rintro e x ⟨rfl, h1, h2⟩; exact ⟨_, rfl, rfl, h1, h2⟩)) ?_;rintro _ w114 a113 ⟨rfl, ho118, hx119⟩ s;have hB120 := ru_below (by omega) hB115 hx119;have hz121 := hB120.size;have hz122 := hx119.size;have hl123 := ho118.lt;refine pl_nil <| co_blockN <| co_then ?_;refine ⟨((pstr d.k).size - (i + 1)), by omega, ?_⟩;have hI124 := sit_ru hI92 (by omega) hx119;have hk125 := blk_ru hk117 (by decide) (by omega) hx119;exact ⟨i + 1, s.sub ⟨rfl, rfl, rfl, rfl, rfl, trivial⟩, rfl, by omega, (ho118.eq (by first | (simp; done) | (rw [takeM hcl, List.flatMap_append, ← List.append_assoc]; simp [← qP_at hcb])) (by first | omega | (simp; done) | (simp; omega))), hI124, hB120, hk125⟩
 rw [hc20] at s;have hp126 : chkMg d ≠ 0 := by first | simpa using hc20 | simpa [and_assoc] using hc20
 refine co_true s rfl <| q2 ?_;refine pk0 (v := .int .i64 (chkMg d)) s rfl fun _ s => ?_;refine pk0 (v := .string (⟨#[]⟩)) s rfl fun _ s => ?_;refine pk0 (v := .int .i64 (chkMg d)) s rfl fun _ s => q5 ?_;refine co_ret2 s rfl rfl rfl ?_;exact ⟨by rw [putM9_err (by omega)], hB21⟩
end Go.Proofs.Ytcbagajjgbfgdaa

/- What is put is read as it was: without the program. Conditions: none. -/
namespace Go.Proofs.Ytcbagajjgbfgdaa
open Go.RowKit Go.PlainAid

theorem extract_has {T t : ByteArray} {a : Nat} (h : has T a t.data.toList) (hs : a + t.size ≤ T.size) : T.extract a (a + t.size) = t := by
  apply ByteArray.ext
  apply Array.ext
  · simp; omega
  · intro j h1 h2
    have hj : j < t.data.toList.length := by simpa using h2
    have hb := h j hj
    rw [bt_data] at hb
    have hl : a + j < T.data.toList.length := by
      have : j < t.size := by simpa using h2
      simp only [Array.length_toList, ByteArray.size_data]; omega
    rw [List.getD_eq_getElem?_getD, List.getElem?_eq_getElem hl, Option.getD_some] at hb
    have hb2 : T.data.toList[a + j] = t.data.toList[j] := UInt8.toNat_inj.1 (by omega)
    simp only [ByteArray.data_extract, Array.getElem_extract]
    simpa using hb2
theorem flagR_put {T : ByteArray} {a : Nat} {f : Bool} (h : has T a [flagB f]) (hs : a + 1 ≤ T.size) : flagR T a 0 = (f, ((a + 1 : Nat) : Int), 0) := by
  have hb := h 0 (by simp)
  simp only [Nat.add_zero, List.getElem_cons_zero] at hb
  unfold flagR
  rw [if_neg (by simp), if_neg (by omega), hb]
  cases f <;> simp [flagB]

end Go.Proofs.Ytcbagajjgbfgdaa

/- What a reader that has no error has eaten: the bytes that a writer would have put; what was put is read. Conditions: none. -/
namespace Go.Proofs.Ytcbagajjgbfgdaa
open Go.RowKit Go.PlainAid

theorem get_ok_at {s : ByteArray} {a : Nat} {y to : Int} (h : getR s a = (y, to, 0)) : (0 ≤ y ∧ y < 18446744073709551616) ∧ (a : Int) < to ∧ to ≤ s.size ∧ putL y = (s.data.toList.drop a).take (to.toNat - a) := by
  unfold getR at h
  split at h
  · simp at h
  split at h
  · simp at h
  rename_i h0 h1
  rw [Int.toNat_natCast] at h
  have hs : a < s.size := by omega
  have hb := bt_nonneg s a
  have hb2 := bt_le s a
  have hal : a < s.data.toList.length := by simpa using hs
  have hd : s.data.toList[a]'hal = UInt8.ofNat (bt s a).toNat := by
    have hd := bt_data s a
    simp only [List.getD, List.getElem?_eq_getElem hal, Option.getD_some] at hd
    rw [hd, Int.toNat_natCast, UInt8.ofNat_toNat]
  have ht : ∀ k, (s.data.toList.drop a).take (k + 1) = UInt8.ofNat (bt s a).toNat :: (s.data.toList.drop (a + 1)).take k := by
    intro k
    rw [← hd, List.drop_eq_getElem_cons hal, List.take_succ_cons]
  split at h
  · rename_i h2
    simp only [Prod.mk.injEq, and_true] at h
    obtain ⟨rfl, rfl⟩ := h
    refine ⟨⟨hb, by omega⟩, by omega, by omega, ?_⟩
    rw [putL_small _ h2, show ((a : Int) + 1).toNat - a = 0 + 1 by omega, ht]; simp
  split at h
  · simp at h
  split at h
  · rename_i h2 h3 h4
    simp only [Prod.mk.injEq, and_true] at h
    obtain ⟨rfl, rfl⟩ := h
    obtain ⟨k, hk⟩ := Int.eq_ofNat_of_zero_le (show 0 ≤ bt s a - 247 by omega)
    rw [hk, Int.toNat_natCast] at h4 ⊢
    have hv0 := val_nonneg s (a + 1) k
    have hv1 := val_lt s (a + 1) k
    have hk8 : k ≤ 8 := by omega
    have hbig : ¬ val s (a + 1) k < 248 := by
      intro hc; rw [lenOf_small _ hc] at h4; omega
    have hw : wd (val s (a + 1) k) = k := by rw [lenOf_big _ hbig] at h4; omega
    have hlt : val s (a + 1) k < 18446744073709551616 := by
      have : (256 : Nat) ^ k ≤ 256 ^ 8 := Nat.pow_le_pow_right (by decide) hk8
      have e : ((256 : Int) ^ k) = ((256 ^ k : Nat) : Int) := by rw [Int.natCast_pow]; rfl
      have : (256 : Nat) ^ 8 = 18446744073709551616 := by decide
      omega
    refine ⟨⟨hv0, hlt⟩, by omega, by omega, ?_⟩
    rw [putL_big _ hbig, hw, Int.toNat_natCast]
    have hn : ((a : Int) + (bt s a - 246)).toNat - a = k + 1 := by omega
    first
      | (rw [hn, ht, be_val _ _ _ (by omega)]; congr 2; omega)
      | (rw [show (_ : Int).toNat - a = k + 1 by omega, ht, be_val _ _ _ (by omega)]; congr 2; omega)
  · simp at h
/-- From a to b stand the bytes l. -/
def eats (s : ByteArray) (a : Nat) (l : List UInt8) (b : Nat) : Prop := a ≤ b ∧ b ≤ s.size ∧ (s.data.toList.drop a).take (b - a) = l
theorem eats.nil {s : ByteArray} {a : Nat} (h : a ≤ s.size) : eats s a [] a := ⟨Nat.le_refl _, h, by simp⟩
theorem eats.app {s : ByteArray} {a b c : Nat} {l m : List UInt8} (h : eats s a l b) (k : eats s b m c) : eats s a (l ++ m) c := by
  obtain ⟨h1, h2, h3⟩ := h
  obtain ⟨k1, k2, k3⟩ := k
  refine ⟨by omega, k2, ?_⟩
  rw [show c - a = (b - a) + (c - b) by omega, List.take_add, h3, List.drop_drop, show a + (b - a) = b by omega, k3]
theorem numR_nat (s : ByteArray) (a : Nat) (x m : Int) : ∃ b : Nat, (numR s a x m).2.1 = b := by
  by_cases hx : x = 0
  · subst hx
    have e : (numR s a 0 m).2.1 = (upR s a m 5).2.1 := by unfold numR; rw [if_neg (by simp)]
    rw [e]
    rcases hg : getR s a with ⟨g1, g2, g3⟩
    rw [upR_of hg]
    split
    · exact ⟨a, rfl⟩
    · rename_i h3
      have h3' : g3 = 0 := by omega
      subst h3'
      have := getR_pos hg
      split
      · exact ⟨g2.toNat, by simp only; omega⟩
      · exact ⟨g2.toNat, by simp only; omega⟩
  · rw [numR_err hx]; exact ⟨a, rfl⟩
theorem numR_eats {s : ByteArray} {a : Nat} {x m : Int} (h : (numR s a x m).2.2 = 0) : x = 0 ∧ ∃ b : Nat, (numR s a x m).2.1 = b ∧ eats s a (putL (numR s a x m).1) b := by
  by_cases hx : x = 0
  · subst hx
    refine ⟨rfl, ?_⟩
    have e : numR s a 0 m = ((if (upR s a m 5).2.2 = 0 then (upR s a m 5).1 else 0), (upR s a m 5).2.1, (upR s a m 5).2.2) := by unfold numR; rw [if_neg (by simp)]
    rw [e] at h ⊢
    simp only at h ⊢
    rcases hg : getR s a with ⟨g1, g2, g3⟩
    rw [upR_of hg] at h ⊢
    split at h
    · rename_i h3; exact absurd h h3
    · rename_i h3
      rw [if_neg h3]
      have h3' : g3 = 0 := by omega
      subst h3'
      obtain ⟨_, h5, h6, h7⟩ := get_ok_at hg
      split at h
      · simp at h
      · rename_i h8
        rw [if_neg h8]
        simp only [if_true]
        exact ⟨g2.toNat, by omega, by omega, by omega, by rw [h7]⟩
  · rw [numR_err hx] at h; exact absurd h hx
theorem bigR_eats {s : ByteArray} {a : Nat} {x : Int} (h : (bigR s a x).2.2 = 0) : x = 0 ∧ ∃ b : Nat, (bigR s a x).2.1 = b ∧ eats s a (putL (bigR s a x).1) b := by
  by_cases hx : x = 0
  · subst hx
    refine ⟨rfl, ?_⟩
    have e : bigR s a 0 = ((if (getR s a).2.2 = 0 then (getR s a).1 else 0), (getR s a).2.1, (getR s a).2.2) := by unfold bigR; rw [if_neg (by simp)]
    rw [e] at h ⊢
    simp only at h ⊢
    rcases hg : getR s a with ⟨g1, g2, g3⟩
    rw [hg] at h
    simp only at h
    subst h
    obtain ⟨_, h5, h6, h7⟩ := get_ok_at hg
    simp only [if_true]
    exact ⟨g2.toNat, by omega, by omega, by omega, by rw [h7]⟩
  · rw [bigR_err hx] at h; exact absurd h hx
theorem numR_of {T : ByteArray} {a : Nat} {n m : Int} (h0 : 0 ≤ n) (h1 : n ≤ m) (h2 : m ≤ 9223372036854775807) (h : has T a (putL n)) (hs : a + (putL n).length ≤ T.size) : numR T a 0 m = (n, ((a + (putL n).length : Nat) : Int), 0) := by
  have hg := get_put n h0 (by omega) hs h
  have hl := putL_len n
  have hu := upR_of (m := m) (x := 5) hg
  rw [if_neg (by simp), if_neg (by omega)] at hu
  unfold numR
  rw [if_neg (by simp), hu]
  simp only [if_true]
  congr 2; omega
theorem bigR_of {T : ByteArray} {a : Nat} {m : Int} (h0 : 0 ≤ m) (h1 : m < 18446744073709551616) (h : has T a (putL m)) (hs : a + (putL m).length ≤ T.size) : bigR T a 0 = (m, ((a + (putL m).length : Nat) : Int), 0) := by
  have hg := get_put m h0 (by omega) hs h
  have hl := putL_len m
  unfold bigR
  rw [if_neg (by simp), hg]
  simp only [if_true]
  congr 2; omega
theorem list_of_take {s t : ByteArray} {a n : Nat} (h : t = s.extract a (a + n)) : t.data.toList = (s.data.toList.drop a).take n := by
  subst h
  rw [ByteArray.data_extract, Array.toList_extract]
  simp [List.extract]
theorem textR_eats {s : ByteArray} {a : Nat} {x m : Int} (h : (textR s a x m).2.2 = 0) : x = 0 ∧ ∃ b : Nat, (textR s a x m).2.1 = b ∧ eats s a (putL (((textR s a x m).1.size : Nat) : Int) ++ (textR s a x m).1.data.toList) b := by
  by_cases hx : x = 0
  · subst hx
    refine ⟨rfl, ?_⟩
    rcases hg : getR s a with ⟨g1, g2, g3⟩
    have hu := upR_of (m := m) (x := 3) hg
    unfold textR at h ⊢
    rw [if_neg (by simp)] at h ⊢
    rw [hu] at h ⊢
    by_cases h3 : g3 ≠ 0
    · rw [if_pos h3] at h; simp [h3] at h
    · rw [if_neg h3] at h ⊢
      have h3' : g3 = 0 := by omega
      subst h3'
      obtain ⟨h4, h5, h6, h7⟩ := get_ok_at hg
      by_cases h8 : m < 0 ∨ m < g1
      · rw [if_pos h8] at h; simp at h
      · rw [if_neg h8] at h ⊢
        simp only [ne_eq, not_true_eq_false, if_false] at h ⊢
        by_cases h9 : (s.size : Int) < g2 + g1
        · rw [if_pos h9] at h; simp at h
        · rw [if_neg h9]
          simp only
          have hsz : ((s.extract g2.toNat (g2.toNat + g1.toNat)).size : Int) = g1 := by rw [ByteArray.size_extract]; omega
          have e1 : eats s a (putL g1) g2.toNat := ⟨by omega, by omega, by rw [h7]⟩
          have e2 : eats s g2.toNat (s.extract g2.toNat (g2.toNat + g1.toNat)).data.toList (g2.toNat + g1.toNat) := ⟨by omega, by omega, by rw [list_of_take rfl]; congr 1; omega⟩
          rw [hsz]
          exact ⟨g2.toNat + g1.toNat, by omega, e1.app e2⟩
  · rw [textR_err hx] at h; exact absurd h hx
theorem flagR_eats {s : ByteArray} {a : Nat} {x : Int} (ha : x = 0 → a ≤ s.size) (h : (flagR s a x).2.2 = 0) : x = 0 ∧ ∃ b : Nat, (flagR s a x).2.1 = b ∧ eats s a [flagB (flagR s a x).1] b := by
  by_cases hx : x = 0
  · subst hx
    refine ⟨rfl, ?_⟩
    have ha' := ha rfl
    unfold flagR at h ⊢
    rw [if_neg (by simp)] at h ⊢
    by_cases h1 : a = s.size
    · rw [if_pos h1] at h; simp at h
    · rw [if_neg h1] at h ⊢
      by_cases h2 : 1 < bt s a
      · rw [if_pos h2] at h; simp at h
      · rw [if_neg h2]
        simp only
        have hal : a < s.data.toList.length := by
          have : a < s.size := by omega
          simpa using this
        have hd := bt_data s a
        simp only [List.getD, List.getElem?_eq_getElem hal, Option.getD_some] at hd
        have hb := bt_nonneg s a
        refine ⟨a + 1, by omega, by omega, by omega, ?_⟩
        rw [List.drop_eq_getElem_cons hal, show a + 1 - a = 0 + 1 by omega, List.take_succ_cons, List.take_zero]
        congr 1
        apply UInt8.toNat_inj.1
        show (s.data.toList[a]'hal).toNat = _
        rcases (show bt s a = 0 ∨ bt s a = 1 by omega) with h3 | h3
        · have h4 : (s.data.toList[a]'hal).toNat = 0 := by omega
          rw [h4, h3]; rfl
        · have h4 : (s.data.toList[a]'hal).toNat = 1 := by omega
          rw [h4, h3]; rfl
  · rw [flagR_err hx] at h; exact absurd h hx
theorem endV_eats {s : ByteArray} {a : Nat} {x : Int} (ha : x = 0 → a ≤ s.size) (h : endV s a x = 0) : x = 0 ∧ a = s.size := by
  unfold endV at h
  by_cases hx : x = 0
  · rw [if_pos hx] at h
    have := ha hx
    by_cases h1 : a < s.size
    · rw [if_pos h1] at h; omega
    · exact ⟨hx, by omega⟩
  · rw [if_neg hx] at h; exact absurd h hx
theorem eats.whole {s : ByteArray} {l : List UInt8} (h : eats s 0 l s.size) : (⟨l.toArray⟩ : ByteArray) = s := by
  obtain ⟨_, _, h3⟩ := h
  have : l = s.data.toList := by
    rw [← h3, List.drop_zero, List.take_of_length_le (by simp)]
  subst this; simp
theorem textR_of {T t : ByteArray} {a : Nat} {m : Int} (ht : (t.size : Int) ≤ m) (hm : m ≤ 9223372036854775807) (h : has T a (putL (t.size : Int) ++ t.data.toList)) (hs : a + (putL (t.size : Int) ++ t.data.toList).length ≤ T.size) :
    textR T a 0 m = (t, ((a + (putL (t.size : Int) ++ t.data.toList).length : Nat) : Int), 0) := by
  have hlt : t.data.toList.length = t.size := by simp
  rw [List.length_append, hlt] at hs
  obtain ⟨h1, h2⟩ := has_app h
  have hg := get_put (t.size : Int) (by omega) (by omega) (by omega) h1
  have hl := putL_len (t.size : Int)
  have hu := upR_of (m := m) (x := 3) hg
  rw [if_neg (by simp), if_neg (by omega)] at hu
  have hn : ((a : Int) + lenOf (t.size : Int)).toNat = a + (putL (t.size : Int)).length := by omega
  unfold textR
  rw [if_neg (by simp), hu, if_neg (by simp)]
  simp only
  rw [if_neg (by omega), hn, Int.toNat_natCast, extract_has h2 (by omega), List.length_append, hlt]
  refine Prod.ext rfl (Prod.ext ?_ rfl)
  show (a : Int) + lenOf (t.size : Int) + (t.size : Int) = ((a + ((putL (t.size : Int)).length + t.size) : Nat) : Int)
  omega
end Go.Proofs.Ytcbagajjgbfgdaa

/- Package ops: what is put is read, what is read is put; without the program. Conditions: none. -/
namespace Go.Proofs.Ytcbagajjgbfgdaa
open Go.RowKit Go.PlainAid
set_option linter.unusedVariables false


theorem putOs_snoc (l : List OpT) (y : OpT) : putOs (l ++ [y]) = putOs l ++ putO1 y := by simp [putOs]
theorem rd_put {T : ByteArray} {a : Nat} (l acc : List OpT) (hok : ∀ z ∈ l, OpOk z) (hh : has T a (putOs l)) (hs : a + (putOs l).length ≤ T.size) :
    ∀ i, i ≤ l.length → rdN T i (acc, (a : Int), 0) = (acc ++ l.take i, ((a + (putOs (l.take i)).length : Nat) : Int), 0)
  | 0, _ => by simp [rdN, putOs]
  | i + 1, hi => by
    have ih := rd_put l acc hok hh hs i (by omega)
    have hy : l[i]? = some l[i] := List.getElem?_eq_getElem (by omega)
    have ht := takeO_at hy
    obtain ⟨⟨k1, k2⟩, k3, _⟩ := hok l[i] (List.getElem_mem _)
    have e : putOs l = putOs (l.take i) ++ (putO1 l[i] ++ putOs (l.drop (i + 1))) := by
      rw [← List.append_assoc, ← putOs_snoc, ← ht]
      unfold putOs; rw [← List.flatMap_append, List.take_append_drop]
    rw [e] at hh hs
    obtain ⟨_, h2⟩ := has_app hh
    obtain ⟨h3, _⟩ := has_app h2
    unfold putO1 at h3
    rw [List.append_assoc] at h3
    obtain ⟨h4, h5⟩ := has_app h3
    obtain ⟨h6, h7⟩ := has_app h5
    have hlen : (putO1 l[i]).length = (putL (l[i].1.size : Int) ++ l[i].1.data.toList).length + (1 + (putL (l[i].2.1.size : Int) ++ l[i].2.1.data.toList).length) := by unfold putO1; simp only [List.length_append, List.length_singleton]; omega
    rw [List.length_append, List.length_append] at hs
    have q1 := textR_of (m := 8) (by omega) (by omega) h4 (by omega)
    have q2 := flagR_put h6 (by omega)
    have q3 := textR_of (m := 8) (by omega) (by omega) h7 (by simp only [List.length_singleton]; omega)
    rw [rdN_step ih q1 q2 q3, ht, putOs_snoc]
    refine Prod.ext (show acc ++ l.take i ++ [l[i]] = _ by rw [List.append_assoc]) (Prod.ext ?_ rfl)
    have hl2 : (putOs (l.take i) ++ putO1 l[i]).length = (putOs (l.take i)).length + (putO1 l[i]).length := List.length_append
    rw [hl2, hlen]
    simp only [List.length_singleton]
    omega
theorem of_put {c r : Int} {l : List OpT} (h : chkB c r l = 0) : ofB (putB c r l) = ((c, r, l), 0) := by
  obtain ⟨⟨c0, c1⟩, ⟨r0, r1⟩, hl, _⟩ := chkB_ok h
  have hok := chkB_all h
  rw [putB_ok h]
  have hself := has_self (putH c r l ++ putOs l)
  have hsz : (⟨(putH c r l ++ putOs l).toArray⟩ : ByteArray).size = (putH c r l ++ putOs l).length := rfl
  generalize (⟨(putH c r l ++ putOs l).toArray⟩ : ByteArray) = T at hself hsz ⊢
  unfold putH at hself hsz
  simp only [List.append_assoc] at hself
  simp only [List.length_append] at hsz
  obtain ⟨h1, h2⟩ := has_app hself
  obtain ⟨h3, h4⟩ := has_app h2
  obtain ⟨h5, h6⟩ := has_app h4
  simp only [Nat.zero_add] at h3 h5 h6
  have q1 := numR_of (m := 2) c0 (by omega) (by omega) h1 (by omega)
  have q2 := numR_of (m := 1073741824) (by omega) r1 (by omega) h3 (by omega)
  have q3 := numR_of (m := 4) (by omega) (by omega) (by omega) h5 (by omega)
  have q4 := rd_put l [] hok h6 (by omega) l.length (Nat.le_refl _)
  rw [List.take_of_length_le (Nat.le_refl _), List.nil_append] at q4
  have q5 : endV T ((((putL c).length + (putL r).length + (putL ((l.length : Nat) : Int)).length + (putOs l).length : Nat) : Int)).toNat 0 = 0 := by
    unfold endV; rw [if_pos rfl, if_neg (by omega)]
  rw [ofB_at (by simpa using q1) q2 q3 q4 (by omega) q5, ofEnd_c (by omega) (by omega)]
theorem rd_nat (s : ByteArray) (a : Nat) (x : Int) (h : x = 0 → a ≤ s.size) : ∀ i, (rdN s i ([], (a : Int), x)).2.2 = 0 → x = 0 ∧ ∃ b : Nat, (rdN s i ([], (a : Int), x)).2.1 = b ∧ (rdN s i ([], (a : Int), x)).1.length = i ∧ eats s a (putOs (rdN s i ([], (a : Int), x)).1) b
  | 0, hx => by
    have hx' : x = 0 := hx
    exact ⟨hx', a, rfl, rfl, eats.nil (h hx')⟩
  | i + 1, hx => by
    obtain ⟨ls, ps, er, hq⟩ : ∃ ls ps er, rdN s i ([], (a : Int), x) = (ls, ps, er) := ⟨_, _, _, rfl⟩
    have ih := rd_nat s a x h i
    have e : rdN s (i + 1) ([], (a : Int), x) = rdStep s (rdN s i ([], (a : Int), x)) := rfl
    rw [hq] at ih e
    rw [e] at hx ⊢
    simp only [rdStep] at hx ⊢
    -- backwards: no error at the end, so none ahead
    have hpos : er = 0 → ∃ b : Nat, ps = b ∧ b ≤ s.size := fun he => by
      obtain ⟨_, b, h1, _, h2⟩ := ih he
      exact ⟨b, h1, h2.2.1⟩
    obtain ⟨k, a1, e1, ht⟩ : ∃ k a1 e1, textR s ps er 8 = (k, a1, e1) := ⟨_, _, _, rfl⟩
    simp only [ht] at hx ⊢
    obtain ⟨f, a2, e2, hf⟩ : ∃ f a2 e2, flagR s a1.toNat e1 = (f, a2, e2) := ⟨_, _, _, rfl⟩
    simp only [hf] at hx ⊢
    obtain ⟨t, a3, e3, hu⟩ : ∃ t a3 e3, textR s a2 e2 8 = (t, a3, e3) := ⟨_, _, _, rfl⟩
    simp only [hu] at hx ⊢
    subst hx
    have hu0 : (textR s a2 e2 8).2.2 = 0 := by rw [hu]
    have he2 : e2 = 0 := by
      by_cases h2 : e2 = 0
      · exact h2
      · rw [textR_err h2] at hu0; exact hu0
    subst he2
    have hf0 : (flagR s a1.toNat e1).2.2 = 0 := by rw [hf]
    have he1 : e1 = 0 := by
      by_cases h2 : e1 = 0
      · exact h2
      · rw [flagR_err h2] at hf0; exact hf0
    subst he1
    have ht0 : (textR s ps er 8).2.2 = 0 := by rw [ht]
    have her : er = 0 := by
      by_cases h2 : er = 0
      · exact h2
      · rw [textR_err h2] at ht0; exact ht0
    subst her
    obtain ⟨hx0, b, hb, hlen, he⟩ := ih rfl
    simp only at hb hlen he
    subst hb
    obtain ⟨_, b1, hb1, g1⟩ := textR_eats ht0
    rw [ht] at hb1 g1; simp only at hb1 g1
    subst hb1
    rw [Int.toNat_natCast] at hf hf0
    obtain ⟨_, b2, hb2, g2⟩ := flagR_eats (fun _ => g1.2.1) hf0
    rw [hf] at hb2 g2; simp only at hb2 g2
    subst hb2
    obtain ⟨_, b3, hb3, g3⟩ := textR_eats hu0
    rw [hu] at hb3 g3; simp only at hb3 g3
    subst hb3
    refine ⟨hx0, b3, rfl, by simp [hlen], ?_⟩
    rw [putOs_snoc]
    exact he.app ((g1.app g2).app g3)
theorem ofEnd_ok {c r x c2 r2 : Int} {l l2 : List OpT} (h : ofEnd c r l x = ((c2, r2, l2), 0)) : x = 0 ∧ chkB c2 r2 l2 = 0 ∧ c = c2 ∧ r = r2 ∧ l = l2 := by
  by_cases h1 : x ≠ 0
  · rw [ofEnd_a h1] at h; cases h; exact absurd rfl h1
  by_cases h2 : chkB c r l ≠ 0
  · rw [ofEnd_b h1 h2] at h
    have := (Prod.mk.inj h).2
    exact absurd this h2
  · rw [ofEnd_c h1 h2] at h; cases h
    exact ⟨by omega, by omega, rfl, rfl, rfl⟩
theorem of_chk {s : ByteArray} {c r : Int} {l : List OpT} (h : ofB s = ((c, r, l), 0)) : chkB c r l = 0 := (ofEnd_ok h).2.1
theorem numR_at' {s : ByteArray} {a : Nat} {x m n a1 : Int} (h : numR s a x m = (n, a1, 0)) : x = 0 ∧ ∃ b : Nat, a1 = b ∧ eats s a (putL n) b := by
  have h0 : (numR s a x m).2.2 = 0 := by rw [h]
  have := numR_eats h0
  rw [h] at this; exact this
theorem of_back {s : ByteArray} {c r : Int} {l : List OpT} (h : ofB s = ((c, r, l), 0)) : putB c r l = s := by
  have hc := of_chk h
  rw [putB_ok hc]
  rcases q1 : numR s 0 0 2 with ⟨c', a1, e1⟩
  rcases q2 : numR s a1 e1 1073741824 with ⟨r', a2, e2⟩
  rcases q3 : numR s a2 e2 4 with ⟨n, a3, e3⟩
  rcases q4 : rdN s n.toNat ([], a3, e3) with ⟨l', a4, e4⟩
  have hE := ofB_at q1 q2 q3 q4 rfl rfl
  rw [hE] at h
  obtain ⟨hx, _, rfl, rfl, rfl⟩ := ofEnd_ok h
  have e4' : e4 = 0 := by
    by_cases h1 : e4 = 0
    · exact h1
    · unfold endV at hx; rw [if_neg h1] at hx; exact hx
  subst e4'
  have hn0 := numR_le (s := s) (a := a2) (x := e2) (m := 4) (by omega)
  rw [q3] at hn0; simp only at hn0
  have k4 : (rdN s n.toNat ([], a3, e3)).2.2 = 0 := by rw [q4]
  have hp3 : e3 = 0 → 0 ≤ a3 ∧ a3 ≤ s.size := fun h1 => by
    have := numR_at (s := s) (a := a2) (x := e2) (m := 4) (by rw [q3]; exact h1)
    rw [q3] at this; exact this
  have e3' : e3 = 0 := by
    by_cases h1 : e3 = 0
    · exact h1
    · have hall : ∀ i, (rdN s i ([], a3, e3)).2.2 = e3 := fun i => by
        induction i with
        | zero => rfl
        | succ i ih =>
          show (rdStep s (rdN s i ([], a3, e3))).2.2 = e3
          rcases hq : rdN s i ([], a3, e3) with ⟨ls, ps, er⟩
          rw [hq] at ih; simp only at ih
          subst ih
          simp only [rdStep, textR_err h1, flagR_err h1]
      rw [hall] at k4; exact k4
  subst e3'
  obtain ⟨a0, rfl⟩ := Int.eq_ofNat_of_zero_le (hp3 rfl).1
  have h5 := rd_nat s a0 0 (fun _ => by have := (hp3 rfl).2; omega) n.toNat k4
  rw [q4] at h5
  obtain ⟨_, b4, hb4, hlen, g4⟩ := h5
  simp only at hb4 hlen g4
  subst hb4
  have hp2 : e2 = 0 := by
    by_cases h1 : e2 = 0
    · exact h1
    · rw [numR_err h1] at q3; cases q3; exact absurd rfl h1
  subst hp2
  have hp1 : e1 = 0 := by
    by_cases h1 : e1 = 0
    · exact h1
    · rw [numR_err h1] at q2; cases q2; exact absurd rfl h1
  subst hp1
  obtain ⟨_, b1, rfl, g1⟩ := numR_at' (a := 0) (by simpa using q1)
  obtain ⟨_, b2, rfl, g2⟩ := numR_at' q2
  obtain ⟨_, b3, hb3, g3⟩ := numR_at' q3
  obtain rfl : a0 = b3 := by have : (a0 : Int) = b3 := hb3; omega
  have hend := (endV_eats (s := s) (a := b4) (x := 0) (fun _ => g4.2.1) (by simpa using hx)).2
  subst hend
  have hnl : ((l'.length : Nat) : Int) = n := by rw [hlen]; omega
  refine eats.whole ?_
  unfold putH
  rw [hnl]
  exact ((g1.app g2).app g3).app g4

end Go.Proofs.Ytcbagajjgbfgdaa

/- Package item: what is put is read, what is read is put; without the program. Conditions: none. -/
namespace Go.Proofs.Ytcbagajjgbfgdaa
open Go.RowKit Go.PlainAid
set_option linter.unusedVariables false


theorem ofE_of {c r ts : Int} {l : List OpT} (h : chkB c r l = 0) (h0 : 0 ≤ ts) (h1 : ts < 18446744073709551616) : ofE (putE c r l ts) = ((c, r, l, ts), 0) := by
  have hb := of_put h
  have hsm := putB_small (c := c) (r := r) (l := l)
  rw [putE_ok h]
  have hself := has_self (putEL c r l ts)
  have hsz : (⟨(putEL c r l ts).toArray⟩ : ByteArray).size = (putEL c r l ts).length := rfl
  generalize (⟨(putEL c r l ts).toArray⟩ : ByteArray) = T at hself hsz ⊢
  unfold putEL at hself hsz
  simp only [List.length_append] at hsz
  obtain ⟨k1, k2⟩ := has_app hself
  simp only [Nat.zero_add] at k2
  have q1 := bigR_of (m := ts) h0 h1 k1 (by omega)
  have q2 := textR_of (m := 65536) (by omega) (by omega) k2 (by simp only [List.length_append]; omega)
  have q3 : endV T ((((putL ts).length + (putL ((putB c r l).size : Int) ++ (putB c r l).data.toList).length : Nat) : Int)).toNat 0 = 0 := by
    unfold endV; rw [if_pos rfl, if_neg (by simp only [List.length_append]; omega)]
  rw [ofE_at (by simpa using q1) q2 q3, ofEndE_c (by simp) (by rw [hb]; simp), hb]
theorem ofEndE_ok {n x : Int} {t : ByteArray} (h : (ofEndE n t x).2 = 0) : x = 0 ∧ (ofB t).2 = 0 ∧ ofEndE n t x = (((ofB t).1.1, (ofB t).1.2.1, (ofB t).1.2.2, n), 0) := by
  by_cases h1 : x ≠ 0
  · rw [ofEndE_a h1] at h; exact absurd h h1
  by_cases h2 : (ofB t).2 ≠ 0
  · rw [ofEndE_b h1 h2] at h; exact absurd h h2
  · exact ⟨by omega, by omega, ofEndE_c h1 h2⟩
theorem ofE_ts (s : ByteArray) : 0 ≤ (ofE s).1.2.2.2 ∧ (ofE s).1.2.2.2 < 18446744073709551616 := by
  have hb := bigR_le (s := s) (a := 0) (x := 0)
  show 0 ≤ (ofEndE _ _ _).1.2.2.2 ∧ (ofEndE _ _ _).1.2.2.2 < _
  unfold ofEndE
  split
  · exact ⟨Int.le_refl _, by show (0 : Int) < _; decide⟩
  · split
    · exact ⟨Int.le_refl _, by show (0 : Int) < _; decide⟩
    · exact hb
theorem backE {s : ByteArray} (h : (ofE s).2 = 0) : putE (ofE s).1.1 (ofE s).1.2.1 (ofE s).1.2.2.1 (ofE s).1.2.2.2 = s ∧ chkB (ofE s).1.1 (ofE s).1.2.1 (ofE s).1.2.2.1 = 0 := by
  rcases q1 : bigR s 0 0 with ⟨n, a1, e1⟩
  rcases q2 : textR s a1 e1 65536 with ⟨t, a2, e2⟩
  have hE := ofE_at q1 q2 rfl
  rw [hE] at h ⊢
  obtain ⟨hx, hb, he⟩ := ofEndE_ok h
  rw [he]
  simp only
  have hb' : ofB t = (((ofB t).1.1, (ofB t).1.2.1, (ofB t).1.2.2), 0) := by rw [← hb]
  have hc := of_chk hb'
  have hp := of_back hb'
  refine ⟨?_, hc⟩
  rw [putE_ok hc]
  have e2' : e2 = 0 := by
    by_cases h1 : e2 = 0
    · exact h1
    · unfold endV at hx; rw [if_neg h1] at hx; exact hx
  subst e2'
  have h2 : (textR s a1 e1 65536).2.2 = 0 := by rw [q2]
  have e1' : e1 = 0 := by
    by_cases h1 : e1 = 0
    · exact h1
    · rw [textR_err h1] at h2; exact h2
  subst e1'
  have h1 : (bigR s ((0 : Nat) : Int) 0).2.2 = 0 := by
    have : (bigR s 0 0).2.2 = 0 := by rw [q1]
    simpa using this
  obtain ⟨_, b1, hb1, g1⟩ := bigR_eats h1
  have q1' : bigR s ((0 : Nat) : Int) 0 = (n, a1, 0) := by simpa using q1
  rw [q1'] at hb1 g1
  simp only at hb1 g1
  subst hb1
  obtain ⟨_, b2, hb2, g2⟩ := textR_eats h2
  rw [q2] at hb2 g2
  simp only at hb2 g2
  subst hb2
  have hend := (endV_eats (s := s) (a := b2) (x := 0) (fun _ => g2.2.1) (by simpa using hx)).2
  subst hend
  refine eats.whole ?_
  unfold putEL
  rw [hp]
  exact g1.app g2
end Go.Proofs.Ytcbagajjgbfgdaa

/- What bytes read as, as a message: the model. Conditions: none. -/
namespace Go.Proofs.Ytcbagajjgbfgdaa
open Go.RowKit Go.PlainAid
set_option linter.unusedVariables false
set_option linter.unusedSimpArgs false


theorem OR.e0 {b : Nat} {s : ByteArray} {a e : Int} {w : World} (h : OR b s a e w) (he : e = 0) : OR b s a 0 w := by subst he; exact h
theorem OXR.e0 {b : Nat} {s : ByteArray} {a e : Int} {w : World} (h : OXR b s a e w) (he : e = 0) : OXR b s a 0 w := by subst he; exact h
/-- An entry without where its operations lie. -/
def pE (e : EntT) : EntT := ⟨e.client, e.req, .slice none 0 0, e.opl, e.ts⟩
def mkE (q : Int × Int × List OpT × Int) : EntT := ⟨q.1, q.2.1, .slice none 0 0, q.2.2.1, q.2.2.2⟩
def zM (k : Int) : MsgD := ⟨k, 0, 0, 0, false, 0, 0, 0, 0, 0, 0, ⟨#[]⟩, ⟨#[]⟩, 0, [], 0, 0, 0, [], [], [], []⟩
/-- A message without where its entries' operations lie. -/
def nM (d : MsgD) : MsgD := { d with en := d.en.map pE }
theorem zM_R (k : Int) : MsgR (zM k) := ⟨by simp [zM], by simp [zM], by simp [zM]⟩
def stS (s : ByteArray) (q : List Int × Int × Int) : List Int × Int × Int := (q.1 ++ [(bigR s q.2.1 q.2.2).1], (bigR s q.2.1 q.2.2).2.1, (bigR s q.2.1 q.2.2).2.2)
def rS (s : ByteArray) : Nat → List Int × Int × Int → List Int × Int × Int
  | 0, q => q
  | i + 1, q => stS s (rS s i q)
def rdS (s : ByteArray) (a : Int) : List Int × Int × Int := rS s (numR s a 0 8).1.toNat ([], (numR s a 0 8).2.1, (numR s a 0 8).2.2)
def stR (s : ByteArray) (q : List PrT × Int × Int) : List PrT × Int × Int :=
  let t := textR s q.2.1 q.2.2 8
  let u := textR s t.2.1 t.2.2 8
  (q.1 ++ [(t.1, u.1)], u.2.1, u.2.2)
def rR (s : ByteArray) : Nat → List PrT × Int × Int → List PrT × Int × Int
  | 0, q => q
  | i + 1, q => stR s (rR s i q)
def rdR (s : ByteArray) (a : Int) : List PrT × Int × Int := rR s (numR s a 0 32).1.toNat ([], (numR s a 0 32).2.1, (numR s a 0 32).2.2)
/-- Entries: the list, the place, the reader's error, what is wrong with one. -/
def stE (s : ByteArray) (q : List EntT × Int × Int × Int) : List EntT × Int × Int × Int :=
  if q.2.2.1 ≠ 0 ∨ q.2.2.2 ≠ 0 then q
  else
    let t := textR s q.2.1 0 65536
    if t.2.2 ≠ 0 then (q.1, t.2.1, t.2.2, 0) else (q.1 ++ [mkE (ofE t.1).1], t.2.1, 0, (ofE t.1).2)
def rE (s : ByteArray) : Nat → List EntT × Int × Int × Int → List EntT × Int × Int × Int
  | 0, q => q
  | i + 1, q => stE s (rE s i q)
def rEe (s : ByteArray) (a : Int) : List EntT × Int × Int × Int := rE s (numR s a 0 4).1.toNat ([], (numR s a 0 4).2.1, (numR s a 0 4).2.2, 0)
def rdE (s : ByteArray) (a : Int) : List EntT × Int × Int := ((rEe s a).1, (rEe s a).2.1, if (rEe s a).2.2.1 ≠ 0 then (rEe s a).2.2.1 else (rEe s a).2.2.2)
def rdC (s : ByteArray) (a : Int) : (Int × List MemT × Int) × Int × Int := ((ofC (textR s a 0 65536).1).1, (textR s a 0 65536).2.1, if (textR s a 0 65536).2.2 ≠ 0 then (textR s a 0 65536).2.2 else (ofC (textR s a 0 65536).1).2)
def rdB (s : ByteArray) (a : Int) : (Int × Int × List OpT) × Int × Int := ((ofB (textR s a 0 65536).1).1, (textR s a 0 65536).2.1, if (textR s a 0 65536).2.2 ≠ 0 then (textR s a 0 65536).2.2 else (ofB (textR s a 0 65536).1).2)
theorem rS_step {s : ByteArray} {i : Nat} {q0 : List Int × Int × Int} {l : List Int} {a e n a1 e1 : Int} (h : rS s i q0 = (l, a, e)) (h1 : bigR s a e = (n, a1, e1)) : rS s (i + 1) q0 = (l ++ [n], a1, e1) := by
  show stS s (rS s i q0) = _; rw [h]; unfold stS; simp only [h1]
theorem rR_step {s : ByteArray} {i : Nat} {q0 : List PrT × Int × Int} {l : List PrT} {t u : ByteArray} {a e a1 e1 a2 e2 : Int} (h : rR s i q0 = (l, a, e)) (h1 : textR s a e 8 = (t, a1, e1)) (h2 : textR s a1 e1 8 = (u, a2, e2)) : rR s (i + 1) q0 = (l ++ [(t, u)], a2, e2) := by
  show stR s (rR s i q0) = _; rw [h]; unfold stR; simp only [h1, h2]
theorem bigR_st {s : ByteArray} {a e : Int} (h : e ≠ 0) : (bigR s a e).2.2 = e := by unfold bigR; rw [if_pos h]
theorem textR_st {s : ByteArray} {a e m : Int} (h : e ≠ 0) : (textR s a e m).2.2 = e := by unfold textR; rw [if_pos h]
theorem rS_st {s : ByteArray} {i : Nat} {q0 : List Int × Int × Int} {e : Int} (h : (rS s i q0).2.2 = e) (he : e ≠ 0) : ∀ j, (rS s (i + j) q0).2.2 = e
  | 0 => h
  | j + 1 => by
    show (stS s (rS s (i + j) q0)).2.2 = e
    have ih := rS_st h he j
    unfold stS; simp only; rw [ih]; exact bigR_st he
theorem rR_st {s : ByteArray} {i : Nat} {q0 : List PrT × Int × Int} {e : Int} (h : (rR s i q0).2.2 = e) (he : e ≠ 0) : ∀ j, (rR s (i + j) q0).2.2 = e
  | 0 => h
  | j + 1 => by
    show (stR s (rR s (i + j) q0)).2.2 = e
    have ih := rR_st h he j
    unfold stR; simp only; rw [ih, textR_st he, textR_st he]
theorem rE_st {s : ByteArray} {i : Nat} {q0 q : List EntT × Int × Int × Int} (h : rE s i q0 = q) (he : q.2.2.1 ≠ 0 ∨ q.2.2.2 ≠ 0) : ∀ j, rE s (i + j) q0 = q
  | 0 => h
  | j + 1 => by
    show stE s (rE s (i + j) q0) = q
    rw [rE_st h he j]; unfold stE; rw [if_pos he]
theorem rdS_at {s : ByteArray} {a n a1 e1 a2 e2 : Int} {l : List Int} {i : Nat} (h1 : numR s a 0 8 = (n, a1, e1)) (h2 : rS s i ([], a1, e1) = (l, a2, e2)) (hi : i = n.toNat) : rdS s a = (l, a2, e2) := by subst hi; unfold rdS; rw [h1]; exact h2
theorem rdR_at {s : ByteArray} {a n a1 e1 a2 e2 : Int} {l : List PrT} {i : Nat} (h1 : numR s a 0 32 = (n, a1, e1)) (h2 : rR s i ([], a1, e1) = (l, a2, e2)) (hi : i = n.toNat) : rdR s a = (l, a2, e2) := by subst hi; unfold rdR; rw [h1]; exact h2
theorem rE_step {s t : ByteArray} {i : Nat} {q0 : List EntT × Int × Int × Int} {l : List EntT} {a a1 x c r ts : Int} {ol : List OpT} (h : rE s i q0 = (l, a, 0, 0)) (h1 : textR s a 0 65536 = (t, a1, 0)) (h2 : ofE t = ((c, r, ol, ts), x)) : rE s (i + 1) q0 = (l ++ [mkE (c, r, ol, ts)], a1, 0, x) := by
  show stE s (rE s i q0) = _
  rw [h]; unfold stE
  rw [if_neg (by simp)]; simp only [h1, h2]; rw [if_neg (by simp)]
theorem rE_bad {s t : ByteArray} {i : Nat} {q0 : List EntT × Int × Int × Int} {l : List EntT} {a a1 e1 : Int} (h : rE s i q0 = (l, a, 0, 0)) (h1 : textR s a 0 65536 = (t, a1, e1)) (he : e1 ≠ 0) : rE s (i + 1) q0 = (l, a1, e1, 0) := by
  show stE s (rE s i q0) = _
  rw [h]; unfold stE
  rw [if_neg (by simp)]; simp only [h1]; rw [if_pos he]
theorem rdE_of {s : ByteArray} {a n a1 e1 : Int} {q : List EntT × Int × Int × Int} {i : Nat} (h1 : numR s a 0 4 = (n, a1, e1)) (h2 : rE s i ([], a1, e1, 0) = q) (hi : i ≤ n.toNat) (he : i = n.toNat ∨ q.2.2.1 ≠ 0 ∨ q.2.2.2 ≠ 0) : rdE s a = (q.1, q.2.1, if q.2.2.1 ≠ 0 then q.2.2.1 else q.2.2.2) := by
  have h : rEe s a = q := by
    unfold rEe; rw [h1]
    rcases he with he | he
    · subst he; exact h2
    · have := rE_st h2 he (n.toNat - i)
      rwa [show i + (n.toNat - i) = n.toNat by omega] at this
  unfold rdE; rw [h]
theorem rdC_at {s t : ByteArray} {a a1 e1 ep fl x : Int} {ms : List MemT} (h1 : textR s a 0 65536 = (t, a1, e1)) (h2 : ofC t = ((ep, ms, fl), x)) : rdC s a = ((ep, ms, fl), a1, if e1 ≠ 0 then e1 else x) := by unfold rdC; simp only [h1, h2]
theorem rdB_at {s t : ByteArray} {a a1 e1 c r x : Int} {l : List OpT} (h1 : textR s a 0 65536 = (t, a1, e1)) (h2 : ofB t = ((c, r, l), x)) : rdB s a = ((c, r, l), a1, if e1 ≠ 0 then e1 else x) := by unfold rdB; simp only [h1, h2]
/-- A part is read: the message, the place, the first error. -/
def rdP (s : ByteArray) (p : Int) (d : MsgD) (a : Int) : MsgD × Int × Int :=
  if p = 101 then ({ d with ep := (numR s a 0 1073741824).1 }, (numR s a 0 1073741824).2)
  else if p = 115 then ({ d with sr := (numR s a 0 1073741824).1 }, (numR s a 0 1073741824).2)
  else if p = 113 then ({ d with rq := (numR s a 0 1073741824).1 }, (numR s a 0 1073741824).2)
  else if p = 110 then ({ d with n := (numR s a 0 1073741824).1 }, (numR s a 0 1073741824).2)
  else if p = 109 then ({ d with m := (numR s a 0 1073741824).1 }, (numR s a 0 1073741824).2)
  else if p = 112 then ({ d with p := (numR s a 0 1073741824).1 }, (numR s a 0 1073741824).2)
  else if p = 120 then ({ d with e := (numR s a 0 21).1 }, (numR s a 0 21).2)
  else if p = 102 then ({ d with fg := (flagR s a.toNat 0).1 }, (flagR s a.toNat 0).2)
  else if p = 97 then ({ d with at_ := (bigR s a 0).1 }, (bigR s a 0).2)
  else if p = 108 then ({ d with la := (bigR s a 0).1 }, (bigR s a 0).2)
  else if p = 107 then ({ d with key := (textR s a 0 8).1 }, (textR s a 0 8).2)
  else if p = 116 then ({ d with to_ := (textR s a 0 8).1 }, (textR s a 0 8).2)
  else if p = 67 then ({ d with cep := (rdC s a).1.1, cms := (rdC s a).1.2.1, cfl := (rdC s a).1.2.2 }, (rdC s a).2)
  else if p = 66 then ({ d with bc := (rdB s a).1.1, br := (rdB s a).1.2.1, bl := (rdB s a).1.2.2 }, (rdB s a).2)
  else if p = 76 then ({ d with en := (rdE s a).1 }, (rdE s a).2)
  else if p = 83 then ({ d with st := (rdS s a).1 }, (rdS s a).2)
  else ({ d with pr := (rdR s a).1 }, (rdR s a).2)
/-- The parts of a message, one behind the other, to the first error. -/
def rdL (s : ByteArray) : List UInt8 → MsgD → Int → MsgD × Int × Int
  | [], d, a => (d, a, 0)
  | c :: r, d, a => if (rdP s (c.toNat : Int) d a).2.2 ≠ 0 then rdP s (c.toNat : Int) d a else rdL s r (rdP s (c.toNat : Int) d a).1 (rdP s (c.toNat : Int) d a).2.1
theorem rdL_ok {s : ByteArray} {c : UInt8} {r : List UInt8} {d d' : MsgD} {a a' x : Int} {q : MsgD × Int × Int} (h : rdP s (c.toNat : Int) d a = (d', a', x)) (hx : x = 0) (h2 : rdL s r d' a' = q) : rdL s (c :: r) d a = q := by
  subst hx; unfold rdL; rw [h, if_neg (by simp)]; exact h2
theorem rdL_er {s : ByteArray} {c : UInt8} {r : List UInt8} {d d' : MsgD} {a a' x : Int} (h : rdP s (c.toNat : Int) d a = (d', a', x)) (hx : x ≠ 0) : rdL s (c :: r) d a = (d', a', x) := by
  unfold rdL; rw [h, if_pos hx]
def ofM (s : ByteArray) : MsgD × Int :=
  if (numR s 0 0 15).2.2 ≠ 0 then (zM 0, (numR s 0 0 15).2.2)
  else if (numR s 0 0 15).1 = 0 then (zM 0, 11)
  else
    let q := rdL s (ptL (numR s 0 0 15).1) (zM (numR s 0 0 15).1) (numR s 0 0 15).2.1
    if q.2.2 ≠ 0 then (zM 0, q.2.2)
    else if endV s q.2.1.toNat 0 ≠ 0 then (zM 0, endV s q.2.1.toNat 0)
    else if chkMg q.1 ≠ 0 then (zM 0, chkMg q.1)
    else (q.1, 0)
theorem ofM_e {s : ByteArray} {k a e : Int} (h : numR s 0 0 15 = (k, a, e)) (he : e ≠ 0) : ofM s = (zM 0, e) := by unfold ofM; rw [h, if_pos he]
theorem ofM_k {s : ByteArray} {a e : Int} (h : numR s 0 0 15 = (0, a, e)) (he : e = 0) : ofM s = (zM 0, 11) := by subst he; unfold ofM; rw [h, if_neg (by simp), if_pos rfl]
theorem ofM_q {s : ByteArray} {k a : Int} {d : MsgD} {a1 x : Int} (h : numR s 0 0 15 = (k, a, 0)) (hk : k ≠ 0) (h2 : rdL s (ptL k) (zM k) a = (d, a1, x)) : ofM s = if x ≠ 0 then (zM 0, x) else if endV s a1.toNat 0 ≠ 0 then (zM 0, endV s a1.toNat 0) else if chkMg d ≠ 0 then (zM 0, chkMg d) else (d, 0) := by
  unfold ofM; rw [h, if_neg (by simp), if_neg hk]; simp only [h2]
theorem ofM_r {s : ByteArray} {k a e : Int} {d : MsgD} {a1 x : Int} (h : numR s 0 0 15 = (k, a, e)) (he : e = 0) (hk : k ≠ 0) (h2 : rdL s (ptL k) (zM k) a = (d, a1, x)) (hx : x ≠ 0) : ofM s = (zM 0, x) := by subst he; rw [ofM_q h hk h2, if_pos hx]
theorem ofM_x {s : ByteArray} {k a e y : Int} {d : MsgD} {a1 : Int} (h : numR s 0 0 15 = (k, a, e)) (he : e = 0) (hk : k ≠ 0) (h2 : rdL s (ptL k) (zM k) a = (d, a1, 0)) (hy : endV s a1.toNat 0 = y) (hx : y ≠ 0) : ofM s = (zM 0, y) := by subst he; subst hy; rw [ofM_q h hk h2, if_neg (by simp), if_pos hx]
theorem chkE_p (l : List EntT) : chkF chkEn (l.map pE) = chkF chkEn l := by
  induction l with
  | nil => rfl
  | cons x r ih => simp only [List.map_cons]; unfold chkF; rw [ih]; rfl
theorem chkLs_p (l : List EntT) : chkLs 4 chkEn (l.map pE) = chkLs 4 chkEn l := by unfold chkLs; rw [List.length_map, chkE_p]
theorem chkP_p (d : MsgD) (p : Int) : chkP (nM d) p = chkP d p := by
  have h : chkLs 4 chkEn (nM d).en = chkLs 4 chkEn d.en := chkLs_p d.en
  unfold chkP; rw [h]; rfl
theorem chkF_f {α : Type} {f g : α → Int} (h : ∀ x, f x = g x) (l : List α) : chkF f l = chkF g l := by rw [show f = g from funext h]
theorem chkMg_p (d : MsgD) : chkMg (nM d) = chkMg d := by
  unfold chkMg
  rw [show (nM d).k = d.k from rfl, chkF_f (f := cP (nM d)) (g := cP d) (fun c => chkP_p d _)]
theorem ofM_c {s : ByteArray} {k a e : Int} {d : MsgD} {a1 : Int} (h : numR s 0 0 15 = (k, a, e)) (he : e = 0) (hk : k ≠ 0) (h2 : rdL s (ptL k) (zM k) a = (nM d, a1, 0)) (hy : endV s a1.toNat 0 = 0) (hx : chkMg d ≠ 0) : ofM s = (zM 0, chkMg d) := by subst he; rw [ofM_q h hk h2, if_neg (by simp), if_neg (by simp [hy]), chkMg_p, if_pos hx]
theorem ofM_o {s : ByteArray} {k a e : Int} {d : MsgD} {a1 : Int} (h : numR s 0 0 15 = (k, a, e)) (he : e = 0) (hk : k ≠ 0) (h2 : rdL s (ptL k) (zM k) a = (nM d, a1, 0)) (hy : endV s a1.toNat 0 = 0) (hx : chkMg d = 0) : ofM s = (nM d, 0) := by subst he; rw [ofM_q h hk h2, if_neg (by simp), if_neg (by simp [hy]), chkMg_p, if_neg (by omega)]
theorem rd_101 {s : ByteArray} {a a' x : Int} {d : MsgD} {v : Int} (h : numR s a 0 1073741824 = (v, a', x)) : rdP s 101 d a = ({ d with ep := v }, a', x) := by unfold rdP; rw [if_pos rfl, h]
theorem rd_115 {s : ByteArray} {a a' x : Int} {d : MsgD} {v : Int} (h : numR s a 0 1073741824 = (v, a', x)) : rdP s 115 d a = ({ d with sr := v }, a', x) := by unfold rdP; rw [if_neg (by decide), if_pos rfl, h]
theorem rd_113 {s : ByteArray} {a a' x : Int} {d : MsgD} {v : Int} (h : numR s a 0 1073741824 = (v, a', x)) : rdP s 113 d a = ({ d with rq := v }, a', x) := by unfold rdP; rw [if_neg (by decide), if_neg (by decide), if_pos rfl, h]
theorem rd_110 {s : ByteArray} {a a' x : Int} {d : MsgD} {v : Int} (h : numR s a 0 1073741824 = (v, a', x)) : rdP s 110 d a = ({ d with n := v }, a', x) := by unfold rdP; rw [if_neg (by decide), if_neg (by decide), if_neg (by decide), if_pos rfl, h]
theorem rd_109 {s : ByteArray} {a a' x : Int} {d : MsgD} {v : Int} (h : numR s a 0 1073741824 = (v, a', x)) : rdP s 109 d a = ({ d with m := v }, a', x) := by unfold rdP; rw [if_neg (by decide), if_neg (by decide), if_neg (by decide), if_neg (by decide), if_pos rfl, h]
theorem rd_112 {s : ByteArray} {a a' x : Int} {d : MsgD} {v : Int} (h : numR s a 0 1073741824 = (v, a', x)) : rdP s 112 d a = ({ d with p := v }, a', x) := by unfold rdP; rw [if_neg (by decide), if_neg (by decide), if_neg (by decide), if_neg (by decide), if_neg (by decide), if_pos rfl, h]
theorem rd_120 {s : ByteArray} {a a' x : Int} {d : MsgD} {v : Int} (h : numR s a 0 21 = (v, a', x)) : rdP s 120 d a = ({ d with e := v }, a', x) := by unfold rdP; rw [if_neg (by decide), if_neg (by decide), if_neg (by decide), if_neg (by decide), if_neg (by decide), if_neg (by decide), if_pos rfl, h]
theorem rd_102 {s : ByteArray} {a a' x : Int} {d : MsgD} {v : Bool} (h : flagR s a.toNat 0 = (v, a', x)) : rdP s 102 d a = ({ d with fg := v }, a', x) := by unfold rdP; rw [if_neg (by decide), if_neg (by decide), if_neg (by decide), if_neg (by decide), if_neg (by decide), if_neg (by decide), if_neg (by decide), if_pos rfl, h]
theorem rd_97 {s : ByteArray} {a a' x : Int} {d : MsgD} {v : Int} (h : bigR s a 0 = (v, a', x)) : rdP s 97 d a = ({ d with at_ := v }, a', x) := by unfold rdP; rw [if_neg (by decide), if_neg (by decide), if_neg (by decide), if_neg (by decide), if_neg (by decide), if_neg (by decide), if_neg (by decide), if_neg (by decide), if_pos rfl, h]
theorem rd_108 {s : ByteArray} {a a' x : Int} {d : MsgD} {v : Int} (h : bigR s a 0 = (v, a', x)) : rdP s 108 d a = ({ d with la := v }, a', x) := by unfold rdP; rw [if_neg (by decide), if_neg (by decide), if_neg (by decide), if_neg (by decide), if_neg (by decide), if_neg (by decide), if_neg (by decide), if_neg (by decide), if_neg (by decide), if_pos rfl, h]
theorem rd_107 {s : ByteArray} {a a' x : Int} {d : MsgD} {v : ByteArray} (h : textR s a 0 8 = (v, a', x)) : rdP s 107 d a = ({ d with key := v }, a', x) := by unfold rdP; rw [if_neg (by decide), if_neg (by decide), if_neg (by decide), if_neg (by decide), if_neg (by decide), if_neg (by decide), if_neg (by decide), if_neg (by decide), if_neg (by decide), if_neg (by decide), if_pos rfl, h]
theorem rd_116 {s : ByteArray} {a a' x : Int} {d : MsgD} {v : ByteArray} (h : textR s a 0 8 = (v, a', x)) : rdP s 116 d a = ({ d with to_ := v }, a', x) := by unfold rdP; rw [if_neg (by decide), if_neg (by decide), if_neg (by decide), if_neg (by decide), if_neg (by decide), if_neg (by decide), if_neg (by decide), if_neg (by decide), if_neg (by decide), if_neg (by decide), if_neg (by decide), if_pos rfl, h]
theorem rd_67 {s : ByteArray} {a a' x : Int} {d : MsgD} {x1 : Int} {l1 : List MemT} {x2 : Int} (h : rdC s a = ((x1, l1, x2), a', x)) : rdP s 67 d a = ({ d with cep := x1, cms := l1, cfl := x2 }, a', x) := by unfold rdP; rw [if_neg (by decide), if_neg (by decide), if_neg (by decide), if_neg (by decide), if_neg (by decide), if_neg (by decide), if_neg (by decide), if_neg (by decide), if_neg (by decide), if_neg (by decide), if_neg (by decide), if_neg (by decide), if_pos rfl, h]
theorem rd_66 {s : ByteArray} {a a' x : Int} {d : MsgD} {x1 : Int} {x2 : Int} {l1 : List OpT} (h : rdB s a = ((x1, x2, l1), a', x)) : rdP s 66 d a = ({ d with bc := x1, br := x2, bl := l1 }, a', x) := by unfold rdP; rw [if_neg (by decide), if_neg (by decide), if_neg (by decide), if_neg (by decide), if_neg (by decide), if_neg (by decide), if_neg (by decide), if_neg (by decide), if_neg (by decide), if_neg (by decide), if_neg (by decide), if_neg (by decide), if_neg (by decide), if_pos rfl, h]
theorem rd_76 {s : ByteArray} {a a' x : Int} {d : MsgD} {l1 : List EntT} (h : rdE s a = (l1, a', x)) : rdP s 76 d a = ({ d with en := l1 }, a', x) := by unfold rdP; rw [if_neg (by decide), if_neg (by decide), if_neg (by decide), if_neg (by decide), if_neg (by decide), if_neg (by decide), if_neg (by decide), if_neg (by decide), if_neg (by decide), if_neg (by decide), if_neg (by decide), if_neg (by decide), if_neg (by decide), if_neg (by decide), if_pos rfl, h]
theorem rd_83 {s : ByteArray} {a a' x : Int} {d : MsgD} {l1 : List Int} (h : rdS s a = (l1, a', x)) : rdP s 83 d a = ({ d with st := l1 }, a', x) := by unfold rdP; rw [if_neg (by decide), if_neg (by decide), if_neg (by decide), if_neg (by decide), if_neg (by decide), if_neg (by decide), if_neg (by decide), if_neg (by decide), if_neg (by decide), if_neg (by decide), if_neg (by decide), if_neg (by decide), if_neg (by decide), if_neg (by decide), if_neg (by decide), if_pos rfl, h]
theorem rd_82 {s : ByteArray} {a a' x : Int} {d : MsgD} {l1 : List PrT} (h : rdR s a = (l1, a', x)) : rdP s 82 d a = ({ d with pr := l1 }, a', x) := by unfold rdP; rw [if_neg (by decide), if_neg (by decide), if_neg (by decide), if_neg (by decide), if_neg (by decide), if_neg (by decide), if_neg (by decide), if_neg (by decide), if_neg (by decide), if_neg (by decide), if_neg (by decide), if_neg (by decide), if_neg (by decide), if_neg (by decide), if_neg (by decide), if_neg (by decide), h]

end Go.Proofs.Ytcbagajjgbfgdaa

/- Package mess: read, where a part is a number, a flag, a text; whole. Conditions: none. -/
namespace Go.Proofs.Ytcbagajjgbfgdaa
open Go.RowKit Go.PlainAid
set_option linter.unusedVariables false
set_option linter.unusedSimpArgs false


def setNm (d : MsgD) (p x : Int) : MsgD := if p = 101 then { d with ep := x } else if p = 115 then { d with sr := x } else if p = 113 then { d with rq := x } else if p = 110 then { d with n := x } else if p = 109 then { d with m := x } else if p = 112 then { d with p := x } else { d with e := x }
theorem rd_pat {s : ByteArray} {p n a : Int} {d : MsgD} {q : MsgD × Int × Int} (hp : p = n) (h : rdP s n d a = q) : rdP s p d a = q := by subst hp; exact h
theorem sn_101 {d : MsgD} {p x : Int} (h : p = 101) : setNm d p x = { d with ep := x } := by subst h; unfold setNm; rw [if_pos rfl]
theorem sn_115 {d : MsgD} {p x : Int} (h : p = 115) : setNm d p x = { d with sr := x } := by subst h; unfold setNm; rw [if_neg (by decide), if_pos rfl]
theorem sn_113 {d : MsgD} {p x : Int} (h : p = 113) : setNm d p x = { d with rq := x } := by subst h; unfold setNm; rw [if_neg (by decide), if_neg (by decide), if_pos rfl]
theorem sn_110 {d : MsgD} {p x : Int} (h : p = 110) : setNm d p x = { d with n := x } := by subst h; unfold setNm; rw [if_neg (by decide), if_neg (by decide), if_neg (by decide), if_pos rfl]
theorem sn_109 {d : MsgD} {p x : Int} (h : p = 109) : setNm d p x = { d with m := x } := by subst h; unfold setNm; rw [if_neg (by decide), if_neg (by decide), if_neg (by decide), if_neg (by decide), if_pos rfl]
theorem sn_112 {d : MsgD} {p x : Int} (h : p = 112) : setNm d p x = { d with p := x } := by subst h; unfold setNm; rw [if_neg (by decide), if_neg (by decide), if_neg (by decide), if_neg (by decide), if_neg (by decide), if_pos rfl]
theorem sn_120 {d : MsgD} {p x : Int} (h : p = 120) : setNm d p x = { d with e := x } := by subst h; unfold setNm; rw [if_neg (by decide), if_neg (by decide), if_neg (by decide), if_neg (by decide), if_neg (by decide), if_neg (by decide)]
theorem rd_nm {s : ByteArray} {p a a' x v : Int} {d : MsgD} (hp : p = 101 ∨ p = 115 ∨ p = 113 ∨ p = 110 ∨ p = 109 ∨ p = 112) (h : numR s a 0 1073741824 = (v, a', x)) : rdP s p d a = (setNm d p v, a', x) := by
  rcases hp with rfl | rfl | rfl | rfl | rfl | rfl
  · exact rd_101 h
  · exact rd_115 h
  · exact rd_113 h
  · exact rd_110 h
  · exact rd_109 h
  · exact rd_112 h

set_option maxRecDepth 100000 in
theorem mSet_any (N : Nat) (d : MsgD) (mv : Value) (bv : Value) (ev : Value) (sv : Value) (pv : Value) (p : Int) (x : Int) (w : World) (hN : Blk w N 34 #[.int .i64 d.k, .int .i64 d.ep, .int .i64 d.rq, .int .i64 d.sr, .bool d.fg, .int .u64 d.at_, .int .u64 d.la, .int .i64 d.n, .int .i64 d.m, .int .i64 d.p, .int .i64 d.e, .string d.key, .string d.to_, .int .i64 d.cep, mv, .int .u64 d.cfl, .int .i64 d.bc, .int .i64 d.br, bv, ev, sv, pv]) (hp : (p = 101 ∨ p = 115 ∨ p = 113 ∨ p = 110 ∨ p = 109 ∨ p = 112 ∨ p = 120)) :
    Calls Try.prog 54 #[pt N 0, .int .i32 p, .int .i64 x] w fun e w' => e = .returned (.tuple #[]) ∧ Blk w' N 34 #[.int .i64 ((setNm d p x).k), .int .i64 ((setNm d p x).ep), .int .i64 ((setNm d p x).rq), .int .i64 ((setNm d p x).sr), .bool ((setNm d p x).fg), .int .u64 ((setNm d p x).at_), .int .u64 ((setNm d p x).la), .int .i64 ((setNm d p x).n), .int .i64 ((setNm d p x).m), .int .i64 ((setNm d p x).p), .int .i64 ((setNm d p x).e), .string ((setNm d p x).key), .string ((setNm d p x).to_), .int .i64 ((setNm d p x).cep), mv, .int .u64 ((setNm d p x).cfl), .int .i64 ((setNm d p x).bc), .int .i64 ((setNm d p x).br), bv, ev, sv, pv] ∧ But (fun q => q = N) w w' := by
 have hB0 := But.refl (fun q => q = N) w;have hl_hN := hN.lt;refine co_enter (n := 49) Try.func54 rfl rfl rfl [(0, pt N 0), (1, .int .i32 p), (2, .int .i64 x)] rfl (fun a s => ?_);refine q2 ?_;refine pk0 (v := .int .i32 p) s rfl fun _ s => q1 <| wp_block <| q2 ?_;refine pk0 (v := .bool (p == 101)) s rfl fun _ s => ?_;refine pk0 (v := .bool (p == 101)) s rfl fun _ s => q1 ?_;cases hc4 : (p == 101)
 ·
  rw [hc4] at s;have hp5 : ¬ (p = 101) := by first | simpa using hc4 | simpa [and_assoc] using hc4
  refine co_false s rfl <| q2 ?_;refine pk0 (v := .bool (p == 115)) s rfl fun _ s => ?_;refine pk0 (v := .bool (p == 115)) s rfl fun _ s => q1 ?_;cases hc8 : (p == 115)
  ·
   rw [hc8] at s;have hp9 : ¬ (p = 115) := by first | simpa using hc8 | simpa [and_assoc] using hc8
   refine co_false s rfl <| q2 ?_;refine pk0 (v := .bool (p == 113)) s rfl fun _ s => ?_;refine pk0 (v := .bool (p == 113)) s rfl fun _ s => q1 ?_;cases hc12 : (p == 113)
   ·
    rw [hc12] at s;have hp13 : ¬ (p = 113) := by first | simpa using hc12 | simpa [and_assoc] using hc12
    refine co_false s rfl <| q2 ?_;refine pk0 (v := .bool (p == 110)) s rfl fun _ s => ?_;refine pk0 (v := .bool (p == 110)) s rfl fun _ s => q1 ?_;cases hc16 : (p == 110)
    ·
     rw [hc16] at s;have hp17 : ¬ (p = 110) := by first | simpa using hc16 | simpa [and_assoc] using hc16
     refine co_false s rfl <| q2 ?_;refine pk0 (v := .bool (p == 109)) s rfl fun _ s => ?_;refine pk0 (v := .bool (p == 109)) s rfl fun _ s => q1 ?_;cases hc20 : (p == 109)
     ·
      rw [hc20] at s;have hp21 : ¬ (p = 109) := by first | simpa using hc20 | simpa [and_assoc] using hc20
      refine co_false s rfl <| q2 ?_;refine pk0 (v := .bool (p == 112)) s rfl fun _ s => ?_;refine pk0 (v := .bool (p == 112)) s rfl fun _ s => q1 ?_;cases hc24 : (p == 112)
      ·
       rw [hc24] at s;have hp25 : ¬ (p = 112) := by first | simpa using hc24 | simpa [and_assoc] using hc24
       refine co_false s rfl <| q2 ?_;refine pk0 (v := .bool (p == 120)) s rfl fun _ s => ?_;refine pk0 (v := .bool (p == 120)) s rfl fun _ s => q1 ?_;have hc28 : (p == 120) = true := by simp; omega
       rw [hc28] at s;refine co_true s rfl <| co_reg ?_;refine pk0 (v := pt N 0) s rfl fun _ s => ?_;refine pk0 (v := .int .i64 x) s rfl fun _ s => ?_;refine pk0 (v := pt N 0) s rfl fun _ s => ?_;refine pk0 (v := pt N 10) s rfl fun _ s => ?_;refine pwD s rfl (op_store1 rfl rfl rfl rfl Try.sizeOf23 hN rfl) ?_;rintro _ w34 a33 ⟨hk35, hz36, hg37⟩ s;have hk35' : Blk w34 N 34 #[.int .i64 d.k, .int .i64 d.ep, .int .i64 d.rq, .int .i64 d.sr, .bool d.fg, .int .u64 d.at_, .int .u64 d.la, .int .i64 d.n, .int .i64 d.m, .int .i64 d.p, .int .i64 x, .string d.key, .string d.to_, .int .i64 d.cep, mv, .int .u64 d.cfl, .int .i64 d.bc, .int .i64 d.br, bv, ev, sv, pv] := hk35;have hz38 := hg37.size;refine pl_nil <| co_blockN ?_;refine co_ret0n s rfl ?_;have hB39 := fb_at hB0 hg37 (fun hlt => by first | (exfalso; omega) | (simp; done) | simp_all);exact ⟨rfl, (by rw [sn_120 (d := d) (x := x) (show p = 120 by omega)]; exact hk35'), hB39⟩
      rw [hc24] at s;have hp40 : p = 112 := by first | simpa using hc24 | simpa [and_assoc] using hc24
      refine co_true s rfl <| co_reg ?_;refine pk0 (v := pt N 0) s rfl fun _ s => ?_;refine pk0 (v := .int .i64 x) s rfl fun _ s => ?_;refine pk0 (v := pt N 0) s rfl fun _ s => ?_;refine pk0 (v := pt N 9) s rfl fun _ s => ?_;refine pwD s rfl (op_store1 rfl rfl rfl rfl Try.sizeOf3 hN rfl) ?_;rintro _ w46 a45 ⟨hk47, hz48, hg49⟩ s;have hk47' : Blk w46 N 34 #[.int .i64 d.k, .int .i64 d.ep, .int .i64 d.rq, .int .i64 d.sr, .bool d.fg, .int .u64 d.at_, .int .u64 d.la, .int .i64 d.n, .int .i64 d.m, .int .i64 x, .int .i64 d.e, .string d.key, .string d.to_, .int .i64 d.cep, mv, .int .u64 d.cfl, .int .i64 d.bc, .int .i64 d.br, bv, ev, sv, pv] := hk47;have hz50 := hg49.size;refine pl_nil <| co_blockN ?_;refine co_ret0n s rfl ?_;have hB51 := fb_at hB0 hg49 (fun hlt => by first | (exfalso; omega) | (simp; done) | simp_all);exact ⟨rfl, (by rw [sn_112 (d := d) (x := x) (show p = 112 by omega)]; exact hk47'), hB51⟩
     rw [hc20] at s;have hp52 : p = 109 := by first | simpa using hc20 | simpa [and_assoc] using hc20
     refine co_true s rfl <| co_reg ?_;refine pk0 (v := pt N 0) s rfl fun _ s => ?_;refine pk0 (v := .int .i64 x) s rfl fun _ s => ?_;refine pk0 (v := pt N 0) s rfl fun _ s => ?_;refine pk0 (v := pt N 8) s rfl fun _ s => ?_;refine pwD s rfl (op_store1 rfl rfl rfl rfl Try.sizeOf3 hN rfl) ?_;rintro _ w58 a57 ⟨hk59, hz60, hg61⟩ s;have hk59' : Blk w58 N 34 #[.int .i64 d.k, .int .i64 d.ep, .int .i64 d.rq, .int .i64 d.sr, .bool d.fg, .int .u64 d.at_, .int .u64 d.la, .int .i64 d.n, .int .i64 x, .int .i64 d.p, .int .i64 d.e, .string d.key, .string d.to_, .int .i64 d.cep, mv, .int .u64 d.cfl, .int .i64 d.bc, .int .i64 d.br, bv, ev, sv, pv] := hk59;have hz62 := hg61.size;refine pl_nil <| co_blockN ?_;refine co_ret0n s rfl ?_;have hB63 := fb_at hB0 hg61 (fun hlt => by first | (exfalso; omega) | (simp; done) | simp_all);exact ⟨rfl, (by rw [sn_109 (d := d) (x := x) (show p = 109 by omega)]; exact hk59'), hB63⟩
    rw [hc16] at s;have hp64 : p = 110 := by first | simpa using hc16 | simpa [and_assoc] using hc16
    refine co_true s rfl <| co_reg ?_;refine pk0 (v := pt N 0) s rfl fun _ s => ?_;refine pk0 (v := .int .i64 x) s rfl fun _ s => ?_;refine pk0 (v := pt N 0) s rfl fun _ s => ?_;refine pk0 (v := pt N 7) s rfl fun _ s => ?_;refine pwD s rfl (op_store1 rfl rfl rfl rfl Try.sizeOf3 hN rfl) ?_;rintro _ w70 a69 ⟨hk71, hz72, hg73⟩ s;have hk71' : Blk w70 N 34 #[.int .i64 d.k, .int .i64 d.ep, .int .i64 d.rq, .int .i64 d.sr, .bool d.fg, .int .u64 d.at_, .int .u64 d.la, .int .i64 x, .int .i64 d.m, .int .i64 d.p, .int .i64 d.e, .string d.key, .string d.to_, .int .i64 d.cep, mv, .int .u64 d.cfl, .int .i64 d.bc, .int .i64 d.br, bv, ev, sv, pv] := hk71;have hz74 := hg73.size;refine pl_nil <| co_blockN ?_;refine co_ret0n s rfl ?_;have hB75 := fb_at hB0 hg73 (fun hlt => by first | (exfalso; omega) | (simp; done) | simp_all);exact ⟨rfl, (by rw [sn_110 (d := d) (x := x) (show p = 110 by omega)]; exact hk71'), hB75⟩
   rw [hc12] at s;have hp76 : p = 113 := by first | simpa using hc12 | simpa [and_assoc] using hc12
   refine co_true s rfl <| co_reg ?_;refine pk0 (v := pt N 0) s rfl fun _ s => ?_;refine pk0 (v := .int .i64 x) s rfl fun _ s => ?_;refine pk0 (v := pt N 0) s rfl fun _ s => ?_;refine pk0 (v := pt N 2) s rfl fun _ s => ?_;refine pwD s rfl (op_store1 rfl rfl rfl rfl Try.sizeOf3 hN rfl) ?_;rintro _ w82 a81 ⟨hk83, hz84, hg85⟩ s;have hk83' : Blk w82 N 34 #[.int .i64 d.k, .int .i64 d.ep, .int .i64 x, .int .i64 d.sr, .bool d.fg, .int .u64 d.at_, .int .u64 d.la, .int .i64 d.n, .int .i64 d.m, .int .i64 d.p, .int .i64 d.e, .string d.key, .string d.to_, .int .i64 d.cep, mv, .int .u64 d.cfl, .int .i64 d.bc, .int .i64 d.br, bv, ev, sv, pv] := hk83;have hz86 := hg85.size;refine pl_nil <| co_blockN ?_;refine co_ret0n s rfl ?_;have hB87 := fb_at hB0 hg85 (fun hlt => by first | (exfalso; omega) | (simp; done) | simp_all);exact ⟨rfl, (by rw [sn_113 (d := d) (x := x) (show p = 113 by omega)]; exact hk83'), hB87⟩
  rw [hc8] at s;have hp88 : p = 115 := by first | simpa using hc8 | simpa [and_assoc] using hc8
  refine co_true s rfl <| co_reg ?_;refine pk0 (v := pt N 0) s rfl fun _ s => ?_;refine pk0 (v := .int .i64 x) s rfl fun _ s => ?_;refine pk0 (v := pt N 0) s rfl fun _ s => ?_;refine pk0 (v := pt N 3) s rfl fun _ s => ?_;refine pwD s rfl (op_store1 rfl rfl rfl rfl Try.sizeOf3 hN rfl) ?_;rintro _ w94 a93 ⟨hk95, hz96, hg97⟩ s;have hk95' : Blk w94 N 34 #[.int .i64 d.k, .int .i64 d.ep, .int .i64 d.rq, .int .i64 x, .bool d.fg, .int .u64 d.at_, .int .u64 d.la, .int .i64 d.n, .int .i64 d.m, .int .i64 d.p, .int .i64 d.e, .string d.key, .string d.to_, .int .i64 d.cep, mv, .int .u64 d.cfl, .int .i64 d.bc, .int .i64 d.br, bv, ev, sv, pv] := hk95;have hz98 := hg97.size;refine pl_nil <| co_blockN ?_;refine co_ret0n s rfl ?_;have hB99 := fb_at hB0 hg97 (fun hlt => by first | (exfalso; omega) | (simp; done) | simp_all);exact ⟨rfl, (by rw [sn_115 (d := d) (x := x) (show p = 115 by omega)]; exact hk95'), hB99⟩
 rw [hc4] at s;have hp100 : p = 101 := by first | simpa using hc4 | simpa [and_assoc] using hc4
 refine co_true s rfl <| co_reg ?_;refine pk0 (v := pt N 0) s rfl fun _ s => ?_;refine pk0 (v := .int .i64 x) s rfl fun _ s => ?_;refine pk0 (v := pt N 0) s rfl fun _ s => ?_;refine pk0 (v := pt N 1) s rfl fun _ s => ?_;refine pwD s rfl (op_store1 rfl rfl rfl rfl Try.sizeOf3 hN rfl) ?_;rintro _ w106 a105 ⟨hk107, hz108, hg109⟩ s;have hk107' : Blk w106 N 34 #[.int .i64 d.k, .int .i64 x, .int .i64 d.rq, .int .i64 d.sr, .bool d.fg, .int .u64 d.at_, .int .u64 d.la, .int .i64 d.n, .int .i64 d.m, .int .i64 d.p, .int .i64 d.e, .string d.key, .string d.to_, .int .i64 d.cep, mv, .int .u64 d.cfl, .int .i64 d.bc, .int .i64 d.br, bv, ev, sv, pv] := hk107;have hz110 := hg109.size;refine pl_nil <| co_blockN ?_;refine co_ret0n s rfl ?_;have hB111 := fb_at hB0 hg109 (fun hlt => by first | (exfalso; omega) | (simp; done) | simp_all);exact ⟨rfl, (by rw [sn_101 (d := d) (x := x) (show p = 101 by omega)]; exact hk107'), hB111⟩
set_option maxRecDepth 100000 in
set_option maxHeartbeats 3200000 in
theorem mReadS_any (b : Nat) (s : ByteArray) (ra : Int) (N : Nat) (d : MsgD) (mv : Value) (bv : Value) (ev : Value) (sv : Value) (pv : Value) (p : Int) (w : World) (hsz : s.size ≤ 9223372036854775807) (ho : OR b s ra 0 w) (hN : Blk w N 34 #[.int .i64 d.k, .int .i64 d.ep, .int .i64 d.rq, .int .i64 d.sr, .bool d.fg, .int .u64 d.at_, .int .u64 d.la, .int .i64 d.n, .int .i64 d.m, .int .i64 d.p, .int .i64 d.e, .string d.key, .string d.to_, .int .i64 d.cep, mv, .int .u64 d.cfl, .int .i64 d.bc, .int .i64 d.br, bv, ev, sv, pv]) (hbN : b ≠ N) (hp : (p = 101 ∨ p = 115 ∨ p = 113 ∨ p = 110 ∨ p = 109 ∨ p = 112 ∨ p = 120 ∨ p = 97 ∨ p = 108 ∨ p = 102 ∨ p = 107 ∨ p = 116)) :
    Calls Try.prog 21 #[pt b 0, pt N 0, .int .i32 p] w fun e w' => e = .returned (.int .i64 ((rdP s p d ra).2.2)) ∧ Blk w' N 34 #[.int .i64 ((rdP s p d ra).1.k), .int .i64 ((rdP s p d ra).1.ep), .int .i64 ((rdP s p d ra).1.rq), .int .i64 ((rdP s p d ra).1.sr), .bool ((rdP s p d ra).1.fg), .int .u64 ((rdP s p d ra).1.at_), .int .u64 ((rdP s p d ra).1.la), .int .i64 ((rdP s p d ra).1.n), .int .i64 ((rdP s p d ra).1.m), .int .i64 ((rdP s p d ra).1.p), .int .i64 ((rdP s p d ra).1.e), .string ((rdP s p d ra).1.key), .string ((rdP s p d ra).1.to_), .int .i64 ((rdP s p d ra).1.cep), mv, .int .u64 ((rdP s p d ra).1.cfl), .int .i64 ((rdP s p d ra).1.bc), .int .i64 ((rdP s p d ra).1.br), bv, ev, sv, pv] ∧ OR b s (rdP s p d ra).2.1 (rdP s p d ra).2.2 w' ∧ But (fun q => q = b ∨ q = N) w w' := by
 have hB0 := But.refl (fun q => q = b ∨ q = N) w;have hl_ho := ho.lt;have hl_hN := hN.lt;refine co_enter (n := 119) Try.func21 rfl rfl rfl [(0, pt b 0), (1, pt N 0), (2, .int .i32 p)] rfl (fun a g => ?_);refine q2 ?_;refine pk0 (v := .int .i64 0) g rfl fun _ g => q3 ?_;refine pk0 (v := .int .i64 1073741824) g rfl fun _ g => ?_;refine pk0 (v := .int .i64 0) g rfl fun _ g => q1 ?_;refine co_cut (fun a x => ∃ (u0 : Nat), Slots 119 [(0, pt b 0), (8, .int .i64 0)] a ∧ Blk x N 34 #[.int .i64 ((rdP s p d ra).1.k), .int .i64 ((rdP s p d ra).1.ep), .int .i64 ((rdP s p d ra).1.rq), .int .i64 ((rdP s p d ra).1.sr), .bool ((rdP s p d ra).1.fg), .int .u64 ((rdP s p d ra).1.at_), .int .u64 ((rdP s p d ra).1.la), .int .i64 ((rdP s p d ra).1.n), .int .i64 ((rdP s p d ra).1.m), .int .i64 ((rdP s p d ra).1.p), .int .i64 ((rdP s p d ra).1.e), .string ((rdP s p d ra).1.key), .string ((rdP s p d ra).1.to_), .int .i64 ((rdP s p d ra).1.cep), mv, .int .u64 ((rdP s p d ra).1.cfl), .int .i64 ((rdP s p d ra).1.bc), .int .i64 ((rdP s p d ra).1.br), bv, ev, sv, pv] ∧ OR b s (rdP s p d ra).2.1 (rdP s p d ra).2.2 x ∧ But (fun q => q = b ∨ q = N) w x) ?_ ?_
 ·
  refine q2 ?_;refine pk0 (v := .int .i32 p) g rfl fun _ g => q1 <| wp_block <| co_seq <| wp_block <| co_seq <| wp_block <| co_seq <| wp_block <| co_seq <| wp_block <| co_seq <| wp_block <| co_seq <| wp_block <| co_seq <| wp_block <| co_seq <| wp_block <| co_seq <| wp_block <| co_seq <| wp_block <| co_seq <| q9 ?_;refine pk0 (v := .bool (p == 102)) g rfl fun _ g => ?_;refine pk0 (v := .bool (p == 102)) g rfl fun _ g => q1 ?_;cases hc7 : (p == 102)
  ·
   rw [hc7] at g;have hp8 : ¬ (p = 102) := by first | simpa using hc7 | simpa [and_assoc] using hc7
   refine co_false g rfl <| q0 <| co_seq <| q9 ?_;refine pk0 (v := .bool (p == 97)) g rfl fun _ g => ?_;refine pk0 (v := .bool (p == 97)) g rfl fun _ g => q1 ?_;cases hc11 : (p == 97)
   ·
    rw [hc11] at g;have hp12 : ¬ (p = 97) := by first | simpa using hc11 | simpa [and_assoc] using hc11
    refine co_false g rfl <| co_reg ?_;refine pk0 (v := .bool (p == 108)) g rfl fun _ g => ?_;refine pk0 (v := .bool (p == 108)) g rfl fun _ g => q1 ?_;cases hc15 : (p == 108)
    ·
     rw [hc15] at g;have hp16 : ¬ (p = 108) := by first | simpa using hc15 | simpa [and_assoc] using hc15
     refine co_false g rfl <| q0 <| co_seq <| q9 ?_;refine pk0 (v := .bool (p == 107)) g rfl fun _ g => ?_;refine pk0 (v := .bool (p == 107)) g rfl fun _ g => q1 ?_;cases hc19 : (p == 107)
     ·
      rw [hc19] at g;have hp20 : ¬ (p = 107) := by first | simpa using hc19 | simpa [and_assoc] using hc19
      refine co_false g rfl <| co_reg ?_;refine pk0 (v := .bool (p == 116)) g rfl fun _ g => ?_;refine pk0 (v := .bool (p == 116)) g rfl fun _ g => q1 ?_;cases hc23 : (p == 116)
      ·
       rw [hc23] at g;have hp24 : ¬ (p = 116) := by first | simpa using hc23 | simpa [and_assoc] using hc23
       refine co_false g rfl <| q8 ?_;refine pk0 (v := .bool (p == 67)) g rfl fun _ g => ?_;refine pk0 (v := .bool (p == 67)) g rfl fun _ g => q1 ?_;have hc27 : (p == 67) = false := by first | (simp; done) | (simp; omega) | exact beq_false_of_ne (by omega) | exact beq_iff_eq.2 (by omega)
       rw [hc27] at g;refine co_false g rfl <| q8 ?_;refine pk0 (v := .bool (p == 66)) g rfl fun _ g => ?_;refine pk0 (v := .bool (p == 66)) g rfl fun _ g => q1 ?_;have hc30 : (p == 66) = false := by first | (simp; done) | (simp; omega) | exact beq_false_of_ne (by omega) | exact beq_iff_eq.2 (by omega)
       rw [hc30] at g;refine co_false g rfl <| q8 ?_;refine pk0 (v := .bool (p == 76)) g rfl fun _ g => ?_;refine pk0 (v := .bool (p == 76)) g rfl fun _ g => q1 ?_;have hc33 : (p == 76) = false := by first | (simp; done) | (simp; omega) | exact beq_false_of_ne (by omega) | exact beq_iff_eq.2 (by omega)
       rw [hc33] at g;refine co_false g rfl <| q8 ?_;refine pk0 (v := .bool (p == 83)) g rfl fun _ g => ?_;refine pk0 (v := .bool (p == 83)) g rfl fun _ g => q1 ?_;have hc36 : (p == 83) = false := by first | (simp; done) | (simp; omega) | exact beq_false_of_ne (by omega) | exact beq_iff_eq.2 (by omega)
       rw [hc36] at g;refine co_false g rfl <| q8 ?_;refine pk0 (v := .bool (p == 82)) g rfl fun _ g => ?_;refine pk0 (v := .bool (p == 82)) g rfl fun _ g => q1 ?_;have hc39 : (p == 82) = false := by first | (simp; done) | (simp; omega) | exact beq_false_of_ne (by omega) | exact beq_iff_eq.2 (by omega)
       rw [hc39] at g;refine co_false g rfl <| q7 ?_;refine pk0 (v := .bool (p == 120)) g rfl fun _ g => ?_;refine pk0 (v := .bool (p == 120)) g rfl fun _ g => q1 ?_;cases hc42 : (p == 120)
       ·
        rw [hc42] at g;have hp43 : ¬ (p = 120) := by first | simpa using hc42 | simpa [and_assoc] using hc42
        refine co_false g rfl <| q0 <| wp_exit ?_;refine co_blockY (by decide) ?_;refine co_thenX ?_;refine co_blockY (by decide) ?_;refine co_thenX ?_;refine co_blockY (by decide) ?_;refine co_thenX ?_;refine co_blockY (by decide) ?_;refine co_thenX ?_;refine co_blockY (by decide) ?_;refine co_thenX ?_;refine co_blockY (by decide) ?_;refine co_thenX ?_;refine co_blockY (by decide) ?_;refine co_thenX ?_;refine co_blockY (by decide) ?_;refine co_thenX ?_;refine co_blockY (by decide) ?_;refine co_thenX <| qx <| q2 ?_;refine pk0 (v := pt N 0) g rfl fun _ g => ?_;refine pk0 (v := .int .i32 p) g rfl fun _ g => ?_;refine pk0 (v := pt b 0) g rfl fun _ g => ?_;refine pk0 (v := .int .i64 1073741824) g rfl fun _ g => ?_;refine pw g rfl (op_call (args := #[pt b 0, .int .i64 1073741824]) (R := fun res xw => ∃ (n : Int) (a' e' : Int), res = .int .i64 n ∧ numR s ra 0 1073741824 = (n, a', e') ∧ 0 ≤ n ∧ n ≤ 1073741824 ∧ OR b s a' e' xw ∧ w.grownBy xw (some b)) rfl rfl rfl (by kernel_rfl) (by kernel_rfl) (Try.call18 _ _) (or_num b s ra 0 1073741824 w ho (by omega) (by omega) (by omega)) (by rintro q x ⟨n, a', e', rfl, h0, k0, k1, h1, h2⟩; exact ⟨_, rfl, n, a', e', rfl, h0, k0, k1, h1, h2⟩)) ?_;rintro _ w49 a48 ⟨n50, a51, e52, rfl, hq53, hn54, hm55, ho56, hg57⟩ g;have hz58 := hg57.size;have hl59 := ho56.lt;have hk64 := hN.kept hg57 (by simp; omega);refine pw g rfl (op_call (args := #[pt N 0, .int .i32 p, .int .i64 n50]) (R := fun res xw => res = .tuple #[] ∧ Blk xw N 34 #[.int .i64 ((setNm d p n50).k), .int .i64 ((setNm d p n50).ep), .int .i64 ((setNm d p n50).rq), .int .i64 ((setNm d p n50).sr), .bool ((setNm d p n50).fg), .int .u64 ((setNm d p n50).at_), .int .u64 ((setNm d p n50).la), .int .i64 ((setNm d p n50).n), .int .i64 ((setNm d p n50).m), .int .i64 ((setNm d p n50).p), .int .i64 ((setNm d p n50).e), .string ((setNm d p n50).key), .string ((setNm d p n50).to_), .int .i64 ((setNm d p n50).cep), mv, .int .u64 ((setNm d p n50).cfl), .int .i64 ((setNm d p n50).bc), .int .i64 ((setNm d p n50).br), bv, ev, sv, pv] ∧ But (fun q => q = N) w49 xw) rfl rfl rfl (by kernel_rfl) (by kernel_rfl) (Try.call54 _ _) (mSet_any N d mv bv ev sv pv p n50 w49 hk64 (by omega)) (by rintro e x ⟨rfl, h1, h2⟩; exact ⟨_, rfl, rfl, h1, h2⟩)) ?_;rintro _ w61 a60 ⟨rfl, hk62, hb63⟩ g;have hz65 := hb63.size;have hl66 := hk62.lt;refine q1 <| wp_exit <| qx ?_;have hD := rd_nm (p := p) (d := d) (by omega) hq53;have ho67 := ho56.but hb63 (by first | omega | (simp; omega));have hB68 := fb_at hB0 hg57 (fun hlt => by first | (exfalso; omega) | (simp; done) | simp_all);have hB69 := fb_foot hB68 hb63 (fun i hlt hS => by (try simp at hS); first | omega | (simp; omega) | simp_all);exact ⟨0, g.sub ⟨rfl, rfl, trivial⟩, (by rw [hD]; exact hk62), (by rw [hD]; exact ho67), hB69⟩
       rw [hc42] at g;have hp70 : p = 120 := by first | simpa using hc42 | simpa [and_assoc] using hc42
       refine co_true g rfl <| wp_exit <| co_thenX ?_;refine co_blockY (by decide) ?_;refine co_thenX ?_;refine co_blockY (by decide) ?_;refine co_thenX ?_;refine co_blockY (by decide) ?_;refine co_thenX ?_;refine co_blockY (by decide) ?_;refine co_thenX ?_;refine co_blockY (by decide) ?_;refine co_thenX ?_;refine co_blockY (by decide) ?_;refine co_thenX ?_;refine co_blockY (by decide) ?_;refine co_thenX ?_;refine co_blockY (by decide) ?_;refine co_thenX <| qx <| co_reg ?_;refine pk0 (v := .int .i64 21) g rfl fun _ g => pl_nil <| co_blockN <| co_then <| q2 ?_;refine pk0 (v := pt N 0) g rfl fun _ g => ?_;refine pk0 (v := .int .i32 p) g rfl fun _ g => ?_;refine pk0 (v := pt b 0) g rfl fun _ g => ?_;refine pk0 (v := .int .i64 21) g rfl fun _ g => ?_;refine pw g rfl (op_call (args := #[pt b 0, .int .i64 21]) (R := fun res xw => ∃ (n : Int) (a' e' : Int), res = .int .i64 n ∧ numR s ra 0 21 = (n, a', e') ∧ 0 ≤ n ∧ n ≤ 21 ∧ OR b s a' e' xw ∧ w.grownBy xw (some b)) rfl rfl rfl (by kernel_rfl) (by kernel_rfl) (Try.call18 _ _) (or_num b s ra 0 21 w ho (by omega) (by omega) (by omega)) (by rintro q x ⟨n, a', e', rfl, h0, k0, k1, h1, h2⟩; exact ⟨_, rfl, n, a', e', rfl, h0, k0, k1, h1, h2⟩)) ?_;rintro _ w77 a76 ⟨n78, a79, e80, rfl, hq81, hn82, hm83, ho84, hg85⟩ g;have hz86 := hg85.size;have hl87 := ho84.lt;have hk92 := hN.kept hg85 (by simp; omega);refine pw g rfl (op_call (args := #[pt N 0, .int .i32 p, .int .i64 n78]) (R := fun res xw => res = .tuple #[] ∧ Blk xw N 34 #[.int .i64 ((setNm d p n78).k), .int .i64 ((setNm d p n78).ep), .int .i64 ((setNm d p n78).rq), .int .i64 ((setNm d p n78).sr), .bool ((setNm d p n78).fg), .int .u64 ((setNm d p n78).at_), .int .u64 ((setNm d p n78).la), .int .i64 ((setNm d p n78).n), .int .i64 ((setNm d p n78).m), .int .i64 ((setNm d p n78).p), .int .i64 ((setNm d p n78).e), .string ((setNm d p n78).key), .string ((setNm d p n78).to_), .int .i64 ((setNm d p n78).cep), mv, .int .u64 ((setNm d p n78).cfl), .int .i64 ((setNm d p n78).bc), .int .i64 ((setNm d p n78).br), bv, ev, sv, pv] ∧ But (fun q => q = N) w77 xw) rfl rfl rfl (by kernel_rfl) (by kernel_rfl) (Try.call54 _ _) (mSet_any N d mv bv ev sv pv p n78 w77 hk92 (by omega)) (by rintro e x ⟨rfl, h1, h2⟩; exact ⟨_, rfl, rfl, h1, h2⟩)) ?_;rintro _ w89 a88 ⟨rfl, hk90, hb91⟩ g;have hz93 := hb91.size;have hl94 := hk90.lt;refine q1 <| wp_exit <| qx ?_;have hD := rd_pat (show p = 120 by omega) (rd_120 (d := d) hq81);rw [show setNm d p n78 = _ from sn_120 (by omega)] at hk90;have ho95 := ho84.but hb91 (by first | omega | (simp; omega));have hB96 := fb_at hB0 hg85 (fun hlt => by first | (exfalso; omega) | (simp; done) | simp_all);have hB97 := fb_foot hB96 hb91 (fun i hlt hS => by (try simp at hS); first | omega | (simp; omega) | simp_all);exact ⟨0, g.sub ⟨rfl, rfl, trivial⟩, (by rw [hD]; exact hk90), (by rw [hD]; exact ho95), hB97⟩
      rw [hc23] at g;have hp98 : p = 116 := by first | simpa using hc23 | simpa [and_assoc] using hc23
      refine co_true g rfl <| wp_exit <| co_thenX <| co_thenX ?_;refine co_blockY (by decide) ?_;refine co_thenX ?_;refine co_blockY (by decide) ?_;refine co_thenX <| qx <| q2 ?_;refine pk0 (v := pt N 0) g rfl fun _ g => ?_;refine pk0 (v := .int .i32 p) g rfl fun _ g => ?_;refine pw g rfl (op_call (args := #[pt N 0, .int .i32 p]) (R := fun res xw => res = pt N 12 ∧ Below w.heap.size w xw) rfl rfl rfl (by kernel_rfl) (by kernel_rfl) (Try.call38 _ _) (mTextT_any N p w (by omega)) (by rintro e x ⟨rfl, hb103⟩; exact ⟨_, rfl, ⟨rfl, hb103⟩⟩)) ?_;rintro _ w102 a101 ⟨rfl, hb103⟩ g;have hz104 := hb103.size;refine pk0 (v := pt b 0) g rfl fun _ g => ?_;have ho116 := ho.below hb103;refine pw g rfl (op_call (args := #[pt b 0, .int .i64 8]) (R := fun res xw => ∃ (n : ByteArray) (a' e' : Int), res = .string n ∧ textR s ra 0 8 = (n, a', e') ∧ (n.size : Int) ≤ 8 ∧ OR b s a' e' xw ∧ w102.grownBy xw (some b)) rfl rfl rfl (by kernel_rfl) (by kernel_rfl) (Try.call48 _ _) (or_text b s ra 0 8 w102 ho116 (by omega) (by omega) (by omega)) (by rintro q x ⟨n, a', e', rfl, h0, k0, h1, h2⟩; exact ⟨_, rfl, n, a', e', rfl, h0, k0, h1, h2⟩)) ?_;rintro _ w107 a106 ⟨n108, a109, e110, rfl, hq111, hn112, ho114, hg115⟩ g;have hz117 := hg115.size;have hl118 := ho114.lt;refine pk0 (v := pt N 12) g rfl fun _ g => ?_;have hk125 := hN.below hb103;have hk126 := hk125.kept hg115 (by simp; omega);refine pwD g rfl (op_store1 rfl rfl rfl rfl Try.sizeOf9 hk126 rfl) ?_;rintro _ w121 a120 ⟨hk122, hz123, hg124⟩ g;have hk122' : Blk w121 N 34 #[.int .i64 d.k, .int .i64 d.ep, .int .i64 d.rq, .int .i64 d.sr, .bool d.fg, .int .u64 d.at_, .int .u64 d.la, .int .i64 d.n, .int .i64 d.m, .int .i64 d.p, .int .i64 d.e, .string d.key, .string n108, .int .i64 d.cep, mv, .int .u64 d.cfl, .int .i64 d.bc, .int .i64 d.br, bv, ev, sv, pv] := hk122;have hz127 := hg124.size;refine q1 <| wp_exit ?_;refine co_blockY (by decide) ?_;refine co_thenX ?_;refine co_blockY (by decide) ?_;refine co_thenX ?_;refine co_blockY (by decide) ?_;refine co_thenX ?_;refine co_blockY (by decide) ?_;refine co_thenX ?_;refine co_blockY (by decide) ?_;refine co_thenX ?_;refine co_blockY (by decide) ?_;refine co_thenX ?_;refine co_blockY (by decide) ?_;refine co_thenX <| qx ?_;have hD := rd_pat (show p = 116 by omega) (rd_116 (d := d) hq111);have ho128 := ho114.at (by omega) hg124;have hB129 := fb_call hB0 hb103;have hB130 := fb_at hB129 hg115 (fun hlt => by first | (exfalso; omega) | (simp; done) | simp_all);have hB131 := fb_at hB130 hg124 (fun hlt => by first | (exfalso; omega) | (simp; done) | simp_all);exact ⟨0, g.sub ⟨rfl, rfl, trivial⟩, (by rw [hD]; exact hk122'), (by rw [hD]; exact ho128), hB131⟩
     rw [hc19] at g;have hp132 : p = 107 := by first | simpa using hc19 | simpa [and_assoc] using hc19
     refine co_true g rfl <| q0 ?_;refine co_true g rfl <| wp_exit <| co_thenX <| co_thenX ?_;refine co_blockY (by decide) ?_;refine co_thenX ?_;refine co_blockY (by decide) ?_;refine co_thenX <| qx <| q2 ?_;refine pk0 (v := pt N 0) g rfl fun _ g => ?_;refine pk0 (v := .int .i32 p) g rfl fun _ g => ?_;refine pw g rfl (op_call (args := #[pt N 0, .int .i32 p]) (R := fun res xw => res = pt N 11 ∧ Below w.heap.size w xw) rfl rfl rfl (by kernel_rfl) (by kernel_rfl) (Try.call38 _ _) (mTextK_any N p w (by omega)) (by rintro e x ⟨rfl, hb137⟩; exact ⟨_, rfl, ⟨rfl, hb137⟩⟩)) ?_;rintro _ w136 a135 ⟨rfl, hb137⟩ g;have hz138 := hb137.size;refine pk0 (v := pt b 0) g rfl fun _ g => ?_;have ho150 := ho.below hb137;refine pw g rfl (op_call (args := #[pt b 0, .int .i64 8]) (R := fun res xw => ∃ (n : ByteArray) (a' e' : Int), res = .string n ∧ textR s ra 0 8 = (n, a', e') ∧ (n.size : Int) ≤ 8 ∧ OR b s a' e' xw ∧ w136.grownBy xw (some b)) rfl rfl rfl (by kernel_rfl) (by kernel_rfl) (Try.call48 _ _) (or_text b s ra 0 8 w136 ho150 (by omega) (by omega) (by omega)) (by rintro q x ⟨n, a', e', rfl, h0, k0, h1, h2⟩; exact ⟨_, rfl, n, a', e', rfl, h0, k0, h1, h2⟩)) ?_;rintro _ w141 a140 ⟨n142, a143, e144, rfl, hq145, hn146, ho148, hg149⟩ g;have hz151 := hg149.size;have hl152 := ho148.lt;refine pk0 (v := pt N 11) g rfl fun _ g => ?_;have hk159 := hN.below hb137;have hk160 := hk159.kept hg149 (by simp; omega);refine pwD g rfl (op_store1 rfl rfl rfl rfl Try.sizeOf9 hk160 rfl) ?_;rintro _ w155 a154 ⟨hk156, hz157, hg158⟩ g;have hk156' : Blk w155 N 34 #[.int .i64 d.k, .int .i64 d.ep, .int .i64 d.rq, .int .i64 d.sr, .bool d.fg, .int .u64 d.at_, .int .u64 d.la, .int .i64 d.n, .int .i64 d.m, .int .i64 d.p, .int .i64 d.e, .string n142, .string d.to_, .int .i64 d.cep, mv, .int .u64 d.cfl, .int .i64 d.bc, .int .i64 d.br, bv, ev, sv, pv] := hk156;have hz161 := hg158.size;refine q1 <| wp_exit ?_;refine co_blockY (by decide) ?_;refine co_thenX ?_;refine co_blockY (by decide) ?_;refine co_thenX ?_;refine co_blockY (by decide) ?_;refine co_thenX ?_;refine co_blockY (by decide) ?_;refine co_thenX ?_;refine co_blockY (by decide) ?_;refine co_thenX ?_;refine co_blockY (by decide) ?_;refine co_thenX ?_;refine co_blockY (by decide) ?_;refine co_thenX <| qx ?_;have hD := rd_pat (show p = 107 by omega) (rd_107 (d := d) hq145);have ho162 := ho148.at (by omega) hg158;have hB163 := fb_call hB0 hb137;have hB164 := fb_at hB163 hg149 (fun hlt => by first | (exfalso; omega) | (simp; done) | simp_all);have hB165 := fb_at hB164 hg158 (fun hlt => by first | (exfalso; omega) | (simp; done) | simp_all);exact ⟨0, g.sub ⟨rfl, rfl, trivial⟩, (by rw [hD]; exact hk156'), (by rw [hD]; exact ho162), hB165⟩
    rw [hc15] at g;have hp166 : p = 108 := by first | simpa using hc15 | simpa [and_assoc] using hc15
    refine co_true g rfl <| wp_exit <| co_thenX <| co_thenX ?_;refine co_blockY (by decide) ?_;refine co_thenX <| qx <| q2 ?_;refine pk0 (v := pt N 0) g rfl fun _ g => ?_;refine pk0 (v := .int .i32 p) g rfl fun _ g => ?_;refine pw g rfl (op_call (args := #[pt N 0, .int .i32 p]) (R := fun res xw => res = pt N 6 ∧ Below w.heap.size w xw) rfl rfl rfl (by kernel_rfl) (by kernel_rfl) (Try.call36 _ _) (mBigL_any N p w (by omega)) (by rintro e x ⟨rfl, hb171⟩; exact ⟨_, rfl, ⟨rfl, hb171⟩⟩)) ?_;rintro _ w170 a169 ⟨rfl, hb171⟩ g;have hz172 := hb171.size;refine pk0 (v := pt b 0) g rfl fun _ g => ?_;have ho184 := ho.below hb171;refine pw g rfl (op_call (args := #[pt b 0]) (R := fun res xw => ∃ (n : Int) (a' e' : Int), res = .int .u64 n ∧ bigR s ra 0 = (n, a', e') ∧ 0 ≤ n ∧ n < 18446744073709551616 ∧ OR b s a' e' xw ∧ w170.grownBy xw (some b)) rfl rfl rfl (by kernel_rfl) (by kernel_rfl) (Try.call47 _ _) (or_big b s ra 0 w170 ho184 (by omega)) (by rintro q x ⟨n, a', e', rfl, h0, k0, k1, h1, h2⟩; exact ⟨_, rfl, n, a', e', rfl, h0, k0, k1, h1, h2⟩)) ?_;rintro _ w175 a174 ⟨n176, a177, e178, rfl, hq179, hn180, hm181, ho182, hg183⟩ g;have hz185 := hg183.size;have hl186 := ho182.lt;refine pk0 (v := pt N 6) g rfl fun _ g => ?_;have hk193 := hN.below hb171;have hk194 := hk193.kept hg183 (by simp; omega);refine pwD g rfl (op_store1 rfl rfl rfl rfl Try.sizeOf22 hk194 rfl) ?_;rintro _ w189 a188 ⟨hk190, hz191, hg192⟩ g;have hk190' : Blk w189 N 34 #[.int .i64 d.k, .int .i64 d.ep, .int .i64 d.rq, .int .i64 d.sr, .bool d.fg, .int .u64 d.at_, .int .u64 n176, .int .i64 d.n, .int .i64 d.m, .int .i64 d.p, .int .i64 d.e, .string d.key, .string d.to_, .int .i64 d.cep, mv, .int .u64 d.cfl, .int .i64 d.bc, .int .i64 d.br, bv, ev, sv, pv] := hk190;have hz195 := hg192.size;refine q1 <| wp_exit ?_;refine co_blockY (by decide) ?_;refine co_thenX ?_;refine co_blockY (by decide) ?_;refine co_thenX ?_;refine co_blockY (by decide) ?_;refine co_thenX ?_;refine co_blockY (by decide) ?_;refine co_thenX ?_;refine co_blockY (by decide) ?_;refine co_thenX ?_;refine co_blockY (by decide) ?_;refine co_thenX ?_;refine co_blockY (by decide) ?_;refine co_thenX ?_;refine co_blockY (by decide) ?_;refine co_thenX <| qx ?_;have hD := rd_pat (show p = 108 by omega) (rd_108 (d := d) hq179);have ho196 := ho182.at (by omega) hg192;have hB197 := fb_call hB0 hb171;have hB198 := fb_at hB197 hg183 (fun hlt => by first | (exfalso; omega) | (simp; done) | simp_all);have hB199 := fb_at hB198 hg192 (fun hlt => by first | (exfalso; omega) | (simp; done) | simp_all);exact ⟨0, g.sub ⟨rfl, rfl, trivial⟩, (by rw [hD]; exact hk190'), (by rw [hD]; exact ho196), hB199⟩
   rw [hc11] at g;have hp200 : p = 97 := by first | simpa using hc11 | simpa [and_assoc] using hc11
   refine co_true g rfl <| q0 ?_;refine co_true g rfl <| wp_exit <| co_thenX <| co_thenX ?_;refine co_blockY (by decide) ?_;refine co_thenX <| qx <| q2 ?_;refine pk0 (v := pt N 0) g rfl fun _ g => ?_;refine pk0 (v := .int .i32 p) g rfl fun _ g => ?_;refine pw g rfl (op_call (args := #[pt N 0, .int .i32 p]) (R := fun res xw => res = pt N 5 ∧ Below w.heap.size w xw) rfl rfl rfl (by kernel_rfl) (by kernel_rfl) (Try.call36 _ _) (mBigA_any N p w (by omega)) (by rintro e x ⟨rfl, hb205⟩; exact ⟨_, rfl, ⟨rfl, hb205⟩⟩)) ?_;rintro _ w204 a203 ⟨rfl, hb205⟩ g;have hz206 := hb205.size;refine pk0 (v := pt b 0) g rfl fun _ g => ?_;have ho218 := ho.below hb205;refine pw g rfl (op_call (args := #[pt b 0]) (R := fun res xw => ∃ (n : Int) (a' e' : Int), res = .int .u64 n ∧ bigR s ra 0 = (n, a', e') ∧ 0 ≤ n ∧ n < 18446744073709551616 ∧ OR b s a' e' xw ∧ w204.grownBy xw (some b)) rfl rfl rfl (by kernel_rfl) (by kernel_rfl) (Try.call47 _ _) (or_big b s ra 0 w204 ho218 (by omega)) (by rintro q x ⟨n, a', e', rfl, h0, k0, k1, h1, h2⟩; exact ⟨_, rfl, n, a', e', rfl, h0, k0, k1, h1, h2⟩)) ?_;rintro _ w209 a208 ⟨n210, a211, e212, rfl, hq213, hn214, hm215, ho216, hg217⟩ g;have hz219 := hg217.size;have hl220 := ho216.lt;refine pk0 (v := pt N 5) g rfl fun _ g => ?_;have hk227 := hN.below hb205;have hk228 := hk227.kept hg217 (by simp; omega);refine pwD g rfl (op_store1 rfl rfl rfl rfl Try.sizeOf22 hk228 rfl) ?_;rintro _ w223 a222 ⟨hk224, hz225, hg226⟩ g;have hk224' : Blk w223 N 34 #[.int .i64 d.k, .int .i64 d.ep, .int .i64 d.rq, .int .i64 d.sr, .bool d.fg, .int .u64 n210, .int .u64 d.la, .int .i64 d.n, .int .i64 d.m, .int .i64 d.p, .int .i64 d.e, .string d.key, .string d.to_, .int .i64 d.cep, mv, .int .u64 d.cfl, .int .i64 d.bc, .int .i64 d.br, bv, ev, sv, pv] := hk224;have hz229 := hg226.size;refine q1 <| wp_exit ?_;refine co_blockY (by decide) ?_;refine co_thenX ?_;refine co_blockY (by decide) ?_;refine co_thenX ?_;refine co_blockY (by decide) ?_;refine co_thenX ?_;refine co_blockY (by decide) ?_;refine co_thenX ?_;refine co_blockY (by decide) ?_;refine co_thenX ?_;refine co_blockY (by decide) ?_;refine co_thenX ?_;refine co_blockY (by decide) ?_;refine co_thenX ?_;refine co_blockY (by decide) ?_;refine co_thenX <| qx ?_;have hD := rd_pat (show p = 97 by omega) (rd_97 (d := d) hq213);have ho230 := ho216.at (by omega) hg226;have hB231 := fb_call hB0 hb205;have hB232 := fb_at hB231 hg217 (fun hlt => by first | (exfalso; omega) | (simp; done) | simp_all);have hB233 := fb_at hB232 hg226 (fun hlt => by first | (exfalso; omega) | (simp; done) | simp_all);exact ⟨0, g.sub ⟨rfl, rfl, trivial⟩, (by rw [hD]; exact hk224'), (by rw [hD]; exact ho230), hB233⟩
  rw [hc7] at g;have hp234 : p = 102 := by first | simpa using hc7 | simpa [and_assoc] using hc7
  refine co_true g rfl <| wp_exit <| co_thenX <| co_thenX <| qx <| q2 ?_;refine pk0 (v := pt N 0) g rfl fun _ g => ?_;refine pk0 (v := pt b 0) g rfl fun _ g => ?_;refine pw g rfl (op_call (args := #[pt b 0]) (R := fun res xw => ∃ (n : Bool) (a' e' : Int), res = .bool n ∧ flagR s ra.toNat 0 = (n, a', e') ∧ OR b s a' e' xw ∧ w.grownBy xw (some b)) rfl rfl rfl (by kernel_rfl) (by kernel_rfl) (Try.call46 _ _) (or_flag b s ra 0 w ho (by omega)) (by rintro q x ⟨n, a', e', rfl, h0, h1, h2⟩; exact ⟨_, rfl, n, a', e', rfl, h0, h1, h2⟩)) ?_;rintro _ w238 a237 ⟨n239, a240, e241, rfl, hq242, ho245, hg246⟩ g;have hz247 := hg246.size;have hl248 := ho245.lt;refine pk0 (v := pt N 0) g rfl fun _ g => ?_;refine pk0 (v := pt N 4) g rfl fun _ g => ?_;have hk256 := hN.kept hg246 (by simp; omega);refine pwD g rfl (op_store1 rfl rfl rfl rfl Try.sizeOf4 hk256 rfl) ?_;rintro _ w252 a251 ⟨hk253, hz254, hg255⟩ g;have hk253' : Blk w252 N 34 #[.int .i64 d.k, .int .i64 d.ep, .int .i64 d.rq, .int .i64 d.sr, .bool n239, .int .u64 d.at_, .int .u64 d.la, .int .i64 d.n, .int .i64 d.m, .int .i64 d.p, .int .i64 d.e, .string d.key, .string d.to_, .int .i64 d.cep, mv, .int .u64 d.cfl, .int .i64 d.bc, .int .i64 d.br, bv, ev, sv, pv] := hk253;have hz257 := hg255.size;refine q1 <| wp_exit ?_;refine co_blockY (by decide) ?_;refine co_thenX ?_;refine co_blockY (by decide) ?_;refine co_thenX ?_;refine co_blockY (by decide) ?_;refine co_thenX ?_;refine co_blockY (by decide) ?_;refine co_thenX ?_;refine co_blockY (by decide) ?_;refine co_thenX ?_;refine co_blockY (by decide) ?_;refine co_thenX ?_;refine co_blockY (by decide) ?_;refine co_thenX ?_;refine co_blockY (by decide) ?_;refine co_thenX ?_;refine co_blockY (by decide) ?_;refine co_thenX <| qx ?_;have hD := rd_pat (show p = 102 by omega) (rd_102 (d := d) hq242);have ho258 := ho245.at (by omega) hg255;have hB259 := fb_at hB0 hg246 (fun hlt => by first | (exfalso; omega) | (simp; done) | simp_all);have hB260 := fb_at hB259 hg255 (fun hlt => by first | (exfalso; omega) | (simp; done) | simp_all);exact ⟨0, g.sub ⟨rfl, rfl, trivial⟩, (by rw [hD]; exact hk253'), (by rw [hD]; exact ho258), hB260⟩
 rintro a261 w262 ⟨u0, g, hf263, hf264, hB265⟩;have hz266 := hB265.size;have hl267 := hf263.lt;have hl268 := hf264.lt;refine q9 ?_;refine pk0 (v := pt b 0) g rfl fun _ g => ?_;refine pw g rfl (op_call (args := #[pt b 0]) (R := fun res xw => res = .int .i64 ((rdP s p d ra).2.2) ∧ w262 = xw) rfl rfl rfl (by kernel_rfl) (by kernel_rfl) (Try.call19 _ _) (or_err b s ((rdP s p d ra).2.1) ((rdP s p d ra).2.2) w262 hf264) (by rintro q x ⟨rfl, rfl⟩; exact ⟨_, rfl, rfl, rfl⟩)) ?_;rintro _ _ a270 ⟨rfl, rfl⟩ g;refine pk0 (v := .int .i64 ((rdP s p d ra).2.2)) g rfl fun _ g => q3 ?_;refine pk0 (v := .int .i64 ((rdP s p d ra).2.2)) g rfl fun _ g => ?_;refine pk0 (v := .bool ((rdP s p d ra).2.2 != 0)) g rfl fun _ g => q1 ?_;cases hc275 : ((rdP s p d ra).2.2 != 0)
 ·
  rw [hc275] at g;have hp276 : ¬ ((rdP s p d ra).2.2 ≠ 0) := by first | simpa using hc275 | simpa [and_assoc] using hc275
  refine co_false g rfl <| q7 ?_;refine pk0 (v := .int .i64 0) g rfl fun _ g => ?_;refine pk0 (v := .int .i64 0) g rfl fun _ g => q4 ?_;refine co_ret1 g rfl rfl ?_;exact ⟨ret_int (by omega), hf263, hf264, hB265⟩
 rw [hc275] at g;have hp279 : (rdP s p d ra).2.2 ≠ 0 := by first | simpa using hc275 | simpa [and_assoc] using hc275
 refine co_true g rfl <| q2 ?_;refine pk0 (v := .int .i64 ((rdP s p d ra).2.2)) g rfl fun _ g => ?_;refine pk0 (v := .int .i64 ((rdP s p d ra).2.2)) g rfl fun _ g => q5 ?_;refine co_ret1 g rfl rfl ?_;exact ⟨ret_int (by omega), hf263, hf264, hB265⟩
set_option maxRecDepth 100000 in
theorem mWholeC_any (b : Nat) (s : ByteArray) (ra : Int) (rx : Int) (tx : ByteArray) (ep : Int) (ms : List MemT) (fl : Int) (a' : Int) (e' : Int) (r : Int) (w : World) (hsz : s.size ≤ 9223372036854775807) (ho : OR b s ra rx w) (hot : textR s ra rx 65536 = (tx, a', e')) (hof : ofC tx = ((ep, ms, fl), r)) :
    Calls Try.prog 49 #[pt b 0, .func (.func 50) #[] #[]] w fun e w' => ∃ (u : Value), e = .returned (.tuple #[.agg #[.int .i64 ep, u, .int .u64 fl], .int .i64 r]) ∧ w'.ownsRow w.heap.size 102 2 u ms.length (ms.flatMap memE) ∧ OR b s a' e' w' ∧ But (fun q => q = b) w w' := by
 have hB0 := But.refl (fun q => q = b) w;have hl_ho := ho.lt;refine co_enter (n := 12) Try.func49 rfl rfl rfl [(0, pt b 0), (1, .func (.func 50) #[] #[])] rfl (fun a g => ?_);refine q2 ?_;refine pw g rfl (op_new (v := fun N => pt N 0) (T := 26) (cs := #[.int .i64 0, .slice none 0 0, .int .u64 0]) (by kernel_rfl) (by kernel_rfl) (by kernel_rfl)) ?_;rintro _ w2 a1 ⟨N3, rfl, hN6, hz7, hk5, hg4⟩ g;have hz8 := hg4.size
 try dsimp only at g
 refine pk0 (v := .int .i64 0) g rfl fun _ g => q3 ?_;refine pk0 (v := .func (.func 50) #[] #[]) g rfl fun _ g => ?_;refine pk0 (v := pt b 0) g rfl fun _ g => ?_;have ho22 := ho.new hg4;refine pw g rfl (op_call (args := #[pt b 0, .int .i64 65536]) (R := fun res xw => ∃ (n : ByteArray) (a' e' : Int), res = .string n ∧ textR s ra rx 65536 = (n, a', e') ∧ (n.size : Int) ≤ 65536 ∧ OR b s a' e' xw ∧ w2.grownBy xw (some b)) rfl rfl rfl (by kernel_rfl) (by kernel_rfl) (Try.call48 _ _) (or_text b s ra rx 65536 w2 ho22 (by omega) (by omega) (by omega)) (by rintro q x ⟨n, a', e', rfl, h0, k0, h1, h2⟩; exact ⟨_, rfl, n, a', e', rfl, h0, k0, h1, h2⟩)) ?_;rintro _ w13 a12 ⟨n14, a15, e16, rfl, hq17, hn18, ho20, hg21⟩ g;have hz23 := hg21.size;have hl24 := ho20.lt;refine pw g rfl (op_call (args := #[.string n14]) (R := fun res xw => ∃ u : Value, res = .tuple #[.agg #[.int .i64 ep, u, .int .u64 fl], .int .i64 r] ∧ xw.ownsRow w13.heap.size 102 2 u ms.length (ms.flatMap memE) ∧ Below w13.heap.size w13 xw) rfl rfl rfl (by kernel_rfl) (by kernel_rfl) (Try.call50 _ _) (cOf_any n14 ep ms fl r w13 (by have := textR_le (s := s) (a := ra) (x := rx) (m := 65536) (by omega); rw [hq17] at this; simp only at this; omega) (by have hh := hof; cases hot.symm.trans (hq17); exact hh)) (by rintro e x ⟨u, rfl, hq28, hb29⟩; exact ⟨_, rfl, ⟨u, rfl, hq28, hb29⟩⟩)) ?_;rintro _ w26 a25 ⟨u27, rfl, hq28, hb29⟩ g;have hz30 := hb29.size;have hl31 := sl_len (row_sl hq28 memE_len);refine pk0 (v := .agg #[.int .i64 ep, u27, .int .u64 fl]) g rfl fun _ g => ?_;refine pk0 (v := .int .i64 r) g rfl fun _ g => ?_;have hk39 := hk5.kept hg21 (by simp; omega);have hk40 := hk39.below hb29;refine pwD g rfl (op_storeN rfl rfl rfl (all_cons rfl (all_cons (row_one hq28) (all_cons rfl all_nil))) (by kernel_rfl) hk40 rfl) ?_;rintro _ w35 a34 ⟨hk36, hz37, hg38⟩ g;have hk36' : Blk w35 N3 26 #[.int .i64 ep, u27, .int .u64 fl] := hk36;have hz41 := hg38.size;refine pk0 (v := .int .i64 r) g rfl fun _ g => q4 ?_;refine co_retC1 (Q := fun _ _ _ => True) g rfl rfl rfl hk36' Try.underlying26 rfl (by kernel_rfl) ?_;have hr43 := row_kept_at hq28 hg38 (row_ne_lt hq28 (by omega));have ho44 := ho20.below hb29;have ho45 := ho44.at (by omega) hg38;have hB46 := fb_new hB0 hg4;have hB47 := fb_at hB46 hg21 (fun hlt => by first | (exfalso; omega) | (simp; done) | simp_all);have hB48 := fb_call hB47 hb29;have hB49 := fb_at hB48 hg38 (fun hlt => by first | (exfalso; omega) | (simp; done) | simp_all);cases hot.symm.trans (hq17);exact ⟨_, rfl, (row_lows hr43 (by omega)), ho45, hB49⟩
set_option maxRecDepth 100000 in
theorem mWholeB_any (b : Nat) (s : ByteArray) (ra : Int) (rx : Int) (tx : ByteArray) (c : Int) (q : Int) (l : List OpT) (a' : Int) (e' : Int) (r : Int) (w : World) (hsz : s.size ≤ 9223372036854775807) (ho : OR b s ra rx w) (hot : textR s ra rx 65536 = (tx, a', e')) (hof : ofB tx = ((c, q, l), r)) :
    Calls Try.prog 51 #[pt b 0, .func (.func 52) #[] #[]] w fun e w' => ∃ (u : Value), e = .returned (.tuple #[.agg #[.int .i64 c, .int .i64 q, u], .int .i64 r]) ∧ w'.ownsRow w.heap.size 115 3 u l.length (l.flatMap opE) ∧ OR b s a' e' w' ∧ But (fun q => q = b) w w' := by
 have hB0 := But.refl (fun q => q = b) w;have hl_ho := ho.lt;refine co_enter (n := 12) Try.func51 rfl rfl rfl [(0, pt b 0), (1, .func (.func 52) #[] #[])] rfl (fun a g => ?_);refine q2 ?_;refine pw g rfl (op_new (v := fun N => pt N 0) (T := 29) (cs := #[.int .i64 0, .int .i64 0, .slice none 0 0]) (by kernel_rfl) (by kernel_rfl) (by kernel_rfl)) ?_;rintro _ w2 a1 ⟨N3, rfl, hN6, hz7, hk5, hg4⟩ g;have hz8 := hg4.size
 try dsimp only at g
 refine pk0 (v := .int .i64 0) g rfl fun _ g => q3 ?_;refine pk0 (v := .func (.func 52) #[] #[]) g rfl fun _ g => ?_;refine pk0 (v := pt b 0) g rfl fun _ g => ?_;have ho22 := ho.new hg4;refine pw g rfl (op_call (args := #[pt b 0, .int .i64 65536]) (R := fun res xw => ∃ (n : ByteArray) (a' e' : Int), res = .string n ∧ textR s ra rx 65536 = (n, a', e') ∧ (n.size : Int) ≤ 65536 ∧ OR b s a' e' xw ∧ w2.grownBy xw (some b)) rfl rfl rfl (by kernel_rfl) (by kernel_rfl) (Try.call48 _ _) (or_text b s ra rx 65536 w2 ho22 (by omega) (by omega) (by omega)) (by rintro q x ⟨n, a', e', rfl, h0, k0, h1, h2⟩; exact ⟨_, rfl, n, a', e', rfl, h0, k0, h1, h2⟩)) ?_;rintro _ w13 a12 ⟨n14, a15, e16, rfl, hq17, hn18, ho20, hg21⟩ g;have hz23 := hg21.size;have hl24 := ho20.lt;refine pw g rfl (op_call (args := #[.string n14]) (R := fun res xw => ∃ u : Value, res = .tuple #[.agg #[.int .i64 c, .int .i64 q, u], .int .i64 r] ∧ xw.ownsRow w13.heap.size 115 3 u l.length (l.flatMap opE) ∧ Below w13.heap.size w13 xw) rfl rfl rfl (by kernel_rfl) (by kernel_rfl) (Try.call52 _ _) (opsOf_any n14 c q l r w13 (by have := textR_le (s := s) (a := ra) (x := rx) (m := 65536) (by omega); rw [hq17] at this; simp only at this; omega) (by have hh := hof; cases hot.symm.trans (hq17); exact hh)) (by rintro e x ⟨u, rfl, hq28, hb29⟩; exact ⟨_, rfl, ⟨u, rfl, hq28, hb29⟩⟩)) ?_;rintro _ w26 a25 ⟨u27, rfl, hq28, hb29⟩ g;have hz30 := hb29.size;have hl31 := sl_len (row_sl hq28 opE_len);refine pk0 (v := .agg #[.int .i64 c, .int .i64 q, u27]) g rfl fun _ g => ?_;refine pk0 (v := .int .i64 r) g rfl fun _ g => ?_;have hk39 := hk5.kept hg21 (by simp; omega);have hk40 := hk39.below hb29;refine pwD g rfl (op_storeN rfl rfl rfl (all_cons rfl (all_cons rfl (all_cons (row_one hq28) all_nil))) (by kernel_rfl) hk40 rfl) ?_;rintro _ w35 a34 ⟨hk36, hz37, hg38⟩ g;have hk36' : Blk w35 N3 29 #[.int .i64 c, .int .i64 q, u27] := hk36;have hz41 := hg38.size;refine pk0 (v := .int .i64 r) g rfl fun _ g => q4 ?_;refine co_retC1 (Q := fun _ _ _ => True) g rfl rfl rfl hk36' Try.underlying29 rfl (by kernel_rfl) ?_;have hr43 := row_kept_at hq28 hg38 (row_ne_lt hq28 (by omega));have ho44 := ho20.below hb29;have ho45 := ho44.at (by omega) hg38;have hB46 := fb_new hB0 hg4;have hB47 := fb_at hB46 hg21 (fun hlt => by first | (exfalso; omega) | (simp; done) | simp_all);have hB48 := fb_call hB47 hb29;have hB49 := fb_at hB48 hg38 (fun hlt => by first | (exfalso; omega) | (simp; done) | simp_all);cases hot.symm.trans (hq17);exact ⟨_, rfl, (row_lows hr43 (by omega)), ho45, hB49⟩
set_option maxRecDepth 100000 in
theorem mWholeE_any (b : Nat) (s : ByteArray) (ra : Int) (rx : Int) (tx : ByteArray) (ec : Int) (er : Int) (el : List OpT) (ts : Int) (a' : Int) (e' : Int) (r : Int) (w : World) (hsz : s.size ≤ 9223372036854775807) (ho : OR b s ra rx w) (hot : textR s ra rx 65536 = (tx, a', e')) (hof : ofE tx = ((ec, er, el, ts), r)) :
    Calls Try.prog 76 #[pt b 0, .func (.func 77) #[] #[]] w fun e w' => ∃ (u : Value), e = .returned (.tuple #[.agg #[.int .i64 ec, .int .i64 er, u, .int .u64 ts], .int .i64 r]) ∧ w'.ownsRow w.heap.size 115 3 u el.length (el.flatMap opE) ∧ OR b s a' e' w' ∧ But (fun q => q = b) w w' := by
 have hB0 := But.refl (fun q => q = b) w;have hl_ho := ho.lt;refine co_enter (n := 12) Try.func76 rfl rfl rfl [(0, pt b 0), (1, .func (.func 77) #[] #[])] rfl (fun a g => ?_);refine q2 ?_;refine pw g rfl (op_new (v := fun N => pt N 0) (T := 66) (cs := #[.int .i64 0, .int .i64 0, .slice none 0 0, .int .u64 0]) (by kernel_rfl) (by kernel_rfl) (by kernel_rfl)) ?_;rintro _ w2 a1 ⟨N3, rfl, hN6, hz7, hk5, hg4⟩ g;have hz8 := hg4.size
 try dsimp only at g
 refine pk0 (v := .int .i64 0) g rfl fun _ g => q3 ?_;refine pk0 (v := .func (.func 77) #[] #[]) g rfl fun _ g => ?_;refine pk0 (v := pt b 0) g rfl fun _ g => ?_;have ho22 := ho.new hg4;refine pw g rfl (op_call (args := #[pt b 0, .int .i64 65536]) (R := fun res xw => ∃ (n : ByteArray) (a' e' : Int), res = .string n ∧ textR s ra rx 65536 = (n, a', e') ∧ (n.size : Int) ≤ 65536 ∧ OR b s a' e' xw ∧ w2.grownBy xw (some b)) rfl rfl rfl (by kernel_rfl) (by kernel_rfl) (Try.call48 _ _) (or_text b s ra rx 65536 w2 ho22 (by omega) (by omega) (by omega)) (by rintro q x ⟨n, a', e', rfl, h0, k0, h1, h2⟩; exact ⟨_, rfl, n, a', e', rfl, h0, k0, h1, h2⟩)) ?_;rintro _ w13 a12 ⟨n14, a15, e16, rfl, hq17, hn18, ho20, hg21⟩ g;have hz23 := hg21.size;have hl24 := ho20.lt;refine pw g rfl (op_call (args := #[.string n14]) (R := fun res xw => ∃ u : Value, res = .tuple #[.agg #[.int .i64 ec, .int .i64 er, u, .int .u64 ts], .int .i64 r] ∧ xw.ownsRow w13.heap.size 115 3 u el.length (el.flatMap opE) ∧ Below w13.heap.size w13 xw) rfl rfl rfl (by kernel_rfl) (by kernel_rfl) (Try.call77 _ _) (itemOf_any n14 ec er el ts r w13 (by have := textR_le (s := s) (a := ra) (x := rx) (m := 65536) (by omega); rw [hq17] at this; simp only at this; omega) (by have hh := hof; cases hot.symm.trans (hq17); exact hh)) (by rintro e x ⟨u, rfl, hq28, hb29⟩; exact ⟨_, rfl, ⟨u, rfl, hq28, hb29⟩⟩)) ?_;rintro _ w26 a25 ⟨u27, rfl, hq28, hb29⟩ g;have hz30 := hb29.size;have hl31 := sl_len (row_sl hq28 opE_len);refine pk0 (v := .agg #[.int .i64 ec, .int .i64 er, u27, .int .u64 ts]) g rfl fun _ g => ?_;refine pk0 (v := .int .i64 r) g rfl fun _ g => ?_;have hk39 := hk5.kept hg21 (by simp; omega);have hk40 := hk39.below hb29;refine pwD g rfl (op_storeN rfl rfl rfl (all_cons rfl (all_cons rfl (all_cons (row_one hq28) (all_cons rfl all_nil)))) (by kernel_rfl) hk40 rfl) ?_;rintro _ w35 a34 ⟨hk36, hz37, hg38⟩ g;have hk36' : Blk w35 N3 66 #[.int .i64 ec, .int .i64 er, u27, .int .u64 ts] := hk36;have hz41 := hg38.size;refine pk0 (v := .int .i64 r) g rfl fun _ g => q4 ?_;refine co_retC1 (Q := fun _ _ _ => True) g rfl rfl rfl hk36' Try.underlying66 rfl (by kernel_rfl) ?_;have hr43 := row_kept_at hq28 hg38 (row_ne_lt hq28 (by omega));have ho44 := ho20.below hb29;have ho45 := ho44.at (by omega) hg38;have hB46 := fb_new hB0 hg4;have hB47 := fb_at hB46 hg21 (fun hlt => by first | (exfalso; omega) | (simp; done) | simp_all);have hB48 := fb_call hB47 hb29;have hB49 := fb_at hB48 hg38 (fun hlt => by first | (exfalso; omega) | (simp; done) | simp_all);cases hot.symm.trans (hq17);exact ⟨_, rfl, (row_lows hr43 (by omega)), ho45, hB49⟩
end Go.Proofs.Ytcbagajjgbfgdaa
