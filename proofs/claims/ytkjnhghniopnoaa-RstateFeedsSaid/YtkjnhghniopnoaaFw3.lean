/- Put together: RlgEFv, GoFv, RlgFnFv, RlgHFv, RlgTnFv, RlgUnFv, RlgWnFv, RlgYnFv, RlgZnFv, ConfAzFv, ConfBzFv, ConfDzFv, ConfZzFv, DelAFv, LeaAFv, NoAFv, RstAFv, RstBFv. Conditions: as each says. -/
import Derived.Test.YtkjnhghniopnoaaFw2
import Derived.Test.YtkjnhghniopnoaaFw1
import Derived.Laws.StructEq
import Derived.Laws.Pointers
import Derived.Deep.QuietTactic
import Derived.BigQuiet
import Derived.Deep.RegionHeld3
import Derived.Lib.LazyBuf
import Derived.Shelf.RegionOpenPlain
import Derived.RangeFuncBox
import Derived.PlainAid
import Derived.LoopN
/- Package rlog: At, All. Conditions: at most 100 entries, 20 operations each. -/
namespace Go.Proofs.Ytkjnhghniopnoaa
open Go.RowKit Go.PlainAid
set_option linter.unusedVariables false


theorem entsK_got {S : Nat → Prop} {n : Nat} {w : World} {L : List EntT} (h : EntsK S n w L) : ∀ z ∈ L, EntOk w z := fun z hz => (h z hz).ok
def atV (L : List EntT) (i : Int) : Bool := decide (0 ≤ i ∧ i < (L.length : Int))
def atE (L : List EntT) (i : Int) : EntT := if atV L i = true then L.getD i.toNat ⟨0, 0, .slice none 0 0, [], 0⟩ else ⟨0, 0, .slice none 0 0, [], 0⟩
theorem atV_n {L : List EntT} {i : Int} (h : i < 0 ∨ (L.length : Int) ≤ i) : atV L i = false := by unfold atV; exact decide_eq_false (by omega)
theorem atE_n {L : List EntT} {i : Int} (h : i < 0 ∨ (L.length : Int) ≤ i) : atE L i = ⟨0, 0, .slice none 0 0, [], 0⟩ := by unfold atE; rw [if_neg (by rw [atV_n h]; simp)]
theorem atV_y {L : List EntT} {i : Int} (h : ¬ (i < 0 ∨ (L.length : Int) ≤ i)) : atV L i = true := by unfold atV; exact decide_eq_true (by omega)
theorem atE_y {L : List EntT} {i : Int} {y : EntT} (h : ¬ (i < 0 ∨ (L.length : Int) ≤ i)) (hy : L[i.toNat]? = some y) : atE L i = y := by unfold atE; rw [if_pos (atV_y h), List.getD_eq_getElem?_getD, hy]; rfl

set_option maxRecDepth 100000 in
theorem lAt_any (w0 : World) (S : Nat → Prop) (b : Nat) (M : Nat) (u : Value) (L : List EntT) (i : Int) (w : World) (hbw : But S w0 w) (hO : LgP S w0.heap.size w b M u L) :
    Calls Try.prog 42 #[pt b 0, .int .i64 i] w fun e w' => ∃ (ev : Value), e = .returned (.tuple #[.agg #[.int .i64 ((atE L i).client), .int .i64 ((atE L i).req), ev, .int .u64 ((atE L i).ts)], .bool (atV L i)]) ∧ w'.ownsRow w.heap.size 74 3 ev ((atE L i).opl).length (((atE L i).opl).flatMap opE) ∧ LgP S w0.heap.size w' b M u L ∧ But (S) w0 w' := by
 have hB0 := hbw
 have hz0 := hbw.size
 have hz0 := hbw.size
 have hl3 := hO.blk.lt; obtain ⟨c1, hm2⟩ := hO.map; have hl4 := hm2.lt; have hne5 := blk_ne_mapN hO.blk hm2; have hln6 := hO.len
 refine co_enter (n := 30) Try.func42 rfl rfl rfl [(0, pt b 0), (1, .int .i64 i)] rfl (fun a h0 => ?_)
 refine co_seq ?_
 refine co_reg ?_
 refine pw h0 rfl (op_new (v := fun N => pt N 0) (T := 40) (cs := #[.int .i64 0, .int .i64 0, .slice none 0 0, .int .u64 0]) (by kernel_rfl) (by kernel_rfl) (by kernel_rfl)) ?_; clear h0
 rintro _ w8 a7 ⟨N9, rfl, hN12, hz13, hk11, hg10⟩ h7
 have ha14 := row_fresh hO.row hN12
 have hu15 := row_under hO.row hN12
 have hz16 := hg10.size
 try dsimp only at h7
 refine pk0 (v := .bool false) h7 rfl fun a17 h17 => ?_; clear h7
 refine pl_nil ?_
 refine co_then ?_
 refine co_seq ?_
 refine co_seq ?_
 refine co_reg ?_
 refine pk0 (v := pt b 0) h17 rfl fun a18 h18 => ?_; clear h17
 have hk21 := hO.blk.kept hg10 (by simp)
 refine pw h18 rfl (op_call (args := #[pt b 0]) (R := fun res xw => res = .bool false ∧ w8 = xw) rfl rfl rfl (by kernel_rfl) (by kernel_rfl) (Try.call61 _ _) (lzero_any b M u w8 hk21) (by rintro e x ⟨rfl, rfl⟩; exact ⟨_, rfl, ⟨rfl, rfl⟩⟩)) ?_; clear h18
 rintro _ _ a19 ⟨rfl, rfl⟩ h19
 refine pk0 (v := .bool false) h19 rfl fun a23 h23 => ?_; clear h19
 refine pk0 (v := .int .i64 i) h23 rfl fun a24 h24 => ?_; clear h23
 refine pk0 (v := .bool (decide (i < 0))) h24 rfl fun a25 h25 => ?_; clear h24
 refine pk0 (v := .bool (decide (i < 0))) h25 rfl fun a26 h26 => ?_; clear h25
 refine pk0 (v := .bool (decide (i < 0))) h26 rfl fun a27 h27 => ?_; clear h26
 have hB29 := fbU_new hB0 hg10
 cases hc28 : (decide (i < 0))
 ·
  rw [hc28] at h27
  have hp30 : ¬ (i < 0) := of_decide_eq_false hc28
  clear hc28
  refine pk0 (v := .int .i64 i) h27 rfl fun a31 h31 => ?_; clear h27
  refine pk0 (v := pt b 0) h31 rfl fun a32 h32 => ?_; clear h31
  refine pk0 (v := pt b 0) h32 rfl fun a33 h33 => ?_; clear h32
  refine pk0 (v := pt b 1) h33 rfl fun a34 h34 => ?_; clear h33
  refine pk (v := u) h34 rfl (rn_load1 rfl rfl Try.isAgg48 (hk21.cell rfl)) fun a35 h35 => ?_; clear h34
  have hr36 := row_kept_new hO.row hg10
  refine pk (v := .int .i64 ((L.length : Nat) : Int)) h35 rfl (rn_lenOwn rfl rfl Try.underlying48 hr36) fun a37 h37 => ?_; clear h35
  refine pk0 (v := .bool (decide (i ≥ ((L.length : Nat) : Int)))) h37 rfl fun a38 h38 => ?_; clear h37
  refine pk0 (v := .bool (decide (i ≥ ((L.length : Nat) : Int)))) h38 rfl fun a39 h39 => ?_; clear h38
  refine pl_nil ?_
  refine co_then ?_
  cases hc40 : (decide (i ≥ ((L.length : Nat) : Int)))
  ·
   rw [hc40] at h39
   have hp41 : ¬ (i ≥ ((L.length : Nat) : Int)) := of_decide_eq_false hc40
   clear hc40
   refine co_false h39 rfl ?_
   refine wp_skip ?_
   refine co_then ?_
   refine co_seq ?_
   refine co_reg ?_
   refine pk0 (v := pt b 0) h39 rfl fun a42 h42 => ?_; clear h39
   refine pk0 (v := pt b 0) h42 rfl fun a43 h43 => ?_; clear h42
   refine pk0 (v := pt b 1) h43 rfl fun a44 h44 => ?_; clear h43
   refine pk (v := u) h44 rfl (rn_load1 rfl rfl Try.isAgg48 (hk21.cell rfl)) fun a45 h45 => ?_; clear h44
   refine pk0 (v := .int .i64 i) h45 rfl fun a46 h46 => ?_; clear h45
   have hE49 := hO.ents.new hg10
   obtain ⟨y47, hy47⟩ : ∃ z, L[(i).toNat]? = some z := ⟨_, List.getElem?_eq_getElem (by first | omega | (simp; done) | (simp; omega))⟩
   have oky47 := (fun (z : EntT) (_ : z ∈ L) => trivial) _ (List.mem_of_getElem? hy47)
   have hy48 := hE49.at hy47
   have hq50 := hy48.ts0; have hq51 := hy48.ts1; have hq52 := hy48.len; have hq53 := wf_i64 hy48.cl; have hq54 := wf_i64 hy48.rq
   refine pk (v := pt (blkOf u) (offOf u + ((i).toNat) * 4)) h46 rfl (rn_index rfl rfl rfl Try.underlying48 Try.sizeOf40 (row_sl hr36 entE_len) (by omega) (by first | omega | (simp; done) | (simp; omega))) fun a55 h55 => ?_; clear h46
   refine pk (v := .agg #[.int .i64 y47.client, .int .i64 y47.req, y47.ops, .int .u64 y47.ts]) h55 rfl (rn_loadN rfl rfl Try.underlying40 rfl (by kernel_rfl) (sl_at (row_sl hr36 entE_len) hy47)) fun a56 h56 => ?_; clear h55
   refine pw h56 rfl (op_call (args := #[.agg #[.int .i64 y47.client, .int .i64 y47.req, y47.ops, .int .u64 y47.ts]]) (R := fun res xw => ∃ u : Value, res = .agg #[.int .i64 y47.client, .int .i64 y47.req, u, .int .u64 y47.ts] ∧ xw.ownsRow w8.heap.size 74 3 u y47.opl.length (y47.opl.flatMap opE) ∧ Below w8.heap.size w8 xw) rfl rfl rfl (by kernel_rfl) (by kernel_rfl) (Try.call69 _ _) (freshEntry_any y47.client y47.req y47.ops y47.opl y47.ts w8 (row_sl hy48.row opE_len) (by first | omega | (simp; done) | (simp; omega))) (by rintro e x ⟨u, rfl, hq60, hb61⟩; exact ⟨_, rfl, ⟨u, rfl, hq60, hb61⟩⟩)) ?_; clear h56
   rintro _ w58 a57 ⟨u59, rfl, hq60, hb61⟩ h57
   have hu62 := row_under hy48.row (rfl : w8.heap.size = _)
   have hz63 := hb61.size
   have hl64 := sl_len (row_sl hq60 opE_len)
   have hk70 := hk11.below hb61
   refine pwD h57 rfl (op_storeN rfl rfl rfl (all_cons rfl (all_cons rfl (all_cons (row_one hq60) (all_cons rfl all_nil)))) (by kernel_rfl) hk70 rfl) ?_; clear h57
   rintro _ w66 a65 ⟨hk67, hz68, hg69⟩ h65
   have hk67' : Blk w66 N9 40 #[.int .i64 y47.client, .int .i64 y47.req, u59, .int .u64 y47.ts] := hk67; clear hk67
   have hz71 := hg69.size
   refine pk0 (v := .bool true) h65 rfl fun a72 h72 => ?_; clear h65
   refine pl_nil ?_
   refine co_then ?_
   refine wp_ret ?_
   refine co_retC1 (Q := fun _ _ _ => True) h72 rfl rfl rfl hk67' Try.underlying40 rfl (by kernel_rfl) ?_
   have hr73 := row_kept_at hq60 hg69 (own_neT hq60 hk70 (by decide))
   have hM74 := hm2.kept hg10 (by simp)
   have hM75 := hM74.kept (below_grown hb61) (by simp)
   have hM76 := hM75.kept hg69 (by simp; omega)
   have hr77 := row_kept_new hr36 (below_grown hb61)
   have hr78 := row_kept_at hr77 hg69 (ha14)
   have hE79 := hE49.new (below_grown hb61)
   have hE80 := hE79.blk hk70 (by decide) hg69
   have hk81 := hk21.below hb61
   have hk82 := hk81.kept hg69 (by simp; omega)
   have hB83 := fbU_call hB29 hb61
   have hB84 := fbU_at hB83 hg69 (fun hlt => absurd hlt (by omega))
   have hA := atE_y (i := i) (by omega) hy47; have hV := atV_y (L := L) (i := i) (by omega)
   exact ⟨_, by rw [hA, hV], by rw [hA]; exact (row_lows hr73 (by omega)), ⟨hk82, ⟨_, hM76⟩, hr78, hE80, hO.sb, hO.sM, hO.su, hO.uq, hO.len⟩, hB84⟩
  ·
   rw [hc40] at h39
   have hp85 : i ≥ ((L.length : Nat) : Int) := of_decide_eq_true hc40
   clear hc40
   refine co_true h39 rfl ?_
   refine co_seq ?_
   refine co_reg ?_
   refine pk0 (v := .agg #[.int .i64 0, .int .i64 0, .slice none 0 0, .int .u64 0]) h39 rfl fun a86 h86 => ?_; clear h39
   refine pwD h86 rfl (op_storeN rfl rfl rfl (all_cons rfl (all_cons rfl (all_cons rfl (all_cons rfl all_nil)))) (by kernel_rfl) hk11 rfl) ?_; clear h86
   rintro _ w88 a87 ⟨hk89, hz90, hg91⟩ h87
   have hk89' : Blk w88 N9 40 #[.int .i64 0, .int .i64 0, .slice none 0 0, .int .u64 0] := hk89; clear hk89
   have hz92 := hg91.size
   refine pk0 (v := .bool false) h87 rfl fun a93 h93 => ?_; clear h87
   refine pl_nil ?_
   refine co_then ?_
   refine wp_ret ?_
   refine co_thenR ?_
   refine co_retC1 (Q := fun _ _ _ => True) h93 rfl rfl rfl hk89' Try.underlying40 rfl (by kernel_rfl) ?_
   have hM94 := hm2.kept hg10 (by simp)
   have hM95 := hM94.kept hg91 (by simp; omega)
   have hr96 := row_kept_at hr36 hg91 (ha14)
   have hE97 := hO.ents.new hg10
   have hE98 := hE97.blk hk11 (by decide) hg91
   have hk99 := hk21.kept hg91 (by simp; omega)
   have hB100 := fbU_at hB29 hg91 (fun hlt => absurd hlt (by omega))
   have hA := atE_n (L := L) (i := i) (by omega); have hV := atV_n (L := L) (i := i) (by omega)
   exact ⟨_, by rw [hA, hV], by rw [hA]; exact World.ownsRow_nil _ _ _ _, ⟨hk99, ⟨_, hM95⟩, hr96, hE98, hO.sb, hO.sM, hO.su, hO.uq, hO.len⟩, hB100⟩
 ·
  rw [hc28] at h27
  have hp101 : i < 0 := of_decide_eq_true hc28
  clear hc28
  refine psk h27 rfl fun a102 h102 => ?_; clear h27
  refine psk h102 rfl fun a103 h103 => ?_; clear h102
  refine psk h103 rfl fun a104 h104 => ?_; clear h103
  refine psk h104 rfl fun a105 h105 => ?_; clear h104
  refine psk h105 rfl fun a106 h106 => ?_; clear h105
  refine psk h106 rfl fun a107 h107 => ?_; clear h106
  refine psk h107 rfl fun a108 h108 => ?_; clear h107
  refine pk0 (v := .bool true) h108 rfl fun a109 h109 => ?_; clear h108
  refine pl_nil ?_
  refine co_then ?_
  refine co_true h109 rfl ?_
  refine co_seq ?_
  refine co_reg ?_
  refine pk0 (v := .agg #[.int .i64 0, .int .i64 0, .slice none 0 0, .int .u64 0]) h109 rfl fun a110 h110 => ?_; clear h109
  refine pwD h110 rfl (op_storeN rfl rfl rfl (all_cons rfl (all_cons rfl (all_cons rfl (all_cons rfl all_nil)))) (by kernel_rfl) hk11 rfl) ?_; clear h110
  rintro _ w112 a111 ⟨hk113, hz114, hg115⟩ h111
  have hk113' : Blk w112 N9 40 #[.int .i64 0, .int .i64 0, .slice none 0 0, .int .u64 0] := hk113; clear hk113
  have hz116 := hg115.size
  refine pk0 (v := .bool false) h111 rfl fun a117 h117 => ?_; clear h111
  refine pl_nil ?_
  refine co_then ?_
  refine wp_ret ?_
  refine co_thenR ?_
  refine co_retC1 (Q := fun _ _ _ => True) h117 rfl rfl rfl hk113' Try.underlying40 rfl (by kernel_rfl) ?_
  have hM118 := hm2.kept hg10 (by simp)
  have hM119 := hM118.kept hg115 (by simp; omega)
  have hr120 := row_kept_new hO.row hg10
  have hr121 := row_kept_at hr120 hg115 (ha14)
  have hE122 := hO.ents.new hg10
  have hE123 := hE122.blk hk11 (by decide) hg115
  have hk124 := hk21.kept hg115 (by simp; omega)
  have hB125 := fbU_at hB29 hg115 (fun hlt => absurd hlt (by omega))
  have hA := atE_n (L := L) (i := i) (by omega); have hV := atV_n (L := L) (i := i) (by omega)
  exact ⟨_, by rw [hA, hV], by rw [hA]; exact World.ownsRow_nil _ _ _ _, ⟨hk124, ⟨_, hM119⟩, hr121, hE123, hO.sb, hO.sM, hO.su, hO.uq, hO.len⟩, hB125⟩
set_option maxRecDepth 100000 in
theorem freshEntries_any (v : Value) (l : List EntT) (w : World) (hs : SliceOf entE 4 w v l) (hok : ∀ z ∈ l, EntOk w z) (hl20 : ∀ z ∈ l, z.opl.length ≤ 20) (hlen : l.length ≤ 100) :
    Calls Try.prog 68 #[v] w fun e w' => ∃ (L2 : List EntT) (u : Value), e = .returned (u) ∧ w'.ownsRow w.heap.size 40 4 u L2.length (L2.flatMap entE) ∧ EntsK (fun _ => False) w.heap.size w' L2 ∧ L2.map e0 = l.map e0 ∧ Below w.heap.size w w' := by
 have hB0 := Below.refl w.heap.size w
 have hl_hs := sl_len hs
 refine co_enter (n := 22) Try.func68 rfl rfl rfl [(0, v)] rfl (fun a h0 => ?_)
 refine co_seq ?_
 refine co_reg ?_
 refine pk0 (v := .slice none 0 0) h0 rfl fun a1 h1 => ?_; clear h0
 refine pl_nil ?_
 refine co_then ?_
 refine co_seq ?_
 refine co_reg ?_
 refine pk0 (v := v) h1 rfl fun a2 h2 => ?_; clear h1
 refine pk (v := .int .i64 ((l.length : Nat) : Int)) h2 rfl (rn_len rfl rfl Try.underlying48 hs) fun a3 h3 => ?_; clear h2
 refine pw h3 rfl (op_makeOwn (base := w.heap.size) (enc := entE) (k := l.length) (by_ := 48) (z := .agg #[.int .i64 0, .int .i64 0, .slice none 0 0, .int .u64 0]) (size := 4) rfl rfl rfl Try.underlying48 (by kernel_rfl) (by omega) (by unfold maxLen; omega) (Nat.le_refl _)) ?_; clear h3
 rintro _ w5 a4 ⟨N6, rfl, hN7, hr8, hg9⟩ h4
 have hz10 := hg9.size
 refine pk0 (v := .slice (some ⟨N6, 0, none⟩) 0 l.length) h4 rfl fun a11 h11 => ?_; clear h4
 refine pl_nil ?_
 refine co_then ?_
 refine co_seq ?_
 refine co_seq ?_
 refine co_reg ?_
 refine pk0 (v := v) h11 rfl fun a12 h12 => ?_; clear h11
 have hB13 := hb_new hB0 hg9
 refine pk (v := .int .i64 ((l.length : Nat) : Int)) h12 rfl (rn_len rfl rfl Try.underlying48 (hs.below hB13)) fun a14 h14 => ?_; clear h12
 refine pk0 (v := .int .i64 0) h14 rfl fun a15 h15 => ?_; clear h14
 refine pl_nil ?_
 refine co_then ?_
 refine wp_block ?_
 have h16 : Slots 22 [(3, .slice (some ⟨N6, 0, none⟩) 0 l.length), (9, v), (10, .int .i64 ((l.length : Nat) : Int)), (11, .int .i64 0)] _ := h15.sub ⟨rfl, rfl, rfl, rfl, trivial⟩; clear h15
 refine co_loop (fun mm a x => ∃ (k : Nat) (u1 : Value) (Lk : List EntT), Slots 22 [(3, u1), (9, v), (10, .int .i64 ((l.length : Nat) : Int)), (11, .int .i64 ((k : Nat) : Int))] a ∧ mm = l.length - k ∧ (k ≤ l.length) ∧ (Lk.map e0 = (l.take k).map e0) ∧ x.ownsRow w.heap.size 40 4 u1 Lk.length (Lk.flatMap entE) ∧ EntsK (fun _ => False) w.heap.size x Lk ∧ Below w.heap.size w x) (l.length - 0) ?_ ?_
 · exact ⟨0, (.slice (some ⟨N6, 0, none⟩) 0 l.length), [], h16.sub ⟨rfl, rfl, rfl, (slot_eq rfl (congrArg (Value.int .i64) (by first | rfl | omega))), trivial⟩, rfl, by omega, by first | rfl | exact he0, (row_eq hr8 (rfl)), (fun e he => by cases he), hB13⟩
 · rintro k17 a18 w19 ⟨k, u1, Lk, h18, rfl, hi20, hi21, hf22, hf23, hB24⟩
   have hz25 := hB24.size
   have hLkl : Lk.length = k := by have hq := congrArg List.length (by assumption : Lk.map e0 = (l.take k).map e0); rw [List.length_map, List.length_map, List.length_take] at hq; omega
   refine co_seq ?_
   refine co_reg ?_
   refine pk0 (v := .bool (decide (((k : Nat) : Int) < ((l.length : Nat) : Int)))) h18 rfl fun a26 h26 => ?_; clear h18
   refine pl_nil ?_
   refine co_then ?_
   refine co_seq ?_
   cases hc27 : (decide (((k : Nat) : Int) < ((l.length : Nat) : Int)))
   ·
    rw [hc27] at h26
    have hp28 : ¬ (((k : Nat) : Int) < ((l.length : Nat) : Int)) := of_decide_eq_false hc27
    clear hc27
    refine co_false h26 rfl ?_
    refine wp_exit ?_
    refine co_thenX ?_
    refine co_thenX ?_
    refine co_blockX ?_
    refine co_then ?_
    refine co_seq ?_
    refine co_reg ?_
    refine pk0 (v := u1) h26 rfl fun a29 h29 => ?_; clear h26
    refine pk0 (v := u1) h29 rfl fun a30 h30 => ?_; clear h29
    refine pl_nil ?_
    refine co_then ?_
    refine wp_ret ?_
    refine co_ret1 h30 rfl rfl ?_
    exact ⟨_, _, rfl, (row_lows hf22 (by omega)), hf23, by have hq := (by assumption : Lk.map e0 = (l.take k).map e0); rwa [List.take_of_length_le (by omega)] at hq, hB24⟩
   ·
    rw [hc27] at h26
    have hp31 : ((k : Nat) : Int) < ((l.length : Nat) : Int) := of_decide_eq_true hc27
    clear hc27
    refine co_true h26 rfl ?_
    refine wp_skip ?_
    refine co_then ?_
    refine co_seq ?_
    refine wp_block ?_
    refine co_seq ?_
    refine co_reg ?_
    obtain ⟨y32, hy32⟩ : ∃ z, l[k]? = some z := ⟨_, List.getElem?_eq_getElem (by first | omega | (simp; done) | (simp; omega))⟩
    have oky32 := hok _ (List.mem_of_getElem? hy32)
    have k33 : 0 ≤ y32.ts := oky32.ts0
    have k34 : y32.ts < 18446744073709551616 := oky32.ts1
    have h20y32 := hl20 y32 (List.mem_of_getElem? hy32)
    refine pk (v := pt (blkOf v) (offOf v + k * 4)) h26 rfl (rn_index rfl rfl rfl Try.underlying48 Try.sizeOf40 (hs.below hB24) (by omega) (by first | omega | (simp; done) | (simp; omega))) fun a35 h35 => ?_; clear h26
    refine pk (v := .agg #[.int .i64 y32.client, .int .i64 y32.req, y32.ops, .int .u64 y32.ts]) h35 rfl (rn_loadN rfl rfl Try.underlying40 rfl (by kernel_rfl) (sl_at (hs.below hB24) hy32)) fun a36 h36 => ?_; clear h35
    refine pw h36 rfl (op_new (v := fun N => pt N 0) (T := 40) (cs := #[.int .i64 0, .int .i64 0, .slice none 0 0, .int .u64 0]) (by kernel_rfl) (by kernel_rfl) (by kernel_rfl)) ?_; clear h36
    rintro _ w38 a37 ⟨N39, rfl, hN42, hz43, hk41, hg40⟩ h37
    have ha44 := row_fresh hf22 hN42
    have hz45 := hg40.size
    try dsimp only at h37
    have hB51 := hb_new hB24 hg40
    refine pwD h37 rfl (op_storeN rfl rfl rfl (all_cons rfl (all_cons rfl (all_cons (sl_one (oky32.ops.below hB51)) (all_cons rfl all_nil)))) (by kernel_rfl) hk41 rfl) ?_; clear h37
    rintro _ w47 a46 ⟨hk48, hz49, hg50⟩ h46
    have hk48' : Blk w47 N39 40 #[.int .i64 y32.client, .int .i64 y32.req, y32.ops, .int .u64 y32.ts] := hk48; clear hk48
    have hz52 := hg50.size
    refine pl_nil ?_
    refine co_then ?_
    refine co_reg ?_
    refine pk0 (v := u1) h46 rfl fun a53 h53 => ?_; clear h46
    refine pk (v := .agg #[.int .i64 y32.client, .int .i64 y32.req, y32.ops, .int .u64 y32.ts]) h53 rfl (rn_loadN rfl rfl Try.underlying40 rfl (by kernel_rfl) hk48'.all) fun a54 h54 => ?_; clear h53
    have hB57 := hb_at hB51 hg50 (by omega)
    refine pw h54 rfl (op_call (args := #[.agg #[.int .i64 y32.client, .int .i64 y32.req, y32.ops, .int .u64 y32.ts]]) (R := fun res xw => ∃ u : Value, res = .agg #[.int .i64 y32.client, .int .i64 y32.req, u, .int .u64 y32.ts] ∧ xw.ownsRow w47.heap.size 74 3 u y32.opl.length (y32.opl.flatMap opE) ∧ Below w47.heap.size w47 xw) rfl rfl rfl (by kernel_rfl) (by kernel_rfl) (Try.call69 _ _) (freshEntry_any y32.client y32.req y32.ops y32.opl y32.ts w47 (oky32.ops.below hB57) (by first | omega | (simp; done) | (simp; omega))) (by rintro e x ⟨u, rfl, hq59, hb60⟩; exact ⟨_, rfl, ⟨u, rfl, hq59, hb60⟩⟩)) ?_; clear h54
    rintro _ w56 a55 ⟨u58, rfl, hq59, hb60⟩ h55
    have hz61 := hb60.size
    have hl62 := sl_len (row_sl hq59 opE_len)
    refine pw h55 rfl (op_new (v := fun N => .slice (some ⟨N, 0, none⟩) 1 1) (T := 40) (cs := #[.int .i64 y32.client, .int .i64 y32.req, u58, .int .u64 y32.ts]) (by kernel_rfl) (by kernel_rfl) (by kernel_rfl)) ?_; clear h55
    rintro _ w64 a63 ⟨N65, rfl, hN68, hz69, hk67, hg66⟩ h63
    have hr71 := row_kept_new hf22 hg40
    have hr72 := row_kept_at hr71 hg50 (ha44)
    have hr73 := row_kept_new hr72 (below_grown hb60)
    have ha70 := row_fresh hr73 hN68
    have ha74 := row_fresh hq59 hN68
    have hz75 := hg66.size
    try dsimp only at h63
    have hr82 := row_kept_new hr73 hg66
    have hr83 := row_kept_new hq59 hg66
    refine pw h63 rfl (op_append rfl w.heap.size 40 (z := .agg #[.int .i64 0, .int .i64 0, .slice none 0 0, .int .u64 0]) (size := 4) (bytes := 48) Try.underlying48 (by kernel_rfl) rfl rfl rfl hr82 rfl hk67 rfl (all_cons rfl (all_cons rfl (all_cons (row_one hr83) (all_cons rfl all_nil)))) (by first | omega | (simp only [List.length_nil, List.length_append, List.length_cons, List.length_take, List.length_drop]; omega)) (by first | omega | (simp only [List.length_nil, List.length_append, List.length_cons, List.length_take, List.length_drop]; omega)) (by omega)) ?_; clear h63
    rintro v78 w77 a76 ⟨hr79, hg80⟩ h76
    have hr79' : w77.ownsRow w.heap.size 40 4 v78 ((Lk ++ [(EntT.mk y32.client y32.req u58 y32.opl y32.ts)]).length) ((Lk ++ [(EntT.mk y32.client y32.req u58 y32.opl y32.ts)]).flatMap entE) := row_push (y := (EntT.mk y32.client y32.req u58 y32.opl y32.ts)) hr79 rfl rfl; clear hr79
    have hz84 := hg80.size
    refine pk0 (v := v78) h76 rfl fun a85 h85 => ?_; clear h76
    refine pl_nil ?_
    refine co_blockN ?_
    refine co_then ?_
    refine co_reg ?_
    refine pk (v := .int .i64 ((k + 1 : Nat) : Int)) h85 rfl (rn_arith' rfl rfl rfl rfl rfl rfl (IntWalk.i64_in _ (by omega)) (by omega)) fun a86 h86 => ?_; clear h85
    refine pk0 (v := .int .i64 ((k + 1 : Nat) : Int)) h86 rfl fun a87 h87 => ?_; clear h86
    refine pl_nil ?_
    refine co_then ?_
    refine ⟨(l.length - (k + 1)), by omega, ?_⟩
    have he0 := e0_snoc (by assumption : Lk.map e0 = _) hy32 (z := (EntT.mk y32.client y32.req u58 y32.opl y32.ts)) rfl
    have hE88 := hf23.new hg40
    have hE89 := hE88.blk hk41 (by decide) hg50
    have hE90 := hE89.new (below_grown hb60)
    have hE91 := hE90.new hg66
    have hE92 := hE91.row hr82 (by decide) hg80
    have hr93 := row_kept_row hr83 hr82 hg80 (by decide)
    have hB94 := hb_call hB57 hb60
    have hB95 := hb_new hB94 hg66
    have hB96 := hb_row hB95 hr82 (by omega) hg80
    exact ⟨k + 1, v78, (Lk ++ [(EntT.mk y32.client y32.req u58 y32.opl y32.ts)]), h87.sub ⟨rfl, rfl, rfl, rfl, trivial⟩, rfl, by omega, by first | rfl | exact he0, (row_eq hr79' (rfl)), (EntsK.snoc hE92 (e := EntT.mk y32.client y32.req u58 y32.opl y32.ts) ⟨row_lows hr93 (Nat.zero_le _), InS.low hr93 (by omega), by omega, oky32.each, oky32.ts0, oky32.ts1, oky32.cl, oky32.rq⟩), hB96⟩
set_option maxRecDepth 100000 in
theorem lAll_any (w0 : World) (S : Nat → Prop) (b : Nat) (M : Nat) (u : Value) (L : List EntT) (w : World) (hbw : But S w0 w) (hO : LgP S w0.heap.size w b M u L) :
    Calls Try.prog 39 #[pt b 0] w fun e w' => ∃ (L2 : List EntT) (u2 : Value), e = .returned (u2) ∧ w'.ownsRow w.heap.size 40 4 u2 L2.length (L2.flatMap entE) ∧ EntsK (fun _ => False) w.heap.size w' L2 ∧ L2.map e0 = L.map e0 ∧ LgP S w0.heap.size w' b M u L ∧ But (S) w0 w' := by
 have hB0 := hbw
 have hz0 := hbw.size
 have hz0 := hbw.size
 have hl3 := hO.blk.lt; obtain ⟨c1, hm2⟩ := hO.map; have hl4 := hm2.lt; have hne5 := blk_ne_mapN hO.blk hm2; have hln6 := hO.len
 refine co_enter (n := 10) Try.func39 rfl rfl rfl [(0, pt b 0)] rfl (fun a h0 => ?_)
 refine co_seq ?_
 refine co_reg ?_
 refine pk0 (v := .slice none 0 0) h0 rfl fun a7 h7 => ?_; clear h0
 refine pl_nil ?_
 refine co_then ?_
 refine co_seq ?_
 refine co_seq ?_
 refine co_reg ?_
 refine pk0 (v := pt b 0) h7 rfl fun a8 h8 => ?_; clear h7
 refine pw h8 rfl (op_call (args := #[pt b 0]) (R := fun res xw => res = .bool false ∧ w = xw) rfl rfl rfl (by kernel_rfl) (by kernel_rfl) (Try.call61 _ _) (lzero_any b M u w hO.blk) (by rintro e x ⟨rfl, rfl⟩; exact ⟨_, rfl, ⟨rfl, rfl⟩⟩)) ?_; clear h8
 rintro _ _ a9 ⟨rfl, rfl⟩ h9
 refine pl_nil ?_
 refine co_then ?_
 refine co_false h9 rfl ?_
 refine wp_skip ?_
 refine co_then ?_
 refine co_seq ?_
 refine co_reg ?_
 refine pk0 (v := pt b 0) h9 rfl fun a12 h12 => ?_; clear h9
 refine pk0 (v := pt b 0) h12 rfl fun a13 h13 => ?_; clear h12
 refine pk0 (v := pt b 1) h13 rfl fun a14 h14 => ?_; clear h13
 refine pk (v := u) h14 rfl (rn_load1 rfl rfl Try.isAgg48 (hO.blk.cell rfl)) fun a15 h15 => ?_; clear h14
 refine pw h15 rfl (op_call (args := #[u]) (R := fun res xw => ∃ L2 : List EntT, ∃ u : Value, res = u ∧ xw.ownsRow w.heap.size 40 4 u L2.length (L2.flatMap entE) ∧ EntsK (fun _ => False) w.heap.size xw L2 ∧ L2.map e0 = L.map e0 ∧ Below w.heap.size w xw) rfl rfl rfl (by kernel_rfl) (by kernel_rfl) (Try.call68 _ _) (freshEntries_any u L w (row_sl hO.row entE_len) (entsK_got hO.ents) (fun z hz => (hO.ents z hz).len) hO.len) (by rintro e x ⟨L2, u, rfl, hq20, hq21, hq22, hb23⟩; exact ⟨_, rfl, ⟨L2, u, rfl, hq20, hq21, hq22, hb23⟩⟩)) ?_; clear h15
 rintro u19 w17 a16 ⟨L218, _, rfl, hq20, hq21, hq22, hb23⟩ h16
 have hu24 := row_under hO.row (rfl : w.heap.size = _)
 have hz25 := hb23.size
 have hl26 := sl_len (row_sl hq20 entE_len)
 refine pk0 (v := u19) h16 rfl fun a27 h27 => ?_; clear h16
 refine pl_nil ?_
 refine co_then ?_
 refine wp_ret ?_
 refine co_ret1 h27 rfl rfl ?_
 have hM28 := hm2.kept (below_grown hb23) (by simp)
 have hr29 := row_kept_new hO.row (below_grown hb23)
 have hE30 := hO.ents.new (below_grown hb23)
 have hk31 := hO.blk.below hb23
 have hB32 := fbU_call hB0 hb23
 exact ⟨_, _, rfl, (row_lows hq20 (by omega)), hq21, hq22, ⟨hk31, ⟨_, hM28⟩, hr29, hE30, hO.sb, hO.sM, hO.su, hO.uq, hO.len⟩, hB32⟩
end Go.Proofs.Ytkjnhghniopnoaa

/- Objects with a footprint: what holds of them depends on the blocks in S alone; a call turns S, and what it makes joins it. Conditions: none. -/
namespace Go.Proofs.Ytkjnhghniopnoaa
open Go.RowKit Go.PlainAid
set_option linter.unusedVariables false

/-- S' holds what S held, and what was made since; nothing but S was turned. -/
structure Grew (S S' : Nat → Prop) (w x : World) : Prop where
  sub : ∀ q, S' q → S q ∨ w.heap.size ≤ q
  but : But S w x
section
variable {S S' D : Nat → Prop} {n N : Nat} {w x : World} {v u : Value} {T e : TypeId} {cs : Array Value} {B sz k : Nat} {xs : List Value}
theorem hbL {w0 : World} (h : Below w0.heap.size w0 w) (hlo : ∀ q, S q → w0.heap.size ≤ q) (hb : But S w x) : Below w0.heap.size w0 x := below_but h hb h.size (fun i _ h => hlo i h)
theorem Grew.lo {n0 : Nat} (h : Grew S S' w x) (hlo : ∀ q, S q → n0 ≤ q) (hn : n0 ≤ w.heap.size) : ∀ q, S' q → n0 ≤ q := fun q hq => by
  rcases h.sub q hq with k | k
  · exact hlo q k
  · omega
theorem Grew.off (h : Grew S S' w x) (hN : ¬ S N) (hl : N < w.heap.size) : ¬ S' N := fun hq => by
  rcases h.sub N hq with k | k
  · exact hN k
  · omega
theorem Grew.offR (h : Grew S S' w x) (hr : w.ownsRow B e sz v k xs) (hv : ∀ i, v.ownBlock = some i → ¬ S i) : ∀ i, v.ownBlock = some i → ¬ S' i := fun i hi => h.off (hv i hi) (hr.lt i hi).2
/-- Two objects that have no block in common go on so, where one is turned. -/
theorem Grew.ap (h : Grew S S' w x) (ha : ∀ q, S q → D q → False) (hD : ∀ q, D q → q < w.heap.size) : ∀ q, S' q → D q → False := fun q h1 h2 => by
  rcases h.sub q h1 with k | k
  · exact ha q k h2
  · have := hD q h2; omega
theorem ap_symm (ha : ∀ q, S q → D q → False) : ∀ q, D q → S q → False := fun q h1 h2 => ha q h2 h1
theorem off_new (hS : ∀ q, S q → q < w.heap.size) (hN : N = w.heap.size) : ¬ S N := fun h => by have := hS N h; omega
theorem off_lo (hlo : ∀ q, S q → n ≤ q) (h : N < n) : ¬ S N := fun hq => by have := hlo N hq; omega
theorem offR_row (hS : ∀ q, S q → q < n) (hr : x.ownsRow B e sz v k xs) (hB : n ≤ B) : ∀ i, v.ownBlock = some i → ¬ S i := fun i hi hq => by have := hS i hq; have := (hr.lt i hi).1; omega
theorem Blk.butS (h : Blk w N T cs) (hb : But S w x) (hn : ¬ S N) : Blk x N T cs := by
  have hl := h.lt
  unfold Blk at h ⊢
  rw [hb.block N hl hn]; exact h
theorem row_block {i : Nat} (h : w.ownsRow B e sz v k xs) (hi : v.ownBlock = some i) : ∃ cs, w.heap[i]? = some (.cells cs e (0, 0)) := by
  rcases h.2 with ⟨rfl, _⟩ | ⟨g, c, cur, rfl, _, hh, _⟩
  · simp [Value.ownBlock] at hi
  · simp only [Value.ownBlock, Option.some.injEq] at hi; subst hi; exact ⟨_, hh⟩
theorem row_sameL (h : w.ownsRow B e sz v k xs) (hk : ∀ i, v.ownBlock = some i → x.heap[i]? = w.heap[i]?) : x.ownsRow B e sz v k xs := by
  refine ⟨h.1, ?_⟩
  rcases h.2 with h1 | ⟨g, c, cur, rfl, hg, hh, h3⟩
  · exact .inl h1
  · exact .inr ⟨g, c, cur, rfl, hg, by rw [hk g rfl]; exact hh, h3⟩
theorem own_butS (h : w.ownsRow B e sz v k xs) (hb : But S w x) (hn : ∀ i, v.ownBlock = some i → ¬ S i) : x.ownsRow B e sz v k xs :=
  row_sameL h fun i hi => hb.block i (h.lt i hi).2 (hn i hi)
theorem MapB.butS {K : Type} [DecidableEq K] {kv : K → Value} {l : List (K × Value)} (h : MapB kv w B l) (hb : But S w x) (hn : ¬ S B) : MapB kv x B l := by
  have hl := h.lt
  obtain ⟨es, cl, h1, h2⟩ := h
  exact ⟨es, cl, by rw [hb.block B hl hn]; exact h1, h2⟩
theorem MapO.butS {K V : Type} [DecidableEq K] {kv : K → Value} {enc : V → Value} {g : K → Option V} {c : Nat} (h : MapO kv enc w B g c) (hb : But S w x) (hn : ¬ S B) : MapO kv enc x B g c := by
  obtain ⟨l, h1, h2⟩ := h; exact ⟨l, h1.butS hb hn, h2⟩
theorem MapG.butS {K V : Type} [DecidableEq K] {kv : K → Value} {enc : V → Value} {z : V} {g : K → V} (h : MapG kv enc z w B g) (hb : But S w x) (hn : ¬ S B) : MapG kv enc z x B g := by
  obtain ⟨l, h1, h2⟩ := h; exact ⟨l, h1.butS hb hn, h2⟩
/-- A slice that came in ahead of all that S has. -/
theorem sl_off {α : Type} {enc : α → List Value} {l : List α} (h : SliceOf enc sz w v l) (hne : ∀ y ∈ l, enc y ≠ []) (hlo : ∀ q, S q → w.heap.size ≤ q) : l ≠ [] → ∀ k, v.ownBlock = some k → ¬ S k := by
  intro hl k hk hq
  obtain ⟨ao, cap, rfl, h1, h2, h3, h4⟩ := h
  cases l with
  | nil => exact hl rfl
  | cons y r =>
    obtain ⟨b, off, rfl, hr⟩ := h4 0 (by simp)
    have hy := hne y (by simp)
    have hne0 : 0 < (enc y).length := by cases he : enc y with | nil => exact absurd he hy | cons a t => simp
    have hc := hr 0 _ (List.getElem?_eq_getElem hne0)
    have hlt := World.block_lt_of_cell? w _ hc
    simp only [Value.ownBlock, Option.some.injEq] at hk
    have := hlo k hq
    simp at hlt
    omega
end
end Go.Proofs.Ytkjnhghniopnoaa

/- Package rlog: one that nobody made; the log as one object. Conditions: at most 100 entries, 20 operations each. -/
namespace Go.Proofs.Ytkjnhghniopnoaa
open Go.RowKit Go.PlainAid
set_option linter.unusedVariables false

def TyL (w : World) (k : Nat) : Prop := (∃ cs T fr, w.heap[k]? = some (.cells cs T fr) ∧ (T = 114 ∨ T = 40 ∨ T = 74)) ∨ ∃ es cl, w.heap[k]? = some (.map es cl)
/-- A type that is none of a log's parts. -/
def offL (T : TypeId) : Prop := T ≠ 114 ∧ T ≠ 40 ∧ T ≠ 74
instance (T : TypeId) : Decidable (offL T) := by unfold offL; infer_instance
theorem not_tyL {w : World} {N : Nat} {T : TypeId} {cs : Array Value} (hb : w.heap[N]? = some (.cells cs T (0, 0))) (hT : offL T) : ¬ TyL w N := by
  rintro (⟨cs', T', fr, h1, h2⟩ | ⟨es, cl, h1⟩)
  · rw [hb] at h1
    simp only [Option.some.injEq, Obj.cells.injEq] at h1
    obtain ⟨_, rfl, _⟩ := h1
    rcases h2 with q | q | q
    · exact hT.1 q
    · exact hT.2.1 q
    · exact hT.2.2 q
  · rw [hb] at h1; cases h1
/-- Blocks that were there, each of a type that a log's parts have. -/
def OfL (S : Nat → Prop) (w : World) : Prop := ∀ q, S q → q < w.heap.size ∧ TyL w q
/-- A log that was made: its parts are in S. -/
def LObj (S : Nat → Prop) (w : World) (b : Nat) (L : List EntT) : Prop := OfL S w ∧ ∃ M u, LgP S w.heap.size w b M u L
def tot (S : Nat → Prop) (n : Nat) (w : World) (q : Nat) : Prop := (S q ∨ n ≤ q) ∧ q < w.heap.size ∧ TyL w q
section
variable {S S' D : Nat → Prop} {n : Nat} {w x : World} {b M N : Nat} {u v : Value} {L : List EntT} {cs : Array Value} {T e : TypeId} {B sz k : Nat} {xs : List Value}
theorem ins_tot (h : InS S n v) (hr : w.ownsRow B e sz v k xs) (he : e = 40 ∨ e = 74) (m : Nat) : InS (tot S n w) m v := fun i hi => by
  obtain ⟨cs, hc⟩ := row_block hr hi
  exact .inl ⟨h i hi, (Array.getElem?_eq_some_iff.1 hc).1, .inl ⟨cs, e, _, hc, by rcases he with q | q; exact .inr (.inl q); exact .inr (.inr q)⟩⟩
theorem LgP.fin (h : LgP S n w b M u L) : LObj (tot S n w) w b L := by
  refine ⟨fun q hq => hq.2, M, u, h.blk, h.map, h.row, fun e he => ⟨(h.ents e he).row, ins_tot (h.ents e he).ins (h.ents e he).row (.inr rfl) _, (h.ents e he).len, (h.ents e he).each, (h.ents e he).ts0, (h.ents e he).ts1, (h.ents e he).cl, (h.ents e he).rq⟩, .inl ⟨h.sb, h.blk.lt, .inl ⟨_, _, _, h.blk, .inl rfl⟩⟩, ?_, ins_tot h.su h.row (.inl rfl) _, h.uq, h.len⟩
  obtain ⟨c, hm⟩ := h.map
  have hlt := hm.lt
  obtain ⟨l, ⟨es, cl, h1, _⟩, _⟩ := hm
  exact .inl ⟨h.sM, hlt, .inr ⟨es, cl, h1⟩⟩
theorem Grew.tot (h : But S w x) : Grew S (tot S w.heap.size x) w x := ⟨fun q hq => hq.1, h⟩
theorem ins_in (h : InS S w.heap.size v) (hr : w.ownsRow B e sz v k xs) : ∀ i, v.ownBlock = some i → S i := fun i hi => by
  rcases h i hi with q | q
  · exact q
  · have := (hr.lt i hi).2; omega
theorem insR_tot (h : ∀ i, v.ownBlock = some i → S i) (hr : x.ownsRow B e sz v k xs) (he : e = 40 ∨ e = 74) (m : Nat) : InS (fun q => S q ∧ q < x.heap.size ∧ TyL x q) m v := fun i hi => by
  obtain ⟨cs, hc⟩ := row_block hr hi
  exact .inl ⟨h i hi, (Array.getElem?_eq_some_iff.1 hc).1, .inl ⟨cs, e, _, hc, by rcases he with q | q; exact .inr (.inl q); exact .inr (.inr q)⟩⟩
/-- A call that looks alone. -/
theorem LgP.ro (h : LgP S w.heap.size w b M u L) (h2 : LgP S w.heap.size x b M u L) : LObj (fun q => S q ∧ q < x.heap.size ∧ TyL x q) x b L := by
  refine ⟨fun q hq => hq.2, M, u, h2.blk, h2.map, h2.row, fun e he => ⟨(h2.ents e he).row, insR_tot (ins_in (h.ents e he).ins (h.ents e he).row) (h2.ents e he).row (.inr rfl) _, (h.ents e he).len, (h.ents e he).each, (h.ents e he).ts0, (h.ents e he).ts1, (h.ents e he).cl, (h.ents e he).rq⟩, .inl ⟨?_, h2.blk.lt, .inl ⟨_, _, _, h2.blk, .inl rfl⟩⟩, ?_, insR_tot (ins_in h.su h.row) h2.row (.inl rfl) _, h.uq, h.len⟩
  · rcases h.sb with q | q
    · exact q
    · have := h.blk.lt; omega
  · obtain ⟨c, hm⟩ := h.map
    have h1 : S M := by
      rcases h.sM with q | q
      · exact q
      · have := hm.lt; omega
    obtain ⟨c2, hm2⟩ := h2.map
    have hlt := hm2.lt
    obtain ⟨l, ⟨es, cl, h3, _⟩, _⟩ := hm2
    exact .inl ⟨h1, hlt, .inr ⟨es, cl, h3⟩⟩
theorem Grew.ro (h : But S w x) : Grew S (fun q => S q ∧ q < x.heap.size ∧ TyL x q) w x := ⟨fun q hq => .inl hq.1, h⟩
/-- All that is the log's is as it was: so is the log. -/
theorem LObj.keep (h : LObj S w b L) (hs : w.heap.size ≤ x.heap.size) (hk : ∀ q, S q → x.heap[q]? = w.heap[q]?) : LObj S x b L := by
  obtain ⟨hS, M, u, h⟩ := h
  have hb : S b := by
    rcases h.sb with q | q
    · exact q
    · have := h.blk.lt; omega
  have hty : OfL S x := fun q hq => ⟨by have := (hS q hq).1; omega, by
    have h1 := (hS q hq).2
    unfold TyL at h1 ⊢
    rw [hk q hq]; exact h1⟩
  have up : ∀ {v : Value}, (∀ i, v.ownBlock = some i → S i) → InS S x.heap.size v := fun hv i hi => .inl (hv i hi)
  refine ⟨hty, M, u, ?_, ?_, row_sameL h.row (fun i hi => hk i (ins_in h.su h.row i hi)), fun e he => ⟨row_sameL (h.ents e he).row (fun i hi => hk i (ins_in (h.ents e he).ins (h.ents e he).row i hi)), up (ins_in (h.ents e he).ins (h.ents e he).row), (h.ents e he).len, (h.ents e he).each, (h.ents e he).ts0, (h.ents e he).ts1, (h.ents e he).cl, (h.ents e he).rq⟩, .inl hb, ?_, up (ins_in h.su h.row), h.uq, h.len⟩
  · have hB := h.blk
    unfold Blk at hB ⊢
    rw [hk b hb]; exact hB
  · obtain ⟨c, hm⟩ := h.map
    have hM : S M := by
      rcases h.sM with q | q
      · exact q
      · have := hm.lt; omega
    obtain ⟨l, ⟨es, cl, h1, h2⟩, h3⟩ := hm
    exact ⟨c, l, ⟨es, cl, by rw [hk M hM]; exact h1, h2⟩, h3⟩
  · obtain ⟨c, hm⟩ := h.map
    rcases h.sM with q | q
    · exact .inl q
    · have := hm.lt; omega
theorem LObj.gr {row : Option Nat} (h : LObj S w b L) (hg : w.grownBy x row) (hr : ∀ k, row = some k → ¬ S k) : LObj S x b L :=
  h.keep hg.size fun k hk => hg.block k (h.1 k hk).1 (fun e => hr k e.symm hk)
theorem LObj.new (h : LObj S w b L) (hg : w.grownBy x none) : LObj S x b L := h.gr hg (fun k e => by cases e)
theorem LObj.call (h : LObj S w b L) (hb : Below w.heap.size w x) : LObj S x b L := h.new (below_grown hb)
theorem LObj.at (h : LObj S w b L) (hb : Blk w N T cs) (hT : offL T) (hg : w.grownBy x (some N)) : LObj S x b L := h.gr hg (fun k e => by cases e; exact fun hS => not_tyL hb hT (h.1 N hS).2)
theorem LObj.row (h : LObj S w b L) (hr : w.ownsRow B e sz v k xs) (hT : offL e) (hg : w.grownBy x v.ownBlock) : LObj S x b L :=
  h.gr hg (fun k e hS => by obtain ⟨cs, hc⟩ := row_block hr e; exact not_tyL hc hT (h.1 k hS).2)
theorem LObj.but (h : LObj S w b L) (hd : ∀ q, S q → D q → False) (hb : But D w x) : LObj S x b L := h.keep hb.size fun k hk => hb.block k (h.1 k hk).1 (fun q => hd k hk q)
end
theorem tNew (w : World) : Calls Try.prog 29 #[] w fun e w' => ∃ N S, e = .returned (pt N 0) ∧ LObj S w' N [] ∧ (∀ q, S q → w.heap.size ≤ q) ∧ Below w.heap.size w w' :=
  (lNew_any w).mono fun e x ⟨N, M, h1, h2, h3⟩ => ⟨N, _, h1, h2.fin, fun q hq => by rcases hq.1 with k | k; exact absurd k id; exact k, h3⟩
theorem tSet {S : Nat → Prop} {b : Nat} {L : List EntT} (w : World) (i c r : Int) (v : Value) (l : List OpT) (ts : Int) (h : LObj S w b L) (hs : SliceOf opE 3 w v l) (hvS : l ≠ [] → ∀ k, v.ownBlock = some k → ¬ S k) (hlen : l.length ≤ 20) (hts : 0 ≤ ts ∧ ts < 18446744073709551616) (hen : (∀ o ∈ l, opOk o) ∧ (Lit.int .i64 c).wf = true ∧ (Lit.int .i64 r).wf = true) :
    Calls Try.prog 34 #[pt b 0, .int .i64 i, .agg #[.int .i64 c, .int .i64 r, v, .int .u64 ts]] w fun e w' => ∃ L' S', e = .returned (.int .i64 (setE L i c r l ts)) ∧ LObj S' w' b L' ∧ SetR L i c r l ts L' ∧ Grew S S' w w' := by
  obtain ⟨_, M, u, hP⟩ := h
  exact (lSet_any w S b M u L i c r v l ts w (But.refl _ _) hP hs hvS hlen hts hen).mono fun e x ⟨u', L', h1, h2, h3, h4⟩ => ⟨L', _, h1, h2.fin, h3, .tot h4⟩
theorem tStamp {S : Nat → Prop} {b : Nat} {L : List EntT} (w : World) (i ts : Int) (h : LObj S w b L) (hts : 0 ≤ ts ∧ ts < 18446744073709551616) :
    Calls Try.prog 35 #[pt b 0, .int .i64 i, .int .u64 ts] w fun e w' => ∃ S', e = .returned (.int .i64 (stE L i ts)) ∧ LObj S' w' b (stL L i ts) ∧ Grew S S' w w' := by
  obtain ⟨_, M, u, hP⟩ := h
  exact (lStamp_any w S b M u L i ts w (But.refl _ _) hP hts).mono fun e x ⟨h1, h2, h4⟩ => ⟨_, h1, h2.fin, .tot h4⟩
theorem tStamped {S : Nat → Prop} {b : Nat} {L : List EntT} (w : World) (h : LObj S w b L) :
    Calls Try.prog 41 #[pt b 0] w fun e w' => ∃ S', e = .returned (.int .i64 (stN L : Nat)) ∧ LObj S' w' b L ∧ Grew S S' w w' := by
  obtain ⟨_, M, u, hP⟩ := h
  exact (lStamped_any w S b M u L w (But.refl _ _) hP).mono fun e x ⟨h1, h2, h4⟩ => ⟨_, h1, hP.ro h2, .ro h4⟩
theorem tAt {S : Nat → Prop} {b : Nat} {L : List EntT} (w : World) (i : Int) (h : LObj S w b L) :
    Calls Try.prog 42 #[pt b 0, .int .i64 i] w fun e w' => ∃ ev S', e = .returned (.tuple #[.agg #[.int .i64 (atE L i).client, .int .i64 (atE L i).req, ev, .int .u64 (atE L i).ts], .bool (atV L i)]) ∧ w'.ownsRow w.heap.size 74 3 ev (atE L i).opl.length ((atE L i).opl.flatMap opE) ∧ LObj S' w' b L ∧ (∀ q, S' q → q < w.heap.size) ∧ Grew S S' w w' := by
  obtain ⟨hS, M, u, hP⟩ := h
  exact (lAt_any w S b M u L i w (But.refl _ _) hP).mono fun e x ⟨ev, h1, h3, h2, h4⟩ => ⟨ev, _, h1, h3, hP.ro h2, fun q hq => (hS q hq.1).1, .ro h4⟩
theorem tAll {S : Nat → Prop} {b : Nat} {L : List EntT} (w : World) (h : LObj S w b L) :
    Calls Try.prog 39 #[pt b 0] w fun e w' => ∃ L2 u2 S', e = .returned u2 ∧ w'.ownsRow w.heap.size 40 4 u2 L2.length (L2.flatMap entE) ∧ EntsK (fun _ => False) w.heap.size w' L2 ∧ L2.map e0 = L.map e0 ∧ LObj S' w' b L ∧ (∀ q, S' q → q < w.heap.size) ∧ Grew S S' w w' := by
  obtain ⟨hS, M, u, hP⟩ := h
  exact (lAll_any w S b M u L w (But.refl _ _) hP).mono fun e x ⟨u2, L2, h1, h3, h5, h6, h2, h4⟩ => ⟨u2, L2, _, h1, h3, h5, h6, hP.ro h2, fun q hq => (hS q hq.1).1, .ro h4⟩

end Go.Proofs.Ytkjnhghniopnoaa

/- The document's log: Copy, Stamp. Conditions: at most 100 entries, 20 operations each. -/
namespace Go.Proofs.Ytkjnhghniopnoaa
open Go.RowKit Go.PlainAid
set_option linter.unusedVariables false


theorem EntsK.low {S : Nat → Prop} {n m : Nat} {w : World} {L : List EntT} (h : EntsK (fun _ => False) m w L) (hn : n ≤ m) : EntsK S n w L := fun e he =>
  ⟨(h e he).row, fun i hi => by rcases (h e he).ins i hi with q | q; exact absurd q id; exact .inr (by omega), (h e he).len, (h e he).each, (h e he).ts0, (h e he).ts1, (h e he).cl, (h e he).rq⟩
theorem e0_len {A B : List EntT} (h : A.map e0 = B.map e0) : A.length = B.length := by have := congrArg List.length h; simpa using this
theorem e0_at {A B : List EntT} {i : Nat} {y : EntT} (h : A.map e0 = B.map e0) (hy : A[i]? = some y) : ∃ z, B[i]? = some z ∧ e0 z = e0 y := by
  have := congrArg (·[i]?) h
  simp only [List.getElem?_map, hy, Option.map_some] at this
  rw [eq_comm, Option.map_eq_some_iff] at this
  exact this
theorem e0_f {α : Type} {f : EntT → α} (hf : ∀ e, f (e0 e) = f e) {A B : List EntT} (h : A.map e0 = B.map e0) : A.map f = B.map f := by
  have := congrArg (List.map f) h
  simp only [List.map_map] at this
  rwa [show f ∘ e0 = f from funext hf] at this
theorem e0_ts {y z : EntT} (h : e0 z = e0 y) : z.ts = y.ts ∧ z.client = y.client ∧ z.req = y.req ∧ z.opl = y.opl := by
  unfold e0 at h
  simp only [EntT.mk.injEq] at h
  exact ⟨h.2.2.2.2, h.1, h.2.1, h.2.2.2.1⟩
end Go.Proofs.Ytkjnhghniopnoaa

/- Package rlog: Thin. Conditions: at most 100 entries, 20 operations each, their keys different. -/
namespace Go.Proofs.Ytkjnhghniopnoaa
open Go.RowKit Go.PlainAid
set_option linter.unusedVariables false


def ltE (h : Int) (e : EntT) : Bool := decide (¬ e.ts = 0 ∧ e.ts ≤ h)
def cntK (k : ByteArray) (l : List OpT) : Int := ((l.countP fun o => decide (o.1 = k) : Nat) : Int)
/-- How often a key stands in what may be thinned. -/
def fT (h : Int) : List EntT → ByteArray → Int
  | [], _ => 0
  | e :: r, k => if ltE h e = true then fT h r k + cntK k e.opl else fT h r k
def kpL (f : ByteArray → Int) (l : List OpT) : List OpT := l.filter fun o => decide (f o.1 = 0)
def lT (h : Int) : List EntT → List EntT
  | [] => []
  | e :: r => (if ltE h e = true then { e with opl := kpL (fT h r) e.opl } else e) :: lT h r
def gT (h : Int) : List EntT → Int
  | [] => 0
  | e :: r => if ltE h e = true then gT h r + ((e.opl.length : Int) - ((kpL (fT h r) e.opl).length : Int)) else gT h r
def thM (L : List EntT) (n : Int) : Nat := (if n < 0 then 0 else if (L.length : Int) < n then (L.length : Int) else n).toNat
def thS (L : List EntT) (h : Int) (M j : Nat) : List EntT := L.take j ++ (lT h ((L.take M).drop j) ++ L.drop M)
def thL (L : List EntT) (h n : Int) : List EntT := lT h (L.take (thM L n)) ++ L.drop (thM L n)
def thG (L : List EntT) (h n : Int) : Int := gT h (L.take (thM L n))
/-- The counts behind the first q operations of an entry. -/
def laterF (h : Int) (T : List EntT) (l : List OpT) (q : Nat) (k : ByteArray) : Int := fT h T k + cntK k (l.take q)
theorem lT_len (h : Int) (L : List EntT) : (lT h L).length = L.length := by induction L with
  | nil => rfl
  | cons e r ih => simp [lT, ih]
theorem cntK_nn (k : ByteArray) (l : List OpT) : 0 ≤ cntK k l ∧ cntK k l ≤ l.length := by unfold cntK; have := List.countP_le_length (l := l) (p := fun o => decide (o.1 = k)); omega
theorem fT_nn (h : Int) (k : ByteArray) : ∀ L : List EntT, (∀ e ∈ L, e.opl.length ≤ 20) → 0 ≤ fT h L k ∧ fT h L k ≤ 20 * (L.length : Int)
  | [], _ => by simp [fT]
  | e :: r, hl => by
    have ih := fT_nn h k r (fun x hx => hl x (List.mem_cons_of_mem _ hx))
    have h1 := hl e (by simp)
    have h2 := cntK_nn k e.opl
    simp only [fT, List.length_cons]
    split <;> omega
theorem kpL_le (f : ByteArray → Int) (l : List OpT) : (kpL f l).length ≤ l.length := List.length_filter_le ..
theorem gT_nn (h : Int) : ∀ L : List EntT, (∀ e ∈ L, e.opl.length ≤ 20) → 0 ≤ gT h L ∧ gT h L ≤ 20 * (L.length : Int)
  | [], _ => by simp [gT]
  | e :: r, hl => by
    have ih := gT_nn h r (fun x hx => hl x (List.mem_cons_of_mem _ hx))
    have h1 := hl e (by simp)
    have h2 := kpL_le (fT h r) e.opl
    simp only [gT, List.length_cons]
    split <;> omega
section
variable {L Lk : List EntT} {h : Int} {j M q : Nat} {y y' : EntT} {l : List OpT} {o : OpT} {T : List EntT} {f : ByteArray → Int}
theorem thS_split (hj : 0 < j) (hM : j ≤ M) (hL : M ≤ L.length) : ∃ z, L[j - 1]? = some z ∧ (L.take M).drop (j - 1) = z :: (L.take M).drop j ∧ L.take j = L.take (j - 1) ++ [z] := by
  obtain ⟨i, rfl⟩ : ∃ i, j = i + 1 := ⟨j - 1, by omega⟩
  have hi : i < L.length := by omega
  refine ⟨L[i], List.getElem?_eq_getElem hi, ?_, ?_⟩
  · have hi2 : i < (L.take M).length := by rw [List.length_take]; omega
    rw [show i + 1 - 1 = i by omega, List.drop_eq_getElem_cons hi2, List.getElem_take]
  · rw [show i + 1 - 1 = i by omega, takeE (List.getElem?_eq_getElem hi)]
theorem thS_z (hj : 0 < j) (hM : j ≤ M) (hL : M ≤ L.length) (hLk : Lk.map e0 = (thS L h M j).map e0) (hy : Lk[j - 1]? = some y) : ∃ z, L[j - 1]? = some z ∧ e0 z = e0 y ∧ (L.take M).drop (j - 1) = z :: (L.take M).drop j ∧ L.take j = L.take (j - 1) ++ [z] := by
  obtain ⟨z, h1, h2, h3⟩ := thS_split hj hM hL
  obtain ⟨z', h4, h5⟩ := e0_at hLk hy
  have : (thS L h M j)[j - 1]? = L[j - 1]? := by
    unfold thS
    rw [List.getElem?_append_left (by rw [List.length_take]; omega), List.getElem?_take, if_pos (by omega)]
  rw [this, h1] at h4
  cases h4
  exact ⟨z, h1, h5, h2, h3⟩
theorem ltE_e0 {a b : EntT} (e : e0 a = e0 b) : ltE h a = ltE h b := by unfold ltE; rw [(e0_ts e).1]
theorem th_no (hj : 0 < j) (hM : j ≤ M) (hL : M ≤ L.length) (hLk : Lk.map e0 = (thS L h M j).map e0) (hy : Lk[j - 1]? = some y) (hq : ltE h y = false) : Lk.map e0 = (thS L h M (j - 1)).map e0 := by
  obtain ⟨z, h1, h2, h3, h4⟩ := thS_z hj hM hL hLk hy
  rw [hLk]
  unfold thS
  rw [h3, h4, lT, if_neg (by rw [ltE_e0 h2, hq]; simp)]
  simp
theorem th_yes (hj : 0 < j) (hM : j ≤ M) (hL : M ≤ L.length) (hLk : Lk.map e0 = (thS L h M j).map e0) (hy : Lk[j - 1]? = some y) (hq : ltE h y = true) (e : e0 y' = e0 { y with opl := kpL (fT h ((L.take M).drop j)) y.opl }) : (Lk.set (j - 1) y').map e0 = (thS L h M (j - 1)).map e0 := by
  obtain ⟨z, h1, h2, h3, h4⟩ := thS_z hj hM hL hLk hy
  obtain ⟨k1, k2, k3, k4⟩ := e0_ts h2
  rw [List.map_set, hLk, e]
  unfold thS
  rw [h3, h4, lT, if_pos (by rw [ltE_e0 h2, hq])]
  have hl : (L.take (j - 1)).length = j - 1 := by rw [List.length_take]; have := (List.getElem?_eq_some_iff.1 h1).1; omega
  simp only [List.map_append, List.map_cons, List.map_nil, List.append_assoc, List.singleton_append]
  rw [List.set_append_right _ _ (by rw [List.length_map, hl]; omega)]
  rw [List.length_map, hl, Nat.sub_self, List.set_cons_zero]
  simp only [List.cons_append]
  congr 2
  unfold e0; simp [k1, k2, k3, k4]
theorem fT_no (hj : 0 < j) (hM : j ≤ M) (hL : M ≤ L.length) (hLk : Lk.map e0 = (thS L h M j).map e0) (hy : Lk[j - 1]? = some y) (hq : ltE h y = false) : fT h ((L.take M).drop j) = fT h ((L.take M).drop (j - 1)) := by
  obtain ⟨z, h1, h2, h3, h4⟩ := thS_z hj hM hL hLk hy
  rw [h3]; funext k; rw [fT, if_neg (by rw [ltE_e0 h2, hq]; simp)]
theorem fT_yes (hj : 0 < j) (hM : j ≤ M) (hL : M ≤ L.length) (hLk : Lk.map e0 = (thS L h M j).map e0) (hy : Lk[j - 1]? = some y) (hq : ltE h y = true) (hl : y.opl.length ≤ q) : laterF h ((L.take M).drop j) y.opl q = fT h ((L.take M).drop (j - 1)) := by
  obtain ⟨z, h1, h2, h3, h4⟩ := thS_z hj hM hL hLk hy
  rw [h3]; funext k; unfold laterF; rw [fT, if_pos (by rw [ltE_e0 h2, hq]), List.take_of_length_le hl, (e0_ts h2).2.2.2]
theorem gT_no (hj : 0 < j) (hM : j ≤ M) (hL : M ≤ L.length) (hLk : Lk.map e0 = (thS L h M j).map e0) (hy : Lk[j - 1]? = some y) (hq : ltE h y = false) : gT h ((L.take M).drop j) = gT h ((L.take M).drop (j - 1)) := by
  obtain ⟨z, h1, h2, h3, h4⟩ := thS_z hj hM hL hLk hy
  rw [h3, gT, if_neg (by rw [ltE_e0 h2, hq]; simp)]
theorem gT_yes (hj : 0 < j) (hM : j ≤ M) (hL : M ≤ L.length) (hLk : Lk.map e0 = (thS L h M j).map e0) (hy : Lk[j - 1]? = some y) (hq : ltE h y = true) (hl : y.opl.length ≤ q) (hle : q ≤ y.opl.length) : gT h ((L.take M).drop j) + ((q : Int) - ((kpL (fT h ((L.take M).drop j)) (y.opl.take q)).length : Int)) = gT h ((L.take M).drop (j - 1)) := by
  obtain ⟨z, h1, h2, h3, h4⟩ := thS_z hj hM hL hLk hy
  rw [h3, gT, if_pos (by rw [ltE_e0 h2, hq]), List.take_of_length_le hl, (e0_ts h2).2.2.2]
  have : q = y.opl.length := by omega
  rw [this]
theorem cnt_fresh (hd : (l.map (·.1)).Nodup) (ho : l[q]? = some o) : cntK o.1 (l.take q) = 0 := by
  unfold cntK
  rw [show (l.take q).countP (fun x => decide (x.1 = o.1)) = 0 from ?_]; rfl
  rw [List.countP_eq_zero]
  intro x hx
  simp only [decide_eq_true_eq]
  intro e
  obtain ⟨i, hi⟩ := List.getElem?_of_mem hx
  have hl : i < (l.take q).length := (List.getElem?_eq_some_iff.1 hi).1
  rw [List.length_take] at hl
  rw [List.getElem?_take, if_pos (by omega)] at hi
  obtain ⟨h1, rfl⟩ := List.getElem?_eq_some_iff.1 hi
  obtain ⟨h2, rfl⟩ := List.getElem?_eq_some_iff.1 ho
  have := (List.getElem_inj (xs := l.map (·.1)) (h₀ := by simpa using h1) (h₁ := by simpa using h2) hd).1 (by simpa using e)
  omega
theorem later_step (ho : l[q]? = some o) : (fun b => if b = o.1 then laterF h T l q o.1 + 1 else laterF h T l q b) = laterF h T l (q + 1) := by
  funext b
  unfold laterF
  rw [takeE ho]
  unfold cntK
  rw [List.countP_append]
  by_cases e : b = o.1
  · rw [if_pos e, e]; simp; omega
  · rw [if_neg e]; simp [Ne.symm e]
theorem kp_yes (hd : (l.map (·.1)).Nodup) (ho : l[q]? = some o) (h0 : 0 ≤ fT h T o.1) (hb : ¬ laterF h T l q o.1 + 1 > 1) : kpL (fT h T) (l.take q) ++ [o] = kpL (fT h T) (l.take (q + 1)) := by
  unfold laterF at hb
  rw [cnt_fresh hd ho] at hb
  rw [takeE ho]; unfold kpL; rw [List.filter_append]
  simp [show fT h T o.1 = 0 by omega]
theorem kp_no (hd : (l.map (·.1)).Nodup) (ho : l[q]? = some o) (hb : laterF h T l q o.1 + 1 > 1) : kpL (fT h T) (l.take q) = kpL (fT h T) (l.take (q + 1)) := by
  unfold laterF at hb
  rw [cnt_fresh hd ho] at hb
  rw [takeE ho]; unfold kpL; rw [List.filter_append]
  simp [show ¬ fT h T o.1 = 0 by omega]
theorem kp_yes_len (hd : (l.map (·.1)).Nodup) (ho : l[q]? = some o) (h0 : 0 ≤ fT h T o.1) (hb : ¬ laterF h T l q o.1 + 1 > 1) : (kpL (fT h T) (l.take (q + 1))).length = (kpL (fT h T) (l.take q)).length + 1 := by rw [← kp_yes hd ho h0 hb]; simp
theorem kp_no_len (hd : (l.map (·.1)).Nodup) (ho : l[q]? = some o) (hb : laterF h T l q o.1 + 1 > 1) : (kpL (fT h T) (l.take (q + 1))).length = (kpL (fT h T) (l.take q)).length := by rw [← kp_no hd ho hb]
theorem laterF_0 : fT h T = laterF h T l 0 := by funext k; simp [laterF, cntK]
theorem laterF_nn (hT : ∀ e ∈ T, e.opl.length ≤ 20) (hl : T.length ≤ 100) (h2 : l.length ≤ 20) (k : ByteArray) : 0 ≤ laterF h T l q k ∧ laterF h T l q k ≤ 10000 := by
  have h3 := fT_nn h k T hT
  have h4 := cntK_nn k (l.take q)
  rw [List.length_take] at h4
  unfold laterF; omega
theorem thM_eq {n k : Int} (h1 : k ≤ (L.length : Int)) (h2 : 0 ≤ k) (h3 : k = n ∨ k = 0 ∨ k = (L.length : Int)) (h4 : k ≤ n ∨ n ≤ 0 ∧ k = 0) (h5 : n ≤ k ∨ k = (L.length : Int)) : k.toNat = thM L n := by
  unfold thM
  congr 1
  split
  · omega
  · split <;> omega
theorem drop_all20 (hl : ∀ e ∈ L, e.opl.length ≤ 20) : ∀ e ∈ (L.take M).drop j, e.opl.length ≤ 20 := fun e he => hl e (List.mem_of_mem_take (List.mem_of_mem_drop he))
theorem dropM_len (hM : M ≤ L.length) : ((L.take M).drop j).length = M - j := by rw [List.length_drop, List.length_take]; omega
theorem nodup_y (hd : ∀ e ∈ L, (e.opl.map (·.1)).Nodup) (hj : 0 < j) (hM : j ≤ M) (hL : M ≤ L.length) (hLk : Lk.map e0 = (thS L h M j).map e0) (hy : Lk[j - 1]? = some y) : (y.opl.map (·.1)).Nodup := by
  obtain ⟨z, h1, h2, h3, h4⟩ := thS_z hj hM hL hLk hy
  rw [← (e0_ts h2).2.2.2]; exact hd z (List.mem_of_getElem? h1)
theorem kpL_id (l : List OpT) : kpL (fun _ => 0) l = l := List.filter_eq_self.2 (by simp)
theorem kpL_all {p : OpT → Prop} (hp : ∀ o ∈ l, p o) : ∀ o ∈ kpL f l, p o := fun o ho => hp o ((List.mem_filter.1 ho).1)
theorem ltE_t (h1 : ¬ y.ts = 0) (h2 : y.ts ≤ h) : ltE h y = true := decide_eq_true ⟨h1, h2⟩
theorem ltE_f (h1 : y.ts = 0 ∨ ¬ y.ts ≤ h) : ltE h y = false := decide_eq_false (fun q => by omega)
theorem thS_M (h : Int) (hL : M ≤ L.length) : L.map e0 = (thS L h M M).map e0 := by unfold thS; rw [List.drop_eq_nil_of_le (by rw [List.length_take]; omega)]; simp [lT]
theorem thS_0 (h n : Int) : thS L h (thM L n) 0 = thL L h n := by simp [thS, thL]
theorem fT_M : (fun _ => (0 : Int)) = fT h ((L.take M).drop M) := by rw [List.drop_eq_nil_of_le (by rw [List.length_take]; omega)]; funext k; rfl
theorem gT_M : (0 : Int) = gT h ((L.take M).drop M) := by rw [List.drop_eq_nil_of_le (by rw [List.length_take]; omega)]; rfl
theorem thS_nm (h : Int) (hM : j ≤ M) (hL : M ≤ L.length) : (thS L h M j).map nmE = L.map nmE := by
  unfold thS
  have hl : ∀ T : List EntT, (lT h T).map nmE = T.map nmE := fun T => by
    induction T with
    | nil => rfl
    | cons e r ih => simp only [lT, List.map_cons, ih]; split <;> rfl
  rw [List.map_append, List.map_append, hl, ← List.map_append, ← List.map_append]
  congr 1
  rw [show (L.take M).drop j ++ L.drop M = L.drop j from ?_, List.take_append_drop]
  conv => rhs; rw [← List.take_append_drop M L]
  rw [List.drop_append_of_le_length (by rw [List.length_take]; omega)]
end
theorem blk_ne_mapG {K V : Type} {kv : K → Value} [DecidableEq K] {enc : V → Value} {z : V} {w : World} {N B : Nat} {T : TypeId} {cs : Array Value} {g2 : K → V} (hb : Blk w N T cs) (hm : MapG kv enc z w B g2) : N ≠ B := by
  intro e; subst e
  obtain ⟨l, ⟨es, cl, h1, _⟩, _⟩ := hm
  have := hb.symm.trans h1
  cases this
theorem strz (w : World) : (zeroValue 3).run Try.prog w = .ok (intK 0) w := by kernel_rfl
theorem MapG.toE {K V : Type} [DecidableEq K] {kv : K → Value} {enc : V → Value} {z : V} {w : World} {B : Nat} {g g' : K → V} (h : MapG kv enc z w B g) (e : g = g') : MapG kv enc z w B g' := e ▸ h
theorem grown_of_but {w x : World} {N : Nat} (h : But (fun q => q = N) w x) : w.grownBy x (some N) := ⟨h.os, h.tape, h.output, h.size, fun k hk hne => h.block k hk (fun e => hne (by rw [e]))⟩

set_option maxRecDepth 100000 in
theorem hides_any (w0 : World) (Q : Nat → Prop) (k : ByteArray) (v : ByteArray) (d : Bool) (Bx : Nat) (N : Nat) (g : ByteArray → Int) (w : World) (hbw : But Q w0 w) (hSN : Q N ∨ w0.heap.size ≤ N) (hD : Blk w Bx 132 #[.map (some N)]) (hm : MapG strK intK 0 w N g) (hg0 : 0 ≤ g k ∧ g k ≤ 1000000) :
    Calls Try.prog 67 #[.agg #[.string k, .string v, .bool d], pt Bx 0] w fun e w' => e = .returned (.bool (decide (g k + 1 > 1))) ∧ MapG strK intK 0 w' N (fun b => if b = k then g k + 1 else g b) ∧ But (Q) w0 w' := by
 have hB0 := hbw
 have hz0 := hbw.size
 have hl_hD := hD.lt
 have hlm := hm.lt; have hneN := blk_ne_mapG hD hm
 have hz0 := hbw.size
 refine co_enter (n := 14) Try.func67 rfl rfl rfl [(0, .agg #[.string k, .string v, .bool d]), (1, pt Bx 0)] rfl (fun a h0 => ?_)
 refine co_seq ?_
 refine co_reg ?_
 refine pw h0 rfl (op_new (v := fun N => pt N 0) (T := 74) (cs := #[.string k, .string v, .bool d]) (by kernel_rfl) (by kernel_rfl) (by kernel_rfl)) ?_; clear h0
 rintro _ w2 a1 ⟨N3, rfl, hN6, hz7, hk5, hg4⟩ h1
 have hz8 := hg4.size
 try dsimp only at h1
 refine pk0 (v := .bool false) h1 rfl fun a9 h9 => ?_; clear h1
 refine pl_nil ?_
 refine co_then ?_
 refine co_seq ?_
 refine co_reg ?_
 have hk10 := hD.kept hg4 (by simp)
 refine pk (v := .map (some N)) h9 rfl (rn_load1 rfl rfl Try.isAgg132 (hk10.cell rfl)) fun a11 h11 => ?_; clear h9
 refine pk0 (v := pt N3 0) h11 rfl fun a12 h12 => ?_; clear h11
 refine pk (v := .string k) h12 rfl (rn_load1 rfl rfl Try.isAgg9 (hk5.cell rfl)) fun a13 h13 => ?_; clear h12
 have hI14 := hm.kept hg4 (by simp)
 refine pk (v := .int .i64 (g k)) h13 rfl (rn_lookG (a := k) (strKL Try.underlying9) rfl rfl rfl Try.underlying132 strz hI14) fun a15 h15 => ?_; clear h13
 refine pk (v := .int .i64 ((g k) + 1)) h15 rfl (rn_arith rfl rfl rfl rfl rfl rfl (IntWalk.i64_in _ (by omega))) fun a16 h16 => ?_; clear h15
 refine pwD h16 rfl (op_updateG (a := k) (v := ((g k) + 1)) (strKL Try.underlying9) rfl rfl rfl rfl Try.underlying132 hI14) ?_; clear h16
 rintro _ w18 a17 ⟨hm19, hz20, hg21⟩ h17
 have hz22 := hg21.size
 have hl23 := hm19.lt
 refine pl_nil ?_
 refine co_then ?_
 refine co_seq ?_
 refine co_reg ?_
 have hk24 := hk10.kept hg21 (by simp; omega)
 refine pk (v := .map (some N)) h17 rfl (rn_load1 rfl rfl Try.isAgg132 (hk24.cell rfl)) fun a25 h25 => ?_; clear h17
 refine pk0 (v := pt N3 0) h25 rfl fun a26 h26 => ?_; clear h25
 have hk27 := hk5.kept hg21 (by simp; omega)
 refine pk (v := .string k) h26 rfl (rn_load1 rfl rfl Try.isAgg9 (hk27.cell rfl)) fun a28 h28 => ?_; clear h26
 refine pk (v := .int .i64 (if k = k then g k + 1 else g k)) h28 rfl (rn_lookG (a := k) (strKL Try.underlying9) rfl rfl rfl Try.underlying132 strz hm19) fun a29 h29 => ?_; clear h28
 refine pk0 (v := .bool (decide ((if k = k then g k + 1 else g k) > 1))) h29 rfl fun a30 h30 => ?_; clear h29
 refine pk0 (v := .bool (decide ((if k = k then g k + 1 else g k) > 1))) h30 rfl fun a31 h31 => ?_; clear h30
 refine pl_nil ?_
 refine co_then ?_
 refine wp_ret ?_
 refine co_ret1 h31 rfl rfl ?_
 have hB32 := fbU_new hB0 hg4
 have hB33 := fbU_at hB32 hg21 (fun hlt => by rcases hSN with hq | hq; exact hq; omega)
 exact ⟨by simp, hm19, hB33⟩
set_option maxRecDepth 100000 in
set_option maxHeartbeats 1600000 in
theorem lThin_any (w0 : World) (S : Nat → Prop) (b : Nat) (M : Nat) (u : Value) (L : List EntT) (h : Int) (n : Int) (w : World) (hbw : But S w0 w) (hO : LgP S w0.heap.size w b M u L) (hh : 0 ≤ h ∧ h < 18446744073709551616) (hni : -9223372036854775808 ≤ n ∧ n ≤ 9223372036854775807) (hdk : ∀ e ∈ L, (e.opl.map (·.1)).Nodup) :
    Calls Try.prog 36 #[pt b 0, .int .u64 h, .int .i64 n] w fun e w' => ∃ (L' : List EntT), e = .returned (.int .i64 (thG L h n)) ∧ LgP S w0.heap.size w' b M u L' ∧ L'.map e0 = (thL L h n).map e0 ∧ But (S) w0 w' := by
 have hB0 := hbw
 have hz0 := hbw.size
 have hz0 := hbw.size
 have hl3 := hO.blk.lt; obtain ⟨c1, hm2⟩ := hO.map; have hl4 := hm2.lt; have hne5 := blk_ne_mapN hO.blk hm2; have hln6 := hO.len
 refine co_enter (n := 77) Try.func36 rfl rfl rfl [(0, pt b 0), (1, .int .u64 h), (2, .int .i64 n)] rfl (fun a h0 => ?_)
 refine co_seq ?_
 refine co_reg ?_
 refine pk0 (v := .int .i64 0) h0 rfl fun a7 h7 => ?_; clear h0
 refine pl_nil ?_
 refine co_then ?_
 refine co_seq ?_
 refine co_seq ?_
 refine co_reg ?_
 refine pk0 (v := pt b 0) h7 rfl fun a8 h8 => ?_; clear h7
 refine pw h8 rfl (op_call (args := #[pt b 0]) (R := fun res xw => res = .bool false ∧ w = xw) rfl rfl rfl (by kernel_rfl) (by kernel_rfl) (Try.call61 _ _) (lzero_any b M u w hO.blk) (by rintro e x ⟨rfl, rfl⟩; exact ⟨_, rfl, ⟨rfl, rfl⟩⟩)) ?_; clear h8
 rintro _ _ a9 ⟨rfl, rfl⟩ h9
 refine pl_nil ?_
 refine co_then ?_
 refine co_false h9 rfl ?_
 refine wp_skip ?_
 refine co_then ?_
 refine co_seq ?_
 refine co_reg ?_
 refine pw h9 rfl (op_makeG strK intK 0 (by kernel_rfl) (by kernel_rfl) rfl) ?_; clear h9
 rintro _ w13 a12 ⟨B14, rfl, hN15, hz16, hm17, hg18⟩ h12
 have ha19 := row_fresh hO.row hN15
 have hz20 := hg18.size
 have hl21 := hm17.lt
 refine pw h12 rfl (op_new (v := fun N => pt N 0) (T := 132) (cs := #[.map none]) (by kernel_rfl) (by kernel_rfl) (by kernel_rfl)) ?_; clear h12
 rintro _ w23 a22 ⟨N24, rfl, hN27, hz28, hk26, hg25⟩ h22
 have hr30 := row_kept_new hO.row hg18
 have ha29 := row_fresh hr30 hN27
 have hu31 := row_under hr30 hN27
 have hz32 := hg25.size
 try dsimp only at h22
 refine pwD h22 rfl (op_store1 rfl rfl rfl rfl Try.sizeOf132 hk26 rfl) ?_; clear h22
 rintro _ w34 a33 ⟨hk35, hz36, hg37⟩ h33
 have hk35' : Blk w34 N24 132 #[.map (some B14)] := hk35; clear hk35
 have hz38 := hg37.size
 refine pl_nil ?_
 refine co_then ?_
 refine co_seq ?_
 refine co_reg ?_
 refine pk0 (v := .int .i64 0) h33 rfl fun a39 h39 => ?_; clear h33
 refine pl_nil ?_
 refine co_then ?_
 refine co_seq ?_
 refine co_reg ?_
 refine pk0 (v := .func (.func 67) #[] #[pt N24 0]) h39 rfl fun a40 h40 => ?_; clear h39
 refine pk0 (v := .func (.func 67) #[] #[pt N24 0]) h40 rfl fun a41 h41 => ?_; clear h40
 refine pl_nil ?_
 refine co_then ?_
 refine co_seq ?_
 refine co_seq ?_
 refine co_reg ?_
 refine pk0 (v := .int .i64 n) h41 rfl fun a42 h42 => ?_; clear h41
 obtain ⟨kp43, hkp44⟩ : ∃ z : Int, z = (if n < 0 then 0 else n) := ⟨_, rfl⟩
 have hq45 : kp43 ≥ n ∧ kp43 ≥ 0 ∧ (kp43 = n ∨ kp43 = 0) := by rw [hkp44]; split <;> omega
 refine pk (v := .int .i64 kp43) h42 rfl (by rw [hkp44]; kernel_rfl) fun a46 h46 => ?_; clear h42
 refine pk0 (v := pt b 0) h46 rfl fun a47 h47 => ?_; clear h46
 refine pk0 (v := pt b 0) h47 rfl fun a48 h48 => ?_; clear h47
 refine pk0 (v := pt b 1) h48 rfl fun a49 h49 => ?_; clear h48
 have hk50 := hO.blk.kept hg18 (by simp)
 have hk51 := hk50.kept hg25 (by simp)
 have hk52 := hk51.kept hg37 (by simp; omega)
 refine pk (v := u) h49 rfl (rn_load1 rfl rfl Try.isAgg48 (hk52.cell rfl)) fun a53 h53 => ?_; clear h49
 have hr54 := row_kept_new hr30 hg25
 have hr55 := row_kept_at hr54 hg37 (ha29)
 refine pk (v := .int .i64 ((L.length : Nat) : Int)) h53 rfl (rn_lenOwn rfl rfl Try.underlying48 hr55) fun a56 h56 => ?_; clear h53
 obtain ⟨kp57, hkp58⟩ : ∃ z : Int, z = (if ((L.length : Nat) : Int) < kp43 then ((L.length : Nat) : Int) else kp43) := ⟨_, rfl⟩
 have hq59 : kp57 ≤ kp43 ∧ kp57 ≤ ((L.length : Nat) : Int) ∧ (kp57 = kp43 ∨ kp57 = ((L.length : Nat) : Int)) := by rw [hkp58]; split <;> omega
 refine pk (v := .int .i64 kp57) h56 rfl (by rw [hkp58]; kernel_rfl) fun a60 h60 => ?_; clear h56
 refine pk (v := .int .i64 (kp57 - 1)) h60 rfl (rn_arith rfl rfl rfl rfl rfl rfl (IntWalk.i64_in _ (by omega))) fun a61 h61 => ?_; clear h60
 refine pk0 (v := .int .i64 (kp57 - 1)) h61 rfl fun a62 h62 => ?_; clear h61
 refine pl_nil ?_
 refine co_then ?_
 refine wp_block ?_
 obtain ⟨Mn, hMn⟩ : ∃ z : Nat, z = kp57.toNat := ⟨_, rfl⟩
 have h63 : Slots 77 [(0, pt b 0), (1, .int .u64 h), (7, pt N24 0), (8, .int .i64 0), (9, .func (.func 67) #[] #[pt N24 0]), (10, .int .i64 (kp57 - 1))] _ := h62.sub ⟨rfl, rfl, rfl, rfl, rfl, rfl, trivial⟩; clear h62
 refine co_loop (fun mm a x => ∃ (j : Nat) (Lk : List EntT), Slots 77 [(0, pt b 0), (1, .int .u64 h), (7, pt N24 0), (8, .int .i64 (gT h ((L.take Mn).drop j))), (9, .func (.func 67) #[] #[pt N24 0]), (10, .int .i64 (((j : Nat) : Int) - 1))] a ∧ mm = 0 + j ∧ (j ≤ Mn) ∧ (Lk.map e0 = (thS L h Mn j).map e0) ∧ x.ownsRow 0 40 4 u Lk.length (Lk.flatMap entE) ∧ EntsK S w0.heap.size x Lk ∧ MapO arr2K spotV x M (findN L) c1 ∧ MapG strK intK 0 x B14 (fT h ((L.take Mn).drop j)) ∧ But (S) w0 x ∧ Blk x b 114 #[.bool true, u, .map (some M)] ∧ Blk x N24 132 #[.map (some B14)]) (0 + Mn) ?_ ?_
 have hE64 := hO.ents.new hg18
 have hE65 := hE64.new hg25
 have hE66 := hE65.blk hk26 (by decide) hg37
 have hM67 := hm2.kept hg18 (by simp)
 have hM68 := hM67.kept hg25 (by simp)
 have hM69 := hM68.kept hg37 (by simp; omega)
 have hI70 := hm17.kept hg25 (by simp)
 have hI71 := hI70.kept hg37 (by simp; omega)
 have hB72 := fbU_new hB0 hg18
 have hB73 := fbU_new hB72 hg25
 have hB74 := fbU_at hB73 hg37 (fun hlt => absurd hlt (by omega))
 · exact ⟨Mn, L, h63.sub ⟨rfl, rfl, rfl, (slot_eq rfl (congrArg (Value.int .i64) (by first | exact gT_M | (rw [hgj]; exact gT_no (by omega) (by omega) (by omega) (by assumption) (by assumption) hq0) | (rw [hgj]; exact gT_yes (by omega) (by omega) (by omega) (by assumption) (by assumption) hq0 (by omega) (by omega))))), rfl, (slot_eq rfl (congrArg (Value.int .i64) (by first | rfl | omega))), trivial⟩, rfl, by omega, by first | exact thS_M _ (by omega) | exact th_no (by omega) (by omega) (by omega) (by assumption) (by assumption) hq0 | exact th_yes (by omega) (by omega) (by omega) (by assumption) (by assumption) hq0 (by simp only [e0, htk]), hr55, hE66, hM69, (hI71.toE (by first | exact fT_M | exact fT_no (by omega) (by omega) (by omega) hq0 hq0 hq0 | exact fT_yes (by omega) (by omega) (by omega) hq0 hq0 hq0 (by omega))), hB74, hk52, hk35'⟩
 · rintro k75 a76 w77 ⟨j, Lk, h76, rfl, hi78, hi79, hf80, hf81, hf82, hf83, hB84, hk85, hk86⟩
   have hz87 := hB84.size
   have hl88 := hk85.lt
   have hl89 := hk86.lt
   have hl90 := hf82.lt
   have hl91 := hf83.lt
   have hLl : Lk.length = L.length := by have := e0_len (by assumption : Lk.map e0 = (thS L h Mn j).map e0); have h2 := congrArg List.length (thS_nm h (by omega : j ≤ Mn) (by omega : Mn ≤ L.length)); rw [List.length_map, List.length_map] at h2; omega
   have hgb := gT_nn h ((L.take Mn).drop j) (drop_all20 (fun e he => (hO.ents e he).len)); rw [dropM_len (by omega)] at hgb
   obtain ⟨gj, hgj⟩ : ∃ z, z = gT h ((L.take Mn).drop j) := ⟨_, rfl⟩; rw [← hgj] at hgb
   rw [← hgj] at h76
   refine co_seq ?_
   refine co_seq ?_
   refine co_reg ?_
   refine pk0 (v := .int .i64 (((j : Nat) : Int) - 1)) h76 rfl fun a92 h92 => ?_; clear h76
   refine pk0 (v := .bool (decide ((((j : Nat) : Int) - 1) ≥ 0))) h92 rfl fun a93 h93 => ?_; clear h92
   refine pl_nil ?_
   refine co_then ?_
   cases hc94 : (decide ((((j : Nat) : Int) - 1) ≥ 0))
   ·
    rw [hc94] at h93
    have hp95 : ¬ ((((j : Nat) : Int) - 1) ≥ 0) := of_decide_eq_false hc94
    clear hc94
    refine co_false h93 rfl ?_
    refine wp_exit ?_
    refine co_thenX ?_
    refine co_thenX ?_
    refine co_blockX ?_
    refine co_then ?_
    refine co_seq ?_
    refine co_reg ?_
    refine pk0 (v := .int .i64 gj) h93 rfl fun a96 h96 => ?_; clear h93
    refine pk0 (v := .int .i64 gj) h96 rfl fun a97 h97 => ?_; clear h96
    refine pl_nil ?_
    refine co_then ?_
    refine wp_ret ?_
    refine co_ret1 h97 rfl rfl ?_
    have hj0 : j = 0 := by omega
    subst hj0
    have hMe : Mn = thM L n := by rw [hMn]; exact thM_eq (by omega) (by omega) (by omega) (by omega) (by omega)
    have hLe : Lk.map e0 = (thL L h n).map e0 := by rw [← thS_0, ← hMe]; assumption
    have hnm : Lk.map nmE = L.map nmE := by rw [e0_f (f := nmE) (fun _ => rfl) (by assumption : Lk.map e0 = (thS L h Mn 0).map e0)]; exact thS_nm h (by omega) (by omega)
    exact ⟨_, ret_int (by unfold thG; rw [← hMe, hgj, List.drop_zero]), ⟨hk85, ⟨_, hf82.eq ((findN_nm hnm).symm) (Nat.le_refl _)⟩, hf80, hf81, hO.sb, hO.sM, hO.su, (hO.uq.nm hnm), (by have := hO.len; omega)⟩, hLe, hB84⟩
   ·
    rw [hc94] at h93
    have hp98 : (((j : Nat) : Int) - 1) ≥ 0 := of_decide_eq_true hc94
    clear hc94
    refine co_true h93 rfl ?_
    refine wp_skip ?_
    refine co_then ?_
    refine co_seq ?_
    refine wp_block ?_
    refine co_seq ?_
    refine co_reg ?_
    refine pk0 (v := pt b 0) h93 rfl fun a99 h99 => ?_; clear h93
    refine pk0 (v := pt b 0) h99 rfl fun a100 h100 => ?_; clear h99
    refine pk0 (v := pt b 1) h100 rfl fun a101 h101 => ?_; clear h100
    refine pk (v := u) h101 rfl (rn_load1 rfl rfl Try.isAgg48 (hk85.cell rfl)) fun a102 h102 => ?_; clear h101
    refine pk0 (v := .int .i64 (((j : Nat) : Int) - 1)) h102 rfl fun a103 h103 => ?_; clear h102
    obtain ⟨y104, hy104⟩ : ∃ z, Lk[(j - 1)]? = some z := ⟨_, List.getElem?_eq_getElem (by first | omega | (simp; done) | (simp; omega))⟩
    have oky104 := (fun (z : EntT) (_ : z ∈ Lk) => trivial) _ (List.mem_of_getElem? hy104)
    have hy105 := hf81.at hy104
    have hq106 := hy105.ts0; have hq107 := hy105.ts1; have hq108 := hy105.len; have hq109 := wf_i64 hy105.cl; have hq110 := wf_i64 hy105.rq
    refine pk (v := pt (blkOf u) (offOf u + (j - 1) * 4)) h103 rfl (rn_index rfl rfl rfl Try.underlying48 Try.sizeOf40 (row_sl hf80 entE_len) (by omega) (by first | omega | (simp; done) | (simp; omega))) fun a111 h111 => ?_; clear h103
    refine pk0 (v := pt (blkOf u) (offOf u + (j - 1) * 4)) h111 rfl fun a112 h112 => ?_; clear h111
    refine pl_nil ?_
    refine co_then ?_
    refine co_seq ?_
    refine co_seq ?_
    refine co_reg ?_
    refine pk0 (v := pt (blkOf u) (offOf u + (j - 1) * 4)) h112 rfl fun a113 h113 => ?_; clear h112
    refine pk0 (v := pt (blkOf u) (offOf u + (j - 1) * 4)) h113 rfl fun a114 h114 => ?_; clear h113
    refine pk0 (v := pt (blkOf u) (offOf u + (j - 1) * 4 + 3)) h114 rfl fun a115 h115 => ?_; clear h114
    refine pk (v := .int .u64 y104.ts) h115 rfl (rn_load1 rfl rfl Try.isAgg27 ((sl_at (row_sl hf80 entE_len) hy104) 3 _ rfl)) fun a116 h116 => ?_; clear h115
    refine pk0 (v := .bool (y104.ts == 0)) h116 rfl fun a117 h117 => ?_; clear h116
    refine pk0 (v := .bool (y104.ts == 0)) h117 rfl fun a118 h118 => ?_; clear h117
    cases hc119 : (y104.ts == 0)
    ·
     rw [hc119] at h118
     have hp120 : ¬ (y104.ts = 0) := by first | simpa using hc119 | simpa [and_assoc] using hc119
     clear hc119
     refine pk0 (v := pt (blkOf u) (offOf u + (j - 1) * 4)) h118 rfl fun a121 h121 => ?_; clear h118
     refine pk0 (v := pt (blkOf u) (offOf u + (j - 1) * 4)) h121 rfl fun a122 h122 => ?_; clear h121
     refine pk0 (v := pt (blkOf u) (offOf u + (j - 1) * 4 + 3)) h122 rfl fun a123 h123 => ?_; clear h122
     refine pk (v := .int .u64 y104.ts) h123 rfl (rn_load1 rfl rfl Try.isAgg27 ((sl_at (row_sl hf80 entE_len) hy104) 3 _ rfl)) fun a124 h124 => ?_; clear h123
     refine pk0 (v := .int .u64 h) h124 rfl fun a125 h125 => ?_; clear h124
     refine pk0 (v := .bool (decide (y104.ts > h))) h125 rfl fun a126 h126 => ?_; clear h125
     refine pk0 (v := .bool (decide (y104.ts > h))) h126 rfl fun a127 h127 => ?_; clear h126
     refine pl_nil ?_
     refine co_then ?_
     cases hc128 : (decide (y104.ts > h))
     ·
      rw [hc128] at h127
      have hp129 : ¬ (y104.ts > h) := of_decide_eq_false hc128
      clear hc128
      refine co_false h127 rfl ?_
      refine wp_skip ?_
      refine co_then ?_
      refine co_seq ?_
      refine co_reg ?_
      refine pk0 (v := .slice none 0 0) h127 rfl fun a130 h130 => ?_; clear h127
      refine pl_nil ?_
      refine co_then ?_
      refine co_seq ?_
      refine co_seq ?_
      refine co_reg ?_
      refine pk0 (v := pt (blkOf u) (offOf u + (j - 1) * 4)) h130 rfl fun a131 h131 => ?_; clear h130
      refine pk0 (v := pt (blkOf u) (offOf u + (j - 1) * 4)) h131 rfl fun a132 h132 => ?_; clear h131
      refine pk0 (v := pt (blkOf u) (offOf u + (j - 1) * 4)) h132 rfl fun a133 h133 => ?_; clear h132
      refine pk0 (v := pt (blkOf u) (offOf u + (j - 1) * 4 + 2)) h133 rfl fun a134 h134 => ?_; clear h133
      refine pk (v := y104.ops) h134 rfl (rn_load1 rfl rfl Try.isAgg36 ((sl_at (row_sl hf80 entE_len) hy104) 2 _ rfl)) fun a135 h135 => ?_; clear h134
      refine pk (v := .int .i64 ((y104.opl.length : Nat) : Int)) h135 rfl (rn_lenOwn rfl rfl Try.underlying36 hy105.row) fun a136 h136 => ?_; clear h135
      refine pk0 (v := .int .i64 0) h136 rfl fun a137 h137 => ?_; clear h136
      refine pl_nil ?_
      refine co_then ?_
      refine wp_block ?_
      obtain ⟨bs138, hb_bs138⟩ : ∃ b, b = w77.heap.size := ⟨_, rfl⟩
      have hu139 := row_under hf80 hb_bs138
      have hu140 := row_under hy105.row hb_bs138
      have hu141 := EntsK.under hf81 hb_bs138
      have hnd := nodup_y (h := h) hdk (by omega) (by omega) (by omega) (by assumption : Lk.map e0 = (thS L h Mn j).map e0) hy104
      have hw0b : w0.heap.size ≤ bs138 := by omega
      have h142 : Slots 77 [(0, pt b 0), (1, .int .u64 h), (7, pt N24 0), (8, .int .i64 gj), (9, .func (.func 67) #[] #[pt N24 0]), (10, .int .i64 (((j : Nat) : Int) - 1)), (11, pt (blkOf u) (offOf u + (j - 1) * 4)), (12, .slice none 0 0), (55, y104.ops), (56, .int .i64 ((y104.opl.length : Nat) : Int)), (57, .int .i64 0)] _ := h137.sub ⟨rfl, rfl, rfl, rfl, rfl, rfl, rfl, rfl, rfl, rfl, rfl, trivial⟩; clear h137
      refine co_loop (fun mm a x => ∃ (q : Nat) (u2 : Value), Slots 77 [(0, pt b 0), (1, .int .u64 h), (7, pt N24 0), (8, .int .i64 (gj + ((q : Int) - ((kpL (fT h ((L.take Mn).drop j)) (y104.opl.take q)).length : Int)))), (9, .func (.func 67) #[] #[pt N24 0]), (10, .int .i64 (((j : Nat) : Int) - 1)), (11, pt (blkOf u) (offOf u + (j - 1) * 4)), (12, u2), (55, y104.ops), (56, .int .i64 ((y104.opl.length : Nat) : Int)), (57, .int .i64 ((q : Nat) : Int))] a ∧ mm = y104.opl.length - q ∧ (q ≤ y104.opl.length) ∧ (bs138 ≤ x.heap.size) ∧ x.ownsRow 0 40 4 u Lk.length (Lk.flatMap entE) ∧ x.ownsRow 0 74 3 (y104.ops) y104.opl.length (y104.opl.flatMap opE) ∧ EntsK S w0.heap.size x Lk ∧ MapO arr2K spotV x M (findN L) c1 ∧ x.ownsRow bs138 74 3 u2 (kpL (fT h ((L.take Mn).drop j)) (y104.opl.take q)).length ((kpL (fT h ((L.take Mn).drop j)) (y104.opl.take q)).flatMap opE) ∧ MapG strK intK 0 x B14 (laterF h ((L.take Mn).drop j) y104.opl q) ∧ But (S) w0 x ∧ Blk x b 114 #[.bool true, u, .map (some M)] ∧ Blk x N24 132 #[.map (some B14)]) (y104.opl.length - 0) ?_ ?_
      · exact ⟨0, (.slice none 0 0), h142.sub ⟨rfl, rfl, rfl, (slot_eq rfl (congrArg (Value.int .i64) (by first | (simp [kpL]; done) | omega))), rfl, rfl, rfl, rfl, rfl, rfl, (slot_eq rfl (congrArg (Value.int .i64) (by first | rfl | omega))), trivial⟩, rfl, by omega, by omega, hf80, hy105.row, hf81, hf82, (row_nilL _ _ _ _ _), (hf83.toE (laterF_0)), hB84, hk85, hk86⟩
      · rintro k143 a144 w145 ⟨q, u2, h144, rfl, hi146, hi147, hf148, hf149, hf150, hf151, hf152, hf153, hB154, hk155, hk156⟩
        have hz157 := hB154.size
        have hl158 := hk155.lt
        have hl159 := hk156.lt
        have hl160 := hf151.lt
        have hl161 := hf153.lt
        have hkl := kpL_le (fT h ((L.take Mn).drop j)) (y104.opl.take q); rw [List.length_take] at hkl
        refine co_seq ?_
        refine co_reg ?_
        refine pk0 (v := .bool (decide (((q : Nat) : Int) < ((y104.opl.length : Nat) : Int)))) h144 rfl fun a162 h162 => ?_; clear h144
        refine pl_nil ?_
        refine co_then ?_
        refine co_seq ?_
        cases hc163 : (decide (((q : Nat) : Int) < ((y104.opl.length : Nat) : Int)))
        ·
         rw [hc163] at h162
         have hp164 : ¬ (((q : Nat) : Int) < ((y104.opl.length : Nat) : Int)) := of_decide_eq_false hc163
         clear hc163
         refine co_false h162 rfl ?_
         refine wp_exit ?_
         refine co_thenX ?_
         refine co_thenX ?_
         refine co_blockX ?_
         refine co_then ?_
         refine co_reg ?_
         refine pk0 (v := pt (blkOf u) (offOf u + (j - 1) * 4)) h162 rfl fun a165 h165 => ?_; clear h162
         refine pk0 (v := u2) h165 rfl fun a166 h166 => ?_; clear h165
         refine pk0 (v := pt (blkOf u) (offOf u + (j - 1) * 4)) h166 rfl fun a167 h167 => ?_; clear h166
         refine pk0 (v := pt (blkOf u) (offOf u + (j - 1) * 4)) h167 rfl fun a168 h168 => ?_; clear h167
         refine pk0 (v := pt (blkOf u) (offOf u + (j - 1) * 4 + 2)) h168 rfl fun a169 h169 => ?_; clear h168
         refine pwD h169 rfl (op_storeRow (c := (j - 1) * 4 + 2) rfl rfl rfl (row_one hf152) Try.sizeOf36 hf148 (flat_lt entE_len (by first | omega | (simp; omega)) (by omega)) (by first | rfl | omega)) ?_; clear h169
         rintro _ w171 a170 ⟨hr172, hz173, hg174⟩ h170
         have hr172' := row_set (y' := (EntT.mk y104.client y104.req u2 (kpL (fT h ((L.take Mn).drop j)) (y104.opl.take q)) y104.ts)) hr172 entE_len hy104 (by omega) rfl; clear hr172
         have hz175 := hg174.size
         have hE178 := hf150.row hf148 (by decide) hg174
         have hy177 := EntsK.at hE178 hy104
         have hr179 := row_kept_row hf152 hf148 hg174 (by decide)
         have hE176 := EntsK.set (i := (j - 1)) (z := (EntT.mk y104.client y104.req u2 (kpL (fT h ((L.take Mn).drop j)) (y104.opl.take q)) y104.ts)) hE178 ⟨row_lows hr179 (Nat.zero_le _), InS.low hr179 (by omega), Nat.le_trans (kpL_le _ _) (by rw [List.length_take]; omega), kpL_all (fun o ho => hy177.each o (List.mem_of_mem_take ho)), hy177.ts0, hy177.ts1, hy177.cl, hy177.rq⟩
         refine pl_nil ?_
         refine co_blockN ?_
         refine co_then ?_
         refine co_reg ?_
         refine pk0 (v := .int .i64 (((j : Nat) : Int) - 1)) h170 rfl fun a180 h180 => ?_; clear h170
         refine pk (v := .int .i64 ((((j : Nat) : Int) - 1) - 1)) h180 rfl (rn_arith rfl rfl rfl rfl rfl rfl (IntWalk.i64_in _ (by omega))) fun a181 h181 => ?_; clear h180
         refine pk0 (v := .int .i64 ((((j : Nat) : Int) - 1) - 1)) h181 rfl fun a182 h182 => ?_; clear h181
         refine pl_nil ?_
         refine co_then ?_
         refine ⟨(0 + (j - 1)), by omega, ?_⟩
         have hq0 : ltE h y104 = true := ltE_t (by omega) (by omega)
         have htk : List.take q y104.opl = y104.opl := List.take_of_length_le (by omega)
         have hM183 := hf151.kept hg174 (hf151.row hf148)
         have hI184 := hf153.kept hg174 (hf153.row hf148)
         have hB185 := fbU_row hB154 hO.su hg174
         have hk186 := hk155.kept hg174 (own_neT hf148 hk155 (by decide))
         have hk187 := hk156.kept hg174 (ha29)
         exact ⟨(j - 1), (Lk.set (j - 1) (EntT.mk y104.client y104.req u2 (kpL (fT h ((L.take Mn).drop j)) (y104.opl.take q)) y104.ts)), h182.sub ⟨rfl, rfl, rfl, (slot_eq rfl (congrArg (Value.int .i64) (by first | exact gT_M | (rw [hgj]; exact gT_no (by omega) (by omega) (by omega) (by assumption) (by assumption) hq0) | (rw [hgj]; exact gT_yes (by omega) (by omega) (by omega) (by assumption) (by assumption) hq0 (by omega) (by omega))))), rfl, (slot_eq rfl (congrArg (Value.int .i64) (by first | rfl | omega))), trivial⟩, rfl, by omega, by first | exact thS_M _ (by omega) | exact th_no (by omega) (by omega) (by omega) (by assumption) (by assumption) hq0 | exact th_yes (by omega) (by omega) (by omega) (by assumption) (by assumption) hq0 (by simp only [e0, htk]), hr172', hE176, hM183, (hI184.toE (by first | exact fT_M | exact fT_no (by omega) (by omega) (by omega) (by assumption : Lk.map e0 = (thS L h Mn j).map e0) hy104 hq0 | exact fT_yes (by omega) (by omega) (by omega) (by assumption : Lk.map e0 = (thS L h Mn j).map e0) hy104 hq0 (by omega))), hB185, hk186, hk187⟩
        ·
         rw [hc163] at h162
         have hp188 : ((q : Nat) : Int) < ((y104.opl.length : Nat) : Int) := of_decide_eq_true hc163
         clear hc163
         refine co_true h162 rfl ?_
         refine wp_skip ?_
         refine co_then ?_
         refine co_seq ?_
         refine wp_block ?_
         refine co_seq ?_
         refine co_reg ?_
         obtain ⟨y189, hy189⟩ : ∃ z, y104.opl[q]? = some z := ⟨_, List.getElem?_eq_getElem (by first | omega | (simp; done) | (simp; omega))⟩
         refine pk (v := pt (blkOf (y104.ops)) (offOf (y104.ops) + q * 3)) h162 rfl (rn_index rfl rfl rfl Try.underlying36 Try.sizeOf74 (row_sl hf149 opE_len) (by omega) (by first | omega | (simp; done) | (simp; omega))) fun a190 h190 => ?_; clear h162
         refine pk (v := .agg #[.string y189.1, .string y189.2.1, .bool y189.2.2]) h190 rfl (rn_loadN rfl rfl Try.underlying74 rfl (by kernel_rfl) (sl_at (row_sl hf149 opE_len) hy189)) fun a191 h191 => ?_; clear h190
         refine pw h191 rfl (op_new (v := fun N => pt N 0) (T := 74) (cs := #[.string (⟨#[]⟩), .string (⟨#[]⟩), .bool false]) (by kernel_rfl) (by kernel_rfl) (by kernel_rfl)) ?_; clear h191
         rintro _ w193 a192 ⟨N194, rfl, hN197, hz198, hk196, hg195⟩ h192
         have ha199 := row_fresh hf148 hN197
         have hu200 := row_under hf148 hN197
         have ha201 := row_fresh hf149 hN197
         have hu202 := row_under hf149 hN197
         have ha203 := row_fresh hf152 hN197
         have hu204 := row_under hf152 hN197
         have hz205 := hg195.size
         have hu206 := EntsK.under hf150 hN197
         try dsimp only at h192
         refine pwD h192 rfl (op_storeN rfl rfl rfl (by kernel_rfl) (by kernel_rfl) hk196 rfl) ?_; clear h192
         rintro _ w208 a207 ⟨hk209, hz210, hg211⟩ h207
         have hk209' : Blk w208 N194 74 #[.string y189.1, .string y189.2.1, .bool y189.2.2] := hk209; clear hk209
         have hz212 := hg211.size
         refine pl_nil ?_
         refine co_then ?_
         refine co_seq ?_
         refine co_reg ?_
         refine pk0 (v := .func (.func 67) #[] #[pt N24 0]) h207 rfl fun a213 h213 => ?_; clear h207
         refine pk (v := .agg #[.string y189.1, .string y189.2.1, .bool y189.2.2]) h213 rfl (rn_loadN rfl rfl Try.underlying74 rfl (by kernel_rfl) hk209'.all) fun a214 h214 => ?_; clear h213
         have hB217 := fbU_new hB154 hg195
         have hB218 := fbU_at hB217 hg211 (fun hlt => absurd hlt (by omega))
         have hk219 := hk155.kept hg195 (by simp)
         have hk220 := hk219.kept hg211 (by simp; omega)
         have hk221 := hk156.kept hg195 (by simp)
         have hk222 := hk221.kept hg211 (by simp; omega)
         have hr223 := row_kept_new hf148 hg195
         have hr224 := row_kept_at hr223 hg211 (ha199)
         have hr225 := row_kept_new hf149 hg195
         have hr226 := row_kept_at hr225 hg211 (ha201)
         have hE227 := hf150.new hg195
         have hE228 := hE227.atU hu206 hg211
         have hM229 := hf151.kept hg195 (by simp)
         have hM230 := hM229.kept hg211 (by simp; omega)
         have hr231 := row_kept_new hf152 hg195
         have hr232 := row_kept_at hr231 hg211 (ha203)
         have hI233 := hf153.kept hg195 (by simp)
         have hI234 := hI233.kept hg211 (by simp; omega)
         have hk235 : 0 ≤ laterF h ((L.take Mn).drop j) y104.opl q y189.1 ∧ laterF h ((L.take Mn).drop j) y104.opl q y189.1 ≤ 10000 := laterF_nn (drop_all20 (fun e he => (hO.ents e he).len)) (by rw [dropM_len (by omega)]; omega) (by omega) _
         refine pw h214 rfl (op_callV (args := #[.agg #[.string y189.1, .string y189.2.1, .bool y189.2.2], pt N24 0]) (R := fun res xw => res = .bool (decide (laterF h ((L.take Mn).drop j) y104.opl q y189.1 + 1 > 1)) ∧ MapG strK intK 0 xw B14 (fun b => if b = y189.1 then laterF h ((L.take Mn).drop j) y104.opl q y189.1 + 1 else (laterF h ((L.take Mn).drop j) y104.opl q) b) ∧ w208.grownBy xw (some B14)) rfl rfl rfl (by kernel_rfl) (by kernel_rfl) (Try.call67 _ _) (hides_any w208 (fun q => q = B14) y189.1 y189.2.1 y189.2.2 N24 B14 (laterF h ((L.take Mn).drop j) y104.opl q) w208 (But.refl _ _) (.inl rfl) hk222 hI234 (by omega)) (by rintro e x ⟨rfl, h1, h2⟩; exact ⟨_, rfl, rfl, h1, grown_of_but h2⟩)) ?_; clear h214
         rintro _ w216 a215 ⟨rfl, hm236, hg237⟩ h215
         have hz238 := hg237.size
         have hl239 := hm236.lt
         refine pl_nil ?_
         refine co_then ?_
         have hB241 := fbU_at hB218 hg237 (fun hlt => absurd hlt (by omega))
         cases hc240 : (decide (laterF h ((L.take Mn).drop j) y104.opl q y189.1 + 1 > 1))
         ·
          rw [hc240] at h215
          have hp242 : ¬ (laterF h ((L.take Mn).drop j) y104.opl q y189.1 + 1 > 1) := of_decide_eq_false hc240
          clear hc240
          refine co_false h215 rfl ?_
          refine co_reg ?_
          refine pk0 (v := u2) h215 rfl fun a243 h243 => ?_; clear h215
          have hk244 := hk209'.kept hg237 (by simp; omega)
          refine pk (v := .agg #[.string y189.1, .string y189.2.1, .bool y189.2.2]) h243 rfl (rn_loadN rfl rfl Try.underlying74 rfl (by kernel_rfl) hk244.all) fun a245 h245 => ?_; clear h243
          refine pw h245 rfl (op_new (v := fun N => .slice (some ⟨N, 0, none⟩) 1 1) (T := 74) (cs := #[.string y189.1, .string y189.2.1, .bool y189.2.2]) (by kernel_rfl) (by kernel_rfl) (by kernel_rfl)) ?_; clear h245
          rintro _ w247 a246 ⟨N248, rfl, hN251, hz252, hk250, hg249⟩ h246
          have hr254 := row_kept_at hr224 hg237 (ha19)
          have ha253 := row_fresh hr254 hN251
          have hu255 := row_under hr254 hN251
          have hr257 := row_kept_at hr226 hg237 (hI234.row hr226)
          have ha256 := row_fresh hr257 hN251
          have hu258 := row_under hr257 hN251
          have hr260 := row_kept_at hr232 hg237 (hI234.row hr232)
          have ha259 := row_fresh hr260 hN251
          have hu261 := row_under hr260 hN251
          have hz262 := hg249.size
          have hE264 := hE228.mapG hI234 hg237
          have hu263 := EntsK.under hE264 hN251
          try dsimp only at h246
          have hr271 := row_kept_new hr260 hg249
          refine pw h246 rfl (op_append rfl bs138 74 (z := .agg #[.string (⟨#[]⟩), .string (⟨#[]⟩), .bool false]) (size := 3) (bytes := 40) Try.underlying36 (by kernel_rfl) rfl rfl rfl hr271 rfl hk250 rfl (by kernel_rfl) (by first | omega | (simp only [List.length_nil, List.length_append, List.length_cons, List.length_take, List.length_drop]; omega)) (by first | omega | (simp only [List.length_nil, List.length_append, List.length_cons, List.length_take, List.length_drop]; omega)) (by omega)) ?_; clear h246
          rintro v267 w266 a265 ⟨hr268, hg269⟩ h265
          have hr268' : w266.ownsRow bs138 74 3 v267 (((kpL (fT h ((L.take Mn).drop j)) (y104.opl.take q)) ++ [(y189.1, y189.2.1, y189.2.2)]).length) (((kpL (fT h ((L.take Mn).drop j)) (y104.opl.take q)) ++ [(y189.1, y189.2.1, y189.2.2)]).flatMap opE) := row_push (y := (y189.1, y189.2.1, y189.2.2)) hr268 rfl rfl; clear hr268
          have hz272 := hg269.size
          refine pk0 (v := v267) h265 rfl fun a273 h273 => ?_; clear h265
          refine pl_nil ?_
          refine co_blockN ?_
          refine co_then ?_
          refine co_reg ?_
          refine pk (v := .int .i64 ((q + 1 : Nat) : Int)) h273 rfl (rn_arith' rfl rfl rfl rfl rfl rfl (IntWalk.i64_in _ (by omega)) (by omega)) fun a274 h274 => ?_; clear h273
          refine pk0 (v := .int .i64 ((q + 1 : Nat) : Int)) h274 rfl fun a275 h275 => ?_; clear h274
          refine pl_nil ?_
          refine co_then ?_
          refine ⟨(y104.opl.length - (q + 1)), by omega, ?_⟩
          have hkq := kp_yes_len hnd hy189 (fT_nn _ _ _ (drop_all20 (fun e he => (hO.ents e he).len))).1 (by omega)
          have hr276 := row_kept_new hr254 hg249
          have hr277 := row_kept_ap hr276 hr271 hu139 hg269
          have hr278 := row_kept_new hr257 hg249
          have hr279 := row_kept_ap hr278 hr271 hu140 hg269
          have hE280 := hE264.new hg249
          have hE281 := hE280.rowU hu141 hr271 hg269
          have hM282 := hM230.kept hg237 (by simp; omega)
          have hM283 := hM282.kept hg249 (by simp)
          have hM284 := hM283.kept hg269 (hM283.row hr271)
          have hI285 := hm236.kept hg249 (by simp)
          have hI286 := hI285.kept hg269 (hI285.row hr271)
          have hB287 := fbU_new hB241 hg249
          have hB288 := fbU_row hB287 (InS.low hr271 (by omega)) hg269
          have hk289 := hk220.kept hg237 (by simp; omega)
          have hk290 := hk289.kept hg249 (by simp)
          have hk291 := hk290.kept hg269 (own_neT hr271 hk290 (by decide))
          have hk292 := hk222.kept hg237 (by simp; omega)
          have hk293 := hk292.kept hg249 (by simp)
          have hk294 := hk293.kept hg269 (own_neT hr271 hk293 (by decide))
          exact ⟨q + 1, v267, h275.sub ⟨rfl, rfl, rfl, (slot_eq rfl (congrArg (Value.int .i64) (by first | (simp [kpL]; done) | omega))), rfl, rfl, rfl, rfl, rfl, rfl, rfl, trivial⟩, rfl, by omega, by omega, hr277, hr279, hE281, hM284, (row_eq hr268' (by first | rfl | exact kp_yes hnd (by assumption) (fT_nn _ _ _ (drop_all20 (fun e he => (hO.ents e he).len))).1 (by omega) | exact kp_no hnd (by assumption) (by omega))), (hI286.toE (later_step (by assumption))), hB288, hk291, hk294⟩
         ·
          rw [hc240] at h215
          have hp295 : laterF h ((L.take Mn).drop j) y104.opl q y189.1 + 1 > 1 := of_decide_eq_true hc240
          clear hc240
          refine co_true h215 rfl ?_
          refine co_reg ?_
          refine pk0 (v := .int .i64 (gj + ((q : Int) - ((kpL (fT h ((L.take Mn).drop j)) (y104.opl.take q)).length : Int)))) h215 rfl fun a296 h296 => ?_; clear h215
          refine pk (v := .int .i64 ((gj + ((q : Int) - ((kpL (fT h ((L.take Mn).drop j)) (y104.opl.take q)).length : Int))) + 1)) h296 rfl (rn_arith rfl rfl rfl rfl rfl rfl (IntWalk.i64_in _ (by omega))) fun a297 h297 => ?_; clear h296
          refine pk0 (v := .int .i64 ((gj + ((q : Int) - ((kpL (fT h ((L.take Mn).drop j)) (y104.opl.take q)).length : Int))) + 1)) h297 rfl fun a298 h298 => ?_; clear h297
          refine pl_nil ?_
          refine co_blockN ?_
          refine co_then ?_
          refine co_reg ?_
          refine pk (v := .int .i64 ((q + 1 : Nat) : Int)) h298 rfl (rn_arith' rfl rfl rfl rfl rfl rfl (IntWalk.i64_in _ (by omega)) (by omega)) fun a299 h299 => ?_; clear h298
          refine pk0 (v := .int .i64 ((q + 1 : Nat) : Int)) h299 rfl fun a300 h300 => ?_; clear h299
          refine pl_nil ?_
          refine co_then ?_
          refine ⟨(y104.opl.length - (q + 1)), by omega, ?_⟩
          have hkq := kp_no_len hnd hy189 (by omega)
          have hr301 := row_kept_at hr224 hg237 (ha19)
          have hr302 := row_kept_at hr226 hg237 (hI234.row hr226)
          have hE303 := hE228.mapG hI234 hg237
          have hM304 := hM230.kept hg237 (by simp; omega)
          have hr305 := row_kept_at hr232 hg237 (hI234.row hr232)
          have hk306 := hk220.kept hg237 (by simp; omega)
          have hk307 := hk222.kept hg237 (by simp; omega)
          exact ⟨q + 1, u2, h300.sub ⟨rfl, rfl, rfl, (slot_eq rfl (congrArg (Value.int .i64) (by first | (simp [kpL]; done) | omega))), rfl, rfl, rfl, rfl, rfl, rfl, rfl, trivial⟩, rfl, by omega, by omega, hr301, hr302, hE303, hM304, (row_eq hr305 (by first | rfl | exact kp_yes hnd (by assumption) (fT_nn _ _ _ (drop_all20 (fun e he => (hO.ents e he).len))).1 (by omega) | exact kp_no hnd (by assumption) (by omega))), (hm236.toE (later_step (by assumption))), hB241, hk306, hk307⟩
     ·
      rw [hc128] at h127
      have hp308 : y104.ts > h := of_decide_eq_true hc128
      clear hc128
      refine co_true h127 rfl ?_
      refine wp_exit ?_
      refine co_thenX ?_
      refine co_blockX ?_
      refine co_then ?_
      refine co_reg ?_
      refine pk0 (v := .int .i64 (((j : Nat) : Int) - 1)) h127 rfl fun a309 h309 => ?_; clear h127
      refine pk (v := .int .i64 ((((j : Nat) : Int) - 1) - 1)) h309 rfl (rn_arith rfl rfl rfl rfl rfl rfl (IntWalk.i64_in _ (by omega))) fun a310 h310 => ?_; clear h309
      refine pk0 (v := .int .i64 ((((j : Nat) : Int) - 1) - 1)) h310 rfl fun a311 h311 => ?_; clear h310
      refine pl_nil ?_
      refine co_then ?_
      refine ⟨(0 + (j - 1)), by omega, ?_⟩
      have hq0 : ltE h y104 = false := ltE_f (by omega)
      exact ⟨(j - 1), Lk, h311.sub ⟨rfl, rfl, rfl, (slot_eq rfl (congrArg (Value.int .i64) (by first | exact gT_M | (rw [hgj]; exact gT_no (by omega) (by omega) (by omega) (by assumption) (by assumption) hq0) | (rw [hgj]; exact gT_yes (by omega) (by omega) (by omega) (by assumption) (by assumption) hq0 (by omega) (by omega))))), rfl, (slot_eq rfl (congrArg (Value.int .i64) (by first | rfl | omega))), trivial⟩, rfl, by omega, by first | exact thS_M _ (by omega) | exact th_no (by omega) (by omega) (by omega) (by assumption) (by assumption) hq0 | exact th_yes (by omega) (by omega) (by omega) (by assumption) (by assumption) hq0 (by simp only [e0, htk]), hf80, hf81, hf82, (hf83.toE (by first | exact fT_M | exact fT_no (by omega) (by omega) (by omega) (by assumption : Lk.map e0 = (thS L h Mn j).map e0) hy104 hq0 | exact fT_yes (by omega) (by omega) (by omega) (by assumption : Lk.map e0 = (thS L h Mn j).map e0) hy104 hq0 (by omega))), hB84, hk85, hk86⟩
    ·
     rw [hc119] at h118
     have hp312 : y104.ts = 0 := by first | simpa using hc119 | simpa [and_assoc] using hc119
     clear hc119
     refine psk h118 rfl fun a313 h313 => ?_; clear h118
     refine psk h313 rfl fun a314 h314 => ?_; clear h313
     refine psk h314 rfl fun a315 h315 => ?_; clear h314
     refine psk h315 rfl fun a316 h316 => ?_; clear h315
     refine psk h316 rfl fun a317 h317 => ?_; clear h316
     refine psk h317 rfl fun a318 h318 => ?_; clear h317
     refine pk0 (v := .bool true) h318 rfl fun a319 h319 => ?_; clear h318
     refine pl_nil ?_
     refine co_then ?_
     refine co_true h319 rfl ?_
     refine wp_exit ?_
     refine co_thenX ?_
     refine co_blockX ?_
     refine co_then ?_
     refine co_reg ?_
     refine pk0 (v := .int .i64 (((j : Nat) : Int) - 1)) h319 rfl fun a320 h320 => ?_; clear h319
     refine pk (v := .int .i64 ((((j : Nat) : Int) - 1) - 1)) h320 rfl (rn_arith rfl rfl rfl rfl rfl rfl (IntWalk.i64_in _ (by omega))) fun a321 h321 => ?_; clear h320
     refine pk0 (v := .int .i64 ((((j : Nat) : Int) - 1) - 1)) h321 rfl fun a322 h322 => ?_; clear h321
     refine pl_nil ?_
     refine co_then ?_
     refine ⟨(0 + (j - 1)), by omega, ?_⟩
     have hq0 : ltE h y104 = false := ltE_f (by omega)
     exact ⟨(j - 1), Lk, h322.sub ⟨rfl, rfl, rfl, (slot_eq rfl (congrArg (Value.int .i64) (by first | exact gT_M | (rw [hgj]; exact gT_no (by omega) (by omega) (by omega) (by assumption) (by assumption) hq0) | (rw [hgj]; exact gT_yes (by omega) (by omega) (by omega) (by assumption) (by assumption) hq0 (by omega) (by omega))))), rfl, (slot_eq rfl (congrArg (Value.int .i64) (by first | rfl | omega))), trivial⟩, rfl, by omega, by first | exact thS_M _ (by omega) | exact th_no (by omega) (by omega) (by omega) (by assumption) (by assumption) hq0 | exact th_yes (by omega) (by omega) (by omega) (by assumption) (by assumption) hq0 (by simp only [e0, htk]), hf80, hf81, hf82, (hf83.toE (by first | exact fT_M | exact fT_no (by omega) (by omega) (by omega) (by assumption : Lk.map e0 = (thS L h Mn j).map e0) hy104 hq0 | exact fT_yes (by omega) (by omega) (by omega) (by assumption : Lk.map e0 = (thS L h Mn j).map e0) hy104 hq0 (by omega))), hB84, hk85, hk86⟩
end Go.Proofs.Ytkjnhghniopnoaa

/- The document's log: Set. Conditions: at most 100 entries, 20 operations each. -/
namespace Go.Proofs.Ytkjnhghniopnoaa
open Go.RowKit Go.PlainAid
set_option linter.unusedVariables false


/-- What Set makes of the entries, as far as anybody sees. -/
def setL (L : List EntT) (i c r : Int) (l : List OpT) (ts : Int) : List EntT :=
  if setE L i c r l ts ≠ 0 then L else if (L[i.toNat]?).map nmE = some (c, r) then restF L i.toNat ts else L.take i.toNat ++ [EntT.mk c r (.slice none 0 0) l ts]
section
variable {L Lk X Mk : List EntT} {i k : Nat} {y y0 : EntT} {q : Int × Int} {c r ts : Int} {l : List OpT} {n : Int}
theorem setL_no (h : setE L n c r l ts ≠ 0) : setL L n c r l ts = L := by unfold setL; rw [if_pos h]
theorem setL_tw (h : setE L n c r l ts = 0) (h2 : (L[n.toNat]?).map nmE = some (c, r)) : setL L n c r l ts = restF L n.toNat ts := by unfold setL; rw [if_neg (by rw [h]; simp), if_pos h2]
theorem setL_nw (h : setE L n c r l ts = 0) (h2 : ¬ (L[n.toNat]?).map nmE = some (c, r)) : setL L n c r l ts = L.take n.toNat ++ [EntT.mk c r (.slice none 0 0) l ts] := by unfold setL; rw [if_neg (by rw [h]; simp), if_neg h2]
theorem setR_e0 {L' : List EntT} (h : SetR L n c r l ts L') : L'.map e0 = (setL L n c r l ts).map e0 := by
  rcases h with ⟨h1, rfl⟩ | ⟨h1, ⟨h2, rfl⟩ | ⟨h2, v, rfl⟩⟩
  · rw [setL_no h1]
  · rw [setL_tw h1 h2]
  · rw [setL_nw h1 h2]; simp [e0]
end
end Go.Proofs.Ytkjnhghniopnoaa

/- The document's log: what a later entry hides. Conditions: at most 100 entries, 20 operations each. -/
namespace Go.Proofs.Ytkjnhghniopnoaa
open Go.RowKit Go.PlainAid
set_option linter.unusedVariables false


section
variable {X Mk : List EntT} {h n : Int} {i j M : Nat} {y z : EntT} {k : ByteArray} {l : List OpT} {o : OpT} {q : Nat}
theorem thM_le (X : List EntT) (n : Int) : thM X n ≤ X.length := by unfold thM; split; simp; split <;> omega
theorem lT_at : ∀ {T : List EntT} {i : Nat} {y : EntT}, T[i]? = some y → (lT h T)[i]? = some (if ltE h y = true then { y with opl := kpL (fT h (T.drop (i + 1))) y.opl } else y)
  | [], i, y, hy => by simp at hy
  | e :: r, 0, y, hy => by simp at hy; subst hy; simp [lT]
  | e :: r, i + 1, y, hy => by simp at hy; simp only [lT, List.getElem?_cons_succ, List.drop_succ_cons]; exact lT_at hy
end


end Go.Proofs.Ytkjnhghniopnoaa

/- Logs: what is right stays right; where operations lie is not seen. Pure. Conditions: none. -/
namespace Go.Proofs.Ytkjnhghniopnoaa
open Go.RowKit Go.PlainAid
set_option linter.unusedVariables false


theorem kbl_nil (l : List UInt8) : Op.bytesLess l [] = false := by cases l <;> rfl
theorem kbl_cons (a b : UInt8) (x y : List UInt8) : Op.bytesLess (a :: x) (b :: y) = (decide (a < b) || (a == b && Op.bytesLess x y)) := rfl
theorem kbl_trans : ∀ (x y z : List UInt8), Op.bytesLess x y = true → Op.bytesLess y z = true → Op.bytesLess x z = true
  | _, [], _, h, _ => by rw [kbl_nil] at h; cases h
  | _, _ :: _, [], _, h => by rw [kbl_nil] at h; cases h
  | [], _ :: _, _ :: _, _, _ => rfl
  | a :: x, b :: y, c :: z, h, k => by
    rw [kbl_cons, Bool.or_eq_true, Bool.and_eq_true, decide_eq_true_eq, beq_iff_eq] at h k ⊢
    have ih := kbl_trans x y z
    rcases h with h | ⟨rfl, h⟩ <;> rcases k with k | ⟨rfl, k⟩
    · left; exact UInt8.lt_trans h k
    · left; exact h
    · left; exact k
    · right; exact ⟨rfl, ih h k⟩
theorem kbl_irr : ∀ l : List UInt8, Op.bytesLess l l = false
  | [] => rfl
  | a :: x => by rw [kbl_cons, kbl_irr x]; simp
def keyLt (a b : OpT) : Prop := Op.bytesLess a.1.toList b.1.toList = true
theorem chkL_iff : ∀ (l : List OpT) (p : Option ByteArray), chkL p l = 0 ↔ (∀ o ∈ l, chkOp o = 0) ∧ l.Pairwise keyLt ∧ (∀ q, p = some q → ∀ o ∈ l, Op.bytesLess q.toList o.1.toList = true)
  | [], p => by simp [chkL]
  | o :: r, p => by
    have ih := chkL_iff r (some o.1)
    simp only [chkL]
    by_cases h1 : chkOp o ≠ 0
    · rw [if_pos h1]
      exact ⟨fun h => absurd h h1, fun h => absurd (h.1 o (by simp)) h1⟩
    · rw [if_neg h1]
      have h1' : chkOp o = 0 := by omega
      by_cases h2 : keyUp p o.1 = true
      · rw [if_pos h2, ih]
        constructor
        · rintro ⟨k1, k2, k3⟩
          have k4 := k3 o.1 rfl
          refine ⟨?_, List.pairwise_cons.2 ⟨fun x hx => k4 x hx, k2⟩, ?_⟩
          · intro x hx; rw [List.mem_cons] at hx; rcases hx with rfl | hx; exact h1'; exact k1 x hx
          · rintro q rfl x hx
            have h2' : Op.bytesLess q.toList o.1.toList = true := h2
            rw [List.mem_cons] at hx; rcases hx with rfl | hx; exact h2'; exact kbl_trans _ _ _ h2' (k4 x hx)
        · rintro ⟨k1, k2, k3⟩
          rw [List.pairwise_cons] at k2
          exact ⟨fun x hx => k1 x (List.mem_cons_of_mem _ hx), k2.2, fun q hq x hx => by cases hq; exact k2.1 x hx⟩
      · rw [if_neg h2]
        refine ⟨(fun h => by cases h), fun h => ?_⟩
        cases p with
        | none => exact absurd rfl h2
        | some q => exact absurd (h.2.2 q rfl o (by simp)) h2
theorem chkB_iff (c r : Int) (l : List OpT) : chkB c r l = 0 ↔ (0 ≤ c ∧ c < 3) ∧ (1 ≤ r ∧ r ≤ 1073741824) ∧ l.length ≤ 4 ∧ (∀ o ∈ l, chkOp o = 0) ∧ l.Pairwise keyLt := by
  have hk : chkL none l = 0 ↔ (∀ o ∈ l, chkOp o = 0) ∧ l.Pairwise keyLt := by rw [chkL_iff]; simp
  unfold chkB
  by_cases h1 : c < 0 ∨ c ≥ 3
  · rw [if_pos h1]; exact ⟨(fun h => by cases h), fun h => by omega⟩
  · rw [if_neg h1]
    by_cases h2 : r < 1 ∨ r > 1073741824
    · rw [if_pos h2]; exact ⟨(fun h => by cases h), fun h => by omega⟩
    · rw [if_neg h2]
      by_cases h3 : ((l.length : Nat) : Int) > 4
      · rw [if_pos h3]; exact ⟨(fun h => by cases h), fun h => by omega⟩
      · rw [if_neg h3, hk]; exact ⟨fun h => ⟨by omega, by omega, by omega, h.1, h.2⟩, fun h => ⟨h.2.2.2.1, h.2.2.2.2⟩⟩
theorem chkB_kp {c r : Int} {l : List OpT} (f : ByteArray → Int) (h : chkB c r l = 0) : chkB c r (kpL f l) = 0 := by
  rw [chkB_iff] at h ⊢
  exact ⟨h.1, h.2.1, Nat.le_trans (kpL_le _ _) h.2.2.1, kpL_all h.2.2.2.1, h.2.2.2.2.sublist (List.filter_sublist ..)⟩
theorem chkB_nd {c r : Int} {l : List OpT} (h : chkB c r l = 0) : (l.map (·.1)).Nodup := by
  rw [chkB_iff] at h
  have h2 : l.Pairwise (fun a b => a.1 ≠ b.1) := h.2.2.2.2.imp fun {a b} hab e => by
    unfold keyLt at hab; rw [e, kbl_irr] at hab; cases hab
  exact List.pairwise_map.2 h2
/-- A log that is right. -/
structure RI (L : List EntT) : Prop where
  chk : ∀ e ∈ L, chkB e.client e.req e.opl = 0
  uq : UqN L
  up : ∀ i y p, L[i + 1]? = some y → L[i]? = some p → y.ts ≠ 0 → p.ts ≠ 0 ∧ p.ts < y.ts
theorem RI.nd {L : List EntT} (h : RI L) : ∀ e ∈ L, (e.opl.map (·.1)).Nodup := fun e he => chkB_nd (h.chk e he)
theorem RI.nil : RI [] := ⟨fun e he => by simp at he, by simp [UqN], fun i y p h => by simp at h⟩
theorem RI.e0 {A B : List EntT} (h : A.map e0 = B.map e0) (hA : RI A) : RI B := by
  have ba := h.symm
  refine ⟨fun e he => ?_, hA.uq.nm (e0_f (f := nmE) (fun _ => rfl) ba), fun i y p hy hp hn => ?_⟩
  · obtain ⟨i, hi⟩ := List.getElem?_of_mem he
    obtain ⟨z, hz, e1⟩ := e0_at ba hi
    obtain ⟨_, k2, k3, k4⟩ := e0_ts e1
    rw [← k2, ← k3, ← k4]; exact hA.chk z (List.mem_of_getElem? hz)
  · obtain ⟨y', h1, e1⟩ := e0_at ba hy
    obtain ⟨p', h2, e2⟩ := e0_at ba hp
    have := hA.up i y' p' h1 h2 (by rw [(e0_ts e1).1]; exact hn)
    rw [(e0_ts e1).1, (e0_ts e2).1] at this; exact this
theorem rgF_0 : ∀ (r pre : List EntT), rgF pre r = 0 ↔ (∀ e ∈ r, chkB e.client e.req e.opl = 0) ∧ (∀ i y, r[i]? = some y → ¬ 0 < twN (pre ++ r.take i) y.client y.req) ∧ (∀ i y, r[i]? = some y → badT (pre ++ r.take i) y = false)
  | [], pre => by simp [rgF]
  | e :: r, pre => by
    have ih := rgF_0 r (pre ++ [e])
    rw [rgF]
    by_cases h1 : chkB e.client e.req e.opl ≠ 0
    · rw [if_pos h1]; exact ⟨fun h => absurd h h1, fun h => absurd (h.1 e (by simp)) h1⟩
    · rw [if_neg h1]
      by_cases h2 : 0 < twN pre e.client e.req
      · rw [if_pos h2]; exact ⟨(fun h => by cases h), fun h => absurd h2 (by simpa using h.2.1 0 e rfl)⟩
      · rw [if_neg h2]
        by_cases h3 : badT pre e = true
        · rw [if_pos h3]; exact ⟨(fun h => by cases h), fun h => by have := h.2.2 0 e rfl; simp [h3] at this⟩
        · rw [if_neg h3, ih]
          constructor
          · rintro ⟨k1, k2, k3⟩
            refine ⟨fun x hx => ?_, fun i y hy => ?_, fun i y hy => ?_⟩
            · rw [List.mem_cons] at hx; rcases hx with rfl | hx; omega; exact k1 x hx
            · cases i with
              | zero => simp at hy; subst hy; simpa using h2
              | succ i => simp at hy; have := k2 i y hy; simpa using this
            · cases i with
              | zero => simp at hy; subst hy; simpa using h3
              | succ i => simp at hy; have := k3 i y hy; simpa using this
          · rintro ⟨k1, k2, k3⟩
            refine ⟨fun x hx => k1 x (List.mem_cons_of_mem _ hx), fun i y hy => ?_, fun i y hy => ?_⟩
            · have := k2 (i + 1) y (by simpa using hy); simpa using this
            · have := k3 (i + 1) y (by simpa using hy); simpa using this
theorem rev_ind {α : Type} {p : List α → Prop} (h0 : p []) (h1 : ∀ l y, p l → p (l ++ [y])) (l : List α) : p l := by
  rw [← List.reverse_reverse l]
  induction l.reverse with
  | nil => exact h0
  | cons y r ih => rw [List.reverse_cons]; exact h1 _ _ ih
theorem twN_none {L : List EntT} {c r : Int} : ¬ 0 < twN L c r ↔ ∀ z ∈ L, nmE z ≠ (c, r) := by
  refine rev_ind (p := fun L => ¬ 0 < twN L c r ↔ ∀ z ∈ L, nmE z ≠ (c, r)) ?_ (fun l y ih => ?_) L
  · simp [twN]
  · rw [twN_snoc]
    have h0 := twN_pos l c r
    constructor
    · intro h z hz
      rw [List.mem_append, List.mem_singleton] at hz
      rcases hz with hz | rfl
      · exact ih.1 (by split at h <;> omega) z hz
      · intro e; simp only [nmE, Prod.mk.injEq] at e; rw [if_pos e] at h; omega
    · intro h
      have h1 := ih.2 (fun z hz => h z (by simp [hz]))
      have h2 : ¬ (y.client = c ∧ y.req = r) := fun q => h y (by simp) (by simp [nmE, q.1, q.2])
      rw [if_neg h2]; omega
theorem RI.right {L : List EntT} (h : RI L) : rightI L = 0 := by
  unfold rightI
  rw [rgF_0]
  refine ⟨h.chk, fun i y hy => ?_, fun i y hy => ?_⟩
  · rw [List.nil_append, twN_none]
    intro z hz e
    obtain ⟨j, hj⟩ := List.getElem?_of_mem hz
    have hl := (List.getElem?_eq_some_iff.1 hj).1
    rw [List.length_take] at hl
    rw [List.getElem?_take, if_pos (by omega)] at hj
    have := h.uq.at hj hy e
    omega
  · rw [List.nil_append]
    cases i with
    | zero => exact badM_0 rfl
    | succ i =>
      have hl := (List.getElem?_eq_some_iff.1 hy).1
      rw [bad_at (j := i) (by omega) (by omega) (List.getElem?_eq_getElem (by omega))]
      refine decide_eq_false (fun q => ?_)
      have := h.up i y _ hy (List.getElem?_eq_getElem (by omega)) q.1
      omega
section
variable {L : List EntT} {i c r ts n h : Int} {l : List OpT}
theorem RI.take (h : RI L) (k : Nat) : RI (L.take k) := ⟨fun e he => h.chk e (List.mem_of_mem_take he), h.uq.take k, fun i y p hy hp hn => by
  have hl := (List.getElem?_eq_some_iff.1 hy).1
  rw [List.length_take] at hl
  rw [List.getElem?_take, if_pos (by omega)] at hy hp
  exact h.up i y p hy hp hn⟩
theorem setE_0 (h : setE L i c r l ts = 0) : 0 ≤ i ∧ i ≤ (L.length : Int) ∧ chkB c r l = 0 ∧ i < 100 ∧ findN (L.take i.toNat) (c, r) = none ∧ badT (L.take i.toNat) (EntT.mk c r (.slice none 0 0) l ts) = false := by
  unfold setE at h
  split at h
  · cases h
  · rename_i h1
    split at h
    · rename_i h2; exact absurd h h2
    · rename_i h2
      split at h
      · cases h
      · rename_i h3
        split at h
        · cases h
        · rename_i h4
          split at h
          · cases h
          · rename_i h5
            refine ⟨by omega, by omega, by omega, by omega, ?_, by simpa using h5⟩
            cases hf : findN (L.take i.toNat) (c, r) with
            | none => rfl
            | some a => rw [hf] at h4; exact absurd rfl h4
theorem bad_pre {k : Nat} {p : EntT} {v : Value} (hb : badT (L.take (k + 1)) (EntT.mk c r v l ts) = false) (hp : L[k]? = some p) (hn : ts ≠ 0) : p.ts ≠ 0 ∧ p.ts < ts := by
  rw [bad_at (j := k) (by omega) (by omega) hp] at hb
  have := of_decide_eq_false hb
  simp only [] at this
  omega
theorem RI.set (hR : RI L) : RI (setL L i c r l ts) := by
  by_cases h0 : setE L i c r l ts ≠ 0
  · rw [setL_no h0]; exact hR
  · have h0' : setE L i c r l ts = 0 := by omega
    obtain ⟨k1, k2, k3, k4, k5, k6⟩ := setE_0 h0'
    by_cases h1 : (L[i.toNat]?).map nmE = some (c, r)
    · rw [setL_tw h0' h1]
      obtain ⟨y0, hy0, _⟩ := Option.map_eq_some_iff.1 h1
      by_cases hts : y0.ts = ts
      · rw [restF_same hy0 hts]; exact hR
      · rw [← restF_ne (k := L.length) hy0 hts (Nat.le_refl _)]
        have hil := (List.getElem?_eq_some_iff.1 hy0).1
        have hat : ∀ j y, (rsL L i.toNat ts L.length)[j]? = some y → ∃ z, L[j]? = some z ∧ y.client = z.client ∧ y.req = z.req ∧ y.opl = z.opl ∧ y.ts = if j = i.toNat then ts else if i.toNat < j then 0 else z.ts := by
          intro j y hy
          simp only [rsL, List.getElem?_mapIdx] at hy
          obtain ⟨z, hz, rfl⟩ := Option.map_eq_some_iff.1 hy
          have hjl := (List.getElem?_eq_some_iff.1 hz).1
          refine ⟨z, hz, ?_⟩
          by_cases e1 : j = i.toNat
          · rw [if_pos e1, if_pos e1]; exact ⟨rfl, rfl, rfl, rfl⟩
          · rw [if_neg e1, if_neg e1]
            by_cases e2 : i.toNat < j
            · rw [if_pos ⟨e2, hjl⟩, if_pos e2]; exact ⟨rfl, rfl, rfl, rfl⟩
            · rw [if_neg (fun q => e2 q.1), if_neg e2]; exact ⟨rfl, rfl, rfl, rfl⟩
        refine ⟨fun e he => ?_, hR.uq.nm (rsL_nm _ _ _ _), fun j y p hy hp hn => ?_⟩
        · obtain ⟨j, hj⟩ := List.getElem?_of_mem he
          obtain ⟨z, hz, q1, q2, q3, _⟩ := hat j e hj
          rw [q1, q2, q3]; exact hR.chk z (List.mem_of_getElem? hz)
        · obtain ⟨y', hy', _, _, _, q1⟩ := hat _ y hy
          obtain ⟨p', hp', _, _, _, q2⟩ := hat _ p hp
          rw [q1] at hn ⊢; rw [q2]
          by_cases e1 : j + 1 = i.toNat
          · rw [if_pos e1] at hn ⊢
            rw [if_neg (by omega), if_neg (by omega)]
            rw [← e1] at k6
            exact bad_pre k6 hp' hn
          · rw [if_neg e1] at hn ⊢
            by_cases e2 : i.toNat < j + 1
            · rw [if_pos e2] at hn; exact absurd rfl hn
            · rw [if_neg e2] at hn ⊢
              rw [if_neg (by omega), if_neg (by omega)]
              exact hR.up j y' p' hy' hp' hn
    · rw [setL_nw h0' h1]
      have hT := hR.take i.toNat
      have hlen : (L.take i.toNat).length = i.toNat := by rw [List.length_take]; omega
      refine ⟨fun e he => ?_, hT.uq.snoc k5, fun j y p hy hp hn => ?_⟩
      · rw [List.mem_append, List.mem_singleton] at he
        rcases he with he | rfl; exact hT.chk e he; exact k3
      · have hjl := (List.getElem?_eq_some_iff.1 hy).1
        rw [List.length_append, hlen] at hjl
        simp at hjl
        by_cases e1 : j + 1 < i.toNat
        · rw [List.getElem?_append_left (by omega)] at hy hp
          exact hT.up j y p hy hp hn
        · have e2 : j + 1 = i.toNat := by omega
          rw [List.getElem?_append_right (by omega), hlen, e2, Nat.sub_self] at hy
          simp at hy; subst hy
          rw [List.getElem?_append_left (by omega), List.getElem?_take, if_pos (by omega)] at hp
          rw [← e2] at k6
          exact bad_pre k6 hp hn
theorem stN_at : ∀ {L : List EntT} {j : Nat} {y : EntT}, j < stN L → L[j]? = some y → y.ts ≠ 0
  | [], j, y, h, hy => by simp at hy
  | e :: r, j, y, h, hy => by
    unfold stN at h
    rw [List.takeWhile_cons] at h
    by_cases he : e.ts ≠ 0
    · rw [if_pos (by simpa using he)] at h
      cases j with
      | zero => simp at hy; subst hy; exact he
      | succ j => simp at hy; exact stN_at (L := r) (by unfold stN; simpa using h) hy
    · rw [if_neg (by simpa using he)] at h; simp at h
theorem stN_zero : ∀ {L : List EntT} {y : EntT}, L[stN L]? = some y → y.ts = 0
  | [], y, hy => by simp at hy
  | e :: r, y, hy => by
    unfold stN at hy
    rw [List.takeWhile_cons] at hy
    by_cases he : e.ts ≠ 0
    · rw [if_pos (by simpa using he)] at hy
      rw [List.length_cons, List.getElem?_cons_succ] at hy; exact stN_zero (L := r) (by unfold stN; exact hy)
    · rw [if_neg (by simpa using he)] at hy; simp at hy; subst hy; omega
theorem stE_0 (h : stE L i ts = 0) : 0 ≤ i ∧ i < (L.length : Int) ∧ ts ≠ 0 ∧ i = ((stN L : Nat) : Int) ∧ lastT L < ts := by
  unfold stE at h
  split at h
  · cases h
  · split at h
    · cases h
    · split at h
      · cases h
      · rename_i h1 h2 h3; refine ⟨by omega, by omega, h2, by omega, by omega⟩
theorem RI.st (hR : RI L) : RI (stL L i ts) := by
  by_cases h0 : stE L i ts ≠ 0
  · rw [stL_no h0]; exact hR
  · have h0' : stE L i ts = 0 := by omega
    obtain ⟨k1, k2, k3, k4, k5⟩ := stE_0 h0'
    have hi : i.toNat = stN L := by omega
    have hil : i.toNat < L.length := by omega
    have hy0 := List.getElem?_eq_getElem hil
    rw [stL_ok h0' hy0]
    have hat : ∀ j y, (L.set i.toNat { L[i.toNat] with ts := ts })[j]? = some y → ∃ z, L[j]? = some z ∧ y.client = z.client ∧ y.req = z.req ∧ y.opl = z.opl ∧ y.ts = if j = i.toNat then ts else z.ts := by
      intro j y hy
      rw [List.getElem?_set] at hy
      by_cases e1 : i.toNat = j
      · subst e1
        rw [if_pos rfl, if_pos hil] at hy
        simp only [Option.some.injEq] at hy
        subst hy
        exact ⟨_, hy0, rfl, rfl, rfl, by rw [if_pos rfl]⟩
      · rw [if_neg e1] at hy
        exact ⟨y, hy, rfl, rfl, rfl, by rw [if_neg (fun q => e1 q.symm)]⟩
    refine ⟨fun e he => ?_, hR.uq.nm ?_, fun j y p hy hp hn => ?_⟩
    · obtain ⟨j, hj⟩ := List.getElem?_of_mem he
      obtain ⟨z, hz, q1, q2, q3, _⟩ := hat j e hj
      rw [q1, q2, q3]; exact hR.chk z (List.mem_of_getElem? hz)
    · rw [← stL_ok h0' hy0]; exact stL_nm
    · obtain ⟨y', hy', _, _, _, q1⟩ := hat _ y hy
      obtain ⟨p', hp', _, _, _, q2⟩ := hat _ p hp
      rw [q1] at hn ⊢; rw [q2]
      by_cases e1 : j + 1 = i.toNat
      · rw [if_pos e1, if_neg (by omega)]
        refine ⟨stN_at (L := L) (by omega) hp', ?_⟩
        rw [show p'.ts = lastT L from lastT_at (j := j) (by omega) (by omega) hp']; exact k5
      · rw [if_neg e1] at hn ⊢
        by_cases e2 : j = i.toNat
        · exfalso
          have h1 := hR.up j y' p' hy' hp' hn
          rw [e2, hi] at hp'
          exact h1.1 (stN_zero hp')
        · rw [if_neg e2]; exact hR.up j y' p' hy' hp' hn
theorem lT_same {h : Int} {T : List EntT} {j : Nat} {y : EntT} (hy : (lT h T)[j]? = some y) : ∃ z, T[j]? = some z ∧ y.client = z.client ∧ y.req = z.req ∧ y.ts = z.ts ∧ ∃ f, y.opl = kpL f z.opl := by
  have hl := (List.getElem?_eq_some_iff.1 hy).1
  rw [lT_len] at hl
  have := lT_at (h := h) (List.getElem?_eq_getElem hl)
  rw [hy] at this
  simp only [Option.some.injEq] at this
  refine ⟨_, List.getElem?_eq_getElem hl, ?_⟩
  subst this
  split
  · exact ⟨rfl, rfl, rfl, _, rfl⟩
  · exact ⟨rfl, rfl, rfl, fun _ => 0, (kpL_id _).symm⟩
theorem thL_same {j : Nat} {y : EntT} (hy : (thL L h n)[j]? = some y) : ∃ z, L[j]? = some z ∧ y.client = z.client ∧ y.req = z.req ∧ y.ts = z.ts ∧ ∃ f, y.opl = kpL f z.opl := by
  unfold thL at hy
  have hM := thM_le L n
  by_cases hj : j < thM L n
  · rw [List.getElem?_append_left (by rw [lT_len, List.length_take]; omega)] at hy
    obtain ⟨z, hz, q⟩ := lT_same hy
    rw [List.getElem?_take, if_pos hj] at hz
    exact ⟨z, hz, q⟩
  · rw [List.getElem?_append_right (by rw [lT_len, List.length_take]; omega), lT_len, List.length_take, List.getElem?_drop, show thM L n + (j - min (thM L n) L.length) = j by omega] at hy
    exact ⟨y, hy, rfl, rfl, rfl, fun _ => 0, (kpL_id _).symm⟩
theorem thL_len : (thL L h n).length = L.length := by unfold thL; have := thM_le L n; rw [List.length_append, lT_len, List.length_take, List.length_drop]; omega
theorem thL_nm : (thL L h n).map nmE = L.map nmE := by
  apply List.ext_getElem?
  intro j
  rw [List.getElem?_map, List.getElem?_map]
  cases hj : (thL L h n)[j]? with
  | none =>
    rw [List.getElem?_eq_none_iff, thL_len] at hj
    rw [List.getElem?_eq_none hj]
  | some y => obtain ⟨z, hz, q1, q2, _⟩ := thL_same hj; rw [hz]; simp [nmE, q1, q2]
theorem RI.th (hR : RI L) : RI (thL L h n) := by
  refine ⟨fun e he => ?_, hR.uq.nm thL_nm, fun j y p hy hp hn => ?_⟩
  · obtain ⟨j, hj⟩ := List.getElem?_of_mem he
    obtain ⟨z, hz, q1, q2, _, f, q4⟩ := thL_same hj
    rw [q1, q2, q4]; exact chkB_kp f (hR.chk z (List.mem_of_getElem? hz))
  · obtain ⟨y', hy', _, _, q1, _⟩ := thL_same hy
    obtain ⟨p', hp', _, _, q2, _⟩ := thL_same hp
    rw [q1] at hn ⊢; rw [q2]; exact hR.up j y' p' hy' hp' hn
end


section
variable {L : List EntT} {i c r ts n h : Int} {l : List OpT}
theorem stN_e0 (L : List EntT) : stN (L.map e0) = stN L := by
  unfold stN
  rw [List.takeWhile_map, List.length_map]; rfl
variable {A B : List EntT}
end

end Go.Proofs.Ytkjnhghniopnoaa

/- catenalaw17.step: both logs go on alike. Conditions: at most 20 operations. -/
namespace Go.Proofs.Ytkjnhghniopnoaa
open Go.RowKit Go.PlainAid
set_option linter.unusedVariables false


section
variable {S S' D A : Nat → Prop} {n : Nat} {w x : World} {b d : Nat} {u v : Value} {L X : List EntT}
theorem LObj.ofS (h : LObj S w b L) : ∀ q, S q → q < w.heap.size := fun q hq => (h.1 q hq).1
theorem LObj.butA (h : LObj S w b L) (hb : But D w x) (hd : ∀ q, S q → D q → False) : LObj S x b L := h.but hd hb
theorem Grew.fin (h : But S w x) : Grew S (fun q => (S q ∨ w.heap.size ≤ q) ∧ q < x.heap.size) w x := ⟨fun q hq => hq.1, h⟩
end
theorem tThin {S : Nat → Prop} {b : Nat} {L : List EntT} (w : World) (h n : Int) (hO : LObj S w b L) (hh : 0 ≤ h ∧ h < 18446744073709551616) (hni : -9223372036854775808 ≤ n ∧ n ≤ 9223372036854775807) (hdk : ∀ e ∈ L, (e.opl.map (·.1)).Nodup) :
    Calls Try.prog 36 #[pt b 0, .int .u64 h, .int .i64 n] w fun e w' => ∃ L' S', e = .returned (.int .i64 (thG L h n)) ∧ LObj S' w' b L' ∧ L'.map e0 = (thL L h n).map e0 ∧ Grew S S' w w' := by
  obtain ⟨_, M, u, hP⟩ := hO
  exact (lThin_any w S b M u L h n w (But.refl _ _) hP hh hni hdk).mono fun e x ⟨L', h1, h2, h3, h4⟩ => ⟨L', _, h1, h2.fin, h3, .tot h4⟩


theorem opE_neR (l : List OpT) : ∀ y ∈ l, opE y ≠ [] := fun y _ e => by cases e
end Go.Proofs.Ytkjnhghniopnoaa

/- Configurations: members, places. Conditions: none. -/
namespace Go.Proofs.Ytkjnhghniopnoaa
open Go.RowKit Go.PlainAid

/-- A member: Id, Serial. -/
abbrev MemT := Int × Int
def memE (m : MemT) : List Value := [.int .i64 m.1, .int .i64 m.2]
def memV (m : MemT) : Value := .agg #[.int .i64 m.1, .int .i64 m.2]
def memOk (m : MemT) : Prop := (-9223372036854775808 ≤ m.1 ∧ m.1 ≤ 9223372036854775807) ∧ (-9223372036854775808 ≤ m.2 ∧ m.2 ≤ 9223372036854775807)
structure ConfT where
  ep : Int
  mv : Value
  ms : List MemT
  fl : Int
instance : Inhabited ConfT := ⟨⟨0, .slice none 0 0, [], 0⟩⟩
def confE (c : ConfT) : List Value := [.int .i64 c.ep, c.mv, .int .u64 c.fl]
def confV (c : ConfT) : Value := .agg #[.int .i64 c.ep, c.mv, .int .u64 c.fl]
structure ConfOk (w : World) (c : ConfT) : Prop where
  ms : SliceOf memE 2 w c.mv c.ms
  each : ∀ m ∈ c.ms, memOk m
  e0 : -9223372036854775808 ≤ c.ep
  e1 : c.ep ≤ 9223372036854775807
  f0 : 0 ≤ c.fl
  f1 : c.fl < 18446744073709551616
theorem ConfOk.below {w w' : World} {c : ConfT} (h : ConfOk w c) (hb : Below w.heap.size w w') : ConfOk w' c := ⟨h.ms.below hb, h.each, h.e0, h.e1, h.f0, h.f1⟩
/-- The place of the first member of which P holds. -/
def fndF (P : MemT → Bool) : List MemT → Nat → Int
  | [], _ => -1
  | m :: r, i => if P m then (i : Int) else fndF P r (i + 1)
theorem fndF_cons {P : MemT → Bool} {l : List MemT} {i : Nat} (h : i < l.length) : fndF P (l.drop i) i = if P l[i] then (i : Int) else fndF P (l.drop (i + 1)) (i + 1) := by
  rw [List.drop_eq_getElem_cons h]; rfl
theorem fndF_end {P : MemT → Bool} {l : List MemT} {i : Nat} (h : l.length ≤ i) : fndF P (l.drop i) i = -1 := by
  rw [List.drop_eq_nil_of_le h]; rfl
def fnd (P : MemT → Bool) (l : List MemT) : Int := fndF P l 0
set_option maxRecDepth 100000 in
set_option maxHeartbeats 1600000 in
theorem first_any (F : FuncId) (p : Value) (P : MemT → Bool) (v : Value) (l : List MemT) (w : World) (hs : SliceOf memE 2 w v l)
    (hF : ∀ (x : Value) (u : World), Sem.run Try.prog (callFunc F #[x, p]) u = .ok (.enter F #[x, p]) u)
    (hc : ∀ (m : MemT) (u : World), Below w.heap.size w u → Calls Try.prog F #[memV m, p] u fun e u' => e = .returned (.bool (P m)) ∧ Below u.heap.size u u') :
    Calls Try.prog 80 #[v, .func (.func F) #[] #[p]] w fun e w' => e = .returned (.int .i64 (fnd P l)) ∧ Below w.heap.size w w' := by
  obtain ⟨ao, cap, rfl, hcap, hcm, _, hcell⟩ := hs
  have HC := Lib.hid hcell; have HCC := Lib.hid hc; have HFF := Lib.hid hF
  clear hcell hc hF
  have hF := HFF.out
  go_enter Try.func80, Try.ntmps80
  go_wp2
  go_loopg [9] (l.length + 1) (fun g s9 wr => ∃ i : Nat, s9 = .int .i64 i ∧ i ≤ l.length ∧ l.length + 1 ≤ i + g ∧ fnd P l = fndF P (l.drop i) i ∧ Below w.heap.size w wr)
  case atStart => exact ⟨0, rfl, by omega, by omega, rfl, Below.refl _ _⟩
  case round =>
    obtain ⟨i, rfl, hi, hg, hf, hbel⟩ := hrel
    have HB := Lib.hid hbel; have hsz := hbel.size; have HFD := Lib.hid hf
    clear hbel hf
    by_cases hlt : i < l.length
    · obtain ⟨b, off, rfl, hr⟩ := HC.out i hlt
      have hr1 : wr.rangeAt b (off + i * 2) (memE l[i]) := fun j u hu => cell_below HB.out (hr j u hu)
      have HS := Lib.hid (fndF_cons (P := P) hlt)
      obtain ⟨m, hm⟩ : ∃ m, m = l[i] := ⟨_, rfl⟩
      rw [← hm] at hr1 HS
      have HR := Lib.hid hr1
      clear hr hr1 hm
      have HB1 := Lib.hid (HB.out.alloc hsz (.cells #[.int .i64 m.1, .int .i64 m.2] 117))
      by_cases hP : P m = true
      · have HS2 : Hid (fnd P l = i) := Lib.hid (by rw [HFD.out, HS.out, if_pos hP])
        go_wp2_with (refine wpList_load_mid rfl 117 (.tmp 12) rfl b (off + i * 2) rfl (memE m) _ HR.out Try.underlying117 rfl (by kernel_rfl) ?_; unfold memE)
        refine (HCC.out m _ HB1.out).mono ?_
        rintro e w2 ⟨rfl, hb⟩
        have HB2 := Lib.hid (HB1.out.trans (hb.mono HB1.out.size))
        clear hb
        rw [hP]
        go_wp2
        go_ret
        exact ⟨ret_int HS2.out.symm, HB2.out⟩
      · have hP2 : P m = false := by simpa using hP
        have HS2 : Hid (fnd P l = fndF P (l.drop (i + 1)) (i + 1)) := Lib.hid (by rw [HFD.out, HS.out, if_neg hP])
        clear hP
        go_wp2_with (refine wpList_load_mid rfl 117 (.tmp 12) rfl b (off + i * 2) rfl (memE m) _ HR.out Try.underlying117 rfl (by kernel_rfl) ?_; unfold memE)
        refine (HCC.out m _ HB1.out).mono ?_
        rintro e w2 ⟨rfl, hb⟩
        have HB2 := Lib.hid (HB1.out.trans (hb.mono HB1.out.size))
        clear hb
        rw [hP2]
        go_wp2
        go_roundg (gk - 1)
        case rel => exact ⟨i + 1, by go_num, by omega, by omega, HS2.out, HB2.out⟩
        case measure => omega
    · have HS2 : Hid (fnd P l = -1) := Lib.hid (by rw [HFD.out, fndF_end (by omega)])
      go_wp2
      go_ret
      exact ⟨ret_int HS2.out.symm, HB.out⟩

set_option maxRecDepth 100000 in
set_option maxHeartbeats 1600000 in
theorem hasId (b : Nat) (m o : MemT) (w : World) (h0 : w.cell? ⟨b, 0, none⟩ = some (.int .i64 m.1)) (h1 : w.cell? ⟨b, 1, none⟩ = some (.int .i64 m.2)) :
    Calls Try.prog 79 #[memV o, .pointer (some ⟨b, 0, none⟩)] w fun e w' => e = .returned (.bool (o.1 == m.1)) ∧ Below w.heap.size w w' := by
  have hbs : b < w.heap.size := World.block_lt_of_cell? w _ h0
  unfold memV
  go_enter Try.func79, Try.ntmps79
  go_wp2
  go_ret
  exact ⟨rfl, (Below.refl _ _).alloc (Nat.le_refl _) _⟩
end Go.Proofs.Ytkjnhghniopnoaa

/- Package conf and the document's own: places, who stands ahead and behind. Conditions: none. -/
namespace Go.Proofs.Ytkjnhghniopnoaa
open Go.RowKit Go.PlainAid

def HA (n : Nat) (c : ConfT) (m : MemT) (w' : World) : Prop := w'.cell? ⟨n, 0, none⟩ = some (.int .i64 c.ep) ∧ w'.cell? ⟨n, 1, none⟩ = some c.mv ∧ w'.cell? ⟨n, 2, none⟩ = some (.int .u64 c.fl) ∧ w'.cell? ⟨n + 1, 0, none⟩ = some (.int .i64 m.1) ∧ w'.cell? ⟨n + 1, 1, none⟩ = some (.int .i64 m.2)
theorem HA.step {n : Nat} {c : ConfT} {m : MemT} {w1 w2 : World} (h : w1.cell? ⟨n, 0, none⟩ = some (.int .i64 c.ep) ∧ w1.cell? ⟨n, 1, none⟩ = some c.mv ∧ w1.cell? ⟨n, 2, none⟩ = some (.int .u64 c.fl) ∧ w1.cell? ⟨n + 1, 0, none⟩ = some (.int .i64 m.1) ∧ w1.cell? ⟨n + 1, 1, none⟩ = some (.int .i64 m.2)) (hb : Below w1.heap.size w1 w2) : HA n c m w2 :=
  ⟨cell_below hb h.1, cell_below hb h.2.1, cell_below hb h.2.2.1, cell_below hb h.2.2.2.1, cell_below hb h.2.2.2.2⟩
end Go.Proofs.Ytkjnhghniopnoaa

/- Package conf and the document's own: what is wrong with a configuration. Conditions: none. -/
namespace Go.Proofs.Ytkjnhghniopnoaa
open Go.RowKit Go.PlainAid

def badId (m : MemT) : Prop := m.1 < 0 ∨ 4 ≤ m.1
def badSer (m : MemT) : Prop := m.2 < 1 ∨ 1073741824 < m.2
instance (m : MemT) : Decidable (badId m) := by unfold badId; infer_instance
instance (m : MemT) : Decidable (badSer m) := by unfold badSer; infer_instance
def chkM : List MemT → List MemT → Int
  | _, [] => 0
  | pre, m :: r => if badId m then 1 else if badSer m then 5 else if 0 ≤ fnd (fun o => o.1 == m.1) pre then 18 else chkM (pre ++ [m]) r
def chkC (ep : Int) (ms : List MemT) : Int := if ep < 1 ∨ 1073741824 < ep then 5 else if ms.length = 0 then 7 else if 4 < ms.length then 6 else chkM [] ms
theorem takeS {α : Type} {l : List α} {i : Nat} (h : i < l.length) : l.take (i + 1) = l.take i ++ [l[i]] := by
  rw [List.take_add_one, List.getElem?_eq_getElem h]; rfl
theorem chkM_at {ms : List MemT} {i : Nat} (h : i < ms.length) : chkM (ms.take i) (ms.drop i) = if badId ms[i] then 1 else if badSer ms[i] then 5 else if 0 ≤ fnd (fun o => o.1 == ms[i].1) (ms.take i) then 18 else chkM (ms.take (i + 1)) (ms.drop (i + 1)) := by
  rw [List.drop_eq_getElem_cons h, takeS h]; rfl
theorem chkM_end {ms : List MemT} {i : Nat} (h : ms.length ≤ i) : chkM (ms.take i) (ms.drop i) = 0 := by
  rw [List.drop_eq_nil_of_le h]; rfl
theorem SliceOf.takeN {α : Type} {enc : α → List Value} {sz : Nat} {w : World} {ao : Option Addr} {cap : Nat} {l : List α} (h : SliceOf enc sz w (.slice ao l.length cap) l) (i : Nat) (hi : i ≤ l.length) : SliceOf enc sz w (.slice ao i cap) (l.take i) := by
  obtain ⟨ao', cap', hv, h1, h2, h3, h4⟩ := h
  injection hv with e1 e2 e3
  subst e1 e3
  have hl : (l.take i).length = i := by rw [List.length_take]; omega
  refine ⟨ao, cap, by rw [hl], by omega, h2, fun e => ⟨by have := (h3 e).1; omega, (h3 e).2⟩, fun j hj => ?_⟩
  obtain ⟨b, off, e, hr⟩ := h4 j (by omega)
  refine ⟨b, off, e, ?_⟩
  rw [List.getElem_take]; exact hr
set_option maxRecDepth 100000 in
set_option maxHeartbeats 3200000 in
theorem cf_check_any (c : ConfT) (w : World) (h : ConfOk w c) :
    Calls Try.prog 56 #[confV c] w fun e w' => e = .returned (.int .i64 (chkC c.ep c.ms)) ∧ Below w.heap.size w w' := by
  have hmf : ∀ (fn : Fn) (first cap : Array Value) (w : World), (Instr.makeFunc fn first cap).run Try.prog w = .ok (.func fn first cap) w := fun _ _ _ _ => rfl
  obtain ⟨ep, mv, ms, fl⟩ := c
  have hms := h.ms
  obtain ⟨ao, cap, hmv, hcap, hcm, _, hcell⟩ := h.ms
  simp only at hmv hcap hcell hms ⊢
  subst hmv
  unfold confV
  obtain ⟨W, hW⟩ : ∃ W, W = (w.alloc (.cells #[.int .i64 ep, .slice ao ms.length cap, .int .u64 fl] 31)) := ⟨_, rfl⟩
  have hb1 : Below w.heap.size w W := by rw [hW]; exact (Below.refl _ _).alloc (Nat.le_refl _) _
  have q0 : W.cell? ⟨w.heap.size, 0, none⟩ = some (.int .i64 ep) := by rw [hW]; simp
  have q1 : W.cell? ⟨w.heap.size, 1, none⟩ = some (.slice ao ms.length cap) := by rw [hW]; simp
  have Q1 := Lib.hid q1
  have HB := Lib.hid hb1; have HW := Lib.hid hW; have HC := Lib.hid hcell; have HMS := Lib.hid hms
  clear h hb1 hW hcell hms
  by_cases he : ep < 1 ∨ 1073741824 < ep
  · have HZ : Hid (chkC ep ms = 5) := Lib.hid (by unfold chkC; rw [if_pos he])
    rcases (show ep < 1 ∨ (1 ≤ ep ∧ 1073741824 < ep) by omega) with h1 | ⟨h1, h2⟩
    all_goals
      clear he
      go_enter Try.func56, Try.ntmps56
      go_wp2_with fail
      go_ret
      exact ⟨ret_int HZ.out.symm, by have := HB.out; rw [HW.out] at this; exact this⟩
  · have h1 : 1 ≤ ep := by omega
    have h2 : ep ≤ 1073741824 := by omega
    by_cases hl0 : ms.length = 0
    · have HZ : Hid (chkC ep ms = 7) := Lib.hid (by unfold chkC; rw [if_neg he, if_pos hl0])
      have hl1 : ((ms.length : Int) == 0) = true := by simp [hl0]
      clear he hl0
      go_enter Try.func56, Try.ntmps56
      go_wp2_with fail
      go_ret
      exact ⟨ret_int HZ.out.symm, by have := HB.out; rw [HW.out] at this; exact this⟩
    · have hl1 : ((ms.length : Int) == 0) = false := beq_eq_false_iff_ne.2 (by omega)
      by_cases hl4 : 4 < ms.length
      · have HZ : Hid (chkC ep ms = 6) := Lib.hid (by unfold chkC; rw [if_neg he, if_neg hl0, if_pos hl4])
        clear he hl0
        go_enter Try.func56, Try.ntmps56
        go_wp2_with fail
        go_ret
        exact ⟨ret_int HZ.out.symm, by have := HB.out; rw [HW.out] at this; exact this⟩
      · have HZ : Hid (chkC ep ms = chkM (ms.take 0) (ms.drop 0)) := Lib.hid (by unfold chkC; rw [if_neg he, if_neg hl0, if_neg hl4]; rfl)
        clear he hl0
        go_enter Try.func56, Try.ntmps56
        go_wp2_with fail
        rw [← HW.out]
        go_loopg [25] (ms.length + 1) (fun g s25 wr => ∃ i : Nat, s25 = .int .i64 i ∧ i ≤ ms.length ∧ ms.length + 1 ≤ i + g ∧ chkC ep ms = chkM (ms.take i) (ms.drop i) ∧ Below W.heap.size W wr)
        case atStart => exact ⟨0, rfl, by omega, by omega, HZ.out, Below.refl _ _⟩
        case round =>
          clear HZ
          obtain ⟨i, rfl, hi, hg, hf, hwr⟩ := hrel
          have HF := Lib.hid hf; have HWR := Lib.hid hwr
          have hbw : Below w.heap.size w wr := HB.out.trans (hwr.mono HB.out.size)
          have HBW := Lib.hid hbw
          have q1 := cell_below hwr Q1.out
          have hsz := hbw.size
          have hszW : w.heap.size < wr.heap.size := World.block_lt_of_cell? wr _ q1
          clear hf hwr hbw
          by_cases hlt : i < ms.length
          · obtain ⟨b, off, rfl, hr⟩ := HC.out i hlt
            have hr1 : wr.rangeAt b (off + i * 2) (memE ms[i]) := fun j u hu => cell_below HBW.out (hr j u hu)
            have HS := Lib.hid (chkM_at hlt)
            obtain ⟨m, hm⟩ : ∃ m, m = ms[i] := ⟨_, rfl⟩
            rw [← hm] at hr1 HS
            have HR := Lib.hid hr1
            obtain ⟨W2, hW2⟩ : ∃ W2, W2 = wr.alloc (.cells #[.int .i64 m.1, .int .i64 m.2] 117) := ⟨_, rfl⟩
            have hb2 : Below wr.heap.size wr W2 := by rw [hW2]; exact (Below.refl _ _).alloc (Nat.le_refl _) _
            have c0 : W2.cell? ⟨wr.heap.size, 0, none⟩ = some (.int .i64 m.1) := by rw [hW2]; simp
            have c1 : W2.cell? ⟨wr.heap.size, 1, none⟩ = some (.int .i64 m.2) := by rw [hW2]; simp
            have C0 := Lib.hid c0; have C1 := Lib.hid c1
            have HB2 := Lib.hid (HBW.out.trans (hb2.mono hsz))
            have HBW2 := Lib.hid (HWR.out.trans (hb2.mono HWR.out.size))
            have HT := Lib.hid ((HMS.out.takeN i hi).below HB2.out)
            have HW2 := Lib.hid hW2
            clear hr hr1 hm hW2 hb2 c0 c1
            by_cases hbi : badId m
            · have HZ : Hid (chkC ep ms = 1) := Lib.hid (by rw [HF.out, HS.out, if_pos hbi])
              unfold badId at hbi
              rcases (show m.1 < 0 ∨ (0 ≤ m.1 ∧ 4 ≤ m.1) by omega) with k1 | ⟨k1, k2⟩
              all_goals
                clear hbi
                go_wp2_with (refine wpList_load_mid rfl 117 (.tmp 28) rfl b (off + i * 2) rfl (memE m) _ HR.out Try.underlying117 rfl (by kernel_rfl) ?_; unfold memE)
                go_ret
                exact ⟨ret_int HZ.out.symm, by have := HB2.out; rw [HW2.out] at this; exact this⟩
            · by_cases hbs : badSer m
              · have HZ : Hid (chkC ep ms = 5) := Lib.hid (by rw [HF.out, HS.out, if_neg hbi, if_pos hbs])
                unfold badId at hbi
                unfold badSer at hbs
                have k1 : 0 ≤ m.1 := by omega
                have k2 : m.1 < 4 := by omega
                rcases (show m.2 < 1 ∨ (1 ≤ m.2 ∧ 1073741824 < m.2) by omega) with k3 | ⟨k3, k4⟩
                all_goals
                  clear hbi hbs
                  go_wp2_with (refine wpList_load_mid rfl 117 (.tmp 28) rfl b (off + i * 2) rfl (memE m) _ HR.out Try.underlying117 rfl (by kernel_rfl) ?_; unfold memE)
                  go_ret
                  exact ⟨ret_int HZ.out.symm, by have := HB2.out; rw [HW2.out] at this; exact this⟩
              · obtain ⟨r, hr⟩ : ∃ r, r = fnd (fun o => o.1 == m.1) (ms.take i) := ⟨_, rfl⟩
                by_cases h0 : 0 ≤ r
                · have HZ : Hid (chkC ep ms = 18) := Lib.hid (by rw [HF.out, HS.out, if_neg hbi, if_neg hbs, if_pos (by omega)])
                  unfold badId at hbi
                  unfold badSer at hbs
                  have k1 : 0 ≤ m.1 := by omega
                  have k2 : m.1 < 4 := by omega
                  have k3 : 1 ≤ m.2 := by omega
                  have k4 : m.2 ≤ 1073741824 := by omega
                  have HRr := Lib.hid hr
                  clear hbi hbs hr
                  go_wp2_with (refine wpList_load_mid rfl 117 (.tmp 28) rfl b (off + i * 2) rfl (memE m) _ HR.out Try.underlying117 rfl (by kernel_rfl) ?_; unfold memE)
                  rw [← HW2.out]
                  refine (first_any 79 (.pointer (some ⟨wr.heap.size, 0, none⟩)) (fun o => o.1 == m.1) _ (ms.take i) _ HT.out (fun _ _ => rfl) (fun o u hb => hasId _ m o u (cell_below hb C0.out) (cell_below hb C1.out))).mono ?_
                  rintro e w3 ⟨rfl, hb⟩
                  rw [← HRr.out]
                  have HB3 := Lib.hid (HB2.out.trans (hb.mono HB2.out.size))
                  clear hb
                  go_wp2
                  go_ret
                  exact ⟨ret_int HZ.out.symm, HB3.out⟩
                · have HZ : Hid (chkC ep ms = chkM (ms.take (i + 1)) (ms.drop (i + 1))) := Lib.hid (by rw [HF.out, HS.out, if_neg hbi, if_neg hbs, if_neg (by omega)])
                  unfold badId at hbi
                  unfold badSer at hbs
                  have k1 : 0 ≤ m.1 := by omega
                  have k2 : m.1 < 4 := by omega
                  have k3 : 1 ≤ m.2 := by omega
                  have k4 : m.2 ≤ 1073741824 := by omega
                  have HRr := Lib.hid hr
                  clear hbi hbs hr
                  go_wp2_with (refine wpList_load_mid rfl 117 (.tmp 28) rfl b (off + i * 2) rfl (memE m) _ HR.out Try.underlying117 rfl (by kernel_rfl) ?_; unfold memE)
                  rw [← HW2.out]
                  refine (first_any 79 (.pointer (some ⟨wr.heap.size, 0, none⟩)) (fun o => o.1 == m.1) _ (ms.take i) _ HT.out (fun _ _ => rfl) (fun o u hb => hasId _ m o u (cell_below hb C0.out) (cell_below hb C1.out))).mono ?_
                  rintro e w3 ⟨rfl, hb⟩
                  rw [← HRr.out]
                  have HB3 := Lib.hid (HBW2.out.trans (hb.mono HBW2.out.size))
                  clear hb
                  go_wp2
                  go_roundg (gk - 1)
                  case rel => exact ⟨i + 1, by go_num, by omega, by omega, HZ.out, HB3.out⟩
                  case measure => omega
          · have HZ : Hid (chkC ep ms = 0) := Lib.hid (by rw [HF.out, chkM_end (by omega)])
            go_wp2
            go_ret
            exact ⟨ret_int HZ.out.symm, HBW.out⟩
end Go.Proofs.Ytkjnhghniopnoaa

/- Package conf and the document's own: Check, Same, as the generator wants them. Conditions: none. -/
namespace Go.Proofs.Ytkjnhghniopnoaa
open Go.RowKit Go.PlainAid
set_option linter.unusedVariables false

theorem memE_len (y : MemT) : (memE y).length = 2 := rfl
theorem memE_one (y : MemT) : ∀ u ∈ memE y, u.oneCell' = true := by intro u hu; simp [memE] at hu; rcases hu with rfl | rfl <;> rfl
theorem wcheck_any (ep : Int) (mv : Value) (ms : List MemT) (fl : Int) (w : World) (hs : SliceOf memE 2 w mv ms) (hmk : ∀ m ∈ ms, memOk m) (he : -9223372036854775808 ≤ ep ∧ ep ≤ 9223372036854775807) (hf : 0 ≤ fl ∧ fl < 18446744073709551616) :
    Calls Try.prog 56 #[.agg #[.int .i64 ep, mv, .int .u64 fl]] w fun e w' => e = .returned (.int .i64 (chkC ep ms)) ∧ Below w.heap.size w w' := cf_check_any ⟨ep, mv, ms, fl⟩ w ⟨hs, hmk, he.1, he.2, hf.1, hf.2⟩
end Go.Proofs.Ytkjnhghniopnoaa

/- A row of the call's own out of which an element is struck. Conditions: none. -/
namespace Go.Proofs.Ytkjnhghniopnoaa
open Go.RowKit Go.PlainAid Go.Shelf

theorem flatE_len {α : Type} {enc : α → List Value} {size : Nat} (l : List α) (h : ∀ y, (enc y).length = size) : (l.flatMap enc).length = l.length * size := flat_len l (fun y _ => h y)
/-- What is left when the element i is struck: the row as it lies. -/
theorem struck {α : Type} {enc : α → List Value} {sz : Nat} (hE : ∀ y, (enc y).length = sz) {l : List α} {i p n : Nat} (hn : l.length = n) (hi : i < n) (hp : p + 1 = n) {f : Nat → Value} (hf : ∀ j, j < n * sz → (l.flatMap enc)[j]? = some (f j)) (zs : List Value) :
    ∀ j, j < p * sz → ((l.take i ++ l.drop (i + 1)).flatMap enc)[j]? = some ((fun j => if p * sz ≤ j ∧ j < p * sz + zs.length then zs[j - p * sz]?.getD default else (if i * sz ≤ j ∧ j < i * sz + ((l.drop (i + 1)).flatMap enc).length then ((l.drop (i + 1)).flatMap enc)[j - i * sz]?.getD default else f j)) j) := by
  intro j hj
  have hpn : n * sz = p * sz + sz := by rw [← hp, Nat.add_mul, Nat.one_mul]
  have hld : ((l.drop (i + 1)).flatMap enc).length = (n - (i + 1)) * sz := by rw [flatE_len _ hE, List.length_drop, hn]
  have hlt : ((l.take i).flatMap enc).length = i * sz := by rw [flatE_len _ hE, List.length_take, hn, Nat.min_eq_left (by omega)]
  have hsum : i * sz + (n - (i + 1)) * sz = p * sz := by rw [← Nat.add_mul]; congr 1; omega
  dsimp only
  rw [if_neg (by omega), List.flatMap_append]
  by_cases h : i * sz ≤ j
  · rw [List.getElem?_append_right (by omega), hlt, if_pos ⟨h, by omega⟩]
    rw [List.getElem?_eq_getElem (by omega)]; rfl
  · rw [List.getElem?_append_left (by omega), if_neg (by omega)]
    have hsplit : l.flatMap enc = (l.take i).flatMap enc ++ (l.drop i).flatMap enc := by rw [← List.flatMap_append, List.take_append_drop]
    have := hf j (by omega)
    rw [hsplit, List.getElem?_append_left (by omega)] at this
    exact this
end Go.Proofs.Ytkjnhghniopnoaa

/- Package lease, pure parts; Right, Min, find. Conditions: none. -/
namespace Go.Proofs.Ytkjnhghniopnoaa
open Go.RowKit Go.PlainAid
set_option linter.unusedVariables false


abbrev PinT := Int × Int × Int
theorem take_at {α : Type} {l : List α} {i : Nat} {y : α} (h : l[i]? = some y) : l.take (i + 1) = l.take i ++ [y] := by
  rw [List.take_add_one, h]; rfl
/-- The least time of pins; 0 of none. -/
def minP : List PinT → Int
  | [] => 0
  | p :: r => r.foldl (fun m q => if q.2.1 < m then q.2.1 else m) p.2.1
theorem minP_snoc {l : List PinT} (h : l ≠ []) (y : PinT) : minP (l ++ [y]) = if y.2.1 < minP l then y.2.1 else minP l := by
  cases l with
  | nil => exact absurd rfl h
  | cons p r =>
    show List.foldl _ _ (r ++ [y]) = _
    rw [List.foldl_append]; rfl
theorem minP_at {l : List PinT} {i : Nat} {y : PinT} (h : l[i]? = some y) (h0 : 0 < i) : minP (l.take (i + 1)) = if y.2.1 < minP (l.take i) then y.2.1 else minP (l.take i) := by
  rw [take_at h, minP_snoc]
  intro e
  have h1 := congrArg List.length e
  have h2 := (List.getElem?_eq_some_iff.1 h).1
  rw [List.length_take, List.length_nil] at h1; omega
theorem minP_one {l : List PinT} {y : PinT} (h : l[0]? = some y) : minP (l.take 1) = y.2.1 := by
  rw [take_at h]; rfl
theorem minP_all {l : List PinT} {i : Nat} (h : l.length ≤ i) : minP (l.take i) = minP l := by rw [List.take_of_length_le h]
def MinInv (l : List PinT) (i : Nat) (mn : Int) : Prop := (i = 0 ∧ ∀ z, l[0]? = some z → mn = z.2.1) ∨ (0 < i ∧ mn = minP (l.take i))
theorem MinInv.step {l : List PinT} {i : Nat} {mn mn' : Int} {y : PinT} (h : MinInv l i mn) (hy : l[i]? = some y) (he : mn' = if y.2.1 < mn then y.2.1 else mn) : MinInv l (i + 1) mn' := by
  refine .inr ⟨by omega, ?_⟩
  rcases h with ⟨rfl, hz⟩ | ⟨h0, hm⟩
  · have e := hz _ hy
    rw [minP_one hy, he, e]; simp
  · rw [minP_at hy h0, ← hm, he]
theorem MinInv.end {l : List PinT} {i : Nat} {mn : Int} (h : MinInv l i mn) (h0 : 0 < l.length) (hi : l.length ≤ i) : mn = minP l := by
  rcases h with ⟨rfl, _⟩ | ⟨_, hm⟩
  · omega
  · rw [hm, minP_all hi]
end Go.Proofs.Ytkjnhghniopnoaa

/- Package note: Check of both. Conditions: none. -/
namespace Go.Proofs.Ytkjnhghniopnoaa
open Go.RowKit Go.PlainAid
set_option linter.unusedVariables false


/-- A note, without where its lists lie. -/
structure NoteD where
  k : Int
  n : Int
  t : Int
  ep : Int
  ms : List MemT
  fl : Int
  lg : List Int
  ec : Int
  er : Int
  el : List OpT
  ets : Int
  pid : Int
  pat : Int
  plf : Int
  sc : Int
  sr : Int
  se : Int
  sp : Int
def zN (k : Int) : NoteD := ⟨k, 0, 0, 0, [], 0, [], 0, 0, [], 0, 0, 0, 0, 0, 0, 0, 0⟩
/-- What is known of a note that may be. -/
structure NoteR (d : NoteD) : Prop where
  mem : ∀ m ∈ d.ms, memOk m
  rng : (-9223372036854775808 ≤ d.ep ∧ d.ep ≤ 9223372036854775807) ∧ (0 ≤ d.fl ∧ d.fl < 18446744073709551616) ∧ (0 ≤ d.t ∧ d.t < 18446744073709551616) ∧ (0 ≤ d.ets ∧ d.ets < 18446744073709551616) ∧ (0 ≤ d.pat ∧ d.pat < 18446744073709551616)
def badI (p : Option Int) (x : Int) : Bool := match p with | some q => decide (x ≤ q) | none => false
def chkLgF : Option Int → List Int → Int
  | _, [] => 0
  | p, x :: r => if x < 0 ∨ 3 < x then 1 else if badI p x = true then 18 else chkLgF (some x) r
def prevI (l : List Int) (i : Nat) : Option Int := if i = 0 then none else l[i - 1]?
def chkLg (l : List Int) : Int := if 4 < l.length then 6 else chkLgF none l
theorem prevI_succ {l : List Int} {i : Nat} {y : Int} (h : l[i]? = some y) : prevI l (i + 1) = some y := by simp [prevI, h]
theorem dropI {α : Type} {l : List α} {i : Nat} {y : α} (h : l[i]? = some y) : l.drop i = y :: l.drop (i + 1) := by
  obtain ⟨hi, rfl⟩ := List.getElem?_eq_some_iff.1 h
  exact List.drop_eq_getElem_cons hi
/-- What the closure tells of the place i. -/
def lgAt (l : List Int) (i : Nat) (x : Int) : Int := if x < 0 ∨ 3 < x then 1 else if badI (prevI l i) x = true then 18 else 0
theorem lgAt_1 {l : List Int} {i : Nat} {x : Int} (h : x < 0 ∨ x > 3) : 1 = lgAt l i x := by unfold lgAt; rw [if_pos (by omega)]
theorem lgAt_18 {l : List Int} {i j : Nat} {x q : Int} (h : ¬ (x < 0 ∨ x > 3)) (hj : j = i - 1) (h0 : 0 < i) (hq : l[j]? = some q) (hx : x ≤ q) : 18 = lgAt l i x := by
  subst hj
  have e : prevI l i = some q := by unfold prevI; rw [if_neg (by omega), hq]
  unfold lgAt badI; rw [if_neg (by omega), e]; simp [hx]
theorem lgAt_0 {l : List Int} {i j : Nat} {x q : Int} (h : ¬ (x < 0 ∨ x > 3)) (hj : j = i - 1) (h0 : 0 < i) (hq : l[j]? = some q) (hx : ¬ x ≤ q) : 0 = lgAt l i x := by
  subst hj
  have e : prevI l i = some q := by unfold prevI; rw [if_neg (by omega), hq]
  unfold lgAt badI; rw [if_neg (by omega), e]; simp [hx]
theorem lgAt_0' {l : List Int} {i : Nat} {x : Int} (h : ¬ (x < 0 ∨ x > 3)) (h0 : ¬ (0 : Int) < i) : 0 = lgAt l i x := by
  obtain rfl : i = 0 := by omega
  unfold lgAt prevI badI; rw [if_neg (by omega)]; simp
theorem lg_bad {l : List Int} {i : Nat} {y z : Int} (h : chkLgF (prevI l i) (l.drop i) = z) (hy : l[i]? = some y) (hc : lgAt l i y ≠ 0) : lgAt l i y = z := by
  rw [dropI hy] at h; unfold chkLgF at h; unfold lgAt at hc ⊢
  split
  · rename_i h1; rwa [if_pos h1] at h
  · rename_i h1
    rw [if_neg h1] at h
    split
    · rename_i h2; rwa [if_pos h2] at h
    · rename_i h2; rw [if_neg h1, if_neg h2] at hc; exact absurd rfl hc
theorem lg_step {l : List Int} {i : Nat} {y z : Int} (h : chkLgF (prevI l i) (l.drop i) = z) (hy : l[i]? = some y) (hc : lgAt l i y = 0) : chkLgF (prevI l (i + 1)) (l.drop (i + 1)) = z := by
  rw [dropI hy] at h; unfold chkLgF at h; unfold lgAt at hc
  split at hc
  · omega
  · rename_i h1
    rw [if_neg h1] at h
    split at hc
    · omega
    · rename_i h2; rw [if_neg h2] at h; rw [prevI_succ hy]; exact h
theorem lg_end {l : List Int} {i : Nat} {z : Int} (h : chkLgF (prevI l i) (l.drop i) = z) (hi : l.length ≤ i) : 0 = z := by
  rw [List.drop_eq_nil_of_le hi] at h; simpa [chkLgF] using h
theorem lgF_ok : ∀ (p : Option Int) (l : List Int), chkLgF p l = 0 → ∀ x ∈ l, 0 ≤ x ∧ x ≤ 3
  | _, [], _, _, h => by cases h
  | p, y :: r, h, x, hx => by
    unfold chkLgF at h
    split at h
    · omega
    rename_i h1
    split at h
    · omega
    rcases List.mem_cons.1 hx with rfl | hx
    · omega
    · exact lgF_ok _ r h x hx
theorem chkLg_ok {l : List Int} (h : chkLg l = 0) : l.length ≤ 4 ∧ ∀ x ∈ l, 0 ≤ x ∧ x ≤ 3 := by
  unfold chkLg at h
  split at h
  · omega
  exact ⟨by omega, lgF_ok _ _ h⟩
def may (n : Int) : Prop := 0 ≤ n ∧ n ≤ 1073741824
instance (n : Int) : Decidable (may n) := by unfold may; infer_instance
def chkSd (sc sr se sp : Int) : Int := if sc < 0 ∨ 2 < sc then 1 else if ¬ may sr ∨ ¬ may sp then 5 else if se < 0 ∨ 21 < se then 1 else 0
def chkN (d : NoteD) : Int :=
  if d.k = 1 then (if chkC d.ep d.ms ≠ 0 then chkC d.ep d.ms else chkLg d.lg)
  else if d.k = 2 then (if ¬ may d.n then 5 else chkB d.ec d.er d.el)
  else if d.k = 3 ∨ d.k = 4 ∨ d.k = 5 ∨ d.k = 7 then (if ¬ may d.n then 5 else 0)
  else if d.k = 6 then (if ¬ may d.pid ∨ ¬ may d.plf then 5 else 0)
  else if d.k = 8 then chkSd d.sc d.sr d.se d.sp else 11
theorem chkN_1 {d : NoteD} (h : d.k = 1) : chkN d = if chkC d.ep d.ms ≠ 0 then chkC d.ep d.ms else chkLg d.lg := by unfold chkN; rw [if_pos h]
theorem chkN_2 {d : NoteD} (h : d.k = 2) : chkN d = if ¬ may d.n then 5 else chkB d.ec d.er d.el := by unfold chkN; rw [if_neg (by omega), if_pos h]
theorem chkN_3 {d : NoteD} (h : d.k = 3 ∨ d.k = 4 ∨ d.k = 5 ∨ d.k = 7) : chkN d = if ¬ may d.n then 5 else 0 := by unfold chkN; rw [if_neg (by omega), if_neg (by omega), if_pos h]
theorem chkN_6 {d : NoteD} (h : d.k = 6) : chkN d = if ¬ may d.pid ∨ ¬ may d.plf then 5 else 0 := by unfold chkN; rw [if_neg (by omega), if_neg (by omega), if_neg (by omega), if_pos h]
theorem chkN_8 {d : NoteD} (h : d.k = 8) : chkN d = chkSd d.sc d.sr d.se d.sp := by unfold chkN; rw [if_neg (by omega), if_neg (by omega), if_neg (by omega), if_neg (by omega), if_pos h]
theorem chkN_0 {d : NoteD} (h : ¬ (1 ≤ d.k ∧ d.k ≤ 8)) : chkN d = 11 := by unfold chkN; rw [if_neg (by omega), if_neg (by omega), if_neg (by omega), if_neg (by omega), if_neg (by omega)]
/-- What follows of a note that may be written. -/
theorem chkN_ok {d : NoteD} (h : chkN d = 0) : (1 ≤ d.k ∧ d.k ≤ 8) ∧ (d.k = 1 → chkC d.ep d.ms = 0 ∧ chkLg d.lg = 0 ∧ d.lg.length ≤ 4) ∧ (d.k = 2 → (0 ≤ d.n ∧ d.n ≤ 1073741824) ∧ chkB d.ec d.er d.el = 0) ∧ (d.k = 3 ∨ d.k = 4 ∨ d.k = 5 ∨ d.k = 7 → 0 ≤ d.n ∧ d.n ≤ 1073741824) ∧ (d.k = 6 → (0 ≤ d.pid ∧ d.pid ≤ 1073741824) ∧ (0 ≤ d.plf ∧ d.plf ≤ 1073741824)) ∧ (d.k = 8 → (0 ≤ d.sc ∧ d.sc ≤ 2) ∧ (0 ≤ d.sr ∧ d.sr ≤ 1073741824) ∧ (0 ≤ d.se ∧ d.se ≤ 21) ∧ (0 ≤ d.sp ∧ d.sp ≤ 1073741824)) := by
  have hk : 1 ≤ d.k ∧ d.k ≤ 8 := by
    by_cases hk : 1 ≤ d.k ∧ d.k ≤ 8
    · exact hk
    · rw [chkN_0 hk] at h; omega
  refine ⟨hk, fun e => ?_, fun e => ?_, fun e => ?_, fun e => ?_, fun e => ?_⟩
  · rw [chkN_1 e] at h
    split at h
    · rename_i h1; exact absurd h h1
    · rename_i h1; exact ⟨by omega, h, (chkLg_ok h).1⟩
  · rw [chkN_2 e] at h
    split at h
    · omega
    · rename_i h1; exact ⟨Decidable.not_not.1 h1, h⟩
  · rw [chkN_3 e] at h
    split at h
    · omega
    · rename_i h1; exact Decidable.not_not.1 h1
  · rw [chkN_6 e] at h
    split at h
    · omega
    · rename_i h1
      exact ⟨Decidable.not_not.1 (fun q => h1 (.inl q)), Decidable.not_not.1 (fun q => h1 (.inr q))⟩
  · rw [chkN_8 e] at h
    unfold chkSd at h
    split at h
    · omega
    split at h
    · omega
    rename_i h1 h2
    split at h
    · omega
    exact ⟨by omega, Decidable.not_not.1 (fun q => h2 (.inl q)), by omega, Decidable.not_not.1 (fun q => h2 (.inr q))⟩

set_option maxRecDepth 100000 in
theorem nOutside_any (n : Int) (m : Int) (w : World)  :
    Calls Try.prog 58 #[.int .i64 n, .int .i64 m] w fun e w' => e = .returned (.bool (decide (n < 0 ∨ n > m))) ∧ Below w.heap.size w w' := by
 have hB0 := Below.refl w.heap.size w
 refine co_enter (n := 12) Try.func58 rfl rfl rfl [(0, .int .i64 n), (1, .int .i64 m)] rfl (fun a h0 => ?_)
 refine co_seq ?_
 refine co_reg ?_
 refine pk0 (v := .bool false) h0 rfl fun a1 h1 => ?_; clear h0
 refine pl_nil ?_
 refine co_then ?_
 refine co_seq ?_
 refine co_reg ?_
 refine pk0 (v := .int .i64 n) h1 rfl fun a2 h2 => ?_; clear h1
 refine pk0 (v := .bool (decide (n < 0))) h2 rfl fun a3 h3 => ?_; clear h2
 refine pk0 (v := .bool (decide (n < 0))) h3 rfl fun a4 h4 => ?_; clear h3
 cases hc5 : (decide (n < 0))
 ·
  rw [hc5] at h4
  have hp6 : ¬ (n < 0) := of_decide_eq_false hc5
  clear hc5
  refine pk0 (v := .int .i64 n) h4 rfl fun a7 h7 => ?_; clear h4
  refine pk0 (v := .int .i64 m) h7 rfl fun a8 h8 => ?_; clear h7
  refine pk0 (v := .bool (decide (n > m))) h8 rfl fun a9 h9 => ?_; clear h8
  refine pk0 (v := .bool (decide (n > m))) h9 rfl fun a10 h10 => ?_; clear h9
  refine pk0 (v := .bool (decide (n > m))) h10 rfl fun a11 h11 => ?_; clear h10
  refine pl_nil ?_
  refine co_then ?_
  refine wp_ret ?_
  refine co_ret1 h11 rfl rfl ?_
  exact ⟨ret_bool (by first | rfl | exact (decide_eq_true (by omega)).symm | exact (decide_eq_false (by omega)).symm | (rw [Bool.eq_iff_iff]; simp; omega)), hB0⟩
 ·
  rw [hc5] at h4
  have hp12 : n < 0 := of_decide_eq_true hc5
  clear hc5
  refine psk h4 rfl fun a13 h13 => ?_; clear h4
  refine psk h13 rfl fun a14 h14 => ?_; clear h13
  refine psk h14 rfl fun a15 h15 => ?_; clear h14
  refine pk0 (v := .bool true) h15 rfl fun a16 h16 => ?_; clear h15
  refine pk0 (v := .bool true) h16 rfl fun a17 h17 => ?_; clear h16
  refine pl_nil ?_
  refine co_then ?_
  refine wp_ret ?_
  refine co_ret1 h17 rfl rfl ?_
  exact ⟨ret_bool (by first | rfl | exact (decide_eq_true (by omega)).symm | exact (decide_eq_false (by omega)).symm | (rw [Bool.eq_iff_iff]; simp; omega)), hB0⟩
set_option maxRecDepth 100000 in
theorem nLegit1_any (i : Nat) (x : Int) (bx : Nat) (v : Value) (l : List Int) (w : World) (hs : SliceOf (intE .i64) 1 w v l) (hbx : w.rangeAt bx 0 [v]) (hi : i < l.length) :
    Calls Try.prog 82 #[.int .i64 ((i : Nat) : Int), .int .i64 x, pt bx 0] w fun e w' => e = .returned (.int .i64 (lgAt l i x)) ∧ Below w.heap.size w w' := by
 have hB0 := Below.refl w.heap.size w
 have hl_hs := sl_len hs
 refine co_enter (n := 19) Try.func82 rfl rfl rfl [(0, .int .i64 ((i : Nat) : Int)), (1, .int .i64 x), (2, pt bx 0)] rfl (fun a h0 => ?_)
 refine co_seq ?_
 refine co_reg ?_
 refine pk0 (v := .int .i64 0) h0 rfl fun a1 h1 => ?_; clear h0
 refine pl_nil ?_
 refine co_then ?_
 refine co_seq ?_
 refine co_seq ?_
 refine co_reg ?_
 refine pk0 (v := .int .i64 x) h1 rfl fun a2 h2 => ?_; clear h1
 refine pw h2 rfl (op_call (args := #[.int .i64 x, .int .i64 3]) (R := fun res xw => res = .bool (decide (x < 0 ∨ x > 3)) ∧ Below w.heap.size w xw) rfl rfl rfl (by kernel_rfl) (by kernel_rfl) (Try.call58 _ _) (nOutside_any x 3 w ) (by rintro e x ⟨rfl, hb5⟩; exact ⟨_, rfl, ⟨rfl, hb5⟩⟩)) ?_; clear h2
 rintro _ w4 a3 ⟨rfl, hb5⟩ h3
 have hz6 := hb5.size
 refine pl_nil ?_
 refine co_then ?_
 have hB8 := hb_call hB0 hb5
 cases hc7 : (decide (x < 0 ∨ x > 3))
 ·
  rw [hc7] at h3
  have hp9 : ¬ (x < 0 ∨ x > 3) := of_decide_eq_false hc7
  clear hc7
  refine co_false h3 rfl ?_
  refine wp_skip ?_
  refine co_then ?_
  refine co_seq ?_
  refine co_seq ?_
  refine co_reg ?_
  refine pk0 (v := .int .i64 ((i : Nat) : Int)) h3 rfl fun a10 h10 => ?_; clear h3
  refine pk0 (v := .bool (decide (((i : Nat) : Int) > 0))) h10 rfl fun a11 h11 => ?_; clear h10
  refine pk0 (v := .bool (decide (((i : Nat) : Int) > 0))) h11 rfl fun a12 h12 => ?_; clear h11
  cases hc13 : (decide (((i : Nat) : Int) > 0))
  ·
   rw [hc13] at h12
   have hp14 : ¬ (((i : Nat) : Int) > 0) := of_decide_eq_false hc13
   clear hc13
   refine psk h12 rfl fun a15 h15 => ?_; clear h12
   refine psk h15 rfl fun a16 h16 => ?_; clear h15
   refine psk h16 rfl fun a17 h17 => ?_; clear h16
   refine psk h17 rfl fun a18 h18 => ?_; clear h17
   refine psk h18 rfl fun a19 h19 => ?_; clear h18
   refine psk h19 rfl fun a20 h20 => ?_; clear h19
   refine psk h20 rfl fun a21 h21 => ?_; clear h20
   refine pk0 (v := .bool false) h21 rfl fun a22 h22 => ?_; clear h21
   refine pl_nil ?_
   refine co_then ?_
   refine co_false h22 rfl ?_
   refine wp_skip ?_
   refine co_then ?_
   refine co_seq ?_
   refine co_reg ?_
   refine pk0 (v := .int .i64 0) h22 rfl fun a23 h23 => ?_; clear h22
   refine pl_nil ?_
   refine co_then ?_
   refine wp_ret ?_
   refine co_ret1 h23 rfl rfl ?_
   exact ⟨ret_int (lgAt_0' (by omega) (by omega)), hB8⟩
  ·
   rw [hc13] at h12
   have hp24 : ((i : Nat) : Int) > 0 := of_decide_eq_true hc13
   clear hc13
   refine pk0 (v := .int .i64 x) h12 rfl fun a25 h25 => ?_; clear h12
   refine pk (v := v) h25 rfl (rn_load1 rfl rfl Try.isAgg35 ((range_below hbx hB8) 0 _ rfl)) fun a26 h26 => ?_; clear h25
   refine pk0 (v := .int .i64 ((i : Nat) : Int)) h26 rfl fun a27 h27 => ?_; clear h26
   refine pk (v := .int .i64 (((i : Nat) : Int) - 1)) h27 rfl (rn_arith rfl rfl rfl rfl rfl rfl (IntWalk.i64_in _ (by omega))) fun a28 h28 => ?_; clear h27
   obtain ⟨y29, hy29⟩ : ∃ z, l[(((i : Nat) : Int) - 1).toNat]? = some z := ⟨_, List.getElem?_eq_getElem (by first | omega | (simp; done) | (simp; omega))⟩
   refine pk (v := pt (blkOf v) (offOf v + ((((i : Nat) : Int) - 1).toNat) * 1)) h28 rfl (rn_index rfl rfl rfl Try.underlying35 Try.sizeOf3 (hs.below hB8) (by omega) (by first | omega | (simp; done) | (simp; omega))) fun a30 h30 => ?_; clear h28
   refine pk (v := .int .i64 y29) h30 rfl (rn_load1 rfl rfl Try.isAgg3 ((sl_at (hs.below hB8) hy29) 0 _ rfl)) fun a31 h31 => ?_; clear h30
   refine pk0 (v := .bool (decide (x ≤ y29))) h31 rfl fun a32 h32 => ?_; clear h31
   refine pk0 (v := .bool (decide (x ≤ y29))) h32 rfl fun a33 h33 => ?_; clear h32
   refine pl_nil ?_
   refine co_then ?_
   cases hc34 : (decide (x ≤ y29))
   ·
    rw [hc34] at h33
    have hp35 : ¬ (x ≤ y29) := of_decide_eq_false hc34
    clear hc34
    refine co_false h33 rfl ?_
    refine wp_skip ?_
    refine co_then ?_
    refine co_seq ?_
    refine co_reg ?_
    refine pk0 (v := .int .i64 0) h33 rfl fun a36 h36 => ?_; clear h33
    refine pl_nil ?_
    refine co_then ?_
    refine wp_ret ?_
    refine co_ret1 h36 rfl rfl ?_
    exact ⟨ret_int (lgAt_0 (j := (((i : Nat) : Int) - 1).toNat) (by omega) (by omega) (by omega) hy29 (by omega)), hB8⟩
   ·
    rw [hc34] at h33
    have hp37 : x ≤ y29 := of_decide_eq_true hc34
    clear hc34
    refine co_true h33 rfl ?_
    refine co_seq ?_
    refine co_reg ?_
    refine pk0 (v := .int .i64 18) h33 rfl fun a38 h38 => ?_; clear h33
    refine pl_nil ?_
    refine co_then ?_
    refine wp_ret ?_
    refine co_thenR ?_
    refine co_ret1 h38 rfl rfl ?_
    exact ⟨ret_int (lgAt_18 (j := (((i : Nat) : Int) - 1).toNat) (by omega) (by omega) (by omega) hy29 (by omega)), hB8⟩
 ·
  rw [hc7] at h3
  have hp39 : x < 0 ∨ x > 3 := of_decide_eq_true hc7
  clear hc7
  refine co_true h3 rfl ?_
  refine co_seq ?_
  refine co_reg ?_
  refine pk0 (v := .int .i64 1) h3 rfl fun a40 h40 => ?_; clear h3
  refine pl_nil ?_
  refine co_then ?_
  refine wp_ret ?_
  refine co_thenR ?_
  refine co_ret1 h40 rfl rfl ?_
  exact ⟨ret_int (lgAt_1 (by omega)), hB8⟩
set_option maxRecDepth 100000 in
theorem nFirst_any (v : Value) (l : List Int) (bx : Nat) (w : World) (hs : SliceOf (intE .i64) 1 w v l) (hbx : w.rangeAt bx 0 [v]) :
    Calls Try.prog 81 #[v, .func (.func 82) #[] #[pt bx 0]] w fun e w' => e = .returned (.int .i64 (chkLgF none l)) ∧ Below w.heap.size w w' := by
 have hB0 := Below.refl w.heap.size w
 have hl_hs := sl_len hs
 refine co_enter (n := 23) Try.func81 rfl rfl rfl [(0, v), (1, .func (.func 82) #[] #[pt bx 0])] rfl (fun a h0 => ?_)
 refine co_seq ?_
 refine co_reg ?_
 refine pk0 (v := .int .i64 0) h0 rfl fun a1 h1 => ?_; clear h0
 refine pl_nil ?_
 refine co_then ?_
 refine co_seq ?_
 refine co_seq ?_
 refine co_reg ?_
 refine pk0 (v := v) h1 rfl fun a2 h2 => ?_; clear h1
 refine pk (v := .int .i64 ((l.length : Nat) : Int)) h2 rfl (rn_len rfl rfl Try.underlying35 hs) fun a3 h3 => ?_; clear h2
 refine pk0 (v := .int .i64 0) h3 rfl fun a4 h4 => ?_; clear h3
 refine pl_nil ?_
 refine co_then ?_
 refine wp_block ?_
 have h5 : Slots 23 [(1, .func (.func 82) #[] #[pt bx 0]), (8, v), (9, .int .i64 ((l.length : Nat) : Int)), (10, .int .i64 0)] _ := h4.sub ⟨rfl, rfl, rfl, rfl, trivial⟩; clear h4
 refine co_loop (fun mm a x => ∃ (i : Nat), Slots 23 [(1, .func (.func 82) #[] #[pt bx 0]), (8, v), (9, .int .i64 ((l.length : Nat) : Int)), (10, .int .i64 ((i : Nat) : Int))] a ∧ mm = l.length - i ∧ (i ≤ l.length) ∧ (chkLgF (prevI l i) (l.drop i) = chkLgF none l) ∧ Below w.heap.size w x) (l.length - 0) ?_ ?_
 · exact ⟨0, h5.sub ⟨rfl, rfl, rfl, (slot_eq rfl (congrArg (Value.int .i64) (by first | rfl | omega))), trivial⟩, rfl, by omega, by first | rfl | exact lg_step hL (by assumption) (by omega), hB0⟩
 · rintro k6 a7 w8 ⟨i, h7, rfl, hi9, hi10, hB11⟩
   have hz12 := hB11.size
   have hL : chkLgF (prevI l i) (l.drop i) = chkLgF none l := by assumption
   refine co_seq ?_
   refine co_reg ?_
   refine pk0 (v := .bool (decide (((i : Nat) : Int) < ((l.length : Nat) : Int)))) h7 rfl fun a13 h13 => ?_; clear h7
   refine pl_nil ?_
   refine co_then ?_
   refine co_seq ?_
   cases hc14 : (decide (((i : Nat) : Int) < ((l.length : Nat) : Int)))
   ·
    rw [hc14] at h13
    have hp15 : ¬ (((i : Nat) : Int) < ((l.length : Nat) : Int)) := of_decide_eq_false hc14
    clear hc14
    refine co_false h13 rfl ?_
    refine wp_exit ?_
    refine co_thenX ?_
    refine co_thenX ?_
    refine co_blockX ?_
    refine co_then ?_
    refine co_seq ?_
    refine co_reg ?_
    refine pk0 (v := .int .i64 0) h13 rfl fun a16 h16 => ?_; clear h13
    refine pl_nil ?_
    refine co_then ?_
    refine wp_ret ?_
    refine co_ret1 h16 rfl rfl ?_
    exact ⟨ret_int (lg_end (i := i) hL (by omega)), hB11⟩
   ·
    rw [hc14] at h13
    have hp17 : ((i : Nat) : Int) < ((l.length : Nat) : Int) := of_decide_eq_true hc14
    clear hc14
    refine co_true h13 rfl ?_
    refine wp_skip ?_
    refine co_then ?_
    refine co_seq ?_
    refine wp_block ?_
    refine co_seq ?_
    refine co_reg ?_
    refine pk0 (v := .int .i64 ((i : Nat) : Int)) h13 rfl fun a18 h18 => ?_; clear h13
    obtain ⟨y19, hy19⟩ : ∃ z, l[i]? = some z := ⟨_, List.getElem?_eq_getElem (by first | omega | (simp; done) | (simp; omega))⟩
    refine pk (v := pt (blkOf v) (offOf v + i * 1)) h18 rfl (rn_index rfl rfl rfl Try.underlying35 Try.sizeOf3 (hs.below hB11) (by omega) (by first | omega | (simp; done) | (simp; omega))) fun a20 h20 => ?_; clear h18
    refine pk (v := .int .i64 y19) h20 rfl (rn_load1 rfl rfl Try.isAgg3 ((sl_at (hs.below hB11) hy19) 0 _ rfl)) fun a21 h21 => ?_; clear h20
    refine pk0 (v := .int .i64 ((i : Nat) : Int)) h21 rfl fun a22 h22 => ?_; clear h21
    refine pk0 (v := .int .i64 y19) h22 rfl fun a23 h23 => ?_; clear h22
    refine pl_nil ?_
    refine co_then ?_
    refine co_seq ?_
    refine co_reg ?_
    refine pk0 (v := .func (.func 82) #[] #[pt bx 0]) h23 rfl fun a24 h24 => ?_; clear h23
    refine pk0 (v := .int .i64 ((i : Nat) : Int)) h24 rfl fun a25 h25 => ?_; clear h24
    refine pk0 (v := .int .i64 y19) h25 rfl fun a26 h26 => ?_; clear h25
    refine pw h26 rfl (op_callV (args := #[.int .i64 ((i : Nat) : Int), .int .i64 y19, pt bx 0]) (R := fun res xw => res = .int .i64 (lgAt l i y19) ∧ Below w8.heap.size w8 xw) rfl rfl rfl (by kernel_rfl) (by kernel_rfl) (Try.call82 _ _) (nLegit1_any i y19 bx v l w8 (hs.below hB11) (range_below hbx hB11) (by first | omega | (simp; done) | (simp; omega))) (by rintro e x ⟨rfl, hb29⟩; exact ⟨_, rfl, ⟨rfl, hb29⟩⟩)) ?_; clear h26
    rintro _ w28 a27 ⟨rfl, hb29⟩ h27
    have hz30 := hb29.size
    refine pk0 (v := .int .i64 (lgAt l i y19)) h27 rfl fun a31 h31 => ?_; clear h27
    refine pl_nil ?_
    refine co_then ?_
    refine co_seq ?_
    refine co_reg ?_
    refine pk0 (v := .int .i64 (lgAt l i y19)) h31 rfl fun a32 h32 => ?_; clear h31
    refine pk0 (v := .bool (lgAt l i y19 != 0)) h32 rfl fun a33 h33 => ?_; clear h32
    refine pl_nil ?_
    refine co_then ?_
    have hB35 := hb_call hB11 hb29
    cases hc34 : (lgAt l i y19 != 0)
    ·
     rw [hc34] at h33
     have hp36 : ¬ (lgAt l i y19 ≠ 0) := by first | simpa using hc34 | simpa [and_assoc] using hc34
     clear hc34
     refine co_false h33 rfl ?_
     refine wp_skip ?_
     refine co_blockN ?_
     refine co_then ?_
     refine co_reg ?_
     refine pk (v := .int .i64 ((i + 1 : Nat) : Int)) h33 rfl (rn_arith' rfl rfl rfl rfl rfl rfl (IntWalk.i64_in _ (by omega)) (by omega)) fun a37 h37 => ?_; clear h33
     refine pk0 (v := .int .i64 ((i + 1 : Nat) : Int)) h37 rfl fun a38 h38 => ?_; clear h37
     refine pl_nil ?_
     refine co_then ?_
     refine ⟨(l.length - (i + 1)), by omega, ?_⟩
     exact ⟨i + 1, h38.sub ⟨rfl, rfl, rfl, rfl, trivial⟩, rfl, by omega, by first | rfl | exact lg_step hL (by assumption) (by omega), hB35⟩
    ·
     rw [hc34] at h33
     have hp39 : lgAt l i y19 ≠ 0 := by first | simpa using hc34 | simpa [and_assoc] using hc34
     clear hc34
     refine co_true h33 rfl ?_
     refine co_seq ?_
     refine co_reg ?_
     refine pk0 (v := .int .i64 (lgAt l i y19)) h33 rfl fun a40 h40 => ?_; clear h33
     refine pk0 (v := .int .i64 (lgAt l i y19)) h40 rfl fun a41 h41 => ?_; clear h40
     refine pl_nil ?_
     refine co_then ?_
     refine wp_ret ?_
     refine co_blockR ?_
     refine co_thenR ?_
     refine co_thenR ?_
     refine co_blockR ?_
     refine co_thenR ?_
     refine co_ret1 h41 rfl rfl ?_
     exact ⟨ret_int (lg_bad (i := i) hL hy19 (by omega)), hB35⟩
set_option maxRecDepth 100000 in
theorem nLegit_any (v : Value) (l : List Int) (w : World) (hs : SliceOf (intE .i64) 1 w v l) :
    Calls Try.prog 57 #[v] w fun e w' => e = .returned (.int .i64 (chkLg l)) ∧ Below w.heap.size w w' := by
 have hB0 := Below.refl w.heap.size w
 have hl_hs := sl_len hs
 refine co_enter (n := 9) Try.func57 rfl rfl rfl [(0, v)] rfl (fun a h0 => ?_)
 refine co_seq ?_
 refine co_reg ?_
 refine pw h0 rfl (op_new (v := fun N => pt N 0) (T := 35) (cs := #[v]) (by kernel_rfl) (by kernel_rfl) (box_run rfl rfl (sl_one hs))) ?_; clear h0
 rintro _ w2 a1 ⟨N3, rfl, hN6, hz7, hk5, hg4⟩ h1
 have hz8 := hg4.size
 try dsimp only at h1
 refine pk0 (v := .int .i64 0) h1 rfl fun a9 h9 => ?_; clear h1
 refine pl_nil ?_
 refine co_then ?_
 refine co_seq ?_
 refine co_seq ?_
 refine co_reg ?_
 refine pk (v := v) h9 rfl (rn_load1 rfl rfl Try.isAgg35 (hk5.cell rfl)) fun a10 h10 => ?_; clear h9
 have hB11 := hb_new hB0 hg4
 refine pk (v := .int .i64 ((l.length : Nat) : Int)) h10 rfl (rn_len rfl rfl Try.underlying35 (hs.below hB11)) fun a12 h12 => ?_; clear h10
 refine pk0 (v := .bool (decide (((l.length : Nat) : Int) > 4))) h12 rfl fun a13 h13 => ?_; clear h12
 refine pl_nil ?_
 refine co_then ?_
 cases hc14 : (decide (((l.length : Nat) : Int) > 4))
 ·
  rw [hc14] at h13
  have hp15 : ¬ (((l.length : Nat) : Int) > 4) := of_decide_eq_false hc14
  clear hc14
  refine co_false h13 rfl ?_
  refine wp_skip ?_
  refine co_then ?_
  refine co_seq ?_
  refine co_reg ?_
  refine pk (v := v) h13 rfl (rn_load1 rfl rfl Try.isAgg35 (hk5.cell rfl)) fun a16 h16 => ?_; clear h13
  refine pk0 (v := .func (.func 82) #[] #[pt N3 0]) h16 rfl fun a17 h17 => ?_; clear h16
  refine pw h17 rfl (op_call (args := #[v, .func (.func 82) #[] #[pt N3 0]]) (R := fun res xw => res = .int .i64 (chkLgF none l) ∧ Below w2.heap.size w2 xw) rfl rfl rfl (by kernel_rfl) (by kernel_rfl) (Try.call81 _ _) (nFirst_any v l N3 w2 (hs.below hB11) (blk_part hk5 0 rfl)) (by rintro e x ⟨rfl, hb20⟩; exact ⟨_, rfl, ⟨rfl, hb20⟩⟩)) ?_; clear h17
  rintro _ w19 a18 ⟨rfl, hb20⟩ h18
  have hz21 := hb20.size
  refine pk0 (v := .int .i64 (chkLgF none l)) h18 rfl fun a22 h22 => ?_; clear h18
  refine pl_nil ?_
  refine co_then ?_
  refine wp_ret ?_
  refine co_ret1 h22 rfl rfl ?_
  have hB23 := hb_call hB11 hb20
  exact ⟨ret_int (by unfold chkLg; first | rw [if_pos (by omega)] | rw [if_neg (by omega)]), hB23⟩
 ·
  rw [hc14] at h13
  have hp24 : ((l.length : Nat) : Int) > 4 := of_decide_eq_true hc14
  clear hc14
  refine co_true h13 rfl ?_
  refine co_seq ?_
  refine co_reg ?_
  refine pk0 (v := .int .i64 6) h13 rfl fun a25 h25 => ?_; clear h13
  refine pl_nil ?_
  refine co_then ?_
  refine wp_ret ?_
  refine co_thenR ?_
  refine co_ret1 h25 rfl rfl ?_
  exact ⟨ret_int (by unfold chkLg; first | rw [if_pos (by omega)] | rw [if_neg (by omega)]), hB11⟩
set_option maxRecDepth 100000 in
theorem nSaid_any (sc : Int) (sr : Int) (se : Int) (sp : Int) (w : World)  :
    Calls Try.prog 60 #[.agg #[.int .i64 sc, .int .i64 sr, .int .i64 se, .int .i64 sp]] w fun e w' => e = .returned (.int .i64 (chkSd sc sr se sp)) ∧ Below w.heap.size w w' := by
 have hB0 := Below.refl w.heap.size w
 refine co_enter (n := 17) Try.func60 rfl rfl rfl [(0, .agg #[.int .i64 sc, .int .i64 sr, .int .i64 se, .int .i64 sp])] rfl (fun a h0 => ?_)
 refine co_seq ?_
 refine co_reg ?_
 refine pw h0 rfl (op_new (v := fun N => pt N 0) (T := 44) (cs := #[.int .i64 sc, .int .i64 sr, .int .i64 se, .int .i64 sp]) (by kernel_rfl) (by kernel_rfl) (by kernel_rfl)) ?_; clear h0
 rintro _ w2 a1 ⟨N3, rfl, hN6, hz7, hk5, hg4⟩ h1
 have hz8 := hg4.size
 try dsimp only at h1
 refine pk0 (v := .int .i64 0) h1 rfl fun a9 h9 => ?_; clear h1
 refine pl_nil ?_
 refine co_then ?_
 refine co_seq ?_
 refine co_seq ?_
 refine co_reg ?_
 refine pk0 (v := pt N3 0) h9 rfl fun a10 h10 => ?_; clear h9
 refine pk (v := .int .i64 sc) h10 rfl (rn_load1 rfl rfl Try.isAgg3 (hk5.cell rfl)) fun a11 h11 => ?_; clear h10
 refine pw h11 rfl (op_call (args := #[.int .i64 sc, .int .i64 2]) (R := fun res xw => res = .bool (decide (sc < 0 ∨ sc > 2)) ∧ Below w2.heap.size w2 xw) rfl rfl rfl (by kernel_rfl) (by kernel_rfl) (Try.call58 _ _) (nOutside_any sc 2 w2 ) (by rintro e x ⟨rfl, hb14⟩; exact ⟨_, rfl, ⟨rfl, hb14⟩⟩)) ?_; clear h11
 rintro _ w13 a12 ⟨rfl, hb14⟩ h12
 have hz15 := hb14.size
 refine pl_nil ?_
 refine co_then ?_
 have hB17 := hb_new hB0 hg4
 have hB18 := hb_call hB17 hb14
 cases hc16 : (decide (sc < 0 ∨ sc > 2))
 ·
  rw [hc16] at h12
  have hp19 : ¬ (sc < 0 ∨ sc > 2) := of_decide_eq_false hc16
  clear hc16
  refine co_false h12 rfl ?_
  refine wp_skip ?_
  refine co_then ?_
  refine co_seq ?_
  refine co_seq ?_
  refine co_reg ?_
  refine pk0 (v := pt N3 1) h12 rfl fun a20 h20 => ?_; clear h12
  have hk21 := hk5.below hb14
  refine pk (v := .int .i64 sr) h20 rfl (rn_load1 rfl rfl Try.isAgg3 (hk21.cell rfl)) fun a22 h22 => ?_; clear h20
  refine pw h22 rfl (op_call (args := #[.int .i64 sr, .int .i64 1073741824]) (R := fun res xw => res = .bool (decide (sr < 0 ∨ sr > 1073741824)) ∧ Below w13.heap.size w13 xw) rfl rfl rfl (by kernel_rfl) (by kernel_rfl) (Try.call58 _ _) (nOutside_any sr 1073741824 w13 ) (by rintro e x ⟨rfl, hb25⟩; exact ⟨_, rfl, ⟨rfl, hb25⟩⟩)) ?_; clear h22
  rintro _ w24 a23 ⟨rfl, hb25⟩ h23
  have hz26 := hb25.size
  refine pk0 (v := .bool (decide (sr < 0 ∨ sr > 1073741824))) h23 rfl fun a27 h27 => ?_; clear h23
  have hB29 := hb_call hB18 hb25
  cases hc28 : (decide (sr < 0 ∨ sr > 1073741824))
  ·
   rw [hc28] at h27
   have hp30 : ¬ (sr < 0 ∨ sr > 1073741824) := of_decide_eq_false hc28
   clear hc28
   refine pk0 (v := pt N3 3) h27 rfl fun a31 h31 => ?_; clear h27
   have hk32 := hk21.below hb25
   refine pk (v := .int .i64 sp) h31 rfl (rn_load1 rfl rfl Try.isAgg3 (hk32.cell rfl)) fun a33 h33 => ?_; clear h31
   refine pw h33 rfl (op_call (args := #[.int .i64 sp, .int .i64 1073741824]) (R := fun res xw => res = .bool (decide (sp < 0 ∨ sp > 1073741824)) ∧ Below w24.heap.size w24 xw) rfl rfl rfl (by kernel_rfl) (by kernel_rfl) (Try.call58 _ _) (nOutside_any sp 1073741824 w24 ) (by rintro e x ⟨rfl, hb36⟩; exact ⟨_, rfl, ⟨rfl, hb36⟩⟩)) ?_; clear h33
   rintro _ w35 a34 ⟨rfl, hb36⟩ h34
   have hz37 := hb36.size
   refine pk0 (v := .bool (decide (sp < 0 ∨ sp > 1073741824))) h34 rfl fun a38 h38 => ?_; clear h34
   refine pl_nil ?_
   refine co_then ?_
   have hB40 := hb_call hB29 hb36
   cases hc39 : (decide (sp < 0 ∨ sp > 1073741824))
   ·
    rw [hc39] at h38
    have hp41 : ¬ (sp < 0 ∨ sp > 1073741824) := of_decide_eq_false hc39
    clear hc39
    refine co_false h38 rfl ?_
    refine wp_skip ?_
    refine co_then ?_
    refine co_seq ?_
    refine co_seq ?_
    refine co_reg ?_
    refine pk0 (v := pt N3 2) h38 rfl fun a42 h42 => ?_; clear h38
    have hk43 := hk32.below hb36
    refine pk (v := .int .i64 se) h42 rfl (rn_load1 rfl rfl Try.isAgg33 (hk43.cell rfl)) fun a44 h44 => ?_; clear h42
    refine pw h44 rfl (op_call (args := #[.int .i64 se, .int .i64 21]) (R := fun res xw => res = .bool (decide (se < 0 ∨ se > 21)) ∧ Below w35.heap.size w35 xw) rfl rfl rfl (by kernel_rfl) (by kernel_rfl) (Try.call58 _ _) (nOutside_any se 21 w35 ) (by rintro e x ⟨rfl, hb47⟩; exact ⟨_, rfl, ⟨rfl, hb47⟩⟩)) ?_; clear h44
    rintro _ w46 a45 ⟨rfl, hb47⟩ h45
    have hz48 := hb47.size
    refine pl_nil ?_
    refine co_then ?_
    have hB50 := hb_call hB40 hb47
    cases hc49 : (decide (se < 0 ∨ se > 21))
    ·
     rw [hc49] at h45
     have hp51 : ¬ (se < 0 ∨ se > 21) := of_decide_eq_false hc49
     clear hc49
     refine co_false h45 rfl ?_
     refine wp_skip ?_
     refine co_then ?_
     refine co_seq ?_
     refine co_reg ?_
     refine pk0 (v := .int .i64 0) h45 rfl fun a52 h52 => ?_; clear h45
     refine pl_nil ?_
     refine co_then ?_
     refine wp_ret ?_
     refine co_ret1 h52 rfl rfl ?_
     exact ⟨ret_int (by unfold chkSd may; first | rw [if_pos (by omega)] | rw [if_neg (by omega), if_pos (by omega)] | rw [if_neg (by omega), if_neg (by omega), if_pos (by omega)] | rw [if_neg (by omega), if_neg (by omega), if_neg (by omega)]), hB50⟩
    ·
     rw [hc49] at h45
     have hp53 : se < 0 ∨ se > 21 := of_decide_eq_true hc49
     clear hc49
     refine co_true h45 rfl ?_
     refine co_seq ?_
     refine co_reg ?_
     refine pk0 (v := .int .i64 1) h45 rfl fun a54 h54 => ?_; clear h45
     refine pl_nil ?_
     refine co_then ?_
     refine wp_ret ?_
     refine co_thenR ?_
     refine co_ret1 h54 rfl rfl ?_
     exact ⟨ret_int (by unfold chkSd may; first | rw [if_pos (by omega)] | rw [if_neg (by omega), if_pos (by omega)] | rw [if_neg (by omega), if_neg (by omega), if_pos (by omega)] | rw [if_neg (by omega), if_neg (by omega), if_neg (by omega)]), hB50⟩
   ·
    rw [hc39] at h38
    have hp55 : sp < 0 ∨ sp > 1073741824 := of_decide_eq_true hc39
    clear hc39
    refine co_true h38 rfl ?_
    refine co_seq ?_
    refine co_reg ?_
    refine pk0 (v := .int .i64 5) h38 rfl fun a56 h56 => ?_; clear h38
    refine pl_nil ?_
    refine co_then ?_
    refine wp_ret ?_
    refine co_thenR ?_
    refine co_ret1 h56 rfl rfl ?_
    exact ⟨ret_int (by unfold chkSd may; first | rw [if_pos (by omega)] | rw [if_neg (by omega), if_pos (by omega)] | rw [if_neg (by omega), if_neg (by omega), if_pos (by omega)] | rw [if_neg (by omega), if_neg (by omega), if_neg (by omega)]), hB40⟩
  ·
   rw [hc28] at h27
   have hp57 : sr < 0 ∨ sr > 1073741824 := of_decide_eq_true hc28
   clear hc28
   refine psk h27 rfl fun a58 h58 => ?_; clear h27
   refine psk h58 rfl fun a59 h59 => ?_; clear h58
   refine psk h59 rfl fun a60 h60 => ?_; clear h59
   refine pk0 (v := .bool true) h60 rfl fun a61 h61 => ?_; clear h60
   refine pl_nil ?_
   refine co_then ?_
   refine co_true h61 rfl ?_
   refine co_seq ?_
   refine co_reg ?_
   refine pk0 (v := .int .i64 5) h61 rfl fun a62 h62 => ?_; clear h61
   refine pl_nil ?_
   refine co_then ?_
   refine wp_ret ?_
   refine co_thenR ?_
   refine co_ret1 h62 rfl rfl ?_
   exact ⟨ret_int (by unfold chkSd may; first | rw [if_pos (by omega)] | rw [if_neg (by omega), if_pos (by omega)] | rw [if_neg (by omega), if_neg (by omega), if_pos (by omega)] | rw [if_neg (by omega), if_neg (by omega), if_neg (by omega)]), hB29⟩
 ·
  rw [hc16] at h12
  have hp63 : sc < 0 ∨ sc > 2 := of_decide_eq_true hc16
  clear hc16
  refine co_true h12 rfl ?_
  refine co_seq ?_
  refine co_reg ?_
  refine pk0 (v := .int .i64 1) h12 rfl fun a64 h64 => ?_; clear h12
  refine pl_nil ?_
  refine co_then ?_
  refine wp_ret ?_
  refine co_thenR ?_
  refine co_ret1 h64 rfl rfl ?_
  exact ⟨ret_int (by unfold chkSd may; first | rw [if_pos (by omega)] | rw [if_neg (by omega), if_pos (by omega)] | rw [if_neg (by omega), if_neg (by omega), if_pos (by omega)] | rw [if_neg (by omega), if_neg (by omega), if_neg (by omega)]), hB18⟩
set_option maxRecDepth 100000 in
theorem nCheck_any (d : NoteD) (mv : Value) (lv : Value) (ev : Value) (w : World) (hm : SliceOf memE 2 w mv d.ms) (hg : SliceOf (intE .i64) 1 w lv d.lg) (he : SliceOf opE 3 w ev d.el) (hR : NoteR d) :
    Calls Try.prog 33 #[.agg #[.int .i64 d.k, .int .i64 d.n, .int .u64 d.t, .int .i64 d.ep, mv, .int .u64 d.fl, lv, .int .i64 d.ec, .int .i64 d.er, ev, .int .u64 d.ets, .int .i64 d.pid, .int .u64 d.pat, .int .i64 d.plf, .int .i64 d.sc, .int .i64 d.sr, .int .i64 d.se, .int .i64 d.sp]] w fun e w' => e = .returned (.int .i64 (chkN d)) ∧ Below w.heap.size w w' := by
 have hrng := hR.rng
 have hB0 := Below.refl w.heap.size w
 have hl_hm := sl_len hm
 have hl_hg := sl_len hg
 have hl_he := sl_len he
 refine co_enter (n := 50) Try.func33 rfl rfl rfl [(0, .agg #[.int .i64 d.k, .int .i64 d.n, .int .u64 d.t, .int .i64 d.ep, mv, .int .u64 d.fl, lv, .int .i64 d.ec, .int .i64 d.er, ev, .int .u64 d.ets, .int .i64 d.pid, .int .u64 d.pat, .int .i64 d.plf, .int .i64 d.sc, .int .i64 d.sr, .int .i64 d.se, .int .i64 d.sp])] rfl (fun a h0 => ?_)
 refine co_seq ?_
 refine co_reg ?_
 refine pw h0 rfl (op_new (v := fun N => pt N 0) (T := 46) (cs := #[.int .i64 d.k, .int .i64 d.n, .int .u64 d.t, .int .i64 d.ep, mv, .int .u64 d.fl, lv, .int .i64 d.ec, .int .i64 d.er, ev, .int .u64 d.ets, .int .i64 d.pid, .int .u64 d.pat, .int .i64 d.plf, .int .i64 d.sc, .int .i64 d.sr, .int .i64 d.se, .int .i64 d.sp]) (by kernel_rfl) (by kernel_rfl) (by kernel_rfl)) ?_; clear h0
 rintro _ w2 a1 ⟨N3, rfl, hN6, hz7, hk5, hg4⟩ h1
 have hz8 := hg4.size
 try dsimp only at h1
 refine pk0 (v := .int .i64 0) h1 rfl fun a9 h9 => ?_; clear h1
 refine pl_nil ?_
 refine co_then ?_
 refine co_seq ?_
 refine co_seq ?_
 refine co_reg ?_
 refine pk0 (v := pt N3 0) h9 rfl fun a10 h10 => ?_; clear h9
 refine pk (v := .int .i64 d.k) h10 rfl (rn_load1 rfl rfl Try.isAgg3 (hk5.cell rfl)) fun a11 h11 => ?_; clear h10
 refine pl_nil ?_
 refine co_then ?_
 refine wp_block ?_
 refine co_seq ?_
 refine co_reg ?_
 refine pk0 (v := .bool (d.k == 1)) h11 rfl fun a12 h12 => ?_; clear h11
 refine pk0 (v := .bool (d.k == 1)) h12 rfl fun a13 h13 => ?_; clear h12
 refine pl_nil ?_
 refine co_then ?_
 have hB15 := hb_new hB0 hg4
 cases hc14 : (d.k == 1)
 ·
  rw [hc14] at h13
  have hp16 : ¬ (d.k = 1) := by first | simpa using hc14 | simpa [and_assoc] using hc14
  clear hc14
  refine co_false h13 rfl ?_
  refine co_seq ?_
  refine co_reg ?_
  refine pk0 (v := .bool (d.k == 2)) h13 rfl fun a17 h17 => ?_; clear h13
  refine pk0 (v := .bool (d.k == 2)) h17 rfl fun a18 h18 => ?_; clear h17
  refine pl_nil ?_
  refine co_then ?_
  cases hc19 : (d.k == 2)
  ·
   rw [hc19] at h18
   have hp20 : ¬ (d.k = 2) := by first | simpa using hc19 | simpa [and_assoc] using hc19
   clear hc19
   refine co_false h18 rfl ?_
   refine co_seq ?_
   refine co_seq ?_
   refine co_reg ?_
   refine pk0 (v := .bool (d.k == 3)) h18 rfl fun a21 h21 => ?_; clear h18
   refine pk0 (v := .bool (d.k == 3)) h21 rfl fun a22 h22 => ?_; clear h21
   refine pl_nil ?_
   refine co_then ?_
   cases hc23 : (d.k == 3)
   ·
    rw [hc23] at h22
    have hp24 : ¬ (d.k = 3) := by first | simpa using hc23 | simpa [and_assoc] using hc23
    clear hc23
    refine co_false h22 rfl ?_
    refine co_seq ?_
    refine co_reg ?_
    refine pk0 (v := .bool (d.k == 4)) h22 rfl fun a25 h25 => ?_; clear h22
    refine pk0 (v := .bool (d.k == 4)) h25 rfl fun a26 h26 => ?_; clear h25
    refine pl_nil ?_
    refine co_then ?_
    cases hc27 : (d.k == 4)
    ·
     rw [hc27] at h26
     have hp28 : ¬ (d.k = 4) := by first | simpa using hc27 | simpa [and_assoc] using hc27
     clear hc27
     refine co_false h26 rfl ?_
     refine co_seq ?_
     refine co_reg ?_
     refine pk0 (v := .bool (d.k == 5)) h26 rfl fun a29 h29 => ?_; clear h26
     refine pk0 (v := .bool (d.k == 5)) h29 rfl fun a30 h30 => ?_; clear h29
     refine pl_nil ?_
     refine co_then ?_
     cases hc31 : (d.k == 5)
     ·
      rw [hc31] at h30
      have hp32 : ¬ (d.k = 5) := by first | simpa using hc31 | simpa [and_assoc] using hc31
      clear hc31
      refine co_false h30 rfl ?_
      refine co_reg ?_
      refine pk0 (v := .bool (d.k == 7)) h30 rfl fun a33 h33 => ?_; clear h30
      refine pk0 (v := .bool (d.k == 7)) h33 rfl fun a34 h34 => ?_; clear h33
      refine pl_nil ?_
      refine co_then ?_
      cases hc35 : (d.k == 7)
      ·
       rw [hc35] at h34
       have hp36 : ¬ (d.k = 7) := by first | simpa using hc35 | simpa [and_assoc] using hc35
       clear hc35
       refine co_false h34 rfl ?_
       refine co_seq ?_
       refine co_reg ?_
       refine pk0 (v := .bool (d.k == 6)) h34 rfl fun a37 h37 => ?_; clear h34
       refine pk0 (v := .bool (d.k == 6)) h37 rfl fun a38 h38 => ?_; clear h37
       refine pl_nil ?_
       refine co_then ?_
       cases hc39 : (d.k == 6)
       ·
        rw [hc39] at h38
        have hp40 : ¬ (d.k = 6) := by first | simpa using hc39 | simpa [and_assoc] using hc39
        clear hc39
        refine co_false h38 rfl ?_
        refine co_seq ?_
        refine co_reg ?_
        refine pk0 (v := .bool (d.k == 8)) h38 rfl fun a41 h41 => ?_; clear h38
        refine pk0 (v := .bool (d.k == 8)) h41 rfl fun a42 h42 => ?_; clear h41
        refine pl_nil ?_
        refine co_then ?_
        cases hc43 : (d.k == 8)
        ·
         rw [hc43] at h42
         have hp44 : ¬ (d.k = 8) := by first | simpa using hc43 | simpa [and_assoc] using hc43
         clear hc43
         refine co_false h42 rfl ?_
         refine wp_skip ?_
         refine co_blockN ?_
         refine co_then ?_
         refine co_seq ?_
         refine co_reg ?_
         refine pk0 (v := .int .i64 11) h42 rfl fun a45 h45 => ?_; clear h42
         refine pl_nil ?_
         refine co_then ?_
         refine wp_ret ?_
         refine co_ret1 h45 rfl rfl ?_
         exact ⟨ret_int (by rw [chkN_0 (by omega)]), hB15⟩
        ·
         rw [hc43] at h42
         have hp46 : d.k = 8 := by first | simpa using hc43 | simpa [and_assoc] using hc43
         clear hc43
         refine co_true h42 rfl ?_
         refine co_seq ?_
         refine co_reg ?_
         refine pk0 (v := pt N3 14) h42 rfl fun a47 h47 => ?_; clear h42
         refine pk (v := .agg #[.int .i64 d.sc, .int .i64 d.sr, .int .i64 d.se, .int .i64 d.sp]) h47 rfl (rn_loadN rfl rfl Try.underlying44 rfl (by kernel_rfl) (blk_part hk5 14 (by rfl))) fun a48 h48 => ?_; clear h47
         refine pw h48 rfl (op_call (args := #[.agg #[.int .i64 d.sc, .int .i64 d.sr, .int .i64 d.se, .int .i64 d.sp]]) (R := fun res xw => res = .int .i64 (chkSd d.sc d.sr d.se d.sp) ∧ Below w2.heap.size w2 xw) rfl rfl rfl (by kernel_rfl) (by kernel_rfl) (Try.call60 _ _) (nSaid_any d.sc d.sr d.se d.sp w2 ) (by rintro e x ⟨rfl, hb51⟩; exact ⟨_, rfl, ⟨rfl, hb51⟩⟩)) ?_; clear h48
         rintro _ w50 a49 ⟨rfl, hb51⟩ h49
         have hz52 := hb51.size
         refine pk0 (v := .int .i64 (chkSd d.sc d.sr d.se d.sp)) h49 rfl fun a53 h53 => ?_; clear h49
         refine pl_nil ?_
         refine co_then ?_
         refine wp_ret ?_
         refine co_blockR ?_
         refine co_thenR ?_
         refine co_ret1 h53 rfl rfl ?_
         have hB54 := hb_call hB15 hb51
         exact ⟨ret_int (by rw [chkN_8 (by omega)]), hB54⟩
       ·
        rw [hc39] at h38
        have hp55 : d.k = 6 := by first | simpa using hc39 | simpa [and_assoc] using hc39
        clear hc39
        refine co_true h38 rfl ?_
        refine co_seq ?_
        refine co_seq ?_
        refine co_reg ?_
        refine pk0 (v := pt N3 11) h38 rfl fun a56 h56 => ?_; clear h38
        refine pk0 (v := pt N3 11) h56 rfl fun a57 h57 => ?_; clear h56
        refine pk (v := .int .i64 d.pid) h57 rfl (rn_load1 rfl rfl Try.isAgg3 (hk5.cell rfl)) fun a58 h58 => ?_; clear h57
        refine pw h58 rfl (op_call (args := #[.int .i64 d.pid, .int .i64 1073741824]) (R := fun res xw => res = .bool (decide (d.pid < 0 ∨ d.pid > 1073741824)) ∧ Below w2.heap.size w2 xw) rfl rfl rfl (by kernel_rfl) (by kernel_rfl) (Try.call58 _ _) (nOutside_any d.pid 1073741824 w2 ) (by rintro e x ⟨rfl, hb61⟩; exact ⟨_, rfl, ⟨rfl, hb61⟩⟩)) ?_; clear h58
        rintro _ w60 a59 ⟨rfl, hb61⟩ h59
        have hz62 := hb61.size
        refine pk0 (v := .bool (decide (d.pid < 0 ∨ d.pid > 1073741824))) h59 rfl fun a63 h63 => ?_; clear h59
        have hB65 := hb_call hB15 hb61
        cases hc64 : (decide (d.pid < 0 ∨ d.pid > 1073741824))
        ·
         rw [hc64] at h63
         have hp66 : ¬ (d.pid < 0 ∨ d.pid > 1073741824) := of_decide_eq_false hc64
         clear hc64
         refine pk0 (v := pt N3 11) h63 rfl fun a67 h67 => ?_; clear h63
         refine pk0 (v := pt N3 13) h67 rfl fun a68 h68 => ?_; clear h67
         have hk69 := hk5.below hb61
         refine pk (v := .int .i64 d.plf) h68 rfl (rn_load1 rfl rfl Try.isAgg3 (hk69.cell rfl)) fun a70 h70 => ?_; clear h68
         refine pw h70 rfl (op_call (args := #[.int .i64 d.plf, .int .i64 1073741824]) (R := fun res xw => res = .bool (decide (d.plf < 0 ∨ d.plf > 1073741824)) ∧ Below w60.heap.size w60 xw) rfl rfl rfl (by kernel_rfl) (by kernel_rfl) (Try.call58 _ _) (nOutside_any d.plf 1073741824 w60 ) (by rintro e x ⟨rfl, hb73⟩; exact ⟨_, rfl, ⟨rfl, hb73⟩⟩)) ?_; clear h70
         rintro _ w72 a71 ⟨rfl, hb73⟩ h71
         have hz74 := hb73.size
         refine pk0 (v := .bool (decide (d.plf < 0 ∨ d.plf > 1073741824))) h71 rfl fun a75 h75 => ?_; clear h71
         refine pl_nil ?_
         refine co_then ?_
         have hB77 := hb_call hB65 hb73
         cases hc76 : (decide (d.plf < 0 ∨ d.plf > 1073741824))
         ·
          rw [hc76] at h75
          have hp78 : ¬ (d.plf < 0 ∨ d.plf > 1073741824) := of_decide_eq_false hc76
          clear hc76
          refine co_false h75 rfl ?_
          refine wp_skip ?_
          refine co_then ?_
          refine co_seq ?_
          refine co_reg ?_
          refine pk0 (v := .int .i64 0) h75 rfl fun a79 h79 => ?_; clear h75
          refine pl_nil ?_
          refine co_then ?_
          refine wp_ret ?_
          refine co_blockR ?_
          refine co_thenR ?_
          refine co_ret1 h79 rfl rfl ?_
          exact ⟨ret_int (by rw [chkN_6 (by omega)]; unfold may; first | rw [if_pos (by omega)] | rw [if_neg (by omega)]), hB77⟩
         ·
          rw [hc76] at h75
          have hp80 : d.plf < 0 ∨ d.plf > 1073741824 := of_decide_eq_true hc76
          clear hc76
          refine co_true h75 rfl ?_
          refine co_seq ?_
          refine co_reg ?_
          refine pk0 (v := .int .i64 5) h75 rfl fun a81 h81 => ?_; clear h75
          refine pl_nil ?_
          refine co_then ?_
          refine wp_ret ?_
          refine co_thenR ?_
          refine co_blockR ?_
          refine co_thenR ?_
          refine co_ret1 h81 rfl rfl ?_
          exact ⟨ret_int (by rw [chkN_6 (by omega)]; unfold may; first | rw [if_pos (by omega)] | rw [if_neg (by omega)]), hB77⟩
        ·
         rw [hc64] at h63
         have hp82 : d.pid < 0 ∨ d.pid > 1073741824 := of_decide_eq_true hc64
         clear hc64
         refine psk h63 rfl fun a83 h83 => ?_; clear h63
         refine psk h83 rfl fun a84 h84 => ?_; clear h83
         refine psk h84 rfl fun a85 h85 => ?_; clear h84
         refine psk h85 rfl fun a86 h86 => ?_; clear h85
         refine pk0 (v := .bool true) h86 rfl fun a87 h87 => ?_; clear h86
         refine pl_nil ?_
         refine co_then ?_
         refine co_true h87 rfl ?_
         refine co_seq ?_
         refine co_reg ?_
         refine pk0 (v := .int .i64 5) h87 rfl fun a88 h88 => ?_; clear h87
         refine pl_nil ?_
         refine co_then ?_
         refine wp_ret ?_
         refine co_thenR ?_
         refine co_blockR ?_
         refine co_thenR ?_
         refine co_ret1 h88 rfl rfl ?_
         exact ⟨ret_int (by rw [chkN_6 (by omega)]; unfold may; first | rw [if_pos (by omega)] | rw [if_neg (by omega)]), hB65⟩
      ·
       rw [hc35] at h34
       have hp89 : d.k = 7 := by first | simpa using hc35 | simpa [and_assoc] using hc35
       clear hc35
       refine co_true h34 rfl ?_
       refine co_seq ?_
       refine co_seq ?_
       refine co_reg ?_
       refine pk0 (v := pt N3 1) h34 rfl fun a90 h90 => ?_; clear h34
       refine pk (v := .int .i64 d.n) h90 rfl (rn_load1 rfl rfl Try.isAgg3 (hk5.cell rfl)) fun a91 h91 => ?_; clear h90
       refine pw h91 rfl (op_call (args := #[.int .i64 d.n, .int .i64 1073741824]) (R := fun res xw => res = .bool (decide (d.n < 0 ∨ d.n > 1073741824)) ∧ Below w2.heap.size w2 xw) rfl rfl rfl (by kernel_rfl) (by kernel_rfl) (Try.call58 _ _) (nOutside_any d.n 1073741824 w2 ) (by rintro e x ⟨rfl, hb94⟩; exact ⟨_, rfl, ⟨rfl, hb94⟩⟩)) ?_; clear h91
       rintro _ w93 a92 ⟨rfl, hb94⟩ h92
       have hz95 := hb94.size
       refine pl_nil ?_
       refine co_then ?_
       have hB97 := hb_call hB15 hb94
       cases hc96 : (decide (d.n < 0 ∨ d.n > 1073741824))
       ·
        rw [hc96] at h92
        have hp98 : ¬ (d.n < 0 ∨ d.n > 1073741824) := of_decide_eq_false hc96
        clear hc96
        refine co_false h92 rfl ?_
        refine wp_skip ?_
        refine co_then ?_
        refine co_seq ?_
        refine co_reg ?_
        refine pk0 (v := .int .i64 0) h92 rfl fun a99 h99 => ?_; clear h92
        refine pl_nil ?_
        refine co_then ?_
        refine wp_ret ?_
        refine co_blockR ?_
        refine co_thenR ?_
        refine co_ret1 h99 rfl rfl ?_
        exact ⟨ret_int (by rw [chkN_3 (by omega)]; unfold may; first | rw [if_pos (by omega)] | rw [if_neg (by omega)]), hB97⟩
       ·
        rw [hc96] at h92
        have hp100 : d.n < 0 ∨ d.n > 1073741824 := of_decide_eq_true hc96
        clear hc96
        refine co_true h92 rfl ?_
        refine co_seq ?_
        refine co_reg ?_
        refine pk0 (v := .int .i64 5) h92 rfl fun a101 h101 => ?_; clear h92
        refine pl_nil ?_
        refine co_then ?_
        refine wp_ret ?_
        refine co_thenR ?_
        refine co_blockR ?_
        refine co_thenR ?_
        refine co_ret1 h101 rfl rfl ?_
        exact ⟨ret_int (by rw [chkN_3 (by omega)]; unfold may; first | rw [if_pos (by omega)] | rw [if_neg (by omega)]), hB97⟩
     ·
      rw [hc31] at h30
      have hp102 : d.k = 5 := by first | simpa using hc31 | simpa [and_assoc] using hc31
      clear hc31
      refine co_true h30 rfl ?_
      refine wp_skip ?_
      refine co_then ?_
      refine co_true h30 rfl ?_
      refine co_seq ?_
      refine co_seq ?_
      refine co_reg ?_
      refine pk0 (v := pt N3 1) h30 rfl fun a103 h103 => ?_; clear h30
      refine pk (v := .int .i64 d.n) h103 rfl (rn_load1 rfl rfl Try.isAgg3 (hk5.cell rfl)) fun a104 h104 => ?_; clear h103
      refine pw h104 rfl (op_call (args := #[.int .i64 d.n, .int .i64 1073741824]) (R := fun res xw => res = .bool (decide (d.n < 0 ∨ d.n > 1073741824)) ∧ Below w2.heap.size w2 xw) rfl rfl rfl (by kernel_rfl) (by kernel_rfl) (Try.call58 _ _) (nOutside_any d.n 1073741824 w2 ) (by rintro e x ⟨rfl, hb107⟩; exact ⟨_, rfl, ⟨rfl, hb107⟩⟩)) ?_; clear h104
      rintro _ w106 a105 ⟨rfl, hb107⟩ h105
      have hz108 := hb107.size
      refine pl_nil ?_
      refine co_then ?_
      have hB110 := hb_call hB15 hb107
      cases hc109 : (decide (d.n < 0 ∨ d.n > 1073741824))
      ·
       rw [hc109] at h105
       have hp111 : ¬ (d.n < 0 ∨ d.n > 1073741824) := of_decide_eq_false hc109
       clear hc109
       refine co_false h105 rfl ?_
       refine wp_skip ?_
       refine co_then ?_
       refine co_seq ?_
       refine co_reg ?_
       refine pk0 (v := .int .i64 0) h105 rfl fun a112 h112 => ?_; clear h105
       refine pl_nil ?_
       refine co_then ?_
       refine wp_ret ?_
       refine co_blockR ?_
       refine co_thenR ?_
       refine co_ret1 h112 rfl rfl ?_
       exact ⟨ret_int (by rw [chkN_3 (by omega)]; unfold may; first | rw [if_pos (by omega)] | rw [if_neg (by omega)]), hB110⟩
      ·
       rw [hc109] at h105
       have hp113 : d.n < 0 ∨ d.n > 1073741824 := of_decide_eq_true hc109
       clear hc109
       refine co_true h105 rfl ?_
       refine co_seq ?_
       refine co_reg ?_
       refine pk0 (v := .int .i64 5) h105 rfl fun a114 h114 => ?_; clear h105
       refine pl_nil ?_
       refine co_then ?_
       refine wp_ret ?_
       refine co_thenR ?_
       refine co_blockR ?_
       refine co_thenR ?_
       refine co_ret1 h114 rfl rfl ?_
       exact ⟨ret_int (by rw [chkN_3 (by omega)]; unfold may; first | rw [if_pos (by omega)] | rw [if_neg (by omega)]), hB110⟩
    ·
     rw [hc27] at h26
     have hp115 : d.k = 4 := by first | simpa using hc27 | simpa [and_assoc] using hc27
     clear hc27
     refine co_true h26 rfl ?_
     refine wp_skip ?_
     refine co_then ?_
     refine co_true h26 rfl ?_
     refine co_seq ?_
     refine co_seq ?_
     refine co_reg ?_
     refine pk0 (v := pt N3 1) h26 rfl fun a116 h116 => ?_; clear h26
     refine pk (v := .int .i64 d.n) h116 rfl (rn_load1 rfl rfl Try.isAgg3 (hk5.cell rfl)) fun a117 h117 => ?_; clear h116
     refine pw h117 rfl (op_call (args := #[.int .i64 d.n, .int .i64 1073741824]) (R := fun res xw => res = .bool (decide (d.n < 0 ∨ d.n > 1073741824)) ∧ Below w2.heap.size w2 xw) rfl rfl rfl (by kernel_rfl) (by kernel_rfl) (Try.call58 _ _) (nOutside_any d.n 1073741824 w2 ) (by rintro e x ⟨rfl, hb120⟩; exact ⟨_, rfl, ⟨rfl, hb120⟩⟩)) ?_; clear h117
     rintro _ w119 a118 ⟨rfl, hb120⟩ h118
     have hz121 := hb120.size
     refine pl_nil ?_
     refine co_then ?_
     have hB123 := hb_call hB15 hb120
     cases hc122 : (decide (d.n < 0 ∨ d.n > 1073741824))
     ·
      rw [hc122] at h118
      have hp124 : ¬ (d.n < 0 ∨ d.n > 1073741824) := of_decide_eq_false hc122
      clear hc122
      refine co_false h118 rfl ?_
      refine wp_skip ?_
      refine co_then ?_
      refine co_seq ?_
      refine co_reg ?_
      refine pk0 (v := .int .i64 0) h118 rfl fun a125 h125 => ?_; clear h118
      refine pl_nil ?_
      refine co_then ?_
      refine wp_ret ?_
      refine co_blockR ?_
      refine co_thenR ?_
      refine co_ret1 h125 rfl rfl ?_
      exact ⟨ret_int (by rw [chkN_3 (by omega)]; unfold may; first | rw [if_pos (by omega)] | rw [if_neg (by omega)]), hB123⟩
     ·
      rw [hc122] at h118
      have hp126 : d.n < 0 ∨ d.n > 1073741824 := of_decide_eq_true hc122
      clear hc122
      refine co_true h118 rfl ?_
      refine co_seq ?_
      refine co_reg ?_
      refine pk0 (v := .int .i64 5) h118 rfl fun a127 h127 => ?_; clear h118
      refine pl_nil ?_
      refine co_then ?_
      refine wp_ret ?_
      refine co_thenR ?_
      refine co_blockR ?_
      refine co_thenR ?_
      refine co_ret1 h127 rfl rfl ?_
      exact ⟨ret_int (by rw [chkN_3 (by omega)]; unfold may; first | rw [if_pos (by omega)] | rw [if_neg (by omega)]), hB123⟩
   ·
    rw [hc23] at h22
    have hp128 : d.k = 3 := by first | simpa using hc23 | simpa [and_assoc] using hc23
    clear hc23
    refine co_true h22 rfl ?_
    refine wp_skip ?_
    refine co_then ?_
    refine co_true h22 rfl ?_
    refine co_seq ?_
    refine co_seq ?_
    refine co_reg ?_
    refine pk0 (v := pt N3 1) h22 rfl fun a129 h129 => ?_; clear h22
    refine pk (v := .int .i64 d.n) h129 rfl (rn_load1 rfl rfl Try.isAgg3 (hk5.cell rfl)) fun a130 h130 => ?_; clear h129
    refine pw h130 rfl (op_call (args := #[.int .i64 d.n, .int .i64 1073741824]) (R := fun res xw => res = .bool (decide (d.n < 0 ∨ d.n > 1073741824)) ∧ Below w2.heap.size w2 xw) rfl rfl rfl (by kernel_rfl) (by kernel_rfl) (Try.call58 _ _) (nOutside_any d.n 1073741824 w2 ) (by rintro e x ⟨rfl, hb133⟩; exact ⟨_, rfl, ⟨rfl, hb133⟩⟩)) ?_; clear h130
    rintro _ w132 a131 ⟨rfl, hb133⟩ h131
    have hz134 := hb133.size
    refine pl_nil ?_
    refine co_then ?_
    have hB136 := hb_call hB15 hb133
    cases hc135 : (decide (d.n < 0 ∨ d.n > 1073741824))
    ·
     rw [hc135] at h131
     have hp137 : ¬ (d.n < 0 ∨ d.n > 1073741824) := of_decide_eq_false hc135
     clear hc135
     refine co_false h131 rfl ?_
     refine wp_skip ?_
     refine co_then ?_
     refine co_seq ?_
     refine co_reg ?_
     refine pk0 (v := .int .i64 0) h131 rfl fun a138 h138 => ?_; clear h131
     refine pl_nil ?_
     refine co_then ?_
     refine wp_ret ?_
     refine co_blockR ?_
     refine co_thenR ?_
     refine co_ret1 h138 rfl rfl ?_
     exact ⟨ret_int (by rw [chkN_3 (by omega)]; unfold may; first | rw [if_pos (by omega)] | rw [if_neg (by omega)]), hB136⟩
    ·
     rw [hc135] at h131
     have hp139 : d.n < 0 ∨ d.n > 1073741824 := of_decide_eq_true hc135
     clear hc135
     refine co_true h131 rfl ?_
     refine co_seq ?_
     refine co_reg ?_
     refine pk0 (v := .int .i64 5) h131 rfl fun a140 h140 => ?_; clear h131
     refine pl_nil ?_
     refine co_then ?_
     refine wp_ret ?_
     refine co_thenR ?_
     refine co_blockR ?_
     refine co_thenR ?_
     refine co_ret1 h140 rfl rfl ?_
     exact ⟨ret_int (by rw [chkN_3 (by omega)]; unfold may; first | rw [if_pos (by omega)] | rw [if_neg (by omega)]), hB136⟩
  ·
   rw [hc19] at h18
   have hp141 : d.k = 2 := by first | simpa using hc19 | simpa [and_assoc] using hc19
   clear hc19
   refine co_true h18 rfl ?_
   refine co_seq ?_
   refine co_seq ?_
   refine co_reg ?_
   refine pk0 (v := pt N3 1) h18 rfl fun a142 h142 => ?_; clear h18
   refine pk (v := .int .i64 d.n) h142 rfl (rn_load1 rfl rfl Try.isAgg3 (hk5.cell rfl)) fun a143 h143 => ?_; clear h142
   refine pw h143 rfl (op_call (args := #[.int .i64 d.n, .int .i64 1073741824]) (R := fun res xw => res = .bool (decide (d.n < 0 ∨ d.n > 1073741824)) ∧ Below w2.heap.size w2 xw) rfl rfl rfl (by kernel_rfl) (by kernel_rfl) (Try.call58 _ _) (nOutside_any d.n 1073741824 w2 ) (by rintro e x ⟨rfl, hb146⟩; exact ⟨_, rfl, ⟨rfl, hb146⟩⟩)) ?_; clear h143
   rintro _ w145 a144 ⟨rfl, hb146⟩ h144
   have hz147 := hb146.size
   refine pl_nil ?_
   refine co_then ?_
   have hB149 := hb_call hB15 hb146
   cases hc148 : (decide (d.n < 0 ∨ d.n > 1073741824))
   ·
    rw [hc148] at h144
    have hp150 : ¬ (d.n < 0 ∨ d.n > 1073741824) := of_decide_eq_false hc148
    clear hc148
    refine co_false h144 rfl ?_
    refine wp_skip ?_
    refine co_then ?_
    refine co_seq ?_
    refine co_reg ?_
    refine pk0 (v := pt N3 7) h144 rfl fun a151 h151 => ?_; clear h144
    have hk152 := hk5.below hb146
    refine pk (v := .agg #[.int .i64 d.ec, .int .i64 d.er, ev, .int .u64 d.ets]) h151 rfl (rn_loadN rfl rfl Try.underlying40 rfl (by kernel_rfl) (blk_part hk152 7 (by rfl))) fun a153 h153 => ?_; clear h151
    refine pw h153 rfl (op_call (args := #[.agg #[.int .i64 d.ec, .int .i64 d.er, ev, .int .u64 d.ets]]) (R := fun res xw => res = .int .i64 (chkB d.ec d.er d.el) ∧ Below w145.heap.size w145 xw) rfl rfl rfl (by kernel_rfl) (by kernel_rfl) (Try.call59 _ _) (itemCheck_any d.ec d.er ev d.el d.ets w145 (he.below hB149)) (by rintro e x ⟨rfl, hb156⟩; exact ⟨_, rfl, ⟨rfl, hb156⟩⟩)) ?_; clear h153
    rintro _ w155 a154 ⟨rfl, hb156⟩ h154
    have hz157 := hb156.size
    refine pk0 (v := .int .i64 (chkB d.ec d.er d.el)) h154 rfl fun a158 h158 => ?_; clear h154
    refine pl_nil ?_
    refine co_then ?_
    refine wp_ret ?_
    refine co_blockR ?_
    refine co_thenR ?_
    refine co_ret1 h158 rfl rfl ?_
    have hB159 := hb_call hB149 hb156
    exact ⟨ret_int (by rw [chkN_2 (by omega)]; unfold may; first | rw [if_pos (by omega)] | rw [if_neg (by omega)]), hB159⟩
   ·
    rw [hc148] at h144
    have hp160 : d.n < 0 ∨ d.n > 1073741824 := of_decide_eq_true hc148
    clear hc148
    refine co_true h144 rfl ?_
    refine co_seq ?_
    refine co_reg ?_
    refine pk0 (v := .int .i64 5) h144 rfl fun a161 h161 => ?_; clear h144
    refine pl_nil ?_
    refine co_then ?_
    refine wp_ret ?_
    refine co_thenR ?_
    refine co_blockR ?_
    refine co_thenR ?_
    refine co_ret1 h161 rfl rfl ?_
    exact ⟨ret_int (by rw [chkN_2 (by omega)]; unfold may; first | rw [if_pos (by omega)] | rw [if_neg (by omega)]), hB149⟩
 ·
  rw [hc14] at h13
  have hp162 : d.k = 1 := by first | simpa using hc14 | simpa [and_assoc] using hc14
  clear hc14
  refine co_true h13 rfl ?_
  refine co_seq ?_
  refine co_seq ?_
  refine co_reg ?_
  refine pk0 (v := pt N3 3) h13 rfl fun a163 h163 => ?_; clear h13
  refine pk (v := .agg #[.int .i64 d.ep, mv, .int .u64 d.fl]) h163 rfl (rn_loadN rfl rfl Try.underlying31 rfl (by kernel_rfl) (blk_part hk5 3 (by rfl))) fun a164 h164 => ?_; clear h163
  refine pw h164 rfl (op_call (args := #[.agg #[.int .i64 d.ep, mv, .int .u64 d.fl]]) (R := fun res xw => res = .int .i64 (chkC d.ep d.ms) ∧ Below w2.heap.size w2 xw) rfl rfl rfl (by kernel_rfl) (by kernel_rfl) (Try.call56 _ _) (wcheck_any d.ep mv d.ms d.fl w2 (hm.below hB15) hR.mem (by omega) (by omega)) (by rintro e x ⟨rfl, hb167⟩; exact ⟨_, rfl, ⟨rfl, hb167⟩⟩)) ?_; clear h164
  rintro _ w166 a165 ⟨rfl, hb167⟩ h165
  have hz168 := hb167.size
  refine pk0 (v := .int .i64 (chkC d.ep d.ms)) h165 rfl fun a169 h169 => ?_; clear h165
  refine pl_nil ?_
  refine co_then ?_
  refine co_seq ?_
  refine co_reg ?_
  refine pk0 (v := .int .i64 (chkC d.ep d.ms)) h169 rfl fun a170 h170 => ?_; clear h169
  refine pk0 (v := .bool (chkC d.ep d.ms != 0)) h170 rfl fun a171 h171 => ?_; clear h170
  refine pl_nil ?_
  refine co_then ?_
  have hB173 := hb_call hB15 hb167
  cases hc172 : (chkC d.ep d.ms != 0)
  ·
   rw [hc172] at h171
   have hp174 : ¬ (chkC d.ep d.ms ≠ 0) := by first | simpa using hc172 | simpa [and_assoc] using hc172
   clear hc172
   refine co_false h171 rfl ?_
   refine wp_skip ?_
   refine co_then ?_
   refine co_seq ?_
   refine co_reg ?_
   refine pk0 (v := pt N3 6) h171 rfl fun a175 h175 => ?_; clear h171
   have hk176 := hk5.below hb167
   refine pk (v := lv) h175 rfl (rn_load1 rfl rfl Try.isAgg35 (hk176.cell rfl)) fun a177 h177 => ?_; clear h175
   refine pw h177 rfl (op_call (args := #[lv]) (R := fun res xw => res = .int .i64 (chkLg d.lg) ∧ Below w166.heap.size w166 xw) rfl rfl rfl (by kernel_rfl) (by kernel_rfl) (Try.call57 _ _) (nLegit_any lv d.lg w166 (hg.below hB173)) (by rintro e x ⟨rfl, hb180⟩; exact ⟨_, rfl, ⟨rfl, hb180⟩⟩)) ?_; clear h177
   rintro _ w179 a178 ⟨rfl, hb180⟩ h178
   have hz181 := hb180.size
   refine pk0 (v := .int .i64 (chkLg d.lg)) h178 rfl fun a182 h182 => ?_; clear h178
   refine pl_nil ?_
   refine co_then ?_
   refine wp_ret ?_
   refine co_blockR ?_
   refine co_thenR ?_
   refine co_ret1 h182 rfl rfl ?_
   have hB183 := hb_call hB173 hb180
   exact ⟨ret_int (by rw [chkN_1 (by omega)]; first | rw [if_pos (by omega)] | rw [if_neg (by omega)]), hB183⟩
  ·
   rw [hc172] at h171
   have hp184 : chkC d.ep d.ms ≠ 0 := by first | simpa using hc172 | simpa [and_assoc] using hc172
   clear hc172
   refine co_true h171 rfl ?_
   refine co_seq ?_
   refine co_reg ?_
   refine pk0 (v := .int .i64 (chkC d.ep d.ms)) h171 rfl fun a185 h185 => ?_; clear h171
   refine pk0 (v := .int .i64 (chkC d.ep d.ms)) h185 rfl fun a186 h186 => ?_; clear h185
   refine pl_nil ?_
   refine co_then ?_
   refine wp_ret ?_
   refine co_thenR ?_
   refine co_blockR ?_
   refine co_thenR ?_
   refine co_ret1 h186 rfl rfl ?_
   exact ⟨ret_int (by rw [chkN_1 (by omega)]; first | rw [if_pos (by omega)] | rw [if_neg (by omega)]), hB173⟩
end Go.Proofs.Ytkjnhghniopnoaa

/- Package rstate: one that nobody made; fresh.Conf; Parts of one note. Conditions: none. -/
namespace Go.Proofs.Ytkjnhghniopnoaa
open Go.RowKit Go.PlainAid
set_option linter.unusedVariables false
set_option linter.unusedSimpArgs false


def mxI (a b : Int) : Int := if a < b then b else a
def mnI (a b : Int) : Int := if b < a then b else a
theorem mxI_p (a b : Int) : mxI a b ≥ a ∧ mxI a b ≥ b ∧ (mxI a b = a ∨ mxI a b = b) := by unfold mxI; split <;> omega
theorem mnI_p (a b : Int) : mnI a b ≤ a ∧ mnI a b ≤ b ∧ (mnI a b = a ∨ mnI a b = b) := by unfold mnI; split <;> omega
theorem sl_butS {α : Type} {enc : α → List Value} {sz : Nat} {w x : World} {v : Value} {l : List α} {S : Nat → Prop} (h : SliceOf enc sz w v l) (hb : But S w x) (hv : l ≠ [] → ∀ k, v.ownBlock = some k → ¬ S k) : SliceOf enc sz x v l := by
  obtain ⟨ao, cap, rfl, h1, h2, h3, h4⟩ := h
  refine ⟨ao, cap, rfl, h1, h2, h3, fun j hj => ?_⟩
  obtain ⟨b, off, rfl, hr⟩ := h4 j hj
  exact ⟨b, off, rfl, fun i u hu => hb.cell (hv (fun e => by rw [e] at hj; exact absurd hj (by simp)) b rfl) (hr i u hu)⟩
theorem co_unroll {P : Program} {c : Code} {Q : Exit → Act → World → Prop} {n : Nat} {a : Act} {w : World} (h : c.wp P (Exit.then (Code.rounds P c Q n) Q) a w) : Code.rounds P c Q (n + 1) a w := h

set_option maxRecDepth 100000 in
theorem rsgetT (b : Nat) (q : Nat) (w : World) (hb : Blk w b 68 #[pt q 0]) :
    Calls Try.prog 30 #[pt b 0] w fun e w' => e = .returned (pt q 0) ∧ w = w' := by
 have hB0 := Below.refl w.heap.size w
 have hl_hb := hb.lt
 refine co_enter (n := 18) Try.func30 rfl rfl rfl [(0, pt b 0)] rfl (fun a h0 => ?_)
 refine co_seq ?_
 refine co_reg ?_
 refine pk0 (v := .pointer none) h0 rfl fun a1 h1 => ?_; clear h0
 refine pl_nil ?_
 refine co_then ?_
 refine co_seq ?_
 refine co_seq ?_
 refine co_reg ?_
 refine pk0 (v := pt b 0) h1 rfl fun a2 h2 => ?_; clear h1
 refine pk0 (v := .bool false) h2 rfl fun a3 h3 => ?_; clear h2
 refine pk0 (v := .bool false) h3 rfl fun a4 h4 => ?_; clear h3
 refine pk0 (v := pt b 0) h4 rfl fun a5 h5 => ?_; clear h4
 refine pk0 (v := pt b 0) h5 rfl fun a6 h6 => ?_; clear h5
 refine pk0 (v := pt b 0) h6 rfl fun a7 h7 => ?_; clear h6
 refine pk (v := pt q 0) h7 rfl (rn_load1 rfl rfl Try.isAgg66 (hb.cell rfl)) fun a8 h8 => ?_; clear h7
 refine pk0 (v := .bool false) h8 rfl fun a9 h9 => ?_; clear h8
 refine pk0 (v := .bool false) h9 rfl fun a10 h10 => ?_; clear h9
 refine pl_nil ?_
 refine co_then ?_
 refine co_false h10 rfl ?_
 refine wp_skip ?_
 refine co_then ?_
 refine co_seq ?_
 refine co_reg ?_
 refine pk0 (v := pt b 0) h10 rfl fun a11 h11 => ?_; clear h10
 refine pk0 (v := pt b 0) h11 rfl fun a12 h12 => ?_; clear h11
 refine pk0 (v := pt b 0) h12 rfl fun a13 h13 => ?_; clear h12
 refine pk (v := pt q 0) h13 rfl (rn_load1 rfl rfl Try.isAgg66 (hb.cell rfl)) fun a14 h14 => ?_; clear h13
 refine pk0 (v := pt q 0) h14 rfl fun a15 h15 => ?_; clear h14
 refine pl_nil ?_
 refine co_then ?_
 refine wp_ret ?_
 refine co_ret1 h15 rfl rfl ?_
 exact ⟨rfl, rfl⟩
set_option maxRecDepth 100000 in
theorem rszeroT (q : Nat) (g : Nat) (ep : Int) (cv : Value) (fl : Int) (hz : Int) (w : World) (hq : Blk w q 80 #[pt g 0, .int .i64 ep, cv, .int .u64 fl, .int .u64 hz]) :
    Calls Try.prog 32 #[pt q 0] w fun e w' => e = .returned (.bool false) ∧ w = w' := by
 have hB0 := Below.refl w.heap.size w
 have hl_hq := hq.lt
 refine co_enter (n := 8) Try.func32 rfl rfl rfl [(0, pt q 0)] rfl (fun a h0 => ?_)
 refine co_seq ?_
 refine co_reg ?_
 refine pk0 (v := .bool false) h0 rfl fun a1 h1 => ?_; clear h0
 refine pl_nil ?_
 refine co_then ?_
 refine co_seq ?_
 refine co_reg ?_
 refine pk0 (v := pt q 0) h1 rfl fun a2 h2 => ?_; clear h1
 refine pk0 (v := pt q 0) h2 rfl fun a3 h3 => ?_; clear h2
 refine pk0 (v := pt q 0) h3 rfl fun a4 h4 => ?_; clear h3
 refine pk (v := pt g 0) h4 rfl (rn_load1 rfl rfl Try.isAgg77 (hq.cell rfl)) fun a5 h5 => ?_; clear h4
 refine pk0 (v := .bool false) h5 rfl fun a6 h6 => ?_; clear h5
 refine pk0 (v := .bool false) h6 rfl fun a7 h7 => ?_; clear h6
 refine pl_nil ?_
 refine co_then ?_
 refine wp_ret ?_
 refine co_ret1 h7 rfl rfl ?_
 exact ⟨rfl, rfl⟩
set_option maxRecDepth 100000 in
theorem cloneM_any (v : Value) (l : List MemT) (w : World) (hs : SliceOf memE 2 w v l) (hlen : l.length ≤ 20) :
    Calls Try.prog 55 #[v] w fun e w' => ∃ (u : Value), e = .returned (u) ∧ w'.ownsRow w.heap.size 117 2 u l.length (l.flatMap memE) ∧ Below w.heap.size w w' := by
 have hB0 := Below.refl w.heap.size w
 have hl_hs := sl_len hs
 have hs' := hs; obtain ⟨ao, cap, hv, _, _, h3, _⟩ := hs'; subst hv; rcases ao with _ | ad
 · obtain ⟨hl0, hc0⟩ := h3 rfl; obtain rfl : l = [] := List.eq_nil_of_length_eq_zero hl0; subst hc0
   refine co_enter (n := 8) Try.func55 rfl rfl rfl [(0, .slice none 0 0)] rfl (fun a h0 => ?_)
   refine co_seq ?_
   refine co_reg ?_
   refine pk0 (v := .slice none 0 0) h0 rfl fun a1 h1 => ?_; clear h0
   refine pl_nil ?_
   refine co_then ?_
   refine co_seq ?_
   refine co_seq ?_
   refine co_reg ?_
   refine pk0 (v := .slice none 0 0) h1 rfl fun a2 h2 => ?_; clear h1
   refine pk0 (v := .bool true) h2 rfl fun a3 h3 => ?_; clear h2
   refine pl_nil ?_
   refine co_then ?_
   refine co_true h3 rfl ?_
   refine co_seq ?_
   refine co_reg ?_
   refine pk0 (v := .slice none 0 0) h3 rfl fun a4 h4 => ?_; clear h3
   refine pl_nil ?_
   refine co_then ?_
   refine wp_ret ?_
   refine co_thenR ?_
   refine co_ret1 h4 rfl rfl ?_
   exact ⟨_, rfl, (row_nilL _ _ _ _ _), hB0⟩
 · skip
   refine co_enter (n := 8) Try.func55 rfl rfl rfl [(0, .slice (some ad) l.length cap)] rfl (fun a h0 => ?_)
   refine co_seq ?_
   refine co_reg ?_
   refine pk0 (v := .slice none 0 0) h0 rfl fun a5 h5 => ?_; clear h0
   refine pl_nil ?_
   refine co_then ?_
   refine co_seq ?_
   refine co_seq ?_
   refine co_reg ?_
   refine pk0 (v := .slice (some ad) l.length cap) h5 rfl fun a6 h6 => ?_; clear h5
   refine pk0 (v := .bool false) h6 rfl fun a7 h7 => ?_; clear h6
   refine pl_nil ?_
   refine co_then ?_
   refine co_false h7 rfl ?_
   refine wp_skip ?_
   refine co_then ?_
   refine co_seq ?_
   refine co_reg ?_
   refine pw h7 rfl (op_new (v := fun N => .slice (some ⟨N, 0, none⟩) 0 0) (T := 117) (cs := #[]) (by kernel_rfl) (by kernel_rfl) (by kernel_rfl)) ?_; clear h7
   rintro _ w9 a8 ⟨N10, rfl, hN13, hz14, hk12, hg11⟩ h8
   have hz15 := hg11.size
   try dsimp only at h8
   refine pk0 (v := .slice (some ad) l.length cap) h8 rfl fun a16 h16 => ?_; clear h8
   have hr19 := row_of_blkL hk12 (Nat.le_refl _) 2 memE
   have hB24 := hb_new hB0 hg11
   refine pw h16 rfl (op_appendSrc rfl N10 117 (z := .agg #[.int .i64 0, .int .i64 0]) (size := 2) (bytes := 16) Try.underlying29 (by kernel_rfl) rfl rfl rfl hr19 rfl (hs.below hB24) (fun y hy => ⟨memE_len y, memE_one y⟩) (by first | omega | (simp only [List.length_nil, List.length_append, List.length_cons, List.length_take, List.length_drop]; omega)) (by first | omega | (simp only [List.length_nil, List.length_append, List.length_cons, List.length_take, List.length_drop]; omega)) (by omega)) ?_; clear h16
   rintro v20 w18 a17 ⟨hr21, hg22⟩ h17
   have hr21' : w18.ownsRow N10 117 2 v20 l.length (l.flatMap memE) := row_app (l := []) hr21; clear hr21
   have hz25 := hg22.size
   refine pk0 (v := v20) h17 rfl fun a26 h26 => ?_; clear h17
   refine pl_nil ?_
   refine co_then ?_
   refine wp_ret ?_
   refine co_ret1 h26 rfl rfl ?_
   have hB27 := hb_row hB24 hr19 (by omega) hg22
   exact ⟨_, rfl, (row_lows hr21' (by omega)), hB27⟩
set_option maxRecDepth 100000 in
theorem freshConf_any (ep : Int) (fl : Int) (v : Value) (ms : List MemT) (w : World) (hs : SliceOf memE 2 w v ms) (hlen : ms.length ≤ 20) :
    Calls Try.prog 31 #[.agg #[.int .i64 ep, v, .int .u64 fl]] w fun e w' => ∃ (u : Value), e = .returned (.agg #[.int .i64 ep, u, .int .u64 fl]) ∧ w'.ownsRow w.heap.size 117 2 u ms.length (ms.flatMap memE) ∧ Below w.heap.size w w' := by
 have hB0 := Below.refl w.heap.size w
 have hl_hs := sl_len hs
 refine co_enter (n := 8) Try.func31 rfl rfl rfl [(0, .agg #[.int .i64 ep, v, .int .u64 fl])] rfl (fun a h0 => ?_)
 refine co_seq ?_
 refine co_reg ?_
 refine pw h0 rfl (op_new (v := fun N => pt N 0) (T := 31) (cs := #[.int .i64 ep, v, .int .u64 fl]) (by kernel_rfl) (by kernel_rfl) (by kernel_rfl)) ?_; clear h0
 rintro _ w2 a1 ⟨N3, rfl, hN6, hz7, hk5, hg4⟩ h1
 have hz8 := hg4.size
 try dsimp only at h1
 refine pw h1 rfl (op_new (v := fun N => pt N 0) (T := 31) (cs := #[.int .i64 0, .slice none 0 0, .int .u64 0]) (by kernel_rfl) (by kernel_rfl) (by kernel_rfl)) ?_; clear h1
 rintro _ w10 a9 ⟨N11, rfl, hN14, hz15, hk13, hg12⟩ h9
 have hz16 := hg12.size
 try dsimp only at h9
 refine pl_nil ?_
 refine co_then ?_
 refine co_seq ?_
 refine co_reg ?_
 refine pk0 (v := pt N3 1) h9 rfl fun a17 h17 => ?_; clear h9
 have hk18 := hk5.kept hg12 (by simp)
 refine pk (v := v) h17 rfl (rn_load1 rfl rfl Try.isAgg29 (hk18.cell rfl)) fun a19 h19 => ?_; clear h17
 have hB22 := hb_new hB0 hg4
 have hB23 := hb_new hB22 hg12
 refine pw h19 rfl (op_call (args := #[v]) (R := fun res xw => ∃ u : Value, res = u ∧ xw.ownsRow w10.heap.size 117 2 u ms.length (ms.flatMap memE) ∧ Below w10.heap.size w10 xw) rfl rfl rfl (by kernel_rfl) (by kernel_rfl) (Try.call55 _ _) (cloneM_any v ms w10 (hs.below hB23) (by first | omega | (simp; done) | (simp; omega))) (by rintro e x ⟨u, rfl, hq25, hb26⟩; exact ⟨_, rfl, ⟨u, rfl, hq25, hb26⟩⟩)) ?_; clear h19
 rintro u24 w21 a20 ⟨_, rfl, hq25, hb26⟩ h20
 have hz27 := hb26.size
 have hl28 := sl_len (row_sl hq25 memE_len)
 refine pk0 (v := pt N3 1) h20 rfl fun a29 h29 => ?_; clear h20
 have hk35 := hk18.below hb26
 refine pwD h29 rfl (op_store1 rfl rfl rfl (row_one hq25) Try.sizeOf29 hk35 rfl) ?_; clear h29
 rintro _ w31 a30 ⟨hk32, hz33, hg34⟩ h30
 have hk32' : Blk w31 N3 31 #[.int .i64 ep, u24, .int .u64 fl] := hk32; clear hk32
 have hz36 := hg34.size
 refine pl_nil ?_
 refine co_then ?_
 refine co_seq ?_
 refine co_reg ?_
 refine pk (v := .agg #[.int .i64 ep, u24, .int .u64 fl]) h30 rfl (rn_loadN rfl rfl Try.underlying31 rfl (by kernel_rfl) hk32'.all) fun a37 h37 => ?_; clear h30
 have hr43 := row_kept_at hq25 hg34 (row_ne_lt hq25 (by omega))
 have hk44 := hk13.below hb26
 have hk45 := hk44.kept hg34 (by simp; omega)
 refine pwD h37 rfl (op_storeN rfl rfl rfl (all_cons rfl (all_cons (row_one hr43) (all_cons rfl all_nil))) (by kernel_rfl) hk45 rfl) ?_; clear h37
 rintro _ w39 a38 ⟨hk40, hz41, hg42⟩ h38
 have hk40' : Blk w39 N11 31 #[.int .i64 ep, u24, .int .u64 fl] := hk40; clear hk40
 have hz46 := hg42.size
 refine pl_nil ?_
 refine co_then ?_
 refine wp_ret ?_
 refine co_retC (Q := fun _ _ _ => True) h38 rfl rfl hk40' Try.underlying31 rfl (by kernel_rfl) ?_
 have hr47 := row_kept_at hr43 hg42 (row_ne_lt hr43 (by omega))
 have hB48 := hb_call hB23 hb26
 have hB49 := hb_at hB48 hg34 (by omega)
 have hB50 := hb_at hB49 hg42 (by omega)
 exact ⟨_, rfl, (row_lows hr47 (by omega)), hB50⟩
end Go.Proofs.Ytkjnhghniopnoaa

/- Package rstate: Apply of one that was made, by its blocks. Conditions: a right log. -/
namespace Go.Proofs.Ytkjnhghniopnoaa
open Go.RowKit Go.PlainAid
set_option linter.unusedVariables false
set_option linter.unusedSimpArgs false


theorem wf_64 {a : Int} (h : -9223372036854775808 ≤ a ∧ a ≤ 9223372036854775807) : (Lit.int .i64 a).wf = true := by simp [Lit.wf, IntKind.min, IntKind.max, IntKind.signed, IntKind.bits]; omega
theorem chkC_len {ep : Int} {ms : List MemT} (h : chkC ep ms = 0) : ms.length ≤ 20 := by
  unfold chkC at h
  repeat' (first | split at h | omega)
theorem chkB_en {c r : Int} {l : List OpT} (h : chkB c r l = 0) : l.length ≤ 20 ∧ (∀ o ∈ l, opOk o) ∧ (Lit.int .i64 c).wf = true ∧ (Lit.int .i64 r).wf = true := by
  obtain ⟨h1, h2, h3, h4, _⟩ := (chkB_iff c r l).1 h
  refine ⟨by omega, fun o ho => by have h := chkOp_ok (h4 o ho); exact ⟨by omega, by omega⟩, wf_64 (by omega), wf_64 (by omega)⟩
/-- What a note comes to: the answer, the epoch, the horizon, the entries. -/
def ApR (d : NoteD) (ep hz : Int) (L : List EntT) (r ep' hz' : Int) (L' : List EntT) : Prop :=
  (chkN d = 0 ∧ d.k = 2 ∧ r = setE L d.n d.ec d.er d.el d.ets ∧ SetR L d.n d.ec d.er d.el d.ets L' ∧ ep' = ep ∧ hz' = hz) ∨
  (chkN d = 0 ∧ d.k = 3 ∧ r = stE L d.n d.t ∧ L' = stL L d.n d.t ∧ ep' = ep ∧ hz' = hz) ∨
  (chkN d = 0 ∧ d.k = 4 ∧ r = 0 ∧ ¬ d.t < hz ∧ L'.map e0 = (thL L d.t d.n).map e0 ∧ ep' = ep ∧ hz' = d.t) ∨
  (chkN d = 0 ∧ d.k = 1 ∧ r = 0 ∧ ¬ d.ep ≤ ep ∧ L' = L ∧ ep' = d.ep ∧ hz' = hz) ∨
  ((chkN d ≠ 0 ∧ r = chkN d ∨ chkN d = 0 ∧ (d.k = 1 ∧ d.ep ≤ ep ∨ d.k = 4 ∧ d.t < hz) ∧ r = 18 ∨ chkN d = 0 ∧ ¬ d.k = 1 ∧ ¬ d.k = 2 ∧ ¬ d.k = 3 ∧ ¬ d.k = 4 ∧ r = 11) ∧ L' = L ∧ ep' = ep ∧ hz' = hz)
theorem ApR.ri {d : NoteD} {ep hz r ep' hz' : Int} {L L' : List EntT} (h : ApR d ep hz L r ep' hz' L') (hR : RI L) : RI L' := by
  rcases h with ⟨_, _, _, h, _⟩ | ⟨_, _, _, h, _⟩ | ⟨_, _, _, _, h, _⟩ | ⟨_, _, _, _, h, _⟩ | ⟨_, h, _⟩
  · exact RI.e0 (setR_e0 h).symm hR.set
  · subst h; exact hR.st
  · exact RI.e0 h.symm hR.th
  · subst h; exact hR
  · subst h; exact hR
/-- The epoch and the horizon never go back. -/
theorem ApR.up {d : NoteD} {ep hz r ep' hz' : Int} {L L' : List EntT} (h : ApR d ep hz L r ep' hz' L') : ep ≤ ep' ∧ hz ≤ hz' ∧ (¬ r = 0 ∨ ¬ d.k = 1 ∨ ep' = d.ep) := by
  rcases h with ⟨_, _, _, _, _, _⟩ | ⟨_, _, _, _, _, _⟩ | ⟨_, _, _, _, _, _, _⟩ | ⟨_, _, _, _, _, _, _⟩ | ⟨h, _, _, _⟩ <;> refine ⟨by omega, by omega, by omega⟩

set_option maxRecDepth 100000 in
set_option maxHeartbeats 1600000 in
theorem rsApply_blk (b : Nat) (q : Nat) (g : Nat) (S : Nat → Prop) (L : List EntT) (ep : Int) (cv : Value) (ms : List MemT) (fl : Int) (hz : Int) (d : NoteD) (mv : Value) (lv : Value) (ev : Value) (w : World) (hb : Blk w b 68 #[pt q 0]) (hq : Blk w q 80 #[pt g 0, .int .i64 ep, cv, .int .u64 fl, .int .u64 hz]) (hL : LObj S w g L) (hSb : ¬ S b) (hSq : ¬ S q) (hcv : w.ownsRow 0 117 2 cv ms.length (ms.flatMap memE)) (hcS : ∀ i, cv.ownBlock = some i → ¬ S i) (hms : ms.length ≤ 20) (hRI : RI L) (hbq : b ≠ q) (hm : SliceOf memE 2 w mv d.ms) (hg : SliceOf (intE .i64) 1 w lv d.lg) (he : SliceOf opE 3 w ev d.el) (hR : NoteR d) (hbm : d.ms ≠ [] → ∀ k, mv.ownBlock = some k → ¬ (k = q ∨ S k)) (hbg : d.lg ≠ [] → ∀ k, lv.ownBlock = some k → ¬ (k = q ∨ S k)) (hbe : d.el ≠ [] → ∀ k, ev.ownBlock = some k → ¬ (k = q ∨ S k)) :
    Calls Try.prog 11 #[pt b 0, .agg #[.int .i64 d.k, .int .i64 d.n, .int .u64 d.t, .int .i64 d.ep, mv, .int .u64 d.fl, lv, .int .i64 d.ec, .int .i64 d.er, ev, .int .u64 d.ets, .int .i64 d.pid, .int .u64 d.pat, .int .i64 d.plf, .int .i64 d.sc, .int .i64 d.sr, .int .i64 d.se, .int .i64 d.sp]] w fun e w' => ∃ (r : Int) (S' : Nat → Prop) (L' : List EntT) (ep' : Int) (cv' : Value) (ms' : List MemT) (fl' : Int) (hz' : Int), e = .returned (.int .i64 r) ∧ Blk w' q 80 #[pt g 0, .int .i64 ep', cv', .int .u64 fl', .int .u64 hz'] ∧ LObj S' w' g L' ∧ w'.ownsRow 0 117 2 cv' ms'.length (ms'.flatMap memE) ∧ ms'.length ≤ 20 ∧ (∀ i, cv'.ownBlock = some i → ¬ S' i) ∧ (∀ k, S' k → (k = q ∨ S k) ∨ w.heap.size ≤ k) ∧ ¬ S' q ∧ ApR d ep hz L r ep' hz' L' ∧ (∀ i, cv'.ownBlock = some i → cv.ownBlock = some i ∨ w.heap.size ≤ i) ∧ But (fun k => k = q ∨ S k) w w' := by
 have hrng := hR.rng
 have hlq := hq.lt
 have hlb := hb.lt
 have hB0 := But.refl (fun k => k = q ∨ S k) w
 have hl_hb := hb.lt
 have hl_hq := hq.lt
 have hl_hm := sl_len hm
 have hl_hg := sl_len hg
 have hl_he := sl_len he
 have hinS : ∀ k, S k → (k = q ∨ S k) ∨ w.heap.size ≤ k := fun k hk => .inl (.inr hk)
 have hinq : (q = q ∨ S q) ∨ w.heap.size ≤ q := .inl (.inl rfl)
 refine co_enter (n := 80) Try.func11 rfl rfl rfl [(0, pt b 0), (1, .agg #[.int .i64 d.k, .int .i64 d.n, .int .u64 d.t, .int .i64 d.ep, mv, .int .u64 d.fl, lv, .int .i64 d.ec, .int .i64 d.er, ev, .int .u64 d.ets, .int .i64 d.pid, .int .u64 d.pat, .int .i64 d.plf, .int .i64 d.sc, .int .i64 d.sr, .int .i64 d.se, .int .i64 d.sp])] rfl (fun a h0 => ?_)
 refine co_seq ?_
 refine co_reg ?_
 refine pw h0 rfl (op_new (v := fun N => pt N 0) (T := 46) (cs := #[.int .i64 d.k, .int .i64 d.n, .int .u64 d.t, .int .i64 d.ep, mv, .int .u64 d.fl, lv, .int .i64 d.ec, .int .i64 d.er, ev, .int .u64 d.ets, .int .i64 d.pid, .int .u64 d.pat, .int .i64 d.plf, .int .i64 d.sc, .int .i64 d.sr, .int .i64 d.se, .int .i64 d.sp]) (by kernel_rfl) (by kernel_rfl) (by kernel_rfl)) ?_; clear h0
 rintro _ w2 a1 ⟨N3, rfl, hN6, hz7, hk5, hg4⟩ h1
 have ha8 := row_fresh hcv hN6
 have hu9 := row_under hcv hN6
 have hz10 := hg4.size
 have ho11 := off_new (LObj.ofS hL) hN6
 try dsimp only at h1
 refine pk0 (v := .int .i64 0) h1 rfl fun a12 h12 => ?_; clear h1
 refine pl_nil ?_
 refine co_then ?_
 refine co_seq ?_
 refine co_reg ?_
 refine pk0 (v := pt b 0) h12 rfl fun a13 h13 => ?_; clear h12
 have hk16 := hb.kept hg4 (by simp)
 refine pw h13 rfl (op_call (args := #[pt b 0]) (R := fun res xw => res = pt q 0 ∧ w2 = xw) rfl rfl rfl (by kernel_rfl) (by kernel_rfl) (Try.call30 _ _) (rsgetT b q w2 hk16) (by rintro e x ⟨rfl, rfl⟩; exact ⟨_, rfl, ⟨rfl, rfl⟩⟩)) ?_; clear h13
 rintro _ _ a14 ⟨rfl, rfl⟩ h14
 refine pk0 (v := pt q 0) h14 rfl fun a18 h18 => ?_; clear h14
 refine pl_nil ?_
 refine co_then ?_
 refine co_seq ?_
 refine co_seq ?_
 refine co_reg ?_
 refine pk0 (v := pt q 0) h18 rfl fun a19 h19 => ?_; clear h18
 have hk22 := hq.kept hg4 (by simp)
 refine pw h19 rfl (op_call (args := #[pt q 0]) (R := fun res xw => res = .bool false ∧ w2 = xw) rfl rfl rfl (by kernel_rfl) (by kernel_rfl) (Try.call32 _ _) (rszeroT q g ep cv fl hz w2 hk22) (by rintro e x ⟨rfl, rfl⟩; exact ⟨_, rfl, ⟨rfl, rfl⟩⟩)) ?_; clear h19
 rintro _ _ a20 ⟨rfl, rfl⟩ h20
 refine pl_nil ?_
 refine co_then ?_
 refine co_false h20 rfl ?_
 refine wp_skip ?_
 refine co_then ?_
 refine co_seq ?_
 refine co_seq ?_
 refine co_reg ?_
 refine pk (v := .agg #[.int .i64 d.k, .int .i64 d.n, .int .u64 d.t, .int .i64 d.ep, mv, .int .u64 d.fl, lv, .int .i64 d.ec, .int .i64 d.er, ev, .int .u64 d.ets, .int .i64 d.pid, .int .u64 d.pat, .int .i64 d.plf, .int .i64 d.sc, .int .i64 d.sr, .int .i64 d.se, .int .i64 d.sp]) h20 rfl (rn_loadN rfl rfl Try.underlying46 rfl (by kernel_rfl) hk5.all) fun a24 h24 => ?_; clear h20
 have hB27 := fbU_new hB0 hg4
 refine pw h24 rfl (op_call (args := #[.agg #[.int .i64 d.k, .int .i64 d.n, .int .u64 d.t, .int .i64 d.ep, mv, .int .u64 d.fl, lv, .int .i64 d.ec, .int .i64 d.er, ev, .int .u64 d.ets, .int .i64 d.pid, .int .u64 d.pat, .int .i64 d.plf, .int .i64 d.sc, .int .i64 d.sr, .int .i64 d.se, .int .i64 d.sp]]) (R := fun res xw => res = .int .i64 (chkN d) ∧ Below w2.heap.size w2 xw) rfl rfl rfl (by kernel_rfl) (by kernel_rfl) (Try.call33 _ _) (nCheck_any d mv lv ev w2 (sl_butS hm hB27 hbm) (sl_butS hg hB27 hbg) (sl_butS he hB27 hbe) hR) (by rintro e x ⟨rfl, hb28⟩; exact ⟨_, rfl, ⟨rfl, hb28⟩⟩)) ?_; clear h24
 rintro _ w26 a25 ⟨rfl, hb28⟩ h25
 have hz29 := hb28.size
 have hO31 := LObj.gr hL hg4 (fun k e => by cases e)
 have ho30 := LObj.ofS hO31
 refine pk0 (v := .int .i64 (chkN d)) h25 rfl fun a32 h32 => ?_; clear h25
 refine pl_nil ?_
 refine co_then ?_
 refine co_seq ?_
 refine co_reg ?_
 refine pk0 (v := .int .i64 (chkN d)) h32 rfl fun a33 h33 => ?_; clear h32
 refine pk0 (v := .bool (chkN d != 0)) h33 rfl fun a34 h34 => ?_; clear h33
 refine pl_nil ?_
 refine co_then ?_
 have hB36 := fbU_call hB27 hb28
 have hr37 := row_kept_new hcv hg4
 have hr38 := row_kept_new hr37 (below_grown hb28)
 cases hc35 : (chkN d != 0)
 ·
  rw [hc35] at h34
  have hp39 : ¬ (chkN d ≠ 0) := by first | simpa using hc35 | simpa [and_assoc] using hc35
  clear hc35
  refine co_false h34 rfl ?_
  refine wp_skip ?_
  refine co_then ?_
  refine co_seq ?_
  refine co_seq ?_
  refine co_reg ?_
  refine pk0 (v := pt N3 0) h34 rfl fun a40 h40 => ?_; clear h34
  have hk41 := hk5.below hb28
  refine pk (v := .int .i64 d.k) h40 rfl (rn_load1 rfl rfl Try.isAgg3 (hk41.cell rfl)) fun a42 h42 => ?_; clear h40
  refine pl_nil ?_
  refine co_then ?_
  refine wp_block ?_
  refine co_seq ?_
  refine co_reg ?_
  refine pk0 (v := .bool (d.k == 1)) h42 rfl fun a43 h43 => ?_; clear h42
  refine pk0 (v := .bool (d.k == 1)) h43 rfl fun a44 h44 => ?_; clear h43
  refine pl_nil ?_
  refine co_then ?_
  cases hc45 : (d.k == 1)
  ·
   rw [hc45] at h44
   have hp46 : ¬ (d.k = 1) := by first | simpa using hc45 | simpa [and_assoc] using hc45
   clear hc45
   refine co_false h44 rfl ?_
   refine co_seq ?_
   refine co_reg ?_
   refine pk0 (v := .bool (d.k == 2)) h44 rfl fun a47 h47 => ?_; clear h44
   refine pk0 (v := .bool (d.k == 2)) h47 rfl fun a48 h48 => ?_; clear h47
   refine pl_nil ?_
   refine co_then ?_
   cases hc49 : (d.k == 2)
   ·
    rw [hc49] at h48
    have hp50 : ¬ (d.k = 2) := by first | simpa using hc49 | simpa [and_assoc] using hc49
    clear hc49
    refine co_false h48 rfl ?_
    refine co_seq ?_
    refine co_reg ?_
    refine pk0 (v := .bool (d.k == 3)) h48 rfl fun a51 h51 => ?_; clear h48
    refine pk0 (v := .bool (d.k == 3)) h51 rfl fun a52 h52 => ?_; clear h51
    refine pl_nil ?_
    refine co_then ?_
    cases hc53 : (d.k == 3)
    ·
     rw [hc53] at h52
     have hp54 : ¬ (d.k = 3) := by first | simpa using hc53 | simpa [and_assoc] using hc53
     clear hc53
     refine co_false h52 rfl ?_
     refine co_seq ?_
     refine co_reg ?_
     refine pk0 (v := .bool (d.k == 4)) h52 rfl fun a55 h55 => ?_; clear h52
     refine pk0 (v := .bool (d.k == 4)) h55 rfl fun a56 h56 => ?_; clear h55
     refine pl_nil ?_
     refine co_then ?_
     cases hc57 : (d.k == 4)
     ·
      rw [hc57] at h56
      have hp58 : ¬ (d.k = 4) := by first | simpa using hc57 | simpa [and_assoc] using hc57
      clear hc57
      refine co_false h56 rfl ?_
      refine co_seq ?_
      refine co_reg ?_
      refine pk0 (v := .int .i64 11) h56 rfl fun a59 h59 => ?_; clear h56
      refine pl_nil ?_
      refine co_then ?_
      refine wp_ret ?_
      refine co_blockR ?_
      refine co_thenR ?_
      refine co_ret1 h59 rfl rfl ?_
      have hk60 := hk22.below hb28
      have hO61 := LObj.gr hO31 (below_grown hb28) (fun k e => by cases e)
      have hAp : ApR d ep hz L 11 ep hz L := .inr (.inr (.inr (.inr ⟨by first | exact .inl ⟨by omega, rfl⟩ | exact .inr (.inl ⟨by omega, by omega, rfl⟩) | exact .inr (.inr ⟨by omega, by omega, by omega, by omega, by omega, rfl⟩), rfl, rfl, rfl⟩)))
      exact ⟨_, _, _, _, _, _, _, _, rfl, hk60, hO61, row_lows hr38 (Nat.zero_le _), by first | assumption | omega, hcS, hinS, hSq, hAp, fun i hi => .inl hi, hB36⟩
     ·
      rw [hc57] at h56
      have hp62 : d.k = 4 := by first | simpa using hc57 | simpa [and_assoc] using hc57
      clear hc57
      refine co_true h56 rfl ?_
      refine co_seq ?_
      refine co_seq ?_
      refine dr_eq (by kernel_rfl) (fun w63 hg64 => ?_)
      have hz65 := hg64.size
      refine dk0 0 (v := pt N3 2) h56 rfl rfl rfl fun a66 h66 => ?_; clear h56
      have hk67 := hk41.kept hg64 (by simp)
      refine dk 1 (v := .int .u64 d.t) h66 rfl rfl rfl (fun x hx => by subst hx; exact (rn_load1 rfl rfl Try.isAgg27 (hk67.cell rfl))) fun a68 h68 => ?_; clear h66
      refine dk0 2 (v := pt q 0) h68 rfl rfl rfl fun a69 h69 => ?_; clear h68
      refine dk0 3 (v := pt q 0) h69 rfl rfl rfl fun a70 h70 => ?_; clear h69
      refine dk0 4 (v := pt q 4) h70 rfl rfl rfl fun a71 h71 => ?_; clear h70
      have hk72 := hk22.below hb28
      have hk73 := hk72.kept hg64 (by simp)
      refine dk 5 (v := .int .u64 hz) h71 rfl rfl rfl (fun x hx => by subst hx; exact (rn_load1 rfl rfl Try.isAgg27 (hk73.cell rfl))) fun a74 h74 => ?_; clear h71
      refine dk0 6 (v := .bool (decide (d.t < hz))) h74 rfl rfl rfl fun a75 h75 => ?_; clear h74
      refine dr_done (by kernel_rfl) ?_
      refine co_then ?_
      have hB77 := fbU_new hB36 hg64
      have hk78 := hk16.below hb28
      have hk79 := hk78.kept hg64 (by simp)
      have hO80 := LObj.gr hO31 (below_grown hb28) (fun k e => by cases e)
      have hO81 := LObj.gr hO80 hg64 (fun k e => by cases e)
      cases hc76 : (decide (d.t < hz))
      ·
       rw [hc76] at h75
       have hp82 : ¬ (d.t < hz) := of_decide_eq_false hc76
       clear hc76
       refine co_false h75 rfl ?_
       refine wp_skip ?_
       refine co_then ?_
       refine co_seq ?_
       refine co_reg ?_
       refine pk0 (v := pt q 0) h75 rfl fun a83 h83 => ?_; clear h75
       refine pk0 (v := pt N3 2) h83 rfl fun a84 h84 => ?_; clear h83
       refine pk (v := .int .u64 d.t) h84 rfl (rn_load1 rfl rfl Try.isAgg27 (hk67.cell rfl)) fun a85 h85 => ?_; clear h84
       refine pk0 (v := pt q 0) h85 rfl fun a86 h86 => ?_; clear h85
       refine pk0 (v := pt q 4) h86 rfl fun a87 h87 => ?_; clear h86
       refine pwD h87 rfl (op_store1 rfl rfl rfl rfl Try.sizeOf27 hk73 rfl) ?_; clear h87
       rintro _ w89 a88 ⟨hk90, hz91, hg92⟩ h88
       have hk90' : Blk w89 q 80 #[pt g 0, .int .i64 ep, cv, .int .u64 fl, .int .u64 d.t] := hk90; clear hk90
       have hz93 := hg92.size
       refine pl_nil ?_
       refine co_then ?_
       refine dr_gen (fun x => But (fun k => k = q ∨ S k) w x ∧ Blk x N3 46 #[.int .i64 d.k, .int .i64 d.n, .int .u64 d.t, .int .i64 d.ep, mv, .int .u64 d.fl, lv, .int .i64 d.ec, .int .i64 d.er, ev, .int .u64 d.ets, .int .i64 d.pid, .int .u64 d.pat, .int .i64 d.plf, .int .i64 d.sc, .int .i64 d.sr, .int .i64 d.se, .int .i64 d.sp] ∧ Blk x q 80 #[pt g 0, .int .i64 ep, cv, .int .u64 fl, .int .u64 d.t]) (by kernel_rfl) (fun w94 hg95 => ?_) (fun w94 hg95 => ?_)
       ·
        have hz96 := hg95.size
        have hB97 := fbU_at hB77 hg92 (fun hlt => by rcases hinq with hq | hq; exact hq; omega)
        have hB98 := fbU_new hB97 hg95
        have hk99 := hk67.kept hg92 (by simp; omega)
        have hk100 := hk99.kept hg95 (by simp)
        have hk101 := hk90'.kept hg95 (by simp)
        exact ⟨hB98, hk100, hk101⟩
       have hz102 := hg95.size
       have hB103 := fbU_at hB77 hg92 (fun hlt => by rcases hinq with hq | hq; exact hq; omega)
       have hB104 := fbU_new hB103 hg95
       have hk105 := hk67.kept hg92 (by simp; omega)
       have hk106 := hk105.kept hg95 (by simp)
       have hk107 := hk90'.kept hg95 (by simp)
       refine dk0 0 (v := pt q 0) h88 rfl rfl ⟨hB104, hk106, hk107⟩ fun a108 h108 => ?_; clear h88
       refine dk0 1 (v := pt q 0) h108 rfl rfl ⟨hB104, hk106, hk107⟩ fun a109 h109 => ?_; clear h108
       refine dk0 2 (v := pt q 0) h109 rfl rfl ⟨hB104, hk106, hk107⟩ fun a110 h110 => ?_; clear h109
       refine dk 3 (v := pt g 0) h110 rfl rfl ⟨hB104, hk106, hk107⟩ (fun x hx => (rn_load1 rfl rfl Try.isAgg77 (hx.2.2.cell rfl))) fun a111 h111 => ?_; clear h110
       refine dk0 4 (v := pt N3 2) h111 rfl rfl ⟨hB104, hk106, hk107⟩ fun a112 h112 => ?_; clear h111
       refine dk 5 (v := .int .u64 d.t) h112 rfl rfl ⟨hB104, hk106, hk107⟩ (fun x hx => (rn_load1 rfl rfl Try.isAgg27 (hx.2.1.cell rfl))) fun a113 h113 => ?_; clear h112
       refine dk0 6 (v := pt N3 1) h113 rfl rfl ⟨hB104, hk106, hk107⟩ fun a114 h114 => ?_; clear h113
       refine dk 7 (v := .int .i64 d.n) h114 rfl rfl ⟨hB104, hk106, hk107⟩ (fun x hx => (rn_load1 rfl rfl Try.isAgg3 (hx.2.1.cell rfl))) fun a115 h115 => ?_; clear h114
       have hse := (chkN_ok (d := d) (by omega)).2.2.2.1 (by omega)
       have hO118 := LObj.gr hO81 hg92 (fun k e => by cases e; exact hSq)
       have hO119 := LObj.gr hO118 hg95 (fun k e => by cases e)
       have hk120 := hk79.kept hg92 (by simp; omega)
       have hk121 := hk120.kept hg95 (by simp)
       have hr122 := row_kept_new hr38 hg64
       have hr123 := row_kept_at hr122 hg92 (own_neT hr122 hk73 (by decide))
       have hr124 := row_kept_new hr123 hg95
       refine d1 8 h115 rfl rfl (op_call (args := #[pt g 0, .int .u64 d.t, .int .i64 d.n]) (R := fun res xw => ∃ L' : List EntT, ∃ S' : Nat → Prop, res = .int .i64 (thG L d.t d.n) ∧ LObj S' xw g L' ∧ (L'.map e0 = (thL L d.t d.n).map e0) ∧ Grew S S' w94 xw) rfl rfl rfl (by kernel_rfl) (by kernel_rfl) (Try.call36 _ _) (tThin w94 d.t d.n hO119 (by omega) (by omega) hRI.nd) (by rintro e x ⟨L', S', h0, h⟩; exact ⟨_, h0, L', S', rfl, h⟩)) ?_ ?_; clear h115
       ·
        rintro _ w117 ⟨L'125, S126, rfl, hO127, hq129, hx128⟩
        have hB130 := fbU_foot hB104 hx128.but (fun i hi hq => by rcases hinS i hq with k | k; exact k; omega)
        have hz131 := hB130.size
        have hz132 := hx128.but.size
        have hin133 : ∀ k, S126 k → (k = q ∨ S k) ∨ w.heap.size ≤ k := fun k hk => by rcases hx128.sub k hk with j | j; exact hinS k j; exact .inr (by omega)
        have hk134 := Blk.butS hk106 hx128.but ho11
        have hk135 := Blk.butS hk107 hx128.but hSq
        exact ⟨hB130, hk134, hk135⟩
       rintro _ w117 a116 ⟨L'125, S126, rfl, hO127, hq129, hx128⟩ h116
       have hB130 := fbU_foot hB104 hx128.but (fun i hi hq => by rcases hinS i hq with k | k; exact k; omega)
       have hz131 := hB130.size
       have hz132 := hx128.but.size
       have hin133 : ∀ k, S126 k → (k = q ∨ S k) ∨ w.heap.size ≤ k := fun k hk => by rcases hx128.sub k hk with j | j; exact hinS k j; exact .inr (by omega)
       refine dr_done (by kernel_rfl) ?_
       refine co_blockN ?_
       refine co_then ?_
       refine co_seq ?_
       refine co_reg ?_
       refine pk0 (v := .int .i64 0) h116 rfl fun a134 h134 => ?_; clear h116
       refine pl_nil ?_
       refine co_then ?_
       refine wp_ret ?_
       refine co_ret1 h134 rfl rfl ?_
       have hk135 := Blk.butS hk107 hx128.but hSq
       have hr136 := own_butS hr124 hx128.but hcS
       have hAp : ApR d ep hz L 0 ep d.t L'125 := .inr (.inr (.inl ⟨by omega, by omega, rfl, by omega, hq129, rfl, rfl⟩))
       exact ⟨_, _, _, _, _, _, _, _, rfl, hk135, hO127, row_lows hr136 (Nat.zero_le _), by first | assumption | omega, (Grew.offR hx128 hr124 hcS), hin133, (Grew.off hx128 hSq hk107.lt), hAp, fun i hi => .inl hi, hB130⟩
      ·
       rw [hc76] at h75
       have hp137 : d.t < hz := of_decide_eq_true hc76
       clear hc76
       refine co_true h75 rfl ?_
       refine co_seq ?_
       refine co_reg ?_
       refine pk0 (v := .int .i64 18) h75 rfl fun a138 h138 => ?_; clear h75
       refine pl_nil ?_
       refine co_then ?_
       refine wp_ret ?_
       refine co_thenR ?_
       refine co_blockR ?_
       refine co_thenR ?_
       refine co_ret1 h138 rfl rfl ?_
       have hr139 := row_kept_new hr38 hg64
       have hAp : ApR d ep hz L 18 ep hz L := .inr (.inr (.inr (.inr ⟨by first | exact .inl ⟨by omega, rfl⟩ | exact .inr (.inl ⟨by omega, by omega, rfl⟩) | exact .inr (.inr ⟨by omega, by omega, by omega, by omega, by omega, rfl⟩), rfl, rfl, rfl⟩)))
       exact ⟨_, _, _, _, _, _, _, _, rfl, hk73, hO81, row_lows hr139 (Nat.zero_le _), by first | assumption | omega, hcS, hinS, hSq, hAp, fun i hi => .inl hi, hB77⟩
    ·
     rw [hc53] at h52
     have hp140 : d.k = 3 := by first | simpa using hc53 | simpa [and_assoc] using hc53
     clear hc53
     refine co_true h52 rfl ?_
     refine co_seq ?_
     refine dr_gen (fun x => But (fun k => k = q ∨ S k) w x ∧ Blk x q 80 #[pt g 0, .int .i64 ep, cv, .int .u64 fl, .int .u64 hz] ∧ Blk x N3 46 #[.int .i64 d.k, .int .i64 d.n, .int .u64 d.t, .int .i64 d.ep, mv, .int .u64 d.fl, lv, .int .i64 d.ec, .int .i64 d.er, ev, .int .u64 d.ets, .int .i64 d.pid, .int .u64 d.pat, .int .i64 d.plf, .int .i64 d.sc, .int .i64 d.sr, .int .i64 d.se, .int .i64 d.sp]) (by kernel_rfl) (fun w141 hg142 => ?_) (fun w141 hg142 => ?_)
     ·
      have hz143 := hg142.size
      have hB144 := fbU_new hB36 hg142
      have hk145 := hk22.below hb28
      have hk146 := hk145.kept hg142 (by simp)
      have hk147 := hk41.kept hg142 (by simp)
      exact ⟨hB144, hk146, hk147⟩
     have hz148 := hg142.size
     have hB149 := fbU_new hB36 hg142
     have hk150 := hk22.below hb28
     have hk151 := hk150.kept hg142 (by simp)
     have hk152 := hk41.kept hg142 (by simp)
     refine dk0 0 (v := pt q 0) h52 rfl rfl ⟨hB149, hk151, hk152⟩ fun a153 h153 => ?_; clear h52
     refine dk0 1 (v := pt q 0) h153 rfl rfl ⟨hB149, hk151, hk152⟩ fun a154 h154 => ?_; clear h153
     refine dk0 2 (v := pt q 0) h154 rfl rfl ⟨hB149, hk151, hk152⟩ fun a155 h155 => ?_; clear h154
     refine dk 3 (v := pt g 0) h155 rfl rfl ⟨hB149, hk151, hk152⟩ (fun x hx => (rn_load1 rfl rfl Try.isAgg77 (hx.2.1.cell rfl))) fun a156 h156 => ?_; clear h155
     refine dk0 4 (v := pt N3 1) h156 rfl rfl ⟨hB149, hk151, hk152⟩ fun a157 h157 => ?_; clear h156
     refine dk 5 (v := .int .i64 d.n) h157 rfl rfl ⟨hB149, hk151, hk152⟩ (fun x hx => (rn_load1 rfl rfl Try.isAgg3 (hx.2.2.cell rfl))) fun a158 h158 => ?_; clear h157
     refine dk0 6 (v := pt N3 2) h158 rfl rfl ⟨hB149, hk151, hk152⟩ fun a159 h159 => ?_; clear h158
     refine dk 7 (v := .int .u64 d.t) h159 rfl rfl ⟨hB149, hk151, hk152⟩ (fun x hx => (rn_load1 rfl rfl Try.isAgg27 (hx.2.2.cell rfl))) fun a160 h160 => ?_; clear h159
     have hO163 := LObj.gr hO31 (below_grown hb28) (fun k e => by cases e)
     have hO164 := LObj.gr hO163 hg142 (fun k e => by cases e)
     have hk165 := hk16.below hb28
     have hk166 := hk165.kept hg142 (by simp)
     refine d1 8 h160 rfl rfl (op_call (args := #[pt g 0, .int .i64 d.n, .int .u64 d.t]) (R := fun res xw => ∃ S' : Nat → Prop, res = .int .i64 (stE L d.n d.t) ∧ LObj S' xw g (stL L d.n d.t) ∧ Grew S S' w141 xw) rfl rfl rfl (by kernel_rfl) (by kernel_rfl) (Try.call35 _ _) (tStamp w141 d.n d.t hO164 (by omega)) (by rintro e x ⟨S', h0, h⟩; exact ⟨_, h0, S', rfl, h⟩)) ?_ ?_; clear h160
     ·
      rintro _ w162 ⟨S167, rfl, hO168, hx169⟩
      have hr170 := row_kept_new hr38 hg142
      have hB171 := fbU_foot hB149 hx169.but (fun i hi hq => by rcases hinS i hq with k | k; exact k; omega)
      have hz172 := hB171.size
      have hz173 := hx169.but.size
      have hin174 : ∀ k, S167 k → (k = q ∨ S k) ∨ w.heap.size ≤ k := fun k hk => by rcases hx169.sub k hk with j | j; exact hinS k j; exact .inr (by omega)
      have hk175 := Blk.butS hk151 hx169.but hSq
      have hk176 := Blk.butS hk152 hx169.but ho11
      exact ⟨hB171, hk175, hk176⟩
     rintro _ w162 a161 ⟨S167, rfl, hO168, hx169⟩ h161
     have hr170 := row_kept_new hr38 hg142
     have hB171 := fbU_foot hB149 hx169.but (fun i hi hq => by rcases hinS i hq with k | k; exact k; omega)
     have hz172 := hB171.size
     have hz173 := hx169.but.size
     have hin174 : ∀ k, S167 k → (k = q ∨ S k) ∨ w.heap.size ≤ k := fun k hk => by rcases hx169.sub k hk with j | j; exact hinS k j; exact .inr (by omega)
     have hk175 := Blk.butS hk151 hx169.but hSq
     have hk176 := Blk.butS hk152 hx169.but ho11
     refine dk0 9 (v := .int .i64 (stE L d.n d.t)) h161 rfl rfl ⟨hB171, hk175, hk176⟩ fun a177 h177 => ?_; clear h161
     refine dr_done (by kernel_rfl) ?_
     refine co_then ?_
     refine wp_ret ?_
     refine co_blockR ?_
     refine co_thenR ?_
     refine co_ret1 h177 rfl rfl ?_
     have hr178 := own_butS hr170 hx169.but hcS
     have hAp : ApR d ep hz L (stE L d.n d.t) ep hz (stL L d.n d.t) := .inr (.inl ⟨by omega, by omega, rfl, rfl, rfl, rfl⟩)
     exact ⟨_, _, _, _, _, _, _, _, rfl, hk175, hO168, row_lows hr178 (Nat.zero_le _), by first | assumption | omega, (Grew.offR hx169 hr170 hcS), hin174, (Grew.off hx169 hSq hk151.lt), hAp, fun i hi => .inl hi, hB171⟩
   ·
    rw [hc49] at h48
    have hp179 : d.k = 2 := by first | simpa using hc49 | simpa [and_assoc] using hc49
    clear hc49
    refine co_true h48 rfl ?_
    refine co_seq ?_
    refine dr_gen (fun x => But (fun k => k = q ∨ S k) w x ∧ Blk x q 80 #[pt g 0, .int .i64 ep, cv, .int .u64 fl, .int .u64 hz] ∧ Blk x N3 46 #[.int .i64 d.k, .int .i64 d.n, .int .u64 d.t, .int .i64 d.ep, mv, .int .u64 d.fl, lv, .int .i64 d.ec, .int .i64 d.er, ev, .int .u64 d.ets, .int .i64 d.pid, .int .u64 d.pat, .int .i64 d.plf, .int .i64 d.sc, .int .i64 d.sr, .int .i64 d.se, .int .i64 d.sp]) (by kernel_rfl) (fun w180 hg181 => ?_) (fun w180 hg181 => ?_)
    ·
     have hz182 := hg181.size
     have hB183 := fbU_new hB36 hg181
     have hk184 := hk22.below hb28
     have hk185 := hk184.kept hg181 (by simp)
     have hk186 := hk41.kept hg181 (by simp)
     exact ⟨hB183, hk185, hk186⟩
    have hz187 := hg181.size
    have hB188 := fbU_new hB36 hg181
    have hk189 := hk22.below hb28
    have hk190 := hk189.kept hg181 (by simp)
    have hk191 := hk41.kept hg181 (by simp)
    refine dk0 0 (v := pt q 0) h48 rfl rfl ⟨hB188, hk190, hk191⟩ fun a192 h192 => ?_; clear h48
    refine dk0 1 (v := pt q 0) h192 rfl rfl ⟨hB188, hk190, hk191⟩ fun a193 h193 => ?_; clear h192
    refine dk0 2 (v := pt q 0) h193 rfl rfl ⟨hB188, hk190, hk191⟩ fun a194 h194 => ?_; clear h193
    refine dk 3 (v := pt g 0) h194 rfl rfl ⟨hB188, hk190, hk191⟩ (fun x hx => (rn_load1 rfl rfl Try.isAgg77 (hx.2.1.cell rfl))) fun a195 h195 => ?_; clear h194
    refine dk0 4 (v := pt N3 1) h195 rfl rfl ⟨hB188, hk190, hk191⟩ fun a196 h196 => ?_; clear h195
    refine dk 5 (v := .int .i64 d.n) h196 rfl rfl ⟨hB188, hk190, hk191⟩ (fun x hx => (rn_load1 rfl rfl Try.isAgg3 (hx.2.2.cell rfl))) fun a197 h197 => ?_; clear h196
    refine dk0 6 (v := pt N3 7) h197 rfl rfl ⟨hB188, hk190, hk191⟩ fun a198 h198 => ?_; clear h197
    refine dk 7 (v := .agg #[.int .i64 d.ec, .int .i64 d.er, ev, .int .u64 d.ets]) h198 rfl rfl ⟨hB188, hk190, hk191⟩ (fun x hx => (rn_loadN rfl rfl Try.underlying40 rfl (by kernel_rfl) (blk_part hx.2.2 7 (by rfl)))) fun a199 h199 => ?_; clear h198
    have hse := chkB_en (((chkN_ok (d := d) (by omega)).2.2.1 (by omega)).2)
    have hO202 := LObj.gr hO31 (below_grown hb28) (fun k e => by cases e)
    have hO203 := LObj.gr hO202 hg181 (fun k e => by cases e)
    have hk204 := hk16.below hb28
    have hk205 := hk204.kept hg181 (by simp)
    refine d1 8 h199 rfl rfl (op_call (args := #[pt g 0, .int .i64 d.n, .agg #[.int .i64 d.ec, .int .i64 d.er, ev, .int .u64 d.ets]]) (R := fun res xw => ∃ L' : List EntT, ∃ S' : Nat → Prop, res = .int .i64 (setE L d.n d.ec d.er d.el d.ets) ∧ LObj S' xw g L' ∧ (SetR L d.n d.ec d.er d.el d.ets L') ∧ Grew S S' w180 xw) rfl rfl rfl (by kernel_rfl) (by kernel_rfl) (Try.call34 _ _) (tSet w180 d.n d.ec d.er ev d.el d.ets hO203 (sl_butS he hB188 hbe) (fun hn k hk hj => hbe hn k hk (.inr hj)) hse.1 (by omega) hse.2) (by rintro e x ⟨L', S', h0, h⟩; exact ⟨_, h0, L', S', rfl, h⟩)) ?_ ?_; clear h199
    ·
     rintro _ w201 ⟨L'206, S207, rfl, hO208, hq210, hx209⟩
     have hr211 := row_kept_new hr38 hg181
     have hB212 := fbU_foot hB188 hx209.but (fun i hi hq => by rcases hinS i hq with k | k; exact k; omega)
     have hz213 := hB212.size
     have hz214 := hx209.but.size
     have hin215 : ∀ k, S207 k → (k = q ∨ S k) ∨ w.heap.size ≤ k := fun k hk => by rcases hx209.sub k hk with j | j; exact hinS k j; exact .inr (by omega)
     have hk216 := Blk.butS hk190 hx209.but hSq
     have hk217 := Blk.butS hk191 hx209.but ho11
     exact ⟨hB212, hk216, hk217⟩
    rintro _ w201 a200 ⟨L'206, S207, rfl, hO208, hq210, hx209⟩ h200
    have hr211 := row_kept_new hr38 hg181
    have hB212 := fbU_foot hB188 hx209.but (fun i hi hq => by rcases hinS i hq with k | k; exact k; omega)
    have hz213 := hB212.size
    have hz214 := hx209.but.size
    have hin215 : ∀ k, S207 k → (k = q ∨ S k) ∨ w.heap.size ≤ k := fun k hk => by rcases hx209.sub k hk with j | j; exact hinS k j; exact .inr (by omega)
    have hk216 := Blk.butS hk190 hx209.but hSq
    have hk217 := Blk.butS hk191 hx209.but ho11
    refine dk0 9 (v := .int .i64 (setE L d.n d.ec d.er d.el d.ets)) h200 rfl rfl ⟨hB212, hk216, hk217⟩ fun a218 h218 => ?_; clear h200
    refine dr_done (by kernel_rfl) ?_
    refine co_then ?_
    refine wp_ret ?_
    refine co_blockR ?_
    refine co_thenR ?_
    refine co_ret1 h218 rfl rfl ?_
    have hr219 := own_butS hr211 hx209.but hcS
    have hAp : ApR d ep hz L (setE L d.n d.ec d.er d.el d.ets) ep hz L'206 := .inl ⟨by omega, by omega, rfl, hq210, rfl, rfl⟩
    exact ⟨_, _, _, _, _, _, _, _, rfl, hk216, hO208, row_lows hr219 (Nat.zero_le _), by first | assumption | omega, (Grew.offR hx209 hr211 hcS), hin215, (Grew.off hx209 hSq hk190.lt), hAp, fun i hi => .inl hi, hB212⟩
  ·
   rw [hc45] at h44
   have hp220 : d.k = 1 := by first | simpa using hc45 | simpa [and_assoc] using hc45
   clear hc45
   refine co_true h44 rfl ?_
   refine co_seq ?_
   refine co_seq ?_
   refine dr_eq (by kernel_rfl) (fun w221 hg222 => ?_)
   have hz223 := hg222.size
   refine dk0 0 (v := pt N3 3) h44 rfl rfl rfl fun a224 h224 => ?_; clear h44
   refine dk0 1 (v := pt N3 3) h224 rfl rfl rfl fun a225 h225 => ?_; clear h224
   have hk226 := hk41.kept hg222 (by simp)
   refine dk 2 (v := .int .i64 d.ep) h225 rfl rfl rfl (fun x hx => by subst hx; exact (rn_load1 rfl rfl Try.isAgg3 (hk226.cell rfl))) fun a227 h227 => ?_; clear h225
   refine dk0 3 (v := pt q 0) h227 rfl rfl rfl fun a228 h228 => ?_; clear h227
   refine dk0 4 (v := pt q 0) h228 rfl rfl rfl fun a229 h229 => ?_; clear h228
   refine dk0 5 (v := pt q 1) h229 rfl rfl rfl fun a230 h230 => ?_; clear h229
   refine dk0 6 (v := pt q 1) h230 rfl rfl rfl fun a231 h231 => ?_; clear h230
   have hk232 := hk22.below hb28
   have hk233 := hk232.kept hg222 (by simp)
   refine dk 7 (v := .int .i64 ep) h231 rfl rfl rfl (fun x hx => by subst hx; exact (rn_load1 rfl rfl Try.isAgg3 (hk233.cell rfl))) fun a234 h234 => ?_; clear h231
   refine dk0 8 (v := .bool (decide (d.ep ≤ ep))) h234 rfl rfl rfl fun a235 h235 => ?_; clear h234
   refine dr_done (by kernel_rfl) ?_
   refine co_then ?_
   have hB237 := fbU_new hB36 hg222
   have hk238 := hk16.below hb28
   have hk239 := hk238.kept hg222 (by simp)
   have hO240 := LObj.gr hO31 (below_grown hb28) (fun k e => by cases e)
   have hO241 := LObj.gr hO240 hg222 (fun k e => by cases e)
   cases hc236 : (decide (d.ep ≤ ep))
   ·
    rw [hc236] at h235
    have hp242 : ¬ (d.ep ≤ ep) := of_decide_eq_false hc236
    clear hc236
    refine co_false h235 rfl ?_
    refine wp_skip ?_
    refine co_then ?_
    refine co_reg ?_
    refine pk0 (v := pt q 0) h235 rfl fun a243 h243 => ?_; clear h235
    refine pk0 (v := pt N3 3) h243 rfl fun a244 h244 => ?_; clear h243
    refine pk (v := .agg #[.int .i64 d.ep, mv, .int .u64 d.fl]) h244 rfl (rn_loadN rfl rfl Try.underlying31 rfl (by kernel_rfl) (blk_part hk226 3 (by rfl))) fun a245 h245 => ?_; clear h244
    have ho248 := LObj.ofS hO241
    have hml : d.ms.length ≤ 20 := chkC_len (((chkN_ok (d := d) (by omega)).2.1 (by omega)).1)
    refine pw h245 rfl (op_call (args := #[.agg #[.int .i64 d.ep, mv, .int .u64 d.fl]]) (R := fun res xw => ∃ u : Value, res = .agg #[.int .i64 d.ep, u, .int .u64 d.fl] ∧ xw.ownsRow w221.heap.size 117 2 u d.ms.length (d.ms.flatMap memE) ∧ Below w221.heap.size w221 xw) rfl rfl rfl (by kernel_rfl) (by kernel_rfl) (Try.call31 _ _) (freshConf_any d.ep d.fl mv d.ms w221 (sl_butS hm hB237 hbm) (by first | omega | (simp; done) | (simp; omega))) (by rintro e x ⟨u, rfl, hq250, hb251⟩; exact ⟨_, rfl, ⟨u, rfl, hq250, hb251⟩⟩)) ?_; clear h245
    rintro _ w247 a246 ⟨u249, rfl, hq250, hb251⟩ h246
    have hr253 := row_kept_new hr38 hg222
    have hu252 := row_under hr253 (rfl : w221.heap.size = _)
    have hz254 := hb251.size
    have ho255 := LObj.ofS hO241
    have hl256 := sl_len (row_sl hq250 memE_len)
    refine pk0 (v := pt q 0) h246 rfl fun a257 h257 => ?_; clear h246
    refine pk0 (v := pt q 1) h257 rfl fun a258 h258 => ?_; clear h257
    have hk264 := hk233.below hb251
    refine pwD h258 rfl (op_storePart (k := 1) (cs' := #[pt g 0, .int .i64 d.ep, u249, .int .u64 d.fl, .int .u64 hz]) rfl rfl rfl (all_cons rfl (all_cons (row_one hq250) (all_cons rfl all_nil))) (by kernel_rfl) hk264 rfl rfl) ?_; clear h258
    rintro _ w260 a259 ⟨hk261, hz262, hg263⟩ h259
    have hk261' : Blk w260 q 80 #[pt g 0, .int .i64 d.ep, u249, .int .u64 d.fl, .int .u64 hz] := hk261; clear hk261
    have hz265 := hg263.size
    refine pl_nil ?_
    refine co_blockN ?_
    refine co_then ?_
    refine co_seq ?_
    refine co_reg ?_
    refine pk0 (v := .int .i64 0) h259 rfl fun a266 h266 => ?_; clear h259
    refine pl_nil ?_
    refine co_then ?_
    refine wp_ret ?_
    refine co_ret1 h266 rfl rfl ?_
    have hr267 := row_kept_at hq250 hg263 (own_neT hq250 hk264 (by decide))
    have hO268 := LObj.gr hO241 (below_grown hb251) (fun k e => by cases e)
    have hO269 := LObj.gr hO268 hg263 (fun k e => by cases e; exact hSq)
    have hB270 := fbU_call hB237 hb251
    have hB271 := fbU_at hB270 hg263 (fun hlt => by rcases hinq with hq | hq; exact hq; omega)
    have hAp : ApR d ep hz L 0 d.ep hz L := .inr (.inr (.inr (.inl ⟨by omega, by omega, rfl, by omega, rfl, rfl, rfl⟩)))
    exact ⟨_, _, _, _, _, _, _, _, rfl, hk261', hO269, row_lows hr267 (Nat.zero_le _), by first | assumption | omega, (offR_row ho248 hr267 (Nat.le_refl _)), hinS, hSq, hAp, fun i hi => .inr (by have := (hr267.lt i hi).1; omega), hB271⟩
   ·
    rw [hc236] at h235
    have hp272 : d.ep ≤ ep := of_decide_eq_true hc236
    clear hc236
    refine co_true h235 rfl ?_
    refine co_seq ?_
    refine co_reg ?_
    refine pk0 (v := .int .i64 18) h235 rfl fun a273 h273 => ?_; clear h235
    refine pl_nil ?_
    refine co_then ?_
    refine wp_ret ?_
    refine co_thenR ?_
    refine co_blockR ?_
    refine co_thenR ?_
    refine co_ret1 h273 rfl rfl ?_
    have hr274 := row_kept_new hr38 hg222
    have hAp : ApR d ep hz L 18 ep hz L := .inr (.inr (.inr (.inr ⟨by first | exact .inl ⟨by omega, rfl⟩ | exact .inr (.inl ⟨by omega, by omega, rfl⟩) | exact .inr (.inr ⟨by omega, by omega, by omega, by omega, by omega, rfl⟩), rfl, rfl, rfl⟩)))
    exact ⟨_, _, _, _, _, _, _, _, rfl, hk233, hO241, row_lows hr274 (Nat.zero_le _), by first | assumption | omega, hcS, hinS, hSq, hAp, fun i hi => .inl hi, hB237⟩
 ·
  rw [hc35] at h34
  have hp275 : chkN d ≠ 0 := by first | simpa using hc35 | simpa [and_assoc] using hc35
  clear hc35
  refine co_true h34 rfl ?_
  refine co_seq ?_
  refine co_reg ?_
  refine pk0 (v := .int .i64 (chkN d)) h34 rfl fun a276 h276 => ?_; clear h34
  refine pk0 (v := .int .i64 (chkN d)) h276 rfl fun a277 h277 => ?_; clear h276
  refine pl_nil ?_
  refine co_then ?_
  refine wp_ret ?_
  refine co_thenR ?_
  refine co_ret1 h277 rfl rfl ?_
  have hk278 := hk22.below hb28
  have hO279 := LObj.gr hO31 (below_grown hb28) (fun k e => by cases e)
  have hAp : ApR d ep hz L (chkN d) ep hz L := .inr (.inr (.inr (.inr ⟨by first | exact .inl ⟨by omega, rfl⟩ | exact .inr (.inl ⟨by omega, by omega, rfl⟩) | exact .inr (.inr ⟨by omega, by omega, by omega, by omega, by omega, rfl⟩), rfl, rfl, rfl⟩)))
  exact ⟨_, _, _, _, _, _, _, _, rfl, hk278, hO279, row_lows hr38 (Nat.zero_le _), by first | assumption | omega, hcS, hinS, hSq, hAp, fun i hi => .inl hi, hB36⟩
end Go.Proofs.Ytkjnhghniopnoaa
