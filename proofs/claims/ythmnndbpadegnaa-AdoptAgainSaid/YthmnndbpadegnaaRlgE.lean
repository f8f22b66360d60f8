/- Package rlog: At, All. Conditions: at most 100 entries, 20 operations each. -/
import Derived.Test.YthmnndbpadegnaaRlgD
namespace Go.Proofs.Ythmnndbpadegnaa
open Go.RowKit Go.PlainAid
set_option linter.unusedVariables false


theorem entsK_got {S : Nat → Prop} {n : Nat} {w : World} {L : List EntT} (h : EntsK S n w L) : ∀ z ∈ L, EntOk w z := fun z hz => (h z hz).ok
def atV (L : List EntT) (i : Int) : Bool := decide (0 ≤ i ∧ i < (L.length : Int))
def atE (L : List EntT) (i : Int) : EntT := if atV L i = true then L.getD i.toNat ⟨0, 0, .slice none 0 0, [], 0⟩ else ⟨0, 0, .slice none 0 0, [], 0⟩
theorem atV_n {L : List EntT} {i : Int} (h : i < 0 ∨ (L.length : Int) ≤ i) : atV L i = false := by unfold atV; exact decide_eq_false (by omega)
theorem atE_n {L : List EntT} {i : Int} (h : i < 0 ∨ (L.length : Int) ≤ i) : atE L i = ⟨0, 0, .slice none 0 0, [], 0⟩ := by unfold atE; rw [if_neg (by rw [atV_n h]; simp)]
theorem atV_y {L : List EntT} {i : Int} (h : ¬ (i < 0 ∨ (L.length : Int) ≤ i)) : atV L i = true := by unfold atV; exact decide_eq_true (by omega)
theorem atE_y {L : List EntT} {i : Int} {y : EntT} (h : ¬ (i < 0 ∨ (L.length : Int) ≤ i)) (hy : L[i.toNat]? = some y) : atE L i = y := by unfold atE; rw [if_pos (atV_y h), List.getD_eq_getElem?_getD, hy]; rfl

set_option maxRecDepth 100000 in
theorem lAt_any (w0 : World) (S : Nat → Prop) (b : Nat) (M : Nat) (u : Value) (L : List EntT) (i : Int) (w : World) (hbw : But S w0 w) (hO : LgP S w0.heap.size w b M u L) :
    Calls Try.prog 28 #[pt b 0, .int .i64 i] w fun e w' => ∃ (ev : Value), e = .returned (.tuple #[.agg #[.int .i64 ((atE L i).client), .int .i64 ((atE L i).req), ev, .int .u64 ((atE L i).ts)], .bool (atV L i)]) ∧ w'.ownsRow w.heap.size 127 3 ev ((atE L i).opl).length (((atE L i).opl).flatMap opE) ∧ LgP S w0.heap.size w' b M u L ∧ But (S) w0 w' := by
 have hB0 := hbw
 have hz0 := hbw.size
 have hz0 := hbw.size
 have hl3 := hO.blk.lt; obtain ⟨c1, hm2⟩ := hO.map; have hl4 := hm2.lt; have hne5 := blk_ne_mapN hO.blk hm2; have hln6 := hO.len
 refine co_enter (n := 30) Try.func28 rfl rfl rfl [(0, pt b 0), (1, .int .i64 i)] rfl (fun a h0 => ?_)
 refine co_seq ?_
 refine co_reg ?_
 refine pw h0 rfl (op_new (v := fun N => pt N 0) (T := 47) (cs := #[.int .i64 0, .int .i64 0, .slice none 0 0, .int .u64 0]) (by kernel_rfl) (by kernel_rfl) (by kernel_rfl)) ?_; clear h0
 rintro _ w8 a7 ⟨N9, rfl, hN12, hz13, hk11, hg10⟩ h7
 have ha14 := row_fresh hO.row hN12
 have hu15 := row_under hO.row hN12
 have hz16 := hg10.size
 try dsimp only at h7
 refine pk0 (v := .bool false) h7 rfl fun a17 h17 => ?_; clear h7
 refine pl_nil ?_
 refine co_then ?_
 refine co_seq ?_
 refine co_seq ?_
 refine co_reg ?_
 refine pk0 (v := pt b 0) h17 rfl fun a18 h18 => ?_; clear h17
 have hk21 := hO.blk.kept hg10 (by simp)
 refine pw h18 rfl (op_call (args := #[pt b 0]) (R := fun res xw => res = .bool false ∧ w8 = xw) rfl rfl rfl (by kernel_rfl) (by kernel_rfl) (Try.call78 _ _) (lzero_any b M u w8 hk21) (by rintro e x ⟨rfl, rfl⟩; exact ⟨_, rfl, ⟨rfl, rfl⟩⟩)) ?_; clear h18
 rintro _ _ a19 ⟨rfl, rfl⟩ h19
 refine pk0 (v := .bool false) h19 rfl fun a23 h23 => ?_; clear h19
 refine pk0 (v := .int .i64 i) h23 rfl fun a24 h24 => ?_; clear h23
 refine pk0 (v := .bool (decide (i < 0))) h24 rfl fun a25 h25 => ?_; clear h24
 refine pk0 (v := .bool (decide (i < 0))) h25 rfl fun a26 h26 => ?_; clear h25
 refine pk0 (v := .bool (decide (i < 0))) h26 rfl fun a27 h27 => ?_; clear h26
 have hB29 := fbU_new hB0 hg10
 cases hc28 : (decide (i < 0))
 ·
  rw [hc28] at h27
  have hp30 : ¬ (i < 0) := of_decide_eq_false hc28
  clear hc28
  refine pk0 (v := .int .i64 i) h27 rfl fun a31 h31 => ?_; clear h27
  refine pk0 (v := pt b 0) h31 rfl fun a32 h32 => ?_; clear h31
  refine pk0 (v := pt b 0) h32 rfl fun a33 h33 => ?_; clear h32
  refine pk0 (v := pt b 1) h33 rfl fun a34 h34 => ?_; clear h33
  refine pk (v := u) h34 rfl (rn_load1 rfl rfl Try.isAgg39 (hk21.cell rfl)) fun a35 h35 => ?_; clear h34
  have hr36 := row_kept_new hO.row hg10
  refine pk (v := .int .i64 ((L.length : Nat) : Int)) h35 rfl (rn_lenOwn rfl rfl Try.underlying39 hr36) fun a37 h37 => ?_; clear h35
  refine pk0 (v := .bool (decide (i ≥ ((L.length : Nat) : Int)))) h37 rfl fun a38 h38 => ?_; clear h37
  refine pk0 (v := .bool (decide (i ≥ ((L.length : Nat) : Int)))) h38 rfl fun a39 h39 => ?_; clear h38
  refine pl_nil ?_
  refine co_then ?_
  cases hc40 : (decide (i ≥ ((L.length : Nat) : Int)))
  ·
   rw [hc40] at h39
   have hp41 : ¬ (i ≥ ((L.length : Nat) : Int)) := of_decide_eq_false hc40
   clear hc40
   refine co_false h39 rfl ?_
   refine wp_skip ?_
   refine co_then ?_
   refine co_seq ?_
   refine co_reg ?_
   refine pk0 (v := pt b 0) h39 rfl fun a42 h42 => ?_; clear h39
   refine pk0 (v := pt b 0) h42 rfl fun a43 h43 => ?_; clear h42
   refine pk0 (v := pt b 1) h43 rfl fun a44 h44 => ?_; clear h43
   refine pk (v := u) h44 rfl (rn_load1 rfl rfl Try.isAgg39 (hk21.cell rfl)) fun a45 h45 => ?_; clear h44
   refine pk0 (v := .int .i64 i) h45 rfl fun a46 h46 => ?_; clear h45
   have hE49 := hO.ents.new hg10
   obtain ⟨y47, hy47⟩ : ∃ z, L[(i).toNat]? = some z := ⟨_, List.getElem?_eq_getElem (by first | omega | (simp; done) | (simp; omega))⟩
   have oky47 := (fun (z : EntT) (_ : z ∈ L) => trivial) _ (List.mem_of_getElem? hy47)
   have hy48 := hE49.at hy47
   have hq50 := hy48.ts0; have hq51 := hy48.ts1; have hq52 := hy48.len; have hq53 := wf_i64 hy48.cl; have hq54 := wf_i64 hy48.rq
   refine pk (v := pt (blkOf u) (offOf u + ((i).toNat) * 4)) h46 rfl (rn_index rfl rfl rfl Try.underlying39 Try.sizeOf47 (row_sl hr36 entE_len) (by omega) (by first | omega | (simp; done) | (simp; omega))) fun a55 h55 => ?_; clear h46
   refine pk (v := .agg #[.int .i64 y47.client, .int .i64 y47.req, y47.ops, .int .u64 y47.ts]) h55 rfl (rn_loadN rfl rfl Try.underlying47 rfl (by kernel_rfl) (sl_at (row_sl hr36 entE_len) hy47)) fun a56 h56 => ?_; clear h55
   refine pw h56 rfl (op_call (args := #[.agg #[.int .i64 y47.client, .int .i64 y47.req, y47.ops, .int .u64 y47.ts]]) (R := fun res xw => ∃ u : Value, res = .agg #[.int .i64 y47.client, .int .i64 y47.req, u, .int .u64 y47.ts] ∧ xw.ownsRow w8.heap.size 127 3 u y47.opl.length (y47.opl.flatMap opE) ∧ Below w8.heap.size w8 xw) rfl rfl rfl (by kernel_rfl) (by kernel_rfl) (Try.call81 _ _) (freshEntry_any y47.client y47.req y47.ops y47.opl y47.ts w8 (row_sl hy48.row opE_len) (by first | omega | (simp; done) | (simp; omega))) (by rintro e x ⟨u, rfl, hq60, hb61⟩; exact ⟨_, rfl, ⟨u, rfl, hq60, hb61⟩⟩)) ?_; clear h56
   rintro _ w58 a57 ⟨u59, rfl, hq60, hb61⟩ h57
   have hu62 := row_under hy48.row (rfl : w8.heap.size = _)
   have hz63 := hb61.size
   have hl64 := sl_len (row_sl hq60 opE_len)
   have hk70 := hk11.below hb61
   refine pwD h57 rfl (op_storeN rfl rfl rfl (all_cons rfl (all_cons rfl (all_cons (row_one hq60) (all_cons rfl all_nil)))) (by kernel_rfl) hk70 rfl) ?_; clear h57
   rintro _ w66 a65 ⟨hk67, hz68, hg69⟩ h65
   have hk67' : Blk w66 N9 47 #[.int .i64 y47.client, .int .i64 y47.req, u59, .int .u64 y47.ts] := hk67; clear hk67
   have hz71 := hg69.size
   refine pk0 (v := .bool true) h65 rfl fun a72 h72 => ?_; clear h65
   refine pl_nil ?_
   refine co_then ?_
   refine wp_ret ?_
   refine co_retC1 (Q := fun _ _ _ => True) h72 rfl rfl rfl hk67' Try.underlying47 rfl (by kernel_rfl) ?_
   have hr73 := row_kept_at hq60 hg69 (own_neT hq60 hk70 (by decide))
   have hM74 := hm2.kept hg10 (by simp)
   have hM75 := hM74.kept (below_grown hb61) (by simp)
   have hM76 := hM75.kept hg69 (by simp; omega)
   have hr77 := row_kept_new hr36 (below_grown hb61)
   have hr78 := row_kept_at hr77 hg69 (ha14)
   have hE79 := hE49.new (below_grown hb61)
   have hE80 := hE79.blk hk70 (by decide) hg69
   have hk81 := hk21.below hb61
   have hk82 := hk81.kept hg69 (by simp; omega)
   have hB83 := fbU_call hB29 hb61
   have hB84 := fbU_at hB83 hg69 (fun hlt => absurd hlt (by omega))
   have hA := atE_y (i := i) (by omega) hy47; have hV := atV_y (L := L) (i := i) (by omega)
   exact ⟨_, by rw [hA, hV], by rw [hA]; exact (row_lows hr73 (by omega)), ⟨hk82, ⟨_, hM76⟩, hr78, hE80, hO.sb, hO.sM, hO.su, hO.uq, hO.len⟩, hB84⟩
  ·
   rw [hc40] at h39
   have hp85 : i ≥ ((L.length : Nat) : Int) := of_decide_eq_true hc40
   clear hc40
   refine co_true h39 rfl ?_
   refine co_seq ?_
   refine co_reg ?_
   refine pk0 (v := .agg #[.int .i64 0, .int .i64 0, .slice none 0 0, .int .u64 0]) h39 rfl fun a86 h86 => ?_; clear h39
   refine pwD h86 rfl (op_storeN rfl rfl rfl (all_cons rfl (all_cons rfl (all_cons rfl (all_cons rfl all_nil)))) (by kernel_rfl) hk11 rfl) ?_; clear h86
   rintro _ w88 a87 ⟨hk89, hz90, hg91⟩ h87
   have hk89' : Blk w88 N9 47 #[.int .i64 0, .int .i64 0, .slice none 0 0, .int .u64 0] := hk89; clear hk89
   have hz92 := hg91.size
   refine pk0 (v := .bool false) h87 rfl fun a93 h93 => ?_; clear h87
   refine pl_nil ?_
   refine co_then ?_
   refine wp_ret ?_
   refine co_thenR ?_
   refine co_retC1 (Q := fun _ _ _ => True) h93 rfl rfl rfl hk89' Try.underlying47 rfl (by kernel_rfl) ?_
   have hM94 := hm2.kept hg10 (by simp)
   have hM95 := hM94.kept hg91 (by simp; omega)
   have hr96 := row_kept_at hr36 hg91 (ha14)
   have hE97 := hO.ents.new hg10
   have hE98 := hE97.blk hk11 (by decide) hg91
   have hk99 := hk21.kept hg91 (by simp; omega)
   have hB100 := fbU_at hB29 hg91 (fun hlt => absurd hlt (by omega))
   have hA := atE_n (L := L) (i := i) (by omega); have hV := atV_n (L := L) (i := i) (by omega)
   exact ⟨_, by rw [hA, hV], by rw [hA]; exact World.ownsRow_nil _ _ _ _, ⟨hk99, ⟨_, hM95⟩, hr96, hE98, hO.sb, hO.sM, hO.su, hO.uq, hO.len⟩, hB100⟩
 ·
  rw [hc28] at h27
  have hp101 : i < 0 := of_decide_eq_true hc28
  clear hc28
  refine psk h27 rfl fun a102 h102 => ?_; clear h27
  refine psk h102 rfl fun a103 h103 => ?_; clear h102
  refine psk h103 rfl fun a104 h104 => ?_; clear h103
  refine psk h104 rfl fun a105 h105 => ?_; clear h104
  refine psk h105 rfl fun a106 h106 => ?_; clear h105
  refine psk h106 rfl fun a107 h107 => ?_; clear h106
  refine psk h107 rfl fun a108 h108 => ?_; clear h107
  refine pk0 (v := .bool true) h108 rfl fun a109 h109 => ?_; clear h108
  refine pl_nil ?_
  refine co_then ?_
  refine co_true h109 rfl ?_
  refine co_seq ?_
  refine co_reg ?_
  refine pk0 (v := .agg #[.int .i64 0, .int .i64 0, .slice none 0 0, .int .u64 0]) h109 rfl fun a110 h110 => ?_; clear h109
  refine pwD h110 rfl (op_storeN rfl rfl rfl (all_cons rfl (all_cons rfl (all_cons rfl (all_cons rfl all_nil)))) (by kernel_rfl) hk11 rfl) ?_; clear h110
  rintro _ w112 a111 ⟨hk113, hz114, hg115⟩ h111
  have hk113' : Blk w112 N9 47 #[.int .i64 0, .int .i64 0, .slice none 0 0, .int .u64 0] := hk113; clear hk113
  have hz116 := hg115.size
  refine pk0 (v := .bool false) h111 rfl fun a117 h117 => ?_; clear h111
  refine pl_nil ?_
  refine co_then ?_
  refine wp_ret ?_
  refine co_thenR ?_
  refine co_retC1 (Q := fun _ _ _ => True) h117 rfl rfl rfl hk113' Try.underlying47 rfl (by kernel_rfl) ?_
  have hM118 := hm2.kept hg10 (by simp)
  have hM119 := hM118.kept hg115 (by simp; omega)
  have hr120 := row_kept_new hO.row hg10
  have hr121 := row_kept_at hr120 hg115 (ha14)
  have hE122 := hO.ents.new hg10
  have hE123 := hE122.blk hk11 (by decide) hg115
  have hk124 := hk21.kept hg115 (by simp; omega)
  have hB125 := fbU_at hB29 hg115 (fun hlt => absurd hlt (by omega))
  have hA := atE_n (L := L) (i := i) (by omega); have hV := atV_n (L := L) (i := i) (by omega)
  exact ⟨_, by rw [hA, hV], by rw [hA]; exact World.ownsRow_nil _ _ _ _, ⟨hk124, ⟨_, hM119⟩, hr121, hE123, hO.sb, hO.sM, hO.su, hO.uq, hO.len⟩, hB125⟩
set_option maxRecDepth 100000 in
theorem freshEntries_any (v : Value) (l : List EntT) (w : World) (hs : SliceOf entE 4 w v l) (hok : ∀ z ∈ l, EntOk w z) (hl20 : ∀ z ∈ l, z.opl.length ≤ 20) (hlen : l.length ≤ 100) :
    Calls Try.prog 79 #[v] w fun e w' => ∃ (L2 : List EntT) (u : Value), e = .returned (u) ∧ w'.ownsRow w.heap.size 47 4 u L2.length (L2.flatMap entE) ∧ EntsK (fun _ => False) w.heap.size w' L2 ∧ L2.map e0 = l.map e0 ∧ Below w.heap.size w w' := by
 have hB0 := Below.refl w.heap.size w
 have hl_hs := sl_len hs
 refine co_enter (n := 22) Try.func79 rfl rfl rfl [(0, v)] rfl (fun a h0 => ?_)
 refine co_seq ?_
 refine co_reg ?_
 refine pk0 (v := .slice none 0 0) h0 rfl fun a1 h1 => ?_; clear h0
 refine pl_nil ?_
 refine co_then ?_
 refine co_seq ?_
 refine co_reg ?_
 refine pk0 (v := v) h1 rfl fun a2 h2 => ?_; clear h1
 refine pk (v := .int .i64 ((l.length : Nat) : Int)) h2 rfl (rn_len rfl rfl Try.underlying39 hs) fun a3 h3 => ?_; clear h2
 refine pw h3 rfl (op_makeOwn (base := w.heap.size) (enc := entE) (k := l.length) (by_ := 48) (z := .agg #[.int .i64 0, .int .i64 0, .slice none 0 0, .int .u64 0]) (size := 4) rfl rfl rfl Try.underlying39 (by kernel_rfl) (by omega) (by unfold maxLen; omega) (Nat.le_refl _)) ?_; clear h3
 rintro _ w5 a4 ⟨N6, rfl, hN7, hr8, hg9⟩ h4
 have hz10 := hg9.size
 refine pk0 (v := .slice (some ⟨N6, 0, none⟩) 0 l.length) h4 rfl fun a11 h11 => ?_; clear h4
 refine pl_nil ?_
 refine co_then ?_
 refine co_seq ?_
 refine co_seq ?_
 refine co_reg ?_
 refine pk0 (v := v) h11 rfl fun a12 h12 => ?_; clear h11
 have hB13 := hb_new hB0 hg9
 refine pk (v := .int .i64 ((l.length : Nat) : Int)) h12 rfl (rn_len rfl rfl Try.underlying39 (hs.below hB13)) fun a14 h14 => ?_; clear h12
 refine pk0 (v := .int .i64 0) h14 rfl fun a15 h15 => ?_; clear h14
 refine pl_nil ?_
 refine co_then ?_
 refine wp_block ?_
 have h16 : Slots 22 [(3, .slice (some ⟨N6, 0, none⟩) 0 l.length), (9, v), (10, .int .i64 ((l.length : Nat) : Int)), (11, .int .i64 0)] _ := h15.sub ⟨rfl, rfl, rfl, rfl, trivial⟩; clear h15
 refine co_loop (fun mm a x => ∃ (k : Nat) (u1 : Value) (Lk : List EntT), Slots 22 [(3, u1), (9, v), (10, .int .i64 ((l.length : Nat) : Int)), (11, .int .i64 ((k : Nat) : Int))] a ∧ mm = l.length - k ∧ (k ≤ l.length) ∧ (Lk.map e0 = (l.take k).map e0) ∧ x.ownsRow w.heap.size 47 4 u1 Lk.length (Lk.flatMap entE) ∧ EntsK (fun _ => False) w.heap.size x Lk ∧ Below w.heap.size w x) (l.length - 0) ?_ ?_
 · exact ⟨0, (.slice (some ⟨N6, 0, none⟩) 0 l.length), [], h16.sub ⟨rfl, rfl, rfl, (slot_eq rfl (congrArg (Value.int .i64) (by first | rfl | omega))), trivial⟩, rfl, by omega, by first | rfl | exact he0, (row_eq hr8 (rfl)), (fun e he => by cases he), hB13⟩
 · rintro k17 a18 w19 ⟨k, u1, Lk, h18, rfl, hi20, hi21, hf22, hf23, hB24⟩
   have hz25 := hB24.size
   have hLkl : Lk.length = k := by have hq := congrArg List.length (by assumption : Lk.map e0 = (l.take k).map e0); rw [List.length_map, List.length_map, List.length_take] at hq; omega
   refine co_seq ?_
   refine co_reg ?_
   refine pk0 (v := .bool (decide (((k : Nat) : Int) < ((l.length : Nat) : Int)))) h18 rfl fun a26 h26 => ?_; clear h18
   refine pl_nil ?_
   refine co_then ?_
   refine co_seq ?_
   cases hc27 : (decide (((k : Nat) : Int) < ((l.length : Nat) : Int)))
   ·
    rw [hc27] at h26
    have hp28 : ¬ (((k : Nat) : Int) < ((l.length : Nat) : Int)) := of_decide_eq_false hc27
    clear hc27
    refine co_false h26 rfl ?_
    refine wp_exit ?_
    refine co_thenX ?_
    refine co_thenX ?_
    refine co_blockX ?_
    refine co_then ?_
    refine co_seq ?_
    refine co_reg ?_
    refine pk0 (v := u1) h26 rfl fun a29 h29 => ?_; clear h26
    refine pk0 (v := u1) h29 rfl fun a30 h30 => ?_; clear h29
    refine pl_nil ?_
    refine co_then ?_
    refine wp_ret ?_
    refine co_ret1 h30 rfl rfl ?_
    exact ⟨_, _, rfl, (row_lows hf22 (by omega)), hf23, by have hq := (by assumption : Lk.map e0 = (l.take k).map e0); rwa [List.take_of_length_le (by omega)] at hq, hB24⟩
   ·
    rw [hc27] at h26
    have hp31 : ((k : Nat) : Int) < ((l.length : Nat) : Int) := of_decide_eq_true hc27
    clear hc27
    refine co_true h26 rfl ?_
    refine wp_skip ?_
    refine co_then ?_
    refine co_seq ?_
    refine wp_block ?_
    refine co_seq ?_
    refine co_reg ?_
    obtain ⟨y32, hy32⟩ : ∃ z, l[k]? = some z := ⟨_, List.getElem?_eq_getElem (by first | omega | (simp; done) | (simp; omega))⟩
    have oky32 := hok _ (List.mem_of_getElem? hy32)
    have k33 : 0 ≤ y32.ts := oky32.ts0
    have k34 : y32.ts < 18446744073709551616 := oky32.ts1
    have h20y32 := hl20 y32 (List.mem_of_getElem? hy32)
    refine pk (v := pt (blkOf v) (offOf v + k * 4)) h26 rfl (rn_index rfl rfl rfl Try.underlying39 Try.sizeOf47 (hs.below hB24) (by omega) (by first | omega | (simp; done) | (simp; omega))) fun a35 h35 => ?_; clear h26
    refine pk (v := .agg #[.int .i64 y32.client, .int .i64 y32.req, y32.ops, .int .u64 y32.ts]) h35 rfl (rn_loadN rfl rfl Try.underlying47 rfl (by kernel_rfl) (sl_at (hs.below hB24) hy32)) fun a36 h36 => ?_; clear h35
    refine pw h36 rfl (op_new (v := fun N => pt N 0) (T := 47) (cs := #[.int .i64 0, .int .i64 0, .slice none 0 0, .int .u64 0]) (by kernel_rfl) (by kernel_rfl) (by kernel_rfl)) ?_; clear h36
    rintro _ w38 a37 ⟨N39, rfl, hN42, hz43, hk41, hg40⟩ h37
    have ha44 := row_fresh hf22 hN42
    have hz45 := hg40.size
    try dsimp only at h37
    have hB51 := hb_new hB24 hg40
    refine pwD h37 rfl (op_storeN rfl rfl rfl (all_cons rfl (all_cons rfl (all_cons (sl_one (oky32.ops.below hB51)) (all_cons rfl all_nil)))) (by kernel_rfl) hk41 rfl) ?_; clear h37
    rintro _ w47 a46 ⟨hk48, hz49, hg50⟩ h46
    have hk48' : Blk w47 N39 47 #[.int .i64 y32.client, .int .i64 y32.req, y32.ops, .int .u64 y32.ts] := hk48; clear hk48
    have hz52 := hg50.size
    refine pl_nil ?_
    refine co_then ?_
    refine co_reg ?_
    refine pk0 (v := u1) h46 rfl fun a53 h53 => ?_; clear h46
    refine pk (v := .agg #[.int .i64 y32.client, .int .i64 y32.req, y32.ops, .int .u64 y32.ts]) h53 rfl (rn_loadN rfl rfl Try.underlying47 rfl (by kernel_rfl) hk48'.all) fun a54 h54 => ?_; clear h53
    have hB57 := hb_at hB51 hg50 (by omega)
    refine pw h54 rfl (op_call (args := #[.agg #[.int .i64 y32.client, .int .i64 y32.req, y32.ops, .int .u64 y32.ts]]) (R := fun res xw => ∃ u : Value, res = .agg #[.int .i64 y32.client, .int .i64 y32.req, u, .int .u64 y32.ts] ∧ xw.ownsRow w47.heap.size 127 3 u y32.opl.length (y32.opl.flatMap opE) ∧ Below w47.heap.size w47 xw) rfl rfl rfl (by kernel_rfl) (by kernel_rfl) (Try.call81 _ _) (freshEntry_any y32.client y32.req y32.ops y32.opl y32.ts w47 (oky32.ops.below hB57) (by first | omega | (simp; done) | (simp; omega))) (by rintro e x ⟨u, rfl, hq59, hb60⟩; exact ⟨_, rfl, ⟨u, rfl, hq59, hb60⟩⟩)) ?_; clear h54
    rintro _ w56 a55 ⟨u58, rfl, hq59, hb60⟩ h55
    have hz61 := hb60.size
    have hl62 := sl_len (row_sl hq59 opE_len)
    refine pw h55 rfl (op_new (v := fun N => .slice (some ⟨N, 0, none⟩) 1 1) (T := 47) (cs := #[.int .i64 y32.client, .int .i64 y32.req, u58, .int .u64 y32.ts]) (by kernel_rfl) (by kernel_rfl) (by kernel_rfl)) ?_; clear h55
    rintro _ w64 a63 ⟨N65, rfl, hN68, hz69, hk67, hg66⟩ h63
    have hr71 := row_kept_new hf22 hg40
    have hr72 := row_kept_at hr71 hg50 (ha44)
    have hr73 := row_kept_new hr72 (below_grown hb60)
    have ha70 := row_fresh hr73 hN68
    have ha74 := row_fresh hq59 hN68
    have hz75 := hg66.size
    try dsimp only at h63
    have hr82 := row_kept_new hr73 hg66
    have hr83 := row_kept_new hq59 hg66
    refine pw h63 rfl (op_append rfl w.heap.size 47 (z := .agg #[.int .i64 0, .int .i64 0, .slice none 0 0, .int .u64 0]) (size := 4) (bytes := 48) Try.underlying39 (by kernel_rfl) rfl rfl rfl hr82 rfl hk67 rfl (all_cons rfl (all_cons rfl (all_cons (row_one hr83) (all_cons rfl all_nil)))) (by first | omega | (simp only [List.length_nil, List.length_append, List.length_cons, List.length_take, List.length_drop]; omega)) (by first | omega | (simp only [List.length_nil, List.length_append, List.length_cons, List.length_take, List.length_drop]; omega)) (by omega)) ?_; clear h63
    rintro v78 w77 a76 ⟨hr79, hg80⟩ h76
    have hr79' : w77.ownsRow w.heap.size 47 4 v78 ((Lk ++ [(EntT.mk y32.client y32.req u58 y32.opl y32.ts)]).length) ((Lk ++ [(EntT.mk y32.client y32.req u58 y32.opl y32.ts)]).flatMap entE) := row_push (y := (EntT.mk y32.client y32.req u58 y32.opl y32.ts)) hr79 rfl rfl; clear hr79
    have hz84 := hg80.size
    refine pk0 (v := v78) h76 rfl fun a85 h85 => ?_; clear h76
    refine pl_nil ?_
    refine co_blockN ?_
    refine co_then ?_
    refine co_reg ?_
    refine pk (v := .int .i64 ((k + 1 : Nat) : Int)) h85 rfl (rn_arith' rfl rfl rfl rfl rfl rfl (IntWalk.i64_in _ (by omega)) (by omega)) fun a86 h86 => ?_; clear h85
    refine pk0 (v := .int .i64 ((k + 1 : Nat) : Int)) h86 rfl fun a87 h87 => ?_; clear h86
    refine pl_nil ?_
    refine co_then ?_
    refine ⟨(l.length - (k + 1)), by omega, ?_⟩
    have he0 := e0_snoc (by assumption : Lk.map e0 = _) hy32 (z := (EntT.mk y32.client y32.req u58 y32.opl y32.ts)) rfl
    have hE88 := hf23.new hg40
    have hE89 := hE88.blk hk41 (by decide) hg50
    have hE90 := hE89.new (below_grown hb60)
    have hE91 := hE90.new hg66
    have hE92 := hE91.row hr82 (by decide) hg80
    have hr93 := row_kept_row hr83 hr82 hg80 (by decide)
    have hB94 := hb_call hB57 hb60
    have hB95 := hb_new hB94 hg66
    have hB96 := hb_row hB95 hr82 (by omega) hg80
    exact ⟨k + 1, v78, (Lk ++ [(EntT.mk y32.client y32.req u58 y32.opl y32.ts)]), h87.sub ⟨rfl, rfl, rfl, rfl, trivial⟩, rfl, by omega, by first | rfl | exact he0, (row_eq hr79' (rfl)), (EntsK.snoc hE92 (e := EntT.mk y32.client y32.req u58 y32.opl y32.ts) ⟨row_lows hr93 (Nat.zero_le _), InS.low hr93 (by omega), by omega, oky32.each, oky32.ts0, oky32.ts1, oky32.cl, oky32.rq⟩), hB96⟩
set_option maxRecDepth 100000 in
theorem lAll_any (w0 : World) (S : Nat → Prop) (b : Nat) (M : Nat) (u : Value) (L : List EntT) (w : World) (hbw : But S w0 w) (hO : LgP S w0.heap.size w b M u L) :
    Calls Try.prog 24 #[pt b 0] w fun e w' => ∃ (L2 : List EntT) (u2 : Value), e = .returned (u2) ∧ w'.ownsRow w.heap.size 47 4 u2 L2.length (L2.flatMap entE) ∧ EntsK (fun _ => False) w.heap.size w' L2 ∧ L2.map e0 = L.map e0 ∧ LgP S w0.heap.size w' b M u L ∧ But (S) w0 w' := by
 have hB0 := hbw
 have hz0 := hbw.size
 have hz0 := hbw.size
 have hl3 := hO.blk.lt; obtain ⟨c1, hm2⟩ := hO.map; have hl4 := hm2.lt; have hne5 := blk_ne_mapN hO.blk hm2; have hln6 := hO.len
 refine co_enter (n := 10) Try.func24 rfl rfl rfl [(0, pt b 0)] rfl (fun a h0 => ?_)
 refine co_seq ?_
 refine co_reg ?_
 refine pk0 (v := .slice none 0 0) h0 rfl fun a7 h7 => ?_; clear h0
 refine pl_nil ?_
 refine co_then ?_
 refine co_seq ?_
 refine co_seq ?_
 refine co_reg ?_
 refine pk0 (v := pt b 0) h7 rfl fun a8 h8 => ?_; clear h7
 refine pw h8 rfl (op_call (args := #[pt b 0]) (R := fun res xw => res = .bool false ∧ w = xw) rfl rfl rfl (by kernel_rfl) (by kernel_rfl) (Try.call78 _ _) (lzero_any b M u w hO.blk) (by rintro e x ⟨rfl, rfl⟩; exact ⟨_, rfl, ⟨rfl, rfl⟩⟩)) ?_; clear h8
 rintro _ _ a9 ⟨rfl, rfl⟩ h9
 refine pl_nil ?_
 refine co_then ?_
 refine co_false h9 rfl ?_
 refine wp_skip ?_
 refine co_then ?_
 refine co_seq ?_
 refine co_reg ?_
 refine pk0 (v := pt b 0) h9 rfl fun a12 h12 => ?_; clear h9
 refine pk0 (v := pt b 0) h12 rfl fun a13 h13 => ?_; clear h12
 refine pk0 (v := pt b 1) h13 rfl fun a14 h14 => ?_; clear h13
 refine pk (v := u) h14 rfl (rn_load1 rfl rfl Try.isAgg39 (hO.blk.cell rfl)) fun a15 h15 => ?_; clear h14
 refine pw h15 rfl (op_call (args := #[u]) (R := fun res xw => ∃ L2 : List EntT, ∃ u : Value, res = u ∧ xw.ownsRow w.heap.size 47 4 u L2.length (L2.flatMap entE) ∧ EntsK (fun _ => False) w.heap.size xw L2 ∧ L2.map e0 = L.map e0 ∧ Below w.heap.size w xw) rfl rfl rfl (by kernel_rfl) (by kernel_rfl) (Try.call79 _ _) (freshEntries_any u L w (row_sl hO.row entE_len) (entsK_got hO.ents) (fun z hz => (hO.ents z hz).len) hO.len) (by rintro e x ⟨L2, u, rfl, hq20, hq21, hq22, hb23⟩; exact ⟨_, rfl, ⟨L2, u, rfl, hq20, hq21, hq22, hb23⟩⟩)) ?_; clear h15
 rintro u19 w17 a16 ⟨L218, _, rfl, hq20, hq21, hq22, hb23⟩ h16
 have hu24 := row_under hO.row (rfl : w.heap.size = _)
 have hz25 := hb23.size
 have hl26 := sl_len (row_sl hq20 entE_len)
 refine pk0 (v := u19) h16 rfl fun a27 h27 => ?_; clear h16
 refine pl_nil ?_
 refine co_then ?_
 refine wp_ret ?_
 refine co_ret1 h27 rfl rfl ?_
 have hM28 := hm2.kept (below_grown hb23) (by simp)
 have hr29 := row_kept_new hO.row (below_grown hb23)
 have hE30 := hO.ents.new (below_grown hb23)
 have hk31 := hO.blk.below hb23
 have hB32 := fbU_call hB0 hb23
 exact ⟨_, _, rfl, (row_lows hq20 (by omega)), hq21, hq22, ⟨hk31, ⟨_, hM28⟩, hr29, hE30, hO.sb, hO.sM, hO.su, hO.uq, hO.len⟩, hB32⟩
end Go.Proofs.Ythmnndbpadegnaa
