/- Package rlog: Stamp, Find, Top, Len, Stamped. Conditions: at most 100 entries, 20 operations each. -/
import Derived.Test.YthmnndbpadegnaaRlgC
namespace Go.Proofs.Ythmnndbpadegnaa
open Go.RowKit Go.PlainAid
set_option linter.unusedVariables false


def e0 (e : EntT) : EntT := { e with ops := .slice none 0 0 }
def stE (L : List EntT) (i ts : Int) : Int := if i < 0 ∨ (L.length : Int) ≤ i then 1 else if ts = 0 then 5 else if i ≠ ((stN L : Nat) : Int) ∨ ts ≤ lastT L then 18 else 0
def stL (L : List EntT) (i ts : Int) : List EntT := if stE L i ts = 0 then rsL L i.toNat ts (i.toNat + 1) else L
section
variable {L : List EntT} {i ts : Int}
theorem stE_a (h : i < 0 ∨ (L.length : Int) ≤ i) : stE L i ts = 1 := by unfold stE; rw [if_pos h]
theorem stE_b (h : ¬ (i < 0 ∨ (L.length : Int) ≤ i)) (h2 : ts = 0) : stE L i ts = 5 := by unfold stE; rw [if_neg h, if_pos h2]
theorem stE_c (h : ¬ (i < 0 ∨ (L.length : Int) ≤ i)) (h2 : ¬ ts = 0) (h3 : i ≠ ((stN L : Nat) : Int) ∨ ts ≤ lastT L) : stE L i ts = 18 := by unfold stE; rw [if_neg h, if_neg h2, if_pos h3]
theorem stE_d (h : ¬ (i < 0 ∨ (L.length : Int) ≤ i)) (h2 : ¬ ts = 0) (h3 : ¬ (i ≠ ((stN L : Nat) : Int) ∨ ts ≤ lastT L)) : stE L i ts = 0 := by unfold stE; rw [if_neg h, if_neg h2, if_neg h3]
theorem stL_no (h : stE L i ts ≠ 0) : stL L i ts = L := by unfold stL; rw [if_neg h]
theorem stL_ok (h : stE L i ts = 0) {y : EntT} (hy : L[i.toNat]? = some y) : stL L i ts = L.set i.toNat { y with ts := ts } := by unfold stL; rw [if_pos h, rsL_1 hy]
theorem stL_nm : (stL L i ts).map nmE = L.map nmE := by unfold stL; split; exact rsL_nm _ _ _ _; rfl
theorem stL_len : (stL L i ts).length = L.length := by unfold stL; split; exact rsL_len _ _ _ _; rfl
end
def fndI (L : List EntT) (c r : Int) : Int := (findN L (c, r)).getD (-1)
theorem fndI_n {L : List EntT} {c r : Int} (h : (findN L (c, r)).isSome = false) : fndI L c r = -1 := by
  unfold fndI; cases hg : findN L (c, r) with
  | none => rfl
  | some a => rw [hg] at h; cases h
theorem fndI_y {L : List EntT} {c r f : Int} (h : (findN L (c, r)).isSome = true) (hf : (findN L (c, r)).getD 0 = f) : fndI L c r = f := by
  unfold fndI; cases hg : findN L (c, r) with
  | none => rw [hg] at h; cases h
  | some a => rw [hg] at hf; exact hf
def topN (L : List EntT) (c : Int) : Int := L.foldl (fun m e => if e.client = c then (if m < e.req then e.req else m) else m) 0
theorem topN_at {L : List EntT} {i : Nat} {c : Int} {y : EntT} (h : L[i]? = some y) : topN (L.take (i + 1)) c = if y.client = c then (if topN (L.take i) c < y.req then y.req else topN (L.take i) c) else topN (L.take i) c := by
  rw [takeE h]; unfold topN; rw [List.foldl_append]; rfl
theorem e0_snoc {A B : List EntT} {k : Nat} {y z : EntT} (h : A.map e0 = (B.take k).map e0) (hy : B[k]? = some y) (e : e0 z = e0 y) : (A ++ [z]).map e0 = (B.take (k + 1)).map e0 := by
  rw [takeE hy, List.map_append, List.map_append, h]; simp [e]

set_option maxRecDepth 100000 in
theorem lStamp_any (w0 : World) (S : Nat → Prop) (b : Nat) (M : Nat) (u : Value) (L : List EntT) (i : Int) (ts : Int) (w : World) (hbw : But S w0 w) (hO : LgP S w0.heap.size w b M u L) (hts : 0 ≤ ts ∧ ts < 18446744073709551616) :
    Calls Try.prog 40 #[pt b 0, .int .i64 i, .int .u64 ts] w fun e w' => e = .returned (.int .i64 (stE L i ts)) ∧ LgP S w0.heap.size w' b M u (stL L i ts) ∧ But (S) w0 w' := by
 have hst := stN_le L
 have hB0 := hbw
 have hz0 := hbw.size
 have hz0 := hbw.size
 have hl3 := hO.blk.lt; obtain ⟨c1, hm2⟩ := hO.map; have hl4 := hm2.lt; have hne5 := blk_ne_mapN hO.blk hm2; have hln6 := hO.len
 refine co_enter (n := 46) Try.func40 rfl rfl rfl [(0, pt b 0), (1, .int .i64 i), (2, .int .u64 ts)] rfl (fun a h0 => ?_)
 refine co_seq ?_
 refine co_reg ?_
 refine pk0 (v := .int .i64 0) h0 rfl fun a7 h7 => ?_; clear h0
 refine pl_nil ?_
 refine co_then ?_
 refine co_seq ?_
 refine co_seq ?_
 refine co_reg ?_
 refine pk0 (v := pt b 0) h7 rfl fun a8 h8 => ?_; clear h7
 refine pw h8 rfl (op_call (args := #[pt b 0]) (R := fun res xw => res = .bool false ∧ w = xw) rfl rfl rfl (by kernel_rfl) (by kernel_rfl) (Try.call78 _ _) (lzero_any b M u w hO.blk) (by rintro e x ⟨rfl, rfl⟩; exact ⟨_, rfl, ⟨rfl, rfl⟩⟩)) ?_; clear h8
 rintro _ _ a9 ⟨rfl, rfl⟩ h9
 refine pl_nil ?_
 refine co_then ?_
 refine co_false h9 rfl ?_
 refine wp_skip ?_
 refine co_then ?_
 refine co_seq ?_
 refine co_seq ?_
 refine co_reg ?_
 refine pk0 (v := .int .i64 i) h9 rfl fun a12 h12 => ?_; clear h9
 refine pk0 (v := .bool (decide (i < 0))) h12 rfl fun a13 h13 => ?_; clear h12
 refine pk0 (v := .bool (decide (i < 0))) h13 rfl fun a14 h14 => ?_; clear h13
 cases hc15 : (decide (i < 0))
 ·
  rw [hc15] at h14
  have hp16 : ¬ (i < 0) := of_decide_eq_false hc15
  clear hc15
  refine pk0 (v := .int .i64 i) h14 rfl fun a17 h17 => ?_; clear h14
  refine pk0 (v := pt b 0) h17 rfl fun a18 h18 => ?_; clear h17
  refine pk0 (v := pt b 0) h18 rfl fun a19 h19 => ?_; clear h18
  refine pk0 (v := pt b 1) h19 rfl fun a20 h20 => ?_; clear h19
  refine pk (v := u) h20 rfl (rn_load1 rfl rfl Try.isAgg39 (hO.blk.cell rfl)) fun a21 h21 => ?_; clear h20
  refine pk (v := .int .i64 ((L.length : Nat) : Int)) h21 rfl (rn_lenOwn rfl rfl Try.underlying39 hO.row) fun a22 h22 => ?_; clear h21
  refine pk0 (v := .bool (decide (i ≥ ((L.length : Nat) : Int)))) h22 rfl fun a23 h23 => ?_; clear h22
  refine pk0 (v := .bool (decide (i ≥ ((L.length : Nat) : Int)))) h23 rfl fun a24 h24 => ?_; clear h23
  refine pl_nil ?_
  refine co_then ?_
  cases hc25 : (decide (i ≥ ((L.length : Nat) : Int)))
  ·
   rw [hc25] at h24
   have hp26 : ¬ (i ≥ ((L.length : Nat) : Int)) := of_decide_eq_false hc25
   clear hc25
   refine co_false h24 rfl ?_
   refine wp_skip ?_
   refine co_then ?_
   refine co_seq ?_
   refine co_seq ?_
   refine co_reg ?_
   refine pk0 (v := .int .u64 ts) h24 rfl fun a27 h27 => ?_; clear h24
   refine pk0 (v := .bool (ts == 0)) h27 rfl fun a28 h28 => ?_; clear h27
   refine pl_nil ?_
   refine co_then ?_
   cases hc29 : (ts == 0)
   ·
    rw [hc29] at h28
    have hp30 : ¬ (ts = 0) := by first | simpa using hc29 | simpa [and_assoc] using hc29
    clear hc29
    refine co_false h28 rfl ?_
    refine wp_skip ?_
    refine co_then ?_
    refine co_seq ?_
    refine co_seq ?_
    refine co_reg ?_
    refine pk0 (v := .int .i64 i) h28 rfl fun a31 h31 => ?_; clear h28
    refine pk0 (v := pt b 0) h31 rfl fun a32 h32 => ?_; clear h31
    refine pk0 (v := pt b 0) h32 rfl fun a33 h33 => ?_; clear h32
    refine pk0 (v := pt b 1) h33 rfl fun a34 h34 => ?_; clear h33
    refine pk (v := u) h34 rfl (rn_load1 rfl rfl Try.isAgg39 (hO.blk.cell rfl)) fun a35 h35 => ?_; clear h34
    refine pw h35 rfl (op_call (args := #[u]) (R := fun res xw => res = .int .i64 ((stN L : Nat) : Int) ∧ Below w.heap.size w xw) rfl rfl rfl (by kernel_rfl) (by kernel_rfl) (Try.call80 _ _) (itemStamped_any u L w (row_sl hO.row entE_len) (fun z hz => (hO.ents z hz).ok)) (by rintro e x ⟨rfl, hb38⟩; exact ⟨_, rfl, ⟨rfl, hb38⟩⟩)) ?_; clear h35
    rintro _ w37 a36 ⟨rfl, hb38⟩ h36
    have hz39 := hb38.size
    refine pk0 (v := .bool (i != ((stN L : Nat) : Int))) h36 rfl fun a40 h40 => ?_; clear h36
    refine pk0 (v := .bool (i != ((stN L : Nat) : Int))) h40 rfl fun a41 h41 => ?_; clear h40
    have hB43 := fbU_call hB0 hb38
    cases hc42 : (i != ((stN L : Nat) : Int))
    ·
     rw [hc42] at h41
     have hp44 : ¬ (i ≠ ((stN L : Nat) : Int)) := by first | simpa using hc42 | simpa [and_assoc] using hc42
     clear hc42
     refine pk0 (v := .int .u64 ts) h41 rfl fun a45 h45 => ?_; clear h41
     refine pk0 (v := pt b 0) h45 rfl fun a46 h46 => ?_; clear h45
     refine pk0 (v := pt b 0) h46 rfl fun a47 h47 => ?_; clear h46
     refine pk0 (v := pt b 1) h47 rfl fun a48 h48 => ?_; clear h47
     have hk49 := hO.blk.below hb38
     refine pk (v := u) h48 rfl (rn_load1 rfl rfl Try.isAgg39 (hk49.cell rfl)) fun a50 h50 => ?_; clear h48
     have hE53 := hO.ents.new (below_grown hb38)
     have hr54 := row_kept_new hO.row (below_grown hb38)
     refine pw h50 rfl (op_call (args := #[u]) (R := fun res xw => res = .int .u64 (lastT L) ∧ Below w37.heap.size w37 xw) rfl rfl rfl (by kernel_rfl) (by kernel_rfl) (Try.call90 _ _) (itemLast_any u L w37 (row_sl hr54 entE_len) (fun z hz => (hE53 z hz).ok)) (by rintro e x ⟨rfl, hb55⟩; exact ⟨_, rfl, ⟨rfl, hb55⟩⟩)) ?_; clear h50
     rintro _ w52 a51 ⟨rfl, hb55⟩ h51
     have hz56 := hb55.size
     refine pk0 (v := .bool (decide (ts ≤ lastT L))) h51 rfl fun a57 h57 => ?_; clear h51
     refine pk0 (v := .bool (decide (ts ≤ lastT L))) h57 rfl fun a58 h58 => ?_; clear h57
     refine pl_nil ?_
     refine co_then ?_
     have hB60 := fbU_call hB43 hb55
     have hM61 := hm2.kept (below_grown hb38) (by simp)
     have hM62 := hM61.kept (below_grown hb55) (by simp)
     cases hc59 : (decide (ts ≤ lastT L))
     ·
      rw [hc59] at h58
      have hp63 : ¬ (ts ≤ lastT L) := of_decide_eq_false hc59
      clear hc59
      refine co_false h58 rfl ?_
      refine wp_skip ?_
      refine co_then ?_
      refine co_seq ?_
      refine co_reg ?_
      refine pk0 (v := pt b 0) h58 rfl fun a64 h64 => ?_; clear h58
      refine pk0 (v := pt b 0) h64 rfl fun a65 h65 => ?_; clear h64
      refine pk0 (v := pt b 1) h65 rfl fun a66 h66 => ?_; clear h65
      have hk67 := hk49.below hb55
      refine pk (v := u) h66 rfl (rn_load1 rfl rfl Try.isAgg39 (hk67.cell rfl)) fun a68 h68 => ?_; clear h66
      refine pk0 (v := .int .i64 i) h68 rfl fun a69 h69 => ?_; clear h68
      refine pk0 (v := .int .u64 ts) h69 rfl fun a70 h70 => ?_; clear h69
      have hE73 := hE53.new (below_grown hb55)
      have hr79 := row_kept_new hr54 (below_grown hb55)
      obtain ⟨y71, hy71⟩ : ∃ z, L[(i).toNat]? = some z := ⟨_, List.getElem?_eq_getElem (by first | omega | (simp; done) | (simp; omega))⟩
      have oky71 := (fun (z : EntT) (_ : z ∈ L) => trivial) _ (List.mem_of_getElem? hy71)
      have hy72 := hE73.at hy71
      have hq74 := hy72.ts0; have hq75 := hy72.ts1; have hq76 := hy72.len; have hq77 := wf_i64 hy72.cl; have hq78 := wf_i64 hy72.rq
      refine pk (v := pt (blkOf u) (offOf u + ((i).toNat) * 4)) h70 rfl (rn_index rfl rfl rfl Try.underlying39 Try.sizeOf47 (row_sl hr79 entE_len) (by omega) (by first | omega | (simp; done) | (simp; omega))) fun a80 h80 => ?_; clear h70
      refine pk0 (v := pt (blkOf u) (offOf u + ((i).toNat) * 4 + 3)) h80 rfl fun a81 h81 => ?_; clear h80
      refine pwD h81 rfl (op_storeRow (c := ((i).toNat) * 4 + 3) rfl rfl rfl rfl Try.sizeOf45 hr79 (flat_lt entE_len (by first | omega | (simp; omega)) (by omega)) (by first | rfl | omega)) ?_; clear h81
      rintro _ w83 a82 ⟨hr84, hz85, hg86⟩ h82
      have hr84' := row_set (y' := (EntT.mk y71.client y71.req (y71.ops) y71.opl ts)) hr84 entE_len hy71 (by omega) rfl; clear hr84
      have hz87 := hg86.size
      have hE88 := hE73.row hr79 (by decide) hg86
      have hE89 := EntsK.set (i := ((i).toNat)) hE88 (EntK.ts (t := ts) (EntsK.at hE88 hy71) (by omega))
      refine pl_nil ?_
      refine co_then ?_
      refine co_seq ?_
      refine co_reg ?_
      refine pk0 (v := .int .i64 0) h82 rfl fun a90 h90 => ?_; clear h82
      refine pl_nil ?_
      refine co_then ?_
      refine wp_ret ?_
      refine co_ret1 h90 rfl rfl ?_
      have hM91 := hM62.kept hg86 (hM62.row hr79)
      have hk92 := hk67.kept hg86 (own_neT hr79 hk67 (by decide))
      have hB93 := fbU_row hB60 hO.su hg86
      have hE : stE L i ts = 0 := stE_d (by omega) (by omega) (by omega)
      have hl0 := stL_ok (ts := ts) hE hy71
      have hnm : (stL L i ts).map nmE = L.map nmE := stL_nm
      exact ⟨ret_int hE.symm, ⟨hk92, ⟨_, hM91.eq ((findN_nm hnm).symm) (Nat.le_refl _)⟩, (row_eq hr84' (hl0.symm)), (hE89.eq (hl0.symm)), hO.sb, hO.sM, hO.su, (hO.uq.nm hnm), (by rw [stL_len]; exact hO.len)⟩, hB93⟩
     ·
      rw [hc59] at h58
      have hp94 : ts ≤ lastT L := of_decide_eq_true hc59
      clear hc59
      refine co_true h58 rfl ?_
      refine co_seq ?_
      refine co_reg ?_
      refine pk0 (v := .int .i64 18) h58 rfl fun a95 h95 => ?_; clear h58
      refine pl_nil ?_
      refine co_then ?_
      refine wp_ret ?_
      refine co_thenR ?_
      refine co_ret1 h95 rfl rfl ?_
      have hr96 := row_kept_new hr54 (below_grown hb55)
      have hE97 := hE53.new (below_grown hb55)
      have hk98 := hk49.below hb55
      have hE : stE L i ts = 18 := stE_c (by omega) (by omega) (by omega)
      exact ⟨ret_int hE.symm, by rw [stL_no (by rw [hE]; omega)]; exact ⟨hk98, ⟨_, hM62⟩, hr96, hE97, hO.sb, hO.sM, hO.su, hO.uq, hO.len⟩, hB60⟩
    ·
     rw [hc42] at h41
     have hp99 : i ≠ ((stN L : Nat) : Int) := by first | simpa using hc42 | simpa [and_assoc] using hc42
     clear hc42
     refine psk h41 rfl fun a100 h100 => ?_; clear h41
     refine psk h100 rfl fun a101 h101 => ?_; clear h100
     refine psk h101 rfl fun a102 h102 => ?_; clear h101
     refine psk h102 rfl fun a103 h103 => ?_; clear h102
     refine psk h103 rfl fun a104 h104 => ?_; clear h103
     refine psk h104 rfl fun a105 h105 => ?_; clear h104
     refine psk h105 rfl fun a106 h106 => ?_; clear h105
     refine pk0 (v := .bool true) h106 rfl fun a107 h107 => ?_; clear h106
     refine pl_nil ?_
     refine co_then ?_
     refine co_true h107 rfl ?_
     refine co_seq ?_
     refine co_reg ?_
     refine pk0 (v := .int .i64 18) h107 rfl fun a108 h108 => ?_; clear h107
     refine pl_nil ?_
     refine co_then ?_
     refine wp_ret ?_
     refine co_thenR ?_
     refine co_ret1 h108 rfl rfl ?_
     have hM109 := hm2.kept (below_grown hb38) (by simp)
     have hr110 := row_kept_new hO.row (below_grown hb38)
     have hE111 := hO.ents.new (below_grown hb38)
     have hk112 := hO.blk.below hb38
     have hE : stE L i ts = 18 := stE_c (by omega) (by omega) (by omega)
     exact ⟨ret_int hE.symm, by rw [stL_no (by rw [hE]; omega)]; exact ⟨hk112, ⟨_, hM109⟩, hr110, hE111, hO.sb, hO.sM, hO.su, hO.uq, hO.len⟩, hB43⟩
   ·
    rw [hc29] at h28
    have hp113 : ts = 0 := by first | simpa using hc29 | simpa [and_assoc] using hc29
    clear hc29
    refine co_true h28 rfl ?_
    refine co_seq ?_
    refine co_reg ?_
    refine pk0 (v := .int .i64 5) h28 rfl fun a114 h114 => ?_; clear h28
    refine pl_nil ?_
    refine co_then ?_
    refine wp_ret ?_
    refine co_thenR ?_
    refine co_ret1 h114 rfl rfl ?_
    have hE : stE L i ts = 5 := stE_b (by omega) (by omega)
    exact ⟨ret_int hE.symm, by rw [stL_no (by rw [hE]; omega)]; exact ⟨hO.blk, ⟨_, hm2⟩, hO.row, hO.ents, hO.sb, hO.sM, hO.su, hO.uq, hO.len⟩, hB0⟩
  ·
   rw [hc25] at h24
   have hp115 : i ≥ ((L.length : Nat) : Int) := of_decide_eq_true hc25
   clear hc25
   refine co_true h24 rfl ?_
   refine co_seq ?_
   refine co_reg ?_
   refine pk0 (v := .int .i64 1) h24 rfl fun a116 h116 => ?_; clear h24
   refine pl_nil ?_
   refine co_then ?_
   refine wp_ret ?_
   refine co_thenR ?_
   refine co_ret1 h116 rfl rfl ?_
   have hE : stE L i ts = 1 := stE_a (by omega)
   exact ⟨ret_int hE.symm, by rw [stL_no (by rw [hE]; omega)]; exact ⟨hO.blk, ⟨_, hm2⟩, hO.row, hO.ents, hO.sb, hO.sM, hO.su, hO.uq, hO.len⟩, hB0⟩
 ·
  rw [hc15] at h14
  have hp117 : i < 0 := of_decide_eq_true hc15
  clear hc15
  refine psk h14 rfl fun a118 h118 => ?_; clear h14
  refine psk h118 rfl fun a119 h119 => ?_; clear h118
  refine psk h119 rfl fun a120 h120 => ?_; clear h119
  refine psk h120 rfl fun a121 h121 => ?_; clear h120
  refine psk h121 rfl fun a122 h122 => ?_; clear h121
  refine psk h122 rfl fun a123 h123 => ?_; clear h122
  refine psk h123 rfl fun a124 h124 => ?_; clear h123
  refine pk0 (v := .bool true) h124 rfl fun a125 h125 => ?_; clear h124
  refine pl_nil ?_
  refine co_then ?_
  refine co_true h125 rfl ?_
  refine co_seq ?_
  refine co_reg ?_
  refine pk0 (v := .int .i64 1) h125 rfl fun a126 h126 => ?_; clear h125
  refine pl_nil ?_
  refine co_then ?_
  refine wp_ret ?_
  refine co_thenR ?_
  refine co_ret1 h126 rfl rfl ?_
  have hE : stE L i ts = 1 := stE_a (by omega)
  exact ⟨ret_int hE.symm, by rw [stL_no (by rw [hE]; omega)]; exact ⟨hO.blk, ⟨_, hm2⟩, hO.row, hO.ents, hO.sb, hO.sM, hO.su, hO.uq, hO.len⟩, hB0⟩
set_option maxRecDepth 100000 in
theorem lFind_any (w0 : World) (S : Nat → Prop) (b : Nat) (M : Nat) (u : Value) (L : List EntT) (cl : Int) (rq : Int) (w : World) (hbw : But S w0 w) (hO : LgP S w0.heap.size w b M u L) :
    Calls Try.prog 30 #[pt b 0, .int .i64 cl, .int .i64 rq] w fun e w' => e = .returned (.int .i64 (fndI L cl rq)) ∧ LgP S w0.heap.size w' b M u L ∧ But (S) w0 w' := by
 have hB0 := hbw
 have hz0 := hbw.size
 have hz0 := hbw.size
 have hl3 := hO.blk.lt; obtain ⟨c1, hm2⟩ := hO.map; have hl4 := hm2.lt; have hne5 := blk_ne_mapN hO.blk hm2; have hln6 := hO.len
 refine co_enter (n := 26) Try.func30 rfl rfl rfl [(0, pt b 0), (1, .int .i64 cl), (2, .int .i64 rq)] rfl (fun a h0 => ?_)
 refine co_seq ?_
 refine co_reg ?_
 refine pk0 (v := .int .i64 0) h0 rfl fun a7 h7 => ?_; clear h0
 refine pl_nil ?_
 refine co_then ?_
 refine co_seq ?_
 refine co_seq ?_
 refine co_reg ?_
 refine pk0 (v := pt b 0) h7 rfl fun a8 h8 => ?_; clear h7
 refine pw h8 rfl (op_call (args := #[pt b 0]) (R := fun res xw => res = .bool false ∧ w = xw) rfl rfl rfl (by kernel_rfl) (by kernel_rfl) (Try.call78 _ _) (lzero_any b M u w hO.blk) (by rintro e x ⟨rfl, rfl⟩; exact ⟨_, rfl, ⟨rfl, rfl⟩⟩)) ?_; clear h8
 rintro _ _ a9 ⟨rfl, rfl⟩ h9
 refine pl_nil ?_
 refine co_then ?_
 refine co_false h9 rfl ?_
 refine wp_skip ?_
 refine co_then ?_
 refine co_seq ?_
 refine co_reg ?_
 refine pk0 (v := pt b 0) h9 rfl fun a12 h12 => ?_; clear h9
 refine pk0 (v := pt b 0) h12 rfl fun a13 h13 => ?_; clear h12
 refine pk0 (v := pt b 2) h13 rfl fun a14 h14 => ?_; clear h13
 refine pk (v := .map (some M)) h14 rfl (rn_load1 rfl rfl Try.isAgg65 (hO.blk.cell rfl)) fun a15 h15 => ?_; clear h14
 refine pk0 (v := .int .i64 cl) h15 rfl fun a16 h16 => ?_; clear h15
 refine pk0 (v := .int .i64 rq) h16 rfl fun a17 h17 => ?_; clear h16
 refine pk0 (v := .agg #[.int .i64 cl, .int .i64 rq]) h17 rfl fun a18 h18 => ?_; clear h17
 obtain ⟨f19, hf20⟩ : ∃ z, ((findN L) (cl, rq)).getD (0 : Int) = z := ⟨_, rfl⟩
 obtain ⟨b21, hb22⟩ : ∃ z, ((findN L) (cl, rq)).isSome = z := ⟨_, rfl⟩
 refine pk (v := .tuple #[.agg #[.int .i64 f19], .bool b21]) h18 rfl (rn_lookOT (a := (cl, rq)) (f := f19) (b := b21) nm_kl rfl rfl rfl Try.underlying65 spot_z hm2 hf20 hb22) fun a23 h23 => ?_; clear h18
 refine pk0 (v := .tuple #[.agg #[.int .i64 f19], .bool b21]) h23 rfl fun a24 h24 => ?_; clear h23
 refine pk0 (v := .agg #[.int .i64 f19]) h24 rfl fun a25 h25 => ?_; clear h24
 refine pk0 (v := .bool b21) h25 rfl fun a26 h26 => ?_; clear h25
 refine pw h26 rfl (op_new (v := fun N => pt N 0) (T := 120) (cs := #[.int .i64 0]) (by kernel_rfl) (by kernel_rfl) (by kernel_rfl)) ?_; clear h26
 rintro _ w28 a27 ⟨N29, rfl, hN32, hz33, hk31, hg30⟩ h27
 have ha34 := row_fresh hO.row hN32
 have hu35 := row_under hO.row hN32
 have hz36 := hg30.size
 try dsimp only at h27
 refine pwD h27 rfl (op_storeN rfl rfl rfl (by kernel_rfl) (by kernel_rfl) hk31 rfl) ?_; clear h27
 rintro _ w38 a37 ⟨hk39, hz40, hg41⟩ h37
 have hk39' : Blk w38 N29 120 #[.int .i64 f19] := hk39; clear hk39
 have hz42 := hg41.size
 refine pk0 (v := .bool b21) h37 rfl fun a43 h43 => ?_; clear h37
 refine pl_nil ?_
 refine co_then ?_
 refine co_seq ?_
 refine co_seq ?_
 refine co_reg ?_
 refine pk0 (v := .bool b21) h43 rfl fun a44 h44 => ?_; clear h43
 have hB46 := fbU_new hB0 hg30
 have hB47 := fbU_at hB46 hg41 (fun hlt => absurd hlt (by omega))
 have hk48 := hO.blk.kept hg30 (by simp)
 have hk49 := hk48.kept hg41 (by simp; omega)
 have hM50 := hm2.kept hg30 (by simp)
 have hM51 := hM50.kept hg41 (by simp; omega)
 have hr52 := row_kept_new hO.row hg30
 have hr53 := row_kept_at hr52 hg41 (ha34)
 have hE54 := hO.ents.new hg30
 have hE55 := hE54.blk hk31 (by decide) hg41
 cases hc45 : (b21)
 ·
  rw [hc45] at h44
  refine pk0 (v := .bool true) h44 rfl fun a56 h56 => ?_; clear h44
  refine pl_nil ?_
  refine co_then ?_
  refine co_true h56 rfl ?_
  refine co_seq ?_
  refine co_reg ?_
  refine pk0 (v := .int .i64 (-1)) h56 rfl fun a57 h57 => ?_; clear h56
  refine pl_nil ?_
  refine co_then ?_
  refine wp_ret ?_
  refine co_thenR ?_
  refine co_ret1 h57 rfl rfl ?_
  exact ⟨ret_int (by first | exact (fndI_n (hb22.trans hc45)).symm | exact (fndI_y (hb22.trans hc45) (by assumption)).symm), ⟨hk49, ⟨_, hM51⟩, hr53, hE55, hO.sb, hO.sM, hO.su, hO.uq, hO.len⟩, hB47⟩
 ·
  rw [hc45] at h44
  refine pk0 (v := .bool false) h44 rfl fun a58 h58 => ?_; clear h44
  refine pl_nil ?_
  refine co_then ?_
  refine co_false h58 rfl ?_
  refine wp_skip ?_
  refine co_then ?_
  refine co_seq ?_
  refine co_reg ?_
  refine pk0 (v := pt N29 0) h58 rfl fun a59 h59 => ?_; clear h58
  refine pk (v := .int .i64 f19) h59 rfl (rn_load1 rfl rfl Try.isAgg3 (hk39'.cell rfl)) fun a60 h60 => ?_; clear h59
  refine pk0 (v := .int .i64 f19) h60 rfl fun a61 h61 => ?_; clear h60
  refine pl_nil ?_
  refine co_then ?_
  refine wp_ret ?_
  refine co_ret1 h61 rfl rfl ?_
  exact ⟨ret_int (by first | exact (fndI_n (hb22.trans hc45)).symm | exact (fndI_y (hb22.trans hc45) (by assumption)).symm), ⟨hk49, ⟨_, hM51⟩, hr53, hE55, hO.sb, hO.sM, hO.su, hO.uq, hO.len⟩, hB47⟩
set_option maxRecDepth 100000 in
theorem lTop_any (w0 : World) (S : Nat → Prop) (b : Nat) (M : Nat) (u : Value) (L : List EntT) (cl : Int) (w : World) (hbw : But S w0 w) (hO : LgP S w0.heap.size w b M u L) :
    Calls Try.prog 32 #[pt b 0, .int .i64 cl] w fun e w' => e = .returned (.int .i64 (topN L cl)) ∧ LgP S w0.heap.size w' b M u L ∧ But (S) w0 w' := by
 have hB0 := hbw
 have hz0 := hbw.size
 have hz0 := hbw.size
 have hl3 := hO.blk.lt; obtain ⟨c1, hm2⟩ := hO.map; have hl4 := hm2.lt; have hne5 := blk_ne_mapN hO.blk hm2; have hln6 := hO.len
 refine co_enter (n := 31) Try.func32 rfl rfl rfl [(0, pt b 0), (1, .int .i64 cl)] rfl (fun a h0 => ?_)
 refine co_seq ?_
 refine co_reg ?_
 refine pk0 (v := .int .i64 0) h0 rfl fun a7 h7 => ?_; clear h0
 refine pl_nil ?_
 refine co_then ?_
 refine co_seq ?_
 refine co_seq ?_
 refine co_reg ?_
 refine pk0 (v := pt b 0) h7 rfl fun a8 h8 => ?_; clear h7
 refine pw h8 rfl (op_call (args := #[pt b 0]) (R := fun res xw => res = .bool false ∧ w = xw) rfl rfl rfl (by kernel_rfl) (by kernel_rfl) (Try.call78 _ _) (lzero_any b M u w hO.blk) (by rintro e x ⟨rfl, rfl⟩; exact ⟨_, rfl, ⟨rfl, rfl⟩⟩)) ?_; clear h8
 rintro _ _ a9 ⟨rfl, rfl⟩ h9
 refine pl_nil ?_
 refine co_then ?_
 refine co_false h9 rfl ?_
 refine wp_skip ?_
 refine co_then ?_
 refine co_seq ?_
 refine co_reg ?_
 refine pk0 (v := .int .i64 0) h9 rfl fun a12 h12 => ?_; clear h9
 refine pl_nil ?_
 refine co_then ?_
 refine co_seq ?_
 refine co_seq ?_
 refine co_reg ?_
 refine pk0 (v := pt b 0) h12 rfl fun a13 h13 => ?_; clear h12
 refine pk0 (v := pt b 0) h13 rfl fun a14 h14 => ?_; clear h13
 refine pk0 (v := pt b 1) h14 rfl fun a15 h15 => ?_; clear h14
 refine pk (v := u) h15 rfl (rn_load1 rfl rfl Try.isAgg39 (hO.blk.cell rfl)) fun a16 h16 => ?_; clear h15
 refine pk (v := .int .i64 ((L.length : Nat) : Int)) h16 rfl (rn_lenOwn rfl rfl Try.underlying39 hO.row) fun a17 h17 => ?_; clear h16
 refine pk0 (v := .int .i64 0) h17 rfl fun a18 h18 => ?_; clear h17
 refine pl_nil ?_
 refine co_then ?_
 refine wp_block ?_
 have h19 : Slots 31 [(0, pt b 0), (1, .int .i64 cl), (5, .int .i64 0), (13, u), (14, .int .i64 ((L.length : Nat) : Int)), (15, .int .i64 0)] _ := h18.sub ⟨rfl, rfl, rfl, rfl, rfl, rfl, trivial⟩; clear h18
 refine co_loop (fun mm a x => ∃ (i : Nat), Slots 31 [(0, pt b 0), (1, .int .i64 cl), (5, .int .i64 (topN (L.take i) cl)), (13, u), (14, .int .i64 ((L.length : Nat) : Int)), (15, .int .i64 ((i : Nat) : Int))] a ∧ mm = L.length - i ∧ (i ≤ L.length) ∧ x.ownsRow 0 47 4 u L.length (L.flatMap entE) ∧ EntsK S w0.heap.size x L ∧ MapO arr2K spotV x M (findN L) c1 ∧ But (S) w0 x ∧ Blk x b 67 #[.bool true, u, .map (some M)]) (L.length - 0) ?_ ?_
 · exact ⟨0, h19.sub ⟨rfl, rfl, (slot_eq rfl (congrArg (Value.int .i64) (by first | rfl | (rw [topN_at (by assumption)]; first | (rw [if_pos (by omega)]; first | rfl | assumption | omega | (split <;> omega)) | (rw [if_neg (by omega)]))))), rfl, rfl, (slot_eq rfl (congrArg (Value.int .i64) (by first | rfl | omega))), trivial⟩, rfl, by omega, hO.row, hO.ents, hm2, hB0, hO.blk⟩
 · rintro k20 a21 w22 ⟨i, h21, rfl, hi23, hf24, hf25, hf26, hB27, hk28⟩
   have hz29 := hB27.size
   have hl30 := hk28.lt
   have hl31 := hf26.lt
   refine co_seq ?_
   refine co_reg ?_
   refine pk0 (v := .bool (decide (((i : Nat) : Int) < ((L.length : Nat) : Int)))) h21 rfl fun a32 h32 => ?_; clear h21
   refine pl_nil ?_
   refine co_then ?_
   refine co_seq ?_
   cases hc33 : (decide (((i : Nat) : Int) < ((L.length : Nat) : Int)))
   ·
    rw [hc33] at h32
    have hp34 : ¬ (((i : Nat) : Int) < ((L.length : Nat) : Int)) := of_decide_eq_false hc33
    clear hc33
    refine co_false h32 rfl ?_
    refine wp_exit ?_
    refine co_thenX ?_
    refine co_thenX ?_
    refine co_blockX ?_
    refine co_then ?_
    refine co_seq ?_
    refine co_reg ?_
    refine pk0 (v := .int .i64 (topN (L.take i) cl)) h32 rfl fun a35 h35 => ?_; clear h32
    refine pk0 (v := .int .i64 (topN (L.take i) cl)) h35 rfl fun a36 h36 => ?_; clear h35
    refine pl_nil ?_
    refine co_then ?_
    refine wp_ret ?_
    refine co_ret1 h36 rfl rfl ?_
    exact ⟨by rw [List.take_of_length_le (by omega)], ⟨hk28, ⟨_, hf26⟩, hf24, hf25, hO.sb, hO.sM, hO.su, hO.uq, hO.len⟩, hB27⟩
   ·
    rw [hc33] at h32
    have hp37 : ((i : Nat) : Int) < ((L.length : Nat) : Int) := of_decide_eq_true hc33
    clear hc33
    refine co_true h32 rfl ?_
    refine wp_skip ?_
    refine co_then ?_
    refine co_seq ?_
    refine wp_block ?_
    refine co_seq ?_
    refine co_reg ?_
    obtain ⟨y38, hy38⟩ : ∃ z, L[i]? = some z := ⟨_, List.getElem?_eq_getElem (by first | omega | (simp; done) | (simp; omega))⟩
    have oky38 := (fun (z : EntT) (_ : z ∈ L) => trivial) _ (List.mem_of_getElem? hy38)
    have hy39 := hf25.at hy38
    have hq40 := hy39.ts0; have hq41 := hy39.ts1; have hq42 := hy39.len; have hq43 := wf_i64 hy39.cl; have hq44 := wf_i64 hy39.rq
    refine pk (v := pt (blkOf u) (offOf u + i * 4)) h32 rfl (rn_index rfl rfl rfl Try.underlying39 Try.sizeOf47 (row_sl hf24 entE_len) (by omega) (by first | omega | (simp; done) | (simp; omega))) fun a45 h45 => ?_; clear h32
    refine pk (v := .agg #[.int .i64 y38.client, .int .i64 y38.req, y38.ops, .int .u64 y38.ts]) h45 rfl (rn_loadN rfl rfl Try.underlying47 rfl (by kernel_rfl) (sl_at (row_sl hf24 entE_len) hy38)) fun a46 h46 => ?_; clear h45
    refine pw h46 rfl (op_new (v := fun N => pt N 0) (T := 47) (cs := #[.int .i64 0, .int .i64 0, .slice none 0 0, .int .u64 0]) (by kernel_rfl) (by kernel_rfl) (by kernel_rfl)) ?_; clear h46
    rintro _ w48 a47 ⟨N49, rfl, hN52, hz53, hk51, hg50⟩ h47
    have ha54 := row_fresh hf24 hN52
    have hu55 := row_under hf24 hN52
    have ha56 := row_fresh hy39.row hN52
    have hu57 := row_under hy39.row hN52
    have hz58 := hg50.size
    try dsimp only at h47
    have hr64 := row_kept_new hy39.row hg50
    refine pwD h47 rfl (op_storeN rfl rfl rfl (all_cons rfl (all_cons rfl (all_cons (row_one hr64) (all_cons rfl all_nil)))) (by kernel_rfl) hk51 rfl) ?_; clear h47
    rintro _ w60 a59 ⟨hk61, hz62, hg63⟩ h59
    have hk61' : Blk w60 N49 47 #[.int .i64 y38.client, .int .i64 y38.req, y38.ops, .int .u64 y38.ts] := hk61; clear hk61
    have hz65 := hg63.size
    refine pl_nil ?_
    refine co_then ?_
    refine co_seq ?_
    refine co_reg ?_
    refine pk0 (v := pt N49 0) h59 rfl fun a66 h66 => ?_; clear h59
    refine pk0 (v := pt N49 0) h66 rfl fun a67 h67 => ?_; clear h66
    refine pk (v := .int .i64 y38.client) h67 rfl (rn_load1 rfl rfl Try.isAgg3 (hk61'.cell rfl)) fun a68 h68 => ?_; clear h67
    refine pk0 (v := .int .i64 cl) h68 rfl fun a69 h69 => ?_; clear h68
    refine pk0 (v := .bool (y38.client == cl)) h69 rfl fun a70 h70 => ?_; clear h69
    refine pl_nil ?_
    refine co_then ?_
    have hB72 := fbU_new hB27 hg50
    have hB73 := fbU_at hB72 hg63 (fun hlt => absurd hlt (by omega))
    have hk74 := hk28.kept hg50 (by simp)
    have hk75 := hk74.kept hg63 (by simp; omega)
    have hr76 := row_kept_new hf24 hg50
    have hr77 := row_kept_at hr76 hg63 (ha54)
    have hE78 := hf25.new hg50
    have hE79 := hE78.blk hk51 (by decide) hg63
    have hM80 := hf26.kept hg50 (by simp)
    have hM81 := hM80.kept hg63 (by simp; omega)
    cases hc71 : (y38.client == cl)
    ·
     rw [hc71] at h70
     have hp82 : ¬ (y38.client = cl) := by first | simpa using hc71 | simpa [and_assoc] using hc71
     clear hc71
     refine co_false h70 rfl ?_
     refine wp_skip ?_
     refine co_blockN ?_
     refine co_then ?_
     refine co_reg ?_
     refine pk (v := .int .i64 ((i + 1 : Nat) : Int)) h70 rfl (rn_arith' rfl rfl rfl rfl rfl rfl (IntWalk.i64_in _ (by omega)) (by omega)) fun a83 h83 => ?_; clear h70
     refine pk0 (v := .int .i64 ((i + 1 : Nat) : Int)) h83 rfl fun a84 h84 => ?_; clear h83
     refine pl_nil ?_
     refine co_then ?_
     refine ⟨(L.length - (i + 1)), by omega, ?_⟩
     exact ⟨i + 1, h84.sub ⟨rfl, rfl, (slot_eq rfl (congrArg (Value.int .i64) (by first | rfl | (rw [topN_at (by assumption)]; first | (rw [if_pos (by omega)]; first | rfl | assumption | omega | (split <;> omega)) | (rw [if_neg (by omega)]))))), rfl, rfl, rfl, trivial⟩, rfl, by omega, hr77, hE79, hM81, hB73, hk75⟩
    ·
     rw [hc71] at h70
     have hp85 : y38.client = cl := by first | simpa using hc71 | simpa [and_assoc] using hc71
     clear hc71
     refine co_true h70 rfl ?_
     refine co_reg ?_
     refine pk0 (v := .int .i64 (topN (L.take i) cl)) h70 rfl fun a86 h86 => ?_; clear h70
     refine pk0 (v := pt N49 0) h86 rfl fun a87 h87 => ?_; clear h86
     refine pk0 (v := pt N49 1) h87 rfl fun a88 h88 => ?_; clear h87
     refine pk (v := .int .i64 y38.req) h88 rfl (rn_load1 rfl rfl Try.isAgg3 (hk61'.cell rfl)) fun a89 h89 => ?_; clear h88
     obtain ⟨kp90, hkp91⟩ : ∃ z : Int, z = (if topN (L.take i) cl < y38.req then y38.req else topN (L.take i) cl) := ⟨_, rfl⟩
     have hq92 : kp90 ≥ topN (L.take i) cl ∧ kp90 ≥ y38.req ∧ (kp90 = topN (L.take i) cl ∨ kp90 = y38.req) := by rw [hkp91]; split <;> omega
     refine pk (v := .int .i64 kp90) h89 rfl (by rw [hkp91]; kernel_rfl) fun a93 h93 => ?_; clear h89
     refine pk0 (v := .int .i64 kp90) h93 rfl fun a94 h94 => ?_; clear h93
     refine pl_nil ?_
     refine co_blockN ?_
     refine co_then ?_
     refine co_reg ?_
     refine pk (v := .int .i64 ((i + 1 : Nat) : Int)) h94 rfl (rn_arith' rfl rfl rfl rfl rfl rfl (IntWalk.i64_in _ (by omega)) (by omega)) fun a95 h95 => ?_; clear h94
     refine pk0 (v := .int .i64 ((i + 1 : Nat) : Int)) h95 rfl fun a96 h96 => ?_; clear h95
     refine pl_nil ?_
     refine co_then ?_
     refine ⟨(L.length - (i + 1)), by omega, ?_⟩
     exact ⟨i + 1, h96.sub ⟨rfl, rfl, (slot_eq rfl (congrArg (Value.int .i64) (by first | rfl | (rw [topN_at (by assumption)]; first | (rw [if_pos (by omega)]; first | rfl | assumption | omega | (split <;> omega)) | (rw [if_neg (by omega)]))))), rfl, rfl, rfl, trivial⟩, rfl, by omega, hr77, hE79, hM81, hB73, hk75⟩
set_option maxRecDepth 100000 in
theorem lLen_any (w0 : World) (S : Nat → Prop) (b : Nat) (M : Nat) (u : Value) (L : List EntT) (w : World) (hbw : But S w0 w) (hO : LgP S w0.heap.size w b M u L) :
    Calls Try.prog 25 #[pt b 0] w fun e w' => e = .returned (.int .i64 ((L.length : Nat) : Int)) ∧ LgP S w0.heap.size w' b M u L ∧ But (S) w0 w' := by
 have hB0 := hbw
 have hz0 := hbw.size
 have hz0 := hbw.size
 have hl3 := hO.blk.lt; obtain ⟨c1, hm2⟩ := hO.map; have hl4 := hm2.lt; have hne5 := blk_ne_mapN hO.blk hm2; have hln6 := hO.len
 refine co_enter (n := 10) Try.func25 rfl rfl rfl [(0, pt b 0)] rfl (fun a h0 => ?_)
 refine co_seq ?_
 refine co_reg ?_
 refine pk0 (v := .int .i64 0) h0 rfl fun a7 h7 => ?_; clear h0
 refine pl_nil ?_
 refine co_then ?_
 refine co_seq ?_
 refine co_seq ?_
 refine co_reg ?_
 refine pk0 (v := pt b 0) h7 rfl fun a8 h8 => ?_; clear h7
 refine pw h8 rfl (op_call (args := #[pt b 0]) (R := fun res xw => res = .bool false ∧ w = xw) rfl rfl rfl (by kernel_rfl) (by kernel_rfl) (Try.call78 _ _) (lzero_any b M u w hO.blk) (by rintro e x ⟨rfl, rfl⟩; exact ⟨_, rfl, ⟨rfl, rfl⟩⟩)) ?_; clear h8
 rintro _ _ a9 ⟨rfl, rfl⟩ h9
 refine pl_nil ?_
 refine co_then ?_
 refine co_false h9 rfl ?_
 refine wp_skip ?_
 refine co_then ?_
 refine co_seq ?_
 refine co_reg ?_
 refine pk0 (v := pt b 0) h9 rfl fun a12 h12 => ?_; clear h9
 refine pk0 (v := pt b 0) h12 rfl fun a13 h13 => ?_; clear h12
 refine pk0 (v := pt b 1) h13 rfl fun a14 h14 => ?_; clear h13
 refine pk (v := u) h14 rfl (rn_load1 rfl rfl Try.isAgg39 (hO.blk.cell rfl)) fun a15 h15 => ?_; clear h14
 refine pk (v := .int .i64 ((L.length : Nat) : Int)) h15 rfl (rn_lenOwn rfl rfl Try.underlying39 hO.row) fun a16 h16 => ?_; clear h15
 refine pk0 (v := .int .i64 ((L.length : Nat) : Int)) h16 rfl fun a17 h17 => ?_; clear h16
 refine pl_nil ?_
 refine co_then ?_
 refine wp_ret ?_
 refine co_ret1 h17 rfl rfl ?_
 exact ⟨rfl, ⟨hO.blk, ⟨_, hm2⟩, hO.row, hO.ents, hO.sb, hO.sM, hO.su, hO.uq, hO.len⟩, hB0⟩
set_option maxRecDepth 100000 in
theorem lStamped_any (w0 : World) (S : Nat → Prop) (b : Nat) (M : Nat) (u : Value) (L : List EntT) (w : World) (hbw : But S w0 w) (hO : LgP S w0.heap.size w b M u L) :
    Calls Try.prog 26 #[pt b 0] w fun e w' => e = .returned (.int .i64 ((stN L : Nat) : Int)) ∧ LgP S w0.heap.size w' b M u L ∧ But (S) w0 w' := by
 have hB0 := hbw
 have hz0 := hbw.size
 have hz0 := hbw.size
 have hl3 := hO.blk.lt; obtain ⟨c1, hm2⟩ := hO.map; have hl4 := hm2.lt; have hne5 := blk_ne_mapN hO.blk hm2; have hln6 := hO.len
 refine co_enter (n := 10) Try.func26 rfl rfl rfl [(0, pt b 0)] rfl (fun a h0 => ?_)
 refine co_seq ?_
 refine co_reg ?_
 refine pk0 (v := .int .i64 0) h0 rfl fun a7 h7 => ?_; clear h0
 refine pl_nil ?_
 refine co_then ?_
 refine co_seq ?_
 refine co_seq ?_
 refine co_reg ?_
 refine pk0 (v := pt b 0) h7 rfl fun a8 h8 => ?_; clear h7
 refine pw h8 rfl (op_call (args := #[pt b 0]) (R := fun res xw => res = .bool false ∧ w = xw) rfl rfl rfl (by kernel_rfl) (by kernel_rfl) (Try.call78 _ _) (lzero_any b M u w hO.blk) (by rintro e x ⟨rfl, rfl⟩; exact ⟨_, rfl, ⟨rfl, rfl⟩⟩)) ?_; clear h8
 rintro _ _ a9 ⟨rfl, rfl⟩ h9
 refine pl_nil ?_
 refine co_then ?_
 refine co_false h9 rfl ?_
 refine wp_skip ?_
 refine co_then ?_
 refine co_seq ?_
 refine co_reg ?_
 refine pk0 (v := pt b 0) h9 rfl fun a12 h12 => ?_; clear h9
 refine pk0 (v := pt b 0) h12 rfl fun a13 h13 => ?_; clear h12
 refine pk0 (v := pt b 1) h13 rfl fun a14 h14 => ?_; clear h13
 refine pk (v := u) h14 rfl (rn_load1 rfl rfl Try.isAgg39 (hO.blk.cell rfl)) fun a15 h15 => ?_; clear h14
 refine pw h15 rfl (op_call (args := #[u]) (R := fun res xw => res = .int .i64 ((stN L : Nat) : Int) ∧ Below w.heap.size w xw) rfl rfl rfl (by kernel_rfl) (by kernel_rfl) (Try.call80 _ _) (itemStamped_any u L w (row_sl hO.row entE_len) (fun z hz => (hO.ents z hz).ok)) (by rintro e x ⟨rfl, hb18⟩; exact ⟨_, rfl, ⟨rfl, hb18⟩⟩)) ?_; clear h15
 rintro _ w17 a16 ⟨rfl, hb18⟩ h16
 have hz19 := hb18.size
 refine pk0 (v := .int .i64 ((stN L : Nat) : Int)) h16 rfl fun a20 h20 => ?_; clear h16
 refine pl_nil ?_
 refine co_then ?_
 refine wp_ret ?_
 refine co_ret1 h20 rfl rfl ?_
 have hM21 := hm2.kept (below_grown hb18) (by simp)
 have hr22 := row_kept_new hO.row (below_grown hb18)
 have hE23 := hO.ents.new (below_grown hb18)
 have hk24 := hO.blk.below hb18
 have hB25 := fbU_call hB0 hb18
 exact ⟨rfl, ⟨hk24, ⟨_, hM21⟩, hr22, hE23, hO.sb, hO.sM, hO.su, hO.uq, hO.len⟩, hB25⟩
end Go.Proofs.Ythmnndbpadegnaa
