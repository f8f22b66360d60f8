/- Put together: RlgDTp, RlgETp, GoTp, RlgFTp, RlgHTp, RlgTTp. Conditions: as each says. -/
import Derived.Test.YtniojcnkjehflaaTq2
import Derived.Test.YtniojcnkjehflaaTq1
/- Package rlog: Stamp, Find, Top, Len, Stamped. Conditions: at most 100 entries, 20 operations each. -/
namespace Go.Proofs.Ytniojcnkjehflaa
open Go.RowKit Go.PlainAid
set_option linter.unusedVariables false


def e0 (e : EntT) : EntT := { e with ops := .slice none 0 0 }
def stE (L : List EntT) (i ts : Int) : Int := if i < 0 ∨ (L.length : Int) ≤ i then 1 else if ts = 0 then 5 else if i ≠ ((stN L : Nat) : Int) ∨ ts ≤ lastT L then 18 else 0
def stL (L : List EntT) (i ts : Int) : List EntT := if stE L i ts = 0 then rsL L i.toNat ts (i.toNat + 1) else L
section
variable {L : List EntT} {i ts : Int}
theorem stE_a (h : i < 0 ∨ (L.length : Int) ≤ i) : stE L i ts = 1 := by unfold stE; rw [if_pos h]
theorem stE_b (h : ¬ (i < 0 ∨ (L.length : Int) ≤ i)) (h2 : ts = 0) : stE L i ts = 5 := by unfold stE; rw [if_neg h, if_pos h2]
theorem stE_c (h : ¬ (i < 0 ∨ (L.length : Int) ≤ i)) (h2 : ¬ ts = 0) (h3 : i ≠ ((stN L : Nat) : Int) ∨ ts ≤ lastT L) : stE L i ts = 18 := by unfold stE; rw [if_neg h, if_neg h2, if_pos h3]
theorem stE_d (h : ¬ (i < 0 ∨ (L.length : Int) ≤ i)) (h2 : ¬ ts = 0) (h3 : ¬ (i ≠ ((stN L : Nat) : Int) ∨ ts ≤ lastT L)) : stE L i ts = 0 := by unfold stE; rw [if_neg h, if_neg h2, if_neg h3]
theorem stL_no (h : stE L i ts ≠ 0) : stL L i ts = L := by unfold stL; rw [if_neg h]
theorem stL_ok (h : stE L i ts = 0) {y : EntT} (hy : L[i.toNat]? = some y) : stL L i ts = L.set i.toNat { y with ts := ts } := by unfold stL; rw [if_pos h, rsL_1 hy]
theorem stL_nm : (stL L i ts).map nmE = L.map nmE := by unfold stL; split; exact rsL_nm _ _ _ _; rfl
theorem stL_len : (stL L i ts).length = L.length := by unfold stL; split; exact rsL_len _ _ _ _; rfl
end
def fndI (L : List EntT) (c r : Int) : Int := (findN L (c, r)).getD (-1)
theorem fndI_n {L : List EntT} {c r : Int} (h : (findN L (c, r)).isSome = false) : fndI L c r = -1 := by
  unfold fndI; cases hg : findN L (c, r) with
  | none => rfl
  | some a => rw [hg] at h; cases h
theorem fndI_y {L : List EntT} {c r f : Int} (h : (findN L (c, r)).isSome = true) (hf : (findN L (c, r)).getD 0 = f) : fndI L c r = f := by
  unfold fndI; cases hg : findN L (c, r) with
  | none => rw [hg] at h; cases h
  | some a => rw [hg] at hf; exact hf
def topN (L : List EntT) (c : Int) : Int := L.foldl (fun m e => if e.client = c then (if m < e.req then e.req else m) else m) 0
theorem topN_at {L : List EntT} {i : Nat} {c : Int} {y : EntT} (h : L[i]? = some y) : topN (L.take (i + 1)) c = if y.client = c then (if topN (L.take i) c < y.req then y.req else topN (L.take i) c) else topN (L.take i) c := by
  rw [takeE h]; unfold topN; rw [List.foldl_append]; rfl
theorem e0_snoc {A B : List EntT} {k : Nat} {y z : EntT} (h : A.map e0 = (B.take k).map e0) (hy : B[k]? = some y) (e : e0 z = e0 y) : (A ++ [z]).map e0 = (B.take (k + 1)).map e0 := by
  rw [takeE hy, List.map_append, List.map_append, h]; simp [e]

set_option maxRecDepth 100000 in
theorem lStamp_any (w0 : World) (S : Nat → Prop) (b : Nat) (M : Nat) (u : Value) (L : List EntT) (i : Int) (ts : Int) (w : World) (hbw : But S w0 w) (hO : LgP S w0.heap.size w b M u L) (hts : 0 ≤ ts ∧ ts < 18446744073709551616) :
    Calls Try.prog 31 #[pt b 0, .int .i64 i, .int .u64 ts] w fun e w' => e = .returned (.int .i64 (stE L i ts)) ∧ LgP S w0.heap.size w' b M u (stL L i ts) ∧ But (S) w0 w' := by
 have hst := stN_le L
 have hB0 := hbw
 have hz0 := hbw.size
 have hz0 := hbw.size
 have hl3 := hO.blk.lt; obtain ⟨c1, hm2⟩ := hO.map; have hl4 := hm2.lt; have hne5 := blk_ne_mapN hO.blk hm2; have hln6 := hO.len
 refine co_enter (n := 46) Try.func31 rfl rfl rfl [(0, pt b 0), (1, .int .i64 i), (2, .int .u64 ts)] rfl (fun a h0 => ?_)
 refine co_seq ?_
 refine co_reg ?_
 refine pk0 (v := .int .i64 0) h0 rfl fun a7 h7 => ?_; clear h0
 refine pl_nil ?_
 refine co_then ?_
 refine co_seq ?_
 refine co_seq ?_
 refine co_reg ?_
 refine pk0 (v := pt b 0) h7 rfl fun a8 h8 => ?_; clear h7
 refine pw h8 rfl (op_call (args := #[pt b 0]) (R := fun res xw => res = .bool false ∧ w = xw) rfl rfl rfl (by kernel_rfl) (by kernel_rfl) (Try.call39 _ _) (lzero_any b M u w hO.blk) (by rintro e x ⟨rfl, rfl⟩; exact ⟨_, rfl, ⟨rfl, rfl⟩⟩)) ?_; clear h8
 rintro _ _ a9 ⟨rfl, rfl⟩ h9
 refine pl_nil ?_
 refine co_then ?_
 refine co_false h9 rfl ?_
 refine wp_skip ?_
 refine co_then ?_
 refine co_seq ?_
 refine co_seq ?_
 refine co_reg ?_
 refine pk0 (v := .int .i64 i) h9 rfl fun a12 h12 => ?_; clear h9
 refine pk0 (v := .bool (decide (i < 0))) h12 rfl fun a13 h13 => ?_; clear h12
 refine pk0 (v := .bool (decide (i < 0))) h13 rfl fun a14 h14 => ?_; clear h13
 cases hc15 : (decide (i < 0))
 ·
  rw [hc15] at h14
  have hp16 : ¬ (i < 0) := of_decide_eq_false hc15
  clear hc15
  refine pk0 (v := .int .i64 i) h14 rfl fun a17 h17 => ?_; clear h14
  refine pk0 (v := pt b 0) h17 rfl fun a18 h18 => ?_; clear h17
  refine pk0 (v := pt b 0) h18 rfl fun a19 h19 => ?_; clear h18
  refine pk0 (v := pt b 1) h19 rfl fun a20 h20 => ?_; clear h19
  refine pk (v := u) h20 rfl (rn_load1 rfl rfl Try.isAgg29 (hO.blk.cell rfl)) fun a21 h21 => ?_; clear h20
  refine pk (v := .int .i64 ((L.length : Nat) : Int)) h21 rfl (rn_lenOwn rfl rfl Try.underlying29 hO.row) fun a22 h22 => ?_; clear h21
  refine pk0 (v := .bool (decide (i ≥ ((L.length : Nat) : Int)))) h22 rfl fun a23 h23 => ?_; clear h22
  refine pk0 (v := .bool (decide (i ≥ ((L.length : Nat) : Int)))) h23 rfl fun a24 h24 => ?_; clear h23
  refine pl_nil ?_
  refine co_then ?_
  cases hc25 : (decide (i ≥ ((L.length : Nat) : Int)))
  ·
   rw [hc25] at h24
   have hp26 : ¬ (i ≥ ((L.length : Nat) : Int)) := of_decide_eq_false hc25
   clear hc25
   refine co_false h24 rfl ?_
   refine wp_skip ?_
   refine co_then ?_
   refine co_seq ?_
   refine co_seq ?_
   refine co_reg ?_
   refine pk0 (v := .int .u64 ts) h24 rfl fun a27 h27 => ?_; clear h24
   refine pk0 (v := .bool (ts == 0)) h27 rfl fun a28 h28 => ?_; clear h27
   refine pl_nil ?_
   refine co_then ?_
   cases hc29 : (ts == 0)
   ·
    rw [hc29] at h28
    have hp30 : ¬ (ts = 0) := by first | simpa using hc29 | simpa [and_assoc] using hc29
    clear hc29
    refine co_false h28 rfl ?_
    refine wp_skip ?_
    refine co_then ?_
    refine co_seq ?_
    refine co_seq ?_
    refine co_reg ?_
    refine pk0 (v := .int .i64 i) h28 rfl fun a31 h31 => ?_; clear h28
    refine pk0 (v := pt b 0) h31 rfl fun a32 h32 => ?_; clear h31
    refine pk0 (v := pt b 0) h32 rfl fun a33 h33 => ?_; clear h32
    refine pk0 (v := pt b 1) h33 rfl fun a34 h34 => ?_; clear h33
    refine pk (v := u) h34 rfl (rn_load1 rfl rfl Try.isAgg29 (hO.blk.cell rfl)) fun a35 h35 => ?_; clear h34
    refine pw h35 rfl (op_call (args := #[u]) (R := fun res xw => res = .int .i64 ((stN L : Nat) : Int) ∧ Below w.heap.size w xw) rfl rfl rfl (by kernel_rfl) (by kernel_rfl) (Try.call54 _ _) (itemStamped_any u L w (row_sl hO.row entE_len) (fun z hz => (hO.ents z hz).ok)) (by rintro e x ⟨rfl, hb38⟩; exact ⟨_, rfl, ⟨rfl, hb38⟩⟩)) ?_; clear h35
    rintro _ w37 a36 ⟨rfl, hb38⟩ h36
    have hz39 := hb38.size
    refine pk0 (v := .bool (i != ((stN L : Nat) : Int))) h36 rfl fun a40 h40 => ?_; clear h36
    refine pk0 (v := .bool (i != ((stN L : Nat) : Int))) h40 rfl fun a41 h41 => ?_; clear h40
    have hB43 := fbU_call hB0 hb38
    cases hc42 : (i != ((stN L : Nat) : Int))
    ·
     rw [hc42] at h41
     have hp44 : ¬ (i ≠ ((stN L : Nat) : Int)) := by first | simpa using hc42 | simpa [and_assoc] using hc42
     clear hc42
     refine pk0 (v := .int .u64 ts) h41 rfl fun a45 h45 => ?_; clear h41
     refine pk0 (v := pt b 0) h45 rfl fun a46 h46 => ?_; clear h45
     refine pk0 (v := pt b 0) h46 rfl fun a47 h47 => ?_; clear h46
     refine pk0 (v := pt b 1) h47 rfl fun a48 h48 => ?_; clear h47
     have hk49 := hO.blk.below hb38
     refine pk (v := u) h48 rfl (rn_load1 rfl rfl Try.isAgg29 (hk49.cell rfl)) fun a50 h50 => ?_; clear h48
     have hE53 := hO.ents.new (below_grown hb38)
     have hr54 := row_kept_new hO.row (below_grown hb38)
     refine pw h50 rfl (op_call (args := #[u]) (R := fun res xw => res = .int .u64 (lastT L) ∧ Below w37.heap.size w37 xw) rfl rfl rfl (by kernel_rfl) (by kernel_rfl) (Try.call61 _ _) (itemLast_any u L w37 (row_sl hr54 entE_len) (fun z hz => (hE53 z hz).ok)) (by rintro e x ⟨rfl, hb55⟩; exact ⟨_, rfl, ⟨rfl, hb55⟩⟩)) ?_; clear h50
     rintro _ w52 a51 ⟨rfl, hb55⟩ h51
     have hz56 := hb55.size
     refine pk0 (v := .bool (decide (ts ≤ lastT L))) h51 rfl fun a57 h57 => ?_; clear h51
     refine pk0 (v := .bool (decide (ts ≤ lastT L))) h57 rfl fun a58 h58 => ?_; clear h57
     refine pl_nil ?_
     refine co_then ?_
     have hB60 := fbU_call hB43 hb55
     have hM61 := hm2.kept (below_grown hb38) (by simp)
     have hM62 := hM61.kept (below_grown hb55) (by simp)
     cases hc59 : (decide (ts ≤ lastT L))
     ·
      rw [hc59] at h58
      have hp63 : ¬ (ts ≤ lastT L) := of_decide_eq_false hc59
      clear hc59
      refine co_false h58 rfl ?_
      refine wp_skip ?_
      refine co_then ?_
      refine co_seq ?_
      refine co_reg ?_
      refine pk0 (v := pt b 0) h58 rfl fun a64 h64 => ?_; clear h58
      refine pk0 (v := pt b 0) h64 rfl fun a65 h65 => ?_; clear h64
      refine pk0 (v := pt b 1) h65 rfl fun a66 h66 => ?_; clear h65
      have hk67 := hk49.below hb55
      refine pk (v := u) h66 rfl (rn_load1 rfl rfl Try.isAgg29 (hk67.cell rfl)) fun a68 h68 => ?_; clear h66
      refine pk0 (v := .int .i64 i) h68 rfl fun a69 h69 => ?_; clear h68
      refine pk0 (v := .int .u64 ts) h69 rfl fun a70 h70 => ?_; clear h69
      have hE73 := hE53.new (below_grown hb55)
      have hr79 := row_kept_new hr54 (below_grown hb55)
      obtain ⟨y71, hy71⟩ : ∃ z, L[(i).toNat]? = some z := ⟨_, List.getElem?_eq_getElem (by first | omega | (simp; done) | (simp; omega))⟩
      have oky71 := (fun (z : EntT) (_ : z ∈ L) => trivial) _ (List.mem_of_getElem? hy71)
      have hy72 := hE73.at hy71
      have hq74 := hy72.ts0; have hq75 := hy72.ts1; have hq76 := hy72.len; have hq77 := wf_i64 hy72.cl; have hq78 := wf_i64 hy72.rq
      refine pk (v := pt (blkOf u) (offOf u + ((i).toNat) * 4)) h70 rfl (rn_index rfl rfl rfl Try.underlying29 Try.sizeOf37 (row_sl hr79 entE_len) (by omega) (by first | omega | (simp; done) | (simp; omega))) fun a80 h80 => ?_; clear h70
      refine pk0 (v := pt (blkOf u) (offOf u + ((i).toNat) * 4 + 3)) h80 rfl fun a81 h81 => ?_; clear h80
      refine pwD h81 rfl (op_storeRow (c := ((i).toNat) * 4 + 3) rfl rfl rfl rfl Try.sizeOf23 hr79 (flat_lt entE_len (by first | omega | (simp; omega)) (by omega)) (by first | rfl | omega)) ?_; clear h81
      rintro _ w83 a82 ⟨hr84, hz85, hg86⟩ h82
      have hr84' := row_set (y' := (EntT.mk y71.client y71.req (y71.ops) y71.opl ts)) hr84 entE_len hy71 (by omega) rfl; clear hr84
      have hz87 := hg86.size
      have hE88 := hE73.row hr79 (by decide) hg86
      have hE89 := EntsK.set (i := ((i).toNat)) hE88 (EntK.ts (t := ts) (EntsK.at hE88 hy71) (by omega))
      refine pl_nil ?_
      refine co_then ?_
      refine co_seq ?_
      refine co_reg ?_
      refine pk0 (v := .int .i64 0) h82 rfl fun a90 h90 => ?_; clear h82
      refine pl_nil ?_
      refine co_then ?_
      refine wp_ret ?_
      refine co_ret1 h90 rfl rfl ?_
      have hM91 := hM62.kept hg86 (hM62.row hr79)
      have hk92 := hk67.kept hg86 (own_neT hr79 hk67 (by decide))
      have hB93 := fbU_row hB60 hO.su hg86
      have hE : stE L i ts = 0 := stE_d (by omega) (by omega) (by omega)
      have hl0 := stL_ok (ts := ts) hE hy71
      have hnm : (stL L i ts).map nmE = L.map nmE := stL_nm
      exact ⟨ret_int hE.symm, ⟨hk92, ⟨_, hM91.eq ((findN_nm hnm).symm) (Nat.le_refl _)⟩, (row_eq hr84' (hl0.symm)), (hE89.eq (hl0.symm)), hO.sb, hO.sM, hO.su, (hO.uq.nm hnm), (by rw [stL_len]; exact hO.len)⟩, hB93⟩
     ·
      rw [hc59] at h58
      have hp94 : ts ≤ lastT L := of_decide_eq_true hc59
      clear hc59
      refine co_true h58 rfl ?_
      refine co_seq ?_
      refine co_reg ?_
      refine pk0 (v := .int .i64 18) h58 rfl fun a95 h95 => ?_; clear h58
      refine pl_nil ?_
      refine co_then ?_
      refine wp_ret ?_
      refine co_thenR ?_
      refine co_ret1 h95 rfl rfl ?_
      have hr96 := row_kept_new hr54 (below_grown hb55)
      have hE97 := hE53.new (below_grown hb55)
      have hk98 := hk49.below hb55
      have hE : stE L i ts = 18 := stE_c (by omega) (by omega) (by omega)
      exact ⟨ret_int hE.symm, by rw [stL_no (by rw [hE]; omega)]; exact ⟨hk98, ⟨_, hM62⟩, hr96, hE97, hO.sb, hO.sM, hO.su, hO.uq, hO.len⟩, hB60⟩
    ·
     rw [hc42] at h41
     have hp99 : i ≠ ((stN L : Nat) : Int) := by first | simpa using hc42 | simpa [and_assoc] using hc42
     clear hc42
     refine psk h41 rfl fun a100 h100 => ?_; clear h41
     refine psk h100 rfl fun a101 h101 => ?_; clear h100
     refine psk h101 rfl fun a102 h102 => ?_; clear h101
     refine psk h102 rfl fun a103 h103 => ?_; clear h102
     refine psk h103 rfl fun a104 h104 => ?_; clear h103
     refine psk h104 rfl fun a105 h105 => ?_; clear h104
     refine psk h105 rfl fun a106 h106 => ?_; clear h105
     refine pk0 (v := .bool true) h106 rfl fun a107 h107 => ?_; clear h106
     refine pl_nil ?_
     refine co_then ?_
     refine co_true h107 rfl ?_
     refine co_seq ?_
     refine co_reg ?_
     refine pk0 (v := .int .i64 18) h107 rfl fun a108 h108 => ?_; clear h107
     refine pl_nil ?_
     refine co_then ?_
     refine wp_ret ?_
     refine co_thenR ?_
     refine co_ret1 h108 rfl rfl ?_
     have hM109 := hm2.kept (below_grown hb38) (by simp)
     have hr110 := row_kept_new hO.row (below_grown hb38)
     have hE111 := hO.ents.new (below_grown hb38)
     have hk112 := hO.blk.below hb38
     have hE : stE L i ts = 18 := stE_c (by omega) (by omega) (by omega)
     exact ⟨ret_int hE.symm, by rw [stL_no (by rw [hE]; omega)]; exact ⟨hk112, ⟨_, hM109⟩, hr110, hE111, hO.sb, hO.sM, hO.su, hO.uq, hO.len⟩, hB43⟩
   ·
    rw [hc29] at h28
    have hp113 : ts = 0 := by first | simpa using hc29 | simpa [and_assoc] using hc29
    clear hc29
    refine co_true h28 rfl ?_
    refine co_seq ?_
    refine co_reg ?_
    refine pk0 (v := .int .i64 5) h28 rfl fun a114 h114 => ?_; clear h28
    refine pl_nil ?_
    refine co_then ?_
    refine wp_ret ?_
    refine co_thenR ?_
    refine co_ret1 h114 rfl rfl ?_
    have hE : stE L i ts = 5 := stE_b (by omega) (by omega)
    exact ⟨ret_int hE.symm, by rw [stL_no (by rw [hE]; omega)]; exact ⟨hO.blk, ⟨_, hm2⟩, hO.row, hO.ents, hO.sb, hO.sM, hO.su, hO.uq, hO.len⟩, hB0⟩
  ·
   rw [hc25] at h24
   have hp115 : i ≥ ((L.length : Nat) : Int) := of_decide_eq_true hc25
   clear hc25
   refine co_true h24 rfl ?_
   refine co_seq ?_
   refine co_reg ?_
   refine pk0 (v := .int .i64 1) h24 rfl fun a116 h116 => ?_; clear h24
   refine pl_nil ?_
   refine co_then ?_
   refine wp_ret ?_
   refine co_thenR ?_
   refine co_ret1 h116 rfl rfl ?_
   have hE : stE L i ts = 1 := stE_a (by omega)
   exact ⟨ret_int hE.symm, by rw [stL_no (by rw [hE]; omega)]; exact ⟨hO.blk, ⟨_, hm2⟩, hO.row, hO.ents, hO.sb, hO.sM, hO.su, hO.uq, hO.len⟩, hB0⟩
 ·
  rw [hc15] at h14
  have hp117 : i < 0 := of_decide_eq_true hc15
  clear hc15
  refine psk h14 rfl fun a118 h118 => ?_; clear h14
  refine psk h118 rfl fun a119 h119 => ?_; clear h118
  refine psk h119 rfl fun a120 h120 => ?_; clear h119
  refine psk h120 rfl fun a121 h121 => ?_; clear h120
  refine psk h121 rfl fun a122 h122 => ?_; clear h121
  refine psk h122 rfl fun a123 h123 => ?_; clear h122
  refine psk h123 rfl fun a124 h124 => ?_; clear h123
  refine pk0 (v := .bool true) h124 rfl fun a125 h125 => ?_; clear h124
  refine pl_nil ?_
  refine co_then ?_
  refine co_true h125 rfl ?_
  refine co_seq ?_
  refine co_reg ?_
  refine pk0 (v := .int .i64 1) h125 rfl fun a126 h126 => ?_; clear h125
  refine pl_nil ?_
  refine co_then ?_
  refine wp_ret ?_
  refine co_thenR ?_
  refine co_ret1 h126 rfl rfl ?_
  have hE : stE L i ts = 1 := stE_a (by omega)
  exact ⟨ret_int hE.symm, by rw [stL_no (by rw [hE]; omega)]; exact ⟨hO.blk, ⟨_, hm2⟩, hO.row, hO.ents, hO.sb, hO.sM, hO.su, hO.uq, hO.len⟩, hB0⟩
set_option maxRecDepth 100000 in
theorem lFind_any (w0 : World) (S : Nat → Prop) (b : Nat) (M : Nat) (u : Value) (L : List EntT) (cl : Int) (rq : Int) (w : World) (hbw : But S w0 w) (hO : LgP S w0.heap.size w b M u L) :
    Calls Try.prog 34 #[pt b 0, .int .i64 cl, .int .i64 rq] w fun e w' => e = .returned (.int .i64 (fndI L cl rq)) ∧ LgP S w0.heap.size w' b M u L ∧ But (S) w0 w' := by
 have hB0 := hbw
 have hz0 := hbw.size
 have hz0 := hbw.size
 have hl3 := hO.blk.lt; obtain ⟨c1, hm2⟩ := hO.map; have hl4 := hm2.lt; have hne5 := blk_ne_mapN hO.blk hm2; have hln6 := hO.len
 refine co_enter (n := 26) Try.func34 rfl rfl rfl [(0, pt b 0), (1, .int .i64 cl), (2, .int .i64 rq)] rfl (fun a h0 => ?_)
 refine co_seq ?_
 refine co_reg ?_
 refine pk0 (v := .int .i64 0) h0 rfl fun a7 h7 => ?_; clear h0
 refine pl_nil ?_
 refine co_then ?_
 refine co_seq ?_
 refine co_seq ?_
 refine co_reg ?_
 refine pk0 (v := pt b 0) h7 rfl fun a8 h8 => ?_; clear h7
 refine pw h8 rfl (op_call (args := #[pt b 0]) (R := fun res xw => res = .bool false ∧ w = xw) rfl rfl rfl (by kernel_rfl) (by kernel_rfl) (Try.call39 _ _) (lzero_any b M u w hO.blk) (by rintro e x ⟨rfl, rfl⟩; exact ⟨_, rfl, ⟨rfl, rfl⟩⟩)) ?_; clear h8
 rintro _ _ a9 ⟨rfl, rfl⟩ h9
 refine pl_nil ?_
 refine co_then ?_
 refine co_false h9 rfl ?_
 refine wp_skip ?_
 refine co_then ?_
 refine co_seq ?_
 refine co_reg ?_
 refine pk0 (v := pt b 0) h9 rfl fun a12 h12 => ?_; clear h9
 refine pk0 (v := pt b 0) h12 rfl fun a13 h13 => ?_; clear h12
 refine pk0 (v := pt b 2) h13 rfl fun a14 h14 => ?_; clear h13
 refine pk (v := .map (some M)) h14 rfl (rn_load1 rfl rfl Try.isAgg66 (hO.blk.cell rfl)) fun a15 h15 => ?_; clear h14
 refine pk0 (v := .int .i64 cl) h15 rfl fun a16 h16 => ?_; clear h15
 refine pk0 (v := .int .i64 rq) h16 rfl fun a17 h17 => ?_; clear h16
 refine pk0 (v := .agg #[.int .i64 cl, .int .i64 rq]) h17 rfl fun a18 h18 => ?_; clear h17
 obtain ⟨f19, hf20⟩ : ∃ z, ((findN L) (cl, rq)).getD (0 : Int) = z := ⟨_, rfl⟩
 obtain ⟨b21, hb22⟩ : ∃ z, ((findN L) (cl, rq)).isSome = z := ⟨_, rfl⟩
 refine pk (v := .tuple #[.agg #[.int .i64 f19], .bool b21]) h18 rfl (rn_lookOT (a := (cl, rq)) (f := f19) (b := b21) nm_kl rfl rfl rfl Try.underlying66 spot_z hm2 hf20 hb22) fun a23 h23 => ?_; clear h18
 refine pk0 (v := .tuple #[.agg #[.int .i64 f19], .bool b21]) h23 rfl fun a24 h24 => ?_; clear h23
 refine pk0 (v := .agg #[.int .i64 f19]) h24 rfl fun a25 h25 => ?_; clear h24
 refine pk0 (v := .bool b21) h25 rfl fun a26 h26 => ?_; clear h25
 refine pw h26 rfl (op_new (v := fun N => pt N 0) (T := 109) (cs := #[.int .i64 0]) (by kernel_rfl) (by kernel_rfl) (by kernel_rfl)) ?_; clear h26
 rintro _ w28 a27 ⟨N29, rfl, hN32, hz33, hk31, hg30⟩ h27
 have ha34 := row_fresh hO.row hN32
 have hu35 := row_under hO.row hN32
 have hz36 := hg30.size
 try dsimp only at h27
 refine pwD h27 rfl (op_storeN rfl rfl rfl (by kernel_rfl) (by kernel_rfl) hk31 rfl) ?_; clear h27
 rintro _ w38 a37 ⟨hk39, hz40, hg41⟩ h37
 have hk39' : Blk w38 N29 109 #[.int .i64 f19] := hk39; clear hk39
 have hz42 := hg41.size
 refine pk0 (v := .bool b21) h37 rfl fun a43 h43 => ?_; clear h37
 refine pl_nil ?_
 refine co_then ?_
 refine co_seq ?_
 refine co_seq ?_
 refine co_reg ?_
 refine pk0 (v := .bool b21) h43 rfl fun a44 h44 => ?_; clear h43
 have hB46 := fbU_new hB0 hg30
 have hB47 := fbU_at hB46 hg41 (fun hlt => absurd hlt (by omega))
 have hk48 := hO.blk.kept hg30 (by simp)
 have hk49 := hk48.kept hg41 (by simp; omega)
 have hM50 := hm2.kept hg30 (by simp)
 have hM51 := hM50.kept hg41 (by simp; omega)
 have hr52 := row_kept_new hO.row hg30
 have hr53 := row_kept_at hr52 hg41 (ha34)
 have hE54 := hO.ents.new hg30
 have hE55 := hE54.blk hk31 (by decide) hg41
 cases hc45 : (b21)
 ·
  rw [hc45] at h44
  refine pk0 (v := .bool true) h44 rfl fun a56 h56 => ?_; clear h44
  refine pl_nil ?_
  refine co_then ?_
  refine co_true h56 rfl ?_
  refine co_seq ?_
  refine co_reg ?_
  refine pk0 (v := .int .i64 (-1)) h56 rfl fun a57 h57 => ?_; clear h56
  refine pl_nil ?_
  refine co_then ?_
  refine wp_ret ?_
  refine co_thenR ?_
  refine co_ret1 h57 rfl rfl ?_
  exact ⟨ret_int (by first | exact (fndI_n (hb22.trans hc45)).symm | exact (fndI_y (hb22.trans hc45) (by assumption)).symm), ⟨hk49, ⟨_, hM51⟩, hr53, hE55, hO.sb, hO.sM, hO.su, hO.uq, hO.len⟩, hB47⟩
 ·
  rw [hc45] at h44
  refine pk0 (v := .bool false) h44 rfl fun a58 h58 => ?_; clear h44
  refine pl_nil ?_
  refine co_then ?_
  refine co_false h58 rfl ?_
  refine wp_skip ?_
  refine co_then ?_
  refine co_seq ?_
  refine co_reg ?_
  refine pk0 (v := pt N29 0) h58 rfl fun a59 h59 => ?_; clear h58
  refine pk (v := .int .i64 f19) h59 rfl (rn_load1 rfl rfl Try.isAgg3 (hk39'.cell rfl)) fun a60 h60 => ?_; clear h59
  refine pk0 (v := .int .i64 f19) h60 rfl fun a61 h61 => ?_; clear h60
  refine pl_nil ?_
  refine co_then ?_
  refine wp_ret ?_
  refine co_ret1 h61 rfl rfl ?_
  exact ⟨ret_int (by first | exact (fndI_n (hb22.trans hc45)).symm | exact (fndI_y (hb22.trans hc45) (by assumption)).symm), ⟨hk49, ⟨_, hM51⟩, hr53, hE55, hO.sb, hO.sM, hO.su, hO.uq, hO.len⟩, hB47⟩
set_option maxRecDepth 100000 in
theorem lTop_any (w0 : World) (S : Nat → Prop) (b : Nat) (M : Nat) (u : Value) (L : List EntT) (cl : Int) (w : World) (hbw : But S w0 w) (hO : LgP S w0.heap.size w b M u L) :
    Calls Try.prog 35 #[pt b 0, .int .i64 cl] w fun e w' => e = .returned (.int .i64 (topN L cl)) ∧ LgP S w0.heap.size w' b M u L ∧ But (S) w0 w' := by
 have hB0 := hbw
 have hz0 := hbw.size
 have hz0 := hbw.size
 have hl3 := hO.blk.lt; obtain ⟨c1, hm2⟩ := hO.map; have hl4 := hm2.lt; have hne5 := blk_ne_mapN hO.blk hm2; have hln6 := hO.len
 refine co_enter (n := 31) Try.func35 rfl rfl rfl [(0, pt b 0), (1, .int .i64 cl)] rfl (fun a h0 => ?_)
 refine co_seq ?_
 refine co_reg ?_
 refine pk0 (v := .int .i64 0) h0 rfl fun a7 h7 => ?_; clear h0
 refine pl_nil ?_
 refine co_then ?_
 refine co_seq ?_
 refine co_seq ?_
 refine co_reg ?_
 refine pk0 (v := pt b 0) h7 rfl fun a8 h8 => ?_; clear h7
 refine pw h8 rfl (op_call (args := #[pt b 0]) (R := fun res xw => res = .bool false ∧ w = xw) rfl rfl rfl (by kernel_rfl) (by kernel_rfl) (Try.call39 _ _) (lzero_any b M u w hO.blk) (by rintro e x ⟨rfl, rfl⟩; exact ⟨_, rfl, ⟨rfl, rfl⟩⟩)) ?_; clear h8
 rintro _ _ a9 ⟨rfl, rfl⟩ h9
 refine pl_nil ?_
 refine co_then ?_
 refine co_false h9 rfl ?_
 refine wp_skip ?_
 refine co_then ?_
 refine co_seq ?_
 refine co_reg ?_
 refine pk0 (v := .int .i64 0) h9 rfl fun a12 h12 => ?_; clear h9
 refine pl_nil ?_
 refine co_then ?_
 refine co_seq ?_
 refine co_seq ?_
 refine co_reg ?_
 refine pk0 (v := pt b 0) h12 rfl fun a13 h13 => ?_; clear h12
 refine pk0 (v := pt b 0) h13 rfl fun a14 h14 => ?_; clear h13
 refine pk0 (v := pt b 1) h14 rfl fun a15 h15 => ?_; clear h14
 refine pk (v := u) h15 rfl (rn_load1 rfl rfl Try.isAgg29 (hO.blk.cell rfl)) fun a16 h16 => ?_; clear h15
 refine pk (v := .int .i64 ((L.length : Nat) : Int)) h16 rfl (rn_lenOwn rfl rfl Try.underlying29 hO.row) fun a17 h17 => ?_; clear h16
 refine pk0 (v := .int .i64 0) h17 rfl fun a18 h18 => ?_; clear h17
 refine pl_nil ?_
 refine co_then ?_
 refine wp_block ?_
 have h19 : Slots 31 [(0, pt b 0), (1, .int .i64 cl), (5, .int .i64 0), (13, u), (14, .int .i64 ((L.length : Nat) : Int)), (15, .int .i64 0)] _ := h18.sub ⟨rfl, rfl, rfl, rfl, rfl, rfl, trivial⟩; clear h18
 refine co_loop (fun mm a x => ∃ (i : Nat), Slots 31 [(0, pt b 0), (1, .int .i64 cl), (5, .int .i64 (topN (L.take i) cl)), (13, u), (14, .int .i64 ((L.length : Nat) : Int)), (15, .int .i64 ((i : Nat) : Int))] a ∧ mm = L.length - i ∧ (i ≤ L.length) ∧ x.ownsRow 0 37 4 u L.length (L.flatMap entE) ∧ EntsK S w0.heap.size x L ∧ MapO arr2K spotV x M (findN L) c1 ∧ But (S) w0 x ∧ Blk x b 68 #[.bool true, u, .map (some M)]) (L.length - 0) ?_ ?_
 · exact ⟨0, h19.sub ⟨rfl, rfl, (slot_eq rfl (congrArg (Value.int .i64) (by first | rfl | (rw [topN_at (by assumption)]; first | (rw [if_pos (by omega)]; first | rfl | assumption | omega | (split <;> omega)) | (rw [if_neg (by omega)]))))), rfl, rfl, (slot_eq rfl (congrArg (Value.int .i64) (by first | rfl | omega))), trivial⟩, rfl, by omega, hO.row, hO.ents, hm2, hB0, hO.blk⟩
 · rintro k20 a21 w22 ⟨i, h21, rfl, hi23, hf24, hf25, hf26, hB27, hk28⟩
   have hz29 := hB27.size
   have hl30 := hk28.lt
   have hl31 := hf26.lt
   refine co_seq ?_
   refine co_reg ?_
   refine pk0 (v := .bool (decide (((i : Nat) : Int) < ((L.length : Nat) : Int)))) h21 rfl fun a32 h32 => ?_; clear h21
   refine pl_nil ?_
   refine co_then ?_
   refine co_seq ?_
   cases hc33 : (decide (((i : Nat) : Int) < ((L.length : Nat) : Int)))
   ·
    rw [hc33] at h32
    have hp34 : ¬ (((i : Nat) : Int) < ((L.length : Nat) : Int)) := of_decide_eq_false hc33
    clear hc33
    refine co_false h32 rfl ?_
    refine wp_exit ?_
    refine co_thenX ?_
    refine co_thenX ?_
    refine co_blockX ?_
    refine co_then ?_
    refine co_seq ?_
    refine co_reg ?_
    refine pk0 (v := .int .i64 (topN (L.take i) cl)) h32 rfl fun a35 h35 => ?_; clear h32
    refine pk0 (v := .int .i64 (topN (L.take i) cl)) h35 rfl fun a36 h36 => ?_; clear h35
    refine pl_nil ?_
    refine co_then ?_
    refine wp_ret ?_
    refine co_ret1 h36 rfl rfl ?_
    exact ⟨by rw [List.take_of_length_le (by omega)], ⟨hk28, ⟨_, hf26⟩, hf24, hf25, hO.sb, hO.sM, hO.su, hO.uq, hO.len⟩, hB27⟩
   ·
    rw [hc33] at h32
    have hp37 : ((i : Nat) : Int) < ((L.length : Nat) : Int) := of_decide_eq_true hc33
    clear hc33
    refine co_true h32 rfl ?_
    refine wp_skip ?_
    refine co_then ?_
    refine co_seq ?_
    refine wp_block ?_
    refine co_seq ?_
    refine co_reg ?_
    obtain ⟨y38, hy38⟩ : ∃ z, L[i]? = some z := ⟨_, List.getElem?_eq_getElem (by first | omega | (simp; done) | (simp; omega))⟩
    have oky38 := (fun (z : EntT) (_ : z ∈ L) => trivial) _ (List.mem_of_getElem? hy38)
    have hy39 := hf25.at hy38
    have hq40 := hy39.ts0; have hq41 := hy39.ts1; have hq42 := hy39.len; have hq43 := wf_i64 hy39.cl; have hq44 := wf_i64 hy39.rq
    refine pk (v := pt (blkOf u) (offOf u + i * 4)) h32 rfl (rn_index rfl rfl rfl Try.underlying29 Try.sizeOf37 (row_sl hf24 entE_len) (by omega) (by first | omega | (simp; done) | (simp; omega))) fun a45 h45 => ?_; clear h32
    refine pk (v := .agg #[.int .i64 y38.client, .int .i64 y38.req, y38.ops, .int .u64 y38.ts]) h45 rfl (rn_loadN rfl rfl Try.underlying37 rfl (by kernel_rfl) (sl_at (row_sl hf24 entE_len) hy38)) fun a46 h46 => ?_; clear h45
    refine pw h46 rfl (op_new (v := fun N => pt N 0) (T := 37) (cs := #[.int .i64 0, .int .i64 0, .slice none 0 0, .int .u64 0]) (by kernel_rfl) (by kernel_rfl) (by kernel_rfl)) ?_; clear h46
    rintro _ w48 a47 ⟨N49, rfl, hN52, hz53, hk51, hg50⟩ h47
    have ha54 := row_fresh hf24 hN52
    have hu55 := row_under hf24 hN52
    have ha56 := row_fresh hy39.row hN52
    have hu57 := row_under hy39.row hN52
    have hz58 := hg50.size
    try dsimp only at h47
    have hr64 := row_kept_new hy39.row hg50
    refine pwD h47 rfl (op_storeN rfl rfl rfl (all_cons rfl (all_cons rfl (all_cons (row_one hr64) (all_cons rfl all_nil)))) (by kernel_rfl) hk51 rfl) ?_; clear h47
    rintro _ w60 a59 ⟨hk61, hz62, hg63⟩ h59
    have hk61' : Blk w60 N49 37 #[.int .i64 y38.client, .int .i64 y38.req, y38.ops, .int .u64 y38.ts] := hk61; clear hk61
    have hz65 := hg63.size
    refine pl_nil ?_
    refine co_then ?_
    refine co_seq ?_
    refine co_reg ?_
    refine pk0 (v := pt N49 0) h59 rfl fun a66 h66 => ?_; clear h59
    refine pk0 (v := pt N49 0) h66 rfl fun a67 h67 => ?_; clear h66
    refine pk (v := .int .i64 y38.client) h67 rfl (rn_load1 rfl rfl Try.isAgg3 (hk61'.cell rfl)) fun a68 h68 => ?_; clear h67
    refine pk0 (v := .int .i64 cl) h68 rfl fun a69 h69 => ?_; clear h68
    refine pk0 (v := .bool (y38.client == cl)) h69 rfl fun a70 h70 => ?_; clear h69
    refine pl_nil ?_
    refine co_then ?_
    have hB72 := fbU_new hB27 hg50
    have hB73 := fbU_at hB72 hg63 (fun hlt => absurd hlt (by omega))
    have hk74 := hk28.kept hg50 (by simp)
    have hk75 := hk74.kept hg63 (by simp; omega)
    have hr76 := row_kept_new hf24 hg50
    have hr77 := row_kept_at hr76 hg63 (ha54)
    have hE78 := hf25.new hg50
    have hE79 := hE78.blk hk51 (by decide) hg63
    have hM80 := hf26.kept hg50 (by simp)
    have hM81 := hM80.kept hg63 (by simp; omega)
    cases hc71 : (y38.client == cl)
    ·
     rw [hc71] at h70
     have hp82 : ¬ (y38.client = cl) := by first | simpa using hc71 | simpa [and_assoc] using hc71
     clear hc71
     refine co_false h70 rfl ?_
     refine wp_skip ?_
     refine co_blockN ?_
     refine co_then ?_
     refine co_reg ?_
     refine pk (v := .int .i64 ((i + 1 : Nat) : Int)) h70 rfl (rn_arith' rfl rfl rfl rfl rfl rfl (IntWalk.i64_in _ (by omega)) (by omega)) fun a83 h83 => ?_; clear h70
     refine pk0 (v := .int .i64 ((i + 1 : Nat) : Int)) h83 rfl fun a84 h84 => ?_; clear h83
     refine pl_nil ?_
     refine co_then ?_
     refine ⟨(L.length - (i + 1)), by omega, ?_⟩
     exact ⟨i + 1, h84.sub ⟨rfl, rfl, (slot_eq rfl (congrArg (Value.int .i64) (by first | rfl | (rw [topN_at (by assumption)]; first | (rw [if_pos (by omega)]; first | rfl | assumption | omega | (split <;> omega)) | (rw [if_neg (by omega)]))))), rfl, rfl, rfl, trivial⟩, rfl, by omega, hr77, hE79, hM81, hB73, hk75⟩
    ·
     rw [hc71] at h70
     have hp85 : y38.client = cl := by first | simpa using hc71 | simpa [and_assoc] using hc71
     clear hc71
     refine co_true h70 rfl ?_
     refine co_reg ?_
     refine pk0 (v := .int .i64 (topN (L.take i) cl)) h70 rfl fun a86 h86 => ?_; clear h70
     refine pk0 (v := pt N49 0) h86 rfl fun a87 h87 => ?_; clear h86
     refine pk0 (v := pt N49 1) h87 rfl fun a88 h88 => ?_; clear h87
     refine pk (v := .int .i64 y38.req) h88 rfl (rn_load1 rfl rfl Try.isAgg3 (hk61'.cell rfl)) fun a89 h89 => ?_; clear h88
     obtain ⟨kp90, hkp91⟩ : ∃ z : Int, z = (if topN (L.take i) cl < y38.req then y38.req else topN (L.take i) cl) := ⟨_, rfl⟩
     have hq92 : kp90 ≥ topN (L.take i) cl ∧ kp90 ≥ y38.req ∧ (kp90 = topN (L.take i) cl ∨ kp90 = y38.req) := by rw [hkp91]; split <;> omega
     refine pk (v := .int .i64 kp90) h89 rfl (by rw [hkp91]; kernel_rfl) fun a93 h93 => ?_; clear h89
     refine pk0 (v := .int .i64 kp90) h93 rfl fun a94 h94 => ?_; clear h93
     refine pl_nil ?_
     refine co_blockN ?_
     refine co_then ?_
     refine co_reg ?_
     refine pk (v := .int .i64 ((i + 1 : Nat) : Int)) h94 rfl (rn_arith' rfl rfl rfl rfl rfl rfl (IntWalk.i64_in _ (by omega)) (by omega)) fun a95 h95 => ?_; clear h94
     refine pk0 (v := .int .i64 ((i + 1 : Nat) : Int)) h95 rfl fun a96 h96 => ?_; clear h95
     refine pl_nil ?_
     refine co_then ?_
     refine ⟨(L.length - (i + 1)), by omega, ?_⟩
     exact ⟨i + 1, h96.sub ⟨rfl, rfl, (slot_eq rfl (congrArg (Value.int .i64) (by first | rfl | (rw [topN_at (by assumption)]; first | (rw [if_pos (by omega)]; first | rfl | assumption | omega | (split <;> omega)) | (rw [if_neg (by omega)]))))), rfl, rfl, rfl, trivial⟩, rfl, by omega, hr77, hE79, hM81, hB73, hk75⟩
set_option maxRecDepth 100000 in
theorem lLen_any (w0 : World) (S : Nat → Prop) (b : Nat) (M : Nat) (u : Value) (L : List EntT) (w : World) (hbw : But S w0 w) (hO : LgP S w0.heap.size w b M u L) :
    Calls Try.prog 32 #[pt b 0] w fun e w' => e = .returned (.int .i64 ((L.length : Nat) : Int)) ∧ LgP S w0.heap.size w' b M u L ∧ But (S) w0 w' := by
 have hB0 := hbw
 have hz0 := hbw.size
 have hz0 := hbw.size
 have hl3 := hO.blk.lt; obtain ⟨c1, hm2⟩ := hO.map; have hl4 := hm2.lt; have hne5 := blk_ne_mapN hO.blk hm2; have hln6 := hO.len
 refine co_enter (n := 10) Try.func32 rfl rfl rfl [(0, pt b 0)] rfl (fun a h0 => ?_)
 refine co_seq ?_
 refine co_reg ?_
 refine pk0 (v := .int .i64 0) h0 rfl fun a7 h7 => ?_; clear h0
 refine pl_nil ?_
 refine co_then ?_
 refine co_seq ?_
 refine co_seq ?_
 refine co_reg ?_
 refine pk0 (v := pt b 0) h7 rfl fun a8 h8 => ?_; clear h7
 refine pw h8 rfl (op_call (args := #[pt b 0]) (R := fun res xw => res = .bool false ∧ w = xw) rfl rfl rfl (by kernel_rfl) (by kernel_rfl) (Try.call39 _ _) (lzero_any b M u w hO.blk) (by rintro e x ⟨rfl, rfl⟩; exact ⟨_, rfl, ⟨rfl, rfl⟩⟩)) ?_; clear h8
 rintro _ _ a9 ⟨rfl, rfl⟩ h9
 refine pl_nil ?_
 refine co_then ?_
 refine co_false h9 rfl ?_
 refine wp_skip ?_
 refine co_then ?_
 refine co_seq ?_
 refine co_reg ?_
 refine pk0 (v := pt b 0) h9 rfl fun a12 h12 => ?_; clear h9
 refine pk0 (v := pt b 0) h12 rfl fun a13 h13 => ?_; clear h12
 refine pk0 (v := pt b 1) h13 rfl fun a14 h14 => ?_; clear h13
 refine pk (v := u) h14 rfl (rn_load1 rfl rfl Try.isAgg29 (hO.blk.cell rfl)) fun a15 h15 => ?_; clear h14
 refine pk (v := .int .i64 ((L.length : Nat) : Int)) h15 rfl (rn_lenOwn rfl rfl Try.underlying29 hO.row) fun a16 h16 => ?_; clear h15
 refine pk0 (v := .int .i64 ((L.length : Nat) : Int)) h16 rfl fun a17 h17 => ?_; clear h16
 refine pl_nil ?_
 refine co_then ?_
 refine wp_ret ?_
 refine co_ret1 h17 rfl rfl ?_
 exact ⟨rfl, ⟨hO.blk, ⟨_, hm2⟩, hO.row, hO.ents, hO.sb, hO.sM, hO.su, hO.uq, hO.len⟩, hB0⟩
set_option maxRecDepth 100000 in
theorem lStamped_any (w0 : World) (S : Nat → Prop) (b : Nat) (M : Nat) (u : Value) (L : List EntT) (w : World) (hbw : But S w0 w) (hO : LgP S w0.heap.size w b M u L) :
    Calls Try.prog 33 #[pt b 0] w fun e w' => e = .returned (.int .i64 ((stN L : Nat) : Int)) ∧ LgP S w0.heap.size w' b M u L ∧ But (S) w0 w' := by
 have hB0 := hbw
 have hz0 := hbw.size
 have hz0 := hbw.size
 have hl3 := hO.blk.lt; obtain ⟨c1, hm2⟩ := hO.map; have hl4 := hm2.lt; have hne5 := blk_ne_mapN hO.blk hm2; have hln6 := hO.len
 refine co_enter (n := 10) Try.func33 rfl rfl rfl [(0, pt b 0)] rfl (fun a h0 => ?_)
 refine co_seq ?_
 refine co_reg ?_
 refine pk0 (v := .int .i64 0) h0 rfl fun a7 h7 => ?_; clear h0
 refine pl_nil ?_
 refine co_then ?_
 refine co_seq ?_
 refine co_seq ?_
 refine co_reg ?_
 refine pk0 (v := pt b 0) h7 rfl fun a8 h8 => ?_; clear h7
 refine pw h8 rfl (op_call (args := #[pt b 0]) (R := fun res xw => res = .bool false ∧ w = xw) rfl rfl rfl (by kernel_rfl) (by kernel_rfl) (Try.call39 _ _) (lzero_any b M u w hO.blk) (by rintro e x ⟨rfl, rfl⟩; exact ⟨_, rfl, ⟨rfl, rfl⟩⟩)) ?_; clear h8
 rintro _ _ a9 ⟨rfl, rfl⟩ h9
 refine pl_nil ?_
 refine co_then ?_
 refine co_false h9 rfl ?_
 refine wp_skip ?_
 refine co_then ?_
 refine co_seq ?_
 refine co_reg ?_
 refine pk0 (v := pt b 0) h9 rfl fun a12 h12 => ?_; clear h9
 refine pk0 (v := pt b 0) h12 rfl fun a13 h13 => ?_; clear h12
 refine pk0 (v := pt b 1) h13 rfl fun a14 h14 => ?_; clear h13
 refine pk (v := u) h14 rfl (rn_load1 rfl rfl Try.isAgg29 (hO.blk.cell rfl)) fun a15 h15 => ?_; clear h14
 refine pw h15 rfl (op_call (args := #[u]) (R := fun res xw => res = .int .i64 ((stN L : Nat) : Int) ∧ Below w.heap.size w xw) rfl rfl rfl (by kernel_rfl) (by kernel_rfl) (Try.call54 _ _) (itemStamped_any u L w (row_sl hO.row entE_len) (fun z hz => (hO.ents z hz).ok)) (by rintro e x ⟨rfl, hb18⟩; exact ⟨_, rfl, ⟨rfl, hb18⟩⟩)) ?_; clear h15
 rintro _ w17 a16 ⟨rfl, hb18⟩ h16
 have hz19 := hb18.size
 refine pk0 (v := .int .i64 ((stN L : Nat) : Int)) h16 rfl fun a20 h20 => ?_; clear h16
 refine pl_nil ?_
 refine co_then ?_
 refine wp_ret ?_
 refine co_ret1 h20 rfl rfl ?_
 have hM21 := hm2.kept (below_grown hb18) (by simp)
 have hr22 := row_kept_new hO.row (below_grown hb18)
 have hE23 := hO.ents.new (below_grown hb18)
 have hk24 := hO.blk.below hb18
 have hB25 := fbU_call hB0 hb18
 exact ⟨rfl, ⟨hk24, ⟨_, hM21⟩, hr22, hE23, hO.sb, hO.sM, hO.su, hO.uq, hO.len⟩, hB25⟩
end Go.Proofs.Ytniojcnkjehflaa

/- Package rlog: At, All. Conditions: at most 100 entries, 20 operations each. -/
namespace Go.Proofs.Ytniojcnkjehflaa
open Go.RowKit Go.PlainAid
set_option linter.unusedVariables false


theorem entsK_got {S : Nat → Prop} {n : Nat} {w : World} {L : List EntT} (h : EntsK S n w L) : ∀ z ∈ L, EntOk w z := fun z hz => (h z hz).ok
set_option maxRecDepth 100000 in
theorem freshEntries_any (v : Value) (l : List EntT) (w : World) (hs : SliceOf entE 4 w v l) (hok : ∀ z ∈ l, EntOk w z) (hl20 : ∀ z ∈ l, z.opl.length ≤ 20) (hlen : l.length ≤ 100) :
    Calls Try.prog 40 #[v] w fun e w' => ∃ (L2 : List EntT) (u : Value), e = .returned (u) ∧ w'.ownsRow w.heap.size 37 4 u L2.length (L2.flatMap entE) ∧ EntsK (fun _ => False) w.heap.size w' L2 ∧ L2.map e0 = l.map e0 ∧ Below w.heap.size w w' := by
 have hB0 := Below.refl w.heap.size w
 have hl_hs := sl_len hs
 refine co_enter (n := 22) Try.func40 rfl rfl rfl [(0, v)] rfl (fun a h0 => ?_)
 refine co_seq ?_
 refine co_reg ?_
 refine pk0 (v := .slice none 0 0) h0 rfl fun a1 h1 => ?_; clear h0
 refine pl_nil ?_
 refine co_then ?_
 refine co_seq ?_
 refine co_reg ?_
 refine pk0 (v := v) h1 rfl fun a2 h2 => ?_; clear h1
 refine pk (v := .int .i64 ((l.length : Nat) : Int)) h2 rfl (rn_len rfl rfl Try.underlying29 hs) fun a3 h3 => ?_; clear h2
 refine pw h3 rfl (op_makeOwn (base := w.heap.size) (enc := entE) (k := l.length) (by_ := 48) (z := .agg #[.int .i64 0, .int .i64 0, .slice none 0 0, .int .u64 0]) (size := 4) rfl rfl rfl Try.underlying29 (by kernel_rfl) (by omega) (by unfold maxLen; omega) (Nat.le_refl _)) ?_; clear h3
 rintro _ w5 a4 ⟨N6, rfl, hN7, hr8, hg9⟩ h4
 have hz10 := hg9.size
 refine pk0 (v := .slice (some ⟨N6, 0, none⟩) 0 l.length) h4 rfl fun a11 h11 => ?_; clear h4
 refine pl_nil ?_
 refine co_then ?_
 refine co_seq ?_
 refine co_seq ?_
 refine co_reg ?_
 refine pk0 (v := v) h11 rfl fun a12 h12 => ?_; clear h11
 have hB13 := hb_new hB0 hg9
 refine pk (v := .int .i64 ((l.length : Nat) : Int)) h12 rfl (rn_len rfl rfl Try.underlying29 (hs.below hB13)) fun a14 h14 => ?_; clear h12
 refine pk0 (v := .int .i64 0) h14 rfl fun a15 h15 => ?_; clear h14
 refine pl_nil ?_
 refine co_then ?_
 refine wp_block ?_
 have h16 : Slots 22 [(3, .slice (some ⟨N6, 0, none⟩) 0 l.length), (9, v), (10, .int .i64 ((l.length : Nat) : Int)), (11, .int .i64 0)] _ := h15.sub ⟨rfl, rfl, rfl, rfl, trivial⟩; clear h15
 refine co_loop (fun mm a x => ∃ (k : Nat) (u1 : Value) (Lk : List EntT), Slots 22 [(3, u1), (9, v), (10, .int .i64 ((l.length : Nat) : Int)), (11, .int .i64 ((k : Nat) : Int))] a ∧ mm = l.length - k ∧ (k ≤ l.length) ∧ (Lk.map e0 = (l.take k).map e0) ∧ x.ownsRow w.heap.size 37 4 u1 Lk.length (Lk.flatMap entE) ∧ EntsK (fun _ => False) w.heap.size x Lk ∧ Below w.heap.size w x) (l.length - 0) ?_ ?_
 · exact ⟨0, (.slice (some ⟨N6, 0, none⟩) 0 l.length), [], h16.sub ⟨rfl, rfl, rfl, (slot_eq rfl (congrArg (Value.int .i64) (by first | rfl | omega))), trivial⟩, rfl, by omega, by first | rfl | exact he0, (row_eq hr8 (rfl)), (fun e he => by cases he), hB13⟩
 · rintro k17 a18 w19 ⟨k, u1, Lk, h18, rfl, hi20, hi21, hf22, hf23, hB24⟩
   have hz25 := hB24.size
   have hLkl : Lk.length = k := by have hq := congrArg List.length (by assumption : Lk.map e0 = (l.take k).map e0); rw [List.length_map, List.length_map, List.length_take] at hq; omega
   refine co_seq ?_
   refine co_reg ?_
   refine pk0 (v := .bool (decide (((k : Nat) : Int) < ((l.length : Nat) : Int)))) h18 rfl fun a26 h26 => ?_; clear h18
   refine pl_nil ?_
   refine co_then ?_
   refine co_seq ?_
   cases hc27 : (decide (((k : Nat) : Int) < ((l.length : Nat) : Int)))
   ·
    rw [hc27] at h26
    have hp28 : ¬ (((k : Nat) : Int) < ((l.length : Nat) : Int)) := of_decide_eq_false hc27
    clear hc27
    refine co_false h26 rfl ?_
    refine wp_exit ?_
    refine co_thenX ?_
    refine co_thenX ?_
    refine co_blockX ?_
    refine co_then ?_
    refine co_seq ?_
    refine co_reg ?_
    refine pk0 (v := u1) h26 rfl fun a29 h29 => ?_; clear h26
    refine pk0 (v := u1) h29 rfl fun a30 h30 => ?_; clear h29
    refine pl_nil ?_
    refine co_then ?_
    refine wp_ret ?_
    refine co_ret1 h30 rfl rfl ?_
    exact ⟨_, _, rfl, (row_lows hf22 (by omega)), hf23, by have hq := (by assumption : Lk.map e0 = (l.take k).map e0); rwa [List.take_of_length_le (by omega)] at hq, hB24⟩
   ·
    rw [hc27] at h26
    have hp31 : ((k : Nat) : Int) < ((l.length : Nat) : Int) := of_decide_eq_true hc27
    clear hc27
    refine co_true h26 rfl ?_
    refine wp_skip ?_
    refine co_then ?_
    refine co_seq ?_
    refine wp_block ?_
    refine co_seq ?_
    refine co_reg ?_
    obtain ⟨y32, hy32⟩ : ∃ z, l[k]? = some z := ⟨_, List.getElem?_eq_getElem (by first | omega | (simp; done) | (simp; omega))⟩
    have oky32 := hok _ (List.mem_of_getElem? hy32)
    have k33 : 0 ≤ y32.ts := oky32.ts0
    have k34 : y32.ts < 18446744073709551616 := oky32.ts1
    have h20y32 := hl20 y32 (List.mem_of_getElem? hy32)
    refine pk (v := pt (blkOf v) (offOf v + k * 4)) h26 rfl (rn_index rfl rfl rfl Try.underlying29 Try.sizeOf37 (hs.below hB24) (by omega) (by first | omega | (simp; done) | (simp; omega))) fun a35 h35 => ?_; clear h26
    refine pk (v := .agg #[.int .i64 y32.client, .int .i64 y32.req, y32.ops, .int .u64 y32.ts]) h35 rfl (rn_loadN rfl rfl Try.underlying37 rfl (by kernel_rfl) (sl_at (hs.below hB24) hy32)) fun a36 h36 => ?_; clear h35
    refine pw h36 rfl (op_new (v := fun N => pt N 0) (T := 37) (cs := #[.int .i64 0, .int .i64 0, .slice none 0 0, .int .u64 0]) (by kernel_rfl) (by kernel_rfl) (by kernel_rfl)) ?_; clear h36
    rintro _ w38 a37 ⟨N39, rfl, hN42, hz43, hk41, hg40⟩ h37
    have ha44 := row_fresh hf22 hN42
    have hz45 := hg40.size
    try dsimp only at h37
    have hB51 := hb_new hB24 hg40
    refine pwD h37 rfl (op_storeN rfl rfl rfl (all_cons rfl (all_cons rfl (all_cons (sl_one (oky32.ops.below hB51)) (all_cons rfl all_nil)))) (by kernel_rfl) hk41 rfl) ?_; clear h37
    rintro _ w47 a46 ⟨hk48, hz49, hg50⟩ h46
    have hk48' : Blk w47 N39 37 #[.int .i64 y32.client, .int .i64 y32.req, y32.ops, .int .u64 y32.ts] := hk48; clear hk48
    have hz52 := hg50.size
    refine pl_nil ?_
    refine co_then ?_
    refine co_reg ?_
    refine pk0 (v := u1) h46 rfl fun a53 h53 => ?_; clear h46
    refine pk (v := .agg #[.int .i64 y32.client, .int .i64 y32.req, y32.ops, .int .u64 y32.ts]) h53 rfl (rn_loadN rfl rfl Try.underlying37 rfl (by kernel_rfl) hk48'.all) fun a54 h54 => ?_; clear h53
    have hB57 := hb_at hB51 hg50 (by omega)
    refine pw h54 rfl (op_call (args := #[.agg #[.int .i64 y32.client, .int .i64 y32.req, y32.ops, .int .u64 y32.ts]]) (R := fun res xw => ∃ u : Value, res = .agg #[.int .i64 y32.client, .int .i64 y32.req, u, .int .u64 y32.ts] ∧ xw.ownsRow w47.heap.size 74 3 u y32.opl.length (y32.opl.flatMap opE) ∧ Below w47.heap.size w47 xw) rfl rfl rfl (by kernel_rfl) (by kernel_rfl) (Try.call48 _ _) (freshEntry_any y32.client y32.req y32.ops y32.opl y32.ts w47 (oky32.ops.below hB57) (by first | omega | (simp; done) | (simp; omega))) (by rintro e x ⟨u, rfl, hq59, hb60⟩; exact ⟨_, rfl, ⟨u, rfl, hq59, hb60⟩⟩)) ?_; clear h54
    rintro _ w56 a55 ⟨u58, rfl, hq59, hb60⟩ h55
    have hz61 := hb60.size
    have hl62 := sl_len (row_sl hq59 opE_len)
    refine pw h55 rfl (op_new (v := fun N => .slice (some ⟨N, 0, none⟩) 1 1) (T := 37) (cs := #[.int .i64 y32.client, .int .i64 y32.req, u58, .int .u64 y32.ts]) (by kernel_rfl) (by kernel_rfl) (by kernel_rfl)) ?_; clear h55
    rintro _ w64 a63 ⟨N65, rfl, hN68, hz69, hk67, hg66⟩ h63
    have hr71 := row_kept_new hf22 hg40
    have hr72 := row_kept_at hr71 hg50 (ha44)
    have hr73 := row_kept_new hr72 (below_grown hb60)
    have ha70 := row_fresh hr73 hN68
    have ha74 := row_fresh hq59 hN68
    have hz75 := hg66.size
    try dsimp only at h63
    have hr82 := row_kept_new hr73 hg66
    have hr83 := row_kept_new hq59 hg66
    refine pw h63 rfl (op_append rfl w.heap.size 37 (z := .agg #[.int .i64 0, .int .i64 0, .slice none 0 0, .int .u64 0]) (size := 4) (bytes := 48) Try.underlying29 (by kernel_rfl) rfl rfl rfl hr82 rfl hk67 rfl (all_cons rfl (all_cons rfl (all_cons (row_one hr83) (all_cons rfl all_nil)))) (by first | omega | (simp only [List.length_nil, List.length_append, List.length_cons, List.length_take, List.length_drop]; omega)) (by first | omega | (simp only [List.length_nil, List.length_append, List.length_cons, List.length_take, List.length_drop]; omega)) (by omega)) ?_; clear h63
    rintro v78 w77 a76 ⟨hr79, hg80⟩ h76
    have hr79' : w77.ownsRow w.heap.size 37 4 v78 ((Lk ++ [(EntT.mk y32.client y32.req u58 y32.opl y32.ts)]).length) ((Lk ++ [(EntT.mk y32.client y32.req u58 y32.opl y32.ts)]).flatMap entE) := row_push (y := (EntT.mk y32.client y32.req u58 y32.opl y32.ts)) hr79 rfl rfl; clear hr79
    have hz84 := hg80.size
    refine pk0 (v := v78) h76 rfl fun a85 h85 => ?_; clear h76
    refine pl_nil ?_
    refine co_blockN ?_
    refine co_then ?_
    refine co_reg ?_
    refine pk (v := .int .i64 ((k + 1 : Nat) : Int)) h85 rfl (rn_arith' rfl rfl rfl rfl rfl rfl (IntWalk.i64_in _ (by omega)) (by omega)) fun a86 h86 => ?_; clear h85
    refine pk0 (v := .int .i64 ((k + 1 : Nat) : Int)) h86 rfl fun a87 h87 => ?_; clear h86
    refine pl_nil ?_
    refine co_then ?_
    refine ⟨(l.length - (k + 1)), by omega, ?_⟩
    have he0 := e0_snoc (by assumption : Lk.map e0 = _) hy32 (z := (EntT.mk y32.client y32.req u58 y32.opl y32.ts)) rfl
    have hE88 := hf23.new hg40
    have hE89 := hE88.blk hk41 (by decide) hg50
    have hE90 := hE89.new (below_grown hb60)
    have hE91 := hE90.new hg66
    have hE92 := hE91.row hr82 (by decide) hg80
    have hr93 := row_kept_row hr83 hr82 hg80 (by decide)
    have hB94 := hb_call hB57 hb60
    have hB95 := hb_new hB94 hg66
    have hB96 := hb_row hB95 hr82 (by omega) hg80
    exact ⟨k + 1, v78, (Lk ++ [(EntT.mk y32.client y32.req u58 y32.opl y32.ts)]), h87.sub ⟨rfl, rfl, rfl, rfl, trivial⟩, rfl, by omega, by first | rfl | exact he0, (row_eq hr79' (rfl)), (EntsK.snoc hE92 (e := EntT.mk y32.client y32.req u58 y32.opl y32.ts) ⟨row_lows hr93 (Nat.zero_le _), InS.low hr93 (by omega), by omega, oky32.each, oky32.ts0, oky32.ts1, oky32.cl, oky32.rq⟩), hB96⟩
set_option maxRecDepth 100000 in
theorem lAll_any (w0 : World) (S : Nat → Prop) (b : Nat) (M : Nat) (u : Value) (L : List EntT) (w : World) (hbw : But S w0 w) (hO : LgP S w0.heap.size w b M u L) :
    Calls Try.prog 10 #[pt b 0] w fun e w' => ∃ (L2 : List EntT) (u2 : Value), e = .returned (u2) ∧ w'.ownsRow w.heap.size 37 4 u2 L2.length (L2.flatMap entE) ∧ EntsK (fun _ => False) w.heap.size w' L2 ∧ L2.map e0 = L.map e0 ∧ LgP S w0.heap.size w' b M u L ∧ But (S) w0 w' := by
 have hB0 := hbw
 have hz0 := hbw.size
 have hz0 := hbw.size
 have hl3 := hO.blk.lt; obtain ⟨c1, hm2⟩ := hO.map; have hl4 := hm2.lt; have hne5 := blk_ne_mapN hO.blk hm2; have hln6 := hO.len
 refine co_enter (n := 10) Try.func10 rfl rfl rfl [(0, pt b 0)] rfl (fun a h0 => ?_)
 refine co_seq ?_
 refine co_reg ?_
 refine pk0 (v := .slice none 0 0) h0 rfl fun a7 h7 => ?_; clear h0
 refine pl_nil ?_
 refine co_then ?_
 refine co_seq ?_
 refine co_seq ?_
 refine co_reg ?_
 refine pk0 (v := pt b 0) h7 rfl fun a8 h8 => ?_; clear h7
 refine pw h8 rfl (op_call (args := #[pt b 0]) (R := fun res xw => res = .bool false ∧ w = xw) rfl rfl rfl (by kernel_rfl) (by kernel_rfl) (Try.call39 _ _) (lzero_any b M u w hO.blk) (by rintro e x ⟨rfl, rfl⟩; exact ⟨_, rfl, ⟨rfl, rfl⟩⟩)) ?_; clear h8
 rintro _ _ a9 ⟨rfl, rfl⟩ h9
 refine pl_nil ?_
 refine co_then ?_
 refine co_false h9 rfl ?_
 refine wp_skip ?_
 refine co_then ?_
 refine co_seq ?_
 refine co_reg ?_
 refine pk0 (v := pt b 0) h9 rfl fun a12 h12 => ?_; clear h9
 refine pk0 (v := pt b 0) h12 rfl fun a13 h13 => ?_; clear h12
 refine pk0 (v := pt b 1) h13 rfl fun a14 h14 => ?_; clear h13
 refine pk (v := u) h14 rfl (rn_load1 rfl rfl Try.isAgg29 (hO.blk.cell rfl)) fun a15 h15 => ?_; clear h14
 refine pw h15 rfl (op_call (args := #[u]) (R := fun res xw => ∃ L2 : List EntT, ∃ u : Value, res = u ∧ xw.ownsRow w.heap.size 37 4 u L2.length (L2.flatMap entE) ∧ EntsK (fun _ => False) w.heap.size xw L2 ∧ L2.map e0 = L.map e0 ∧ Below w.heap.size w xw) rfl rfl rfl (by kernel_rfl) (by kernel_rfl) (Try.call40 _ _) (freshEntries_any u L w (row_sl hO.row entE_len) (entsK_got hO.ents) (fun z hz => (hO.ents z hz).len) hO.len) (by rintro e x ⟨L2, u, rfl, hq20, hq21, hq22, hb23⟩; exact ⟨_, rfl, ⟨L2, u, rfl, hq20, hq21, hq22, hb23⟩⟩)) ?_; clear h15
 rintro u19 w17 a16 ⟨L218, _, rfl, hq20, hq21, hq22, hb23⟩ h16
 have hu24 := row_under hO.row (rfl : w.heap.size = _)
 have hz25 := hb23.size
 have hl26 := sl_len (row_sl hq20 entE_len)
 refine pk0 (v := u19) h16 rfl fun a27 h27 => ?_; clear h16
 refine pl_nil ?_
 refine co_then ?_
 refine wp_ret ?_
 refine co_ret1 h27 rfl rfl ?_
 have hM28 := hm2.kept (below_grown hb23) (by simp)
 have hr29 := row_kept_new hO.row (below_grown hb23)
 have hE30 := hO.ents.new (below_grown hb23)
 have hk31 := hO.blk.below hb23
 have hB32 := fbU_call hB0 hb23
 exact ⟨_, _, rfl, (row_lows hq20 (by omega)), hq21, hq22, ⟨hk31, ⟨_, hM28⟩, hr29, hE30, hO.sb, hO.sM, hO.su, hO.uq, hO.len⟩, hB32⟩
end Go.Proofs.Ytniojcnkjehflaa

/- Objects with a footprint: what holds of them depends on the blocks in S alone; a call turns S, and what it makes joins it. Conditions: none. -/
namespace Go.Proofs.Ytniojcnkjehflaa
open Go.RowKit Go.PlainAid
set_option linter.unusedVariables false

/-- S' holds what S held, and what was made since; nothing but S was turned. -/
structure Grew (S S' : Nat → Prop) (w x : World) : Prop where
  sub : ∀ q, S' q → S q ∨ w.heap.size ≤ q
  but : But S w x
section
variable {S S' D : Nat → Prop} {n N : Nat} {w x : World} {v u : Value} {T e : TypeId} {cs : Array Value} {B sz k : Nat} {xs : List Value}
theorem hbL {w0 : World} (h : Below w0.heap.size w0 w) (hlo : ∀ q, S q → w0.heap.size ≤ q) (hb : But S w x) : Below w0.heap.size w0 x := below_but h hb h.size (fun i _ h => hlo i h)
theorem Grew.lo {n0 : Nat} (h : Grew S S' w x) (hlo : ∀ q, S q → n0 ≤ q) (hn : n0 ≤ w.heap.size) : ∀ q, S' q → n0 ≤ q := fun q hq => by
  rcases h.sub q hq with k | k
  · exact hlo q k
  · omega
theorem Grew.off (h : Grew S S' w x) (hN : ¬ S N) (hl : N < w.heap.size) : ¬ S' N := fun hq => by
  rcases h.sub N hq with k | k
  · exact hN k
  · omega
/-- Two objects that have no block in common go on so, where one is turned. -/
theorem Grew.ap (h : Grew S S' w x) (ha : ∀ q, S q → D q → False) (hD : ∀ q, D q → q < w.heap.size) : ∀ q, S' q → D q → False := fun q h1 h2 => by
  rcases h.sub q h1 with k | k
  · exact ha q k h2
  · have := hD q h2; omega
theorem ap_symm (ha : ∀ q, S q → D q → False) : ∀ q, D q → S q → False := fun q h1 h2 => ha q h2 h1
theorem off_new (hS : ∀ q, S q → q < w.heap.size) (hN : N = w.heap.size) : ¬ S N := fun h => by have := hS N h; omega
theorem Blk.butS (h : Blk w N T cs) (hb : But S w x) (hn : ¬ S N) : Blk x N T cs := by
  have hl := h.lt
  unfold Blk at h ⊢
  rw [hb.block N hl hn]; exact h
theorem row_block {i : Nat} (h : w.ownsRow B e sz v k xs) (hi : v.ownBlock = some i) : ∃ cs, w.heap[i]? = some (.cells cs e (0, 0)) := by
  rcases h.2 with ⟨rfl, _⟩ | ⟨g, c, cur, rfl, _, hh, _⟩
  · simp [Value.ownBlock] at hi
  · simp only [Value.ownBlock, Option.some.injEq] at hi; subst hi; exact ⟨_, hh⟩
theorem row_sameL (h : w.ownsRow B e sz v k xs) (hk : ∀ i, v.ownBlock = some i → x.heap[i]? = w.heap[i]?) : x.ownsRow B e sz v k xs := by
  refine ⟨h.1, ?_⟩
  rcases h.2 with h1 | ⟨g, c, cur, rfl, hg, hh, h3⟩
  · exact .inl h1
  · exact .inr ⟨g, c, cur, rfl, hg, by rw [hk g rfl]; exact hh, h3⟩
theorem MapB.butS {K : Type} [DecidableEq K] {kv : K → Value} {l : List (K × Value)} (h : MapB kv w B l) (hb : But S w x) (hn : ¬ S B) : MapB kv x B l := by
  have hl := h.lt
  obtain ⟨es, cl, h1, h2⟩ := h
  exact ⟨es, cl, by rw [hb.block B hl hn]; exact h1, h2⟩
theorem MapO.butS {K V : Type} [DecidableEq K] {kv : K → Value} {enc : V → Value} {g : K → Option V} {c : Nat} (h : MapO kv enc w B g c) (hb : But S w x) (hn : ¬ S B) : MapO kv enc x B g c := by
  obtain ⟨l, h1, h2⟩ := h; exact ⟨l, h1.butS hb hn, h2⟩
theorem MapG.butS {K V : Type} [DecidableEq K] {kv : K → Value} {enc : V → Value} {z : V} {g : K → V} (h : MapG kv enc z w B g) (hb : But S w x) (hn : ¬ S B) : MapG kv enc z x B g := by
  obtain ⟨l, h1, h2⟩ := h; exact ⟨l, h1.butS hb hn, h2⟩
/-- A slice that came in ahead of all that S has. -/
theorem sl_off {α : Type} {enc : α → List Value} {l : List α} (h : SliceOf enc sz w v l) (hne : ∀ y ∈ l, enc y ≠ []) (hlo : ∀ q, S q → w.heap.size ≤ q) : l ≠ [] → ∀ k, v.ownBlock = some k → ¬ S k := by
  intro hl k hk hq
  obtain ⟨ao, cap, rfl, h1, h2, h3, h4⟩ := h
  cases l with
  | nil => exact hl rfl
  | cons y r =>
    obtain ⟨b, off, rfl, hr⟩ := h4 0 (by simp)
    have hy := hne y (by simp)
    have hne0 : 0 < (enc y).length := by cases he : enc y with | nil => exact absurd he hy | cons a t => simp
    have hc := hr 0 _ (List.getElem?_eq_getElem hne0)
    have hlt := World.block_lt_of_cell? w _ hc
    simp only [Value.ownBlock, Option.some.injEq] at hk
    have := hlo k hq
    simp at hlt
    omega
end
end Go.Proofs.Ytniojcnkjehflaa

/- Package rlog: one that nobody made; the log as one object. Conditions: at most 100 entries, 20 operations each. -/
namespace Go.Proofs.Ytniojcnkjehflaa
open Go.RowKit Go.PlainAid
set_option linter.unusedVariables false

def TyL (w : World) (k : Nat) : Prop := (∃ cs T fr, w.heap[k]? = some (.cells cs T fr) ∧ (T = 68 ∨ T = 37 ∨ T = 74 ∨ T = 31)) ∨ ∃ es cl, w.heap[k]? = some (.map es cl)
/-- A type that is none of a log's parts. -/
def offL (T : TypeId) : Prop := T ≠ 68 ∧ T ≠ 37 ∧ T ≠ 74 ∧ T ≠ 31
instance (T : TypeId) : Decidable (offL T) := by unfold offL; infer_instance
theorem not_tyL {w : World} {N : Nat} {T : TypeId} {cs : Array Value} (hb : w.heap[N]? = some (.cells cs T (0, 0))) (hT : offL T) : ¬ TyL w N := by
  rintro (⟨cs', T', fr, h1, h2⟩ | ⟨es, cl, h1⟩)
  · rw [hb] at h1
    simp only [Option.some.injEq, Obj.cells.injEq] at h1
    obtain ⟨_, rfl, _⟩ := h1
    rcases h2 with q | q | q | q
    · exact hT.1 q
    · exact hT.2.1 q
    · exact hT.2.2.1 q
    · exact hT.2.2.2 q
  · rw [hb] at h1; cases h1
/-- Blocks that were there, each of a type that a log's parts have. -/
def OfL (S : Nat → Prop) (w : World) : Prop := ∀ q, S q → q < w.heap.size ∧ TyL w q
/-- A log that was made: its parts are in S. -/
def LObj (S : Nat → Prop) (w : World) (b : Nat) (L : List EntT) : Prop := OfL S w ∧ ∃ M u, LgP S w.heap.size w b M u L
def tot (S : Nat → Prop) (n : Nat) (w : World) (q : Nat) : Prop := (S q ∨ n ≤ q) ∧ q < w.heap.size ∧ TyL w q
section
variable {S S' D : Nat → Prop} {n : Nat} {w x : World} {b M N : Nat} {u v : Value} {L : List EntT} {cs : Array Value} {T e : TypeId} {B sz k : Nat} {xs : List Value}
theorem ins_tot (h : InS S n v) (hr : w.ownsRow B e sz v k xs) (he : e = 37 ∨ e = 74) (m : Nat) : InS (tot S n w) m v := fun i hi => by
  obtain ⟨cs, hc⟩ := row_block hr hi
  exact .inl ⟨h i hi, (Array.getElem?_eq_some_iff.1 hc).1, .inl ⟨cs, e, _, hc, by rcases he with q | q; exact .inr (.inl q); exact .inr (.inr (.inl q))⟩⟩
theorem LgP.fin (h : LgP S n w b M u L) : LObj (tot S n w) w b L := by
  refine ⟨fun q hq => hq.2, M, u, h.blk, h.map, h.row, fun e he => ⟨(h.ents e he).row, ins_tot (h.ents e he).ins (h.ents e he).row (.inr rfl) _, (h.ents e he).len, (h.ents e he).each, (h.ents e he).ts0, (h.ents e he).ts1, (h.ents e he).cl, (h.ents e he).rq⟩, .inl ⟨h.sb, h.blk.lt, .inl ⟨_, _, _, h.blk, .inl rfl⟩⟩, ?_, ins_tot h.su h.row (.inl rfl) _, h.uq, h.len⟩
  obtain ⟨c, hm⟩ := h.map
  have hlt := hm.lt
  obtain ⟨l, ⟨es, cl, h1, _⟩, _⟩ := hm
  exact .inl ⟨h.sM, hlt, .inr ⟨es, cl, h1⟩⟩
theorem Grew.tot (h : But S w x) : Grew S (tot S w.heap.size x) w x := ⟨fun q hq => hq.1, h⟩
theorem ins_in (h : InS S w.heap.size v) (hr : w.ownsRow B e sz v k xs) : ∀ i, v.ownBlock = some i → S i := fun i hi => by
  rcases h i hi with q | q
  · exact q
  · have := (hr.lt i hi).2; omega
theorem insR_tot (h : ∀ i, v.ownBlock = some i → S i) (hr : x.ownsRow B e sz v k xs) (he : e = 37 ∨ e = 74) (m : Nat) : InS (fun q => S q ∧ q < x.heap.size ∧ TyL x q) m v := fun i hi => by
  obtain ⟨cs, hc⟩ := row_block hr hi
  exact .inl ⟨h i hi, (Array.getElem?_eq_some_iff.1 hc).1, .inl ⟨cs, e, _, hc, by rcases he with q | q; exact .inr (.inl q); exact .inr (.inr (.inl q))⟩⟩
/-- A call that looks alone. -/
theorem LgP.ro (h : LgP S w.heap.size w b M u L) (h2 : LgP S w.heap.size x b M u L) : LObj (fun q => S q ∧ q < x.heap.size ∧ TyL x q) x b L := by
  refine ⟨fun q hq => hq.2, M, u, h2.blk, h2.map, h2.row, fun e he => ⟨(h2.ents e he).row, insR_tot (ins_in (h.ents e he).ins (h.ents e he).row) (h2.ents e he).row (.inr rfl) _, (h.ents e he).len, (h.ents e he).each, (h.ents e he).ts0, (h.ents e he).ts1, (h.ents e he).cl, (h.ents e he).rq⟩, .inl ⟨?_, h2.blk.lt, .inl ⟨_, _, _, h2.blk, .inl rfl⟩⟩, ?_, insR_tot (ins_in h.su h.row) h2.row (.inl rfl) _, h.uq, h.len⟩
  · rcases h.sb with q | q
    · exact q
    · have := h.blk.lt; omega
  · obtain ⟨c, hm⟩ := h.map
    have h1 : S M := by
      rcases h.sM with q | q
      · exact q
      · have := hm.lt; omega
    obtain ⟨c2, hm2⟩ := h2.map
    have hlt := hm2.lt
    obtain ⟨l, ⟨es, cl, h3, _⟩, _⟩ := hm2
    exact .inl ⟨h1, hlt, .inr ⟨es, cl, h3⟩⟩
theorem Grew.ro (h : But S w x) : Grew S (fun q => S q ∧ q < x.heap.size ∧ TyL x q) w x := ⟨fun q hq => .inl hq.1, h⟩
/-- All that is the log's is as it was: so is the log. -/
theorem LObj.keep (h : LObj S w b L) (hs : w.heap.size ≤ x.heap.size) (hk : ∀ q, S q → x.heap[q]? = w.heap[q]?) : LObj S x b L := by
  obtain ⟨hS, M, u, h⟩ := h
  have hb : S b := by
    rcases h.sb with q | q
    · exact q
    · have := h.blk.lt; omega
  have hty : OfL S x := fun q hq => ⟨by have := (hS q hq).1; omega, by
    have h1 := (hS q hq).2
    unfold TyL at h1 ⊢
    rw [hk q hq]; exact h1⟩
  have up : ∀ {v : Value}, (∀ i, v.ownBlock = some i → S i) → InS S x.heap.size v := fun hv i hi => .inl (hv i hi)
  refine ⟨hty, M, u, ?_, ?_, row_sameL h.row (fun i hi => hk i (ins_in h.su h.row i hi)), fun e he => ⟨row_sameL (h.ents e he).row (fun i hi => hk i (ins_in (h.ents e he).ins (h.ents e he).row i hi)), up (ins_in (h.ents e he).ins (h.ents e he).row), (h.ents e he).len, (h.ents e he).each, (h.ents e he).ts0, (h.ents e he).ts1, (h.ents e he).cl, (h.ents e he).rq⟩, .inl hb, ?_, up (ins_in h.su h.row), h.uq, h.len⟩
  · have hB := h.blk
    unfold Blk at hB ⊢
    rw [hk b hb]; exact hB
  · obtain ⟨c, hm⟩ := h.map
    have hM : S M := by
      rcases h.sM with q | q
      · exact q
      · have := hm.lt; omega
    obtain ⟨l, ⟨es, cl, h1, h2⟩, h3⟩ := hm
    exact ⟨c, l, ⟨es, cl, by rw [hk M hM]; exact h1, h2⟩, h3⟩
  · obtain ⟨c, hm⟩ := h.map
    rcases h.sM with q | q
    · exact .inl q
    · have := hm.lt; omega
theorem LObj.gr {row : Option Nat} (h : LObj S w b L) (hg : w.grownBy x row) (hr : ∀ k, row = some k → ¬ S k) : LObj S x b L :=
  h.keep hg.size fun k hk => hg.block k (h.1 k hk).1 (fun e => hr k e.symm hk)
theorem LObj.new (h : LObj S w b L) (hg : w.grownBy x none) : LObj S x b L := h.gr hg (fun k e => by cases e)
theorem LObj.call (h : LObj S w b L) (hb : Below w.heap.size w x) : LObj S x b L := h.new (below_grown hb)
theorem LObj.at (h : LObj S w b L) (hb : Blk w N T cs) (hT : offL T) (hg : w.grownBy x (some N)) : LObj S x b L := h.gr hg (fun k e => by cases e; exact fun hS => not_tyL hb hT (h.1 N hS).2)
theorem LObj.row (h : LObj S w b L) (hr : w.ownsRow B e sz v k xs) (hT : offL e) (hg : w.grownBy x v.ownBlock) : LObj S x b L :=
  h.gr hg (fun k e hS => by obtain ⟨cs, hc⟩ := row_block hr e; exact not_tyL hc hT (h.1 k hS).2)
theorem LObj.but (h : LObj S w b L) (hd : ∀ q, S q → D q → False) (hb : But D w x) : LObj S x b L := h.keep hb.size fun k hk => hb.block k (h.1 k hk).1 (fun q => hd k hk q)
end
theorem tNew (w : World) : Calls Try.prog 8 #[] w fun e w' => ∃ N S, e = .returned (pt N 0) ∧ LObj S w' N [] ∧ (∀ q, S q → w.heap.size ≤ q) ∧ Below w.heap.size w w' :=
  (lNew_any w).mono fun e x ⟨N, M, h1, h2, h3⟩ => ⟨N, _, h1, h2.fin, fun q hq => by rcases hq.1 with k | k; exact absurd k id; exact k, h3⟩
theorem tSet {S : Nat → Prop} {b : Nat} {L : List EntT} (w : World) (i c r : Int) (v : Value) (l : List OpT) (ts : Int) (h : LObj S w b L) (hs : SliceOf opE 3 w v l) (hvS : l ≠ [] → ∀ k, v.ownBlock = some k → ¬ S k) (hlen : l.length ≤ 20) (hts : 0 ≤ ts ∧ ts < 18446744073709551616) (hen : (∀ o ∈ l, opOk o) ∧ (Lit.int .i64 c).wf = true ∧ (Lit.int .i64 r).wf = true) :
    Calls Try.prog 30 #[pt b 0, .int .i64 i, .agg #[.int .i64 c, .int .i64 r, v, .int .u64 ts]] w fun e w' => ∃ L' S', e = .returned (.int .i64 (setE L i c r l ts)) ∧ LObj S' w' b L' ∧ SetR L i c r l ts L' ∧ Grew S S' w w' := by
  obtain ⟨_, M, u, hP⟩ := h
  exact (lSet_any w S b M u L i c r v l ts w (But.refl _ _) hP hs hvS hlen hts hen).mono fun e x ⟨u', L', h1, h2, h3, h4⟩ => ⟨L', _, h1, h2.fin, h3, .tot h4⟩
theorem tStamp {S : Nat → Prop} {b : Nat} {L : List EntT} (w : World) (i ts : Int) (h : LObj S w b L) (hts : 0 ≤ ts ∧ ts < 18446744073709551616) :
    Calls Try.prog 31 #[pt b 0, .int .i64 i, .int .u64 ts] w fun e w' => ∃ S', e = .returned (.int .i64 (stE L i ts)) ∧ LObj S' w' b (stL L i ts) ∧ Grew S S' w w' := by
  obtain ⟨_, M, u, hP⟩ := h
  exact (lStamp_any w S b M u L i ts w (But.refl _ _) hP hts).mono fun e x ⟨h1, h2, h4⟩ => ⟨_, h1, h2.fin, .tot h4⟩
theorem tFind {S : Nat → Prop} {b : Nat} {L : List EntT} (w : World) (c r : Int) (h : LObj S w b L) :
    Calls Try.prog 34 #[pt b 0, .int .i64 c, .int .i64 r] w fun e w' => ∃ S', e = .returned (.int .i64 (fndI L c r)) ∧ LObj S' w' b L ∧ Grew S S' w w' := by
  obtain ⟨_, M, u, hP⟩ := h
  exact (lFind_any w S b M u L c r w (But.refl _ _) hP).mono fun e x ⟨h1, h2, h4⟩ => ⟨_, h1, hP.ro h2, .ro h4⟩
theorem tTop {S : Nat → Prop} {b : Nat} {L : List EntT} (w : World) (c : Int) (h : LObj S w b L) :
    Calls Try.prog 35 #[pt b 0, .int .i64 c] w fun e w' => ∃ S', e = .returned (.int .i64 (topN L c)) ∧ LObj S' w' b L ∧ Grew S S' w w' := by
  obtain ⟨_, M, u, hP⟩ := h
  exact (lTop_any w S b M u L c w (But.refl _ _) hP).mono fun e x ⟨h1, h2, h4⟩ => ⟨_, h1, hP.ro h2, .ro h4⟩
theorem tLen {S : Nat → Prop} {b : Nat} {L : List EntT} (w : World) (h : LObj S w b L) :
    Calls Try.prog 32 #[pt b 0] w fun e w' => ∃ S', e = .returned (.int .i64 (L.length : Nat)) ∧ LObj S' w' b L ∧ Grew S S' w w' := by
  obtain ⟨_, M, u, hP⟩ := h
  exact (lLen_any w S b M u L w (But.refl _ _) hP).mono fun e x ⟨h1, h2, h4⟩ => ⟨_, h1, hP.ro h2, .ro h4⟩
theorem tStamped {S : Nat → Prop} {b : Nat} {L : List EntT} (w : World) (h : LObj S w b L) :
    Calls Try.prog 33 #[pt b 0] w fun e w' => ∃ S', e = .returned (.int .i64 (stN L : Nat)) ∧ LObj S' w' b L ∧ Grew S S' w w' := by
  obtain ⟨_, M, u, hP⟩ := h
  exact (lStamped_any w S b M u L w (But.refl _ _) hP).mono fun e x ⟨h1, h2, h4⟩ => ⟨_, h1, hP.ro h2, .ro h4⟩
theorem tAll {S : Nat → Prop} {b : Nat} {L : List EntT} (w : World) (h : LObj S w b L) :
    Calls Try.prog 10 #[pt b 0] w fun e w' => ∃ L2 u2 S', e = .returned u2 ∧ w'.ownsRow w.heap.size 37 4 u2 L2.length (L2.flatMap entE) ∧ EntsK (fun _ => False) w.heap.size w' L2 ∧ L2.map e0 = L.map e0 ∧ LObj S' w' b L ∧ (∀ q, S' q → q < w.heap.size) ∧ Grew S S' w w' := by
  obtain ⟨hS, M, u, hP⟩ := h
  exact (lAll_any w S b M u L w (But.refl _ _) hP).mono fun e x ⟨u2, L2, h1, h3, h5, h6, h2, h4⟩ => ⟨u2, L2, _, h1, h3, h5, h6, hP.ro h2, fun q hq => (hS q hq.1).1, .ro h4⟩

end Go.Proofs.Ytniojcnkjehflaa

/- The document's log: Copy, Stamp. Conditions: at most 100 entries, 20 operations each. -/
namespace Go.Proofs.Ytniojcnkjehflaa
open Go.RowKit Go.PlainAid
set_option linter.unusedVariables false


/-- The document's log. -/
structure RgP (S : Nat → Prop) (n : Nat) (w : World) (b : Nat) (u : Value) (L : List EntT) : Prop where
  blk : Blk w b 31 #[u]
  row : w.ownsRow 0 37 4 u L.length (L.flatMap entE)
  ents : EntsK S n w L
  sb : S b ∨ n ≤ b
  su : InS S n u
  len : L.length ≤ 100
theorem EntsK.low {S : Nat → Prop} {n m : Nat} {w : World} {L : List EntT} (h : EntsK (fun _ => False) m w L) (hn : n ≤ m) : EntsK S n w L := fun e he =>
  ⟨(h e he).row, fun i hi => by rcases (h e he).ins i hi with q | q; exact absurd q id; exact .inr (by omega), (h e he).len, (h e he).each, (h e he).ts0, (h e he).ts1, (h e he).cl, (h e he).rq⟩
theorem e0_len {A B : List EntT} (h : A.map e0 = B.map e0) : A.length = B.length := by have := congrArg List.length h; simpa using this
theorem e0_at {A B : List EntT} {i : Nat} {y : EntT} (h : A.map e0 = B.map e0) (hy : A[i]? = some y) : ∃ z, B[i]? = some z ∧ e0 z = e0 y := by
  have := congrArg (·[i]?) h
  simp only [List.getElem?_map, hy, Option.map_some] at this
  rw [eq_comm, Option.map_eq_some_iff] at this
  exact this
theorem e0_f {α : Type} {f : EntT → α} (hf : ∀ e, f (e0 e) = f e) {A B : List EntT} (h : A.map e0 = B.map e0) : A.map f = B.map f := by
  have := congrArg (List.map f) h
  simp only [List.map_map] at this
  rwa [show f ∘ e0 = f from funext hf] at this
theorem e0_ts {y z : EntT} (h : e0 z = e0 y) : z.ts = y.ts ∧ z.client = y.client ∧ z.req = y.req ∧ z.opl = y.opl := by
  unfold e0 at h
  simp only [EntT.mk.injEq] at h
  exact ⟨h.2.2.2.2, h.1, h.2.1, h.2.2.2.1⟩
theorem e0_with {y z : EntT} {t : Int} (h : e0 z = e0 y) : e0 { z with ts := t } = e0 { y with ts := t } := by
  obtain ⟨_, h1, h2, h3⟩ := e0_ts h
  unfold e0; simp only [h1, h2, h3]
theorem e0_set {A B : List EntT} {i : Nat} {y z : EntT} (h : A.map e0 = B.map e0) (e : e0 y = e0 z) : (A.set i y).map e0 = (B.set i z).map e0 := by rw [List.map_set, List.map_set, h, e]
theorem stL_e0 {X M : List EntT} {i ts : Int} {y : EntT} (hE : stE X i ts = 0) (h : M.map e0 = X.map e0) (hy : M[i.toNat]? = some y) : (M.set i.toNat { y with ts := ts }).map e0 = (stL X i ts).map e0 := by
  obtain ⟨z, hz, he⟩ := e0_at h hy
  rw [stL_ok hE hz]
  exact e0_set h (e0_with he.symm)

set_option maxRecDepth 100000 in
theorem rcopy17_any (v : Value) (l : List EntT) (w : World) (hs : SliceOf entE 4 w v l) (hok : ∀ z ∈ l, EntOk w z) (hl20 : ∀ z ∈ l, z.opl.length ≤ 20) (hlen : l.length ≤ 100) :
    Calls Try.prog 50 #[v] w fun e w' => ∃ (L2 : List EntT) (u : Value), e = .returned (u) ∧ w'.ownsRow w.heap.size 37 4 u L2.length (L2.flatMap entE) ∧ EntsK (fun _ => False) w.heap.size w' L2 ∧ L2.map e0 = l.map e0 ∧ Below w.heap.size w w' := by
 have hB0 := Below.refl w.heap.size w
 have hl_hs := sl_len hs
 refine co_enter (n := 31) Try.func50 rfl rfl rfl [(0, v)] rfl (fun a h0 => ?_)
 refine co_seq ?_
 refine co_reg ?_
 refine pk0 (v := .slice none 0 0) h0 rfl fun a1 h1 => ?_; clear h0
 refine pl_nil ?_
 refine co_then ?_
 refine co_seq ?_
 refine co_reg ?_
 refine pk0 (v := .slice none 0 0) h1 rfl fun a2 h2 => ?_; clear h1
 refine pl_nil ?_
 refine co_then ?_
 refine co_seq ?_
 refine co_seq ?_
 refine co_reg ?_
 refine pk0 (v := .int .i64 0) h2 rfl fun a3 h3 => ?_; clear h2
 refine pl_nil ?_
 refine co_then ?_
 refine wp_block ?_
 have h4 : Slots 31 [(0, v), (3, .slice none 0 0), (4, .int .i64 0)] _ := h3.sub ⟨rfl, rfl, rfl, trivial⟩; clear h3
 refine co_loop (fun mm a x => ∃ (k : Nat) (u1 : Value) (Lk : List EntT), Slots 31 [(0, v), (3, u1), (4, .int .i64 ((k : Nat) : Int))] a ∧ mm = l.length - k ∧ (k ≤ l.length) ∧ (Lk.map e0 = (l.take k).map e0) ∧ x.ownsRow w.heap.size 37 4 u1 Lk.length (Lk.flatMap entE) ∧ EntsK (fun _ => False) w.heap.size x Lk ∧ Below w.heap.size w x) (l.length - 0) ?_ ?_
 · exact ⟨0, (.slice none 0 0), [], h4.sub ⟨rfl, rfl, (slot_eq rfl (congrArg (Value.int .i64) (by first | rfl | omega))), trivial⟩, rfl, by omega, by first | rfl | exact he0, (row_nilL _ _ _ _ _), (fun e he => by cases he), hB0⟩
 · rintro k5 a6 w7 ⟨k, u1, Lk, h6, rfl, hi8, hi9, hf10, hf11, hB12⟩
   have hz13 := hB12.size
   have hLkl : Lk.length = k := by have hq := congrArg List.length (by assumption : Lk.map e0 = (l.take k).map e0); rw [List.length_map, List.length_map, List.length_take] at hq; omega
   refine co_seq ?_
   refine co_seq ?_
   refine co_reg ?_
   refine pk0 (v := .int .i64 ((k : Nat) : Int)) h6 rfl fun a14 h14 => ?_; clear h6
   refine pk0 (v := v) h14 rfl fun a15 h15 => ?_; clear h14
   refine pk (v := .int .i64 ((l.length : Nat) : Int)) h15 rfl (rn_len rfl rfl Try.underlying29 (hs.below hB12)) fun a16 h16 => ?_; clear h15
   refine pk0 (v := .bool (decide (((k : Nat) : Int) < ((l.length : Nat) : Int)))) h16 rfl fun a17 h17 => ?_; clear h16
   refine pl_nil ?_
   refine co_then ?_
   cases hc18 : (decide (((k : Nat) : Int) < ((l.length : Nat) : Int)))
   ·
    rw [hc18] at h17
    have hp19 : ¬ (((k : Nat) : Int) < ((l.length : Nat) : Int)) := of_decide_eq_false hc18
    clear hc18
    refine co_false h17 rfl ?_
    refine wp_exit ?_
    refine co_thenX ?_
    refine co_thenX ?_
    refine co_blockX ?_
    refine co_then ?_
    refine co_seq ?_
    refine co_reg ?_
    refine pk0 (v := u1) h17 rfl fun a20 h20 => ?_; clear h17
    refine pk0 (v := u1) h20 rfl fun a21 h21 => ?_; clear h20
    refine pl_nil ?_
    refine co_then ?_
    refine wp_ret ?_
    refine co_ret1 h21 rfl rfl ?_
    exact ⟨_, _, rfl, (row_lows hf10 (by omega)), hf11, by have hq := (by assumption : Lk.map e0 = (l.take k).map e0); rwa [List.take_of_length_le (by omega)] at hq, hB12⟩
   ·
    rw [hc18] at h17
    have hp22 : ((k : Nat) : Int) < ((l.length : Nat) : Int) := of_decide_eq_true hc18
    clear hc18
    refine co_true h17 rfl ?_
    refine wp_skip ?_
    refine co_then ?_
    refine co_seq ?_
    refine wp_block ?_
    refine co_seq ?_
    refine co_reg ?_
    refine pk0 (v := v) h17 rfl fun a23 h23 => ?_; clear h17
    refine pk0 (v := .int .i64 ((k : Nat) : Int)) h23 rfl fun a24 h24 => ?_; clear h23
    obtain ⟨y25, hy25⟩ : ∃ z, l[k]? = some z := ⟨_, List.getElem?_eq_getElem (by first | omega | (simp; done) | (simp; omega))⟩
    have oky25 := hok _ (List.mem_of_getElem? hy25)
    have k26 : 0 ≤ y25.ts := oky25.ts0
    have k27 : y25.ts < 18446744073709551616 := oky25.ts1
    have h20y25 := hl20 y25 (List.mem_of_getElem? hy25)
    refine pk (v := pt (blkOf v) (offOf v + k * 4)) h24 rfl (rn_index rfl rfl rfl Try.underlying29 Try.sizeOf37 (hs.below hB12) (by omega) (by first | omega | (simp; done) | (simp; omega))) fun a28 h28 => ?_; clear h24
    refine pk (v := .agg #[.int .i64 y25.client, .int .i64 y25.req, y25.ops, .int .u64 y25.ts]) h28 rfl (rn_loadN rfl rfl Try.underlying37 rfl (by kernel_rfl) (sl_at (hs.below hB12) hy25)) fun a29 h29 => ?_; clear h28
    refine pw h29 rfl (op_new (v := fun N => pt N 0) (T := 37) (cs := #[.int .i64 0, .int .i64 0, .slice none 0 0, .int .u64 0]) (by kernel_rfl) (by kernel_rfl) (by kernel_rfl)) ?_; clear h29
    rintro _ w31 a30 ⟨N32, rfl, hN35, hz36, hk34, hg33⟩ h30
    have ha37 := row_fresh hf10 hN35
    have hz38 := hg33.size
    try dsimp only at h30
    have hB44 := hb_new hB12 hg33
    refine pwD h30 rfl (op_storeN rfl rfl rfl (all_cons rfl (all_cons rfl (all_cons (sl_one (oky25.ops.below hB44)) (all_cons rfl all_nil)))) (by kernel_rfl) hk34 rfl) ?_; clear h30
    rintro _ w40 a39 ⟨hk41, hz42, hg43⟩ h39
    have hk41' : Blk w40 N32 37 #[.int .i64 y25.client, .int .i64 y25.req, y25.ops, .int .u64 y25.ts] := hk41; clear hk41
    have hz45 := hg43.size
    refine pl_nil ?_
    refine co_then ?_
    refine co_seq ?_
    refine co_reg ?_
    refine pw h39 rfl (op_new (v := fun N => .slice (some ⟨N, 0, none⟩) 0 0) (T := 74) (cs := #[]) (by kernel_rfl) (by kernel_rfl) (by kernel_rfl)) ?_; clear h39
    rintro _ w47 a46 ⟨N48, rfl, hN51, hz52, hk50, hg49⟩ h46
    have hr54 := row_kept_new hf10 hg33
    have hr55 := row_kept_at hr54 hg43 (ha37)
    have ha53 := row_fresh hr55 hN51
    have hz56 := hg49.size
    have hE58 := hf11.new hg33
    have hE59 := hE58.blk hk34 (by decide) hg43
    have hu57 := EntsK.under hE59 hN51
    try dsimp only at h46
    refine pk0 (v := v) h46 rfl fun a60 h60 => ?_; clear h46
    refine pk0 (v := .int .i64 ((k : Nat) : Int)) h60 rfl fun a61 h61 => ?_; clear h60
    have hB62 := hb_at hB44 hg43 (by omega)
    have hB63 := hb_new hB62 hg49
    refine pk (v := pt (blkOf v) (offOf v + k * 4)) h61 rfl (rn_index rfl rfl rfl Try.underlying29 Try.sizeOf37 (hs.below hB63) (by omega) (by first | omega | (simp; done) | (simp; omega))) fun a64 h64 => ?_; clear h61
    refine pk0 (v := pt (blkOf v) (offOf v + k * 4)) h64 rfl fun a65 h65 => ?_; clear h64
    refine pk0 (v := pt (blkOf v) (offOf v + k * 4 + 2)) h65 rfl fun a66 h66 => ?_; clear h65
    refine pk (v := y25.ops) h66 rfl (rn_load1 rfl rfl Try.isAgg33 ((sl_at (hs.below hB63) hy25) 2 _ rfl)) fun a67 h67 => ?_; clear h66
    have hr70 := row_of_blkL hk50 (Nat.le_refl _) 3 opE
    refine pw h67 rfl (op_appendSrc rfl N48 74 (z := .agg #[.string (⟨#[]⟩), .string (⟨#[]⟩), .bool false]) (size := 3) (bytes := 40) Try.underlying33 (by kernel_rfl) rfl rfl rfl hr70 rfl (oky25.ops.below hB63) (fun y hy => ⟨opE_len y, opE_one y⟩) (by first | omega | (simp only [List.length_nil, List.length_append, List.length_cons, List.length_take, List.length_drop]; omega)) (by first | omega | (simp only [List.length_nil, List.length_append, List.length_cons, List.length_take, List.length_drop]; omega)) (by omega)) ?_; clear h67
    rintro v71 w69 a68 ⟨hr72, hg73⟩ h68
    have hr72' : w69.ownsRow N48 74 3 v71 y25.opl.length (y25.opl.flatMap opE) := row_app (l := []) hr72; clear hr72
    have hz75 := hg73.size
    refine pk0 (v := pt N32 0) h68 rfl fun a76 h76 => ?_; clear h68
    refine pk0 (v := pt N32 2) h76 rfl fun a77 h77 => ?_; clear h76
    have hk83 := hk41'.kept hg49 (by simp)
    have hk84 := hk83.kept hg73 (row_ne_lt hr70 (by omega))
    refine pwD h77 rfl (op_store1 rfl rfl rfl (row_one hr72') Try.sizeOf33 hk84 rfl) ?_; clear h77
    rintro _ w79 a78 ⟨hk80, hz81, hg82⟩ h78
    have hk80' : Blk w79 N32 37 #[.int .i64 y25.client, .int .i64 y25.req, v71, .int .u64 y25.ts] := hk80; clear hk80
    have hz85 := hg82.size
    refine pl_nil ?_
    refine co_then ?_
    refine co_reg ?_
    refine pk0 (v := u1) h78 rfl fun a86 h86 => ?_; clear h78
    refine pk (v := .agg #[.int .i64 y25.client, .int .i64 y25.req, v71, .int .u64 y25.ts]) h86 rfl (rn_loadN rfl rfl Try.underlying37 rfl (by kernel_rfl) hk80'.all) fun a87 h87 => ?_; clear h86
    refine pw h87 rfl (op_new (v := fun N => .slice (some ⟨N, 0, none⟩) 1 1) (T := 37) (cs := #[.int .i64 y25.client, .int .i64 y25.req, v71, .int .u64 y25.ts]) (by kernel_rfl) (by kernel_rfl) (by kernel_rfl)) ?_; clear h87
    rintro _ w89 a88 ⟨N90, rfl, hN93, hz94, hk92, hg91⟩ h88
    have hr96 := row_kept_new hr55 hg49
    have hr97 := row_kept_row hr96 hr70 hg73 (by decide)
    have hr98 := row_kept_at hr97 hg82 (ha37)
    have ha95 := row_fresh hr98 hN93
    have hr100 := row_kept_at hr72' hg82 (row_ne_lt hr72' (by omega))
    have ha99 := row_fresh hr100 hN93
    have hz101 := hg91.size
    try dsimp only at h88
    have hr108 := row_kept_new hr98 hg91
    have hr109 := row_kept_new hr100 hg91
    refine pw h88 rfl (op_append rfl w.heap.size 37 (z := .agg #[.int .i64 0, .int .i64 0, .slice none 0 0, .int .u64 0]) (size := 4) (bytes := 48) Try.underlying29 (by kernel_rfl) rfl rfl rfl hr108 rfl hk92 rfl (all_cons rfl (all_cons rfl (all_cons (row_one hr109) (all_cons rfl all_nil)))) (by first | omega | (simp only [List.length_nil, List.length_append, List.length_cons, List.length_take, List.length_drop]; omega)) (by first | omega | (simp only [List.length_nil, List.length_append, List.length_cons, List.length_take, List.length_drop]; omega)) (by omega)) ?_; clear h88
    rintro v104 w103 a102 ⟨hr105, hg106⟩ h102
    have hr105' : w103.ownsRow w.heap.size 37 4 v104 ((Lk ++ [(EntT.mk y25.client y25.req v71 y25.opl y25.ts)]).length) ((Lk ++ [(EntT.mk y25.client y25.req v71 y25.opl y25.ts)]).flatMap entE) := row_push (y := (EntT.mk y25.client y25.req v71 y25.opl y25.ts)) hr105 rfl rfl; clear hr105
    have hz110 := hg106.size
    refine pk0 (v := v104) h102 rfl fun a111 h111 => ?_; clear h102
    refine pl_nil ?_
    refine co_blockN ?_
    refine co_then ?_
    refine co_reg ?_
    refine pk0 (v := .int .i64 ((k : Nat) : Int)) h111 rfl fun a112 h112 => ?_; clear h111
    refine pk (v := .int .i64 ((k + 1 : Nat) : Int)) h112 rfl (rn_arith' rfl rfl rfl rfl rfl rfl (IntWalk.i64_in _ (by omega)) (by omega)) fun a113 h113 => ?_; clear h112
    refine pk0 (v := .int .i64 ((k + 1 : Nat) : Int)) h113 rfl fun a114 h114 => ?_; clear h113
    refine pl_nil ?_
    refine co_then ?_
    refine ⟨(l.length - (k + 1)), by omega, ?_⟩
    have he0 := e0_snoc (by assumption : Lk.map e0 = _) hy25 (z := (EntT.mk y25.client y25.req v71 y25.opl y25.ts)) rfl
    have hE115 := hE59.new hg49
    have hE116 := hE115.rowU hu57 hr70 hg73
    have hE117 := hE116.blk hk84 (by decide) hg82
    have hE118 := hE117.new hg91
    have hE119 := hE118.row hr108 (by decide) hg106
    have hr120 := row_kept_row hr109 hr108 hg106 (by decide)
    have hB121 := hb_row hB63 hr70 (by omega) hg73
    have hB122 := hb_at hB121 hg82 (by omega)
    have hB123 := hb_new hB122 hg91
    have hB124 := hb_row hB123 hr108 (by omega) hg106
    exact ⟨k + 1, v104, (Lk ++ [(EntT.mk y25.client y25.req v71 y25.opl y25.ts)]), h114.sub ⟨rfl, rfl, rfl, trivial⟩, rfl, by omega, by first | rfl | exact he0, (row_eq hr105' (rfl)), (EntsK.snoc hE119 (e := EntT.mk y25.client y25.req v71 y25.opl y25.ts) ⟨row_lows hr120 (Nat.zero_le _), InS.low hr120 (by omega), by omega, oky25.each, oky25.ts0, oky25.ts1, oky25.cl, oky25.rq⟩), hB124⟩
set_option maxRecDepth 100000 in
theorem rStamp17_any (w0 : World) (S : Nat → Prop) (b : Nat) (u : Value) (X : List EntT) (i : Int) (ts : Int) (w : World) (hbw : But S w0 w) (hO : RgP S w0.heap.size w b u X) (hts : 0 ≤ ts ∧ ts < 18446744073709551616) :
    Calls Try.prog 37 #[pt b 0, .int .i64 i, .int .u64 ts] w fun e w' => ∃ (u' : Value) (X' : List EntT), e = .returned (.int .i64 (stE X i ts)) ∧ RgP S w0.heap.size w' b u' X' ∧ X'.map e0 = (stL X i ts).map e0 ∧ But (S) w0 w' := by
 have hst := stN_le X
 have hB0 := hbw
 have hz0 := hbw.size
 have hz0 := hbw.size
 have hl1 := hO.blk.lt; have hln2 := hO.len
 refine co_enter (n := 51) Try.func37 rfl rfl rfl [(0, pt b 0), (1, .int .i64 i), (2, .int .u64 ts)] rfl (fun a h0 => ?_)
 refine co_seq ?_
 refine co_reg ?_
 refine pk0 (v := .int .i64 0) h0 rfl fun a3 h3 => ?_; clear h0
 refine pl_nil ?_
 refine co_then ?_
 refine co_seq ?_
 refine co_seq ?_
 refine co_reg ?_
 refine pk0 (v := .int .i64 i) h3 rfl fun a4 h4 => ?_; clear h3
 refine pk0 (v := .bool (decide (i < 0))) h4 rfl fun a5 h5 => ?_; clear h4
 refine pk0 (v := .bool (decide (i < 0))) h5 rfl fun a6 h6 => ?_; clear h5
 cases hc7 : (decide (i < 0))
 ·
  rw [hc7] at h6
  have hp8 : ¬ (i < 0) := of_decide_eq_false hc7
  clear hc7
  refine pk0 (v := .int .i64 i) h6 rfl fun a9 h9 => ?_; clear h6
  refine pk0 (v := pt b 0) h9 rfl fun a10 h10 => ?_; clear h9
  refine pk0 (v := pt b 0) h10 rfl fun a11 h11 => ?_; clear h10
  refine pk0 (v := pt b 0) h11 rfl fun a12 h12 => ?_; clear h11
  refine pk (v := u) h12 rfl (rn_load1 rfl rfl Try.isAgg29 (hO.blk.cell rfl)) fun a13 h13 => ?_; clear h12
  refine pk (v := .int .i64 ((X.length : Nat) : Int)) h13 rfl (rn_lenOwn rfl rfl Try.underlying29 hO.row) fun a14 h14 => ?_; clear h13
  refine pk0 (v := .bool (decide (i ≥ ((X.length : Nat) : Int)))) h14 rfl fun a15 h15 => ?_; clear h14
  refine pk0 (v := .bool (decide (i ≥ ((X.length : Nat) : Int)))) h15 rfl fun a16 h16 => ?_; clear h15
  refine pl_nil ?_
  refine co_then ?_
  cases hc17 : (decide (i ≥ ((X.length : Nat) : Int)))
  ·
   rw [hc17] at h16
   have hp18 : ¬ (i ≥ ((X.length : Nat) : Int)) := of_decide_eq_false hc17
   clear hc17
   refine co_false h16 rfl ?_
   refine wp_skip ?_
   refine co_then ?_
   refine co_seq ?_
   refine co_seq ?_
   refine co_reg ?_
   refine pk0 (v := .int .u64 ts) h16 rfl fun a19 h19 => ?_; clear h16
   refine pk0 (v := .bool (ts == 0)) h19 rfl fun a20 h20 => ?_; clear h19
   refine pl_nil ?_
   refine co_then ?_
   cases hc21 : (ts == 0)
   ·
    rw [hc21] at h20
    have hp22 : ¬ (ts = 0) := by first | simpa using hc21 | simpa [and_assoc] using hc21
    clear hc21
    refine co_false h20 rfl ?_
    refine wp_skip ?_
    refine co_then ?_
    refine co_seq ?_
    refine co_seq ?_
    refine co_reg ?_
    refine pk0 (v := .int .i64 i) h20 rfl fun a23 h23 => ?_; clear h20
    refine pk0 (v := pt b 0) h23 rfl fun a24 h24 => ?_; clear h23
    refine pk0 (v := pt b 0) h24 rfl fun a25 h25 => ?_; clear h24
    refine pk0 (v := pt b 0) h25 rfl fun a26 h26 => ?_; clear h25
    refine pk (v := u) h26 rfl (rn_load1 rfl rfl Try.isAgg29 (hO.blk.cell rfl)) fun a27 h27 => ?_; clear h26
    refine pw h27 rfl (op_call (args := #[u]) (R := fun res xw => res = .int .i64 ((stN X : Nat) : Int) ∧ Below w.heap.size w xw) rfl rfl rfl (by kernel_rfl) (by kernel_rfl) (Try.call28 _ _) (ritemStamped_any u X w (row_sl hO.row entE_len) (entsK_got hO.ents)) (by rintro e x ⟨rfl, hb30⟩; exact ⟨_, rfl, ⟨rfl, hb30⟩⟩)) ?_; clear h27
    rintro _ w29 a28 ⟨rfl, hb30⟩ h28
    have hz31 := hb30.size
    refine pk0 (v := .bool (i != ((stN X : Nat) : Int))) h28 rfl fun a32 h32 => ?_; clear h28
    refine pk0 (v := .bool (i != ((stN X : Nat) : Int))) h32 rfl fun a33 h33 => ?_; clear h32
    have hB35 := fbU_call hB0 hb30
    cases hc34 : (i != ((stN X : Nat) : Int))
    ·
     rw [hc34] at h33
     have hp36 : ¬ (i ≠ ((stN X : Nat) : Int)) := by first | simpa using hc34 | simpa [and_assoc] using hc34
     clear hc34
     refine pk0 (v := .int .u64 ts) h33 rfl fun a37 h37 => ?_; clear h33
     refine pk0 (v := pt b 0) h37 rfl fun a38 h38 => ?_; clear h37
     refine pk0 (v := pt b 0) h38 rfl fun a39 h39 => ?_; clear h38
     refine pk0 (v := pt b 0) h39 rfl fun a40 h40 => ?_; clear h39
     have hk41 := hO.blk.below hb30
     refine pk (v := u) h40 rfl (rn_load1 rfl rfl Try.isAgg29 (hk41.cell rfl)) fun a42 h42 => ?_; clear h40
     have hE45 := hO.ents.new (below_grown hb30)
     have hr46 := row_kept_new hO.row (below_grown hb30)
     refine pw h42 rfl (op_call (args := #[u]) (R := fun res xw => res = .int .u64 (lastT X) ∧ Below w29.heap.size w29 xw) rfl rfl rfl (by kernel_rfl) (by kernel_rfl) (Try.call63 _ _) (ritemLast_any u X w29 (row_sl hr46 entE_len) (entsK_got hE45)) (by rintro e x ⟨rfl, hb47⟩; exact ⟨_, rfl, ⟨rfl, hb47⟩⟩)) ?_; clear h42
     rintro _ w44 a43 ⟨rfl, hb47⟩ h43
     have hz48 := hb47.size
     refine pk0 (v := .bool (decide (ts ≤ lastT X))) h43 rfl fun a49 h49 => ?_; clear h43
     refine pk0 (v := .bool (decide (ts ≤ lastT X))) h49 rfl fun a50 h50 => ?_; clear h49
     refine pl_nil ?_
     refine co_then ?_
     have hB52 := fbU_call hB35 hb47
     cases hc51 : (decide (ts ≤ lastT X))
     ·
      rw [hc51] at h50
      have hp53 : ¬ (ts ≤ lastT X) := of_decide_eq_false hc51
      clear hc51
      refine co_false h50 rfl ?_
      refine wp_skip ?_
      refine co_then ?_
      refine co_seq ?_
      refine co_reg ?_
      refine pk0 (v := pt b 0) h50 rfl fun a54 h54 => ?_; clear h50
      refine pk0 (v := pt b 0) h54 rfl fun a55 h55 => ?_; clear h54
      refine pk0 (v := pt b 0) h55 rfl fun a56 h56 => ?_; clear h55
      have hk57 := hk41.below hb47
      refine pk (v := u) h56 rfl (rn_load1 rfl rfl Try.isAgg29 (hk57.cell rfl)) fun a58 h58 => ?_; clear h56
      have hE61 := hE45.new (below_grown hb47)
      have hr62 := row_kept_new hr46 (below_grown hb47)
      refine pw h58 rfl (op_call (args := #[u]) (R := fun res xw => ∃ L2 : List EntT, ∃ u : Value, res = u ∧ xw.ownsRow w44.heap.size 37 4 u L2.length (L2.flatMap entE) ∧ EntsK (fun _ => False) w44.heap.size xw L2 ∧ L2.map e0 = X.map e0 ∧ Below w44.heap.size w44 xw) rfl rfl rfl (by kernel_rfl) (by kernel_rfl) (Try.call50 _ _) (rcopy17_any u X w44 (row_sl hr62 entE_len) (entsK_got hE61) (fun z hz => (hE61 z hz).len) hO.len) (by rintro e x ⟨L2, u, rfl, hq65, hq66, hq67, hb68⟩; exact ⟨_, rfl, ⟨L2, u, rfl, hq65, hq66, hq67, hb68⟩⟩)) ?_; clear h58
      rintro u64 w60 a59 ⟨L263, _, rfl, hq65, hq66, hq67, hb68⟩ h59
      have hu69 := row_under hr62 (rfl : w44.heap.size = _)
      have hz70 := hb68.size
      have hl71 := sl_len (row_sl hq65 entE_len)
      have hE72 : EntsK S w0.heap.size w60 L263 := EntsK.low hq66 (by omega)
      have hl73 := e0_len hq67
      refine pk0 (v := u64) h59 rfl fun a74 h74 => ?_; clear h59
      refine pl_nil ?_
      refine co_then ?_
      refine co_seq ?_
      refine co_reg ?_
      refine pk0 (v := u64) h74 rfl fun a75 h75 => ?_; clear h74
      refine pk0 (v := .int .i64 i) h75 rfl fun a76 h76 => ?_; clear h75
      refine pk0 (v := .int .u64 ts) h76 rfl fun a77 h77 => ?_; clear h76
      obtain ⟨y78, hy78⟩ : ∃ z, L263[(i).toNat]? = some z := ⟨_, List.getElem?_eq_getElem (by first | omega | (simp; done) | (simp; omega))⟩
      have oky78 := (fun (z : EntT) (_ : z ∈ L263) => trivial) _ (List.mem_of_getElem? hy78)
      have hy79 := hE72.at hy78
      have hq80 := hy79.ts0; have hq81 := hy79.ts1; have hq82 := hy79.len; have hq83 := wf_i64 hy79.cl; have hq84 := wf_i64 hy79.rq
      refine pk (v := pt (blkOf u64) (offOf u64 + ((i).toNat) * 4)) h77 rfl (rn_index rfl rfl rfl Try.underlying29 Try.sizeOf37 (row_sl hq65 entE_len) (by omega) (by first | omega | (simp; done) | (simp; omega))) fun a85 h85 => ?_; clear h77
      refine pk0 (v := pt (blkOf u64) (offOf u64 + ((i).toNat) * 4 + 3)) h85 rfl fun a86 h86 => ?_; clear h85
      refine pwD h86 rfl (op_storeRow (c := ((i).toNat) * 4 + 3) rfl rfl rfl rfl Try.sizeOf23 hq65 (flat_lt entE_len (by first | omega | (simp; omega)) (by omega)) (by first | rfl | omega)) ?_; clear h86
      rintro _ w88 a87 ⟨hr89, hz90, hg91⟩ h87
      have hr89' := row_set (y' := (EntT.mk y78.client y78.req (y78.ops) y78.opl ts)) hr89 entE_len hy78 (by omega) rfl; clear hr89
      have hz92 := hg91.size
      have hk93 := hk57.below hb68
      have hE95 := hE72.row hq65 (by decide) hg91
      have hE94 := EntsK.set (i := ((i).toNat)) hE95 (EntK.ts (t := ts) (EntsK.at hE95 hy78) (by omega))
      refine pl_nil ?_
      refine co_then ?_
      refine co_seq ?_
      refine co_reg ?_
      refine pk0 (v := pt b 0) h87 rfl fun a96 h96 => ?_; clear h87
      refine pk0 (v := u64) h96 rfl fun a97 h97 => ?_; clear h96
      refine pk0 (v := pt b 0) h97 rfl fun a98 h98 => ?_; clear h97
      refine pk0 (v := pt b 0) h98 rfl fun a99 h99 => ?_; clear h98
      have hk105 := hk93.kept hg91 (own_neT hq65 hk93 (by decide))
      refine pwD h99 rfl (op_store1 rfl rfl rfl (row_one hr89') Try.sizeOf29 hk105 rfl) ?_; clear h99
      rintro _ w101 a100 ⟨hk102, hz103, hg104⟩ h100
      have hk102' : Blk w101 b 31 #[u64] := hk102; clear hk102
      have hz106 := hg104.size
      refine pl_nil ?_
      refine co_then ?_
      refine co_seq ?_
      refine co_reg ?_
      refine pk0 (v := .int .i64 0) h100 rfl fun a107 h107 => ?_; clear h100
      refine pl_nil ?_
      refine co_then ?_
      refine wp_ret ?_
      refine co_ret1 h107 rfl rfl ?_
      have hr108 := row_kept_at hr89' hg104 (own_neT hr89' hk105 (by decide))
      have hE109 := hE94.blk hk105 (by decide) hg104
      have hB110 := fbU_call hB52 hb68
      have hB111 := fbU_row hB110 (InS.low hq65 (by omega)) hg91
      have hB112 := fbU_at hB111 hg104 (fun hlt => by rcases hO.sb with hq | hq; exact hq; omega)
      have hE : stE X i ts = 0 := stE_d (by omega) (by omega) (by omega)
      exact ⟨_, _, ret_int hE.symm, ⟨hk102', (row_lows hr108 (Nat.zero_le _)), hE109, hO.sb, (InS.low hq65 (by omega)), (by rw [List.length_set]; omega)⟩, stL_e0 hE hq67 hy78, hB112⟩
     ·
      rw [hc51] at h50
      have hp113 : ts ≤ lastT X := of_decide_eq_true hc51
      clear hc51
      refine co_true h50 rfl ?_
      refine co_seq ?_
      refine co_reg ?_
      refine pk0 (v := .int .i64 18) h50 rfl fun a114 h114 => ?_; clear h50
      refine pl_nil ?_
      refine co_then ?_
      refine wp_ret ?_
      refine co_thenR ?_
      refine co_ret1 h114 rfl rfl ?_
      have hr115 := row_kept_new hr46 (below_grown hb47)
      have hE116 := hE45.new (below_grown hb47)
      have hk117 := hk41.below hb47
      have hE : stE X i ts = 18 := stE_c (by omega) (by omega) (by omega)
      exact ⟨_, _, ret_int hE.symm, ⟨hk117, hr115, hE116, hO.sb, hO.su, hO.len⟩, by rw [stL_no (by rw [hE]; omega)], hB52⟩
    ·
     rw [hc34] at h33
     have hp118 : i ≠ ((stN X : Nat) : Int) := by first | simpa using hc34 | simpa [and_assoc] using hc34
     clear hc34
     refine psk h33 rfl fun a119 h119 => ?_; clear h33
     refine psk h119 rfl fun a120 h120 => ?_; clear h119
     refine psk h120 rfl fun a121 h121 => ?_; clear h120
     refine psk h121 rfl fun a122 h122 => ?_; clear h121
     refine psk h122 rfl fun a123 h123 => ?_; clear h122
     refine psk h123 rfl fun a124 h124 => ?_; clear h123
     refine psk h124 rfl fun a125 h125 => ?_; clear h124
     refine pk0 (v := .bool true) h125 rfl fun a126 h126 => ?_; clear h125
     refine pl_nil ?_
     refine co_then ?_
     refine co_true h126 rfl ?_
     refine co_seq ?_
     refine co_reg ?_
     refine pk0 (v := .int .i64 18) h126 rfl fun a127 h127 => ?_; clear h126
     refine pl_nil ?_
     refine co_then ?_
     refine wp_ret ?_
     refine co_thenR ?_
     refine co_ret1 h127 rfl rfl ?_
     have hr128 := row_kept_new hO.row (below_grown hb30)
     have hE129 := hO.ents.new (below_grown hb30)
     have hk130 := hO.blk.below hb30
     have hE : stE X i ts = 18 := stE_c (by omega) (by omega) (by omega)
     exact ⟨_, _, ret_int hE.symm, ⟨hk130, hr128, hE129, hO.sb, hO.su, hO.len⟩, by rw [stL_no (by rw [hE]; omega)], hB35⟩
   ·
    rw [hc21] at h20
    have hp131 : ts = 0 := by first | simpa using hc21 | simpa [and_assoc] using hc21
    clear hc21
    refine co_true h20 rfl ?_
    refine co_seq ?_
    refine co_reg ?_
    refine pk0 (v := .int .i64 5) h20 rfl fun a132 h132 => ?_; clear h20
    refine pl_nil ?_
    refine co_then ?_
    refine wp_ret ?_
    refine co_thenR ?_
    refine co_ret1 h132 rfl rfl ?_
    have hE : stE X i ts = 5 := stE_b (by omega) (by omega)
    exact ⟨_, _, ret_int hE.symm, ⟨hO.blk, hO.row, hO.ents, hO.sb, hO.su, hO.len⟩, by rw [stL_no (by rw [hE]; omega)], hB0⟩
  ·
   rw [hc17] at h16
   have hp133 : i ≥ ((X.length : Nat) : Int) := of_decide_eq_true hc17
   clear hc17
   refine co_true h16 rfl ?_
   refine co_seq ?_
   refine co_reg ?_
   refine pk0 (v := .int .i64 1) h16 rfl fun a134 h134 => ?_; clear h16
   refine pl_nil ?_
   refine co_then ?_
   refine wp_ret ?_
   refine co_thenR ?_
   refine co_ret1 h134 rfl rfl ?_
   have hE : stE X i ts = 1 := stE_a (by omega)
   exact ⟨_, _, ret_int hE.symm, ⟨hO.blk, hO.row, hO.ents, hO.sb, hO.su, hO.len⟩, by rw [stL_no (by rw [hE]; omega)], hB0⟩
 ·
  rw [hc7] at h6
  have hp135 : i < 0 := of_decide_eq_true hc7
  clear hc7
  refine psk h6 rfl fun a136 h136 => ?_; clear h6
  refine psk h136 rfl fun a137 h137 => ?_; clear h136
  refine psk h137 rfl fun a138 h138 => ?_; clear h137
  refine psk h138 rfl fun a139 h139 => ?_; clear h138
  refine psk h139 rfl fun a140 h140 => ?_; clear h139
  refine psk h140 rfl fun a141 h141 => ?_; clear h140
  refine psk h141 rfl fun a142 h142 => ?_; clear h141
  refine pk0 (v := .bool true) h142 rfl fun a143 h143 => ?_; clear h142
  refine pl_nil ?_
  refine co_then ?_
  refine co_true h143 rfl ?_
  refine co_seq ?_
  refine co_reg ?_
  refine pk0 (v := .int .i64 1) h143 rfl fun a144 h144 => ?_; clear h143
  refine pl_nil ?_
  refine co_then ?_
  refine wp_ret ?_
  refine co_thenR ?_
  refine co_ret1 h144 rfl rfl ?_
  have hE : stE X i ts = 1 := stE_a (by omega)
  exact ⟨_, _, ret_int hE.symm, ⟨hO.blk, hO.row, hO.ents, hO.sb, hO.su, hO.len⟩, by rw [stL_no (by rw [hE]; omega)], hB0⟩
end Go.Proofs.Ytniojcnkjehflaa

/- Package rlog: Thin. Conditions: at most 100 entries, 20 operations each, their keys different. -/
namespace Go.Proofs.Ytniojcnkjehflaa
open Go.RowKit Go.PlainAid
set_option linter.unusedVariables false


def ltE (h : Int) (e : EntT) : Bool := decide (¬ e.ts = 0 ∧ e.ts ≤ h)
def cntK (k : ByteArray) (l : List OpT) : Int := ((l.countP fun o => decide (o.1 = k) : Nat) : Int)
/-- How often a key stands in what may be thinned. -/
def fT (h : Int) : List EntT → ByteArray → Int
  | [], _ => 0
  | e :: r, k => if ltE h e = true then fT h r k + cntK k e.opl else fT h r k
def kpL (f : ByteArray → Int) (l : List OpT) : List OpT := l.filter fun o => decide (f o.1 = 0)
def lT (h : Int) : List EntT → List EntT
  | [] => []
  | e :: r => (if ltE h e = true then { e with opl := kpL (fT h r) e.opl } else e) :: lT h r
def gT (h : Int) : List EntT → Int
  | [] => 0
  | e :: r => if ltE h e = true then gT h r + ((e.opl.length : Int) - ((kpL (fT h r) e.opl).length : Int)) else gT h r
def thM (L : List EntT) (n : Int) : Nat := (if n < 0 then 0 else if (L.length : Int) < n then (L.length : Int) else n).toNat
def thS (L : List EntT) (h : Int) (M j : Nat) : List EntT := L.take j ++ (lT h ((L.take M).drop j) ++ L.drop M)
def thL (L : List EntT) (h n : Int) : List EntT := lT h (L.take (thM L n)) ++ L.drop (thM L n)
def thG (L : List EntT) (h n : Int) : Int := gT h (L.take (thM L n))
/-- The counts behind the first q operations of an entry. -/
def laterF (h : Int) (T : List EntT) (l : List OpT) (q : Nat) (k : ByteArray) : Int := fT h T k + cntK k (l.take q)
theorem lT_len (h : Int) (L : List EntT) : (lT h L).length = L.length := by induction L with
  | nil => rfl
  | cons e r ih => simp [lT, ih]
theorem cntK_nn (k : ByteArray) (l : List OpT) : 0 ≤ cntK k l ∧ cntK k l ≤ l.length := by unfold cntK; have := List.countP_le_length (l := l) (p := fun o => decide (o.1 = k)); omega
theorem fT_nn (h : Int) (k : ByteArray) : ∀ L : List EntT, (∀ e ∈ L, e.opl.length ≤ 20) → 0 ≤ fT h L k ∧ fT h L k ≤ 20 * (L.length : Int)
  | [], _ => by simp [fT]
  | e :: r, hl => by
    have ih := fT_nn h k r (fun x hx => hl x (List.mem_cons_of_mem _ hx))
    have h1 := hl e (by simp)
    have h2 := cntK_nn k e.opl
    simp only [fT, List.length_cons]
    split <;> omega
theorem kpL_le (f : ByteArray → Int) (l : List OpT) : (kpL f l).length ≤ l.length := List.length_filter_le ..
theorem gT_nn (h : Int) : ∀ L : List EntT, (∀ e ∈ L, e.opl.length ≤ 20) → 0 ≤ gT h L ∧ gT h L ≤ 20 * (L.length : Int)
  | [], _ => by simp [gT]
  | e :: r, hl => by
    have ih := gT_nn h r (fun x hx => hl x (List.mem_cons_of_mem _ hx))
    have h1 := hl e (by simp)
    have h2 := kpL_le (fT h r) e.opl
    simp only [gT, List.length_cons]
    split <;> omega
section
variable {L Lk : List EntT} {h : Int} {j M q : Nat} {y y' : EntT} {l : List OpT} {o : OpT} {T : List EntT} {f : ByteArray → Int}
theorem thS_split (hj : 0 < j) (hM : j ≤ M) (hL : M ≤ L.length) : ∃ z, L[j - 1]? = some z ∧ (L.take M).drop (j - 1) = z :: (L.take M).drop j ∧ L.take j = L.take (j - 1) ++ [z] := by
  obtain ⟨i, rfl⟩ : ∃ i, j = i + 1 := ⟨j - 1, by omega⟩
  have hi : i < L.length := by omega
  refine ⟨L[i], List.getElem?_eq_getElem hi, ?_, ?_⟩
  · have hi2 : i < (L.take M).length := by rw [List.length_take]; omega
    rw [show i + 1 - 1 = i by omega, List.drop_eq_getElem_cons hi2, List.getElem_take]
  · rw [show i + 1 - 1 = i by omega, takeE (List.getElem?_eq_getElem hi)]
theorem thS_z (hj : 0 < j) (hM : j ≤ M) (hL : M ≤ L.length) (hLk : Lk.map e0 = (thS L h M j).map e0) (hy : Lk[j - 1]? = some y) : ∃ z, L[j - 1]? = some z ∧ e0 z = e0 y ∧ (L.take M).drop (j - 1) = z :: (L.take M).drop j ∧ L.take j = L.take (j - 1) ++ [z] := by
  obtain ⟨z, h1, h2, h3⟩ := thS_split hj hM hL
  obtain ⟨z', h4, h5⟩ := e0_at hLk hy
  have : (thS L h M j)[j - 1]? = L[j - 1]? := by
    unfold thS
    rw [List.getElem?_append_left (by rw [List.length_take]; omega), List.getElem?_take, if_pos (by omega)]
  rw [this, h1] at h4
  cases h4
  exact ⟨z, h1, h5, h2, h3⟩
theorem ltE_e0 {a b : EntT} (e : e0 a = e0 b) : ltE h a = ltE h b := by unfold ltE; rw [(e0_ts e).1]
theorem th_no (hj : 0 < j) (hM : j ≤ M) (hL : M ≤ L.length) (hLk : Lk.map e0 = (thS L h M j).map e0) (hy : Lk[j - 1]? = some y) (hq : ltE h y = false) : Lk.map e0 = (thS L h M (j - 1)).map e0 := by
  obtain ⟨z, h1, h2, h3, h4⟩ := thS_z hj hM hL hLk hy
  rw [hLk]
  unfold thS
  rw [h3, h4, lT, if_neg (by rw [ltE_e0 h2, hq]; simp)]
  simp
theorem th_yes (hj : 0 < j) (hM : j ≤ M) (hL : M ≤ L.length) (hLk : Lk.map e0 = (thS L h M j).map e0) (hy : Lk[j - 1]? = some y) (hq : ltE h y = true) (e : e0 y' = e0 { y with opl := kpL (fT h ((L.take M).drop j)) y.opl }) : (Lk.set (j - 1) y').map e0 = (thS L h M (j - 1)).map e0 := by
  obtain ⟨z, h1, h2, h3, h4⟩ := thS_z hj hM hL hLk hy
  obtain ⟨k1, k2, k3, k4⟩ := e0_ts h2
  rw [List.map_set, hLk, e]
  unfold thS
  rw [h3, h4, lT, if_pos (by rw [ltE_e0 h2, hq])]
  have hl : (L.take (j - 1)).length = j - 1 := by rw [List.length_take]; have := (List.getElem?_eq_some_iff.1 h1).1; omega
  simp only [List.map_append, List.map_cons, List.map_nil, List.append_assoc, List.singleton_append]
  rw [List.set_append_right _ _ (by rw [List.length_map, hl]; omega)]
  rw [List.length_map, hl, Nat.sub_self, List.set_cons_zero]
  simp only [List.cons_append]
  congr 2
  unfold e0; simp [k1, k2, k3, k4]
theorem fT_no (hj : 0 < j) (hM : j ≤ M) (hL : M ≤ L.length) (hLk : Lk.map e0 = (thS L h M j).map e0) (hy : Lk[j - 1]? = some y) (hq : ltE h y = false) : fT h ((L.take M).drop j) = fT h ((L.take M).drop (j - 1)) := by
  obtain ⟨z, h1, h2, h3, h4⟩ := thS_z hj hM hL hLk hy
  rw [h3]; funext k; rw [fT, if_neg (by rw [ltE_e0 h2, hq]; simp)]
theorem fT_yes (hj : 0 < j) (hM : j ≤ M) (hL : M ≤ L.length) (hLk : Lk.map e0 = (thS L h M j).map e0) (hy : Lk[j - 1]? = some y) (hq : ltE h y = true) (hl : y.opl.length ≤ q) : laterF h ((L.take M).drop j) y.opl q = fT h ((L.take M).drop (j - 1)) := by
  obtain ⟨z, h1, h2, h3, h4⟩ := thS_z hj hM hL hLk hy
  rw [h3]; funext k; unfold laterF; rw [fT, if_pos (by rw [ltE_e0 h2, hq]), List.take_of_length_le hl, (e0_ts h2).2.2.2]
theorem gT_no (hj : 0 < j) (hM : j ≤ M) (hL : M ≤ L.length) (hLk : Lk.map e0 = (thS L h M j).map e0) (hy : Lk[j - 1]? = some y) (hq : ltE h y = false) : gT h ((L.take M).drop j) = gT h ((L.take M).drop (j - 1)) := by
  obtain ⟨z, h1, h2, h3, h4⟩ := thS_z hj hM hL hLk hy
  rw [h3, gT, if_neg (by rw [ltE_e0 h2, hq]; simp)]
theorem gT_yes (hj : 0 < j) (hM : j ≤ M) (hL : M ≤ L.length) (hLk : Lk.map e0 = (thS L h M j).map e0) (hy : Lk[j - 1]? = some y) (hq : ltE h y = true) (hl : y.opl.length ≤ q) (hle : q ≤ y.opl.length) : gT h ((L.take M).drop j) + ((q : Int) - ((kpL (fT h ((L.take M).drop j)) (y.opl.take q)).length : Int)) = gT h ((L.take M).drop (j - 1)) := by
  obtain ⟨z, h1, h2, h3, h4⟩ := thS_z hj hM hL hLk hy
  rw [h3, gT, if_pos (by rw [ltE_e0 h2, hq]), List.take_of_length_le hl, (e0_ts h2).2.2.2]
  have : q = y.opl.length := by omega
  rw [this]
theorem cnt_fresh (hd : (l.map (·.1)).Nodup) (ho : l[q]? = some o) : cntK o.1 (l.take q) = 0 := by
  unfold cntK
  rw [show (l.take q).countP (fun x => decide (x.1 = o.1)) = 0 from ?_]; rfl
  rw [List.countP_eq_zero]
  intro x hx
  simp only [decide_eq_true_eq]
  intro e
  obtain ⟨i, hi⟩ := List.getElem?_of_mem hx
  have hl : i < (l.take q).length := (List.getElem?_eq_some_iff.1 hi).1
  rw [List.length_take] at hl
  rw [List.getElem?_take, if_pos (by omega)] at hi
  obtain ⟨h1, rfl⟩ := List.getElem?_eq_some_iff.1 hi
  obtain ⟨h2, rfl⟩ := List.getElem?_eq_some_iff.1 ho
  have := (List.getElem_inj (xs := l.map (·.1)) (h₀ := by simpa using h1) (h₁ := by simpa using h2) hd).1 (by simpa using e)
  omega
theorem later_step (ho : l[q]? = some o) : (fun b => if b = o.1 then laterF h T l q o.1 + 1 else laterF h T l q b) = laterF h T l (q + 1) := by
  funext b
  unfold laterF
  rw [takeE ho]
  unfold cntK
  rw [List.countP_append]
  by_cases e : b = o.1
  · rw [if_pos e, e]; simp; omega
  · rw [if_neg e]; simp [Ne.symm e]
theorem kp_yes (hd : (l.map (·.1)).Nodup) (ho : l[q]? = some o) (h0 : 0 ≤ fT h T o.1) (hb : ¬ laterF h T l q o.1 + 1 > 1) : kpL (fT h T) (l.take q) ++ [o] = kpL (fT h T) (l.take (q + 1)) := by
  unfold laterF at hb
  rw [cnt_fresh hd ho] at hb
  rw [takeE ho]; unfold kpL; rw [List.filter_append]
  simp [show fT h T o.1 = 0 by omega]
theorem kp_no (hd : (l.map (·.1)).Nodup) (ho : l[q]? = some o) (hb : laterF h T l q o.1 + 1 > 1) : kpL (fT h T) (l.take q) = kpL (fT h T) (l.take (q + 1)) := by
  unfold laterF at hb
  rw [cnt_fresh hd ho] at hb
  rw [takeE ho]; unfold kpL; rw [List.filter_append]
  simp [show ¬ fT h T o.1 = 0 by omega]
theorem kp_yes_len (hd : (l.map (·.1)).Nodup) (ho : l[q]? = some o) (h0 : 0 ≤ fT h T o.1) (hb : ¬ laterF h T l q o.1 + 1 > 1) : (kpL (fT h T) (l.take (q + 1))).length = (kpL (fT h T) (l.take q)).length + 1 := by rw [← kp_yes hd ho h0 hb]; simp
theorem kp_no_len (hd : (l.map (·.1)).Nodup) (ho : l[q]? = some o) (hb : laterF h T l q o.1 + 1 > 1) : (kpL (fT h T) (l.take (q + 1))).length = (kpL (fT h T) (l.take q)).length := by rw [← kp_no hd ho hb]
theorem laterF_0 : fT h T = laterF h T l 0 := by funext k; simp [laterF, cntK]
theorem laterF_nn (hT : ∀ e ∈ T, e.opl.length ≤ 20) (hl : T.length ≤ 100) (h2 : l.length ≤ 20) (k : ByteArray) : 0 ≤ laterF h T l q k ∧ laterF h T l q k ≤ 10000 := by
  have h3 := fT_nn h k T hT
  have h4 := cntK_nn k (l.take q)
  rw [List.length_take] at h4
  unfold laterF; omega
theorem thM_eq {n k : Int} (h1 : k ≤ (L.length : Int)) (h2 : 0 ≤ k) (h3 : k = n ∨ k = 0 ∨ k = (L.length : Int)) (h4 : k ≤ n ∨ n ≤ 0 ∧ k = 0) (h5 : n ≤ k ∨ k = (L.length : Int)) : k.toNat = thM L n := by
  unfold thM
  congr 1
  split
  · omega
  · split <;> omega
theorem drop_all20 (hl : ∀ e ∈ L, e.opl.length ≤ 20) : ∀ e ∈ (L.take M).drop j, e.opl.length ≤ 20 := fun e he => hl e (List.mem_of_mem_take (List.mem_of_mem_drop he))
theorem dropM_len (hM : M ≤ L.length) : ((L.take M).drop j).length = M - j := by rw [List.length_drop, List.length_take]; omega
theorem nodup_y (hd : ∀ e ∈ L, (e.opl.map (·.1)).Nodup) (hj : 0 < j) (hM : j ≤ M) (hL : M ≤ L.length) (hLk : Lk.map e0 = (thS L h M j).map e0) (hy : Lk[j - 1]? = some y) : (y.opl.map (·.1)).Nodup := by
  obtain ⟨z, h1, h2, h3, h4⟩ := thS_z hj hM hL hLk hy
  rw [← (e0_ts h2).2.2.2]; exact hd z (List.mem_of_getElem? h1)
theorem kpL_id (l : List OpT) : kpL (fun _ => 0) l = l := List.filter_eq_self.2 (by simp)
theorem kpL_all {p : OpT → Prop} (hp : ∀ o ∈ l, p o) : ∀ o ∈ kpL f l, p o := fun o ho => hp o ((List.mem_filter.1 ho).1)
theorem ltE_t (h1 : ¬ y.ts = 0) (h2 : y.ts ≤ h) : ltE h y = true := decide_eq_true ⟨h1, h2⟩
theorem ltE_f (h1 : y.ts = 0 ∨ ¬ y.ts ≤ h) : ltE h y = false := decide_eq_false (fun q => by omega)
theorem thS_M (h : Int) (hL : M ≤ L.length) : L.map e0 = (thS L h M M).map e0 := by unfold thS; rw [List.drop_eq_nil_of_le (by rw [List.length_take]; omega)]; simp [lT]
theorem thS_0 (h n : Int) : thS L h (thM L n) 0 = thL L h n := by simp [thS, thL]
theorem fT_M : (fun _ => (0 : Int)) = fT h ((L.take M).drop M) := by rw [List.drop_eq_nil_of_le (by rw [List.length_take]; omega)]; funext k; rfl
theorem gT_M : (0 : Int) = gT h ((L.take M).drop M) := by rw [List.drop_eq_nil_of_le (by rw [List.length_take]; omega)]; rfl
theorem thS_nm (h : Int) (hM : j ≤ M) (hL : M ≤ L.length) : (thS L h M j).map nmE = L.map nmE := by
  unfold thS
  have hl : ∀ T : List EntT, (lT h T).map nmE = T.map nmE := fun T => by
    induction T with
    | nil => rfl
    | cons e r ih => simp only [lT, List.map_cons, ih]; split <;> rfl
  rw [List.map_append, List.map_append, hl, ← List.map_append, ← List.map_append]
  congr 1
  rw [show (L.take M).drop j ++ L.drop M = L.drop j from ?_, List.take_append_drop]
  conv => rhs; rw [← List.take_append_drop M L]
  rw [List.drop_append_of_le_length (by rw [List.length_take]; omega)]
end
theorem blk_ne_mapG {K V : Type} {kv : K → Value} [DecidableEq K] {enc : V → Value} {z : V} {w : World} {N B : Nat} {T : TypeId} {cs : Array Value} {g2 : K → V} (hb : Blk w N T cs) (hm : MapG kv enc z w B g2) : N ≠ B := by
  intro e; subst e
  obtain ⟨l, ⟨es, cl, h1, _⟩, _⟩ := hm
  have := hb.symm.trans h1
  cases this
theorem strz (w : World) : (zeroValue 3).run Try.prog w = .ok (intK 0) w := by kernel_rfl
theorem MapG.toE {K V : Type} [DecidableEq K] {kv : K → Value} {enc : V → Value} {z : V} {w : World} {B : Nat} {g g' : K → V} (h : MapG kv enc z w B g) (e : g = g') : MapG kv enc z w B g' := e ▸ h
theorem grown_of_but {w x : World} {N : Nat} (h : But (fun q => q = N) w x) : w.grownBy x (some N) := ⟨h.os, h.tape, h.output, h.size, fun k hk hne => h.block k hk (fun e => hne (by rw [e]))⟩

set_option maxRecDepth 100000 in
theorem hides_any (w0 : World) (Q : Nat → Prop) (k : ByteArray) (v : ByteArray) (d : Bool) (Bx : Nat) (N : Nat) (g : ByteArray → Int) (w : World) (hbw : But Q w0 w) (hSN : Q N ∨ w0.heap.size ≤ N) (hD : Blk w Bx 72 #[.map (some N)]) (hm : MapG strK intK 0 w N g) (hg0 : 0 ≤ g k ∧ g k ≤ 1000000) :
    Calls Try.prog 41 #[.agg #[.string k, .string v, .bool d], pt Bx 0] w fun e w' => e = .returned (.bool (decide (g k + 1 > 1))) ∧ MapG strK intK 0 w' N (fun b => if b = k then g k + 1 else g b) ∧ But (Q) w0 w' := by
 have hB0 := hbw
 have hz0 := hbw.size
 have hl_hD := hD.lt
 have hlm := hm.lt; have hneN := blk_ne_mapG hD hm
 have hz0 := hbw.size
 refine co_enter (n := 14) Try.func41 rfl rfl rfl [(0, .agg #[.string k, .string v, .bool d]), (1, pt Bx 0)] rfl (fun a h0 => ?_)
 refine co_seq ?_
 refine co_reg ?_
 refine pw h0 rfl (op_new (v := fun N => pt N 0) (T := 74) (cs := #[.string k, .string v, .bool d]) (by kernel_rfl) (by kernel_rfl) (by kernel_rfl)) ?_; clear h0
 rintro _ w2 a1 ⟨N3, rfl, hN6, hz7, hk5, hg4⟩ h1
 have hz8 := hg4.size
 try dsimp only at h1
 refine pk0 (v := .bool false) h1 rfl fun a9 h9 => ?_; clear h1
 refine pl_nil ?_
 refine co_then ?_
 refine co_seq ?_
 refine co_reg ?_
 have hk10 := hD.kept hg4 (by simp)
 refine pk (v := .map (some N)) h9 rfl (rn_load1 rfl rfl Try.isAgg72 (hk10.cell rfl)) fun a11 h11 => ?_; clear h9
 refine pk0 (v := pt N3 0) h11 rfl fun a12 h12 => ?_; clear h11
 refine pk (v := .string k) h12 rfl (rn_load1 rfl rfl Try.isAgg9 (hk5.cell rfl)) fun a13 h13 => ?_; clear h12
 have hI14 := hm.kept hg4 (by simp)
 refine pk (v := .int .i64 (g k)) h13 rfl (rn_lookG (a := k) (strKL Try.underlying9) rfl rfl rfl Try.underlying72 strz hI14) fun a15 h15 => ?_; clear h13
 refine pk (v := .int .i64 ((g k) + 1)) h15 rfl (rn_arith rfl rfl rfl rfl rfl rfl (IntWalk.i64_in _ (by omega))) fun a16 h16 => ?_; clear h15
 refine pwD h16 rfl (op_updateG (a := k) (v := ((g k) + 1)) (strKL Try.underlying9) rfl rfl rfl rfl Try.underlying72 hI14) ?_; clear h16
 rintro _ w18 a17 ⟨hm19, hz20, hg21⟩ h17
 have hz22 := hg21.size
 have hl23 := hm19.lt
 refine pl_nil ?_
 refine co_then ?_
 refine co_seq ?_
 refine co_reg ?_
 have hk24 := hk10.kept hg21 (by simp; omega)
 refine pk (v := .map (some N)) h17 rfl (rn_load1 rfl rfl Try.isAgg72 (hk24.cell rfl)) fun a25 h25 => ?_; clear h17
 refine pk0 (v := pt N3 0) h25 rfl fun a26 h26 => ?_; clear h25
 have hk27 := hk5.kept hg21 (by simp; omega)
 refine pk (v := .string k) h26 rfl (rn_load1 rfl rfl Try.isAgg9 (hk27.cell rfl)) fun a28 h28 => ?_; clear h26
 refine pk (v := .int .i64 (if k = k then g k + 1 else g k)) h28 rfl (rn_lookG (a := k) (strKL Try.underlying9) rfl rfl rfl Try.underlying72 strz hm19) fun a29 h29 => ?_; clear h28
 refine pk0 (v := .bool (decide ((if k = k then g k + 1 else g k) > 1))) h29 rfl fun a30 h30 => ?_; clear h29
 refine pk0 (v := .bool (decide ((if k = k then g k + 1 else g k) > 1))) h30 rfl fun a31 h31 => ?_; clear h30
 refine pl_nil ?_
 refine co_then ?_
 refine wp_ret ?_
 refine co_ret1 h31 rfl rfl ?_
 have hB32 := fbU_new hB0 hg4
 have hB33 := fbU_at hB32 hg21 (fun hlt => by rcases hSN with hq | hq; exact hq; omega)
 exact ⟨by simp, hm19, hB33⟩
set_option maxRecDepth 100000 in
set_option maxHeartbeats 1600000 in
theorem lThin_any (w0 : World) (S : Nat → Prop) (b : Nat) (M : Nat) (u : Value) (L : List EntT) (h : Int) (n : Int) (w : World) (hbw : But S w0 w) (hO : LgP S w0.heap.size w b M u L) (hh : 0 ≤ h ∧ h < 18446744073709551616) (hni : -9223372036854775808 ≤ n ∧ n ≤ 9223372036854775807) (hdk : ∀ e ∈ L, (e.opl.map (·.1)).Nodup) :
    Calls Try.prog 11 #[pt b 0, .int .u64 h, .int .i64 n] w fun e w' => ∃ (L' : List EntT), e = .returned (.int .i64 (thG L h n)) ∧ LgP S w0.heap.size w' b M u L' ∧ L'.map e0 = (thL L h n).map e0 ∧ But (S) w0 w' := by
 have hB0 := hbw
 have hz0 := hbw.size
 have hz0 := hbw.size
 have hl3 := hO.blk.lt; obtain ⟨c1, hm2⟩ := hO.map; have hl4 := hm2.lt; have hne5 := blk_ne_mapN hO.blk hm2; have hln6 := hO.len
 refine co_enter (n := 77) Try.func11 rfl rfl rfl [(0, pt b 0), (1, .int .u64 h), (2, .int .i64 n)] rfl (fun a h0 => ?_)
 refine co_seq ?_
 refine co_reg ?_
 refine pk0 (v := .int .i64 0) h0 rfl fun a7 h7 => ?_; clear h0
 refine pl_nil ?_
 refine co_then ?_
 refine co_seq ?_
 refine co_seq ?_
 refine co_reg ?_
 refine pk0 (v := pt b 0) h7 rfl fun a8 h8 => ?_; clear h7
 refine pw h8 rfl (op_call (args := #[pt b 0]) (R := fun res xw => res = .bool false ∧ w = xw) rfl rfl rfl (by kernel_rfl) (by kernel_rfl) (Try.call39 _ _) (lzero_any b M u w hO.blk) (by rintro e x ⟨rfl, rfl⟩; exact ⟨_, rfl, ⟨rfl, rfl⟩⟩)) ?_; clear h8
 rintro _ _ a9 ⟨rfl, rfl⟩ h9
 refine pl_nil ?_
 refine co_then ?_
 refine co_false h9 rfl ?_
 refine wp_skip ?_
 refine co_then ?_
 refine co_seq ?_
 refine co_reg ?_
 refine pw h9 rfl (op_makeG strK intK 0 (by kernel_rfl) (by kernel_rfl) rfl) ?_; clear h9
 rintro _ w13 a12 ⟨B14, rfl, hN15, hz16, hm17, hg18⟩ h12
 have ha19 := row_fresh hO.row hN15
 have hz20 := hg18.size
 have hl21 := hm17.lt
 refine pw h12 rfl (op_new (v := fun N => pt N 0) (T := 72) (cs := #[.map none]) (by kernel_rfl) (by kernel_rfl) (by kernel_rfl)) ?_; clear h12
 rintro _ w23 a22 ⟨N24, rfl, hN27, hz28, hk26, hg25⟩ h22
 have hr30 := row_kept_new hO.row hg18
 have ha29 := row_fresh hr30 hN27
 have hu31 := row_under hr30 hN27
 have hz32 := hg25.size
 try dsimp only at h22
 refine pwD h22 rfl (op_store1 rfl rfl rfl rfl Try.sizeOf72 hk26 rfl) ?_; clear h22
 rintro _ w34 a33 ⟨hk35, hz36, hg37⟩ h33
 have hk35' : Blk w34 N24 72 #[.map (some B14)] := hk35; clear hk35
 have hz38 := hg37.size
 refine pl_nil ?_
 refine co_then ?_
 refine co_seq ?_
 refine co_reg ?_
 refine pk0 (v := .int .i64 0) h33 rfl fun a39 h39 => ?_; clear h33
 refine pl_nil ?_
 refine co_then ?_
 refine co_seq ?_
 refine co_reg ?_
 refine pk0 (v := .func (.func 41) #[] #[pt N24 0]) h39 rfl fun a40 h40 => ?_; clear h39
 refine pk0 (v := .func (.func 41) #[] #[pt N24 0]) h40 rfl fun a41 h41 => ?_; clear h40
 refine pl_nil ?_
 refine co_then ?_
 refine co_seq ?_
 refine co_seq ?_
 refine co_reg ?_
 refine pk0 (v := .int .i64 n) h41 rfl fun a42 h42 => ?_; clear h41
 obtain ⟨kp43, hkp44⟩ : ∃ z : Int, z = (if n < 0 then 0 else n) := ⟨_, rfl⟩
 have hq45 : kp43 ≥ n ∧ kp43 ≥ 0 ∧ (kp43 = n ∨ kp43 = 0) := by rw [hkp44]; split <;> omega
 refine pk (v := .int .i64 kp43) h42 rfl (by rw [hkp44]; kernel_rfl) fun a46 h46 => ?_; clear h42
 refine pk0 (v := pt b 0) h46 rfl fun a47 h47 => ?_; clear h46
 refine pk0 (v := pt b 0) h47 rfl fun a48 h48 => ?_; clear h47
 refine pk0 (v := pt b 1) h48 rfl fun a49 h49 => ?_; clear h48
 have hk50 := hO.blk.kept hg18 (by simp)
 have hk51 := hk50.kept hg25 (by simp)
 have hk52 := hk51.kept hg37 (by simp; omega)
 refine pk (v := u) h49 rfl (rn_load1 rfl rfl Try.isAgg29 (hk52.cell rfl)) fun a53 h53 => ?_; clear h49
 have hr54 := row_kept_new hr30 hg25
 have hr55 := row_kept_at hr54 hg37 (ha29)
 refine pk (v := .int .i64 ((L.length : Nat) : Int)) h53 rfl (rn_lenOwn rfl rfl Try.underlying29 hr55) fun a56 h56 => ?_; clear h53
 obtain ⟨kp57, hkp58⟩ : ∃ z : Int, z = (if ((L.length : Nat) : Int) < kp43 then ((L.length : Nat) : Int) else kp43) := ⟨_, rfl⟩
 have hq59 : kp57 ≤ kp43 ∧ kp57 ≤ ((L.length : Nat) : Int) ∧ (kp57 = kp43 ∨ kp57 = ((L.length : Nat) : Int)) := by rw [hkp58]; split <;> omega
 refine pk (v := .int .i64 kp57) h56 rfl (by rw [hkp58]; kernel_rfl) fun a60 h60 => ?_; clear h56
 refine pk (v := .int .i64 (kp57 - 1)) h60 rfl (rn_arith rfl rfl rfl rfl rfl rfl (IntWalk.i64_in _ (by omega))) fun a61 h61 => ?_; clear h60
 refine pk0 (v := .int .i64 (kp57 - 1)) h61 rfl fun a62 h62 => ?_; clear h61
 refine pl_nil ?_
 refine co_then ?_
 refine wp_block ?_
 obtain ⟨Mn, hMn⟩ : ∃ z : Nat, z = kp57.toNat := ⟨_, rfl⟩
 have h63 : Slots 77 [(0, pt b 0), (1, .int .u64 h), (7, pt N24 0), (8, .int .i64 0), (9, .func (.func 41) #[] #[pt N24 0]), (10, .int .i64 (kp57 - 1))] _ := h62.sub ⟨rfl, rfl, rfl, rfl, rfl, rfl, trivial⟩; clear h62
 refine co_loop (fun mm a x => ∃ (j : Nat) (Lk : List EntT), Slots 77 [(0, pt b 0), (1, .int .u64 h), (7, pt N24 0), (8, .int .i64 (gT h ((L.take Mn).drop j))), (9, .func (.func 41) #[] #[pt N24 0]), (10, .int .i64 (((j : Nat) : Int) - 1))] a ∧ mm = 0 + j ∧ (j ≤ Mn) ∧ (Lk.map e0 = (thS L h Mn j).map e0) ∧ x.ownsRow 0 37 4 u Lk.length (Lk.flatMap entE) ∧ EntsK S w0.heap.size x Lk ∧ MapO arr2K spotV x M (findN L) c1 ∧ MapG strK intK 0 x B14 (fT h ((L.take Mn).drop j)) ∧ But (S) w0 x ∧ Blk x b 68 #[.bool true, u, .map (some M)] ∧ Blk x N24 72 #[.map (some B14)]) (0 + Mn) ?_ ?_
 have hE64 := hO.ents.new hg18
 have hE65 := hE64.new hg25
 have hE66 := hE65.blk hk26 (by decide) hg37
 have hM67 := hm2.kept hg18 (by simp)
 have hM68 := hM67.kept hg25 (by simp)
 have hM69 := hM68.kept hg37 (by simp; omega)
 have hI70 := hm17.kept hg25 (by simp)
 have hI71 := hI70.kept hg37 (by simp; omega)
 have hB72 := fbU_new hB0 hg18
 have hB73 := fbU_new hB72 hg25
 have hB74 := fbU_at hB73 hg37 (fun hlt => absurd hlt (by omega))
 · exact ⟨Mn, L, h63.sub ⟨rfl, rfl, rfl, (slot_eq rfl (congrArg (Value.int .i64) (by first | exact gT_M | (rw [hgj]; exact gT_no (by omega) (by omega) (by omega) (by assumption) (by assumption) hq0) | (rw [hgj]; exact gT_yes (by omega) (by omega) (by omega) (by assumption) (by assumption) hq0 (by omega) (by omega))))), rfl, (slot_eq rfl (congrArg (Value.int .i64) (by first | rfl | omega))), trivial⟩, rfl, by omega, by first | exact thS_M _ (by omega) | exact th_no (by omega) (by omega) (by omega) (by assumption) (by assumption) hq0 | exact th_yes (by omega) (by omega) (by omega) (by assumption) (by assumption) hq0 (by simp only [e0, htk]), hr55, hE66, hM69, (hI71.toE (by first | exact fT_M | exact fT_no (by omega) (by omega) (by omega) hq0 hq0 hq0 | exact fT_yes (by omega) (by omega) (by omega) hq0 hq0 hq0 (by omega))), hB74, hk52, hk35'⟩
 · rintro k75 a76 w77 ⟨j, Lk, h76, rfl, hi78, hi79, hf80, hf81, hf82, hf83, hB84, hk85, hk86⟩
   have hz87 := hB84.size
   have hl88 := hk85.lt
   have hl89 := hk86.lt
   have hl90 := hf82.lt
   have hl91 := hf83.lt
   have hLl : Lk.length = L.length := by have := e0_len (by assumption : Lk.map e0 = (thS L h Mn j).map e0); have h2 := congrArg List.length (thS_nm h (by omega : j ≤ Mn) (by omega : Mn ≤ L.length)); rw [List.length_map, List.length_map] at h2; omega
   have hgb := gT_nn h ((L.take Mn).drop j) (drop_all20 (fun e he => (hO.ents e he).len)); rw [dropM_len (by omega)] at hgb
   obtain ⟨gj, hgj⟩ : ∃ z, z = gT h ((L.take Mn).drop j) := ⟨_, rfl⟩; rw [← hgj] at hgb
   rw [← hgj] at h76
   refine co_seq ?_
   refine co_seq ?_
   refine co_reg ?_
   refine pk0 (v := .int .i64 (((j : Nat) : Int) - 1)) h76 rfl fun a92 h92 => ?_; clear h76
   refine pk0 (v := .bool (decide ((((j : Nat) : Int) - 1) ≥ 0))) h92 rfl fun a93 h93 => ?_; clear h92
   refine pl_nil ?_
   refine co_then ?_
   cases hc94 : (decide ((((j : Nat) : Int) - 1) ≥ 0))
   ·
    rw [hc94] at h93
    have hp95 : ¬ ((((j : Nat) : Int) - 1) ≥ 0) := of_decide_eq_false hc94
    clear hc94
    refine co_false h93 rfl ?_
    refine wp_exit ?_
    refine co_thenX ?_
    refine co_thenX ?_
    refine co_blockX ?_
    refine co_then ?_
    refine co_seq ?_
    refine co_reg ?_
    refine pk0 (v := .int .i64 gj) h93 rfl fun a96 h96 => ?_; clear h93
    refine pk0 (v := .int .i64 gj) h96 rfl fun a97 h97 => ?_; clear h96
    refine pl_nil ?_
    refine co_then ?_
    refine wp_ret ?_
    refine co_ret1 h97 rfl rfl ?_
    have hj0 : j = 0 := by omega
    subst hj0
    have hMe : Mn = thM L n := by rw [hMn]; exact thM_eq (by omega) (by omega) (by omega) (by omega) (by omega)
    have hLe : Lk.map e0 = (thL L h n).map e0 := by rw [← thS_0, ← hMe]; assumption
    have hnm : Lk.map nmE = L.map nmE := by rw [e0_f (f := nmE) (fun _ => rfl) (by assumption : Lk.map e0 = (thS L h Mn 0).map e0)]; exact thS_nm h (by omega) (by omega)
    exact ⟨_, ret_int (by unfold thG; rw [← hMe, hgj, List.drop_zero]), ⟨hk85, ⟨_, hf82.eq ((findN_nm hnm).symm) (Nat.le_refl _)⟩, hf80, hf81, hO.sb, hO.sM, hO.su, (hO.uq.nm hnm), (by have := hO.len; omega)⟩, hLe, hB84⟩
   ·
    rw [hc94] at h93
    have hp98 : (((j : Nat) : Int) - 1) ≥ 0 := of_decide_eq_true hc94
    clear hc94
    refine co_true h93 rfl ?_
    refine wp_skip ?_
    refine co_then ?_
    refine co_seq ?_
    refine wp_block ?_
    refine co_seq ?_
    refine co_reg ?_
    refine pk0 (v := pt b 0) h93 rfl fun a99 h99 => ?_; clear h93
    refine pk0 (v := pt b 0) h99 rfl fun a100 h100 => ?_; clear h99
    refine pk0 (v := pt b 1) h100 rfl fun a101 h101 => ?_; clear h100
    refine pk (v := u) h101 rfl (rn_load1 rfl rfl Try.isAgg29 (hk85.cell rfl)) fun a102 h102 => ?_; clear h101
    refine pk0 (v := .int .i64 (((j : Nat) : Int) - 1)) h102 rfl fun a103 h103 => ?_; clear h102
    obtain ⟨y104, hy104⟩ : ∃ z, Lk[(j - 1)]? = some z := ⟨_, List.getElem?_eq_getElem (by first | omega | (simp; done) | (simp; omega))⟩
    have oky104 := (fun (z : EntT) (_ : z ∈ Lk) => trivial) _ (List.mem_of_getElem? hy104)
    have hy105 := hf81.at hy104
    have hq106 := hy105.ts0; have hq107 := hy105.ts1; have hq108 := hy105.len; have hq109 := wf_i64 hy105.cl; have hq110 := wf_i64 hy105.rq
    refine pk (v := pt (blkOf u) (offOf u + (j - 1) * 4)) h103 rfl (rn_index rfl rfl rfl Try.underlying29 Try.sizeOf37 (row_sl hf80 entE_len) (by omega) (by first | omega | (simp; done) | (simp; omega))) fun a111 h111 => ?_; clear h103
    refine pk0 (v := pt (blkOf u) (offOf u + (j - 1) * 4)) h111 rfl fun a112 h112 => ?_; clear h111
    refine pl_nil ?_
    refine co_then ?_
    refine co_seq ?_
    refine co_seq ?_
    refine co_reg ?_
    refine pk0 (v := pt (blkOf u) (offOf u + (j - 1) * 4)) h112 rfl fun a113 h113 => ?_; clear h112
    refine pk0 (v := pt (blkOf u) (offOf u + (j - 1) * 4)) h113 rfl fun a114 h114 => ?_; clear h113
    refine pk0 (v := pt (blkOf u) (offOf u + (j - 1) * 4 + 3)) h114 rfl fun a115 h115 => ?_; clear h114
    refine pk (v := .int .u64 y104.ts) h115 rfl (rn_load1 rfl rfl Try.isAgg23 ((sl_at (row_sl hf80 entE_len) hy104) 3 _ rfl)) fun a116 h116 => ?_; clear h115
    refine pk0 (v := .bool (y104.ts == 0)) h116 rfl fun a117 h117 => ?_; clear h116
    refine pk0 (v := .bool (y104.ts == 0)) h117 rfl fun a118 h118 => ?_; clear h117
    cases hc119 : (y104.ts == 0)
    ·
     rw [hc119] at h118
     have hp120 : ¬ (y104.ts = 0) := by first | simpa using hc119 | simpa [and_assoc] using hc119
     clear hc119
     refine pk0 (v := pt (blkOf u) (offOf u + (j - 1) * 4)) h118 rfl fun a121 h121 => ?_; clear h118
     refine pk0 (v := pt (blkOf u) (offOf u + (j - 1) * 4)) h121 rfl fun a122 h122 => ?_; clear h121
     refine pk0 (v := pt (blkOf u) (offOf u + (j - 1) * 4 + 3)) h122 rfl fun a123 h123 => ?_; clear h122
     refine pk (v := .int .u64 y104.ts) h123 rfl (rn_load1 rfl rfl Try.isAgg23 ((sl_at (row_sl hf80 entE_len) hy104) 3 _ rfl)) fun a124 h124 => ?_; clear h123
     refine pk0 (v := .int .u64 h) h124 rfl fun a125 h125 => ?_; clear h124
     refine pk0 (v := .bool (decide (y104.ts > h))) h125 rfl fun a126 h126 => ?_; clear h125
     refine pk0 (v := .bool (decide (y104.ts > h))) h126 rfl fun a127 h127 => ?_; clear h126
     refine pl_nil ?_
     refine co_then ?_
     cases hc128 : (decide (y104.ts > h))
     ·
      rw [hc128] at h127
      have hp129 : ¬ (y104.ts > h) := of_decide_eq_false hc128
      clear hc128
      refine co_false h127 rfl ?_
      refine wp_skip ?_
      refine co_then ?_
      refine co_seq ?_
      refine co_reg ?_
      refine pk0 (v := .slice none 0 0) h127 rfl fun a130 h130 => ?_; clear h127
      refine pl_nil ?_
      refine co_then ?_
      refine co_seq ?_
      refine co_seq ?_
      refine co_reg ?_
      refine pk0 (v := pt (blkOf u) (offOf u + (j - 1) * 4)) h130 rfl fun a131 h131 => ?_; clear h130
      refine pk0 (v := pt (blkOf u) (offOf u + (j - 1) * 4)) h131 rfl fun a132 h132 => ?_; clear h131
      refine pk0 (v := pt (blkOf u) (offOf u + (j - 1) * 4)) h132 rfl fun a133 h133 => ?_; clear h132
      refine pk0 (v := pt (blkOf u) (offOf u + (j - 1) * 4 + 2)) h133 rfl fun a134 h134 => ?_; clear h133
      refine pk (v := y104.ops) h134 rfl (rn_load1 rfl rfl Try.isAgg33 ((sl_at (row_sl hf80 entE_len) hy104) 2 _ rfl)) fun a135 h135 => ?_; clear h134
      refine pk (v := .int .i64 ((y104.opl.length : Nat) : Int)) h135 rfl (rn_lenOwn rfl rfl Try.underlying33 hy105.row) fun a136 h136 => ?_; clear h135
      refine pk0 (v := .int .i64 0) h136 rfl fun a137 h137 => ?_; clear h136
      refine pl_nil ?_
      refine co_then ?_
      refine wp_block ?_
      obtain ⟨bs138, hb_bs138⟩ : ∃ b, b = w77.heap.size := ⟨_, rfl⟩
      have hu139 := row_under hf80 hb_bs138
      have hu140 := row_under hy105.row hb_bs138
      have hu141 := EntsK.under hf81 hb_bs138
      have hnd := nodup_y (h := h) hdk (by omega) (by omega) (by omega) (by assumption : Lk.map e0 = (thS L h Mn j).map e0) hy104
      have hw0b : w0.heap.size ≤ bs138 := by omega
      have h142 : Slots 77 [(0, pt b 0), (1, .int .u64 h), (7, pt N24 0), (8, .int .i64 gj), (9, .func (.func 41) #[] #[pt N24 0]), (10, .int .i64 (((j : Nat) : Int) - 1)), (11, pt (blkOf u) (offOf u + (j - 1) * 4)), (12, .slice none 0 0), (55, y104.ops), (56, .int .i64 ((y104.opl.length : Nat) : Int)), (57, .int .i64 0)] _ := h137.sub ⟨rfl, rfl, rfl, rfl, rfl, rfl, rfl, rfl, rfl, rfl, rfl, trivial⟩; clear h137
      refine co_loop (fun mm a x => ∃ (q : Nat) (u2 : Value), Slots 77 [(0, pt b 0), (1, .int .u64 h), (7, pt N24 0), (8, .int .i64 (gj + ((q : Int) - ((kpL (fT h ((L.take Mn).drop j)) (y104.opl.take q)).length : Int)))), (9, .func (.func 41) #[] #[pt N24 0]), (10, .int .i64 (((j : Nat) : Int) - 1)), (11, pt (blkOf u) (offOf u + (j - 1) * 4)), (12, u2), (55, y104.ops), (56, .int .i64 ((y104.opl.length : Nat) : Int)), (57, .int .i64 ((q : Nat) : Int))] a ∧ mm = y104.opl.length - q ∧ (q ≤ y104.opl.length) ∧ (bs138 ≤ x.heap.size) ∧ x.ownsRow 0 37 4 u Lk.length (Lk.flatMap entE) ∧ x.ownsRow 0 74 3 (y104.ops) y104.opl.length (y104.opl.flatMap opE) ∧ EntsK S w0.heap.size x Lk ∧ MapO arr2K spotV x M (findN L) c1 ∧ x.ownsRow bs138 74 3 u2 (kpL (fT h ((L.take Mn).drop j)) (y104.opl.take q)).length ((kpL (fT h ((L.take Mn).drop j)) (y104.opl.take q)).flatMap opE) ∧ MapG strK intK 0 x B14 (laterF h ((L.take Mn).drop j) y104.opl q) ∧ But (S) w0 x ∧ Blk x b 68 #[.bool true, u, .map (some M)] ∧ Blk x N24 72 #[.map (some B14)]) (y104.opl.length - 0) ?_ ?_
      · exact ⟨0, (.slice none 0 0), h142.sub ⟨rfl, rfl, rfl, (slot_eq rfl (congrArg (Value.int .i64) (by first | (simp [kpL]; done) | omega))), rfl, rfl, rfl, rfl, rfl, rfl, (slot_eq rfl (congrArg (Value.int .i64) (by first | rfl | omega))), trivial⟩, rfl, by omega, by omega, hf80, hy105.row, hf81, hf82, (row_nilL _ _ _ _ _), (hf83.toE (laterF_0)), hB84, hk85, hk86⟩
      · rintro k143 a144 w145 ⟨q, u2, h144, rfl, hi146, hi147, hf148, hf149, hf150, hf151, hf152, hf153, hB154, hk155, hk156⟩
        have hz157 := hB154.size
        have hl158 := hk155.lt
        have hl159 := hk156.lt
        have hl160 := hf151.lt
        have hl161 := hf153.lt
        have hkl := kpL_le (fT h ((L.take Mn).drop j)) (y104.opl.take q); rw [List.length_take] at hkl
        refine co_seq ?_
        refine co_reg ?_
        refine pk0 (v := .bool (decide (((q : Nat) : Int) < ((y104.opl.length : Nat) : Int)))) h144 rfl fun a162 h162 => ?_; clear h144
        refine pl_nil ?_
        refine co_then ?_
        refine co_seq ?_
        cases hc163 : (decide (((q : Nat) : Int) < ((y104.opl.length : Nat) : Int)))
        ·
         rw [hc163] at h162
         have hp164 : ¬ (((q : Nat) : Int) < ((y104.opl.length : Nat) : Int)) := of_decide_eq_false hc163
         clear hc163
         refine co_false h162 rfl ?_
         refine wp_exit ?_
         refine co_thenX ?_
         refine co_thenX ?_
         refine co_blockX ?_
         refine co_then ?_
         refine co_reg ?_
         refine pk0 (v := pt (blkOf u) (offOf u + (j - 1) * 4)) h162 rfl fun a165 h165 => ?_; clear h162
         refine pk0 (v := u2) h165 rfl fun a166 h166 => ?_; clear h165
         refine pk0 (v := pt (blkOf u) (offOf u + (j - 1) * 4)) h166 rfl fun a167 h167 => ?_; clear h166
         refine pk0 (v := pt (blkOf u) (offOf u + (j - 1) * 4)) h167 rfl fun a168 h168 => ?_; clear h167
         refine pk0 (v := pt (blkOf u) (offOf u + (j - 1) * 4 + 2)) h168 rfl fun a169 h169 => ?_; clear h168
         refine pwD h169 rfl (op_storeRow (c := (j - 1) * 4 + 2) rfl rfl rfl (row_one hf152) Try.sizeOf33 hf148 (flat_lt entE_len (by first | omega | (simp; omega)) (by omega)) (by first | rfl | omega)) ?_; clear h169
         rintro _ w171 a170 ⟨hr172, hz173, hg174⟩ h170
         have hr172' := row_set (y' := (EntT.mk y104.client y104.req u2 (kpL (fT h ((L.take Mn).drop j)) (y104.opl.take q)) y104.ts)) hr172 entE_len hy104 (by omega) rfl; clear hr172
         have hz175 := hg174.size
         have hE178 := hf150.row hf148 (by decide) hg174
         have hy177 := EntsK.at hE178 hy104
         have hr179 := row_kept_row hf152 hf148 hg174 (by decide)
         have hE176 := EntsK.set (i := (j - 1)) (z := (EntT.mk y104.client y104.req u2 (kpL (fT h ((L.take Mn).drop j)) (y104.opl.take q)) y104.ts)) hE178 ⟨row_lows hr179 (Nat.zero_le _), InS.low hr179 (by omega), Nat.le_trans (kpL_le _ _) (by rw [List.length_take]; omega), kpL_all (fun o ho => hy177.each o (List.mem_of_mem_take ho)), hy177.ts0, hy177.ts1, hy177.cl, hy177.rq⟩
         refine pl_nil ?_
         refine co_blockN ?_
         refine co_then ?_
         refine co_reg ?_
         refine pk0 (v := .int .i64 (((j : Nat) : Int) - 1)) h170 rfl fun a180 h180 => ?_; clear h170
         refine pk (v := .int .i64 ((((j : Nat) : Int) - 1) - 1)) h180 rfl (rn_arith rfl rfl rfl rfl rfl rfl (IntWalk.i64_in _ (by omega))) fun a181 h181 => ?_; clear h180
         refine pk0 (v := .int .i64 ((((j : Nat) : Int) - 1) - 1)) h181 rfl fun a182 h182 => ?_; clear h181
         refine pl_nil ?_
         refine co_then ?_
         refine ⟨(0 + (j - 1)), by omega, ?_⟩
         have hq0 : ltE h y104 = true := ltE_t (by omega) (by omega)
         have htk : List.take q y104.opl = y104.opl := List.take_of_length_le (by omega)
         have hM183 := hf151.kept hg174 (hf151.row hf148)
         have hI184 := hf153.kept hg174 (hf153.row hf148)
         have hB185 := fbU_row hB154 hO.su hg174
         have hk186 := hk155.kept hg174 (own_neT hf148 hk155 (by decide))
         have hk187 := hk156.kept hg174 (ha29)
         exact ⟨(j - 1), (Lk.set (j - 1) (EntT.mk y104.client y104.req u2 (kpL (fT h ((L.take Mn).drop j)) (y104.opl.take q)) y104.ts)), h182.sub ⟨rfl, rfl, rfl, (slot_eq rfl (congrArg (Value.int .i64) (by first | exact gT_M | (rw [hgj]; exact gT_no (by omega) (by omega) (by omega) (by assumption) (by assumption) hq0) | (rw [hgj]; exact gT_yes (by omega) (by omega) (by omega) (by assumption) (by assumption) hq0 (by omega) (by omega))))), rfl, (slot_eq rfl (congrArg (Value.int .i64) (by first | rfl | omega))), trivial⟩, rfl, by omega, by first | exact thS_M _ (by omega) | exact th_no (by omega) (by omega) (by omega) (by assumption) (by assumption) hq0 | exact th_yes (by omega) (by omega) (by omega) (by assumption) (by assumption) hq0 (by simp only [e0, htk]), hr172', hE176, hM183, (hI184.toE (by first | exact fT_M | exact fT_no (by omega) (by omega) (by omega) (by assumption : Lk.map e0 = (thS L h Mn j).map e0) hy104 hq0 | exact fT_yes (by omega) (by omega) (by omega) (by assumption : Lk.map e0 = (thS L h Mn j).map e0) hy104 hq0 (by omega))), hB185, hk186, hk187⟩
        ·
         rw [hc163] at h162
         have hp188 : ((q : Nat) : Int) < ((y104.opl.length : Nat) : Int) := of_decide_eq_true hc163
         clear hc163
         refine co_true h162 rfl ?_
         refine wp_skip ?_
         refine co_then ?_
         refine co_seq ?_
         refine wp_block ?_
         refine co_seq ?_
         refine co_reg ?_
         obtain ⟨y189, hy189⟩ : ∃ z, y104.opl[q]? = some z := ⟨_, List.getElem?_eq_getElem (by first | omega | (simp; done) | (simp; omega))⟩
         refine pk (v := pt (blkOf (y104.ops)) (offOf (y104.ops) + q * 3)) h162 rfl (rn_index rfl rfl rfl Try.underlying33 Try.sizeOf74 (row_sl hf149 opE_len) (by omega) (by first | omega | (simp; done) | (simp; omega))) fun a190 h190 => ?_; clear h162
         refine pk (v := .agg #[.string y189.1, .string y189.2.1, .bool y189.2.2]) h190 rfl (rn_loadN rfl rfl Try.underlying74 rfl (by kernel_rfl) (sl_at (row_sl hf149 opE_len) hy189)) fun a191 h191 => ?_; clear h190
         refine pw h191 rfl (op_new (v := fun N => pt N 0) (T := 74) (cs := #[.string (⟨#[]⟩), .string (⟨#[]⟩), .bool false]) (by kernel_rfl) (by kernel_rfl) (by kernel_rfl)) ?_; clear h191
         rintro _ w193 a192 ⟨N194, rfl, hN197, hz198, hk196, hg195⟩ h192
         have ha199 := row_fresh hf148 hN197
         have hu200 := row_under hf148 hN197
         have ha201 := row_fresh hf149 hN197
         have hu202 := row_under hf149 hN197
         have ha203 := row_fresh hf152 hN197
         have hu204 := row_under hf152 hN197
         have hz205 := hg195.size
         have hu206 := EntsK.under hf150 hN197
         try dsimp only at h192
         refine pwD h192 rfl (op_storeN rfl rfl rfl (by kernel_rfl) (by kernel_rfl) hk196 rfl) ?_; clear h192
         rintro _ w208 a207 ⟨hk209, hz210, hg211⟩ h207
         have hk209' : Blk w208 N194 74 #[.string y189.1, .string y189.2.1, .bool y189.2.2] := hk209; clear hk209
         have hz212 := hg211.size
         refine pl_nil ?_
         refine co_then ?_
         refine co_seq ?_
         refine co_reg ?_
         refine pk0 (v := .func (.func 41) #[] #[pt N24 0]) h207 rfl fun a213 h213 => ?_; clear h207
         refine pk (v := .agg #[.string y189.1, .string y189.2.1, .bool y189.2.2]) h213 rfl (rn_loadN rfl rfl Try.underlying74 rfl (by kernel_rfl) hk209'.all) fun a214 h214 => ?_; clear h213
         have hB217 := fbU_new hB154 hg195
         have hB218 := fbU_at hB217 hg211 (fun hlt => absurd hlt (by omega))
         have hk219 := hk155.kept hg195 (by simp)
         have hk220 := hk219.kept hg211 (by simp; omega)
         have hk221 := hk156.kept hg195 (by simp)
         have hk222 := hk221.kept hg211 (by simp; omega)
         have hr223 := row_kept_new hf148 hg195
         have hr224 := row_kept_at hr223 hg211 (ha199)
         have hr225 := row_kept_new hf149 hg195
         have hr226 := row_kept_at hr225 hg211 (ha201)
         have hE227 := hf150.new hg195
         have hE228 := hE227.atU hu206 hg211
         have hM229 := hf151.kept hg195 (by simp)
         have hM230 := hM229.kept hg211 (by simp; omega)
         have hr231 := row_kept_new hf152 hg195
         have hr232 := row_kept_at hr231 hg211 (ha203)
         have hI233 := hf153.kept hg195 (by simp)
         have hI234 := hI233.kept hg211 (by simp; omega)
         have hk235 : 0 ≤ laterF h ((L.take Mn).drop j) y104.opl q y189.1 ∧ laterF h ((L.take Mn).drop j) y104.opl q y189.1 ≤ 10000 := laterF_nn (drop_all20 (fun e he => (hO.ents e he).len)) (by rw [dropM_len (by omega)]; omega) (by omega) _
         refine pw h214 rfl (op_callV (args := #[.agg #[.string y189.1, .string y189.2.1, .bool y189.2.2], pt N24 0]) (R := fun res xw => res = .bool (decide (laterF h ((L.take Mn).drop j) y104.opl q y189.1 + 1 > 1)) ∧ MapG strK intK 0 xw B14 (fun b => if b = y189.1 then laterF h ((L.take Mn).drop j) y104.opl q y189.1 + 1 else (laterF h ((L.take Mn).drop j) y104.opl q) b) ∧ w208.grownBy xw (some B14)) rfl rfl rfl (by kernel_rfl) (by kernel_rfl) (Try.call41 _ _) (hides_any w208 (fun q => q = B14) y189.1 y189.2.1 y189.2.2 N24 B14 (laterF h ((L.take Mn).drop j) y104.opl q) w208 (But.refl _ _) (.inl rfl) hk222 hI234 (by omega)) (by rintro e x ⟨rfl, h1, h2⟩; exact ⟨_, rfl, rfl, h1, grown_of_but h2⟩)) ?_; clear h214
         rintro _ w216 a215 ⟨rfl, hm236, hg237⟩ h215
         have hz238 := hg237.size
         have hl239 := hm236.lt
         refine pl_nil ?_
         refine co_then ?_
         have hB241 := fbU_at hB218 hg237 (fun hlt => absurd hlt (by omega))
         cases hc240 : (decide (laterF h ((L.take Mn).drop j) y104.opl q y189.1 + 1 > 1))
         ·
          rw [hc240] at h215
          have hp242 : ¬ (laterF h ((L.take Mn).drop j) y104.opl q y189.1 + 1 > 1) := of_decide_eq_false hc240
          clear hc240
          refine co_false h215 rfl ?_
          refine co_reg ?_
          refine pk0 (v := u2) h215 rfl fun a243 h243 => ?_; clear h215
          have hk244 := hk209'.kept hg237 (by simp; omega)
          refine pk (v := .agg #[.string y189.1, .string y189.2.1, .bool y189.2.2]) h243 rfl (rn_loadN rfl rfl Try.underlying74 rfl (by kernel_rfl) hk244.all) fun a245 h245 => ?_; clear h243
          refine pw h245 rfl (op_new (v := fun N => .slice (some ⟨N, 0, none⟩) 1 1) (T := 74) (cs := #[.string y189.1, .string y189.2.1, .bool y189.2.2]) (by kernel_rfl) (by kernel_rfl) (by kernel_rfl)) ?_; clear h245
          rintro _ w247 a246 ⟨N248, rfl, hN251, hz252, hk250, hg249⟩ h246
          have hr254 := row_kept_at hr224 hg237 (ha19)
          have ha253 := row_fresh hr254 hN251
          have hu255 := row_under hr254 hN251
          have hr257 := row_kept_at hr226 hg237 (hI234.row hr226)
          have ha256 := row_fresh hr257 hN251
          have hu258 := row_under hr257 hN251
          have hr260 := row_kept_at hr232 hg237 (hI234.row hr232)
          have ha259 := row_fresh hr260 hN251
          have hu261 := row_under hr260 hN251
          have hz262 := hg249.size
          have hE264 := hE228.mapG hI234 hg237
          have hu263 := EntsK.under hE264 hN251
          try dsimp only at h246
          have hr271 := row_kept_new hr260 hg249
          refine pw h246 rfl (op_append rfl bs138 74 (z := .agg #[.string (⟨#[]⟩), .string (⟨#[]⟩), .bool false]) (size := 3) (bytes := 40) Try.underlying33 (by kernel_rfl) rfl rfl rfl hr271 rfl hk250 rfl (by kernel_rfl) (by first | omega | (simp only [List.length_nil, List.length_append, List.length_cons, List.length_take, List.length_drop]; omega)) (by first | omega | (simp only [List.length_nil, List.length_append, List.length_cons, List.length_take, List.length_drop]; omega)) (by omega)) ?_; clear h246
          rintro v267 w266 a265 ⟨hr268, hg269⟩ h265
          have hr268' : w266.ownsRow bs138 74 3 v267 (((kpL (fT h ((L.take Mn).drop j)) (y104.opl.take q)) ++ [(y189.1, y189.2.1, y189.2.2)]).length) (((kpL (fT h ((L.take Mn).drop j)) (y104.opl.take q)) ++ [(y189.1, y189.2.1, y189.2.2)]).flatMap opE) := row_push (y := (y189.1, y189.2.1, y189.2.2)) hr268 rfl rfl; clear hr268
          have hz272 := hg269.size
          refine pk0 (v := v267) h265 rfl fun a273 h273 => ?_; clear h265
          refine pl_nil ?_
          refine co_blockN ?_
          refine co_then ?_
          refine co_reg ?_
          refine pk (v := .int .i64 ((q + 1 : Nat) : Int)) h273 rfl (rn_arith' rfl rfl rfl rfl rfl rfl (IntWalk.i64_in _ (by omega)) (by omega)) fun a274 h274 => ?_; clear h273
          refine pk0 (v := .int .i64 ((q + 1 : Nat) : Int)) h274 rfl fun a275 h275 => ?_; clear h274
          refine pl_nil ?_
          refine co_then ?_
          refine ⟨(y104.opl.length - (q + 1)), by omega, ?_⟩
          have hkq := kp_yes_len hnd hy189 (fT_nn _ _ _ (drop_all20 (fun e he => (hO.ents e he).len))).1 (by omega)
          have hr276 := row_kept_new hr254 hg249
          have hr277 := row_kept_ap hr276 hr271 hu139 hg269
          have hr278 := row_kept_new hr257 hg249
          have hr279 := row_kept_ap hr278 hr271 hu140 hg269
          have hE280 := hE264.new hg249
          have hE281 := hE280.rowU hu141 hr271 hg269
          have hM282 := hM230.kept hg237 (by simp; omega)
          have hM283 := hM282.kept hg249 (by simp)
          have hM284 := hM283.kept hg269 (hM283.row hr271)
          have hI285 := hm236.kept hg249 (by simp)
          have hI286 := hI285.kept hg269 (hI285.row hr271)
          have hB287 := fbU_new hB241 hg249
          have hB288 := fbU_row hB287 (InS.low hr271 (by omega)) hg269
          have hk289 := hk220.kept hg237 (by simp; omega)
          have hk290 := hk289.kept hg249 (by simp)
          have hk291 := hk290.kept hg269 (own_neT hr271 hk290 (by decide))
          have hk292 := hk222.kept hg237 (by simp; omega)
          have hk293 := hk292.kept hg249 (by simp)
          have hk294 := hk293.kept hg269 (own_neT hr271 hk293 (by decide))
          exact ⟨q + 1, v267, h275.sub ⟨rfl, rfl, rfl, (slot_eq rfl (congrArg (Value.int .i64) (by first | (simp [kpL]; done) | omega))), rfl, rfl, rfl, rfl, rfl, rfl, rfl, trivial⟩, rfl, by omega, by omega, hr277, hr279, hE281, hM284, (row_eq hr268' (by first | rfl | exact kp_yes hnd (by assumption) (fT_nn _ _ _ (drop_all20 (fun e he => (hO.ents e he).len))).1 (by omega) | exact kp_no hnd (by assumption) (by omega))), (hI286.toE (later_step (by assumption))), hB288, hk291, hk294⟩
         ·
          rw [hc240] at h215
          have hp295 : laterF h ((L.take Mn).drop j) y104.opl q y189.1 + 1 > 1 := of_decide_eq_true hc240
          clear hc240
          refine co_true h215 rfl ?_
          refine co_reg ?_
          refine pk0 (v := .int .i64 (gj + ((q : Int) - ((kpL (fT h ((L.take Mn).drop j)) (y104.opl.take q)).length : Int)))) h215 rfl fun a296 h296 => ?_; clear h215
          refine pk (v := .int .i64 ((gj + ((q : Int) - ((kpL (fT h ((L.take Mn).drop j)) (y104.opl.take q)).length : Int))) + 1)) h296 rfl (rn_arith rfl rfl rfl rfl rfl rfl (IntWalk.i64_in _ (by omega))) fun a297 h297 => ?_; clear h296
          refine pk0 (v := .int .i64 ((gj + ((q : Int) - ((kpL (fT h ((L.take Mn).drop j)) (y104.opl.take q)).length : Int))) + 1)) h297 rfl fun a298 h298 => ?_; clear h297
          refine pl_nil ?_
          refine co_blockN ?_
          refine co_then ?_
          refine co_reg ?_
          refine pk (v := .int .i64 ((q + 1 : Nat) : Int)) h298 rfl (rn_arith' rfl rfl rfl rfl rfl rfl (IntWalk.i64_in _ (by omega)) (by omega)) fun a299 h299 => ?_; clear h298
          refine pk0 (v := .int .i64 ((q + 1 : Nat) : Int)) h299 rfl fun a300 h300 => ?_; clear h299
          refine pl_nil ?_
          refine co_then ?_
          refine ⟨(y104.opl.length - (q + 1)), by omega, ?_⟩
          have hkq := kp_no_len hnd hy189 (by omega)
          have hr301 := row_kept_at hr224 hg237 (ha19)
          have hr302 := row_kept_at hr226 hg237 (hI234.row hr226)
          have hE303 := hE228.mapG hI234 hg237
          have hM304 := hM230.kept hg237 (by simp; omega)
          have hr305 := row_kept_at hr232 hg237 (hI234.row hr232)
          have hk306 := hk220.kept hg237 (by simp; omega)
          have hk307 := hk222.kept hg237 (by simp; omega)
          exact ⟨q + 1, u2, h300.sub ⟨rfl, rfl, rfl, (slot_eq rfl (congrArg (Value.int .i64) (by first | (simp [kpL]; done) | omega))), rfl, rfl, rfl, rfl, rfl, rfl, rfl, trivial⟩, rfl, by omega, by omega, hr301, hr302, hE303, hM304, (row_eq hr305 (by first | rfl | exact kp_yes hnd (by assumption) (fT_nn _ _ _ (drop_all20 (fun e he => (hO.ents e he).len))).1 (by omega) | exact kp_no hnd (by assumption) (by omega))), (hm236.toE (later_step (by assumption))), hB241, hk306, hk307⟩
     ·
      rw [hc128] at h127
      have hp308 : y104.ts > h := of_decide_eq_true hc128
      clear hc128
      refine co_true h127 rfl ?_
      refine wp_exit ?_
      refine co_thenX ?_
      refine co_blockX ?_
      refine co_then ?_
      refine co_reg ?_
      refine pk0 (v := .int .i64 (((j : Nat) : Int) - 1)) h127 rfl fun a309 h309 => ?_; clear h127
      refine pk (v := .int .i64 ((((j : Nat) : Int) - 1) - 1)) h309 rfl (rn_arith rfl rfl rfl rfl rfl rfl (IntWalk.i64_in _ (by omega))) fun a310 h310 => ?_; clear h309
      refine pk0 (v := .int .i64 ((((j : Nat) : Int) - 1) - 1)) h310 rfl fun a311 h311 => ?_; clear h310
      refine pl_nil ?_
      refine co_then ?_
      refine ⟨(0 + (j - 1)), by omega, ?_⟩
      have hq0 : ltE h y104 = false := ltE_f (by omega)
      exact ⟨(j - 1), Lk, h311.sub ⟨rfl, rfl, rfl, (slot_eq rfl (congrArg (Value.int .i64) (by first | exact gT_M | (rw [hgj]; exact gT_no (by omega) (by omega) (by omega) (by assumption) (by assumption) hq0) | (rw [hgj]; exact gT_yes (by omega) (by omega) (by omega) (by assumption) (by assumption) hq0 (by omega) (by omega))))), rfl, (slot_eq rfl (congrArg (Value.int .i64) (by first | rfl | omega))), trivial⟩, rfl, by omega, by first | exact thS_M _ (by omega) | exact th_no (by omega) (by omega) (by omega) (by assumption) (by assumption) hq0 | exact th_yes (by omega) (by omega) (by omega) (by assumption) (by assumption) hq0 (by simp only [e0, htk]), hf80, hf81, hf82, (hf83.toE (by first | exact fT_M | exact fT_no (by omega) (by omega) (by omega) (by assumption : Lk.map e0 = (thS L h Mn j).map e0) hy104 hq0 | exact fT_yes (by omega) (by omega) (by omega) (by assumption : Lk.map e0 = (thS L h Mn j).map e0) hy104 hq0 (by omega))), hB84, hk85, hk86⟩
    ·
     rw [hc119] at h118
     have hp312 : y104.ts = 0 := by first | simpa using hc119 | simpa [and_assoc] using hc119
     clear hc119
     refine psk h118 rfl fun a313 h313 => ?_; clear h118
     refine psk h313 rfl fun a314 h314 => ?_; clear h313
     refine psk h314 rfl fun a315 h315 => ?_; clear h314
     refine psk h315 rfl fun a316 h316 => ?_; clear h315
     refine psk h316 rfl fun a317 h317 => ?_; clear h316
     refine psk h317 rfl fun a318 h318 => ?_; clear h317
     refine pk0 (v := .bool true) h318 rfl fun a319 h319 => ?_; clear h318
     refine pl_nil ?_
     refine co_then ?_
     refine co_true h319 rfl ?_
     refine wp_exit ?_
     refine co_thenX ?_
     refine co_blockX ?_
     refine co_then ?_
     refine co_reg ?_
     refine pk0 (v := .int .i64 (((j : Nat) : Int) - 1)) h319 rfl fun a320 h320 => ?_; clear h319
     refine pk (v := .int .i64 ((((j : Nat) : Int) - 1) - 1)) h320 rfl (rn_arith rfl rfl rfl rfl rfl rfl (IntWalk.i64_in _ (by omega))) fun a321 h321 => ?_; clear h320
     refine pk0 (v := .int .i64 ((((j : Nat) : Int) - 1) - 1)) h321 rfl fun a322 h322 => ?_; clear h321
     refine pl_nil ?_
     refine co_then ?_
     refine ⟨(0 + (j - 1)), by omega, ?_⟩
     have hq0 : ltE h y104 = false := ltE_f (by omega)
     exact ⟨(j - 1), Lk, h322.sub ⟨rfl, rfl, rfl, (slot_eq rfl (congrArg (Value.int .i64) (by first | exact gT_M | (rw [hgj]; exact gT_no (by omega) (by omega) (by omega) (by assumption) (by assumption) hq0) | (rw [hgj]; exact gT_yes (by omega) (by omega) (by omega) (by assumption) (by assumption) hq0 (by omega) (by omega))))), rfl, (slot_eq rfl (congrArg (Value.int .i64) (by first | rfl | omega))), trivial⟩, rfl, by omega, by first | exact thS_M _ (by omega) | exact th_no (by omega) (by omega) (by omega) (by assumption) (by assumption) hq0 | exact th_yes (by omega) (by omega) (by omega) (by assumption) (by assumption) hq0 (by simp only [e0, htk]), hf80, hf81, hf82, (hf83.toE (by first | exact fT_M | exact fT_no (by omega) (by omega) (by omega) (by assumption : Lk.map e0 = (thS L h Mn j).map e0) hy104 hq0 | exact fT_yes (by omega) (by omega) (by omega) (by assumption : Lk.map e0 = (thS L h Mn j).map e0) hy104 hq0 (by omega))), hB84, hk85, hk86⟩
end Go.Proofs.Ytniojcnkjehflaa
