/- Put together: RlgCRv, RlgDRv. Conditions: as each says. -/
import Derived.Test.YtkjnhghniopnoaaRw2
/- Package rlog: Set. Conditions: at most 100 entries, 20 operations each. -/
namespace Go.Proofs.Ytkjnhghniopnoaa
open Go.RowKit Go.PlainAid
set_option linter.unusedVariables false


def setE (L : List EntT) (i : Int) (c r : Int) (l : List OpT) (ts : Int) : Int :=
  if i < 0 ∨ (L.length : Int) < i then 1 else if chkB c r l ≠ 0 then chkB c r l else if 100 ≤ i then 6
  else if (findN (L.take i.toNat) (c, r)).isSome = true then 18 else if badT (L.take i.toNat) (EntT.mk c r (.slice none 0 0) l ts) = true then 18 else 0
/-- What the entries are behind Set. -/
def SetR (L : List EntT) (i : Int) (c r : Int) (l : List OpT) (ts : Int) (L' : List EntT) : Prop :=
  (setE L i c r l ts ≠ 0 ∧ L' = L) ∨ (setE L i c r l ts = 0 ∧ (((L[i.toNat]?).map nmE = some (c, r) ∧ L' = restF L i.toNat ts) ∨ (¬ (L[i.toNat]?).map nmE = some (c, r) ∧ ∃ v', L' = L.take i.toNat ++ [EntT.mk c r v' l ts])))
section
variable {L : List EntT} {i c r ts : Int} {l : List OpT} {v : Value} {f : Int}
theorem setE_a (h : i < 0 ∨ (L.length : Int) < i) : setE L i c r l ts = 1 := by unfold setE; rw [if_pos h]
theorem setE_b (h : ¬ (i < 0 ∨ (L.length : Int) < i)) (hc : chkB c r l ≠ 0) : setE L i c r l ts = chkB c r l := by unfold setE; rw [if_neg h, if_pos hc]
theorem setE_c (h : ¬ (i < 0 ∨ (L.length : Int) < i)) (hc : ¬ chkB c r l ≠ 0) (h6 : 100 ≤ i) : setE L i c r l ts = 6 := by unfold setE; rw [if_neg h, if_neg hc, if_pos h6]
theorem setE_d (h : ¬ (i < 0 ∨ (L.length : Int) < i)) (hc : ¬ chkB c r l ≠ 0) (h6 : ¬ 100 ≤ i) (hb : (findN L (c, r)).isSome = true) (hf : (findN L (c, r)).getD 0 = f) (hlt : f < i) : setE L i c r l ts = 18 := by
  have := findN_lt (j := i.toNat) hb hf (by omega)
  unfold setE; rw [if_neg h, if_neg hc, if_neg h6, if_pos this]
theorem setE_n (h : ¬ (i < 0 ∨ (L.length : Int) < i)) (hf : (findN L (c, r)).getD 0 = f) (hn : (findN L (c, r)).isSome = false ∨ ¬ f < i) : findN (L.take i.toNat) (c, r) = none := findN_ge hf (by
  rcases hn with hn | hn
  · exact .inl hn
  · exact .inr (by omega))
theorem setE_e (h : ¬ (i < 0 ∨ (L.length : Int) < i)) (hc : ¬ chkB c r l ≠ 0) (h6 : ¬ 100 ≤ i) (hn : findN (L.take i.toNat) (c, r) = none) (hb : badT (L.take i.toNat) (EntT.mk c r v l ts) = true) : setE L i c r l ts = 18 := by
  have hb' : badT (L.take i.toNat) (EntT.mk c r (.slice none 0 0) l ts) = true := hb
  unfold setE; rw [if_neg h, if_neg hc, if_neg h6, if_neg (by rw [hn]; simp), if_pos hb']
theorem setE_f (h : ¬ (i < 0 ∨ (L.length : Int) < i)) (hc : ¬ chkB c r l ≠ 0) (h6 : ¬ 100 ≤ i) (hn : findN (L.take i.toNat) (c, r) = none) (hb : badT (L.take i.toNat) (EntT.mk c r v l ts) = false) : setE L i c r l ts = 0 := by
  have hb' : ¬ badT (L.take i.toNat) (EntT.mk c r (.slice none 0 0) l ts) = true := fun e => by rw [show badT (L.take i.toNat) (EntT.mk c r (.slice none 0 0) l ts) = false from hb] at e; cases e
  unfold setE; rw [if_neg h, if_neg hc, if_neg h6, if_neg (by rw [hn]; simp), if_neg hb']
theorem findN_atl {L : List EntT} {k : Int × Int} {j : Nat} (h : (L[j]?).map nmE = some k) : j < L.length := by
  rw [Option.map_eq_some_iff] at h
  obtain ⟨y, hy, _⟩ := h
  exact (List.getElem?_eq_some_iff.1 hy).1
theorem SetR.same (h : setE L i c r l ts ≠ 0) : SetR L i c r l ts L := .inl ⟨h, rfl⟩
theorem badM_0 {l : List EntT} {i : Nat} {y : EntT} (h : i = 0) : badT (l.take i) y = false := by subst h; simp [badT]
end

set_option maxRecDepth 100000 in
set_option maxHeartbeats 3200000 in
theorem lSet_any (w0 : World) (S : Nat → Prop) (b : Nat) (M : Nat) (u : Value) (L : List EntT) (i : Int) (c : Int) (r : Int) (v : Value) (l : List OpT) (ts : Int) (w : World) (hbw : But S w0 w) (hO : LgP S w0.heap.size w b M u L) (hs : SliceOf opE 3 w0 v l) (hvS : l ≠ [] → ∀ k, v.ownBlock = some k → ¬ S k) (hlen : l.length ≤ 20) (hts : 0 ≤ ts ∧ ts < 18446744073709551616) (hen : (∀ o ∈ l, opOk o) ∧ (Lit.int .i64 c).wf = true ∧ (Lit.int .i64 r).wf = true) :
    Calls Try.prog 34 #[pt b 0, .int .i64 i, .agg #[.int .i64 c, .int .i64 r, v, .int .u64 ts]] w fun e w' => ∃ (u' : Value) (L' : List EntT), e = .returned (.int .i64 (setE L i c r l ts)) ∧ LgP S w0.heap.size w' b M u' L' ∧ SetR L i c r l ts L' ∧ But (S) w0 w' := by
 have hB0 := hbw
 have hz0 := hbw.size
 have hz0 := hbw.size
 have hl3 := hO.blk.lt; obtain ⟨c1, hm2⟩ := hO.map; have hl4 := hm2.lt; have hne5 := blk_ne_mapN hO.blk hm2; have hln6 := hO.len
 have hln0 := sl_len hs
 rcases Int.lt_or_le i 0 with hneg | hpos
 · skip
   refine co_enter (n := 96) Try.func34 rfl rfl rfl [(0, pt b 0), (1, .int .i64 i), (2, .agg #[.int .i64 c, .int .i64 r, v, .int .u64 ts])] rfl (fun a h0 => ?_)
   refine co_seq ?_
   refine co_reg ?_
   refine pw h0 rfl (op_new (v := fun N => pt N 0) (T := 40) (cs := #[.int .i64 c, .int .i64 r, v, .int .u64 ts]) (by kernel_rfl) (by kernel_rfl) (by kernel_rfl)) ?_; clear h0
   rintro _ w8 a7 ⟨N9, rfl, hN12, hz13, hk11, hg10⟩ h7
   have ha14 := row_fresh hO.row hN12
   have hu15 := row_under hO.row hN12
   have hz16 := hg10.size
   try dsimp only at h7
   refine pk0 (v := .int .i64 0) h7 rfl fun a17 h17 => ?_; clear h7
   refine pl_nil ?_
   refine co_then ?_
   refine co_seq ?_
   refine co_seq ?_
   refine co_reg ?_
   refine pk0 (v := pt b 0) h17 rfl fun a18 h18 => ?_; clear h17
   have hk21 := hO.blk.kept hg10 (by simp)
   refine pw h18 rfl (op_call (args := #[pt b 0]) (R := fun res xw => res = .bool false ∧ w8 = xw) rfl rfl rfl (by kernel_rfl) (by kernel_rfl) (Try.call61 _ _) (lzero_any b M u w8 hk21) (by rintro e x ⟨rfl, rfl⟩; exact ⟨_, rfl, ⟨rfl, rfl⟩⟩)) ?_; clear h18
   rintro _ _ a19 ⟨rfl, rfl⟩ h19
   refine pl_nil ?_
   refine co_then ?_
   refine co_false h19 rfl ?_
   refine wp_skip ?_
   refine co_then ?_
   refine co_seq ?_
   refine co_seq ?_
   refine co_reg ?_
   refine pk0 (v := .int .i64 i) h19 rfl fun a23 h23 => ?_; clear h19
   refine pk0 (v := .bool (decide (i < 0))) h23 rfl fun a24 h24 => ?_; clear h23
   refine pk0 (v := .bool (decide (i < 0))) h24 rfl fun a25 h25 => ?_; clear h24
   have hc26 : (decide (i < 0)) = true := decide_eq_true (by omega)
   rw [hc26] at h25; clear hc26
   refine psk h25 rfl fun a27 h27 => ?_; clear h25
   refine psk h27 rfl fun a28 h28 => ?_; clear h27
   refine psk h28 rfl fun a29 h29 => ?_; clear h28
   refine psk h29 rfl fun a30 h30 => ?_; clear h29
   refine psk h30 rfl fun a31 h31 => ?_; clear h30
   refine psk h31 rfl fun a32 h32 => ?_; clear h31
   refine psk h32 rfl fun a33 h33 => ?_; clear h32
   refine pk0 (v := .bool true) h33 rfl fun a34 h34 => ?_; clear h33
   refine pl_nil ?_
   refine co_then ?_
   refine co_true h34 rfl ?_
   refine co_seq ?_
   refine co_reg ?_
   refine pk0 (v := .int .i64 1) h34 rfl fun a35 h35 => ?_; clear h34
   refine pl_nil ?_
   refine co_then ?_
   refine wp_ret ?_
   refine co_thenR ?_
   refine co_ret1 h35 rfl rfl ?_
   have hM36 := hm2.kept hg10 (by simp)
   have hr37 := row_kept_new hO.row hg10
   have hE38 := hO.ents.new hg10
   have hB39 := fbU_new hB0 hg10
   have hE : setE L i c r l ts = 1 := setE_a (by omega)
   exact ⟨_, _, ret_int hE.symm, ⟨hk21, ⟨_, hM36⟩, hr37, hE38, hO.sb, hO.sM, hO.su, hO.uq, hO.len⟩, .same (by rw [hE]; omega), hB39⟩
 · obtain ⟨j, rfl⟩ : ∃ j : Nat, i = (j : Int) := ⟨i.toNat, by omega⟩
   refine co_enter (n := 96) Try.func34 rfl rfl rfl [(0, pt b 0), (1, .int .i64 ((j : Nat) : Int)), (2, .agg #[.int .i64 c, .int .i64 r, v, .int .u64 ts])] rfl (fun a h0 => ?_)
   refine co_seq ?_
   refine co_reg ?_
   refine pw h0 rfl (op_new (v := fun N => pt N 0) (T := 40) (cs := #[.int .i64 c, .int .i64 r, v, .int .u64 ts]) (by kernel_rfl) (by kernel_rfl) (by kernel_rfl)) ?_; clear h0
   rintro _ w41 a40 ⟨N42, rfl, hN45, hz46, hk44, hg43⟩ h40
   have ha47 := row_fresh hO.row hN45
   have hu48 := row_under hO.row hN45
   have hz49 := hg43.size
   try dsimp only at h40
   refine pk0 (v := .int .i64 0) h40 rfl fun a50 h50 => ?_; clear h40
   refine pl_nil ?_
   refine co_then ?_
   refine co_seq ?_
   refine co_seq ?_
   refine co_reg ?_
   refine pk0 (v := pt b 0) h50 rfl fun a51 h51 => ?_; clear h50
   have hk54 := hO.blk.kept hg43 (by simp)
   refine pw h51 rfl (op_call (args := #[pt b 0]) (R := fun res xw => res = .bool false ∧ w41 = xw) rfl rfl rfl (by kernel_rfl) (by kernel_rfl) (Try.call61 _ _) (lzero_any b M u w41 hk54) (by rintro e x ⟨rfl, rfl⟩; exact ⟨_, rfl, ⟨rfl, rfl⟩⟩)) ?_; clear h51
   rintro _ _ a52 ⟨rfl, rfl⟩ h52
   refine pl_nil ?_
   refine co_then ?_
   refine co_false h52 rfl ?_
   refine wp_skip ?_
   refine co_then ?_
   refine co_seq ?_
   refine co_seq ?_
   refine co_reg ?_
   refine pk0 (v := .int .i64 ((j : Nat) : Int)) h52 rfl fun a56 h56 => ?_; clear h52
   refine pk0 (v := .bool (decide (((j : Nat) : Int) < 0))) h56 rfl fun a57 h57 => ?_; clear h56
   refine pk0 (v := .bool (decide (((j : Nat) : Int) < 0))) h57 rfl fun a58 h58 => ?_; clear h57
   have hc59 : (decide (((j : Nat) : Int) < 0)) = false := decide_eq_false (by omega)
   rw [hc59] at h58; clear hc59
   refine pk0 (v := .int .i64 ((j : Nat) : Int)) h58 rfl fun a60 h60 => ?_; clear h58
   refine pk0 (v := pt b 0) h60 rfl fun a61 h61 => ?_; clear h60
   refine pk0 (v := pt b 0) h61 rfl fun a62 h62 => ?_; clear h61
   refine pk0 (v := pt b 1) h62 rfl fun a63 h63 => ?_; clear h62
   refine pk (v := u) h63 rfl (rn_load1 rfl rfl Try.isAgg48 (hk54.cell rfl)) fun a64 h64 => ?_; clear h63
   have hr65 := row_kept_new hO.row hg43
   refine pk (v := .int .i64 ((L.length : Nat) : Int)) h64 rfl (rn_lenOwn rfl rfl Try.underlying48 hr65) fun a66 h66 => ?_; clear h64
   refine pk0 (v := .bool (decide (((j : Nat) : Int) > ((L.length : Nat) : Int)))) h66 rfl fun a67 h67 => ?_; clear h66
   refine pk0 (v := .bool (decide (((j : Nat) : Int) > ((L.length : Nat) : Int)))) h67 rfl fun a68 h68 => ?_; clear h67
   refine pl_nil ?_
   refine co_then ?_
   have hB70 := fbU_new hB0 hg43
   cases hc69 : (decide (((j : Nat) : Int) > ((L.length : Nat) : Int)))
   ·
    rw [hc69] at h68
    have hp71 : ¬ (((j : Nat) : Int) > ((L.length : Nat) : Int)) := of_decide_eq_false hc69
    clear hc69
    refine co_false h68 rfl ?_
    refine wp_skip ?_
    refine co_then ?_
    refine co_seq ?_
    refine co_seq ?_
    refine co_reg ?_
    refine pk (v := .agg #[.int .i64 c, .int .i64 r, v, .int .u64 ts]) h68 rfl (rn_loadN rfl rfl Try.underlying40 rfl (by kernel_rfl) hk44.all) fun a72 h72 => ?_; clear h68
    refine pw h72 rfl (op_call (args := #[.agg #[.int .i64 c, .int .i64 r, v, .int .u64 ts]]) (R := fun res xw => res = .int .i64 (chkB c r l) ∧ Below w41.heap.size w41 xw) rfl rfl rfl (by kernel_rfl) (by kernel_rfl) (Try.call59 _ _) (itemCheck_any c r v l ts w41 (sl_butN hs hB70 hvS)) (by rintro e x ⟨rfl, hb75⟩; exact ⟨_, rfl, ⟨rfl, hb75⟩⟩)) ?_; clear h72
    rintro _ w74 a73 ⟨rfl, hb75⟩ h73
    have hz76 := hb75.size
    refine pk0 (v := .int .i64 (chkB c r l)) h73 rfl fun a77 h77 => ?_; clear h73
    refine pl_nil ?_
    refine co_then ?_
    refine co_seq ?_
    refine co_reg ?_
    refine pk0 (v := .int .i64 (chkB c r l)) h77 rfl fun a78 h78 => ?_; clear h77
    refine pk0 (v := .bool (chkB c r l != 0)) h78 rfl fun a79 h79 => ?_; clear h78
    refine pl_nil ?_
    refine co_then ?_
    have hB81 := fbU_call hB70 hb75
    have hM82 := hm2.kept hg43 (by simp)
    have hM83 := hM82.kept (below_grown hb75) (by simp)
    have hE84 := hO.ents.new hg43
    have hE85 := hE84.new (below_grown hb75)
    cases hc80 : (chkB c r l != 0)
    ·
     rw [hc80] at h79
     have hp86 : ¬ (chkB c r l ≠ 0) := by first | simpa using hc80 | simpa [and_assoc] using hc80
     clear hc80
     refine co_false h79 rfl ?_
     refine wp_skip ?_
     refine co_then ?_
     refine co_seq ?_
     refine co_seq ?_
     refine co_reg ?_
     refine pk0 (v := .int .i64 ((j : Nat) : Int)) h79 rfl fun a87 h87 => ?_; clear h79
     refine pk0 (v := .bool (decide (((j : Nat) : Int) ≥ 100))) h87 rfl fun a88 h88 => ?_; clear h87
     refine pl_nil ?_
     refine co_then ?_
     cases hc89 : (decide (((j : Nat) : Int) ≥ 100))
     ·
      rw [hc89] at h88
      have hp90 : ¬ (((j : Nat) : Int) ≥ 100) := of_decide_eq_false hc89
      clear hc89
      refine co_false h88 rfl ?_
      refine wp_skip ?_
      refine co_then ?_
      refine co_seq ?_
      refine dr_gen (fun x => But (S) w0 x ∧ Blk x b 114 #[.bool true, u, .map (some M)] ∧ Blk x N42 40 #[.int .i64 c, .int .i64 r, v, .int .u64 ts]) (by kernel_rfl) (fun w91 hg92 => ?_) (fun w91 hg92 => ?_)
      ·
       have hz93 := hg92.size
       have hB94 := fbU_new hB81 hg92
       have hk95 := hk54.below hb75
       have hk96 := hk95.kept hg92 (by simp)
       have hk97 := hk44.below hb75
       have hk98 := hk97.kept hg92 (by simp)
       exact ⟨hB94, hk96, hk98⟩
      have hz99 := hg92.size
      have hB100 := fbU_new hB81 hg92
      have hk101 := hk54.below hb75
      have hk102 := hk101.kept hg92 (by simp)
      have hk103 := hk44.below hb75
      have hk104 := hk103.kept hg92 (by simp)
      refine dk0 0 (v := pt b 0) h88 rfl rfl ⟨hB100, hk102, hk104⟩ fun a105 h105 => ?_; clear h88
      refine dk0 1 (v := pt b 0) h105 rfl rfl ⟨hB100, hk102, hk104⟩ fun a106 h106 => ?_; clear h105
      refine dk0 2 (v := pt b 2) h106 rfl rfl ⟨hB100, hk102, hk104⟩ fun a107 h107 => ?_; clear h106
      refine dk 3 (v := .map (some M)) h107 rfl rfl ⟨hB100, hk102, hk104⟩ (fun x hx => (rn_load1 rfl rfl Try.isAgg112 (hx.2.1.cell rfl))) fun a108 h108 => ?_; clear h107
      refine dk 4 (v := .agg #[.int .i64 c, .int .i64 r, v, .int .u64 ts]) h108 rfl rfl ⟨hB100, hk102, hk104⟩ (fun x hx => (rn_loadN rfl rfl Try.underlying40 rfl (by kernel_rfl) hx.2.2.all)) fun a109 h109 => ?_; clear h108
      refine dr_many [5, 10] (by kernel_rfl) (by simp) ⟨?_, ?_, trivial⟩
      ·
       refine dr_op (i := 5) h109 rfl rfl rfl rfl (op_call (args := #[.agg #[.int .i64 c, .int .i64 r, v, .int .u64 ts]]) (R := fun res xw => res = .agg #[.int .i64 c, .int .i64 r] ∧ Below w91.heap.size w91 xw) rfl rfl rfl (by kernel_rfl) (by kernel_rfl) (Try.call62 _ _) (lname_any c r v ts w91 ) (by rintro e x ⟨rfl, hb112⟩; exact ⟨_, rfl, ⟨rfl, hb112⟩⟩)) ?_ ?_; clear h109
       ·
        rintro _ w111 ⟨rfl, hb112⟩
        have hz113 := hb112.size
        have hB114 := fbU_call hB100 hb112
        have hk115 := hk102.below hb112
        have hk116 := hk104.below hb112
        exact ⟨hB114, hk115, hk116⟩
       rintro _ w111 a110 ⟨rfl, hb112⟩ h110
       have hz113 := hb112.size
       have hB114 := fbU_call hB100 hb112
       have hk115 := hk102.below hb112
       have hk116 := hk104.below hb112
       refine dr_many [6, 10] (by kernel_rfl) (by simp) ⟨?_, ?_, trivial⟩
       ·
        have hM121 := hM83.kept hg92 (by simp)
        have hM122 := hM121.kept (below_grown hb112) (by simp)
        obtain ⟨f117, hf118⟩ : ∃ z, ((findN L) (c, r)).getD (0 : Int) = z := ⟨_, rfl⟩
        obtain ⟨b119, hb120⟩ : ∃ z, ((findN L) (c, r)).isSome = z := ⟨_, rfl⟩
        refine dr_opVal (i := 6) (v := .tuple #[.agg #[.int .i64 f117], .bool b119]) h110 rfl rfl rfl rfl (by kernel_rfl) rfl (rn_lookOT (a := (c, r)) (f := f117) (b := b119) nm_kl rfl rfl rfl Try.underlying112 spot_z hM122 hf118 hb120) ⟨hB114, hk115, hk116⟩ (fun a123 h123 => ?_); clear h110
        refine dk0 7 (v := .tuple #[.agg #[.int .i64 f117], .bool b119]) h123 rfl rfl ⟨hB114, hk115, hk116⟩ fun a124 h124 => ?_; clear h123
        refine dk0 8 (v := .agg #[.int .i64 f117]) h124 rfl rfl ⟨hB114, hk115, hk116⟩ fun a125 h125 => ?_; clear h124
        refine dk0 9 (v := .bool b119) h125 rfl rfl ⟨hB114, hk115, hk116⟩ fun a126 h126 => ?_; clear h125
        refine d1 10 h126 rfl rfl (op_new (v := fun N => pt N 0) (T := 124) (cs := #[.int .i64 0]) (by kernel_rfl) (by kernel_rfl) (by kernel_rfl)) ?_ ?_; clear h126
        ·
         rintro _ w128 ⟨N129, rfl, hN132, hz133, hk131, hg130⟩
         have hr135 := row_kept_new hr65 (below_grown hb75)
         have hr136 := row_kept_new hr135 hg92
         have hr137 := row_kept_new hr136 (below_grown hb112)
         have ha134 := row_fresh hr137 hN132
         have hu138 := row_under hr137 hN132
         have hz139 := hg130.size
         have hB140 := fbU_new hB114 hg130
         have hk141 := hk115.kept hg130 (by simp)
         have hk142 := hk116.kept hg130 (by simp)
         exact ⟨hB140, hk141, hk142⟩
        rintro _ w128 a127 ⟨N129, rfl, hN132, hz133, hk131, hg130⟩ h127
        have hr135 := row_kept_new hr65 (below_grown hb75)
        have hr136 := row_kept_new hr135 hg92
        have hr137 := row_kept_new hr136 (below_grown hb112)
        have ha134 := row_fresh hr137 hN132
        have hu138 := row_under hr137 hN132
        have hz139 := hg130.size
        try dsimp only at h127
        have hB140 := fbU_new hB114 hg130
        have hk141 := hk115.kept hg130 (by simp)
        have hk142 := hk116.kept hg130 (by simp)
        refine d1D 11 h127 rfl rfl (op_storeN rfl rfl rfl (by kernel_rfl) (by kernel_rfl) hk131 rfl) ?_ ?_; clear h127
        ·
         rintro _ w144 ⟨hk145, hz146, hg147⟩
         have hk145' : Blk w144 N129 124 #[.int .i64 f117] := hk145; clear hk145
         have hz148 := hg147.size
         have hB149 := fbU_at hB140 hg147 (fun hlt => absurd hlt (by omega))
         have hk150 := hk141.kept hg147 (by simp; omega)
         have hk151 := hk142.kept hg147 (by simp; omega)
         exact ⟨hB149, hk150, hk151⟩
        rintro _ w144 a143 ⟨hk145, hz146, hg147⟩ h143
        have hk145' : Blk w144 N129 124 #[.int .i64 f117] := hk145; clear hk145
        have hz148 := hg147.size
        have hB149 := fbU_at hB140 hg147 (fun hlt => absurd hlt (by omega))
        have hk150 := hk141.kept hg147 (by simp; omega)
        have hk151 := hk142.kept hg147 (by simp; omega)
        refine dk0 12 (v := .bool b119) h143 rfl rfl ⟨hB149, hk150, hk151⟩ fun a152 h152 => ?_; clear h143
        refine dr_done (by kernel_rfl) ?_
        refine co_then ?_
        refine co_seq ?_
        refine co_seq ?_
        refine co_reg ?_
        refine pk0 (v := .bool b119) h152 rfl fun a153 h153 => ?_; clear h152
        refine pk0 (v := .bool b119) h153 rfl fun a154 h154 => ?_; clear h153
        have hM156 := hM122.kept hg130 (by simp)
        have hM157 := hM156.kept hg147 (by simp; omega)
        have hr158 := row_kept_new hr137 hg130
        have hr159 := row_kept_at hr158 hg147 (ha134)
        have hE160 := hE85.new hg92
        have hE161 := hE160.new (below_grown hb112)
        have hE162 := hE161.new hg130
        have hE163 := hE162.blk hk131 (by decide) hg147
        cases hc155 : (b119)
        ·
         rw [hc155] at h154
         refine psk h154 rfl fun a164 h164 => ?_; clear h154
         refine psk h164 rfl fun a165 h165 => ?_; clear h164
         refine psk h165 rfl fun a166 h166 => ?_; clear h165
         refine psk h166 rfl fun a167 h167 => ?_; clear h166
         refine pk0 (v := .bool false) h167 rfl fun a168 h168 => ?_; clear h167
         refine pl_nil ?_
         refine co_then ?_
         refine co_false h168 rfl ?_
         refine wp_skip ?_
         refine co_then ?_
         refine co_seq ?_
         refine co_seq ?_
         refine dr_eq (by kernel_rfl) (fun w169 hg170 => ?_)
         have hz171 := hg170.size
         refine dk0 0 (v := pt N42 3) h168 rfl rfl rfl fun a172 h172 => ?_; clear h168
         have hk173 := hk151.kept hg170 (by simp)
         refine dk 1 (v := .int .u64 ts) h172 rfl rfl rfl (fun x hx => by subst hx; exact (rn_load1 rfl rfl Try.isAgg27 (hk173.cell rfl))) fun a174 h174 => ?_; clear h172
         refine dk0 2 (v := .bool (ts != 0)) h174 rfl rfl rfl fun a175 h175 => ?_; clear h174
         refine dk0 3 (v := .bool (ts != 0)) h175 rfl rfl rfl fun a176 h176 => ?_; clear h175
         have hB178 := fbU_new hB149 hg170
         cases hc177 : (ts != 0)
         ·
          rw [hc177] at h176
          have hp179 : ¬ (ts ≠ 0) := by first | simpa using hc177 | simpa [and_assoc] using hc177
          clear hc177
          refine dsk 4 h176 rfl rfl rfl fun a180 h180 => ?_; clear h176
          refine dsk 5 h180 rfl rfl rfl fun a181 h181 => ?_; clear h180
          refine dk0 6 (v := .bool false) h181 rfl rfl rfl fun a182 h182 => ?_; clear h181
          refine dk0 7 (v := .bool false) h182 rfl rfl rfl fun a183 h183 => ?_; clear h182
          refine dsk 8 h183 rfl rfl rfl fun a184 h184 => ?_; clear h183
          refine dsk 9 h184 rfl rfl rfl fun a185 h185 => ?_; clear h184
          refine dsk 10 h185 rfl rfl rfl fun a186 h186 => ?_; clear h185
          refine dsk 11 h186 rfl rfl rfl fun a187 h187 => ?_; clear h186
          refine dsk 12 h187 rfl rfl rfl fun a188 h188 => ?_; clear h187
          refine dsk 13 h188 rfl rfl rfl fun a189 h189 => ?_; clear h188
          refine dsk 14 h189 rfl rfl rfl fun a190 h190 => ?_; clear h189
          refine dsk 15 h190 rfl rfl rfl fun a191 h191 => ?_; clear h190
          refine dsk 16 h191 rfl rfl rfl fun a192 h192 => ?_; clear h191
          refine dsk 17 h192 rfl rfl rfl fun a193 h193 => ?_; clear h192
          refine dsk 18 h193 rfl rfl rfl fun a194 h194 => ?_; clear h193
          refine dsk 19 h194 rfl rfl rfl fun a195 h195 => ?_; clear h194
          refine dsk 20 h195 rfl rfl rfl fun a196 h196 => ?_; clear h195
          refine dsk 21 h196 rfl rfl rfl fun a197 h197 => ?_; clear h196
          refine dsk 22 h197 rfl rfl rfl fun a198 h198 => ?_; clear h197
          refine dsk 23 h198 rfl rfl rfl fun a199 h199 => ?_; clear h198
          refine dsk 24 h199 rfl rfl rfl fun a200 h200 => ?_; clear h199
          refine dsk 25 h200 rfl rfl rfl fun a201 h201 => ?_; clear h200
          refine dsk 26 h201 rfl rfl rfl fun a202 h202 => ?_; clear h201
          refine dsk 27 h202 rfl rfl rfl fun a203 h203 => ?_; clear h202
          refine dsk 28 h203 rfl rfl rfl fun a204 h204 => ?_; clear h203
          refine dsk 29 h204 rfl rfl rfl fun a205 h205 => ?_; clear h204
          refine dsk 30 h205 rfl rfl rfl fun a206 h206 => ?_; clear h205
          refine dsk 31 h206 rfl rfl rfl fun a207 h207 => ?_; clear h206
          refine dk0 32 (v := .bool false) h207 rfl rfl rfl fun a208 h208 => ?_; clear h207
          refine dr_done (by kernel_rfl) ?_
          refine co_then ?_
          refine co_false h208 rfl ?_
          refine wp_skip ?_
          refine co_then ?_
          refine co_seq ?_
          refine co_seq ?_
          refine co_reg ?_
          refine pk0 (v := .bool false) h208 rfl fun a209 h209 => ?_; clear h208
          refine pk0 (v := .bool false) h209 rfl fun a210 h210 => ?_; clear h209
          refine psk h210 rfl fun a211 h211 => ?_; clear h210
          refine psk h211 rfl fun a212 h212 => ?_; clear h211
          refine psk h212 rfl fun a213 h213 => ?_; clear h212
          refine psk h213 rfl fun a214 h214 => ?_; clear h213
          refine pk0 (v := .bool false) h214 rfl fun a215 h215 => ?_; clear h214
          refine pl_nil ?_
          refine co_then ?_
          refine co_false h215 rfl ?_
          refine co_reg ?_
          refine pk0 (v := pt b 0) h215 rfl fun a216 h216 => ?_; clear h215
          refine pk0 (v := .int .i64 ((j : Nat) : Int)) h216 rfl fun a217 h217 => ?_; clear h216
          refine pk (v := .agg #[.int .i64 c, .int .i64 r, v, .int .u64 ts]) h217 rfl (rn_loadN rfl rfl Try.underlying40 rfl (by kernel_rfl) hk173.all) fun a218 h218 => ?_; clear h217
          have hbad : badT (L.take ((j : Int) : Int).toNat) (EntT.mk c r (.slice none 0 0) l ts) = false := by first | exact bad_ts (by simp only []; omega) | exact badM_0 (by omega)
          have hnn := setE_n (i := ((j : Nat) : Int)) (by omega) (by assumption : (findN L (c, r)).getD 0 = _) (by first | exact .inl (hb120.trans hc155) | exact .inr (by omega))
          have hM225 := hM157.kept hg170 (by simp)
          have hr226 := row_kept_new hr159 hg170
          have hE227 := hE163.new hg170
          have hk228 := hk150.kept hg170 (by simp)
          refine pw h218 rfl (op_call (args := #[pt b 0, .int .i64 ((j : Nat) : Int), .agg #[.int .i64 c, .int .i64 r, v, .int .u64 ts]]) (R := fun res xw => ∃ u2 v2, res = .tuple #[] ∧ LgP S w0.heap.size xw b M u2 (L.take ((j : Nat) : Int).toNat ++ [EntT.mk c r v2 l ts]) ∧ But (S) w0 xw) rfl rfl rfl (by kernel_rfl) (by kernel_rfl) (Try.call64 _ _) (lreplace_any w0 S b M u L ((j : Nat) : Int) c r v l ts w169 hB178 ⟨hk228, ⟨_, hM225⟩, hr226, hE227, hO.sb, hO.sM, hO.su, hO.uq, hO.len⟩ (by omega) hnn hs hvS hlen hts hen) (by rintro e x ⟨u2, v2, rfl, h1, _, h2⟩; exact ⟨_, rfl, u2, v2, rfl, h1, h2⟩)) ?_; clear h218
          rintro _ w220 a219 ⟨u223, v224, rfl, hO221, hB222⟩ h219
          refine pl_nil ?_
          refine co_then ?_
          refine co_seq ?_
          refine co_reg ?_
          refine pk0 (v := .int .i64 0) h219 rfl fun a229 h229 => ?_; clear h219
          refine pl_nil ?_
          refine co_then ?_
          refine wp_ret ?_
          refine co_ret1 h229 rfl rfl ?_
          have hb0 : badT (L.take ((j : Int) : Int).toNat) (EntT.mk c r (.slice none 0 0) l ts) = false := hbad
          have hE := setE_f (i := (j : Int)) (v := .slice none 0 0) (by omega) (by omega) (by omega) hnn hb0
          exact ⟨_, _, ret_int hE.symm, hO221, .inr ⟨hE, .inr ⟨findN_off (by assumption : (findN L (c, r)).getD 0 = _) hnn (by first | exact .inl (hb120.trans hc155) | exact .inr (by omega)), _, rfl⟩⟩, hB222⟩
         ·
          rw [hc177] at h176
          have hp230 : ts ≠ 0 := by first | simpa using hc177 | simpa [and_assoc] using hc177
          clear hc177
          refine dk0 4 (v := .int .i64 ((j : Nat) : Int)) h176 rfl rfl rfl fun a231 h231 => ?_; clear h176
          refine dk0 5 (v := .bool (decide (((j : Nat) : Int) > 0))) h231 rfl rfl rfl fun a232 h232 => ?_; clear h231
          refine dk0 6 (v := .bool (decide (((j : Nat) : Int) > 0))) h232 rfl rfl rfl fun a233 h233 => ?_; clear h232
          refine dk0 7 (v := .bool (decide (((j : Nat) : Int) > 0))) h233 rfl rfl rfl fun a234 h234 => ?_; clear h233
          cases hc235 : (decide (((j : Nat) : Int) > 0))
          ·
           rw [hc235] at h234
           have hp236 : ¬ (((j : Nat) : Int) > 0) := of_decide_eq_false hc235
           clear hc235
           refine dsk 8 h234 rfl rfl rfl fun a237 h237 => ?_; clear h234
           refine dsk 9 h237 rfl rfl rfl fun a238 h238 => ?_; clear h237
           refine dsk 10 h238 rfl rfl rfl fun a239 h239 => ?_; clear h238
           refine dsk 11 h239 rfl rfl rfl fun a240 h240 => ?_; clear h239
           refine dsk 12 h240 rfl rfl rfl fun a241 h241 => ?_; clear h240
           refine dsk 13 h241 rfl rfl rfl fun a242 h242 => ?_; clear h241
           refine dsk 14 h242 rfl rfl rfl fun a243 h243 => ?_; clear h242
           refine dsk 15 h243 rfl rfl rfl fun a244 h244 => ?_; clear h243
           refine dsk 16 h244 rfl rfl rfl fun a245 h245 => ?_; clear h244
           refine dsk 17 h245 rfl rfl rfl fun a246 h246 => ?_; clear h245
           refine dsk 18 h246 rfl rfl rfl fun a247 h247 => ?_; clear h246
           refine dsk 19 h247 rfl rfl rfl fun a248 h248 => ?_; clear h247
           refine dsk 20 h248 rfl rfl rfl fun a249 h249 => ?_; clear h248
           refine dsk 21 h249 rfl rfl rfl fun a250 h250 => ?_; clear h249
           refine dsk 22 h250 rfl rfl rfl fun a251 h251 => ?_; clear h250
           refine dsk 23 h251 rfl rfl rfl fun a252 h252 => ?_; clear h251
           refine dsk 24 h252 rfl rfl rfl fun a253 h253 => ?_; clear h252
           refine dsk 25 h253 rfl rfl rfl fun a254 h254 => ?_; clear h253
           refine dsk 26 h254 rfl rfl rfl fun a255 h255 => ?_; clear h254
           refine dsk 27 h255 rfl rfl rfl fun a256 h256 => ?_; clear h255
           refine dsk 28 h256 rfl rfl rfl fun a257 h257 => ?_; clear h256
           refine dsk 29 h257 rfl rfl rfl fun a258 h258 => ?_; clear h257
           refine dsk 30 h258 rfl rfl rfl fun a259 h259 => ?_; clear h258
           refine dsk 31 h259 rfl rfl rfl fun a260 h260 => ?_; clear h259
           refine dk0 32 (v := .bool false) h260 rfl rfl rfl fun a261 h261 => ?_; clear h260
           refine dr_done (by kernel_rfl) ?_
           refine co_then ?_
           refine co_false h261 rfl ?_
           refine wp_skip ?_
           refine co_then ?_
           refine co_seq ?_
           refine co_seq ?_
           refine co_reg ?_
           refine pk0 (v := .bool false) h261 rfl fun a262 h262 => ?_; clear h261
           refine pk0 (v := .bool false) h262 rfl fun a263 h263 => ?_; clear h262
           refine psk h263 rfl fun a264 h264 => ?_; clear h263
           refine psk h264 rfl fun a265 h265 => ?_; clear h264
           refine psk h265 rfl fun a266 h266 => ?_; clear h265
           refine psk h266 rfl fun a267 h267 => ?_; clear h266
           refine pk0 (v := .bool false) h267 rfl fun a268 h268 => ?_; clear h267
           refine pl_nil ?_
           refine co_then ?_
           refine co_false h268 rfl ?_
           refine co_reg ?_
           refine pk0 (v := pt b 0) h268 rfl fun a269 h269 => ?_; clear h268
           refine pk0 (v := .int .i64 ((j : Nat) : Int)) h269 rfl fun a270 h270 => ?_; clear h269
           refine pk (v := .agg #[.int .i64 c, .int .i64 r, v, .int .u64 ts]) h270 rfl (rn_loadN rfl rfl Try.underlying40 rfl (by kernel_rfl) hk173.all) fun a271 h271 => ?_; clear h270
           have hbad : badT (L.take ((j : Int) : Int).toNat) (EntT.mk c r (.slice none 0 0) l ts) = false := by first | exact bad_ts (by simp only []; omega) | exact badM_0 (by omega)
           have hnn := setE_n (i := ((j : Nat) : Int)) (by omega) (by assumption : (findN L (c, r)).getD 0 = _) (by first | exact .inl (hb120.trans hc155) | exact .inr (by omega))
           have hM278 := hM157.kept hg170 (by simp)
           have hr279 := row_kept_new hr159 hg170
           have hE280 := hE163.new hg170
           have hk281 := hk150.kept hg170 (by simp)
           refine pw h271 rfl (op_call (args := #[pt b 0, .int .i64 ((j : Nat) : Int), .agg #[.int .i64 c, .int .i64 r, v, .int .u64 ts]]) (R := fun res xw => ∃ u2 v2, res = .tuple #[] ∧ LgP S w0.heap.size xw b M u2 (L.take ((j : Nat) : Int).toNat ++ [EntT.mk c r v2 l ts]) ∧ But (S) w0 xw) rfl rfl rfl (by kernel_rfl) (by kernel_rfl) (Try.call64 _ _) (lreplace_any w0 S b M u L ((j : Nat) : Int) c r v l ts w169 hB178 ⟨hk281, ⟨_, hM278⟩, hr279, hE280, hO.sb, hO.sM, hO.su, hO.uq, hO.len⟩ (by omega) hnn hs hvS hlen hts hen) (by rintro e x ⟨u2, v2, rfl, h1, _, h2⟩; exact ⟨_, rfl, u2, v2, rfl, h1, h2⟩)) ?_; clear h271
           rintro _ w273 a272 ⟨u276, v277, rfl, hO274, hB275⟩ h272
           refine pl_nil ?_
           refine co_then ?_
           refine co_seq ?_
           refine co_reg ?_
           refine pk0 (v := .int .i64 0) h272 rfl fun a282 h282 => ?_; clear h272
           refine pl_nil ?_
           refine co_then ?_
           refine wp_ret ?_
           refine co_ret1 h282 rfl rfl ?_
           have hb0 : badT (L.take ((j : Int) : Int).toNat) (EntT.mk c r (.slice none 0 0) l ts) = false := hbad
           have hE := setE_f (i := (j : Int)) (v := .slice none 0 0) (by omega) (by omega) (by omega) hnn hb0
           exact ⟨_, _, ret_int hE.symm, hO274, .inr ⟨hE, .inr ⟨findN_off (by assumption : (findN L (c, r)).getD 0 = _) hnn (by first | exact .inl (hb120.trans hc155) | exact .inr (by omega)), _, rfl⟩⟩, hB275⟩
          ·
           rw [hc235] at h234
           have hp283 : ((j : Nat) : Int) > 0 := of_decide_eq_true hc235
           clear hc235
           refine dk0 8 (v := pt b 0) h234 rfl rfl rfl fun a284 h284 => ?_; clear h234
           refine dk0 9 (v := pt b 0) h284 rfl rfl rfl fun a285 h285 => ?_; clear h284
           refine dk0 10 (v := pt b 1) h285 rfl rfl rfl fun a286 h286 => ?_; clear h285
           have hk287 := hk150.kept hg170 (by simp)
           refine dk 11 (v := u) h286 rfl rfl rfl (fun x hx => by subst hx; exact (rn_load1 rfl rfl Try.isAgg48 (hk287.cell rfl))) fun a288 h288 => ?_; clear h286
           refine dk0 12 (v := .int .i64 ((j : Nat) : Int)) h288 rfl rfl rfl fun a289 h289 => ?_; clear h288
           refine dk 13 (v := .int .i64 (((j : Nat) : Int) - 1)) h289 rfl rfl rfl (fun x hx => by subst hx; exact (rn_arith rfl rfl rfl rfl rfl rfl (IntWalk.i64_in _ (by omega)))) fun a290 h290 => ?_; clear h289
           have hE293 := hE163.new hg170
           have hr299 := row_kept_new hr159 hg170
           obtain ⟨y291, hy291⟩ : ∃ z, L[(((j : Nat) : Int) - 1).toNat]? = some z := ⟨_, List.getElem?_eq_getElem (by first | omega | (simp; done) | (simp; omega))⟩
           have oky291 := (fun (z : EntT) (_ : z ∈ L) => trivial) _ (List.mem_of_getElem? hy291)
           have hy292 := hE293.at hy291
           have hq294 := hy292.ts0; have hq295 := hy292.ts1; have hq296 := hy292.len; have hq297 := wf_i64 hy292.cl; have hq298 := wf_i64 hy292.rq
           refine dk 14 (v := pt (blkOf u) (offOf u + ((((j : Nat) : Int) - 1).toNat) * 4)) h290 rfl rfl rfl (fun x hx => by subst hx; exact (rn_index rfl rfl rfl Try.underlying48 Try.sizeOf40 (row_sl hr299 entE_len) (by omega) (by first | omega | (simp; done) | (simp; omega)))) fun a300 h300 => ?_; clear h290
           refine dk0 15 (v := pt (blkOf u) (offOf u + ((((j : Nat) : Int) - 1).toNat) * 4 + 3)) h300 rfl rfl rfl fun a301 h301 => ?_; clear h300
           refine dk 16 (v := .int .u64 y291.ts) h301 rfl rfl rfl (fun x hx => by subst hx; exact (rn_load1 rfl rfl Try.isAgg27 ((sl_at (row_sl hr299 entE_len) hy291) 3 _ rfl))) fun a302 h302 => ?_; clear h301
           refine dk0 17 (v := .bool (y291.ts == 0)) h302 rfl rfl rfl fun a303 h303 => ?_; clear h302
           refine dk0 18 (v := .bool (y291.ts == 0)) h303 rfl rfl rfl fun a304 h304 => ?_; clear h303
           cases hc305 : (y291.ts == 0)
           ·
            rw [hc305] at h304
            have hp306 : ¬ (y291.ts = 0) := by first | simpa using hc305 | simpa [and_assoc] using hc305
            clear hc305
            refine dk0 19 (v := pt b 0) h304 rfl rfl rfl fun a307 h307 => ?_; clear h304
            refine dk0 20 (v := pt b 0) h307 rfl rfl rfl fun a308 h308 => ?_; clear h307
            refine dk0 21 (v := pt b 1) h308 rfl rfl rfl fun a309 h309 => ?_; clear h308
            refine dk 22 (v := u) h309 rfl rfl rfl (fun x hx => by subst hx; exact (rn_load1 rfl rfl Try.isAgg48 (hk287.cell rfl))) fun a310 h310 => ?_; clear h309
            refine dk0 23 (v := .int .i64 ((j : Nat) : Int)) h310 rfl rfl rfl fun a311 h311 => ?_; clear h310
            refine dk 24 (v := .int .i64 (((j : Nat) : Int) - 1)) h311 rfl rfl rfl (fun x hx => by subst hx; exact (rn_arith rfl rfl rfl rfl rfl rfl (IntWalk.i64_in _ (by omega)))) fun a312 h312 => ?_; clear h311
            refine dk 25 (v := pt (blkOf u) (offOf u + ((((j : Nat) : Int) - 1).toNat) * 4)) h312 rfl rfl rfl (fun x hx => by subst hx; exact (rn_index rfl rfl rfl Try.underlying48 Try.sizeOf40 (row_sl hr299 entE_len) (by omega) (by first | omega | (simp; done) | (simp; omega)))) fun a313 h313 => ?_; clear h312
            refine dk0 26 (v := pt (blkOf u) (offOf u + ((((j : Nat) : Int) - 1).toNat) * 4 + 3)) h313 rfl rfl rfl fun a314 h314 => ?_; clear h313
            refine dk 27 (v := .int .u64 y291.ts) h314 rfl rfl rfl (fun x hx => by subst hx; exact (rn_load1 rfl rfl Try.isAgg27 ((sl_at (row_sl hr299 entE_len) hy291) 3 _ rfl))) fun a315 h315 => ?_; clear h314
            refine dk0 28 (v := pt N42 3) h315 rfl rfl rfl fun a316 h316 => ?_; clear h315
            refine dk 29 (v := .int .u64 ts) h316 rfl rfl rfl (fun x hx => by subst hx; exact (rn_load1 rfl rfl Try.isAgg27 (hk173.cell rfl))) fun a317 h317 => ?_; clear h316
            refine dk0 30 (v := .bool (decide (y291.ts ≥ ts))) h317 rfl rfl rfl fun a318 h318 => ?_; clear h317
            refine dk0 31 (v := .bool (decide (y291.ts ≥ ts))) h318 rfl rfl rfl fun a319 h319 => ?_; clear h318
            refine dk0 32 (v := .bool (decide (y291.ts ≥ ts))) h319 rfl rfl rfl fun a320 h320 => ?_; clear h319
            refine dr_done (by kernel_rfl) ?_
            refine co_then ?_
            cases hc321 : (decide (y291.ts ≥ ts))
            ·
             rw [hc321] at h320
             have hp322 : ¬ (y291.ts ≥ ts) := of_decide_eq_false hc321
             clear hc321
             refine co_false h320 rfl ?_
             refine wp_skip ?_
             refine co_then ?_
             refine co_seq ?_
             refine co_seq ?_
             refine co_reg ?_
             refine pk0 (v := .bool false) h320 rfl fun a323 h323 => ?_; clear h320
             refine pk0 (v := .bool false) h323 rfl fun a324 h324 => ?_; clear h323
             refine psk h324 rfl fun a325 h325 => ?_; clear h324
             refine psk h325 rfl fun a326 h326 => ?_; clear h325
             refine psk h326 rfl fun a327 h327 => ?_; clear h326
             refine psk h327 rfl fun a328 h328 => ?_; clear h327
             refine pk0 (v := .bool false) h328 rfl fun a329 h329 => ?_; clear h328
             refine pl_nil ?_
             refine co_then ?_
             refine co_false h329 rfl ?_
             refine co_reg ?_
             refine pk0 (v := pt b 0) h329 rfl fun a330 h330 => ?_; clear h329
             refine pk0 (v := .int .i64 ((j : Nat) : Int)) h330 rfl fun a331 h331 => ?_; clear h330
             refine pk (v := .agg #[.int .i64 c, .int .i64 r, v, .int .u64 ts]) h331 rfl (rn_loadN rfl rfl Try.underlying40 rfl (by kernel_rfl) hk173.all) fun a332 h332 => ?_; clear h331
             have hbad : badT (L.take ((j : Int) : Int).toNat) (EntT.mk c r (.slice none 0 0) l ts) = false := by rw [bad_at (j := (((j : Nat) : Int) - 1).toNat) (by omega) (by omega) hy291]; exact decide_eq_false (by simp only []; omega)
             have hnn := setE_n (i := ((j : Nat) : Int)) (by omega) (by assumption : (findN L (c, r)).getD 0 = _) (by first | exact .inl (hb120.trans hc155) | exact .inr (by omega))
             have hM339 := hM157.kept hg170 (by simp)
             refine pw h332 rfl (op_call (args := #[pt b 0, .int .i64 ((j : Nat) : Int), .agg #[.int .i64 c, .int .i64 r, v, .int .u64 ts]]) (R := fun res xw => ∃ u2 v2, res = .tuple #[] ∧ LgP S w0.heap.size xw b M u2 (L.take ((j : Nat) : Int).toNat ++ [EntT.mk c r v2 l ts]) ∧ But (S) w0 xw) rfl rfl rfl (by kernel_rfl) (by kernel_rfl) (Try.call64 _ _) (lreplace_any w0 S b M u L ((j : Nat) : Int) c r v l ts w169 hB178 ⟨hk287, ⟨_, hM339⟩, hr299, hE293, hO.sb, hO.sM, hO.su, hO.uq, hO.len⟩ (by omega) hnn hs hvS hlen hts hen) (by rintro e x ⟨u2, v2, rfl, h1, _, h2⟩; exact ⟨_, rfl, u2, v2, rfl, h1, h2⟩)) ?_; clear h332
             rintro _ w334 a333 ⟨u337, v338, rfl, hO335, hB336⟩ h333
             refine pl_nil ?_
             refine co_then ?_
             refine co_seq ?_
             refine co_reg ?_
             refine pk0 (v := .int .i64 0) h333 rfl fun a340 h340 => ?_; clear h333
             refine pl_nil ?_
             refine co_then ?_
             refine wp_ret ?_
             refine co_ret1 h340 rfl rfl ?_
             have hb0 : badT (L.take ((j : Int) : Int).toNat) (EntT.mk c r (.slice none 0 0) l ts) = false := hbad
             have hE := setE_f (i := (j : Int)) (v := .slice none 0 0) (by omega) (by omega) (by omega) hnn hb0
             exact ⟨_, _, ret_int hE.symm, hO335, .inr ⟨hE, .inr ⟨findN_off (by assumption : (findN L (c, r)).getD 0 = _) hnn (by first | exact .inl (hb120.trans hc155) | exact .inr (by omega)), _, rfl⟩⟩, hB336⟩
            ·
             rw [hc321] at h320
             have hp341 : y291.ts ≥ ts := of_decide_eq_true hc321
             clear hc321
             refine co_true h320 rfl ?_
             refine co_seq ?_
             refine co_reg ?_
             refine pk0 (v := .int .i64 18) h320 rfl fun a342 h342 => ?_; clear h320
             refine pl_nil ?_
             refine co_then ?_
             refine wp_ret ?_
             refine co_thenR ?_
             refine co_ret1 h342 rfl rfl ?_
             have hM343 := hM157.kept hg170 (by simp)
             have hE : setE L (j : Int) c r l ts = 18 := setE_e (v := .slice none 0 0) (by omega) (by omega) (by omega) (setE_n (by omega) (by assumption : (findN L (c, r)).getD 0 = _) (by first | exact .inl (hb120.trans hc155) | exact .inr (by omega))) (by rw [bad_at (j := (((j : Nat) : Int) - 1).toNat) (by omega) (by omega) hy291]; exact decide_eq_true (by simp only []; omega))
             exact ⟨_, _, ret_int hE.symm, ⟨hk287, ⟨_, hM343⟩, hr299, hE293, hO.sb, hO.sM, hO.su, hO.uq, hO.len⟩, .same (by rw [hE]; omega), hB178⟩
           ·
            rw [hc305] at h304
            have hp344 : y291.ts = 0 := by first | simpa using hc305 | simpa [and_assoc] using hc305
            clear hc305
            refine dsk 19 h304 rfl rfl rfl fun a345 h345 => ?_; clear h304
            refine dsk 20 h345 rfl rfl rfl fun a346 h346 => ?_; clear h345
            refine dsk 21 h346 rfl rfl rfl fun a347 h347 => ?_; clear h346
            refine dsk 22 h347 rfl rfl rfl fun a348 h348 => ?_; clear h347
            refine dsk 23 h348 rfl rfl rfl fun a349 h349 => ?_; clear h348
            refine dsk 24 h349 rfl rfl rfl fun a350 h350 => ?_; clear h349
            refine dsk 25 h350 rfl rfl rfl fun a351 h351 => ?_; clear h350
            refine dsk 26 h351 rfl rfl rfl fun a352 h352 => ?_; clear h351
            refine dsk 27 h352 rfl rfl rfl fun a353 h353 => ?_; clear h352
            refine dsk 28 h353 rfl rfl rfl fun a354 h354 => ?_; clear h353
            refine dsk 29 h354 rfl rfl rfl fun a355 h355 => ?_; clear h354
            refine dsk 30 h355 rfl rfl rfl fun a356 h356 => ?_; clear h355
            refine dk0 31 (v := .bool true) h356 rfl rfl rfl fun a357 h357 => ?_; clear h356
            refine dk0 32 (v := .bool true) h357 rfl rfl rfl fun a358 h358 => ?_; clear h357
            refine dr_done (by kernel_rfl) ?_
            refine co_then ?_
            refine co_true h358 rfl ?_
            refine co_seq ?_
            refine co_reg ?_
            refine pk0 (v := .int .i64 18) h358 rfl fun a359 h359 => ?_; clear h358
            refine pl_nil ?_
            refine co_then ?_
            refine wp_ret ?_
            refine co_thenR ?_
            refine co_ret1 h359 rfl rfl ?_
            have hM360 := hM157.kept hg170 (by simp)
            have hE : setE L (j : Int) c r l ts = 18 := setE_e (v := .slice none 0 0) (by omega) (by omega) (by omega) (setE_n (by omega) (by assumption : (findN L (c, r)).getD 0 = _) (by first | exact .inl (hb120.trans hc155) | exact .inr (by omega))) (by rw [bad_at (j := (((j : Nat) : Int) - 1).toNat) (by omega) (by omega) hy291]; exact decide_eq_true (by simp only []; omega))
            exact ⟨_, _, ret_int hE.symm, ⟨hk287, ⟨_, hM360⟩, hr299, hE293, hO.sb, hO.sM, hO.su, hO.uq, hO.len⟩, .same (by rw [hE]; omega), hB178⟩
        ·
         rw [hc155] at h154
         refine pk0 (v := pt N129 0) h154 rfl fun a361 h361 => ?_; clear h154
         refine pk (v := .int .i64 f117) h361 rfl (rn_load1 rfl rfl Try.isAgg3 (hk145'.cell rfl)) fun a362 h362 => ?_; clear h361
         refine pk0 (v := .int .i64 ((j : Nat) : Int)) h362 rfl fun a363 h363 => ?_; clear h362
         refine pk0 (v := .bool (decide (f117 < ((j : Nat) : Int)))) h363 rfl fun a364 h364 => ?_; clear h363
         refine pk0 (v := .bool (decide (f117 < ((j : Nat) : Int)))) h364 rfl fun a365 h365 => ?_; clear h364
         refine pl_nil ?_
         refine co_then ?_
         cases hc366 : (decide (f117 < ((j : Nat) : Int)))
         ·
          rw [hc366] at h365
          have hp367 : ¬ (f117 < ((j : Nat) : Int)) := of_decide_eq_false hc366
          clear hc366
          refine co_false h365 rfl ?_
          refine wp_skip ?_
          refine co_then ?_
          refine co_seq ?_
          refine co_seq ?_
          refine dr_eq (by kernel_rfl) (fun w368 hg369 => ?_)
          have hz370 := hg369.size
          refine dk0 0 (v := pt N42 3) h365 rfl rfl rfl fun a371 h371 => ?_; clear h365
          have hk372 := hk151.kept hg369 (by simp)
          refine dk 1 (v := .int .u64 ts) h371 rfl rfl rfl (fun x hx => by subst hx; exact (rn_load1 rfl rfl Try.isAgg27 (hk372.cell rfl))) fun a373 h373 => ?_; clear h371
          refine dk0 2 (v := .bool (ts != 0)) h373 rfl rfl rfl fun a374 h374 => ?_; clear h373
          refine dk0 3 (v := .bool (ts != 0)) h374 rfl rfl rfl fun a375 h375 => ?_; clear h374
          have hB377 := fbU_new hB149 hg369
          cases hc376 : (ts != 0)
          ·
           rw [hc376] at h375
           have hp378 : ¬ (ts ≠ 0) := by first | simpa using hc376 | simpa [and_assoc] using hc376
           clear hc376
           refine dsk 4 h375 rfl rfl rfl fun a379 h379 => ?_; clear h375
           refine dsk 5 h379 rfl rfl rfl fun a380 h380 => ?_; clear h379
           refine dk0 6 (v := .bool false) h380 rfl rfl rfl fun a381 h381 => ?_; clear h380
           refine dk0 7 (v := .bool false) h381 rfl rfl rfl fun a382 h382 => ?_; clear h381
           refine dsk 8 h382 rfl rfl rfl fun a383 h383 => ?_; clear h382
           refine dsk 9 h383 rfl rfl rfl fun a384 h384 => ?_; clear h383
           refine dsk 10 h384 rfl rfl rfl fun a385 h385 => ?_; clear h384
           refine dsk 11 h385 rfl rfl rfl fun a386 h386 => ?_; clear h385
           refine dsk 12 h386 rfl rfl rfl fun a387 h387 => ?_; clear h386
           refine dsk 13 h387 rfl rfl rfl fun a388 h388 => ?_; clear h387
           refine dsk 14 h388 rfl rfl rfl fun a389 h389 => ?_; clear h388
           refine dsk 15 h389 rfl rfl rfl fun a390 h390 => ?_; clear h389
           refine dsk 16 h390 rfl rfl rfl fun a391 h391 => ?_; clear h390
           refine dsk 17 h391 rfl rfl rfl fun a392 h392 => ?_; clear h391
           refine dsk 18 h392 rfl rfl rfl fun a393 h393 => ?_; clear h392
           refine dsk 19 h393 rfl rfl rfl fun a394 h394 => ?_; clear h393
           refine dsk 20 h394 rfl rfl rfl fun a395 h395 => ?_; clear h394
           refine dsk 21 h395 rfl rfl rfl fun a396 h396 => ?_; clear h395
           refine dsk 22 h396 rfl rfl rfl fun a397 h397 => ?_; clear h396
           refine dsk 23 h397 rfl rfl rfl fun a398 h398 => ?_; clear h397
           refine dsk 24 h398 rfl rfl rfl fun a399 h399 => ?_; clear h398
           refine dsk 25 h399 rfl rfl rfl fun a400 h400 => ?_; clear h399
           refine dsk 26 h400 rfl rfl rfl fun a401 h401 => ?_; clear h400
           refine dsk 27 h401 rfl rfl rfl fun a402 h402 => ?_; clear h401
           refine dsk 28 h402 rfl rfl rfl fun a403 h403 => ?_; clear h402
           refine dsk 29 h403 rfl rfl rfl fun a404 h404 => ?_; clear h403
           refine dsk 30 h404 rfl rfl rfl fun a405 h405 => ?_; clear h404
           refine dsk 31 h405 rfl rfl rfl fun a406 h406 => ?_; clear h405
           refine dk0 32 (v := .bool false) h406 rfl rfl rfl fun a407 h407 => ?_; clear h406
           refine dr_done (by kernel_rfl) ?_
           refine co_then ?_
           refine co_false h407 rfl ?_
           refine wp_skip ?_
           refine co_then ?_
           refine co_seq ?_
           refine co_seq ?_
           refine co_reg ?_
           refine pk0 (v := .bool true) h407 rfl fun a408 h408 => ?_; clear h407
           refine pk0 (v := .bool true) h408 rfl fun a409 h409 => ?_; clear h408
           refine pk0 (v := pt N129 0) h409 rfl fun a410 h410 => ?_; clear h409
           have hk411 := hk145'.kept hg369 (by simp)
           refine pk (v := .int .i64 f117) h410 rfl (rn_load1 rfl rfl Try.isAgg3 (hk411.cell rfl)) fun a412 h412 => ?_; clear h410
           refine pk0 (v := .int .i64 ((j : Nat) : Int)) h412 rfl fun a413 h413 => ?_; clear h412
           refine pk0 (v := .bool (f117 == ((j : Nat) : Int))) h413 rfl fun a414 h414 => ?_; clear h413
           refine pk0 (v := .bool (f117 == ((j : Nat) : Int))) h414 rfl fun a415 h415 => ?_; clear h414
           refine pl_nil ?_
           refine co_then ?_
           cases hc416 : (f117 == ((j : Nat) : Int))
           ·
            rw [hc416] at h415
            have hp417 : ¬ (f117 = ((j : Nat) : Int)) := by first | simpa using hc416 | simpa [and_assoc] using hc416
            clear hc416
            refine co_false h415 rfl ?_
            refine co_reg ?_
            refine pk0 (v := pt b 0) h415 rfl fun a418 h418 => ?_; clear h415
            refine pk0 (v := .int .i64 ((j : Nat) : Int)) h418 rfl fun a419 h419 => ?_; clear h418
            refine pk (v := .agg #[.int .i64 c, .int .i64 r, v, .int .u64 ts]) h419 rfl (rn_loadN rfl rfl Try.underlying40 rfl (by kernel_rfl) hk372.all) fun a420 h420 => ?_; clear h419
            have hbad : badT (L.take ((j : Int) : Int).toNat) (EntT.mk c r (.slice none 0 0) l ts) = false := by first | exact bad_ts (by simp only []; omega) | exact badM_0 (by omega)
            have hnn := setE_n (i := ((j : Nat) : Int)) (by omega) (by assumption : (findN L (c, r)).getD 0 = _) (by first | exact .inl (hb120.trans hc155) | exact .inr (by omega))
            have hM427 := hM157.kept hg369 (by simp)
            have hr428 := row_kept_new hr159 hg369
            have hE429 := hE163.new hg369
            have hk430 := hk150.kept hg369 (by simp)
            refine pw h420 rfl (op_call (args := #[pt b 0, .int .i64 ((j : Nat) : Int), .agg #[.int .i64 c, .int .i64 r, v, .int .u64 ts]]) (R := fun res xw => ∃ u2 v2, res = .tuple #[] ∧ LgP S w0.heap.size xw b M u2 (L.take ((j : Nat) : Int).toNat ++ [EntT.mk c r v2 l ts]) ∧ But (S) w0 xw) rfl rfl rfl (by kernel_rfl) (by kernel_rfl) (Try.call64 _ _) (lreplace_any w0 S b M u L ((j : Nat) : Int) c r v l ts w368 hB377 ⟨hk430, ⟨_, hM427⟩, hr428, hE429, hO.sb, hO.sM, hO.su, hO.uq, hO.len⟩ (by omega) hnn hs hvS hlen hts hen) (by rintro e x ⟨u2, v2, rfl, h1, _, h2⟩; exact ⟨_, rfl, u2, v2, rfl, h1, h2⟩)) ?_; clear h420
            rintro _ w422 a421 ⟨u425, v426, rfl, hO423, hB424⟩ h421
            refine pl_nil ?_
            refine co_then ?_
            refine co_seq ?_
            refine co_reg ?_
            refine pk0 (v := .int .i64 0) h421 rfl fun a431 h431 => ?_; clear h421
            refine pl_nil ?_
            refine co_then ?_
            refine wp_ret ?_
            refine co_ret1 h431 rfl rfl ?_
            have hb0 : badT (L.take ((j : Int) : Int).toNat) (EntT.mk c r (.slice none 0 0) l ts) = false := hbad
            have hE := setE_f (i := (j : Int)) (v := .slice none 0 0) (by omega) (by omega) (by omega) hnn hb0
            exact ⟨_, _, ret_int hE.symm, hO423, .inr ⟨hE, .inr ⟨findN_off (by assumption : (findN L (c, r)).getD 0 = _) hnn (by first | exact .inl (hb120.trans hc155) | exact .inr (by omega)), _, rfl⟩⟩, hB424⟩
           ·
            rw [hc416] at h415
            have hp432 : f117 = ((j : Nat) : Int) := by first | simpa using hc416 | simpa [and_assoc] using hc416
            clear hc416
            refine co_true h415 rfl ?_
            refine co_reg ?_
            refine pk0 (v := pt b 0) h415 rfl fun a433 h433 => ?_; clear h415
            refine pk0 (v := .int .i64 ((j : Nat) : Int)) h433 rfl fun a434 h434 => ?_; clear h433
            refine pk0 (v := pt N42 3) h434 rfl fun a435 h435 => ?_; clear h434
            refine pk (v := .int .u64 ts) h435 rfl (rn_load1 rfl rfl Try.isAgg27 (hk372.cell rfl)) fun a436 h436 => ?_; clear h435
            have hnn := setE_n (i := (j : Int)) (by omega) (by assumption : (findN L (c, r)).getD 0 = _) (by first | exact .inl (hb120.trans hc155) | exact .inr (by omega))
            have hjl := findN_atl (findN_at (j := j) (by first | exact hb120.trans hc155) (by assumption : (findN L (c, r)).getD 0 = _) (by omega))
            have hbad : badT (L.take ((j : Int) : Int).toNat) (EntT.mk c r (.slice none 0 0) l ts) = false := by first | exact bad_ts (by simp only []; omega) | exact badM_0 (by omega)
            have hM441 := hM157.kept hg369 (by simp)
            have hr442 := row_kept_new hr159 hg369
            have hE443 := hE163.new hg369
            have hk444 := hk150.kept hg369 (by simp)
            refine pw h436 rfl (op_call (args := #[pt b 0, .int .i64 ((j : Nat) : Int), .int .u64 ts]) (R := fun res xw => res = .tuple #[] ∧ LgP S w0.heap.size xw b M u (restF L ((j : Nat) : Int).toNat ts) ∧ But (S) w0 xw) rfl rfl rfl (by kernel_rfl) (by kernel_rfl) (Try.call63 _ _) (lrestamp_any w0 S b M u L ((j : Nat) : Int) ts w368 hB377 ⟨hk444, ⟨_, hM441⟩, hr442, hE443, hO.sb, hO.sM, hO.su, hO.uq, hO.len⟩ (by omega) (by omega)) (by rintro e x ⟨rfl, h1, h2⟩; exact ⟨_, rfl, rfl, h1, h2⟩)) ?_; clear h436
            rintro _ w438 a437 ⟨rfl, hO439, hB440⟩ h437
            refine pl_nil ?_
            refine co_then ?_
            refine co_seq ?_
            refine co_reg ?_
            refine pk0 (v := .int .i64 0) h437 rfl fun a445 h445 => ?_; clear h437
            refine pl_nil ?_
            refine co_then ?_
            refine wp_ret ?_
            refine co_ret1 h445 rfl rfl ?_
            have hb0 : badT (L.take ((j : Int) : Int).toNat) (EntT.mk c r (.slice none 0 0) l ts) = false := hbad
            have hE := setE_f (i := (j : Int)) (v := .slice none 0 0) (by omega) (by omega) (by omega) hnn hb0
            exact ⟨_, _, ret_int hE.symm, hO439, .inr ⟨hE, .inl ⟨findN_at (by first | exact hb120.trans hc155) (by assumption : (findN L (c, r)).getD 0 = _) (by omega), rfl⟩⟩, hB440⟩
          ·
           rw [hc376] at h375
           have hp446 : ts ≠ 0 := by first | simpa using hc376 | simpa [and_assoc] using hc376
           clear hc376
           refine dk0 4 (v := .int .i64 ((j : Nat) : Int)) h375 rfl rfl rfl fun a447 h447 => ?_; clear h375
           refine dk0 5 (v := .bool (decide (((j : Nat) : Int) > 0))) h447 rfl rfl rfl fun a448 h448 => ?_; clear h447
           refine dk0 6 (v := .bool (decide (((j : Nat) : Int) > 0))) h448 rfl rfl rfl fun a449 h449 => ?_; clear h448
           refine dk0 7 (v := .bool (decide (((j : Nat) : Int) > 0))) h449 rfl rfl rfl fun a450 h450 => ?_; clear h449
           cases hc451 : (decide (((j : Nat) : Int) > 0))
           ·
            rw [hc451] at h450
            have hp452 : ¬ (((j : Nat) : Int) > 0) := of_decide_eq_false hc451
            clear hc451
            refine dsk 8 h450 rfl rfl rfl fun a453 h453 => ?_; clear h450
            refine dsk 9 h453 rfl rfl rfl fun a454 h454 => ?_; clear h453
            refine dsk 10 h454 rfl rfl rfl fun a455 h455 => ?_; clear h454
            refine dsk 11 h455 rfl rfl rfl fun a456 h456 => ?_; clear h455
            refine dsk 12 h456 rfl rfl rfl fun a457 h457 => ?_; clear h456
            refine dsk 13 h457 rfl rfl rfl fun a458 h458 => ?_; clear h457
            refine dsk 14 h458 rfl rfl rfl fun a459 h459 => ?_; clear h458
            refine dsk 15 h459 rfl rfl rfl fun a460 h460 => ?_; clear h459
            refine dsk 16 h460 rfl rfl rfl fun a461 h461 => ?_; clear h460
            refine dsk 17 h461 rfl rfl rfl fun a462 h462 => ?_; clear h461
            refine dsk 18 h462 rfl rfl rfl fun a463 h463 => ?_; clear h462
            refine dsk 19 h463 rfl rfl rfl fun a464 h464 => ?_; clear h463
            refine dsk 20 h464 rfl rfl rfl fun a465 h465 => ?_; clear h464
            refine dsk 21 h465 rfl rfl rfl fun a466 h466 => ?_; clear h465
            refine dsk 22 h466 rfl rfl rfl fun a467 h467 => ?_; clear h466
            refine dsk 23 h467 rfl rfl rfl fun a468 h468 => ?_; clear h467
            refine dsk 24 h468 rfl rfl rfl fun a469 h469 => ?_; clear h468
            refine dsk 25 h469 rfl rfl rfl fun a470 h470 => ?_; clear h469
            refine dsk 26 h470 rfl rfl rfl fun a471 h471 => ?_; clear h470
            refine dsk 27 h471 rfl rfl rfl fun a472 h472 => ?_; clear h471
            refine dsk 28 h472 rfl rfl rfl fun a473 h473 => ?_; clear h472
            refine dsk 29 h473 rfl rfl rfl fun a474 h474 => ?_; clear h473
            refine dsk 30 h474 rfl rfl rfl fun a475 h475 => ?_; clear h474
            refine dsk 31 h475 rfl rfl rfl fun a476 h476 => ?_; clear h475
            refine dk0 32 (v := .bool false) h476 rfl rfl rfl fun a477 h477 => ?_; clear h476
            refine dr_done (by kernel_rfl) ?_
            refine co_then ?_
            refine co_false h477 rfl ?_
            refine wp_skip ?_
            refine co_then ?_
            refine co_seq ?_
            refine co_seq ?_
            refine co_reg ?_
            refine pk0 (v := .bool true) h477 rfl fun a478 h478 => ?_; clear h477
            refine pk0 (v := .bool true) h478 rfl fun a479 h479 => ?_; clear h478
            refine pk0 (v := pt N129 0) h479 rfl fun a480 h480 => ?_; clear h479
            have hk481 := hk145'.kept hg369 (by simp)
            refine pk (v := .int .i64 f117) h480 rfl (rn_load1 rfl rfl Try.isAgg3 (hk481.cell rfl)) fun a482 h482 => ?_; clear h480
            refine pk0 (v := .int .i64 ((j : Nat) : Int)) h482 rfl fun a483 h483 => ?_; clear h482
            refine pk0 (v := .bool (f117 == ((j : Nat) : Int))) h483 rfl fun a484 h484 => ?_; clear h483
            refine pk0 (v := .bool (f117 == ((j : Nat) : Int))) h484 rfl fun a485 h485 => ?_; clear h484
            refine pl_nil ?_
            refine co_then ?_
            cases hc486 : (f117 == ((j : Nat) : Int))
            ·
             rw [hc486] at h485
             have hp487 : ¬ (f117 = ((j : Nat) : Int)) := by first | simpa using hc486 | simpa [and_assoc] using hc486
             clear hc486
             refine co_false h485 rfl ?_
             refine co_reg ?_
             refine pk0 (v := pt b 0) h485 rfl fun a488 h488 => ?_; clear h485
             refine pk0 (v := .int .i64 ((j : Nat) : Int)) h488 rfl fun a489 h489 => ?_; clear h488
             refine pk (v := .agg #[.int .i64 c, .int .i64 r, v, .int .u64 ts]) h489 rfl (rn_loadN rfl rfl Try.underlying40 rfl (by kernel_rfl) hk372.all) fun a490 h490 => ?_; clear h489
             have hbad : badT (L.take ((j : Int) : Int).toNat) (EntT.mk c r (.slice none 0 0) l ts) = false := by first | exact bad_ts (by simp only []; omega) | exact badM_0 (by omega)
             have hnn := setE_n (i := ((j : Nat) : Int)) (by omega) (by assumption : (findN L (c, r)).getD 0 = _) (by first | exact .inl (hb120.trans hc155) | exact .inr (by omega))
             have hM497 := hM157.kept hg369 (by simp)
             have hr498 := row_kept_new hr159 hg369
             have hE499 := hE163.new hg369
             have hk500 := hk150.kept hg369 (by simp)
             refine pw h490 rfl (op_call (args := #[pt b 0, .int .i64 ((j : Nat) : Int), .agg #[.int .i64 c, .int .i64 r, v, .int .u64 ts]]) (R := fun res xw => ∃ u2 v2, res = .tuple #[] ∧ LgP S w0.heap.size xw b M u2 (L.take ((j : Nat) : Int).toNat ++ [EntT.mk c r v2 l ts]) ∧ But (S) w0 xw) rfl rfl rfl (by kernel_rfl) (by kernel_rfl) (Try.call64 _ _) (lreplace_any w0 S b M u L ((j : Nat) : Int) c r v l ts w368 hB377 ⟨hk500, ⟨_, hM497⟩, hr498, hE499, hO.sb, hO.sM, hO.su, hO.uq, hO.len⟩ (by omega) hnn hs hvS hlen hts hen) (by rintro e x ⟨u2, v2, rfl, h1, _, h2⟩; exact ⟨_, rfl, u2, v2, rfl, h1, h2⟩)) ?_; clear h490
             rintro _ w492 a491 ⟨u495, v496, rfl, hO493, hB494⟩ h491
             refine pl_nil ?_
             refine co_then ?_
             refine co_seq ?_
             refine co_reg ?_
             refine pk0 (v := .int .i64 0) h491 rfl fun a501 h501 => ?_; clear h491
             refine pl_nil ?_
             refine co_then ?_
             refine wp_ret ?_
             refine co_ret1 h501 rfl rfl ?_
             have hb0 : badT (L.take ((j : Int) : Int).toNat) (EntT.mk c r (.slice none 0 0) l ts) = false := hbad
             have hE := setE_f (i := (j : Int)) (v := .slice none 0 0) (by omega) (by omega) (by omega) hnn hb0
             exact ⟨_, _, ret_int hE.symm, hO493, .inr ⟨hE, .inr ⟨findN_off (by assumption : (findN L (c, r)).getD 0 = _) hnn (by first | exact .inl (hb120.trans hc155) | exact .inr (by omega)), _, rfl⟩⟩, hB494⟩
            ·
             rw [hc486] at h485
             have hp502 : f117 = ((j : Nat) : Int) := by first | simpa using hc486 | simpa [and_assoc] using hc486
             clear hc486
             refine co_true h485 rfl ?_
             refine co_reg ?_
             refine pk0 (v := pt b 0) h485 rfl fun a503 h503 => ?_; clear h485
             refine pk0 (v := .int .i64 ((j : Nat) : Int)) h503 rfl fun a504 h504 => ?_; clear h503
             refine pk0 (v := pt N42 3) h504 rfl fun a505 h505 => ?_; clear h504
             refine pk (v := .int .u64 ts) h505 rfl (rn_load1 rfl rfl Try.isAgg27 (hk372.cell rfl)) fun a506 h506 => ?_; clear h505
             have hnn := setE_n (i := (j : Int)) (by omega) (by assumption : (findN L (c, r)).getD 0 = _) (by first | exact .inl (hb120.trans hc155) | exact .inr (by omega))
             have hjl := findN_atl (findN_at (j := j) (by first | exact hb120.trans hc155) (by assumption : (findN L (c, r)).getD 0 = _) (by omega))
             have hbad : badT (L.take ((j : Int) : Int).toNat) (EntT.mk c r (.slice none 0 0) l ts) = false := by first | exact bad_ts (by simp only []; omega) | exact badM_0 (by omega)
             have hM511 := hM157.kept hg369 (by simp)
             have hr512 := row_kept_new hr159 hg369
             have hE513 := hE163.new hg369
             have hk514 := hk150.kept hg369 (by simp)
             refine pw h506 rfl (op_call (args := #[pt b 0, .int .i64 ((j : Nat) : Int), .int .u64 ts]) (R := fun res xw => res = .tuple #[] ∧ LgP S w0.heap.size xw b M u (restF L ((j : Nat) : Int).toNat ts) ∧ But (S) w0 xw) rfl rfl rfl (by kernel_rfl) (by kernel_rfl) (Try.call63 _ _) (lrestamp_any w0 S b M u L ((j : Nat) : Int) ts w368 hB377 ⟨hk514, ⟨_, hM511⟩, hr512, hE513, hO.sb, hO.sM, hO.su, hO.uq, hO.len⟩ (by omega) (by omega)) (by rintro e x ⟨rfl, h1, h2⟩; exact ⟨_, rfl, rfl, h1, h2⟩)) ?_; clear h506
             rintro _ w508 a507 ⟨rfl, hO509, hB510⟩ h507
             refine pl_nil ?_
             refine co_then ?_
             refine co_seq ?_
             refine co_reg ?_
             refine pk0 (v := .int .i64 0) h507 rfl fun a515 h515 => ?_; clear h507
             refine pl_nil ?_
             refine co_then ?_
             refine wp_ret ?_
             refine co_ret1 h515 rfl rfl ?_
             have hb0 : badT (L.take ((j : Int) : Int).toNat) (EntT.mk c r (.slice none 0 0) l ts) = false := hbad
             have hE := setE_f (i := (j : Int)) (v := .slice none 0 0) (by omega) (by omega) (by omega) hnn hb0
             exact ⟨_, _, ret_int hE.symm, hO509, .inr ⟨hE, .inl ⟨findN_at (by first | exact hb120.trans hc155) (by assumption : (findN L (c, r)).getD 0 = _) (by omega), rfl⟩⟩, hB510⟩
           ·
            rw [hc451] at h450
            have hp516 : ((j : Nat) : Int) > 0 := of_decide_eq_true hc451
            clear hc451
            refine dk0 8 (v := pt b 0) h450 rfl rfl rfl fun a517 h517 => ?_; clear h450
            refine dk0 9 (v := pt b 0) h517 rfl rfl rfl fun a518 h518 => ?_; clear h517
            refine dk0 10 (v := pt b 1) h518 rfl rfl rfl fun a519 h519 => ?_; clear h518
            have hk520 := hk150.kept hg369 (by simp)
            refine dk 11 (v := u) h519 rfl rfl rfl (fun x hx => by subst hx; exact (rn_load1 rfl rfl Try.isAgg48 (hk520.cell rfl))) fun a521 h521 => ?_; clear h519
            refine dk0 12 (v := .int .i64 ((j : Nat) : Int)) h521 rfl rfl rfl fun a522 h522 => ?_; clear h521
            refine dk 13 (v := .int .i64 (((j : Nat) : Int) - 1)) h522 rfl rfl rfl (fun x hx => by subst hx; exact (rn_arith rfl rfl rfl rfl rfl rfl (IntWalk.i64_in _ (by omega)))) fun a523 h523 => ?_; clear h522
            have hE526 := hE163.new hg369
            have hr532 := row_kept_new hr159 hg369
            obtain ⟨y524, hy524⟩ : ∃ z, L[(((j : Nat) : Int) - 1).toNat]? = some z := ⟨_, List.getElem?_eq_getElem (by first | omega | (simp; done) | (simp; omega))⟩
            have oky524 := (fun (z : EntT) (_ : z ∈ L) => trivial) _ (List.mem_of_getElem? hy524)
            have hy525 := hE526.at hy524
            have hq527 := hy525.ts0; have hq528 := hy525.ts1; have hq529 := hy525.len; have hq530 := wf_i64 hy525.cl; have hq531 := wf_i64 hy525.rq
            refine dk 14 (v := pt (blkOf u) (offOf u + ((((j : Nat) : Int) - 1).toNat) * 4)) h523 rfl rfl rfl (fun x hx => by subst hx; exact (rn_index rfl rfl rfl Try.underlying48 Try.sizeOf40 (row_sl hr532 entE_len) (by omega) (by first | omega | (simp; done) | (simp; omega)))) fun a533 h533 => ?_; clear h523
            refine dk0 15 (v := pt (blkOf u) (offOf u + ((((j : Nat) : Int) - 1).toNat) * 4 + 3)) h533 rfl rfl rfl fun a534 h534 => ?_; clear h533
            refine dk 16 (v := .int .u64 y524.ts) h534 rfl rfl rfl (fun x hx => by subst hx; exact (rn_load1 rfl rfl Try.isAgg27 ((sl_at (row_sl hr532 entE_len) hy524) 3 _ rfl))) fun a535 h535 => ?_; clear h534
            refine dk0 17 (v := .bool (y524.ts == 0)) h535 rfl rfl rfl fun a536 h536 => ?_; clear h535
            refine dk0 18 (v := .bool (y524.ts == 0)) h536 rfl rfl rfl fun a537 h537 => ?_; clear h536
            cases hc538 : (y524.ts == 0)
            ·
             rw [hc538] at h537
             have hp539 : ¬ (y524.ts = 0) := by first | simpa using hc538 | simpa [and_assoc] using hc538
             clear hc538
             refine dk0 19 (v := pt b 0) h537 rfl rfl rfl fun a540 h540 => ?_; clear h537
             refine dk0 20 (v := pt b 0) h540 rfl rfl rfl fun a541 h541 => ?_; clear h540
             refine dk0 21 (v := pt b 1) h541 rfl rfl rfl fun a542 h542 => ?_; clear h541
             refine dk 22 (v := u) h542 rfl rfl rfl (fun x hx => by subst hx; exact (rn_load1 rfl rfl Try.isAgg48 (hk520.cell rfl))) fun a543 h543 => ?_; clear h542
             refine dk0 23 (v := .int .i64 ((j : Nat) : Int)) h543 rfl rfl rfl fun a544 h544 => ?_; clear h543
             refine dk 24 (v := .int .i64 (((j : Nat) : Int) - 1)) h544 rfl rfl rfl (fun x hx => by subst hx; exact (rn_arith rfl rfl rfl rfl rfl rfl (IntWalk.i64_in _ (by omega)))) fun a545 h545 => ?_; clear h544
             refine dk 25 (v := pt (blkOf u) (offOf u + ((((j : Nat) : Int) - 1).toNat) * 4)) h545 rfl rfl rfl (fun x hx => by subst hx; exact (rn_index rfl rfl rfl Try.underlying48 Try.sizeOf40 (row_sl hr532 entE_len) (by omega) (by first | omega | (simp; done) | (simp; omega)))) fun a546 h546 => ?_; clear h545
             refine dk0 26 (v := pt (blkOf u) (offOf u + ((((j : Nat) : Int) - 1).toNat) * 4 + 3)) h546 rfl rfl rfl fun a547 h547 => ?_; clear h546
             refine dk 27 (v := .int .u64 y524.ts) h547 rfl rfl rfl (fun x hx => by subst hx; exact (rn_load1 rfl rfl Try.isAgg27 ((sl_at (row_sl hr532 entE_len) hy524) 3 _ rfl))) fun a548 h548 => ?_; clear h547
             refine dk0 28 (v := pt N42 3) h548 rfl rfl rfl fun a549 h549 => ?_; clear h548
             refine dk 29 (v := .int .u64 ts) h549 rfl rfl rfl (fun x hx => by subst hx; exact (rn_load1 rfl rfl Try.isAgg27 (hk372.cell rfl))) fun a550 h550 => ?_; clear h549
             refine dk0 30 (v := .bool (decide (y524.ts ≥ ts))) h550 rfl rfl rfl fun a551 h551 => ?_; clear h550
             refine dk0 31 (v := .bool (decide (y524.ts ≥ ts))) h551 rfl rfl rfl fun a552 h552 => ?_; clear h551
             refine dk0 32 (v := .bool (decide (y524.ts ≥ ts))) h552 rfl rfl rfl fun a553 h553 => ?_; clear h552
             refine dr_done (by kernel_rfl) ?_
             refine co_then ?_
             cases hc554 : (decide (y524.ts ≥ ts))
             ·
              rw [hc554] at h553
              have hp555 : ¬ (y524.ts ≥ ts) := of_decide_eq_false hc554
              clear hc554
              refine co_false h553 rfl ?_
              refine wp_skip ?_
              refine co_then ?_
              refine co_seq ?_
              refine co_seq ?_
              refine co_reg ?_
              refine pk0 (v := .bool true) h553 rfl fun a556 h556 => ?_; clear h553
              refine pk0 (v := .bool true) h556 rfl fun a557 h557 => ?_; clear h556
              refine pk0 (v := pt N129 0) h557 rfl fun a558 h558 => ?_; clear h557
              have hk559 := hk145'.kept hg369 (by simp)
              refine pk (v := .int .i64 f117) h558 rfl (rn_load1 rfl rfl Try.isAgg3 (hk559.cell rfl)) fun a560 h560 => ?_; clear h558
              refine pk0 (v := .int .i64 ((j : Nat) : Int)) h560 rfl fun a561 h561 => ?_; clear h560
              refine pk0 (v := .bool (f117 == ((j : Nat) : Int))) h561 rfl fun a562 h562 => ?_; clear h561
              refine pk0 (v := .bool (f117 == ((j : Nat) : Int))) h562 rfl fun a563 h563 => ?_; clear h562
              refine pl_nil ?_
              refine co_then ?_
              cases hc564 : (f117 == ((j : Nat) : Int))
              ·
               rw [hc564] at h563
               have hp565 : ¬ (f117 = ((j : Nat) : Int)) := by first | simpa using hc564 | simpa [and_assoc] using hc564
               clear hc564
               refine co_false h563 rfl ?_
               refine co_reg ?_
               refine pk0 (v := pt b 0) h563 rfl fun a566 h566 => ?_; clear h563
               refine pk0 (v := .int .i64 ((j : Nat) : Int)) h566 rfl fun a567 h567 => ?_; clear h566
               refine pk (v := .agg #[.int .i64 c, .int .i64 r, v, .int .u64 ts]) h567 rfl (rn_loadN rfl rfl Try.underlying40 rfl (by kernel_rfl) hk372.all) fun a568 h568 => ?_; clear h567
               have hbad : badT (L.take ((j : Int) : Int).toNat) (EntT.mk c r (.slice none 0 0) l ts) = false := by rw [bad_at (j := (((j : Nat) : Int) - 1).toNat) (by omega) (by omega) hy524]; exact decide_eq_false (by simp only []; omega)
               have hnn := setE_n (i := ((j : Nat) : Int)) (by omega) (by assumption : (findN L (c, r)).getD 0 = _) (by first | exact .inl (hb120.trans hc155) | exact .inr (by omega))
               have hM575 := hM157.kept hg369 (by simp)
               refine pw h568 rfl (op_call (args := #[pt b 0, .int .i64 ((j : Nat) : Int), .agg #[.int .i64 c, .int .i64 r, v, .int .u64 ts]]) (R := fun res xw => ∃ u2 v2, res = .tuple #[] ∧ LgP S w0.heap.size xw b M u2 (L.take ((j : Nat) : Int).toNat ++ [EntT.mk c r v2 l ts]) ∧ But (S) w0 xw) rfl rfl rfl (by kernel_rfl) (by kernel_rfl) (Try.call64 _ _) (lreplace_any w0 S b M u L ((j : Nat) : Int) c r v l ts w368 hB377 ⟨hk520, ⟨_, hM575⟩, hr532, hE526, hO.sb, hO.sM, hO.su, hO.uq, hO.len⟩ (by omega) hnn hs hvS hlen hts hen) (by rintro e x ⟨u2, v2, rfl, h1, _, h2⟩; exact ⟨_, rfl, u2, v2, rfl, h1, h2⟩)) ?_; clear h568
               rintro _ w570 a569 ⟨u573, v574, rfl, hO571, hB572⟩ h569
               refine pl_nil ?_
               refine co_then ?_
               refine co_seq ?_
               refine co_reg ?_
               refine pk0 (v := .int .i64 0) h569 rfl fun a576 h576 => ?_; clear h569
               refine pl_nil ?_
               refine co_then ?_
               refine wp_ret ?_
               refine co_ret1 h576 rfl rfl ?_
               have hb0 : badT (L.take ((j : Int) : Int).toNat) (EntT.mk c r (.slice none 0 0) l ts) = false := hbad
               have hE := setE_f (i := (j : Int)) (v := .slice none 0 0) (by omega) (by omega) (by omega) hnn hb0
               exact ⟨_, _, ret_int hE.symm, hO571, .inr ⟨hE, .inr ⟨findN_off (by assumption : (findN L (c, r)).getD 0 = _) hnn (by first | exact .inl (hb120.trans hc155) | exact .inr (by omega)), _, rfl⟩⟩, hB572⟩
              ·
               rw [hc564] at h563
               have hp577 : f117 = ((j : Nat) : Int) := by first | simpa using hc564 | simpa [and_assoc] using hc564
               clear hc564
               refine co_true h563 rfl ?_
               refine co_reg ?_
               refine pk0 (v := pt b 0) h563 rfl fun a578 h578 => ?_; clear h563
               refine pk0 (v := .int .i64 ((j : Nat) : Int)) h578 rfl fun a579 h579 => ?_; clear h578
               refine pk0 (v := pt N42 3) h579 rfl fun a580 h580 => ?_; clear h579
               refine pk (v := .int .u64 ts) h580 rfl (rn_load1 rfl rfl Try.isAgg27 (hk372.cell rfl)) fun a581 h581 => ?_; clear h580
               have hnn := setE_n (i := (j : Int)) (by omega) (by assumption : (findN L (c, r)).getD 0 = _) (by first | exact .inl (hb120.trans hc155) | exact .inr (by omega))
               have hjl := findN_atl (findN_at (j := j) (by first | exact hb120.trans hc155) (by assumption : (findN L (c, r)).getD 0 = _) (by omega))
               have hbad : badT (L.take ((j : Int) : Int).toNat) (EntT.mk c r (.slice none 0 0) l ts) = false := by rw [bad_at (j := (((j : Nat) : Int) - 1).toNat) (by omega) (by omega) hy524]; exact decide_eq_false (by simp only []; omega)
               have hM586 := hM157.kept hg369 (by simp)
               refine pw h581 rfl (op_call (args := #[pt b 0, .int .i64 ((j : Nat) : Int), .int .u64 ts]) (R := fun res xw => res = .tuple #[] ∧ LgP S w0.heap.size xw b M u (restF L ((j : Nat) : Int).toNat ts) ∧ But (S) w0 xw) rfl rfl rfl (by kernel_rfl) (by kernel_rfl) (Try.call63 _ _) (lrestamp_any w0 S b M u L ((j : Nat) : Int) ts w368 hB377 ⟨hk520, ⟨_, hM586⟩, hr532, hE526, hO.sb, hO.sM, hO.su, hO.uq, hO.len⟩ (by omega) (by omega)) (by rintro e x ⟨rfl, h1, h2⟩; exact ⟨_, rfl, rfl, h1, h2⟩)) ?_; clear h581
               rintro _ w583 a582 ⟨rfl, hO584, hB585⟩ h582
               refine pl_nil ?_
               refine co_then ?_
               refine co_seq ?_
               refine co_reg ?_
               refine pk0 (v := .int .i64 0) h582 rfl fun a587 h587 => ?_; clear h582
               refine pl_nil ?_
               refine co_then ?_
               refine wp_ret ?_
               refine co_ret1 h587 rfl rfl ?_
               have hb0 : badT (L.take ((j : Int) : Int).toNat) (EntT.mk c r (.slice none 0 0) l ts) = false := hbad
               have hE := setE_f (i := (j : Int)) (v := .slice none 0 0) (by omega) (by omega) (by omega) hnn hb0
               exact ⟨_, _, ret_int hE.symm, hO584, .inr ⟨hE, .inl ⟨findN_at (by first | exact hb120.trans hc155) (by assumption : (findN L (c, r)).getD 0 = _) (by omega), rfl⟩⟩, hB585⟩
             ·
              rw [hc554] at h553
              have hp588 : y524.ts ≥ ts := of_decide_eq_true hc554
              clear hc554
              refine co_true h553 rfl ?_
              refine co_seq ?_
              refine co_reg ?_
              refine pk0 (v := .int .i64 18) h553 rfl fun a589 h589 => ?_; clear h553
              refine pl_nil ?_
              refine co_then ?_
              refine wp_ret ?_
              refine co_thenR ?_
              refine co_ret1 h589 rfl rfl ?_
              have hM590 := hM157.kept hg369 (by simp)
              have hE : setE L (j : Int) c r l ts = 18 := setE_e (v := .slice none 0 0) (by omega) (by omega) (by omega) (setE_n (by omega) (by assumption : (findN L (c, r)).getD 0 = _) (by first | exact .inl (hb120.trans hc155) | exact .inr (by omega))) (by rw [bad_at (j := (((j : Nat) : Int) - 1).toNat) (by omega) (by omega) hy524]; exact decide_eq_true (by simp only []; omega))
              exact ⟨_, _, ret_int hE.symm, ⟨hk520, ⟨_, hM590⟩, hr532, hE526, hO.sb, hO.sM, hO.su, hO.uq, hO.len⟩, .same (by rw [hE]; omega), hB377⟩
            ·
             rw [hc538] at h537
             have hp591 : y524.ts = 0 := by first | simpa using hc538 | simpa [and_assoc] using hc538
             clear hc538
             refine dsk 19 h537 rfl rfl rfl fun a592 h592 => ?_; clear h537
             refine dsk 20 h592 rfl rfl rfl fun a593 h593 => ?_; clear h592
             refine dsk 21 h593 rfl rfl rfl fun a594 h594 => ?_; clear h593
             refine dsk 22 h594 rfl rfl rfl fun a595 h595 => ?_; clear h594
             refine dsk 23 h595 rfl rfl rfl fun a596 h596 => ?_; clear h595
             refine dsk 24 h596 rfl rfl rfl fun a597 h597 => ?_; clear h596
             refine dsk 25 h597 rfl rfl rfl fun a598 h598 => ?_; clear h597
             refine dsk 26 h598 rfl rfl rfl fun a599 h599 => ?_; clear h598
             refine dsk 27 h599 rfl rfl rfl fun a600 h600 => ?_; clear h599
             refine dsk 28 h600 rfl rfl rfl fun a601 h601 => ?_; clear h600
             refine dsk 29 h601 rfl rfl rfl fun a602 h602 => ?_; clear h601
             refine dsk 30 h602 rfl rfl rfl fun a603 h603 => ?_; clear h602
             refine dk0 31 (v := .bool true) h603 rfl rfl rfl fun a604 h604 => ?_; clear h603
             refine dk0 32 (v := .bool true) h604 rfl rfl rfl fun a605 h605 => ?_; clear h604
             refine dr_done (by kernel_rfl) ?_
             refine co_then ?_
             refine co_true h605 rfl ?_
             refine co_seq ?_
             refine co_reg ?_
             refine pk0 (v := .int .i64 18) h605 rfl fun a606 h606 => ?_; clear h605
             refine pl_nil ?_
             refine co_then ?_
             refine wp_ret ?_
             refine co_thenR ?_
             refine co_ret1 h606 rfl rfl ?_
             have hM607 := hM157.kept hg369 (by simp)
             have hE : setE L (j : Int) c r l ts = 18 := setE_e (v := .slice none 0 0) (by omega) (by omega) (by omega) (setE_n (by omega) (by assumption : (findN L (c, r)).getD 0 = _) (by first | exact .inl (hb120.trans hc155) | exact .inr (by omega))) (by rw [bad_at (j := (((j : Nat) : Int) - 1).toNat) (by omega) (by omega) hy524]; exact decide_eq_true (by simp only []; omega))
             exact ⟨_, _, ret_int hE.symm, ⟨hk520, ⟨_, hM607⟩, hr532, hE526, hO.sb, hO.sM, hO.su, hO.uq, hO.len⟩, .same (by rw [hE]; omega), hB377⟩
         ·
          rw [hc366] at h365
          have hp608 : f117 < ((j : Nat) : Int) := of_decide_eq_true hc366
          clear hc366
          refine co_true h365 rfl ?_
          refine co_seq ?_
          refine co_reg ?_
          refine pk0 (v := .int .i64 18) h365 rfl fun a609 h609 => ?_; clear h365
          refine pl_nil ?_
          refine co_then ?_
          refine wp_ret ?_
          refine co_thenR ?_
          refine co_ret1 h609 rfl rfl ?_
          have hE : setE L (j : Int) c r l ts = 18 := setE_d (by omega) (by omega) (by omega) (by first | exact hb120.trans hc155) (by assumption : (findN L (c, r)).getD 0 = _) (by omega)
          exact ⟨_, _, ret_int hE.symm, ⟨hk150, ⟨_, hM157⟩, hr159, hE163, hO.sb, hO.sM, hO.su, hO.uq, hO.len⟩, .same (by rw [hE]; omega), hB149⟩
       ·
        refine dr_op (i := 10) h110 rfl rfl rfl rfl (op_new (v := fun N => pt N 0) (T := 124) (cs := #[.int .i64 0]) (by kernel_rfl) (by kernel_rfl) (by kernel_rfl)) ?_ ?_; clear h110
        ·
         rintro _ w611 ⟨N612, rfl, hN615, hz616, hk614, hg613⟩
         have hr618 := row_kept_new hr65 (below_grown hb75)
         have hr619 := row_kept_new hr618 hg92
         have hr620 := row_kept_new hr619 (below_grown hb112)
         have ha617 := row_fresh hr620 hN615
         have hu621 := row_under hr620 hN615
         have hz622 := hg613.size
         have hB623 := fbU_new hB114 hg613
         have hk624 := hk115.kept hg613 (by simp)
         have hk625 := hk116.kept hg613 (by simp)
         exact ⟨hB623, hk624, hk625⟩
        rintro _ w611 a610 ⟨N612, rfl, hN615, hz616, hk614, hg613⟩ h610
        have hr618 := row_kept_new hr65 (below_grown hb75)
        have hr619 := row_kept_new hr618 hg92
        have hr620 := row_kept_new hr619 (below_grown hb112)
        have ha617 := row_fresh hr620 hN615
        have hu621 := row_under hr620 hN615
        have hz622 := hg613.size
        try dsimp only at h610
        have hB623 := fbU_new hB114 hg613
        have hk624 := hk115.kept hg613 (by simp)
        have hk625 := hk116.kept hg613 (by simp)
        refine dr_many [6] (by kernel_rfl) (by simp) ⟨?_, trivial⟩
        ·
         have hM630 := hM83.kept hg92 (by simp)
         have hM631 := hM630.kept (below_grown hb112) (by simp)
         have hM632 := hM631.kept hg613 (by simp)
         obtain ⟨f626, hf627⟩ : ∃ z, ((findN L) (c, r)).getD (0 : Int) = z := ⟨_, rfl⟩
         obtain ⟨b628, hb629⟩ : ∃ z, ((findN L) (c, r)).isSome = z := ⟨_, rfl⟩
         refine dr_opVal (i := 6) (v := .tuple #[.agg #[.int .i64 f626], .bool b628]) h610 rfl rfl rfl rfl (by kernel_rfl) rfl (rn_lookOT (a := (c, r)) (f := f626) (b := b628) nm_kl rfl rfl rfl Try.underlying112 spot_z hM632 hf627 hb629) ⟨hB623, hk624, hk625⟩ (fun a633 h633 => ?_); clear h610
         refine dk0 7 (v := .tuple #[.agg #[.int .i64 f626], .bool b628]) h633 rfl rfl ⟨hB623, hk624, hk625⟩ fun a634 h634 => ?_; clear h633
         refine dk0 8 (v := .agg #[.int .i64 f626]) h634 rfl rfl ⟨hB623, hk624, hk625⟩ fun a635 h635 => ?_; clear h634
         refine dk0 9 (v := .bool b628) h635 rfl rfl ⟨hB623, hk624, hk625⟩ fun a636 h636 => ?_; clear h635
         refine d1D 11 h636 rfl rfl (op_storeN rfl rfl rfl (by kernel_rfl) (by kernel_rfl) hk614 rfl) ?_ ?_; clear h636
         ·
          rintro _ w638 ⟨hk639, hz640, hg641⟩
          have hk639' : Blk w638 N612 124 #[.int .i64 f626] := hk639; clear hk639
          have hz642 := hg641.size
          have hB643 := fbU_at hB623 hg641 (fun hlt => absurd hlt (by omega))
          have hk644 := hk624.kept hg641 (by simp; omega)
          have hk645 := hk625.kept hg641 (by simp; omega)
          exact ⟨hB643, hk644, hk645⟩
         rintro _ w638 a637 ⟨hk639, hz640, hg641⟩ h637
         have hk639' : Blk w638 N612 124 #[.int .i64 f626] := hk639; clear hk639
         have hz642 := hg641.size
         have hB643 := fbU_at hB623 hg641 (fun hlt => absurd hlt (by omega))
         have hk644 := hk624.kept hg641 (by simp; omega)
         have hk645 := hk625.kept hg641 (by simp; omega)
         refine dk0 12 (v := .bool b628) h637 rfl rfl ⟨hB643, hk644, hk645⟩ fun a646 h646 => ?_; clear h637
         refine dr_done (by kernel_rfl) ?_
         refine co_then ?_
         refine co_seq ?_
         refine co_seq ?_
         refine co_reg ?_
         refine pk0 (v := .bool b628) h646 rfl fun a647 h647 => ?_; clear h646
         refine pk0 (v := .bool b628) h647 rfl fun a648 h648 => ?_; clear h647
         have hr650 := row_kept_new hr620 hg613
         have hr651 := row_kept_at hr650 hg641 (ha617)
         have hE652 := hE85.new hg92
         have hE653 := hE652.new (below_grown hb112)
         have hE654 := hE653.new hg613
         have hE655 := hE654.blk hk614 (by decide) hg641
         cases hc649 : (b628)
         ·
          rw [hc649] at h648
          refine psk h648 rfl fun a656 h656 => ?_; clear h648
          refine psk h656 rfl fun a657 h657 => ?_; clear h656
          refine psk h657 rfl fun a658 h658 => ?_; clear h657
          refine psk h658 rfl fun a659 h659 => ?_; clear h658
          refine pk0 (v := .bool false) h659 rfl fun a660 h660 => ?_; clear h659
          refine pl_nil ?_
          refine co_then ?_
          refine co_false h660 rfl ?_
          refine wp_skip ?_
          refine co_then ?_
          refine co_seq ?_
          refine co_seq ?_
          refine dr_eq (by kernel_rfl) (fun w661 hg662 => ?_)
          have hz663 := hg662.size
          refine dk0 0 (v := pt N42 3) h660 rfl rfl rfl fun a664 h664 => ?_; clear h660
          have hk665 := hk645.kept hg662 (by simp)
          refine dk 1 (v := .int .u64 ts) h664 rfl rfl rfl (fun x hx => by subst hx; exact (rn_load1 rfl rfl Try.isAgg27 (hk665.cell rfl))) fun a666 h666 => ?_; clear h664
          refine dk0 2 (v := .bool (ts != 0)) h666 rfl rfl rfl fun a667 h667 => ?_; clear h666
          refine dk0 3 (v := .bool (ts != 0)) h667 rfl rfl rfl fun a668 h668 => ?_; clear h667
          have hB670 := fbU_new hB643 hg662
          have hM671 := hM632.kept hg641 (by simp; omega)
          have hM672 := hM671.kept hg662 (by simp)
          cases hc669 : (ts != 0)
          ·
           rw [hc669] at h668
           have hp673 : ¬ (ts ≠ 0) := by first | simpa using hc669 | simpa [and_assoc] using hc669
           clear hc669
           refine dsk 4 h668 rfl rfl rfl fun a674 h674 => ?_; clear h668
           refine dsk 5 h674 rfl rfl rfl fun a675 h675 => ?_; clear h674
           refine dk0 6 (v := .bool false) h675 rfl rfl rfl fun a676 h676 => ?_; clear h675
           refine dk0 7 (v := .bool false) h676 rfl rfl rfl fun a677 h677 => ?_; clear h676
           refine dsk 8 h677 rfl rfl rfl fun a678 h678 => ?_; clear h677
           refine dsk 9 h678 rfl rfl rfl fun a679 h679 => ?_; clear h678
           refine dsk 10 h679 rfl rfl rfl fun a680 h680 => ?_; clear h679
           refine dsk 11 h680 rfl rfl rfl fun a681 h681 => ?_; clear h680
           refine dsk 12 h681 rfl rfl rfl fun a682 h682 => ?_; clear h681
           refine dsk 13 h682 rfl rfl rfl fun a683 h683 => ?_; clear h682
           refine dsk 14 h683 rfl rfl rfl fun a684 h684 => ?_; clear h683
           refine dsk 15 h684 rfl rfl rfl fun a685 h685 => ?_; clear h684
           refine dsk 16 h685 rfl rfl rfl fun a686 h686 => ?_; clear h685
           refine dsk 17 h686 rfl rfl rfl fun a687 h687 => ?_; clear h686
           refine dsk 18 h687 rfl rfl rfl fun a688 h688 => ?_; clear h687
           refine dsk 19 h688 rfl rfl rfl fun a689 h689 => ?_; clear h688
           refine dsk 20 h689 rfl rfl rfl fun a690 h690 => ?_; clear h689
           refine dsk 21 h690 rfl rfl rfl fun a691 h691 => ?_; clear h690
           refine dsk 22 h691 rfl rfl rfl fun a692 h692 => ?_; clear h691
           refine dsk 23 h692 rfl rfl rfl fun a693 h693 => ?_; clear h692
           refine dsk 24 h693 rfl rfl rfl fun a694 h694 => ?_; clear h693
           refine dsk 25 h694 rfl rfl rfl fun a695 h695 => ?_; clear h694
           refine dsk 26 h695 rfl rfl rfl fun a696 h696 => ?_; clear h695
           refine dsk 27 h696 rfl rfl rfl fun a697 h697 => ?_; clear h696
           refine dsk 28 h697 rfl rfl rfl fun a698 h698 => ?_; clear h697
           refine dsk 29 h698 rfl rfl rfl fun a699 h699 => ?_; clear h698
           refine dsk 30 h699 rfl rfl rfl fun a700 h700 => ?_; clear h699
           refine dsk 31 h700 rfl rfl rfl fun a701 h701 => ?_; clear h700
           refine dk0 32 (v := .bool false) h701 rfl rfl rfl fun a702 h702 => ?_; clear h701
           refine dr_done (by kernel_rfl) ?_
           refine co_then ?_
           refine co_false h702 rfl ?_
           refine wp_skip ?_
           refine co_then ?_
           refine co_seq ?_
           refine co_seq ?_
           refine co_reg ?_
           refine pk0 (v := .bool false) h702 rfl fun a703 h703 => ?_; clear h702
           refine pk0 (v := .bool false) h703 rfl fun a704 h704 => ?_; clear h703
           refine psk h704 rfl fun a705 h705 => ?_; clear h704
           refine psk h705 rfl fun a706 h706 => ?_; clear h705
           refine psk h706 rfl fun a707 h707 => ?_; clear h706
           refine psk h707 rfl fun a708 h708 => ?_; clear h707
           refine pk0 (v := .bool false) h708 rfl fun a709 h709 => ?_; clear h708
           refine pl_nil ?_
           refine co_then ?_
           refine co_false h709 rfl ?_
           refine co_reg ?_
           refine pk0 (v := pt b 0) h709 rfl fun a710 h710 => ?_; clear h709
           refine pk0 (v := .int .i64 ((j : Nat) : Int)) h710 rfl fun a711 h711 => ?_; clear h710
           refine pk (v := .agg #[.int .i64 c, .int .i64 r, v, .int .u64 ts]) h711 rfl (rn_loadN rfl rfl Try.underlying40 rfl (by kernel_rfl) hk665.all) fun a712 h712 => ?_; clear h711
           have hbad : badT (L.take ((j : Int) : Int).toNat) (EntT.mk c r (.slice none 0 0) l ts) = false := by first | exact bad_ts (by simp only []; omega) | exact badM_0 (by omega)
           have hnn := setE_n (i := ((j : Nat) : Int)) (by omega) (by assumption : (findN L (c, r)).getD 0 = _) (by first | exact .inl (hb629.trans hc649) | exact .inr (by omega))
           have hr719 := row_kept_new hr651 hg662
           have hE720 := hE655.new hg662
           have hk721 := hk644.kept hg662 (by simp)
           refine pw h712 rfl (op_call (args := #[pt b 0, .int .i64 ((j : Nat) : Int), .agg #[.int .i64 c, .int .i64 r, v, .int .u64 ts]]) (R := fun res xw => ∃ u2 v2, res = .tuple #[] ∧ LgP S w0.heap.size xw b M u2 (L.take ((j : Nat) : Int).toNat ++ [EntT.mk c r v2 l ts]) ∧ But (S) w0 xw) rfl rfl rfl (by kernel_rfl) (by kernel_rfl) (Try.call64 _ _) (lreplace_any w0 S b M u L ((j : Nat) : Int) c r v l ts w661 hB670 ⟨hk721, ⟨_, hM672⟩, hr719, hE720, hO.sb, hO.sM, hO.su, hO.uq, hO.len⟩ (by omega) hnn hs hvS hlen hts hen) (by rintro e x ⟨u2, v2, rfl, h1, _, h2⟩; exact ⟨_, rfl, u2, v2, rfl, h1, h2⟩)) ?_; clear h712
           rintro _ w714 a713 ⟨u717, v718, rfl, hO715, hB716⟩ h713
           refine pl_nil ?_
           refine co_then ?_
           refine co_seq ?_
           refine co_reg ?_
           refine pk0 (v := .int .i64 0) h713 rfl fun a722 h722 => ?_; clear h713
           refine pl_nil ?_
           refine co_then ?_
           refine wp_ret ?_
           refine co_ret1 h722 rfl rfl ?_
           have hb0 : badT (L.take ((j : Int) : Int).toNat) (EntT.mk c r (.slice none 0 0) l ts) = false := hbad
           have hE := setE_f (i := (j : Int)) (v := .slice none 0 0) (by omega) (by omega) (by omega) hnn hb0
           exact ⟨_, _, ret_int hE.symm, hO715, .inr ⟨hE, .inr ⟨findN_off (by assumption : (findN L (c, r)).getD 0 = _) hnn (by first | exact .inl (hb629.trans hc649) | exact .inr (by omega)), _, rfl⟩⟩, hB716⟩
          ·
           rw [hc669] at h668
           have hp723 : ts ≠ 0 := by first | simpa using hc669 | simpa [and_assoc] using hc669
           clear hc669
           refine dk0 4 (v := .int .i64 ((j : Nat) : Int)) h668 rfl rfl rfl fun a724 h724 => ?_; clear h668
           refine dk0 5 (v := .bool (decide (((j : Nat) : Int) > 0))) h724 rfl rfl rfl fun a725 h725 => ?_; clear h724
           refine dk0 6 (v := .bool (decide (((j : Nat) : Int) > 0))) h725 rfl rfl rfl fun a726 h726 => ?_; clear h725
           refine dk0 7 (v := .bool (decide (((j : Nat) : Int) > 0))) h726 rfl rfl rfl fun a727 h727 => ?_; clear h726
           cases hc728 : (decide (((j : Nat) : Int) > 0))
           ·
            rw [hc728] at h727
            have hp729 : ¬ (((j : Nat) : Int) > 0) := of_decide_eq_false hc728
            clear hc728
            refine dsk 8 h727 rfl rfl rfl fun a730 h730 => ?_; clear h727
            refine dsk 9 h730 rfl rfl rfl fun a731 h731 => ?_; clear h730
            refine dsk 10 h731 rfl rfl rfl fun a732 h732 => ?_; clear h731
            refine dsk 11 h732 rfl rfl rfl fun a733 h733 => ?_; clear h732
            refine dsk 12 h733 rfl rfl rfl fun a734 h734 => ?_; clear h733
            refine dsk 13 h734 rfl rfl rfl fun a735 h735 => ?_; clear h734
            refine dsk 14 h735 rfl rfl rfl fun a736 h736 => ?_; clear h735
            refine dsk 15 h736 rfl rfl rfl fun a737 h737 => ?_; clear h736
            refine dsk 16 h737 rfl rfl rfl fun a738 h738 => ?_; clear h737
            refine dsk 17 h738 rfl rfl rfl fun a739 h739 => ?_; clear h738
            refine dsk 18 h739 rfl rfl rfl fun a740 h740 => ?_; clear h739
            refine dsk 19 h740 rfl rfl rfl fun a741 h741 => ?_; clear h740
            refine dsk 20 h741 rfl rfl rfl fun a742 h742 => ?_; clear h741
            refine dsk 21 h742 rfl rfl rfl fun a743 h743 => ?_; clear h742
            refine dsk 22 h743 rfl rfl rfl fun a744 h744 => ?_; clear h743
            refine dsk 23 h744 rfl rfl rfl fun a745 h745 => ?_; clear h744
            refine dsk 24 h745 rfl rfl rfl fun a746 h746 => ?_; clear h745
            refine dsk 25 h746 rfl rfl rfl fun a747 h747 => ?_; clear h746
            refine dsk 26 h747 rfl rfl rfl fun a748 h748 => ?_; clear h747
            refine dsk 27 h748 rfl rfl rfl fun a749 h749 => ?_; clear h748
            refine dsk 28 h749 rfl rfl rfl fun a750 h750 => ?_; clear h749
            refine dsk 29 h750 rfl rfl rfl fun a751 h751 => ?_; clear h750
            refine dsk 30 h751 rfl rfl rfl fun a752 h752 => ?_; clear h751
            refine dsk 31 h752 rfl rfl rfl fun a753 h753 => ?_; clear h752
            refine dk0 32 (v := .bool false) h753 rfl rfl rfl fun a754 h754 => ?_; clear h753
            refine dr_done (by kernel_rfl) ?_
            refine co_then ?_
            refine co_false h754 rfl ?_
            refine wp_skip ?_
            refine co_then ?_
            refine co_seq ?_
            refine co_seq ?_
            refine co_reg ?_
            refine pk0 (v := .bool false) h754 rfl fun a755 h755 => ?_; clear h754
            refine pk0 (v := .bool false) h755 rfl fun a756 h756 => ?_; clear h755
            refine psk h756 rfl fun a757 h757 => ?_; clear h756
            refine psk h757 rfl fun a758 h758 => ?_; clear h757
            refine psk h758 rfl fun a759 h759 => ?_; clear h758
            refine psk h759 rfl fun a760 h760 => ?_; clear h759
            refine pk0 (v := .bool false) h760 rfl fun a761 h761 => ?_; clear h760
            refine pl_nil ?_
            refine co_then ?_
            refine co_false h761 rfl ?_
            refine co_reg ?_
            refine pk0 (v := pt b 0) h761 rfl fun a762 h762 => ?_; clear h761
            refine pk0 (v := .int .i64 ((j : Nat) : Int)) h762 rfl fun a763 h763 => ?_; clear h762
            refine pk (v := .agg #[.int .i64 c, .int .i64 r, v, .int .u64 ts]) h763 rfl (rn_loadN rfl rfl Try.underlying40 rfl (by kernel_rfl) hk665.all) fun a764 h764 => ?_; clear h763
            have hbad : badT (L.take ((j : Int) : Int).toNat) (EntT.mk c r (.slice none 0 0) l ts) = false := by first | exact bad_ts (by simp only []; omega) | exact badM_0 (by omega)
            have hnn := setE_n (i := ((j : Nat) : Int)) (by omega) (by assumption : (findN L (c, r)).getD 0 = _) (by first | exact .inl (hb629.trans hc649) | exact .inr (by omega))
            have hr771 := row_kept_new hr651 hg662
            have hE772 := hE655.new hg662
            have hk773 := hk644.kept hg662 (by simp)
            refine pw h764 rfl (op_call (args := #[pt b 0, .int .i64 ((j : Nat) : Int), .agg #[.int .i64 c, .int .i64 r, v, .int .u64 ts]]) (R := fun res xw => ∃ u2 v2, res = .tuple #[] ∧ LgP S w0.heap.size xw b M u2 (L.take ((j : Nat) : Int).toNat ++ [EntT.mk c r v2 l ts]) ∧ But (S) w0 xw) rfl rfl rfl (by kernel_rfl) (by kernel_rfl) (Try.call64 _ _) (lreplace_any w0 S b M u L ((j : Nat) : Int) c r v l ts w661 hB670 ⟨hk773, ⟨_, hM672⟩, hr771, hE772, hO.sb, hO.sM, hO.su, hO.uq, hO.len⟩ (by omega) hnn hs hvS hlen hts hen) (by rintro e x ⟨u2, v2, rfl, h1, _, h2⟩; exact ⟨_, rfl, u2, v2, rfl, h1, h2⟩)) ?_; clear h764
            rintro _ w766 a765 ⟨u769, v770, rfl, hO767, hB768⟩ h765
            refine pl_nil ?_
            refine co_then ?_
            refine co_seq ?_
            refine co_reg ?_
            refine pk0 (v := .int .i64 0) h765 rfl fun a774 h774 => ?_; clear h765
            refine pl_nil ?_
            refine co_then ?_
            refine wp_ret ?_
            refine co_ret1 h774 rfl rfl ?_
            have hb0 : badT (L.take ((j : Int) : Int).toNat) (EntT.mk c r (.slice none 0 0) l ts) = false := hbad
            have hE := setE_f (i := (j : Int)) (v := .slice none 0 0) (by omega) (by omega) (by omega) hnn hb0
            exact ⟨_, _, ret_int hE.symm, hO767, .inr ⟨hE, .inr ⟨findN_off (by assumption : (findN L (c, r)).getD 0 = _) hnn (by first | exact .inl (hb629.trans hc649) | exact .inr (by omega)), _, rfl⟩⟩, hB768⟩
           ·
            rw [hc728] at h727
            have hp775 : ((j : Nat) : Int) > 0 := of_decide_eq_true hc728
            clear hc728
            refine dk0 8 (v := pt b 0) h727 rfl rfl rfl fun a776 h776 => ?_; clear h727
            refine dk0 9 (v := pt b 0) h776 rfl rfl rfl fun a777 h777 => ?_; clear h776
            refine dk0 10 (v := pt b 1) h777 rfl rfl rfl fun a778 h778 => ?_; clear h777
            have hk779 := hk644.kept hg662 (by simp)
            refine dk 11 (v := u) h778 rfl rfl rfl (fun x hx => by subst hx; exact (rn_load1 rfl rfl Try.isAgg48 (hk779.cell rfl))) fun a780 h780 => ?_; clear h778
            refine dk0 12 (v := .int .i64 ((j : Nat) : Int)) h780 rfl rfl rfl fun a781 h781 => ?_; clear h780
            refine dk 13 (v := .int .i64 (((j : Nat) : Int) - 1)) h781 rfl rfl rfl (fun x hx => by subst hx; exact (rn_arith rfl rfl rfl rfl rfl rfl (IntWalk.i64_in _ (by omega)))) fun a782 h782 => ?_; clear h781
            have hE785 := hE655.new hg662
            have hr791 := row_kept_new hr651 hg662
            obtain ⟨y783, hy783⟩ : ∃ z, L[(((j : Nat) : Int) - 1).toNat]? = some z := ⟨_, List.getElem?_eq_getElem (by first | omega | (simp; done) | (simp; omega))⟩
            have oky783 := (fun (z : EntT) (_ : z ∈ L) => trivial) _ (List.mem_of_getElem? hy783)
            have hy784 := hE785.at hy783
            have hq786 := hy784.ts0; have hq787 := hy784.ts1; have hq788 := hy784.len; have hq789 := wf_i64 hy784.cl; have hq790 := wf_i64 hy784.rq
            refine dk 14 (v := pt (blkOf u) (offOf u + ((((j : Nat) : Int) - 1).toNat) * 4)) h782 rfl rfl rfl (fun x hx => by subst hx; exact (rn_index rfl rfl rfl Try.underlying48 Try.sizeOf40 (row_sl hr791 entE_len) (by omega) (by first | omega | (simp; done) | (simp; omega)))) fun a792 h792 => ?_; clear h782
            refine dk0 15 (v := pt (blkOf u) (offOf u + ((((j : Nat) : Int) - 1).toNat) * 4 + 3)) h792 rfl rfl rfl fun a793 h793 => ?_; clear h792
            refine dk 16 (v := .int .u64 y783.ts) h793 rfl rfl rfl (fun x hx => by subst hx; exact (rn_load1 rfl rfl Try.isAgg27 ((sl_at (row_sl hr791 entE_len) hy783) 3 _ rfl))) fun a794 h794 => ?_; clear h793
            refine dk0 17 (v := .bool (y783.ts == 0)) h794 rfl rfl rfl fun a795 h795 => ?_; clear h794
            refine dk0 18 (v := .bool (y783.ts == 0)) h795 rfl rfl rfl fun a796 h796 => ?_; clear h795
            cases hc797 : (y783.ts == 0)
            ·
             rw [hc797] at h796
             have hp798 : ¬ (y783.ts = 0) := by first | simpa using hc797 | simpa [and_assoc] using hc797
             clear hc797
             refine dk0 19 (v := pt b 0) h796 rfl rfl rfl fun a799 h799 => ?_; clear h796
             refine dk0 20 (v := pt b 0) h799 rfl rfl rfl fun a800 h800 => ?_; clear h799
             refine dk0 21 (v := pt b 1) h800 rfl rfl rfl fun a801 h801 => ?_; clear h800
             refine dk 22 (v := u) h801 rfl rfl rfl (fun x hx => by subst hx; exact (rn_load1 rfl rfl Try.isAgg48 (hk779.cell rfl))) fun a802 h802 => ?_; clear h801
             refine dk0 23 (v := .int .i64 ((j : Nat) : Int)) h802 rfl rfl rfl fun a803 h803 => ?_; clear h802
             refine dk 24 (v := .int .i64 (((j : Nat) : Int) - 1)) h803 rfl rfl rfl (fun x hx => by subst hx; exact (rn_arith rfl rfl rfl rfl rfl rfl (IntWalk.i64_in _ (by omega)))) fun a804 h804 => ?_; clear h803
             refine dk 25 (v := pt (blkOf u) (offOf u + ((((j : Nat) : Int) - 1).toNat) * 4)) h804 rfl rfl rfl (fun x hx => by subst hx; exact (rn_index rfl rfl rfl Try.underlying48 Try.sizeOf40 (row_sl hr791 entE_len) (by omega) (by first | omega | (simp; done) | (simp; omega)))) fun a805 h805 => ?_; clear h804
             refine dk0 26 (v := pt (blkOf u) (offOf u + ((((j : Nat) : Int) - 1).toNat) * 4 + 3)) h805 rfl rfl rfl fun a806 h806 => ?_; clear h805
             refine dk 27 (v := .int .u64 y783.ts) h806 rfl rfl rfl (fun x hx => by subst hx; exact (rn_load1 rfl rfl Try.isAgg27 ((sl_at (row_sl hr791 entE_len) hy783) 3 _ rfl))) fun a807 h807 => ?_; clear h806
             refine dk0 28 (v := pt N42 3) h807 rfl rfl rfl fun a808 h808 => ?_; clear h807
             refine dk 29 (v := .int .u64 ts) h808 rfl rfl rfl (fun x hx => by subst hx; exact (rn_load1 rfl rfl Try.isAgg27 (hk665.cell rfl))) fun a809 h809 => ?_; clear h808
             refine dk0 30 (v := .bool (decide (y783.ts ≥ ts))) h809 rfl rfl rfl fun a810 h810 => ?_; clear h809
             refine dk0 31 (v := .bool (decide (y783.ts ≥ ts))) h810 rfl rfl rfl fun a811 h811 => ?_; clear h810
             refine dk0 32 (v := .bool (decide (y783.ts ≥ ts))) h811 rfl rfl rfl fun a812 h812 => ?_; clear h811
             refine dr_done (by kernel_rfl) ?_
             refine co_then ?_
             cases hc813 : (decide (y783.ts ≥ ts))
             ·
              rw [hc813] at h812
              have hp814 : ¬ (y783.ts ≥ ts) := of_decide_eq_false hc813
              clear hc813
              refine co_false h812 rfl ?_
              refine wp_skip ?_
              refine co_then ?_
              refine co_seq ?_
              refine co_seq ?_
              refine co_reg ?_
              refine pk0 (v := .bool false) h812 rfl fun a815 h815 => ?_; clear h812
              refine pk0 (v := .bool false) h815 rfl fun a816 h816 => ?_; clear h815
              refine psk h816 rfl fun a817 h817 => ?_; clear h816
              refine psk h817 rfl fun a818 h818 => ?_; clear h817
              refine psk h818 rfl fun a819 h819 => ?_; clear h818
              refine psk h819 rfl fun a820 h820 => ?_; clear h819
              refine pk0 (v := .bool false) h820 rfl fun a821 h821 => ?_; clear h820
              refine pl_nil ?_
              refine co_then ?_
              refine co_false h821 rfl ?_
              refine co_reg ?_
              refine pk0 (v := pt b 0) h821 rfl fun a822 h822 => ?_; clear h821
              refine pk0 (v := .int .i64 ((j : Nat) : Int)) h822 rfl fun a823 h823 => ?_; clear h822
              refine pk (v := .agg #[.int .i64 c, .int .i64 r, v, .int .u64 ts]) h823 rfl (rn_loadN rfl rfl Try.underlying40 rfl (by kernel_rfl) hk665.all) fun a824 h824 => ?_; clear h823
              have hbad : badT (L.take ((j : Int) : Int).toNat) (EntT.mk c r (.slice none 0 0) l ts) = false := by rw [bad_at (j := (((j : Nat) : Int) - 1).toNat) (by omega) (by omega) hy783]; exact decide_eq_false (by simp only []; omega)
              have hnn := setE_n (i := ((j : Nat) : Int)) (by omega) (by assumption : (findN L (c, r)).getD 0 = _) (by first | exact .inl (hb629.trans hc649) | exact .inr (by omega))
              refine pw h824 rfl (op_call (args := #[pt b 0, .int .i64 ((j : Nat) : Int), .agg #[.int .i64 c, .int .i64 r, v, .int .u64 ts]]) (R := fun res xw => ∃ u2 v2, res = .tuple #[] ∧ LgP S w0.heap.size xw b M u2 (L.take ((j : Nat) : Int).toNat ++ [EntT.mk c r v2 l ts]) ∧ But (S) w0 xw) rfl rfl rfl (by kernel_rfl) (by kernel_rfl) (Try.call64 _ _) (lreplace_any w0 S b M u L ((j : Nat) : Int) c r v l ts w661 hB670 ⟨hk779, ⟨_, hM672⟩, hr791, hE785, hO.sb, hO.sM, hO.su, hO.uq, hO.len⟩ (by omega) hnn hs hvS hlen hts hen) (by rintro e x ⟨u2, v2, rfl, h1, _, h2⟩; exact ⟨_, rfl, u2, v2, rfl, h1, h2⟩)) ?_; clear h824
              rintro _ w826 a825 ⟨u829, v830, rfl, hO827, hB828⟩ h825
              refine pl_nil ?_
              refine co_then ?_
              refine co_seq ?_
              refine co_reg ?_
              refine pk0 (v := .int .i64 0) h825 rfl fun a831 h831 => ?_; clear h825
              refine pl_nil ?_
              refine co_then ?_
              refine wp_ret ?_
              refine co_ret1 h831 rfl rfl ?_
              have hb0 : badT (L.take ((j : Int) : Int).toNat) (EntT.mk c r (.slice none 0 0) l ts) = false := hbad
              have hE := setE_f (i := (j : Int)) (v := .slice none 0 0) (by omega) (by omega) (by omega) hnn hb0
              exact ⟨_, _, ret_int hE.symm, hO827, .inr ⟨hE, .inr ⟨findN_off (by assumption : (findN L (c, r)).getD 0 = _) hnn (by first | exact .inl (hb629.trans hc649) | exact .inr (by omega)), _, rfl⟩⟩, hB828⟩
             ·
              rw [hc813] at h812
              have hp832 : y783.ts ≥ ts := of_decide_eq_true hc813
              clear hc813
              refine co_true h812 rfl ?_
              refine co_seq ?_
              refine co_reg ?_
              refine pk0 (v := .int .i64 18) h812 rfl fun a833 h833 => ?_; clear h812
              refine pl_nil ?_
              refine co_then ?_
              refine wp_ret ?_
              refine co_thenR ?_
              refine co_ret1 h833 rfl rfl ?_
              have hE : setE L (j : Int) c r l ts = 18 := setE_e (v := .slice none 0 0) (by omega) (by omega) (by omega) (setE_n (by omega) (by assumption : (findN L (c, r)).getD 0 = _) (by first | exact .inl (hb629.trans hc649) | exact .inr (by omega))) (by rw [bad_at (j := (((j : Nat) : Int) - 1).toNat) (by omega) (by omega) hy783]; exact decide_eq_true (by simp only []; omega))
              exact ⟨_, _, ret_int hE.symm, ⟨hk779, ⟨_, hM672⟩, hr791, hE785, hO.sb, hO.sM, hO.su, hO.uq, hO.len⟩, .same (by rw [hE]; omega), hB670⟩
            ·
             rw [hc797] at h796
             have hp834 : y783.ts = 0 := by first | simpa using hc797 | simpa [and_assoc] using hc797
             clear hc797
             refine dsk 19 h796 rfl rfl rfl fun a835 h835 => ?_; clear h796
             refine dsk 20 h835 rfl rfl rfl fun a836 h836 => ?_; clear h835
             refine dsk 21 h836 rfl rfl rfl fun a837 h837 => ?_; clear h836
             refine dsk 22 h837 rfl rfl rfl fun a838 h838 => ?_; clear h837
             refine dsk 23 h838 rfl rfl rfl fun a839 h839 => ?_; clear h838
             refine dsk 24 h839 rfl rfl rfl fun a840 h840 => ?_; clear h839
             refine dsk 25 h840 rfl rfl rfl fun a841 h841 => ?_; clear h840
             refine dsk 26 h841 rfl rfl rfl fun a842 h842 => ?_; clear h841
             refine dsk 27 h842 rfl rfl rfl fun a843 h843 => ?_; clear h842
             refine dsk 28 h843 rfl rfl rfl fun a844 h844 => ?_; clear h843
             refine dsk 29 h844 rfl rfl rfl fun a845 h845 => ?_; clear h844
             refine dsk 30 h845 rfl rfl rfl fun a846 h846 => ?_; clear h845
             refine dk0 31 (v := .bool true) h846 rfl rfl rfl fun a847 h847 => ?_; clear h846
             refine dk0 32 (v := .bool true) h847 rfl rfl rfl fun a848 h848 => ?_; clear h847
             refine dr_done (by kernel_rfl) ?_
             refine co_then ?_
             refine co_true h848 rfl ?_
             refine co_seq ?_
             refine co_reg ?_
             refine pk0 (v := .int .i64 18) h848 rfl fun a849 h849 => ?_; clear h848
             refine pl_nil ?_
             refine co_then ?_
             refine wp_ret ?_
             refine co_thenR ?_
             refine co_ret1 h849 rfl rfl ?_
             have hE : setE L (j : Int) c r l ts = 18 := setE_e (v := .slice none 0 0) (by omega) (by omega) (by omega) (setE_n (by omega) (by assumption : (findN L (c, r)).getD 0 = _) (by first | exact .inl (hb629.trans hc649) | exact .inr (by omega))) (by rw [bad_at (j := (((j : Nat) : Int) - 1).toNat) (by omega) (by omega) hy783]; exact decide_eq_true (by simp only []; omega))
             exact ⟨_, _, ret_int hE.symm, ⟨hk779, ⟨_, hM672⟩, hr791, hE785, hO.sb, hO.sM, hO.su, hO.uq, hO.len⟩, .same (by rw [hE]; omega), hB670⟩
         ·
          rw [hc649] at h648
          refine pk0 (v := pt N612 0) h648 rfl fun a850 h850 => ?_; clear h648
          refine pk (v := .int .i64 f626) h850 rfl (rn_load1 rfl rfl Try.isAgg3 (hk639'.cell rfl)) fun a851 h851 => ?_; clear h850
          refine pk0 (v := .int .i64 ((j : Nat) : Int)) h851 rfl fun a852 h852 => ?_; clear h851
          refine pk0 (v := .bool (decide (f626 < ((j : Nat) : Int)))) h852 rfl fun a853 h853 => ?_; clear h852
          refine pk0 (v := .bool (decide (f626 < ((j : Nat) : Int)))) h853 rfl fun a854 h854 => ?_; clear h853
          refine pl_nil ?_
          refine co_then ?_
          cases hc855 : (decide (f626 < ((j : Nat) : Int)))
          ·
           rw [hc855] at h854
           have hp856 : ¬ (f626 < ((j : Nat) : Int)) := of_decide_eq_false hc855
           clear hc855
           refine co_false h854 rfl ?_
           refine wp_skip ?_
           refine co_then ?_
           refine co_seq ?_
           refine co_seq ?_
           refine dr_eq (by kernel_rfl) (fun w857 hg858 => ?_)
           have hz859 := hg858.size
           refine dk0 0 (v := pt N42 3) h854 rfl rfl rfl fun a860 h860 => ?_; clear h854
           have hk861 := hk645.kept hg858 (by simp)
           refine dk 1 (v := .int .u64 ts) h860 rfl rfl rfl (fun x hx => by subst hx; exact (rn_load1 rfl rfl Try.isAgg27 (hk861.cell rfl))) fun a862 h862 => ?_; clear h860
           refine dk0 2 (v := .bool (ts != 0)) h862 rfl rfl rfl fun a863 h863 => ?_; clear h862
           refine dk0 3 (v := .bool (ts != 0)) h863 rfl rfl rfl fun a864 h864 => ?_; clear h863
           have hB866 := fbU_new hB643 hg858
           have hM867 := hM632.kept hg641 (by simp; omega)
           have hM868 := hM867.kept hg858 (by simp)
           cases hc865 : (ts != 0)
           ·
            rw [hc865] at h864
            have hp869 : ¬ (ts ≠ 0) := by first | simpa using hc865 | simpa [and_assoc] using hc865
            clear hc865
            refine dsk 4 h864 rfl rfl rfl fun a870 h870 => ?_; clear h864
            refine dsk 5 h870 rfl rfl rfl fun a871 h871 => ?_; clear h870
            refine dk0 6 (v := .bool false) h871 rfl rfl rfl fun a872 h872 => ?_; clear h871
            refine dk0 7 (v := .bool false) h872 rfl rfl rfl fun a873 h873 => ?_; clear h872
            refine dsk 8 h873 rfl rfl rfl fun a874 h874 => ?_; clear h873
            refine dsk 9 h874 rfl rfl rfl fun a875 h875 => ?_; clear h874
            refine dsk 10 h875 rfl rfl rfl fun a876 h876 => ?_; clear h875
            refine dsk 11 h876 rfl rfl rfl fun a877 h877 => ?_; clear h876
            refine dsk 12 h877 rfl rfl rfl fun a878 h878 => ?_; clear h877
            refine dsk 13 h878 rfl rfl rfl fun a879 h879 => ?_; clear h878
            refine dsk 14 h879 rfl rfl rfl fun a880 h880 => ?_; clear h879
            refine dsk 15 h880 rfl rfl rfl fun a881 h881 => ?_; clear h880
            refine dsk 16 h881 rfl rfl rfl fun a882 h882 => ?_; clear h881
            refine dsk 17 h882 rfl rfl rfl fun a883 h883 => ?_; clear h882
            refine dsk 18 h883 rfl rfl rfl fun a884 h884 => ?_; clear h883
            refine dsk 19 h884 rfl rfl rfl fun a885 h885 => ?_; clear h884
            refine dsk 20 h885 rfl rfl rfl fun a886 h886 => ?_; clear h885
            refine dsk 21 h886 rfl rfl rfl fun a887 h887 => ?_; clear h886
            refine dsk 22 h887 rfl rfl rfl fun a888 h888 => ?_; clear h887
            refine dsk 23 h888 rfl rfl rfl fun a889 h889 => ?_; clear h888
            refine dsk 24 h889 rfl rfl rfl fun a890 h890 => ?_; clear h889
            refine dsk 25 h890 rfl rfl rfl fun a891 h891 => ?_; clear h890
            refine dsk 26 h891 rfl rfl rfl fun a892 h892 => ?_; clear h891
            refine dsk 27 h892 rfl rfl rfl fun a893 h893 => ?_; clear h892
            refine dsk 28 h893 rfl rfl rfl fun a894 h894 => ?_; clear h893
            refine dsk 29 h894 rfl rfl rfl fun a895 h895 => ?_; clear h894
            refine dsk 30 h895 rfl rfl rfl fun a896 h896 => ?_; clear h895
            refine dsk 31 h896 rfl rfl rfl fun a897 h897 => ?_; clear h896
            refine dk0 32 (v := .bool false) h897 rfl rfl rfl fun a898 h898 => ?_; clear h897
            refine dr_done (by kernel_rfl) ?_
            refine co_then ?_
            refine co_false h898 rfl ?_
            refine wp_skip ?_
            refine co_then ?_
            refine co_seq ?_
            refine co_seq ?_
            refine co_reg ?_
            refine pk0 (v := .bool true) h898 rfl fun a899 h899 => ?_; clear h898
            refine pk0 (v := .bool true) h899 rfl fun a900 h900 => ?_; clear h899
            refine pk0 (v := pt N612 0) h900 rfl fun a901 h901 => ?_; clear h900
            have hk902 := hk639'.kept hg858 (by simp)
            refine pk (v := .int .i64 f626) h901 rfl (rn_load1 rfl rfl Try.isAgg3 (hk902.cell rfl)) fun a903 h903 => ?_; clear h901
            refine pk0 (v := .int .i64 ((j : Nat) : Int)) h903 rfl fun a904 h904 => ?_; clear h903
            refine pk0 (v := .bool (f626 == ((j : Nat) : Int))) h904 rfl fun a905 h905 => ?_; clear h904
            refine pk0 (v := .bool (f626 == ((j : Nat) : Int))) h905 rfl fun a906 h906 => ?_; clear h905
            refine pl_nil ?_
            refine co_then ?_
            cases hc907 : (f626 == ((j : Nat) : Int))
            ·
             rw [hc907] at h906
             have hp908 : ¬ (f626 = ((j : Nat) : Int)) := by first | simpa using hc907 | simpa [and_assoc] using hc907
             clear hc907
             refine co_false h906 rfl ?_
             refine co_reg ?_
             refine pk0 (v := pt b 0) h906 rfl fun a909 h909 => ?_; clear h906
             refine pk0 (v := .int .i64 ((j : Nat) : Int)) h909 rfl fun a910 h910 => ?_; clear h909
             refine pk (v := .agg #[.int .i64 c, .int .i64 r, v, .int .u64 ts]) h910 rfl (rn_loadN rfl rfl Try.underlying40 rfl (by kernel_rfl) hk861.all) fun a911 h911 => ?_; clear h910
             have hbad : badT (L.take ((j : Int) : Int).toNat) (EntT.mk c r (.slice none 0 0) l ts) = false := by first | exact bad_ts (by simp only []; omega) | exact badM_0 (by omega)
             have hnn := setE_n (i := ((j : Nat) : Int)) (by omega) (by assumption : (findN L (c, r)).getD 0 = _) (by first | exact .inl (hb629.trans hc649) | exact .inr (by omega))
             have hr918 := row_kept_new hr651 hg858
             have hE919 := hE655.new hg858
             have hk920 := hk644.kept hg858 (by simp)
             refine pw h911 rfl (op_call (args := #[pt b 0, .int .i64 ((j : Nat) : Int), .agg #[.int .i64 c, .int .i64 r, v, .int .u64 ts]]) (R := fun res xw => ∃ u2 v2, res = .tuple #[] ∧ LgP S w0.heap.size xw b M u2 (L.take ((j : Nat) : Int).toNat ++ [EntT.mk c r v2 l ts]) ∧ But (S) w0 xw) rfl rfl rfl (by kernel_rfl) (by kernel_rfl) (Try.call64 _ _) (lreplace_any w0 S b M u L ((j : Nat) : Int) c r v l ts w857 hB866 ⟨hk920, ⟨_, hM868⟩, hr918, hE919, hO.sb, hO.sM, hO.su, hO.uq, hO.len⟩ (by omega) hnn hs hvS hlen hts hen) (by rintro e x ⟨u2, v2, rfl, h1, _, h2⟩; exact ⟨_, rfl, u2, v2, rfl, h1, h2⟩)) ?_; clear h911
             rintro _ w913 a912 ⟨u916, v917, rfl, hO914, hB915⟩ h912
             refine pl_nil ?_
             refine co_then ?_
             refine co_seq ?_
             refine co_reg ?_
             refine pk0 (v := .int .i64 0) h912 rfl fun a921 h921 => ?_; clear h912
             refine pl_nil ?_
             refine co_then ?_
             refine wp_ret ?_
             refine co_ret1 h921 rfl rfl ?_
             have hb0 : badT (L.take ((j : Int) : Int).toNat) (EntT.mk c r (.slice none 0 0) l ts) = false := hbad
             have hE := setE_f (i := (j : Int)) (v := .slice none 0 0) (by omega) (by omega) (by omega) hnn hb0
             exact ⟨_, _, ret_int hE.symm, hO914, .inr ⟨hE, .inr ⟨findN_off (by assumption : (findN L (c, r)).getD 0 = _) hnn (by first | exact .inl (hb629.trans hc649) | exact .inr (by omega)), _, rfl⟩⟩, hB915⟩
            ·
             rw [hc907] at h906
             have hp922 : f626 = ((j : Nat) : Int) := by first | simpa using hc907 | simpa [and_assoc] using hc907
             clear hc907
             refine co_true h906 rfl ?_
             refine co_reg ?_
             refine pk0 (v := pt b 0) h906 rfl fun a923 h923 => ?_; clear h906
             refine pk0 (v := .int .i64 ((j : Nat) : Int)) h923 rfl fun a924 h924 => ?_; clear h923
             refine pk0 (v := pt N42 3) h924 rfl fun a925 h925 => ?_; clear h924
             refine pk (v := .int .u64 ts) h925 rfl (rn_load1 rfl rfl Try.isAgg27 (hk861.cell rfl)) fun a926 h926 => ?_; clear h925
             have hnn := setE_n (i := (j : Int)) (by omega) (by assumption : (findN L (c, r)).getD 0 = _) (by first | exact .inl (hb629.trans hc649) | exact .inr (by omega))
             have hjl := findN_atl (findN_at (j := j) (by first | exact hb629.trans hc649) (by assumption : (findN L (c, r)).getD 0 = _) (by omega))
             have hbad : badT (L.take ((j : Int) : Int).toNat) (EntT.mk c r (.slice none 0 0) l ts) = false := by first | exact bad_ts (by simp only []; omega) | exact badM_0 (by omega)
             have hr931 := row_kept_new hr651 hg858
             have hE932 := hE655.new hg858
             have hk933 := hk644.kept hg858 (by simp)
             refine pw h926 rfl (op_call (args := #[pt b 0, .int .i64 ((j : Nat) : Int), .int .u64 ts]) (R := fun res xw => res = .tuple #[] ∧ LgP S w0.heap.size xw b M u (restF L ((j : Nat) : Int).toNat ts) ∧ But (S) w0 xw) rfl rfl rfl (by kernel_rfl) (by kernel_rfl) (Try.call63 _ _) (lrestamp_any w0 S b M u L ((j : Nat) : Int) ts w857 hB866 ⟨hk933, ⟨_, hM868⟩, hr931, hE932, hO.sb, hO.sM, hO.su, hO.uq, hO.len⟩ (by omega) (by omega)) (by rintro e x ⟨rfl, h1, h2⟩; exact ⟨_, rfl, rfl, h1, h2⟩)) ?_; clear h926
             rintro _ w928 a927 ⟨rfl, hO929, hB930⟩ h927
             refine pl_nil ?_
             refine co_then ?_
             refine co_seq ?_
             refine co_reg ?_
             refine pk0 (v := .int .i64 0) h927 rfl fun a934 h934 => ?_; clear h927
             refine pl_nil ?_
             refine co_then ?_
             refine wp_ret ?_
             refine co_ret1 h934 rfl rfl ?_
             have hb0 : badT (L.take ((j : Int) : Int).toNat) (EntT.mk c r (.slice none 0 0) l ts) = false := hbad
             have hE := setE_f (i := (j : Int)) (v := .slice none 0 0) (by omega) (by omega) (by omega) hnn hb0
             exact ⟨_, _, ret_int hE.symm, hO929, .inr ⟨hE, .inl ⟨findN_at (by first | exact hb629.trans hc649) (by assumption : (findN L (c, r)).getD 0 = _) (by omega), rfl⟩⟩, hB930⟩
           ·
            rw [hc865] at h864
            have hp935 : ts ≠ 0 := by first | simpa using hc865 | simpa [and_assoc] using hc865
            clear hc865
            refine dk0 4 (v := .int .i64 ((j : Nat) : Int)) h864 rfl rfl rfl fun a936 h936 => ?_; clear h864
            refine dk0 5 (v := .bool (decide (((j : Nat) : Int) > 0))) h936 rfl rfl rfl fun a937 h937 => ?_; clear h936
            refine dk0 6 (v := .bool (decide (((j : Nat) : Int) > 0))) h937 rfl rfl rfl fun a938 h938 => ?_; clear h937
            refine dk0 7 (v := .bool (decide (((j : Nat) : Int) > 0))) h938 rfl rfl rfl fun a939 h939 => ?_; clear h938
            cases hc940 : (decide (((j : Nat) : Int) > 0))
            ·
             rw [hc940] at h939
             have hp941 : ¬ (((j : Nat) : Int) > 0) := of_decide_eq_false hc940
             clear hc940
             refine dsk 8 h939 rfl rfl rfl fun a942 h942 => ?_; clear h939
             refine dsk 9 h942 rfl rfl rfl fun a943 h943 => ?_; clear h942
             refine dsk 10 h943 rfl rfl rfl fun a944 h944 => ?_; clear h943
             refine dsk 11 h944 rfl rfl rfl fun a945 h945 => ?_; clear h944
             refine dsk 12 h945 rfl rfl rfl fun a946 h946 => ?_; clear h945
             refine dsk 13 h946 rfl rfl rfl fun a947 h947 => ?_; clear h946
             refine dsk 14 h947 rfl rfl rfl fun a948 h948 => ?_; clear h947
             refine dsk 15 h948 rfl rfl rfl fun a949 h949 => ?_; clear h948
             refine dsk 16 h949 rfl rfl rfl fun a950 h950 => ?_; clear h949
             refine dsk 17 h950 rfl rfl rfl fun a951 h951 => ?_; clear h950
             refine dsk 18 h951 rfl rfl rfl fun a952 h952 => ?_; clear h951
             refine dsk 19 h952 rfl rfl rfl fun a953 h953 => ?_; clear h952
             refine dsk 20 h953 rfl rfl rfl fun a954 h954 => ?_; clear h953
             refine dsk 21 h954 rfl rfl rfl fun a955 h955 => ?_; clear h954
             refine dsk 22 h955 rfl rfl rfl fun a956 h956 => ?_; clear h955
             refine dsk 23 h956 rfl rfl rfl fun a957 h957 => ?_; clear h956
             refine dsk 24 h957 rfl rfl rfl fun a958 h958 => ?_; clear h957
             refine dsk 25 h958 rfl rfl rfl fun a959 h959 => ?_; clear h958
             refine dsk 26 h959 rfl rfl rfl fun a960 h960 => ?_; clear h959
             refine dsk 27 h960 rfl rfl rfl fun a961 h961 => ?_; clear h960
             refine dsk 28 h961 rfl rfl rfl fun a962 h962 => ?_; clear h961
             refine dsk 29 h962 rfl rfl rfl fun a963 h963 => ?_; clear h962
             refine dsk 30 h963 rfl rfl rfl fun a964 h964 => ?_; clear h963
             refine dsk 31 h964 rfl rfl rfl fun a965 h965 => ?_; clear h964
             refine dk0 32 (v := .bool false) h965 rfl rfl rfl fun a966 h966 => ?_; clear h965
             refine dr_done (by kernel_rfl) ?_
             refine co_then ?_
             refine co_false h966 rfl ?_
             refine wp_skip ?_
             refine co_then ?_
             refine co_seq ?_
             refine co_seq ?_
             refine co_reg ?_
             refine pk0 (v := .bool true) h966 rfl fun a967 h967 => ?_; clear h966
             refine pk0 (v := .bool true) h967 rfl fun a968 h968 => ?_; clear h967
             refine pk0 (v := pt N612 0) h968 rfl fun a969 h969 => ?_; clear h968
             have hk970 := hk639'.kept hg858 (by simp)
             refine pk (v := .int .i64 f626) h969 rfl (rn_load1 rfl rfl Try.isAgg3 (hk970.cell rfl)) fun a971 h971 => ?_; clear h969
             refine pk0 (v := .int .i64 ((j : Nat) : Int)) h971 rfl fun a972 h972 => ?_; clear h971
             refine pk0 (v := .bool (f626 == ((j : Nat) : Int))) h972 rfl fun a973 h973 => ?_; clear h972
             refine pk0 (v := .bool (f626 == ((j : Nat) : Int))) h973 rfl fun a974 h974 => ?_; clear h973
             refine pl_nil ?_
             refine co_then ?_
             cases hc975 : (f626 == ((j : Nat) : Int))
             ·
              rw [hc975] at h974
              have hp976 : ¬ (f626 = ((j : Nat) : Int)) := by first | simpa using hc975 | simpa [and_assoc] using hc975
              clear hc975
              refine co_false h974 rfl ?_
              refine co_reg ?_
              refine pk0 (v := pt b 0) h974 rfl fun a977 h977 => ?_; clear h974
              refine pk0 (v := .int .i64 ((j : Nat) : Int)) h977 rfl fun a978 h978 => ?_; clear h977
              refine pk (v := .agg #[.int .i64 c, .int .i64 r, v, .int .u64 ts]) h978 rfl (rn_loadN rfl rfl Try.underlying40 rfl (by kernel_rfl) hk861.all) fun a979 h979 => ?_; clear h978
              have hbad : badT (L.take ((j : Int) : Int).toNat) (EntT.mk c r (.slice none 0 0) l ts) = false := by first | exact bad_ts (by simp only []; omega) | exact badM_0 (by omega)
              have hnn := setE_n (i := ((j : Nat) : Int)) (by omega) (by assumption : (findN L (c, r)).getD 0 = _) (by first | exact .inl (hb629.trans hc649) | exact .inr (by omega))
              have hr986 := row_kept_new hr651 hg858
              have hE987 := hE655.new hg858
              have hk988 := hk644.kept hg858 (by simp)
              refine pw h979 rfl (op_call (args := #[pt b 0, .int .i64 ((j : Nat) : Int), .agg #[.int .i64 c, .int .i64 r, v, .int .u64 ts]]) (R := fun res xw => ∃ u2 v2, res = .tuple #[] ∧ LgP S w0.heap.size xw b M u2 (L.take ((j : Nat) : Int).toNat ++ [EntT.mk c r v2 l ts]) ∧ But (S) w0 xw) rfl rfl rfl (by kernel_rfl) (by kernel_rfl) (Try.call64 _ _) (lreplace_any w0 S b M u L ((j : Nat) : Int) c r v l ts w857 hB866 ⟨hk988, ⟨_, hM868⟩, hr986, hE987, hO.sb, hO.sM, hO.su, hO.uq, hO.len⟩ (by omega) hnn hs hvS hlen hts hen) (by rintro e x ⟨u2, v2, rfl, h1, _, h2⟩; exact ⟨_, rfl, u2, v2, rfl, h1, h2⟩)) ?_; clear h979
              rintro _ w981 a980 ⟨u984, v985, rfl, hO982, hB983⟩ h980
              refine pl_nil ?_
              refine co_then ?_
              refine co_seq ?_
              refine co_reg ?_
              refine pk0 (v := .int .i64 0) h980 rfl fun a989 h989 => ?_; clear h980
              refine pl_nil ?_
              refine co_then ?_
              refine wp_ret ?_
              refine co_ret1 h989 rfl rfl ?_
              have hb0 : badT (L.take ((j : Int) : Int).toNat) (EntT.mk c r (.slice none 0 0) l ts) = false := hbad
              have hE := setE_f (i := (j : Int)) (v := .slice none 0 0) (by omega) (by omega) (by omega) hnn hb0
              exact ⟨_, _, ret_int hE.symm, hO982, .inr ⟨hE, .inr ⟨findN_off (by assumption : (findN L (c, r)).getD 0 = _) hnn (by first | exact .inl (hb629.trans hc649) | exact .inr (by omega)), _, rfl⟩⟩, hB983⟩
             ·
              rw [hc975] at h974
              have hp990 : f626 = ((j : Nat) : Int) := by first | simpa using hc975 | simpa [and_assoc] using hc975
              clear hc975
              refine co_true h974 rfl ?_
              refine co_reg ?_
              refine pk0 (v := pt b 0) h974 rfl fun a991 h991 => ?_; clear h974
              refine pk0 (v := .int .i64 ((j : Nat) : Int)) h991 rfl fun a992 h992 => ?_; clear h991
              refine pk0 (v := pt N42 3) h992 rfl fun a993 h993 => ?_; clear h992
              refine pk (v := .int .u64 ts) h993 rfl (rn_load1 rfl rfl Try.isAgg27 (hk861.cell rfl)) fun a994 h994 => ?_; clear h993
              have hnn := setE_n (i := (j : Int)) (by omega) (by assumption : (findN L (c, r)).getD 0 = _) (by first | exact .inl (hb629.trans hc649) | exact .inr (by omega))
              have hjl := findN_atl (findN_at (j := j) (by first | exact hb629.trans hc649) (by assumption : (findN L (c, r)).getD 0 = _) (by omega))
              have hbad : badT (L.take ((j : Int) : Int).toNat) (EntT.mk c r (.slice none 0 0) l ts) = false := by first | exact bad_ts (by simp only []; omega) | exact badM_0 (by omega)
              have hr999 := row_kept_new hr651 hg858
              have hE1000 := hE655.new hg858
              have hk1001 := hk644.kept hg858 (by simp)
              refine pw h994 rfl (op_call (args := #[pt b 0, .int .i64 ((j : Nat) : Int), .int .u64 ts]) (R := fun res xw => res = .tuple #[] ∧ LgP S w0.heap.size xw b M u (restF L ((j : Nat) : Int).toNat ts) ∧ But (S) w0 xw) rfl rfl rfl (by kernel_rfl) (by kernel_rfl) (Try.call63 _ _) (lrestamp_any w0 S b M u L ((j : Nat) : Int) ts w857 hB866 ⟨hk1001, ⟨_, hM868⟩, hr999, hE1000, hO.sb, hO.sM, hO.su, hO.uq, hO.len⟩ (by omega) (by omega)) (by rintro e x ⟨rfl, h1, h2⟩; exact ⟨_, rfl, rfl, h1, h2⟩)) ?_; clear h994
              rintro _ w996 a995 ⟨rfl, hO997, hB998⟩ h995
              refine pl_nil ?_
              refine co_then ?_
              refine co_seq ?_
              refine co_reg ?_
              refine pk0 (v := .int .i64 0) h995 rfl fun a1002 h1002 => ?_; clear h995
              refine pl_nil ?_
              refine co_then ?_
              refine wp_ret ?_
              refine co_ret1 h1002 rfl rfl ?_
              have hb0 : badT (L.take ((j : Int) : Int).toNat) (EntT.mk c r (.slice none 0 0) l ts) = false := hbad
              have hE := setE_f (i := (j : Int)) (v := .slice none 0 0) (by omega) (by omega) (by omega) hnn hb0
              exact ⟨_, _, ret_int hE.symm, hO997, .inr ⟨hE, .inl ⟨findN_at (by first | exact hb629.trans hc649) (by assumption : (findN L (c, r)).getD 0 = _) (by omega), rfl⟩⟩, hB998⟩
            ·
             rw [hc940] at h939
             have hp1003 : ((j : Nat) : Int) > 0 := of_decide_eq_true hc940
             clear hc940
             refine dk0 8 (v := pt b 0) h939 rfl rfl rfl fun a1004 h1004 => ?_; clear h939
             refine dk0 9 (v := pt b 0) h1004 rfl rfl rfl fun a1005 h1005 => ?_; clear h1004
             refine dk0 10 (v := pt b 1) h1005 rfl rfl rfl fun a1006 h1006 => ?_; clear h1005
             have hk1007 := hk644.kept hg858 (by simp)
             refine dk 11 (v := u) h1006 rfl rfl rfl (fun x hx => by subst hx; exact (rn_load1 rfl rfl Try.isAgg48 (hk1007.cell rfl))) fun a1008 h1008 => ?_; clear h1006
             refine dk0 12 (v := .int .i64 ((j : Nat) : Int)) h1008 rfl rfl rfl fun a1009 h1009 => ?_; clear h1008
             refine dk 13 (v := .int .i64 (((j : Nat) : Int) - 1)) h1009 rfl rfl rfl (fun x hx => by subst hx; exact (rn_arith rfl rfl rfl rfl rfl rfl (IntWalk.i64_in _ (by omega)))) fun a1010 h1010 => ?_; clear h1009
             have hE1013 := hE655.new hg858
             have hr1019 := row_kept_new hr651 hg858
             obtain ⟨y1011, hy1011⟩ : ∃ z, L[(((j : Nat) : Int) - 1).toNat]? = some z := ⟨_, List.getElem?_eq_getElem (by first | omega | (simp; done) | (simp; omega))⟩
             have oky1011 := (fun (z : EntT) (_ : z ∈ L) => trivial) _ (List.mem_of_getElem? hy1011)
             have hy1012 := hE1013.at hy1011
             have hq1014 := hy1012.ts0; have hq1015 := hy1012.ts1; have hq1016 := hy1012.len; have hq1017 := wf_i64 hy1012.cl; have hq1018 := wf_i64 hy1012.rq
             refine dk 14 (v := pt (blkOf u) (offOf u + ((((j : Nat) : Int) - 1).toNat) * 4)) h1010 rfl rfl rfl (fun x hx => by subst hx; exact (rn_index rfl rfl rfl Try.underlying48 Try.sizeOf40 (row_sl hr1019 entE_len) (by omega) (by first | omega | (simp; done) | (simp; omega)))) fun a1020 h1020 => ?_; clear h1010
             refine dk0 15 (v := pt (blkOf u) (offOf u + ((((j : Nat) : Int) - 1).toNat) * 4 + 3)) h1020 rfl rfl rfl fun a1021 h1021 => ?_; clear h1020
             refine dk 16 (v := .int .u64 y1011.ts) h1021 rfl rfl rfl (fun x hx => by subst hx; exact (rn_load1 rfl rfl Try.isAgg27 ((sl_at (row_sl hr1019 entE_len) hy1011) 3 _ rfl))) fun a1022 h1022 => ?_; clear h1021
             refine dk0 17 (v := .bool (y1011.ts == 0)) h1022 rfl rfl rfl fun a1023 h1023 => ?_; clear h1022
             refine dk0 18 (v := .bool (y1011.ts == 0)) h1023 rfl rfl rfl fun a1024 h1024 => ?_; clear h1023
             cases hc1025 : (y1011.ts == 0)
             ·
              rw [hc1025] at h1024
              have hp1026 : ¬ (y1011.ts = 0) := by first | simpa using hc1025 | simpa [and_assoc] using hc1025
              clear hc1025
              refine dk0 19 (v := pt b 0) h1024 rfl rfl rfl fun a1027 h1027 => ?_; clear h1024
              refine dk0 20 (v := pt b 0) h1027 rfl rfl rfl fun a1028 h1028 => ?_; clear h1027
              refine dk0 21 (v := pt b 1) h1028 rfl rfl rfl fun a1029 h1029 => ?_; clear h1028
              refine dk 22 (v := u) h1029 rfl rfl rfl (fun x hx => by subst hx; exact (rn_load1 rfl rfl Try.isAgg48 (hk1007.cell rfl))) fun a1030 h1030 => ?_; clear h1029
              refine dk0 23 (v := .int .i64 ((j : Nat) : Int)) h1030 rfl rfl rfl fun a1031 h1031 => ?_; clear h1030
              refine dk 24 (v := .int .i64 (((j : Nat) : Int) - 1)) h1031 rfl rfl rfl (fun x hx => by subst hx; exact (rn_arith rfl rfl rfl rfl rfl rfl (IntWalk.i64_in _ (by omega)))) fun a1032 h1032 => ?_; clear h1031
              refine dk 25 (v := pt (blkOf u) (offOf u + ((((j : Nat) : Int) - 1).toNat) * 4)) h1032 rfl rfl rfl (fun x hx => by subst hx; exact (rn_index rfl rfl rfl Try.underlying48 Try.sizeOf40 (row_sl hr1019 entE_len) (by omega) (by first | omega | (simp; done) | (simp; omega)))) fun a1033 h1033 => ?_; clear h1032
              refine dk0 26 (v := pt (blkOf u) (offOf u + ((((j : Nat) : Int) - 1).toNat) * 4 + 3)) h1033 rfl rfl rfl fun a1034 h1034 => ?_; clear h1033
              refine dk 27 (v := .int .u64 y1011.ts) h1034 rfl rfl rfl (fun x hx => by subst hx; exact (rn_load1 rfl rfl Try.isAgg27 ((sl_at (row_sl hr1019 entE_len) hy1011) 3 _ rfl))) fun a1035 h1035 => ?_; clear h1034
              refine dk0 28 (v := pt N42 3) h1035 rfl rfl rfl fun a1036 h1036 => ?_; clear h1035
              refine dk 29 (v := .int .u64 ts) h1036 rfl rfl rfl (fun x hx => by subst hx; exact (rn_load1 rfl rfl Try.isAgg27 (hk861.cell rfl))) fun a1037 h1037 => ?_; clear h1036
              refine dk0 30 (v := .bool (decide (y1011.ts ≥ ts))) h1037 rfl rfl rfl fun a1038 h1038 => ?_; clear h1037
              refine dk0 31 (v := .bool (decide (y1011.ts ≥ ts))) h1038 rfl rfl rfl fun a1039 h1039 => ?_; clear h1038
              refine dk0 32 (v := .bool (decide (y1011.ts ≥ ts))) h1039 rfl rfl rfl fun a1040 h1040 => ?_; clear h1039
              refine dr_done (by kernel_rfl) ?_
              refine co_then ?_
              cases hc1041 : (decide (y1011.ts ≥ ts))
              ·
               rw [hc1041] at h1040
               have hp1042 : ¬ (y1011.ts ≥ ts) := of_decide_eq_false hc1041
               clear hc1041
               refine co_false h1040 rfl ?_
               refine wp_skip ?_
               refine co_then ?_
               refine co_seq ?_
               refine co_seq ?_
               refine co_reg ?_
               refine pk0 (v := .bool true) h1040 rfl fun a1043 h1043 => ?_; clear h1040
               refine pk0 (v := .bool true) h1043 rfl fun a1044 h1044 => ?_; clear h1043
               refine pk0 (v := pt N612 0) h1044 rfl fun a1045 h1045 => ?_; clear h1044
               have hk1046 := hk639'.kept hg858 (by simp)
               refine pk (v := .int .i64 f626) h1045 rfl (rn_load1 rfl rfl Try.isAgg3 (hk1046.cell rfl)) fun a1047 h1047 => ?_; clear h1045
               refine pk0 (v := .int .i64 ((j : Nat) : Int)) h1047 rfl fun a1048 h1048 => ?_; clear h1047
               refine pk0 (v := .bool (f626 == ((j : Nat) : Int))) h1048 rfl fun a1049 h1049 => ?_; clear h1048
               refine pk0 (v := .bool (f626 == ((j : Nat) : Int))) h1049 rfl fun a1050 h1050 => ?_; clear h1049
               refine pl_nil ?_
               refine co_then ?_
               cases hc1051 : (f626 == ((j : Nat) : Int))
               ·
                rw [hc1051] at h1050
                have hp1052 : ¬ (f626 = ((j : Nat) : Int)) := by first | simpa using hc1051 | simpa [and_assoc] using hc1051
                clear hc1051
                refine co_false h1050 rfl ?_
                refine co_reg ?_
                refine pk0 (v := pt b 0) h1050 rfl fun a1053 h1053 => ?_; clear h1050
                refine pk0 (v := .int .i64 ((j : Nat) : Int)) h1053 rfl fun a1054 h1054 => ?_; clear h1053
                refine pk (v := .agg #[.int .i64 c, .int .i64 r, v, .int .u64 ts]) h1054 rfl (rn_loadN rfl rfl Try.underlying40 rfl (by kernel_rfl) hk861.all) fun a1055 h1055 => ?_; clear h1054
                have hbad : badT (L.take ((j : Int) : Int).toNat) (EntT.mk c r (.slice none 0 0) l ts) = false := by rw [bad_at (j := (((j : Nat) : Int) - 1).toNat) (by omega) (by omega) hy1011]; exact decide_eq_false (by simp only []; omega)
                have hnn := setE_n (i := ((j : Nat) : Int)) (by omega) (by assumption : (findN L (c, r)).getD 0 = _) (by first | exact .inl (hb629.trans hc649) | exact .inr (by omega))
                refine pw h1055 rfl (op_call (args := #[pt b 0, .int .i64 ((j : Nat) : Int), .agg #[.int .i64 c, .int .i64 r, v, .int .u64 ts]]) (R := fun res xw => ∃ u2 v2, res = .tuple #[] ∧ LgP S w0.heap.size xw b M u2 (L.take ((j : Nat) : Int).toNat ++ [EntT.mk c r v2 l ts]) ∧ But (S) w0 xw) rfl rfl rfl (by kernel_rfl) (by kernel_rfl) (Try.call64 _ _) (lreplace_any w0 S b M u L ((j : Nat) : Int) c r v l ts w857 hB866 ⟨hk1007, ⟨_, hM868⟩, hr1019, hE1013, hO.sb, hO.sM, hO.su, hO.uq, hO.len⟩ (by omega) hnn hs hvS hlen hts hen) (by rintro e x ⟨u2, v2, rfl, h1, _, h2⟩; exact ⟨_, rfl, u2, v2, rfl, h1, h2⟩)) ?_; clear h1055
                rintro _ w1057 a1056 ⟨u1060, v1061, rfl, hO1058, hB1059⟩ h1056
                refine pl_nil ?_
                refine co_then ?_
                refine co_seq ?_
                refine co_reg ?_
                refine pk0 (v := .int .i64 0) h1056 rfl fun a1062 h1062 => ?_; clear h1056
                refine pl_nil ?_
                refine co_then ?_
                refine wp_ret ?_
                refine co_ret1 h1062 rfl rfl ?_
                have hb0 : badT (L.take ((j : Int) : Int).toNat) (EntT.mk c r (.slice none 0 0) l ts) = false := hbad
                have hE := setE_f (i := (j : Int)) (v := .slice none 0 0) (by omega) (by omega) (by omega) hnn hb0
                exact ⟨_, _, ret_int hE.symm, hO1058, .inr ⟨hE, .inr ⟨findN_off (by assumption : (findN L (c, r)).getD 0 = _) hnn (by first | exact .inl (hb629.trans hc649) | exact .inr (by omega)), _, rfl⟩⟩, hB1059⟩
               ·
                rw [hc1051] at h1050
                have hp1063 : f626 = ((j : Nat) : Int) := by first | simpa using hc1051 | simpa [and_assoc] using hc1051
                clear hc1051
                refine co_true h1050 rfl ?_
                refine co_reg ?_
                refine pk0 (v := pt b 0) h1050 rfl fun a1064 h1064 => ?_; clear h1050
                refine pk0 (v := .int .i64 ((j : Nat) : Int)) h1064 rfl fun a1065 h1065 => ?_; clear h1064
                refine pk0 (v := pt N42 3) h1065 rfl fun a1066 h1066 => ?_; clear h1065
                refine pk (v := .int .u64 ts) h1066 rfl (rn_load1 rfl rfl Try.isAgg27 (hk861.cell rfl)) fun a1067 h1067 => ?_; clear h1066
                have hnn := setE_n (i := (j : Int)) (by omega) (by assumption : (findN L (c, r)).getD 0 = _) (by first | exact .inl (hb629.trans hc649) | exact .inr (by omega))
                have hjl := findN_atl (findN_at (j := j) (by first | exact hb629.trans hc649) (by assumption : (findN L (c, r)).getD 0 = _) (by omega))
                have hbad : badT (L.take ((j : Int) : Int).toNat) (EntT.mk c r (.slice none 0 0) l ts) = false := by rw [bad_at (j := (((j : Nat) : Int) - 1).toNat) (by omega) (by omega) hy1011]; exact decide_eq_false (by simp only []; omega)
                refine pw h1067 rfl (op_call (args := #[pt b 0, .int .i64 ((j : Nat) : Int), .int .u64 ts]) (R := fun res xw => res = .tuple #[] ∧ LgP S w0.heap.size xw b M u (restF L ((j : Nat) : Int).toNat ts) ∧ But (S) w0 xw) rfl rfl rfl (by kernel_rfl) (by kernel_rfl) (Try.call63 _ _) (lrestamp_any w0 S b M u L ((j : Nat) : Int) ts w857 hB866 ⟨hk1007, ⟨_, hM868⟩, hr1019, hE1013, hO.sb, hO.sM, hO.su, hO.uq, hO.len⟩ (by omega) (by omega)) (by rintro e x ⟨rfl, h1, h2⟩; exact ⟨_, rfl, rfl, h1, h2⟩)) ?_; clear h1067
                rintro _ w1069 a1068 ⟨rfl, hO1070, hB1071⟩ h1068
                refine pl_nil ?_
                refine co_then ?_
                refine co_seq ?_
                refine co_reg ?_
                refine pk0 (v := .int .i64 0) h1068 rfl fun a1072 h1072 => ?_; clear h1068
                refine pl_nil ?_
                refine co_then ?_
                refine wp_ret ?_
                refine co_ret1 h1072 rfl rfl ?_
                have hb0 : badT (L.take ((j : Int) : Int).toNat) (EntT.mk c r (.slice none 0 0) l ts) = false := hbad
                have hE := setE_f (i := (j : Int)) (v := .slice none 0 0) (by omega) (by omega) (by omega) hnn hb0
                exact ⟨_, _, ret_int hE.symm, hO1070, .inr ⟨hE, .inl ⟨findN_at (by first | exact hb629.trans hc649) (by assumption : (findN L (c, r)).getD 0 = _) (by omega), rfl⟩⟩, hB1071⟩
              ·
               rw [hc1041] at h1040
               have hp1073 : y1011.ts ≥ ts := of_decide_eq_true hc1041
               clear hc1041
               refine co_true h1040 rfl ?_
               refine co_seq ?_
               refine co_reg ?_
               refine pk0 (v := .int .i64 18) h1040 rfl fun a1074 h1074 => ?_; clear h1040
               refine pl_nil ?_
               refine co_then ?_
               refine wp_ret ?_
               refine co_thenR ?_
               refine co_ret1 h1074 rfl rfl ?_
               have hE : setE L (j : Int) c r l ts = 18 := setE_e (v := .slice none 0 0) (by omega) (by omega) (by omega) (setE_n (by omega) (by assumption : (findN L (c, r)).getD 0 = _) (by first | exact .inl (hb629.trans hc649) | exact .inr (by omega))) (by rw [bad_at (j := (((j : Nat) : Int) - 1).toNat) (by omega) (by omega) hy1011]; exact decide_eq_true (by simp only []; omega))
               exact ⟨_, _, ret_int hE.symm, ⟨hk1007, ⟨_, hM868⟩, hr1019, hE1013, hO.sb, hO.sM, hO.su, hO.uq, hO.len⟩, .same (by rw [hE]; omega), hB866⟩
             ·
              rw [hc1025] at h1024
              have hp1075 : y1011.ts = 0 := by first | simpa using hc1025 | simpa [and_assoc] using hc1025
              clear hc1025
              refine dsk 19 h1024 rfl rfl rfl fun a1076 h1076 => ?_; clear h1024
              refine dsk 20 h1076 rfl rfl rfl fun a1077 h1077 => ?_; clear h1076
              refine dsk 21 h1077 rfl rfl rfl fun a1078 h1078 => ?_; clear h1077
              refine dsk 22 h1078 rfl rfl rfl fun a1079 h1079 => ?_; clear h1078
              refine dsk 23 h1079 rfl rfl rfl fun a1080 h1080 => ?_; clear h1079
              refine dsk 24 h1080 rfl rfl rfl fun a1081 h1081 => ?_; clear h1080
              refine dsk 25 h1081 rfl rfl rfl fun a1082 h1082 => ?_; clear h1081
              refine dsk 26 h1082 rfl rfl rfl fun a1083 h1083 => ?_; clear h1082
              refine dsk 27 h1083 rfl rfl rfl fun a1084 h1084 => ?_; clear h1083
              refine dsk 28 h1084 rfl rfl rfl fun a1085 h1085 => ?_; clear h1084
              refine dsk 29 h1085 rfl rfl rfl fun a1086 h1086 => ?_; clear h1085
              refine dsk 30 h1086 rfl rfl rfl fun a1087 h1087 => ?_; clear h1086
              refine dk0 31 (v := .bool true) h1087 rfl rfl rfl fun a1088 h1088 => ?_; clear h1087
              refine dk0 32 (v := .bool true) h1088 rfl rfl rfl fun a1089 h1089 => ?_; clear h1088
              refine dr_done (by kernel_rfl) ?_
              refine co_then ?_
              refine co_true h1089 rfl ?_
              refine co_seq ?_
              refine co_reg ?_
              refine pk0 (v := .int .i64 18) h1089 rfl fun a1090 h1090 => ?_; clear h1089
              refine pl_nil ?_
              refine co_then ?_
              refine wp_ret ?_
              refine co_thenR ?_
              refine co_ret1 h1090 rfl rfl ?_
              have hE : setE L (j : Int) c r l ts = 18 := setE_e (v := .slice none 0 0) (by omega) (by omega) (by omega) (setE_n (by omega) (by assumption : (findN L (c, r)).getD 0 = _) (by first | exact .inl (hb629.trans hc649) | exact .inr (by omega))) (by rw [bad_at (j := (((j : Nat) : Int) - 1).toNat) (by omega) (by omega) hy1011]; exact decide_eq_true (by simp only []; omega))
              exact ⟨_, _, ret_int hE.symm, ⟨hk1007, ⟨_, hM868⟩, hr1019, hE1013, hO.sb, hO.sM, hO.su, hO.uq, hO.len⟩, .same (by rw [hE]; omega), hB866⟩
          ·
           rw [hc855] at h854
           have hp1091 : f626 < ((j : Nat) : Int) := of_decide_eq_true hc855
           clear hc855
           refine co_true h854 rfl ?_
           refine co_seq ?_
           refine co_reg ?_
           refine pk0 (v := .int .i64 18) h854 rfl fun a1092 h1092 => ?_; clear h854
           refine pl_nil ?_
           refine co_then ?_
           refine wp_ret ?_
           refine co_thenR ?_
           refine co_ret1 h1092 rfl rfl ?_
           have hM1093 := hM632.kept hg641 (by simp; omega)
           have hE : setE L (j : Int) c r l ts = 18 := setE_d (by omega) (by omega) (by omega) (by first | exact hb629.trans hc649) (by assumption : (findN L (c, r)).getD 0 = _) (by omega)
           exact ⟨_, _, ret_int hE.symm, ⟨hk644, ⟨_, hM1093⟩, hr651, hE655, hO.sb, hO.sM, hO.su, hO.uq, hO.len⟩, .same (by rw [hE]; omega), hB643⟩
      ·
       refine dr_op (i := 10) h109 rfl rfl rfl rfl (op_new (v := fun N => pt N 0) (T := 124) (cs := #[.int .i64 0]) (by kernel_rfl) (by kernel_rfl) (by kernel_rfl)) ?_ ?_; clear h109
       ·
        rintro _ w1095 ⟨N1096, rfl, hN1099, hz1100, hk1098, hg1097⟩
        have hr1102 := row_kept_new hr65 (below_grown hb75)
        have hr1103 := row_kept_new hr1102 hg92
        have ha1101 := row_fresh hr1103 hN1099
        have hu1104 := row_under hr1103 hN1099
        have hz1105 := hg1097.size
        have hB1106 := fbU_new hB100 hg1097
        have hk1107 := hk102.kept hg1097 (by simp)
        have hk1108 := hk104.kept hg1097 (by simp)
        exact ⟨hB1106, hk1107, hk1108⟩
       rintro _ w1095 a1094 ⟨N1096, rfl, hN1099, hz1100, hk1098, hg1097⟩ h1094
       have hr1102 := row_kept_new hr65 (below_grown hb75)
       have hr1103 := row_kept_new hr1102 hg92
       have ha1101 := row_fresh hr1103 hN1099
       have hu1104 := row_under hr1103 hN1099
       have hz1105 := hg1097.size
       try dsimp only at h1094
       have hB1106 := fbU_new hB100 hg1097
       have hk1107 := hk102.kept hg1097 (by simp)
       have hk1108 := hk104.kept hg1097 (by simp)
       refine d1 5 h1094 rfl rfl (op_call (args := #[.agg #[.int .i64 c, .int .i64 r, v, .int .u64 ts]]) (R := fun res xw => res = .agg #[.int .i64 c, .int .i64 r] ∧ Below w1095.heap.size w1095 xw) rfl rfl rfl (by kernel_rfl) (by kernel_rfl) (Try.call62 _ _) (lname_any c r v ts w1095 ) (by rintro e x ⟨rfl, hb1111⟩; exact ⟨_, rfl, ⟨rfl, hb1111⟩⟩)) ?_ ?_; clear h1094
       ·
        rintro _ w1110 ⟨rfl, hb1111⟩
        have hz1112 := hb1111.size
        have hB1113 := fbU_call hB1106 hb1111
        have hk1114 := hk1107.below hb1111
        have hk1115 := hk1108.below hb1111
        exact ⟨hB1113, hk1114, hk1115⟩
       rintro _ w1110 a1109 ⟨rfl, hb1111⟩ h1109
       have hz1112 := hb1111.size
       have hB1113 := fbU_call hB1106 hb1111
       have hk1114 := hk1107.below hb1111
       have hk1115 := hk1108.below hb1111
       refine dr_many [6] (by kernel_rfl) (by simp) ⟨?_, trivial⟩
       ·
        have hM1120 := hM83.kept hg92 (by simp)
        have hM1121 := hM1120.kept hg1097 (by simp)
        have hM1122 := hM1121.kept (below_grown hb1111) (by simp)
        obtain ⟨f1116, hf1117⟩ : ∃ z, ((findN L) (c, r)).getD (0 : Int) = z := ⟨_, rfl⟩
        obtain ⟨b1118, hb1119⟩ : ∃ z, ((findN L) (c, r)).isSome = z := ⟨_, rfl⟩
        refine dr_opVal (i := 6) (v := .tuple #[.agg #[.int .i64 f1116], .bool b1118]) h1109 rfl rfl rfl rfl (by kernel_rfl) rfl (rn_lookOT (a := (c, r)) (f := f1116) (b := b1118) nm_kl rfl rfl rfl Try.underlying112 spot_z hM1122 hf1117 hb1119) ⟨hB1113, hk1114, hk1115⟩ (fun a1123 h1123 => ?_); clear h1109
        refine dk0 7 (v := .tuple #[.agg #[.int .i64 f1116], .bool b1118]) h1123 rfl rfl ⟨hB1113, hk1114, hk1115⟩ fun a1124 h1124 => ?_; clear h1123
        refine dk0 8 (v := .agg #[.int .i64 f1116]) h1124 rfl rfl ⟨hB1113, hk1114, hk1115⟩ fun a1125 h1125 => ?_; clear h1124
        refine dk0 9 (v := .bool b1118) h1125 rfl rfl ⟨hB1113, hk1114, hk1115⟩ fun a1126 h1126 => ?_; clear h1125
        have hk1132 := hk1098.below hb1111
        refine d1D 11 h1126 rfl rfl (op_storeN rfl rfl rfl (by kernel_rfl) (by kernel_rfl) hk1132 rfl) ?_ ?_; clear h1126
        ·
         rintro _ w1128 ⟨hk1129, hz1130, hg1131⟩
         have hk1129' : Blk w1128 N1096 124 #[.int .i64 f1116] := hk1129; clear hk1129
         have hz1133 := hg1131.size
         have hB1134 := fbU_at hB1113 hg1131 (fun hlt => absurd hlt (by omega))
         have hk1135 := hk1114.kept hg1131 (by simp; omega)
         have hk1136 := hk1115.kept hg1131 (by simp; omega)
         exact ⟨hB1134, hk1135, hk1136⟩
        rintro _ w1128 a1127 ⟨hk1129, hz1130, hg1131⟩ h1127
        have hk1129' : Blk w1128 N1096 124 #[.int .i64 f1116] := hk1129; clear hk1129
        have hz1133 := hg1131.size
        have hB1134 := fbU_at hB1113 hg1131 (fun hlt => absurd hlt (by omega))
        have hk1135 := hk1114.kept hg1131 (by simp; omega)
        have hk1136 := hk1115.kept hg1131 (by simp; omega)
        refine dk0 12 (v := .bool b1118) h1127 rfl rfl ⟨hB1134, hk1135, hk1136⟩ fun a1137 h1137 => ?_; clear h1127
        refine dr_done (by kernel_rfl) ?_
        refine co_then ?_
        refine co_seq ?_
        refine co_seq ?_
        refine co_reg ?_
        refine pk0 (v := .bool b1118) h1137 rfl fun a1138 h1138 => ?_; clear h1137
        refine pk0 (v := .bool b1118) h1138 rfl fun a1139 h1139 => ?_; clear h1138
        have hr1141 := row_kept_new hr1103 hg1097
        have hr1142 := row_kept_new hr1141 (below_grown hb1111)
        have hr1143 := row_kept_at hr1142 hg1131 (ha1101)
        have hE1144 := hE85.new hg92
        have hE1145 := hE1144.new hg1097
        have hE1146 := hE1145.new (below_grown hb1111)
        have hE1147 := hE1146.blk hk1132 (by decide) hg1131
        cases hc1140 : (b1118)
        ·
         rw [hc1140] at h1139
         refine psk h1139 rfl fun a1148 h1148 => ?_; clear h1139
         refine psk h1148 rfl fun a1149 h1149 => ?_; clear h1148
         refine psk h1149 rfl fun a1150 h1150 => ?_; clear h1149
         refine psk h1150 rfl fun a1151 h1151 => ?_; clear h1150
         refine pk0 (v := .bool false) h1151 rfl fun a1152 h1152 => ?_; clear h1151
         refine pl_nil ?_
         refine co_then ?_
         refine co_false h1152 rfl ?_
         refine wp_skip ?_
         refine co_then ?_
         refine co_seq ?_
         refine co_seq ?_
         refine dr_eq (by kernel_rfl) (fun w1153 hg1154 => ?_)
         have hz1155 := hg1154.size
         refine dk0 0 (v := pt N42 3) h1152 rfl rfl rfl fun a1156 h1156 => ?_; clear h1152
         have hk1157 := hk1136.kept hg1154 (by simp)
         refine dk 1 (v := .int .u64 ts) h1156 rfl rfl rfl (fun x hx => by subst hx; exact (rn_load1 rfl rfl Try.isAgg27 (hk1157.cell rfl))) fun a1158 h1158 => ?_; clear h1156
         refine dk0 2 (v := .bool (ts != 0)) h1158 rfl rfl rfl fun a1159 h1159 => ?_; clear h1158
         refine dk0 3 (v := .bool (ts != 0)) h1159 rfl rfl rfl fun a1160 h1160 => ?_; clear h1159
         have hB1162 := fbU_new hB1134 hg1154
         have hM1163 := hM1122.kept hg1131 (by simp; omega)
         have hM1164 := hM1163.kept hg1154 (by simp)
         cases hc1161 : (ts != 0)
         ·
          rw [hc1161] at h1160
          have hp1165 : ¬ (ts ≠ 0) := by first | simpa using hc1161 | simpa [and_assoc] using hc1161
          clear hc1161
          refine dsk 4 h1160 rfl rfl rfl fun a1166 h1166 => ?_; clear h1160
          refine dsk 5 h1166 rfl rfl rfl fun a1167 h1167 => ?_; clear h1166
          refine dk0 6 (v := .bool false) h1167 rfl rfl rfl fun a1168 h1168 => ?_; clear h1167
          refine dk0 7 (v := .bool false) h1168 rfl rfl rfl fun a1169 h1169 => ?_; clear h1168
          refine dsk 8 h1169 rfl rfl rfl fun a1170 h1170 => ?_; clear h1169
          refine dsk 9 h1170 rfl rfl rfl fun a1171 h1171 => ?_; clear h1170
          refine dsk 10 h1171 rfl rfl rfl fun a1172 h1172 => ?_; clear h1171
          refine dsk 11 h1172 rfl rfl rfl fun a1173 h1173 => ?_; clear h1172
          refine dsk 12 h1173 rfl rfl rfl fun a1174 h1174 => ?_; clear h1173
          refine dsk 13 h1174 rfl rfl rfl fun a1175 h1175 => ?_; clear h1174
          refine dsk 14 h1175 rfl rfl rfl fun a1176 h1176 => ?_; clear h1175
          refine dsk 15 h1176 rfl rfl rfl fun a1177 h1177 => ?_; clear h1176
          refine dsk 16 h1177 rfl rfl rfl fun a1178 h1178 => ?_; clear h1177
          refine dsk 17 h1178 rfl rfl rfl fun a1179 h1179 => ?_; clear h1178
          refine dsk 18 h1179 rfl rfl rfl fun a1180 h1180 => ?_; clear h1179
          refine dsk 19 h1180 rfl rfl rfl fun a1181 h1181 => ?_; clear h1180
          refine dsk 20 h1181 rfl rfl rfl fun a1182 h1182 => ?_; clear h1181
          refine dsk 21 h1182 rfl rfl rfl fun a1183 h1183 => ?_; clear h1182
          refine dsk 22 h1183 rfl rfl rfl fun a1184 h1184 => ?_; clear h1183
          refine dsk 23 h1184 rfl rfl rfl fun a1185 h1185 => ?_; clear h1184
          refine dsk 24 h1185 rfl rfl rfl fun a1186 h1186 => ?_; clear h1185
          refine dsk 25 h1186 rfl rfl rfl fun a1187 h1187 => ?_; clear h1186
          refine dsk 26 h1187 rfl rfl rfl fun a1188 h1188 => ?_; clear h1187
          refine dsk 27 h1188 rfl rfl rfl fun a1189 h1189 => ?_; clear h1188
          refine dsk 28 h1189 rfl rfl rfl fun a1190 h1190 => ?_; clear h1189
          refine dsk 29 h1190 rfl rfl rfl fun a1191 h1191 => ?_; clear h1190
          refine dsk 30 h1191 rfl rfl rfl fun a1192 h1192 => ?_; clear h1191
          refine dsk 31 h1192 rfl rfl rfl fun a1193 h1193 => ?_; clear h1192
          refine dk0 32 (v := .bool false) h1193 rfl rfl rfl fun a1194 h1194 => ?_; clear h1193
          refine dr_done (by kernel_rfl) ?_
          refine co_then ?_
          refine co_false h1194 rfl ?_
          refine wp_skip ?_
          refine co_then ?_
          refine co_seq ?_
          refine co_seq ?_
          refine co_reg ?_
          refine pk0 (v := .bool false) h1194 rfl fun a1195 h1195 => ?_; clear h1194
          refine pk0 (v := .bool false) h1195 rfl fun a1196 h1196 => ?_; clear h1195
          refine psk h1196 rfl fun a1197 h1197 => ?_; clear h1196
          refine psk h1197 rfl fun a1198 h1198 => ?_; clear h1197
          refine psk h1198 rfl fun a1199 h1199 => ?_; clear h1198
          refine psk h1199 rfl fun a1200 h1200 => ?_; clear h1199
          refine pk0 (v := .bool false) h1200 rfl fun a1201 h1201 => ?_; clear h1200
          refine pl_nil ?_
          refine co_then ?_
          refine co_false h1201 rfl ?_
          refine co_reg ?_
          refine pk0 (v := pt b 0) h1201 rfl fun a1202 h1202 => ?_; clear h1201
          refine pk0 (v := .int .i64 ((j : Nat) : Int)) h1202 rfl fun a1203 h1203 => ?_; clear h1202
          refine pk (v := .agg #[.int .i64 c, .int .i64 r, v, .int .u64 ts]) h1203 rfl (rn_loadN rfl rfl Try.underlying40 rfl (by kernel_rfl) hk1157.all) fun a1204 h1204 => ?_; clear h1203
          have hbad : badT (L.take ((j : Int) : Int).toNat) (EntT.mk c r (.slice none 0 0) l ts) = false := by first | exact bad_ts (by simp only []; omega) | exact badM_0 (by omega)
          have hnn := setE_n (i := ((j : Nat) : Int)) (by omega) (by assumption : (findN L (c, r)).getD 0 = _) (by first | exact .inl (hb1119.trans hc1140) | exact .inr (by omega))
          have hr1211 := row_kept_new hr1143 hg1154
          have hE1212 := hE1147.new hg1154
          have hk1213 := hk1135.kept hg1154 (by simp)
          refine pw h1204 rfl (op_call (args := #[pt b 0, .int .i64 ((j : Nat) : Int), .agg #[.int .i64 c, .int .i64 r, v, .int .u64 ts]]) (R := fun res xw => ∃ u2 v2, res = .tuple #[] ∧ LgP S w0.heap.size xw b M u2 (L.take ((j : Nat) : Int).toNat ++ [EntT.mk c r v2 l ts]) ∧ But (S) w0 xw) rfl rfl rfl (by kernel_rfl) (by kernel_rfl) (Try.call64 _ _) (lreplace_any w0 S b M u L ((j : Nat) : Int) c r v l ts w1153 hB1162 ⟨hk1213, ⟨_, hM1164⟩, hr1211, hE1212, hO.sb, hO.sM, hO.su, hO.uq, hO.len⟩ (by omega) hnn hs hvS hlen hts hen) (by rintro e x ⟨u2, v2, rfl, h1, _, h2⟩; exact ⟨_, rfl, u2, v2, rfl, h1, h2⟩)) ?_; clear h1204
          rintro _ w1206 a1205 ⟨u1209, v1210, rfl, hO1207, hB1208⟩ h1205
          refine pl_nil ?_
          refine co_then ?_
          refine co_seq ?_
          refine co_reg ?_
          refine pk0 (v := .int .i64 0) h1205 rfl fun a1214 h1214 => ?_; clear h1205
          refine pl_nil ?_
          refine co_then ?_
          refine wp_ret ?_
          refine co_ret1 h1214 rfl rfl ?_
          have hb0 : badT (L.take ((j : Int) : Int).toNat) (EntT.mk c r (.slice none 0 0) l ts) = false := hbad
          have hE := setE_f (i := (j : Int)) (v := .slice none 0 0) (by omega) (by omega) (by omega) hnn hb0
          exact ⟨_, _, ret_int hE.symm, hO1207, .inr ⟨hE, .inr ⟨findN_off (by assumption : (findN L (c, r)).getD 0 = _) hnn (by first | exact .inl (hb1119.trans hc1140) | exact .inr (by omega)), _, rfl⟩⟩, hB1208⟩
         ·
          rw [hc1161] at h1160
          have hp1215 : ts ≠ 0 := by first | simpa using hc1161 | simpa [and_assoc] using hc1161
          clear hc1161
          refine dk0 4 (v := .int .i64 ((j : Nat) : Int)) h1160 rfl rfl rfl fun a1216 h1216 => ?_; clear h1160
          refine dk0 5 (v := .bool (decide (((j : Nat) : Int) > 0))) h1216 rfl rfl rfl fun a1217 h1217 => ?_; clear h1216
          refine dk0 6 (v := .bool (decide (((j : Nat) : Int) > 0))) h1217 rfl rfl rfl fun a1218 h1218 => ?_; clear h1217
          refine dk0 7 (v := .bool (decide (((j : Nat) : Int) > 0))) h1218 rfl rfl rfl fun a1219 h1219 => ?_; clear h1218
          cases hc1220 : (decide (((j : Nat) : Int) > 0))
          ·
           rw [hc1220] at h1219
           have hp1221 : ¬ (((j : Nat) : Int) > 0) := of_decide_eq_false hc1220
           clear hc1220
           refine dsk 8 h1219 rfl rfl rfl fun a1222 h1222 => ?_; clear h1219
           refine dsk 9 h1222 rfl rfl rfl fun a1223 h1223 => ?_; clear h1222
           refine dsk 10 h1223 rfl rfl rfl fun a1224 h1224 => ?_; clear h1223
           refine dsk 11 h1224 rfl rfl rfl fun a1225 h1225 => ?_; clear h1224
           refine dsk 12 h1225 rfl rfl rfl fun a1226 h1226 => ?_; clear h1225
           refine dsk 13 h1226 rfl rfl rfl fun a1227 h1227 => ?_; clear h1226
           refine dsk 14 h1227 rfl rfl rfl fun a1228 h1228 => ?_; clear h1227
           refine dsk 15 h1228 rfl rfl rfl fun a1229 h1229 => ?_; clear h1228
           refine dsk 16 h1229 rfl rfl rfl fun a1230 h1230 => ?_; clear h1229
           refine dsk 17 h1230 rfl rfl rfl fun a1231 h1231 => ?_; clear h1230
           refine dsk 18 h1231 rfl rfl rfl fun a1232 h1232 => ?_; clear h1231
           refine dsk 19 h1232 rfl rfl rfl fun a1233 h1233 => ?_; clear h1232
           refine dsk 20 h1233 rfl rfl rfl fun a1234 h1234 => ?_; clear h1233
           refine dsk 21 h1234 rfl rfl rfl fun a1235 h1235 => ?_; clear h1234
           refine dsk 22 h1235 rfl rfl rfl fun a1236 h1236 => ?_; clear h1235
           refine dsk 23 h1236 rfl rfl rfl fun a1237 h1237 => ?_; clear h1236
           refine dsk 24 h1237 rfl rfl rfl fun a1238 h1238 => ?_; clear h1237
           refine dsk 25 h1238 rfl rfl rfl fun a1239 h1239 => ?_; clear h1238
           refine dsk 26 h1239 rfl rfl rfl fun a1240 h1240 => ?_; clear h1239
           refine dsk 27 h1240 rfl rfl rfl fun a1241 h1241 => ?_; clear h1240
           refine dsk 28 h1241 rfl rfl rfl fun a1242 h1242 => ?_; clear h1241
           refine dsk 29 h1242 rfl rfl rfl fun a1243 h1243 => ?_; clear h1242
           refine dsk 30 h1243 rfl rfl rfl fun a1244 h1244 => ?_; clear h1243
           refine dsk 31 h1244 rfl rfl rfl fun a1245 h1245 => ?_; clear h1244
           refine dk0 32 (v := .bool false) h1245 rfl rfl rfl fun a1246 h1246 => ?_; clear h1245
           refine dr_done (by kernel_rfl) ?_
           refine co_then ?_
           refine co_false h1246 rfl ?_
           refine wp_skip ?_
           refine co_then ?_
           refine co_seq ?_
           refine co_seq ?_
           refine co_reg ?_
           refine pk0 (v := .bool false) h1246 rfl fun a1247 h1247 => ?_; clear h1246
           refine pk0 (v := .bool false) h1247 rfl fun a1248 h1248 => ?_; clear h1247
           refine psk h1248 rfl fun a1249 h1249 => ?_; clear h1248
           refine psk h1249 rfl fun a1250 h1250 => ?_; clear h1249
           refine psk h1250 rfl fun a1251 h1251 => ?_; clear h1250
           refine psk h1251 rfl fun a1252 h1252 => ?_; clear h1251
           refine pk0 (v := .bool false) h1252 rfl fun a1253 h1253 => ?_; clear h1252
           refine pl_nil ?_
           refine co_then ?_
           refine co_false h1253 rfl ?_
           refine co_reg ?_
           refine pk0 (v := pt b 0) h1253 rfl fun a1254 h1254 => ?_; clear h1253
           refine pk0 (v := .int .i64 ((j : Nat) : Int)) h1254 rfl fun a1255 h1255 => ?_; clear h1254
           refine pk (v := .agg #[.int .i64 c, .int .i64 r, v, .int .u64 ts]) h1255 rfl (rn_loadN rfl rfl Try.underlying40 rfl (by kernel_rfl) hk1157.all) fun a1256 h1256 => ?_; clear h1255
           have hbad : badT (L.take ((j : Int) : Int).toNat) (EntT.mk c r (.slice none 0 0) l ts) = false := by first | exact bad_ts (by simp only []; omega) | exact badM_0 (by omega)
           have hnn := setE_n (i := ((j : Nat) : Int)) (by omega) (by assumption : (findN L (c, r)).getD 0 = _) (by first | exact .inl (hb1119.trans hc1140) | exact .inr (by omega))
           have hr1263 := row_kept_new hr1143 hg1154
           have hE1264 := hE1147.new hg1154
           have hk1265 := hk1135.kept hg1154 (by simp)
           refine pw h1256 rfl (op_call (args := #[pt b 0, .int .i64 ((j : Nat) : Int), .agg #[.int .i64 c, .int .i64 r, v, .int .u64 ts]]) (R := fun res xw => ∃ u2 v2, res = .tuple #[] ∧ LgP S w0.heap.size xw b M u2 (L.take ((j : Nat) : Int).toNat ++ [EntT.mk c r v2 l ts]) ∧ But (S) w0 xw) rfl rfl rfl (by kernel_rfl) (by kernel_rfl) (Try.call64 _ _) (lreplace_any w0 S b M u L ((j : Nat) : Int) c r v l ts w1153 hB1162 ⟨hk1265, ⟨_, hM1164⟩, hr1263, hE1264, hO.sb, hO.sM, hO.su, hO.uq, hO.len⟩ (by omega) hnn hs hvS hlen hts hen) (by rintro e x ⟨u2, v2, rfl, h1, _, h2⟩; exact ⟨_, rfl, u2, v2, rfl, h1, h2⟩)) ?_; clear h1256
           rintro _ w1258 a1257 ⟨u1261, v1262, rfl, hO1259, hB1260⟩ h1257
           refine pl_nil ?_
           refine co_then ?_
           refine co_seq ?_
           refine co_reg ?_
           refine pk0 (v := .int .i64 0) h1257 rfl fun a1266 h1266 => ?_; clear h1257
           refine pl_nil ?_
           refine co_then ?_
           refine wp_ret ?_
           refine co_ret1 h1266 rfl rfl ?_
           have hb0 : badT (L.take ((j : Int) : Int).toNat) (EntT.mk c r (.slice none 0 0) l ts) = false := hbad
           have hE := setE_f (i := (j : Int)) (v := .slice none 0 0) (by omega) (by omega) (by omega) hnn hb0
           exact ⟨_, _, ret_int hE.symm, hO1259, .inr ⟨hE, .inr ⟨findN_off (by assumption : (findN L (c, r)).getD 0 = _) hnn (by first | exact .inl (hb1119.trans hc1140) | exact .inr (by omega)), _, rfl⟩⟩, hB1260⟩
          ·
           rw [hc1220] at h1219
           have hp1267 : ((j : Nat) : Int) > 0 := of_decide_eq_true hc1220
           clear hc1220
           refine dk0 8 (v := pt b 0) h1219 rfl rfl rfl fun a1268 h1268 => ?_; clear h1219
           refine dk0 9 (v := pt b 0) h1268 rfl rfl rfl fun a1269 h1269 => ?_; clear h1268
           refine dk0 10 (v := pt b 1) h1269 rfl rfl rfl fun a1270 h1270 => ?_; clear h1269
           have hk1271 := hk1135.kept hg1154 (by simp)
           refine dk 11 (v := u) h1270 rfl rfl rfl (fun x hx => by subst hx; exact (rn_load1 rfl rfl Try.isAgg48 (hk1271.cell rfl))) fun a1272 h1272 => ?_; clear h1270
           refine dk0 12 (v := .int .i64 ((j : Nat) : Int)) h1272 rfl rfl rfl fun a1273 h1273 => ?_; clear h1272
           refine dk 13 (v := .int .i64 (((j : Nat) : Int) - 1)) h1273 rfl rfl rfl (fun x hx => by subst hx; exact (rn_arith rfl rfl rfl rfl rfl rfl (IntWalk.i64_in _ (by omega)))) fun a1274 h1274 => ?_; clear h1273
           have hE1277 := hE1147.new hg1154
           have hr1283 := row_kept_new hr1143 hg1154
           obtain ⟨y1275, hy1275⟩ : ∃ z, L[(((j : Nat) : Int) - 1).toNat]? = some z := ⟨_, List.getElem?_eq_getElem (by first | omega | (simp; done) | (simp; omega))⟩
           have oky1275 := (fun (z : EntT) (_ : z ∈ L) => trivial) _ (List.mem_of_getElem? hy1275)
           have hy1276 := hE1277.at hy1275
           have hq1278 := hy1276.ts0; have hq1279 := hy1276.ts1; have hq1280 := hy1276.len; have hq1281 := wf_i64 hy1276.cl; have hq1282 := wf_i64 hy1276.rq
           refine dk 14 (v := pt (blkOf u) (offOf u + ((((j : Nat) : Int) - 1).toNat) * 4)) h1274 rfl rfl rfl (fun x hx => by subst hx; exact (rn_index rfl rfl rfl Try.underlying48 Try.sizeOf40 (row_sl hr1283 entE_len) (by omega) (by first | omega | (simp; done) | (simp; omega)))) fun a1284 h1284 => ?_; clear h1274
           refine dk0 15 (v := pt (blkOf u) (offOf u + ((((j : Nat) : Int) - 1).toNat) * 4 + 3)) h1284 rfl rfl rfl fun a1285 h1285 => ?_; clear h1284
           refine dk 16 (v := .int .u64 y1275.ts) h1285 rfl rfl rfl (fun x hx => by subst hx; exact (rn_load1 rfl rfl Try.isAgg27 ((sl_at (row_sl hr1283 entE_len) hy1275) 3 _ rfl))) fun a1286 h1286 => ?_; clear h1285
           refine dk0 17 (v := .bool (y1275.ts == 0)) h1286 rfl rfl rfl fun a1287 h1287 => ?_; clear h1286
           refine dk0 18 (v := .bool (y1275.ts == 0)) h1287 rfl rfl rfl fun a1288 h1288 => ?_; clear h1287
           cases hc1289 : (y1275.ts == 0)
           ·
            rw [hc1289] at h1288
            have hp1290 : ¬ (y1275.ts = 0) := by first | simpa using hc1289 | simpa [and_assoc] using hc1289
            clear hc1289
            refine dk0 19 (v := pt b 0) h1288 rfl rfl rfl fun a1291 h1291 => ?_; clear h1288
            refine dk0 20 (v := pt b 0) h1291 rfl rfl rfl fun a1292 h1292 => ?_; clear h1291
            refine dk0 21 (v := pt b 1) h1292 rfl rfl rfl fun a1293 h1293 => ?_; clear h1292
            refine dk 22 (v := u) h1293 rfl rfl rfl (fun x hx => by subst hx; exact (rn_load1 rfl rfl Try.isAgg48 (hk1271.cell rfl))) fun a1294 h1294 => ?_; clear h1293
            refine dk0 23 (v := .int .i64 ((j : Nat) : Int)) h1294 rfl rfl rfl fun a1295 h1295 => ?_; clear h1294
            refine dk 24 (v := .int .i64 (((j : Nat) : Int) - 1)) h1295 rfl rfl rfl (fun x hx => by subst hx; exact (rn_arith rfl rfl rfl rfl rfl rfl (IntWalk.i64_in _ (by omega)))) fun a1296 h1296 => ?_; clear h1295
            refine dk 25 (v := pt (blkOf u) (offOf u + ((((j : Nat) : Int) - 1).toNat) * 4)) h1296 rfl rfl rfl (fun x hx => by subst hx; exact (rn_index rfl rfl rfl Try.underlying48 Try.sizeOf40 (row_sl hr1283 entE_len) (by omega) (by first | omega | (simp; done) | (simp; omega)))) fun a1297 h1297 => ?_; clear h1296
            refine dk0 26 (v := pt (blkOf u) (offOf u + ((((j : Nat) : Int) - 1).toNat) * 4 + 3)) h1297 rfl rfl rfl fun a1298 h1298 => ?_; clear h1297
            refine dk 27 (v := .int .u64 y1275.ts) h1298 rfl rfl rfl (fun x hx => by subst hx; exact (rn_load1 rfl rfl Try.isAgg27 ((sl_at (row_sl hr1283 entE_len) hy1275) 3 _ rfl))) fun a1299 h1299 => ?_; clear h1298
            refine dk0 28 (v := pt N42 3) h1299 rfl rfl rfl fun a1300 h1300 => ?_; clear h1299
            refine dk 29 (v := .int .u64 ts) h1300 rfl rfl rfl (fun x hx => by subst hx; exact (rn_load1 rfl rfl Try.isAgg27 (hk1157.cell rfl))) fun a1301 h1301 => ?_; clear h1300
            refine dk0 30 (v := .bool (decide (y1275.ts ≥ ts))) h1301 rfl rfl rfl fun a1302 h1302 => ?_; clear h1301
            refine dk0 31 (v := .bool (decide (y1275.ts ≥ ts))) h1302 rfl rfl rfl fun a1303 h1303 => ?_; clear h1302
            refine dk0 32 (v := .bool (decide (y1275.ts ≥ ts))) h1303 rfl rfl rfl fun a1304 h1304 => ?_; clear h1303
            refine dr_done (by kernel_rfl) ?_
            refine co_then ?_
            cases hc1305 : (decide (y1275.ts ≥ ts))
            ·
             rw [hc1305] at h1304
             have hp1306 : ¬ (y1275.ts ≥ ts) := of_decide_eq_false hc1305
             clear hc1305
             refine co_false h1304 rfl ?_
             refine wp_skip ?_
             refine co_then ?_
             refine co_seq ?_
             refine co_seq ?_
             refine co_reg ?_
             refine pk0 (v := .bool false) h1304 rfl fun a1307 h1307 => ?_; clear h1304
             refine pk0 (v := .bool false) h1307 rfl fun a1308 h1308 => ?_; clear h1307
             refine psk h1308 rfl fun a1309 h1309 => ?_; clear h1308
             refine psk h1309 rfl fun a1310 h1310 => ?_; clear h1309
             refine psk h1310 rfl fun a1311 h1311 => ?_; clear h1310
             refine psk h1311 rfl fun a1312 h1312 => ?_; clear h1311
             refine pk0 (v := .bool false) h1312 rfl fun a1313 h1313 => ?_; clear h1312
             refine pl_nil ?_
             refine co_then ?_
             refine co_false h1313 rfl ?_
             refine co_reg ?_
             refine pk0 (v := pt b 0) h1313 rfl fun a1314 h1314 => ?_; clear h1313
             refine pk0 (v := .int .i64 ((j : Nat) : Int)) h1314 rfl fun a1315 h1315 => ?_; clear h1314
             refine pk (v := .agg #[.int .i64 c, .int .i64 r, v, .int .u64 ts]) h1315 rfl (rn_loadN rfl rfl Try.underlying40 rfl (by kernel_rfl) hk1157.all) fun a1316 h1316 => ?_; clear h1315
             have hbad : badT (L.take ((j : Int) : Int).toNat) (EntT.mk c r (.slice none 0 0) l ts) = false := by rw [bad_at (j := (((j : Nat) : Int) - 1).toNat) (by omega) (by omega) hy1275]; exact decide_eq_false (by simp only []; omega)
             have hnn := setE_n (i := ((j : Nat) : Int)) (by omega) (by assumption : (findN L (c, r)).getD 0 = _) (by first | exact .inl (hb1119.trans hc1140) | exact .inr (by omega))
             refine pw h1316 rfl (op_call (args := #[pt b 0, .int .i64 ((j : Nat) : Int), .agg #[.int .i64 c, .int .i64 r, v, .int .u64 ts]]) (R := fun res xw => ∃ u2 v2, res = .tuple #[] ∧ LgP S w0.heap.size xw b M u2 (L.take ((j : Nat) : Int).toNat ++ [EntT.mk c r v2 l ts]) ∧ But (S) w0 xw) rfl rfl rfl (by kernel_rfl) (by kernel_rfl) (Try.call64 _ _) (lreplace_any w0 S b M u L ((j : Nat) : Int) c r v l ts w1153 hB1162 ⟨hk1271, ⟨_, hM1164⟩, hr1283, hE1277, hO.sb, hO.sM, hO.su, hO.uq, hO.len⟩ (by omega) hnn hs hvS hlen hts hen) (by rintro e x ⟨u2, v2, rfl, h1, _, h2⟩; exact ⟨_, rfl, u2, v2, rfl, h1, h2⟩)) ?_; clear h1316
             rintro _ w1318 a1317 ⟨u1321, v1322, rfl, hO1319, hB1320⟩ h1317
             refine pl_nil ?_
             refine co_then ?_
             refine co_seq ?_
             refine co_reg ?_
             refine pk0 (v := .int .i64 0) h1317 rfl fun a1323 h1323 => ?_; clear h1317
             refine pl_nil ?_
             refine co_then ?_
             refine wp_ret ?_
             refine co_ret1 h1323 rfl rfl ?_
             have hb0 : badT (L.take ((j : Int) : Int).toNat) (EntT.mk c r (.slice none 0 0) l ts) = false := hbad
             have hE := setE_f (i := (j : Int)) (v := .slice none 0 0) (by omega) (by omega) (by omega) hnn hb0
             exact ⟨_, _, ret_int hE.symm, hO1319, .inr ⟨hE, .inr ⟨findN_off (by assumption : (findN L (c, r)).getD 0 = _) hnn (by first | exact .inl (hb1119.trans hc1140) | exact .inr (by omega)), _, rfl⟩⟩, hB1320⟩
            ·
             rw [hc1305] at h1304
             have hp1324 : y1275.ts ≥ ts := of_decide_eq_true hc1305
             clear hc1305
             refine co_true h1304 rfl ?_
             refine co_seq ?_
             refine co_reg ?_
             refine pk0 (v := .int .i64 18) h1304 rfl fun a1325 h1325 => ?_; clear h1304
             refine pl_nil ?_
             refine co_then ?_
             refine wp_ret ?_
             refine co_thenR ?_
             refine co_ret1 h1325 rfl rfl ?_
             have hE : setE L (j : Int) c r l ts = 18 := setE_e (v := .slice none 0 0) (by omega) (by omega) (by omega) (setE_n (by omega) (by assumption : (findN L (c, r)).getD 0 = _) (by first | exact .inl (hb1119.trans hc1140) | exact .inr (by omega))) (by rw [bad_at (j := (((j : Nat) : Int) - 1).toNat) (by omega) (by omega) hy1275]; exact decide_eq_true (by simp only []; omega))
             exact ⟨_, _, ret_int hE.symm, ⟨hk1271, ⟨_, hM1164⟩, hr1283, hE1277, hO.sb, hO.sM, hO.su, hO.uq, hO.len⟩, .same (by rw [hE]; omega), hB1162⟩
           ·
            rw [hc1289] at h1288
            have hp1326 : y1275.ts = 0 := by first | simpa using hc1289 | simpa [and_assoc] using hc1289
            clear hc1289
            refine dsk 19 h1288 rfl rfl rfl fun a1327 h1327 => ?_; clear h1288
            refine dsk 20 h1327 rfl rfl rfl fun a1328 h1328 => ?_; clear h1327
            refine dsk 21 h1328 rfl rfl rfl fun a1329 h1329 => ?_; clear h1328
            refine dsk 22 h1329 rfl rfl rfl fun a1330 h1330 => ?_; clear h1329
            refine dsk 23 h1330 rfl rfl rfl fun a1331 h1331 => ?_; clear h1330
            refine dsk 24 h1331 rfl rfl rfl fun a1332 h1332 => ?_; clear h1331
            refine dsk 25 h1332 rfl rfl rfl fun a1333 h1333 => ?_; clear h1332
            refine dsk 26 h1333 rfl rfl rfl fun a1334 h1334 => ?_; clear h1333
            refine dsk 27 h1334 rfl rfl rfl fun a1335 h1335 => ?_; clear h1334
            refine dsk 28 h1335 rfl rfl rfl fun a1336 h1336 => ?_; clear h1335
            refine dsk 29 h1336 rfl rfl rfl fun a1337 h1337 => ?_; clear h1336
            refine dsk 30 h1337 rfl rfl rfl fun a1338 h1338 => ?_; clear h1337
            refine dk0 31 (v := .bool true) h1338 rfl rfl rfl fun a1339 h1339 => ?_; clear h1338
            refine dk0 32 (v := .bool true) h1339 rfl rfl rfl fun a1340 h1340 => ?_; clear h1339
            refine dr_done (by kernel_rfl) ?_
            refine co_then ?_
            refine co_true h1340 rfl ?_
            refine co_seq ?_
            refine co_reg ?_
            refine pk0 (v := .int .i64 18) h1340 rfl fun a1341 h1341 => ?_; clear h1340
            refine pl_nil ?_
            refine co_then ?_
            refine wp_ret ?_
            refine co_thenR ?_
            refine co_ret1 h1341 rfl rfl ?_
            have hE : setE L (j : Int) c r l ts = 18 := setE_e (v := .slice none 0 0) (by omega) (by omega) (by omega) (setE_n (by omega) (by assumption : (findN L (c, r)).getD 0 = _) (by first | exact .inl (hb1119.trans hc1140) | exact .inr (by omega))) (by rw [bad_at (j := (((j : Nat) : Int) - 1).toNat) (by omega) (by omega) hy1275]; exact decide_eq_true (by simp only []; omega))
            exact ⟨_, _, ret_int hE.symm, ⟨hk1271, ⟨_, hM1164⟩, hr1283, hE1277, hO.sb, hO.sM, hO.su, hO.uq, hO.len⟩, .same (by rw [hE]; omega), hB1162⟩
        ·
         rw [hc1140] at h1139
         refine pk0 (v := pt N1096 0) h1139 rfl fun a1342 h1342 => ?_; clear h1139
         refine pk (v := .int .i64 f1116) h1342 rfl (rn_load1 rfl rfl Try.isAgg3 (hk1129'.cell rfl)) fun a1343 h1343 => ?_; clear h1342
         refine pk0 (v := .int .i64 ((j : Nat) : Int)) h1343 rfl fun a1344 h1344 => ?_; clear h1343
         refine pk0 (v := .bool (decide (f1116 < ((j : Nat) : Int)))) h1344 rfl fun a1345 h1345 => ?_; clear h1344
         refine pk0 (v := .bool (decide (f1116 < ((j : Nat) : Int)))) h1345 rfl fun a1346 h1346 => ?_; clear h1345
         refine pl_nil ?_
         refine co_then ?_
         cases hc1347 : (decide (f1116 < ((j : Nat) : Int)))
         ·
          rw [hc1347] at h1346
          have hp1348 : ¬ (f1116 < ((j : Nat) : Int)) := of_decide_eq_false hc1347
          clear hc1347
          refine co_false h1346 rfl ?_
          refine wp_skip ?_
          refine co_then ?_
          refine co_seq ?_
          refine co_seq ?_
          refine dr_eq (by kernel_rfl) (fun w1349 hg1350 => ?_)
          have hz1351 := hg1350.size
          refine dk0 0 (v := pt N42 3) h1346 rfl rfl rfl fun a1352 h1352 => ?_; clear h1346
          have hk1353 := hk1136.kept hg1350 (by simp)
          refine dk 1 (v := .int .u64 ts) h1352 rfl rfl rfl (fun x hx => by subst hx; exact (rn_load1 rfl rfl Try.isAgg27 (hk1353.cell rfl))) fun a1354 h1354 => ?_; clear h1352
          refine dk0 2 (v := .bool (ts != 0)) h1354 rfl rfl rfl fun a1355 h1355 => ?_; clear h1354
          refine dk0 3 (v := .bool (ts != 0)) h1355 rfl rfl rfl fun a1356 h1356 => ?_; clear h1355
          have hB1358 := fbU_new hB1134 hg1350
          have hM1359 := hM1122.kept hg1131 (by simp; omega)
          have hM1360 := hM1359.kept hg1350 (by simp)
          cases hc1357 : (ts != 0)
          ·
           rw [hc1357] at h1356
           have hp1361 : ¬ (ts ≠ 0) := by first | simpa using hc1357 | simpa [and_assoc] using hc1357
           clear hc1357
           refine dsk 4 h1356 rfl rfl rfl fun a1362 h1362 => ?_; clear h1356
           refine dsk 5 h1362 rfl rfl rfl fun a1363 h1363 => ?_; clear h1362
           refine dk0 6 (v := .bool false) h1363 rfl rfl rfl fun a1364 h1364 => ?_; clear h1363
           refine dk0 7 (v := .bool false) h1364 rfl rfl rfl fun a1365 h1365 => ?_; clear h1364
           refine dsk 8 h1365 rfl rfl rfl fun a1366 h1366 => ?_; clear h1365
           refine dsk 9 h1366 rfl rfl rfl fun a1367 h1367 => ?_; clear h1366
           refine dsk 10 h1367 rfl rfl rfl fun a1368 h1368 => ?_; clear h1367
           refine dsk 11 h1368 rfl rfl rfl fun a1369 h1369 => ?_; clear h1368
           refine dsk 12 h1369 rfl rfl rfl fun a1370 h1370 => ?_; clear h1369
           refine dsk 13 h1370 rfl rfl rfl fun a1371 h1371 => ?_; clear h1370
           refine dsk 14 h1371 rfl rfl rfl fun a1372 h1372 => ?_; clear h1371
           refine dsk 15 h1372 rfl rfl rfl fun a1373 h1373 => ?_; clear h1372
           refine dsk 16 h1373 rfl rfl rfl fun a1374 h1374 => ?_; clear h1373
           refine dsk 17 h1374 rfl rfl rfl fun a1375 h1375 => ?_; clear h1374
           refine dsk 18 h1375 rfl rfl rfl fun a1376 h1376 => ?_; clear h1375
           refine dsk 19 h1376 rfl rfl rfl fun a1377 h1377 => ?_; clear h1376
           refine dsk 20 h1377 rfl rfl rfl fun a1378 h1378 => ?_; clear h1377
           refine dsk 21 h1378 rfl rfl rfl fun a1379 h1379 => ?_; clear h1378
           refine dsk 22 h1379 rfl rfl rfl fun a1380 h1380 => ?_; clear h1379
           refine dsk 23 h1380 rfl rfl rfl fun a1381 h1381 => ?_; clear h1380
           refine dsk 24 h1381 rfl rfl rfl fun a1382 h1382 => ?_; clear h1381
           refine dsk 25 h1382 rfl rfl rfl fun a1383 h1383 => ?_; clear h1382
           refine dsk 26 h1383 rfl rfl rfl fun a1384 h1384 => ?_; clear h1383
           refine dsk 27 h1384 rfl rfl rfl fun a1385 h1385 => ?_; clear h1384
           refine dsk 28 h1385 rfl rfl rfl fun a1386 h1386 => ?_; clear h1385
           refine dsk 29 h1386 rfl rfl rfl fun a1387 h1387 => ?_; clear h1386
           refine dsk 30 h1387 rfl rfl rfl fun a1388 h1388 => ?_; clear h1387
           refine dsk 31 h1388 rfl rfl rfl fun a1389 h1389 => ?_; clear h1388
           refine dk0 32 (v := .bool false) h1389 rfl rfl rfl fun a1390 h1390 => ?_; clear h1389
           refine dr_done (by kernel_rfl) ?_
           refine co_then ?_
           refine co_false h1390 rfl ?_
           refine wp_skip ?_
           refine co_then ?_
           refine co_seq ?_
           refine co_seq ?_
           refine co_reg ?_
           refine pk0 (v := .bool true) h1390 rfl fun a1391 h1391 => ?_; clear h1390
           refine pk0 (v := .bool true) h1391 rfl fun a1392 h1392 => ?_; clear h1391
           refine pk0 (v := pt N1096 0) h1392 rfl fun a1393 h1393 => ?_; clear h1392
           have hk1394 := hk1129'.kept hg1350 (by simp)
           refine pk (v := .int .i64 f1116) h1393 rfl (rn_load1 rfl rfl Try.isAgg3 (hk1394.cell rfl)) fun a1395 h1395 => ?_; clear h1393
           refine pk0 (v := .int .i64 ((j : Nat) : Int)) h1395 rfl fun a1396 h1396 => ?_; clear h1395
           refine pk0 (v := .bool (f1116 == ((j : Nat) : Int))) h1396 rfl fun a1397 h1397 => ?_; clear h1396
           refine pk0 (v := .bool (f1116 == ((j : Nat) : Int))) h1397 rfl fun a1398 h1398 => ?_; clear h1397
           refine pl_nil ?_
           refine co_then ?_
           cases hc1399 : (f1116 == ((j : Nat) : Int))
           ·
            rw [hc1399] at h1398
            have hp1400 : ¬ (f1116 = ((j : Nat) : Int)) := by first | simpa using hc1399 | simpa [and_assoc] using hc1399
            clear hc1399
            refine co_false h1398 rfl ?_
            refine co_reg ?_
            refine pk0 (v := pt b 0) h1398 rfl fun a1401 h1401 => ?_; clear h1398
            refine pk0 (v := .int .i64 ((j : Nat) : Int)) h1401 rfl fun a1402 h1402 => ?_; clear h1401
            refine pk (v := .agg #[.int .i64 c, .int .i64 r, v, .int .u64 ts]) h1402 rfl (rn_loadN rfl rfl Try.underlying40 rfl (by kernel_rfl) hk1353.all) fun a1403 h1403 => ?_; clear h1402
            have hbad : badT (L.take ((j : Int) : Int).toNat) (EntT.mk c r (.slice none 0 0) l ts) = false := by first | exact bad_ts (by simp only []; omega) | exact badM_0 (by omega)
            have hnn := setE_n (i := ((j : Nat) : Int)) (by omega) (by assumption : (findN L (c, r)).getD 0 = _) (by first | exact .inl (hb1119.trans hc1140) | exact .inr (by omega))
            have hr1410 := row_kept_new hr1143 hg1350
            have hE1411 := hE1147.new hg1350
            have hk1412 := hk1135.kept hg1350 (by simp)
            refine pw h1403 rfl (op_call (args := #[pt b 0, .int .i64 ((j : Nat) : Int), .agg #[.int .i64 c, .int .i64 r, v, .int .u64 ts]]) (R := fun res xw => ∃ u2 v2, res = .tuple #[] ∧ LgP S w0.heap.size xw b M u2 (L.take ((j : Nat) : Int).toNat ++ [EntT.mk c r v2 l ts]) ∧ But (S) w0 xw) rfl rfl rfl (by kernel_rfl) (by kernel_rfl) (Try.call64 _ _) (lreplace_any w0 S b M u L ((j : Nat) : Int) c r v l ts w1349 hB1358 ⟨hk1412, ⟨_, hM1360⟩, hr1410, hE1411, hO.sb, hO.sM, hO.su, hO.uq, hO.len⟩ (by omega) hnn hs hvS hlen hts hen) (by rintro e x ⟨u2, v2, rfl, h1, _, h2⟩; exact ⟨_, rfl, u2, v2, rfl, h1, h2⟩)) ?_; clear h1403
            rintro _ w1405 a1404 ⟨u1408, v1409, rfl, hO1406, hB1407⟩ h1404
            refine pl_nil ?_
            refine co_then ?_
            refine co_seq ?_
            refine co_reg ?_
            refine pk0 (v := .int .i64 0) h1404 rfl fun a1413 h1413 => ?_; clear h1404
            refine pl_nil ?_
            refine co_then ?_
            refine wp_ret ?_
            refine co_ret1 h1413 rfl rfl ?_
            have hb0 : badT (L.take ((j : Int) : Int).toNat) (EntT.mk c r (.slice none 0 0) l ts) = false := hbad
            have hE := setE_f (i := (j : Int)) (v := .slice none 0 0) (by omega) (by omega) (by omega) hnn hb0
            exact ⟨_, _, ret_int hE.symm, hO1406, .inr ⟨hE, .inr ⟨findN_off (by assumption : (findN L (c, r)).getD 0 = _) hnn (by first | exact .inl (hb1119.trans hc1140) | exact .inr (by omega)), _, rfl⟩⟩, hB1407⟩
           ·
            rw [hc1399] at h1398
            have hp1414 : f1116 = ((j : Nat) : Int) := by first | simpa using hc1399 | simpa [and_assoc] using hc1399
            clear hc1399
            refine co_true h1398 rfl ?_
            refine co_reg ?_
            refine pk0 (v := pt b 0) h1398 rfl fun a1415 h1415 => ?_; clear h1398
            refine pk0 (v := .int .i64 ((j : Nat) : Int)) h1415 rfl fun a1416 h1416 => ?_; clear h1415
            refine pk0 (v := pt N42 3) h1416 rfl fun a1417 h1417 => ?_; clear h1416
            refine pk (v := .int .u64 ts) h1417 rfl (rn_load1 rfl rfl Try.isAgg27 (hk1353.cell rfl)) fun a1418 h1418 => ?_; clear h1417
            have hnn := setE_n (i := (j : Int)) (by omega) (by assumption : (findN L (c, r)).getD 0 = _) (by first | exact .inl (hb1119.trans hc1140) | exact .inr (by omega))
            have hjl := findN_atl (findN_at (j := j) (by first | exact hb1119.trans hc1140) (by assumption : (findN L (c, r)).getD 0 = _) (by omega))
            have hbad : badT (L.take ((j : Int) : Int).toNat) (EntT.mk c r (.slice none 0 0) l ts) = false := by first | exact bad_ts (by simp only []; omega) | exact badM_0 (by omega)
            have hr1423 := row_kept_new hr1143 hg1350
            have hE1424 := hE1147.new hg1350
            have hk1425 := hk1135.kept hg1350 (by simp)
            refine pw h1418 rfl (op_call (args := #[pt b 0, .int .i64 ((j : Nat) : Int), .int .u64 ts]) (R := fun res xw => res = .tuple #[] ∧ LgP S w0.heap.size xw b M u (restF L ((j : Nat) : Int).toNat ts) ∧ But (S) w0 xw) rfl rfl rfl (by kernel_rfl) (by kernel_rfl) (Try.call63 _ _) (lrestamp_any w0 S b M u L ((j : Nat) : Int) ts w1349 hB1358 ⟨hk1425, ⟨_, hM1360⟩, hr1423, hE1424, hO.sb, hO.sM, hO.su, hO.uq, hO.len⟩ (by omega) (by omega)) (by rintro e x ⟨rfl, h1, h2⟩; exact ⟨_, rfl, rfl, h1, h2⟩)) ?_; clear h1418
            rintro _ w1420 a1419 ⟨rfl, hO1421, hB1422⟩ h1419
            refine pl_nil ?_
            refine co_then ?_
            refine co_seq ?_
            refine co_reg ?_
            refine pk0 (v := .int .i64 0) h1419 rfl fun a1426 h1426 => ?_; clear h1419
            refine pl_nil ?_
            refine co_then ?_
            refine wp_ret ?_
            refine co_ret1 h1426 rfl rfl ?_
            have hb0 : badT (L.take ((j : Int) : Int).toNat) (EntT.mk c r (.slice none 0 0) l ts) = false := hbad
            have hE := setE_f (i := (j : Int)) (v := .slice none 0 0) (by omega) (by omega) (by omega) hnn hb0
            exact ⟨_, _, ret_int hE.symm, hO1421, .inr ⟨hE, .inl ⟨findN_at (by first | exact hb1119.trans hc1140) (by assumption : (findN L (c, r)).getD 0 = _) (by omega), rfl⟩⟩, hB1422⟩
          ·
           rw [hc1357] at h1356
           have hp1427 : ts ≠ 0 := by first | simpa using hc1357 | simpa [and_assoc] using hc1357
           clear hc1357
           refine dk0 4 (v := .int .i64 ((j : Nat) : Int)) h1356 rfl rfl rfl fun a1428 h1428 => ?_; clear h1356
           refine dk0 5 (v := .bool (decide (((j : Nat) : Int) > 0))) h1428 rfl rfl rfl fun a1429 h1429 => ?_; clear h1428
           refine dk0 6 (v := .bool (decide (((j : Nat) : Int) > 0))) h1429 rfl rfl rfl fun a1430 h1430 => ?_; clear h1429
           refine dk0 7 (v := .bool (decide (((j : Nat) : Int) > 0))) h1430 rfl rfl rfl fun a1431 h1431 => ?_; clear h1430
           cases hc1432 : (decide (((j : Nat) : Int) > 0))
           ·
            rw [hc1432] at h1431
            have hp1433 : ¬ (((j : Nat) : Int) > 0) := of_decide_eq_false hc1432
            clear hc1432
            refine dsk 8 h1431 rfl rfl rfl fun a1434 h1434 => ?_; clear h1431
            refine dsk 9 h1434 rfl rfl rfl fun a1435 h1435 => ?_; clear h1434
            refine dsk 10 h1435 rfl rfl rfl fun a1436 h1436 => ?_; clear h1435
            refine dsk 11 h1436 rfl rfl rfl fun a1437 h1437 => ?_; clear h1436
            refine dsk 12 h1437 rfl rfl rfl fun a1438 h1438 => ?_; clear h1437
            refine dsk 13 h1438 rfl rfl rfl fun a1439 h1439 => ?_; clear h1438
            refine dsk 14 h1439 rfl rfl rfl fun a1440 h1440 => ?_; clear h1439
            refine dsk 15 h1440 rfl rfl rfl fun a1441 h1441 => ?_; clear h1440
            refine dsk 16 h1441 rfl rfl rfl fun a1442 h1442 => ?_; clear h1441
            refine dsk 17 h1442 rfl rfl rfl fun a1443 h1443 => ?_; clear h1442
            refine dsk 18 h1443 rfl rfl rfl fun a1444 h1444 => ?_; clear h1443
            refine dsk 19 h1444 rfl rfl rfl fun a1445 h1445 => ?_; clear h1444
            refine dsk 20 h1445 rfl rfl rfl fun a1446 h1446 => ?_; clear h1445
            refine dsk 21 h1446 rfl rfl rfl fun a1447 h1447 => ?_; clear h1446
            refine dsk 22 h1447 rfl rfl rfl fun a1448 h1448 => ?_; clear h1447
            refine dsk 23 h1448 rfl rfl rfl fun a1449 h1449 => ?_; clear h1448
            refine dsk 24 h1449 rfl rfl rfl fun a1450 h1450 => ?_; clear h1449
            refine dsk 25 h1450 rfl rfl rfl fun a1451 h1451 => ?_; clear h1450
            refine dsk 26 h1451 rfl rfl rfl fun a1452 h1452 => ?_; clear h1451
            refine dsk 27 h1452 rfl rfl rfl fun a1453 h1453 => ?_; clear h1452
            refine dsk 28 h1453 rfl rfl rfl fun a1454 h1454 => ?_; clear h1453
            refine dsk 29 h1454 rfl rfl rfl fun a1455 h1455 => ?_; clear h1454
            refine dsk 30 h1455 rfl rfl rfl fun a1456 h1456 => ?_; clear h1455
            refine dsk 31 h1456 rfl rfl rfl fun a1457 h1457 => ?_; clear h1456
            refine dk0 32 (v := .bool false) h1457 rfl rfl rfl fun a1458 h1458 => ?_; clear h1457
            refine dr_done (by kernel_rfl) ?_
            refine co_then ?_
            refine co_false h1458 rfl ?_
            refine wp_skip ?_
            refine co_then ?_
            refine co_seq ?_
            refine co_seq ?_
            refine co_reg ?_
            refine pk0 (v := .bool true) h1458 rfl fun a1459 h1459 => ?_; clear h1458
            refine pk0 (v := .bool true) h1459 rfl fun a1460 h1460 => ?_; clear h1459
            refine pk0 (v := pt N1096 0) h1460 rfl fun a1461 h1461 => ?_; clear h1460
            have hk1462 := hk1129'.kept hg1350 (by simp)
            refine pk (v := .int .i64 f1116) h1461 rfl (rn_load1 rfl rfl Try.isAgg3 (hk1462.cell rfl)) fun a1463 h1463 => ?_; clear h1461
            refine pk0 (v := .int .i64 ((j : Nat) : Int)) h1463 rfl fun a1464 h1464 => ?_; clear h1463
            refine pk0 (v := .bool (f1116 == ((j : Nat) : Int))) h1464 rfl fun a1465 h1465 => ?_; clear h1464
            refine pk0 (v := .bool (f1116 == ((j : Nat) : Int))) h1465 rfl fun a1466 h1466 => ?_; clear h1465
            refine pl_nil ?_
            refine co_then ?_
            cases hc1467 : (f1116 == ((j : Nat) : Int))
            ·
             rw [hc1467] at h1466
             have hp1468 : ¬ (f1116 = ((j : Nat) : Int)) := by first | simpa using hc1467 | simpa [and_assoc] using hc1467
             clear hc1467
             refine co_false h1466 rfl ?_
             refine co_reg ?_
             refine pk0 (v := pt b 0) h1466 rfl fun a1469 h1469 => ?_; clear h1466
             refine pk0 (v := .int .i64 ((j : Nat) : Int)) h1469 rfl fun a1470 h1470 => ?_; clear h1469
             refine pk (v := .agg #[.int .i64 c, .int .i64 r, v, .int .u64 ts]) h1470 rfl (rn_loadN rfl rfl Try.underlying40 rfl (by kernel_rfl) hk1353.all) fun a1471 h1471 => ?_; clear h1470
             have hbad : badT (L.take ((j : Int) : Int).toNat) (EntT.mk c r (.slice none 0 0) l ts) = false := by first | exact bad_ts (by simp only []; omega) | exact badM_0 (by omega)
             have hnn := setE_n (i := ((j : Nat) : Int)) (by omega) (by assumption : (findN L (c, r)).getD 0 = _) (by first | exact .inl (hb1119.trans hc1140) | exact .inr (by omega))
             have hr1478 := row_kept_new hr1143 hg1350
             have hE1479 := hE1147.new hg1350
             have hk1480 := hk1135.kept hg1350 (by simp)
             refine pw h1471 rfl (op_call (args := #[pt b 0, .int .i64 ((j : Nat) : Int), .agg #[.int .i64 c, .int .i64 r, v, .int .u64 ts]]) (R := fun res xw => ∃ u2 v2, res = .tuple #[] ∧ LgP S w0.heap.size xw b M u2 (L.take ((j : Nat) : Int).toNat ++ [EntT.mk c r v2 l ts]) ∧ But (S) w0 xw) rfl rfl rfl (by kernel_rfl) (by kernel_rfl) (Try.call64 _ _) (lreplace_any w0 S b M u L ((j : Nat) : Int) c r v l ts w1349 hB1358 ⟨hk1480, ⟨_, hM1360⟩, hr1478, hE1479, hO.sb, hO.sM, hO.su, hO.uq, hO.len⟩ (by omega) hnn hs hvS hlen hts hen) (by rintro e x ⟨u2, v2, rfl, h1, _, h2⟩; exact ⟨_, rfl, u2, v2, rfl, h1, h2⟩)) ?_; clear h1471
             rintro _ w1473 a1472 ⟨u1476, v1477, rfl, hO1474, hB1475⟩ h1472
             refine pl_nil ?_
             refine co_then ?_
             refine co_seq ?_
             refine co_reg ?_
             refine pk0 (v := .int .i64 0) h1472 rfl fun a1481 h1481 => ?_; clear h1472
             refine pl_nil ?_
             refine co_then ?_
             refine wp_ret ?_
             refine co_ret1 h1481 rfl rfl ?_
             have hb0 : badT (L.take ((j : Int) : Int).toNat) (EntT.mk c r (.slice none 0 0) l ts) = false := hbad
             have hE := setE_f (i := (j : Int)) (v := .slice none 0 0) (by omega) (by omega) (by omega) hnn hb0
             exact ⟨_, _, ret_int hE.symm, hO1474, .inr ⟨hE, .inr ⟨findN_off (by assumption : (findN L (c, r)).getD 0 = _) hnn (by first | exact .inl (hb1119.trans hc1140) | exact .inr (by omega)), _, rfl⟩⟩, hB1475⟩
            ·
             rw [hc1467] at h1466
             have hp1482 : f1116 = ((j : Nat) : Int) := by first | simpa using hc1467 | simpa [and_assoc] using hc1467
             clear hc1467
             refine co_true h1466 rfl ?_
             refine co_reg ?_
             refine pk0 (v := pt b 0) h1466 rfl fun a1483 h1483 => ?_; clear h1466
             refine pk0 (v := .int .i64 ((j : Nat) : Int)) h1483 rfl fun a1484 h1484 => ?_; clear h1483
             refine pk0 (v := pt N42 3) h1484 rfl fun a1485 h1485 => ?_; clear h1484
             refine pk (v := .int .u64 ts) h1485 rfl (rn_load1 rfl rfl Try.isAgg27 (hk1353.cell rfl)) fun a1486 h1486 => ?_; clear h1485
             have hnn := setE_n (i := (j : Int)) (by omega) (by assumption : (findN L (c, r)).getD 0 = _) (by first | exact .inl (hb1119.trans hc1140) | exact .inr (by omega))
             have hjl := findN_atl (findN_at (j := j) (by first | exact hb1119.trans hc1140) (by assumption : (findN L (c, r)).getD 0 = _) (by omega))
             have hbad : badT (L.take ((j : Int) : Int).toNat) (EntT.mk c r (.slice none 0 0) l ts) = false := by first | exact bad_ts (by simp only []; omega) | exact badM_0 (by omega)
             have hr1491 := row_kept_new hr1143 hg1350
             have hE1492 := hE1147.new hg1350
             have hk1493 := hk1135.kept hg1350 (by simp)
             refine pw h1486 rfl (op_call (args := #[pt b 0, .int .i64 ((j : Nat) : Int), .int .u64 ts]) (R := fun res xw => res = .tuple #[] ∧ LgP S w0.heap.size xw b M u (restF L ((j : Nat) : Int).toNat ts) ∧ But (S) w0 xw) rfl rfl rfl (by kernel_rfl) (by kernel_rfl) (Try.call63 _ _) (lrestamp_any w0 S b M u L ((j : Nat) : Int) ts w1349 hB1358 ⟨hk1493, ⟨_, hM1360⟩, hr1491, hE1492, hO.sb, hO.sM, hO.su, hO.uq, hO.len⟩ (by omega) (by omega)) (by rintro e x ⟨rfl, h1, h2⟩; exact ⟨_, rfl, rfl, h1, h2⟩)) ?_; clear h1486
             rintro _ w1488 a1487 ⟨rfl, hO1489, hB1490⟩ h1487
             refine pl_nil ?_
             refine co_then ?_
             refine co_seq ?_
             refine co_reg ?_
             refine pk0 (v := .int .i64 0) h1487 rfl fun a1494 h1494 => ?_; clear h1487
             refine pl_nil ?_
             refine co_then ?_
             refine wp_ret ?_
             refine co_ret1 h1494 rfl rfl ?_
             have hb0 : badT (L.take ((j : Int) : Int).toNat) (EntT.mk c r (.slice none 0 0) l ts) = false := hbad
             have hE := setE_f (i := (j : Int)) (v := .slice none 0 0) (by omega) (by omega) (by omega) hnn hb0
             exact ⟨_, _, ret_int hE.symm, hO1489, .inr ⟨hE, .inl ⟨findN_at (by first | exact hb1119.trans hc1140) (by assumption : (findN L (c, r)).getD 0 = _) (by omega), rfl⟩⟩, hB1490⟩
           ·
            rw [hc1432] at h1431
            have hp1495 : ((j : Nat) : Int) > 0 := of_decide_eq_true hc1432
            clear hc1432
            refine dk0 8 (v := pt b 0) h1431 rfl rfl rfl fun a1496 h1496 => ?_; clear h1431
            refine dk0 9 (v := pt b 0) h1496 rfl rfl rfl fun a1497 h1497 => ?_; clear h1496
            refine dk0 10 (v := pt b 1) h1497 rfl rfl rfl fun a1498 h1498 => ?_; clear h1497
            have hk1499 := hk1135.kept hg1350 (by simp)
            refine dk 11 (v := u) h1498 rfl rfl rfl (fun x hx => by subst hx; exact (rn_load1 rfl rfl Try.isAgg48 (hk1499.cell rfl))) fun a1500 h1500 => ?_; clear h1498
            refine dk0 12 (v := .int .i64 ((j : Nat) : Int)) h1500 rfl rfl rfl fun a1501 h1501 => ?_; clear h1500
            refine dk 13 (v := .int .i64 (((j : Nat) : Int) - 1)) h1501 rfl rfl rfl (fun x hx => by subst hx; exact (rn_arith rfl rfl rfl rfl rfl rfl (IntWalk.i64_in _ (by omega)))) fun a1502 h1502 => ?_; clear h1501
            have hE1505 := hE1147.new hg1350
            have hr1511 := row_kept_new hr1143 hg1350
            obtain ⟨y1503, hy1503⟩ : ∃ z, L[(((j : Nat) : Int) - 1).toNat]? = some z := ⟨_, List.getElem?_eq_getElem (by first | omega | (simp; done) | (simp; omega))⟩
            have oky1503 := (fun (z : EntT) (_ : z ∈ L) => trivial) _ (List.mem_of_getElem? hy1503)
            have hy1504 := hE1505.at hy1503
            have hq1506 := hy1504.ts0; have hq1507 := hy1504.ts1; have hq1508 := hy1504.len; have hq1509 := wf_i64 hy1504.cl; have hq1510 := wf_i64 hy1504.rq
            refine dk 14 (v := pt (blkOf u) (offOf u + ((((j : Nat) : Int) - 1).toNat) * 4)) h1502 rfl rfl rfl (fun x hx => by subst hx; exact (rn_index rfl rfl rfl Try.underlying48 Try.sizeOf40 (row_sl hr1511 entE_len) (by omega) (by first | omega | (simp; done) | (simp; omega)))) fun a1512 h1512 => ?_; clear h1502
            refine dk0 15 (v := pt (blkOf u) (offOf u + ((((j : Nat) : Int) - 1).toNat) * 4 + 3)) h1512 rfl rfl rfl fun a1513 h1513 => ?_; clear h1512
            refine dk 16 (v := .int .u64 y1503.ts) h1513 rfl rfl rfl (fun x hx => by subst hx; exact (rn_load1 rfl rfl Try.isAgg27 ((sl_at (row_sl hr1511 entE_len) hy1503) 3 _ rfl))) fun a1514 h1514 => ?_; clear h1513
            refine dk0 17 (v := .bool (y1503.ts == 0)) h1514 rfl rfl rfl fun a1515 h1515 => ?_; clear h1514
            refine dk0 18 (v := .bool (y1503.ts == 0)) h1515 rfl rfl rfl fun a1516 h1516 => ?_; clear h1515
            cases hc1517 : (y1503.ts == 0)
            ·
             rw [hc1517] at h1516
             have hp1518 : ¬ (y1503.ts = 0) := by first | simpa using hc1517 | simpa [and_assoc] using hc1517
             clear hc1517
             refine dk0 19 (v := pt b 0) h1516 rfl rfl rfl fun a1519 h1519 => ?_; clear h1516
             refine dk0 20 (v := pt b 0) h1519 rfl rfl rfl fun a1520 h1520 => ?_; clear h1519
             refine dk0 21 (v := pt b 1) h1520 rfl rfl rfl fun a1521 h1521 => ?_; clear h1520
             refine dk 22 (v := u) h1521 rfl rfl rfl (fun x hx => by subst hx; exact (rn_load1 rfl rfl Try.isAgg48 (hk1499.cell rfl))) fun a1522 h1522 => ?_; clear h1521
             refine dk0 23 (v := .int .i64 ((j : Nat) : Int)) h1522 rfl rfl rfl fun a1523 h1523 => ?_; clear h1522
             refine dk 24 (v := .int .i64 (((j : Nat) : Int) - 1)) h1523 rfl rfl rfl (fun x hx => by subst hx; exact (rn_arith rfl rfl rfl rfl rfl rfl (IntWalk.i64_in _ (by omega)))) fun a1524 h1524 => ?_; clear h1523
             refine dk 25 (v := pt (blkOf u) (offOf u + ((((j : Nat) : Int) - 1).toNat) * 4)) h1524 rfl rfl rfl (fun x hx => by subst hx; exact (rn_index rfl rfl rfl Try.underlying48 Try.sizeOf40 (row_sl hr1511 entE_len) (by omega) (by first | omega | (simp; done) | (simp; omega)))) fun a1525 h1525 => ?_; clear h1524
             refine dk0 26 (v := pt (blkOf u) (offOf u + ((((j : Nat) : Int) - 1).toNat) * 4 + 3)) h1525 rfl rfl rfl fun a1526 h1526 => ?_; clear h1525
             refine dk 27 (v := .int .u64 y1503.ts) h1526 rfl rfl rfl (fun x hx => by subst hx; exact (rn_load1 rfl rfl Try.isAgg27 ((sl_at (row_sl hr1511 entE_len) hy1503) 3 _ rfl))) fun a1527 h1527 => ?_; clear h1526
             refine dk0 28 (v := pt N42 3) h1527 rfl rfl rfl fun a1528 h1528 => ?_; clear h1527
             refine dk 29 (v := .int .u64 ts) h1528 rfl rfl rfl (fun x hx => by subst hx; exact (rn_load1 rfl rfl Try.isAgg27 (hk1353.cell rfl))) fun a1529 h1529 => ?_; clear h1528
             refine dk0 30 (v := .bool (decide (y1503.ts ≥ ts))) h1529 rfl rfl rfl fun a1530 h1530 => ?_; clear h1529
             refine dk0 31 (v := .bool (decide (y1503.ts ≥ ts))) h1530 rfl rfl rfl fun a1531 h1531 => ?_; clear h1530
             refine dk0 32 (v := .bool (decide (y1503.ts ≥ ts))) h1531 rfl rfl rfl fun a1532 h1532 => ?_; clear h1531
             refine dr_done (by kernel_rfl) ?_
             refine co_then ?_
             cases hc1533 : (decide (y1503.ts ≥ ts))
             ·
              rw [hc1533] at h1532
              have hp1534 : ¬ (y1503.ts ≥ ts) := of_decide_eq_false hc1533
              clear hc1533
              refine co_false h1532 rfl ?_
              refine wp_skip ?_
              refine co_then ?_
              refine co_seq ?_
              refine co_seq ?_
              refine co_reg ?_
              refine pk0 (v := .bool true) h1532 rfl fun a1535 h1535 => ?_; clear h1532
              refine pk0 (v := .bool true) h1535 rfl fun a1536 h1536 => ?_; clear h1535
              refine pk0 (v := pt N1096 0) h1536 rfl fun a1537 h1537 => ?_; clear h1536
              have hk1538 := hk1129'.kept hg1350 (by simp)
              refine pk (v := .int .i64 f1116) h1537 rfl (rn_load1 rfl rfl Try.isAgg3 (hk1538.cell rfl)) fun a1539 h1539 => ?_; clear h1537
              refine pk0 (v := .int .i64 ((j : Nat) : Int)) h1539 rfl fun a1540 h1540 => ?_; clear h1539
              refine pk0 (v := .bool (f1116 == ((j : Nat) : Int))) h1540 rfl fun a1541 h1541 => ?_; clear h1540
              refine pk0 (v := .bool (f1116 == ((j : Nat) : Int))) h1541 rfl fun a1542 h1542 => ?_; clear h1541
              refine pl_nil ?_
              refine co_then ?_
              cases hc1543 : (f1116 == ((j : Nat) : Int))
              ·
               rw [hc1543] at h1542
               have hp1544 : ¬ (f1116 = ((j : Nat) : Int)) := by first | simpa using hc1543 | simpa [and_assoc] using hc1543
               clear hc1543
               refine co_false h1542 rfl ?_
               refine co_reg ?_
               refine pk0 (v := pt b 0) h1542 rfl fun a1545 h1545 => ?_; clear h1542
               refine pk0 (v := .int .i64 ((j : Nat) : Int)) h1545 rfl fun a1546 h1546 => ?_; clear h1545
               refine pk (v := .agg #[.int .i64 c, .int .i64 r, v, .int .u64 ts]) h1546 rfl (rn_loadN rfl rfl Try.underlying40 rfl (by kernel_rfl) hk1353.all) fun a1547 h1547 => ?_; clear h1546
               have hbad : badT (L.take ((j : Int) : Int).toNat) (EntT.mk c r (.slice none 0 0) l ts) = false := by rw [bad_at (j := (((j : Nat) : Int) - 1).toNat) (by omega) (by omega) hy1503]; exact decide_eq_false (by simp only []; omega)
               have hnn := setE_n (i := ((j : Nat) : Int)) (by omega) (by assumption : (findN L (c, r)).getD 0 = _) (by first | exact .inl (hb1119.trans hc1140) | exact .inr (by omega))
               refine pw h1547 rfl (op_call (args := #[pt b 0, .int .i64 ((j : Nat) : Int), .agg #[.int .i64 c, .int .i64 r, v, .int .u64 ts]]) (R := fun res xw => ∃ u2 v2, res = .tuple #[] ∧ LgP S w0.heap.size xw b M u2 (L.take ((j : Nat) : Int).toNat ++ [EntT.mk c r v2 l ts]) ∧ But (S) w0 xw) rfl rfl rfl (by kernel_rfl) (by kernel_rfl) (Try.call64 _ _) (lreplace_any w0 S b M u L ((j : Nat) : Int) c r v l ts w1349 hB1358 ⟨hk1499, ⟨_, hM1360⟩, hr1511, hE1505, hO.sb, hO.sM, hO.su, hO.uq, hO.len⟩ (by omega) hnn hs hvS hlen hts hen) (by rintro e x ⟨u2, v2, rfl, h1, _, h2⟩; exact ⟨_, rfl, u2, v2, rfl, h1, h2⟩)) ?_; clear h1547
               rintro _ w1549 a1548 ⟨u1552, v1553, rfl, hO1550, hB1551⟩ h1548
               refine pl_nil ?_
               refine co_then ?_
               refine co_seq ?_
               refine co_reg ?_
               refine pk0 (v := .int .i64 0) h1548 rfl fun a1554 h1554 => ?_; clear h1548
               refine pl_nil ?_
               refine co_then ?_
               refine wp_ret ?_
               refine co_ret1 h1554 rfl rfl ?_
               have hb0 : badT (L.take ((j : Int) : Int).toNat) (EntT.mk c r (.slice none 0 0) l ts) = false := hbad
               have hE := setE_f (i := (j : Int)) (v := .slice none 0 0) (by omega) (by omega) (by omega) hnn hb0
               exact ⟨_, _, ret_int hE.symm, hO1550, .inr ⟨hE, .inr ⟨findN_off (by assumption : (findN L (c, r)).getD 0 = _) hnn (by first | exact .inl (hb1119.trans hc1140) | exact .inr (by omega)), _, rfl⟩⟩, hB1551⟩
              ·
               rw [hc1543] at h1542
               have hp1555 : f1116 = ((j : Nat) : Int) := by first | simpa using hc1543 | simpa [and_assoc] using hc1543
               clear hc1543
               refine co_true h1542 rfl ?_
               refine co_reg ?_
               refine pk0 (v := pt b 0) h1542 rfl fun a1556 h1556 => ?_; clear h1542
               refine pk0 (v := .int .i64 ((j : Nat) : Int)) h1556 rfl fun a1557 h1557 => ?_; clear h1556
               refine pk0 (v := pt N42 3) h1557 rfl fun a1558 h1558 => ?_; clear h1557
               refine pk (v := .int .u64 ts) h1558 rfl (rn_load1 rfl rfl Try.isAgg27 (hk1353.cell rfl)) fun a1559 h1559 => ?_; clear h1558
               have hnn := setE_n (i := (j : Int)) (by omega) (by assumption : (findN L (c, r)).getD 0 = _) (by first | exact .inl (hb1119.trans hc1140) | exact .inr (by omega))
               have hjl := findN_atl (findN_at (j := j) (by first | exact hb1119.trans hc1140) (by assumption : (findN L (c, r)).getD 0 = _) (by omega))
               have hbad : badT (L.take ((j : Int) : Int).toNat) (EntT.mk c r (.slice none 0 0) l ts) = false := by rw [bad_at (j := (((j : Nat) : Int) - 1).toNat) (by omega) (by omega) hy1503]; exact decide_eq_false (by simp only []; omega)
               refine pw h1559 rfl (op_call (args := #[pt b 0, .int .i64 ((j : Nat) : Int), .int .u64 ts]) (R := fun res xw => res = .tuple #[] ∧ LgP S w0.heap.size xw b M u (restF L ((j : Nat) : Int).toNat ts) ∧ But (S) w0 xw) rfl rfl rfl (by kernel_rfl) (by kernel_rfl) (Try.call63 _ _) (lrestamp_any w0 S b M u L ((j : Nat) : Int) ts w1349 hB1358 ⟨hk1499, ⟨_, hM1360⟩, hr1511, hE1505, hO.sb, hO.sM, hO.su, hO.uq, hO.len⟩ (by omega) (by omega)) (by rintro e x ⟨rfl, h1, h2⟩; exact ⟨_, rfl, rfl, h1, h2⟩)) ?_; clear h1559
               rintro _ w1561 a1560 ⟨rfl, hO1562, hB1563⟩ h1560
               refine pl_nil ?_
               refine co_then ?_
               refine co_seq ?_
               refine co_reg ?_
               refine pk0 (v := .int .i64 0) h1560 rfl fun a1564 h1564 => ?_; clear h1560
               refine pl_nil ?_
               refine co_then ?_
               refine wp_ret ?_
               refine co_ret1 h1564 rfl rfl ?_
               have hb0 : badT (L.take ((j : Int) : Int).toNat) (EntT.mk c r (.slice none 0 0) l ts) = false := hbad
               have hE := setE_f (i := (j : Int)) (v := .slice none 0 0) (by omega) (by omega) (by omega) hnn hb0
               exact ⟨_, _, ret_int hE.symm, hO1562, .inr ⟨hE, .inl ⟨findN_at (by first | exact hb1119.trans hc1140) (by assumption : (findN L (c, r)).getD 0 = _) (by omega), rfl⟩⟩, hB1563⟩
             ·
              rw [hc1533] at h1532
              have hp1565 : y1503.ts ≥ ts := of_decide_eq_true hc1533
              clear hc1533
              refine co_true h1532 rfl ?_
              refine co_seq ?_
              refine co_reg ?_
              refine pk0 (v := .int .i64 18) h1532 rfl fun a1566 h1566 => ?_; clear h1532
              refine pl_nil ?_
              refine co_then ?_
              refine wp_ret ?_
              refine co_thenR ?_
              refine co_ret1 h1566 rfl rfl ?_
              have hE : setE L (j : Int) c r l ts = 18 := setE_e (v := .slice none 0 0) (by omega) (by omega) (by omega) (setE_n (by omega) (by assumption : (findN L (c, r)).getD 0 = _) (by first | exact .inl (hb1119.trans hc1140) | exact .inr (by omega))) (by rw [bad_at (j := (((j : Nat) : Int) - 1).toNat) (by omega) (by omega) hy1503]; exact decide_eq_true (by simp only []; omega))
              exact ⟨_, _, ret_int hE.symm, ⟨hk1499, ⟨_, hM1360⟩, hr1511, hE1505, hO.sb, hO.sM, hO.su, hO.uq, hO.len⟩, .same (by rw [hE]; omega), hB1358⟩
            ·
             rw [hc1517] at h1516
             have hp1567 : y1503.ts = 0 := by first | simpa using hc1517 | simpa [and_assoc] using hc1517
             clear hc1517
             refine dsk 19 h1516 rfl rfl rfl fun a1568 h1568 => ?_; clear h1516
             refine dsk 20 h1568 rfl rfl rfl fun a1569 h1569 => ?_; clear h1568
             refine dsk 21 h1569 rfl rfl rfl fun a1570 h1570 => ?_; clear h1569
             refine dsk 22 h1570 rfl rfl rfl fun a1571 h1571 => ?_; clear h1570
             refine dsk 23 h1571 rfl rfl rfl fun a1572 h1572 => ?_; clear h1571
             refine dsk 24 h1572 rfl rfl rfl fun a1573 h1573 => ?_; clear h1572
             refine dsk 25 h1573 rfl rfl rfl fun a1574 h1574 => ?_; clear h1573
             refine dsk 26 h1574 rfl rfl rfl fun a1575 h1575 => ?_; clear h1574
             refine dsk 27 h1575 rfl rfl rfl fun a1576 h1576 => ?_; clear h1575
             refine dsk 28 h1576 rfl rfl rfl fun a1577 h1577 => ?_; clear h1576
             refine dsk 29 h1577 rfl rfl rfl fun a1578 h1578 => ?_; clear h1577
             refine dsk 30 h1578 rfl rfl rfl fun a1579 h1579 => ?_; clear h1578
             refine dk0 31 (v := .bool true) h1579 rfl rfl rfl fun a1580 h1580 => ?_; clear h1579
             refine dk0 32 (v := .bool true) h1580 rfl rfl rfl fun a1581 h1581 => ?_; clear h1580
             refine dr_done (by kernel_rfl) ?_
             refine co_then ?_
             refine co_true h1581 rfl ?_
             refine co_seq ?_
             refine co_reg ?_
             refine pk0 (v := .int .i64 18) h1581 rfl fun a1582 h1582 => ?_; clear h1581
             refine pl_nil ?_
             refine co_then ?_
             refine wp_ret ?_
             refine co_thenR ?_
             refine co_ret1 h1582 rfl rfl ?_
             have hE : setE L (j : Int) c r l ts = 18 := setE_e (v := .slice none 0 0) (by omega) (by omega) (by omega) (setE_n (by omega) (by assumption : (findN L (c, r)).getD 0 = _) (by first | exact .inl (hb1119.trans hc1140) | exact .inr (by omega))) (by rw [bad_at (j := (((j : Nat) : Int) - 1).toNat) (by omega) (by omega) hy1503]; exact decide_eq_true (by simp only []; omega))
             exact ⟨_, _, ret_int hE.symm, ⟨hk1499, ⟨_, hM1360⟩, hr1511, hE1505, hO.sb, hO.sM, hO.su, hO.uq, hO.len⟩, .same (by rw [hE]; omega), hB1358⟩
         ·
          rw [hc1347] at h1346
          have hp1583 : f1116 < ((j : Nat) : Int) := of_decide_eq_true hc1347
          clear hc1347
          refine co_true h1346 rfl ?_
          refine co_seq ?_
          refine co_reg ?_
          refine pk0 (v := .int .i64 18) h1346 rfl fun a1584 h1584 => ?_; clear h1346
          refine pl_nil ?_
          refine co_then ?_
          refine wp_ret ?_
          refine co_thenR ?_
          refine co_ret1 h1584 rfl rfl ?_
          have hM1585 := hM1122.kept hg1131 (by simp; omega)
          have hE : setE L (j : Int) c r l ts = 18 := setE_d (by omega) (by omega) (by omega) (by first | exact hb1119.trans hc1140) (by assumption : (findN L (c, r)).getD 0 = _) (by omega)
          exact ⟨_, _, ret_int hE.symm, ⟨hk1135, ⟨_, hM1585⟩, hr1143, hE1147, hO.sb, hO.sM, hO.su, hO.uq, hO.len⟩, .same (by rw [hE]; omega), hB1134⟩
     ·
      rw [hc89] at h88
      have hp1586 : ((j : Nat) : Int) ≥ 100 := of_decide_eq_true hc89
      clear hc89
      refine co_true h88 rfl ?_
      refine co_seq ?_
      refine co_reg ?_
      refine pk0 (v := .int .i64 6) h88 rfl fun a1587 h1587 => ?_; clear h88
      refine pl_nil ?_
      refine co_then ?_
      refine wp_ret ?_
      refine co_thenR ?_
      refine co_ret1 h1587 rfl rfl ?_
      have hr1588 := row_kept_new hr65 (below_grown hb75)
      have hk1589 := hk54.below hb75
      have hE : setE L (j : Int) c r l ts = 6 := setE_c (by omega) (by omega) (by omega)
      exact ⟨_, _, ret_int hE.symm, ⟨hk1589, ⟨_, hM83⟩, hr1588, hE85, hO.sb, hO.sM, hO.su, hO.uq, hO.len⟩, .same (by rw [hE]; omega), hB81⟩
    ·
     rw [hc80] at h79
     have hp1590 : chkB c r l ≠ 0 := by first | simpa using hc80 | simpa [and_assoc] using hc80
     clear hc80
     refine co_true h79 rfl ?_
     refine co_seq ?_
     refine co_reg ?_
     refine pk0 (v := .int .i64 (chkB c r l)) h79 rfl fun a1591 h1591 => ?_; clear h79
     refine pk0 (v := .int .i64 (chkB c r l)) h1591 rfl fun a1592 h1592 => ?_; clear h1591
     refine pl_nil ?_
     refine co_then ?_
     refine wp_ret ?_
     refine co_thenR ?_
     refine co_ret1 h1592 rfl rfl ?_
     have hr1593 := row_kept_new hr65 (below_grown hb75)
     have hk1594 := hk54.below hb75
     have hE : setE L (j : Int) c r l ts = chkB c r l := setE_b (by omega) (by omega)
     exact ⟨_, _, ret_int hE.symm, ⟨hk1594, ⟨_, hM83⟩, hr1593, hE85, hO.sb, hO.sM, hO.su, hO.uq, hO.len⟩, .same (by rw [hE]; omega), hB81⟩
   ·
    rw [hc69] at h68
    have hp1595 : ((j : Nat) : Int) > ((L.length : Nat) : Int) := of_decide_eq_true hc69
    clear hc69
    refine co_true h68 rfl ?_
    refine co_seq ?_
    refine co_reg ?_
    refine pk0 (v := .int .i64 1) h68 rfl fun a1596 h1596 => ?_; clear h68
    refine pl_nil ?_
    refine co_then ?_
    refine wp_ret ?_
    refine co_thenR ?_
    refine co_ret1 h1596 rfl rfl ?_
    have hM1597 := hm2.kept hg43 (by simp)
    have hE1598 := hO.ents.new hg43
    have hE : setE L (j : Int) c r l ts = 1 := setE_a (by omega)
    exact ⟨_, _, ret_int hE.symm, ⟨hk54, ⟨_, hM1597⟩, hr65, hE1598, hO.sb, hO.sM, hO.su, hO.uq, hO.len⟩, .same (by rw [hE]; omega), hB70⟩
end Go.Proofs.Ytkjnhghniopnoaa

/- Package rlog: Stamp, Find, Top, Len, Stamped. Conditions: at most 100 entries, 20 operations each. -/
namespace Go.Proofs.Ytkjnhghniopnoaa
open Go.RowKit Go.PlainAid
set_option linter.unusedVariables false


def e0 (e : EntT) : EntT := { e with ops := .slice none 0 0 }
def stE (L : List EntT) (i ts : Int) : Int := if i < 0 ∨ (L.length : Int) ≤ i then 1 else if ts = 0 then 5 else if i ≠ ((stN L : Nat) : Int) ∨ ts ≤ lastT L then 18 else 0
def stL (L : List EntT) (i ts : Int) : List EntT := if stE L i ts = 0 then rsL L i.toNat ts (i.toNat + 1) else L
section
variable {L : List EntT} {i ts : Int}
theorem stE_a (h : i < 0 ∨ (L.length : Int) ≤ i) : stE L i ts = 1 := by unfold stE; rw [if_pos h]
theorem stE_b (h : ¬ (i < 0 ∨ (L.length : Int) ≤ i)) (h2 : ts = 0) : stE L i ts = 5 := by unfold stE; rw [if_neg h, if_pos h2]
theorem stE_c (h : ¬ (i < 0 ∨ (L.length : Int) ≤ i)) (h2 : ¬ ts = 0) (h3 : i ≠ ((stN L : Nat) : Int) ∨ ts ≤ lastT L) : stE L i ts = 18 := by unfold stE; rw [if_neg h, if_neg h2, if_pos h3]
theorem stE_d (h : ¬ (i < 0 ∨ (L.length : Int) ≤ i)) (h2 : ¬ ts = 0) (h3 : ¬ (i ≠ ((stN L : Nat) : Int) ∨ ts ≤ lastT L)) : stE L i ts = 0 := by unfold stE; rw [if_neg h, if_neg h2, if_neg h3]
theorem stL_no (h : stE L i ts ≠ 0) : stL L i ts = L := by unfold stL; rw [if_neg h]
theorem stL_ok (h : stE L i ts = 0) {y : EntT} (hy : L[i.toNat]? = some y) : stL L i ts = L.set i.toNat { y with ts := ts } := by unfold stL; rw [if_pos h, rsL_1 hy]
theorem stL_nm : (stL L i ts).map nmE = L.map nmE := by unfold stL; split; exact rsL_nm _ _ _ _; rfl
theorem stL_len : (stL L i ts).length = L.length := by unfold stL; split; exact rsL_len _ _ _ _; rfl
end
theorem e0_snoc {A B : List EntT} {k : Nat} {y z : EntT} (h : A.map e0 = (B.take k).map e0) (hy : B[k]? = some y) (e : e0 z = e0 y) : (A ++ [z]).map e0 = (B.take (k + 1)).map e0 := by
  rw [takeE hy, List.map_append, List.map_append, h]; simp [e]

set_option maxRecDepth 100000 in
theorem lStamp_any (w0 : World) (S : Nat → Prop) (b : Nat) (M : Nat) (u : Value) (L : List EntT) (i : Int) (ts : Int) (w : World) (hbw : But S w0 w) (hO : LgP S w0.heap.size w b M u L) (hts : 0 ≤ ts ∧ ts < 18446744073709551616) :
    Calls Try.prog 35 #[pt b 0, .int .i64 i, .int .u64 ts] w fun e w' => e = .returned (.int .i64 (stE L i ts)) ∧ LgP S w0.heap.size w' b M u (stL L i ts) ∧ But (S) w0 w' := by
 have hst := stN_le L
 have hB0 := hbw
 have hz0 := hbw.size
 have hz0 := hbw.size
 have hl3 := hO.blk.lt; obtain ⟨c1, hm2⟩ := hO.map; have hl4 := hm2.lt; have hne5 := blk_ne_mapN hO.blk hm2; have hln6 := hO.len
 refine co_enter (n := 46) Try.func35 rfl rfl rfl [(0, pt b 0), (1, .int .i64 i), (2, .int .u64 ts)] rfl (fun a h0 => ?_)
 refine co_seq ?_
 refine co_reg ?_
 refine pk0 (v := .int .i64 0) h0 rfl fun a7 h7 => ?_; clear h0
 refine pl_nil ?_
 refine co_then ?_
 refine co_seq ?_
 refine co_seq ?_
 refine co_reg ?_
 refine pk0 (v := pt b 0) h7 rfl fun a8 h8 => ?_; clear h7
 refine pw h8 rfl (op_call (args := #[pt b 0]) (R := fun res xw => res = .bool false ∧ w = xw) rfl rfl rfl (by kernel_rfl) (by kernel_rfl) (Try.call61 _ _) (lzero_any b M u w hO.blk) (by rintro e x ⟨rfl, rfl⟩; exact ⟨_, rfl, ⟨rfl, rfl⟩⟩)) ?_; clear h8
 rintro _ _ a9 ⟨rfl, rfl⟩ h9
 refine pl_nil ?_
 refine co_then ?_
 refine co_false h9 rfl ?_
 refine wp_skip ?_
 refine co_then ?_
 refine co_seq ?_
 refine co_seq ?_
 refine co_reg ?_
 refine pk0 (v := .int .i64 i) h9 rfl fun a12 h12 => ?_; clear h9
 refine pk0 (v := .bool (decide (i < 0))) h12 rfl fun a13 h13 => ?_; clear h12
 refine pk0 (v := .bool (decide (i < 0))) h13 rfl fun a14 h14 => ?_; clear h13
 cases hc15 : (decide (i < 0))
 ·
  rw [hc15] at h14
  have hp16 : ¬ (i < 0) := of_decide_eq_false hc15
  clear hc15
  refine pk0 (v := .int .i64 i) h14 rfl fun a17 h17 => ?_; clear h14
  refine pk0 (v := pt b 0) h17 rfl fun a18 h18 => ?_; clear h17
  refine pk0 (v := pt b 0) h18 rfl fun a19 h19 => ?_; clear h18
  refine pk0 (v := pt b 1) h19 rfl fun a20 h20 => ?_; clear h19
  refine pk (v := u) h20 rfl (rn_load1 rfl rfl Try.isAgg48 (hO.blk.cell rfl)) fun a21 h21 => ?_; clear h20
  refine pk (v := .int .i64 ((L.length : Nat) : Int)) h21 rfl (rn_lenOwn rfl rfl Try.underlying48 hO.row) fun a22 h22 => ?_; clear h21
  refine pk0 (v := .bool (decide (i ≥ ((L.length : Nat) : Int)))) h22 rfl fun a23 h23 => ?_; clear h22
  refine pk0 (v := .bool (decide (i ≥ ((L.length : Nat) : Int)))) h23 rfl fun a24 h24 => ?_; clear h23
  refine pl_nil ?_
  refine co_then ?_
  cases hc25 : (decide (i ≥ ((L.length : Nat) : Int)))
  ·
   rw [hc25] at h24
   have hp26 : ¬ (i ≥ ((L.length : Nat) : Int)) := of_decide_eq_false hc25
   clear hc25
   refine co_false h24 rfl ?_
   refine wp_skip ?_
   refine co_then ?_
   refine co_seq ?_
   refine co_seq ?_
   refine co_reg ?_
   refine pk0 (v := .int .u64 ts) h24 rfl fun a27 h27 => ?_; clear h24
   refine pk0 (v := .bool (ts == 0)) h27 rfl fun a28 h28 => ?_; clear h27
   refine pl_nil ?_
   refine co_then ?_
   cases hc29 : (ts == 0)
   ·
    rw [hc29] at h28
    have hp30 : ¬ (ts = 0) := by first | simpa using hc29 | simpa [and_assoc] using hc29
    clear hc29
    refine co_false h28 rfl ?_
    refine wp_skip ?_
    refine co_then ?_
    refine co_seq ?_
    refine co_seq ?_
    refine co_reg ?_
    refine pk0 (v := .int .i64 i) h28 rfl fun a31 h31 => ?_; clear h28
    refine pk0 (v := pt b 0) h31 rfl fun a32 h32 => ?_; clear h31
    refine pk0 (v := pt b 0) h32 rfl fun a33 h33 => ?_; clear h32
    refine pk0 (v := pt b 1) h33 rfl fun a34 h34 => ?_; clear h33
    refine pk (v := u) h34 rfl (rn_load1 rfl rfl Try.isAgg48 (hO.blk.cell rfl)) fun a35 h35 => ?_; clear h34
    refine pw h35 rfl (op_call (args := #[u]) (R := fun res xw => res = .int .i64 ((stN L : Nat) : Int) ∧ Below w.heap.size w xw) rfl rfl rfl (by kernel_rfl) (by kernel_rfl) (Try.call65 _ _) (itemStamped_any u L w (row_sl hO.row entE_len) (fun z hz => (hO.ents z hz).ok)) (by rintro e x ⟨rfl, hb38⟩; exact ⟨_, rfl, ⟨rfl, hb38⟩⟩)) ?_; clear h35
    rintro _ w37 a36 ⟨rfl, hb38⟩ h36
    have hz39 := hb38.size
    refine pk0 (v := .bool (i != ((stN L : Nat) : Int))) h36 rfl fun a40 h40 => ?_; clear h36
    refine pk0 (v := .bool (i != ((stN L : Nat) : Int))) h40 rfl fun a41 h41 => ?_; clear h40
    have hB43 := fbU_call hB0 hb38
    cases hc42 : (i != ((stN L : Nat) : Int))
    ·
     rw [hc42] at h41
     have hp44 : ¬ (i ≠ ((stN L : Nat) : Int)) := by first | simpa using hc42 | simpa [and_assoc] using hc42
     clear hc42
     refine pk0 (v := .int .u64 ts) h41 rfl fun a45 h45 => ?_; clear h41
     refine pk0 (v := pt b 0) h45 rfl fun a46 h46 => ?_; clear h45
     refine pk0 (v := pt b 0) h46 rfl fun a47 h47 => ?_; clear h46
     refine pk0 (v := pt b 1) h47 rfl fun a48 h48 => ?_; clear h47
     have hk49 := hO.blk.below hb38
     refine pk (v := u) h48 rfl (rn_load1 rfl rfl Try.isAgg48 (hk49.cell rfl)) fun a50 h50 => ?_; clear h48
     have hE53 := hO.ents.new (below_grown hb38)
     have hr54 := row_kept_new hO.row (below_grown hb38)
     refine pw h50 rfl (op_call (args := #[u]) (R := fun res xw => res = .int .u64 (lastT L) ∧ Below w37.heap.size w37 xw) rfl rfl rfl (by kernel_rfl) (by kernel_rfl) (Try.call66 _ _) (itemLast_any u L w37 (row_sl hr54 entE_len) (fun z hz => (hE53 z hz).ok)) (by rintro e x ⟨rfl, hb55⟩; exact ⟨_, rfl, ⟨rfl, hb55⟩⟩)) ?_; clear h50
     rintro _ w52 a51 ⟨rfl, hb55⟩ h51
     have hz56 := hb55.size
     refine pk0 (v := .bool (decide (ts ≤ lastT L))) h51 rfl fun a57 h57 => ?_; clear h51
     refine pk0 (v := .bool (decide (ts ≤ lastT L))) h57 rfl fun a58 h58 => ?_; clear h57
     refine pl_nil ?_
     refine co_then ?_
     have hB60 := fbU_call hB43 hb55
     have hM61 := hm2.kept (below_grown hb38) (by simp)
     have hM62 := hM61.kept (below_grown hb55) (by simp)
     cases hc59 : (decide (ts ≤ lastT L))
     ·
      rw [hc59] at h58
      have hp63 : ¬ (ts ≤ lastT L) := of_decide_eq_false hc59
      clear hc59
      refine co_false h58 rfl ?_
      refine wp_skip ?_
      refine co_then ?_
      refine co_seq ?_
      refine co_reg ?_
      refine pk0 (v := pt b 0) h58 rfl fun a64 h64 => ?_; clear h58
      refine pk0 (v := pt b 0) h64 rfl fun a65 h65 => ?_; clear h64
      refine pk0 (v := pt b 1) h65 rfl fun a66 h66 => ?_; clear h65
      have hk67 := hk49.below hb55
      refine pk (v := u) h66 rfl (rn_load1 rfl rfl Try.isAgg48 (hk67.cell rfl)) fun a68 h68 => ?_; clear h66
      refine pk0 (v := .int .i64 i) h68 rfl fun a69 h69 => ?_; clear h68
      refine pk0 (v := .int .u64 ts) h69 rfl fun a70 h70 => ?_; clear h69
      have hE73 := hE53.new (below_grown hb55)
      have hr79 := row_kept_new hr54 (below_grown hb55)
      obtain ⟨y71, hy71⟩ : ∃ z, L[(i).toNat]? = some z := ⟨_, List.getElem?_eq_getElem (by first | omega | (simp; done) | (simp; omega))⟩
      have oky71 := (fun (z : EntT) (_ : z ∈ L) => trivial) _ (List.mem_of_getElem? hy71)
      have hy72 := hE73.at hy71
      have hq74 := hy72.ts0; have hq75 := hy72.ts1; have hq76 := hy72.len; have hq77 := wf_i64 hy72.cl; have hq78 := wf_i64 hy72.rq
      refine pk (v := pt (blkOf u) (offOf u + ((i).toNat) * 4)) h70 rfl (rn_index rfl rfl rfl Try.underlying48 Try.sizeOf40 (row_sl hr79 entE_len) (by omega) (by first | omega | (simp; done) | (simp; omega))) fun a80 h80 => ?_; clear h70
      refine pk0 (v := pt (blkOf u) (offOf u + ((i).toNat) * 4 + 3)) h80 rfl fun a81 h81 => ?_; clear h80
      refine pwD h81 rfl (op_storeRow (c := ((i).toNat) * 4 + 3) rfl rfl rfl rfl Try.sizeOf27 hr79 (flat_lt entE_len (by first | omega | (simp; omega)) (by omega)) (by first | rfl | omega)) ?_; clear h81
      rintro _ w83 a82 ⟨hr84, hz85, hg86⟩ h82
      have hr84' := row_set (y' := (EntT.mk y71.client y71.req (y71.ops) y71.opl ts)) hr84 entE_len hy71 (by omega) rfl; clear hr84
      have hz87 := hg86.size
      have hE88 := hE73.row hr79 (by decide) hg86
      have hE89 := EntsK.set (i := ((i).toNat)) hE88 (EntK.ts (t := ts) (EntsK.at hE88 hy71) (by omega))
      refine pl_nil ?_
      refine co_then ?_
      refine co_seq ?_
      refine co_reg ?_
      refine pk0 (v := .int .i64 0) h82 rfl fun a90 h90 => ?_; clear h82
      refine pl_nil ?_
      refine co_then ?_
      refine wp_ret ?_
      refine co_ret1 h90 rfl rfl ?_
      have hM91 := hM62.kept hg86 (hM62.row hr79)
      have hk92 := hk67.kept hg86 (own_neT hr79 hk67 (by decide))
      have hB93 := fbU_row hB60 hO.su hg86
      have hE : stE L i ts = 0 := stE_d (by omega) (by omega) (by omega)
      have hl0 := stL_ok (ts := ts) hE hy71
      have hnm : (stL L i ts).map nmE = L.map nmE := stL_nm
      exact ⟨ret_int hE.symm, ⟨hk92, ⟨_, hM91.eq ((findN_nm hnm).symm) (Nat.le_refl _)⟩, (row_eq hr84' (hl0.symm)), (hE89.eq (hl0.symm)), hO.sb, hO.sM, hO.su, (hO.uq.nm hnm), (by rw [stL_len]; exact hO.len)⟩, hB93⟩
     ·
      rw [hc59] at h58
      have hp94 : ts ≤ lastT L := of_decide_eq_true hc59
      clear hc59
      refine co_true h58 rfl ?_
      refine co_seq ?_
      refine co_reg ?_
      refine pk0 (v := .int .i64 18) h58 rfl fun a95 h95 => ?_; clear h58
      refine pl_nil ?_
      refine co_then ?_
      refine wp_ret ?_
      refine co_thenR ?_
      refine co_ret1 h95 rfl rfl ?_
      have hr96 := row_kept_new hr54 (below_grown hb55)
      have hE97 := hE53.new (below_grown hb55)
      have hk98 := hk49.below hb55
      have hE : stE L i ts = 18 := stE_c (by omega) (by omega) (by omega)
      exact ⟨ret_int hE.symm, by rw [stL_no (by rw [hE]; omega)]; exact ⟨hk98, ⟨_, hM62⟩, hr96, hE97, hO.sb, hO.sM, hO.su, hO.uq, hO.len⟩, hB60⟩
    ·
     rw [hc42] at h41
     have hp99 : i ≠ ((stN L : Nat) : Int) := by first | simpa using hc42 | simpa [and_assoc] using hc42
     clear hc42
     refine psk h41 rfl fun a100 h100 => ?_; clear h41
     refine psk h100 rfl fun a101 h101 => ?_; clear h100
     refine psk h101 rfl fun a102 h102 => ?_; clear h101
     refine psk h102 rfl fun a103 h103 => ?_; clear h102
     refine psk h103 rfl fun a104 h104 => ?_; clear h103
     refine psk h104 rfl fun a105 h105 => ?_; clear h104
     refine psk h105 rfl fun a106 h106 => ?_; clear h105
     refine pk0 (v := .bool true) h106 rfl fun a107 h107 => ?_; clear h106
     refine pl_nil ?_
     refine co_then ?_
     refine co_true h107 rfl ?_
     refine co_seq ?_
     refine co_reg ?_
     refine pk0 (v := .int .i64 18) h107 rfl fun a108 h108 => ?_; clear h107
     refine pl_nil ?_
     refine co_then ?_
     refine wp_ret ?_
     refine co_thenR ?_
     refine co_ret1 h108 rfl rfl ?_
     have hM109 := hm2.kept (below_grown hb38) (by simp)
     have hr110 := row_kept_new hO.row (below_grown hb38)
     have hE111 := hO.ents.new (below_grown hb38)
     have hk112 := hO.blk.below hb38
     have hE : stE L i ts = 18 := stE_c (by omega) (by omega) (by omega)
     exact ⟨ret_int hE.symm, by rw [stL_no (by rw [hE]; omega)]; exact ⟨hk112, ⟨_, hM109⟩, hr110, hE111, hO.sb, hO.sM, hO.su, hO.uq, hO.len⟩, hB43⟩
   ·
    rw [hc29] at h28
    have hp113 : ts = 0 := by first | simpa using hc29 | simpa [and_assoc] using hc29
    clear hc29
    refine co_true h28 rfl ?_
    refine co_seq ?_
    refine co_reg ?_
    refine pk0 (v := .int .i64 5) h28 rfl fun a114 h114 => ?_; clear h28
    refine pl_nil ?_
    refine co_then ?_
    refine wp_ret ?_
    refine co_thenR ?_
    refine co_ret1 h114 rfl rfl ?_
    have hE : stE L i ts = 5 := stE_b (by omega) (by omega)
    exact ⟨ret_int hE.symm, by rw [stL_no (by rw [hE]; omega)]; exact ⟨hO.blk, ⟨_, hm2⟩, hO.row, hO.ents, hO.sb, hO.sM, hO.su, hO.uq, hO.len⟩, hB0⟩
  ·
   rw [hc25] at h24
   have hp115 : i ≥ ((L.length : Nat) : Int) := of_decide_eq_true hc25
   clear hc25
   refine co_true h24 rfl ?_
   refine co_seq ?_
   refine co_reg ?_
   refine pk0 (v := .int .i64 1) h24 rfl fun a116 h116 => ?_; clear h24
   refine pl_nil ?_
   refine co_then ?_
   refine wp_ret ?_
   refine co_thenR ?_
   refine co_ret1 h116 rfl rfl ?_
   have hE : stE L i ts = 1 := stE_a (by omega)
   exact ⟨ret_int hE.symm, by rw [stL_no (by rw [hE]; omega)]; exact ⟨hO.blk, ⟨_, hm2⟩, hO.row, hO.ents, hO.sb, hO.sM, hO.su, hO.uq, hO.len⟩, hB0⟩
 ·
  rw [hc15] at h14
  have hp117 : i < 0 := of_decide_eq_true hc15
  clear hc15
  refine psk h14 rfl fun a118 h118 => ?_; clear h14
  refine psk h118 rfl fun a119 h119 => ?_; clear h118
  refine psk h119 rfl fun a120 h120 => ?_; clear h119
  refine psk h120 rfl fun a121 h121 => ?_; clear h120
  refine psk h121 rfl fun a122 h122 => ?_; clear h121
  refine psk h122 rfl fun a123 h123 => ?_; clear h122
  refine psk h123 rfl fun a124 h124 => ?_; clear h123
  refine pk0 (v := .bool true) h124 rfl fun a125 h125 => ?_; clear h124
  refine pl_nil ?_
  refine co_then ?_
  refine co_true h125 rfl ?_
  refine co_seq ?_
  refine co_reg ?_
  refine pk0 (v := .int .i64 1) h125 rfl fun a126 h126 => ?_; clear h125
  refine pl_nil ?_
  refine co_then ?_
  refine wp_ret ?_
  refine co_thenR ?_
  refine co_ret1 h126 rfl rfl ?_
  have hE : stE L i ts = 1 := stE_a (by omega)
  exact ⟨ret_int hE.symm, by rw [stL_no (by rw [hE]; omega)]; exact ⟨hO.blk, ⟨_, hm2⟩, hO.row, hO.ents, hO.sb, hO.sM, hO.su, hO.uq, hO.len⟩, hB0⟩
set_option maxRecDepth 100000 in
theorem lStamped_any (w0 : World) (S : Nat → Prop) (b : Nat) (M : Nat) (u : Value) (L : List EntT) (w : World) (hbw : But S w0 w) (hO : LgP S w0.heap.size w b M u L) :
    Calls Try.prog 41 #[pt b 0] w fun e w' => e = .returned (.int .i64 ((stN L : Nat) : Int)) ∧ LgP S w0.heap.size w' b M u L ∧ But (S) w0 w' := by
 have hB0 := hbw
 have hz0 := hbw.size
 have hz0 := hbw.size
 have hl3 := hO.blk.lt; obtain ⟨c1, hm2⟩ := hO.map; have hl4 := hm2.lt; have hne5 := blk_ne_mapN hO.blk hm2; have hln6 := hO.len
 refine co_enter (n := 10) Try.func41 rfl rfl rfl [(0, pt b 0)] rfl (fun a h0 => ?_)
 refine co_seq ?_
 refine co_reg ?_
 refine pk0 (v := .int .i64 0) h0 rfl fun a7 h7 => ?_; clear h0
 refine pl_nil ?_
 refine co_then ?_
 refine co_seq ?_
 refine co_seq ?_
 refine co_reg ?_
 refine pk0 (v := pt b 0) h7 rfl fun a8 h8 => ?_; clear h7
 refine pw h8 rfl (op_call (args := #[pt b 0]) (R := fun res xw => res = .bool false ∧ w = xw) rfl rfl rfl (by kernel_rfl) (by kernel_rfl) (Try.call61 _ _) (lzero_any b M u w hO.blk) (by rintro e x ⟨rfl, rfl⟩; exact ⟨_, rfl, ⟨rfl, rfl⟩⟩)) ?_; clear h8
 rintro _ _ a9 ⟨rfl, rfl⟩ h9
 refine pl_nil ?_
 refine co_then ?_
 refine co_false h9 rfl ?_
 refine wp_skip ?_
 refine co_then ?_
 refine co_seq ?_
 refine co_reg ?_
 refine pk0 (v := pt b 0) h9 rfl fun a12 h12 => ?_; clear h9
 refine pk0 (v := pt b 0) h12 rfl fun a13 h13 => ?_; clear h12
 refine pk0 (v := pt b 1) h13 rfl fun a14 h14 => ?_; clear h13
 refine pk (v := u) h14 rfl (rn_load1 rfl rfl Try.isAgg48 (hO.blk.cell rfl)) fun a15 h15 => ?_; clear h14
 refine pw h15 rfl (op_call (args := #[u]) (R := fun res xw => res = .int .i64 ((stN L : Nat) : Int) ∧ Below w.heap.size w xw) rfl rfl rfl (by kernel_rfl) (by kernel_rfl) (Try.call65 _ _) (itemStamped_any u L w (row_sl hO.row entE_len) (fun z hz => (hO.ents z hz).ok)) (by rintro e x ⟨rfl, hb18⟩; exact ⟨_, rfl, ⟨rfl, hb18⟩⟩)) ?_; clear h15
 rintro _ w17 a16 ⟨rfl, hb18⟩ h16
 have hz19 := hb18.size
 refine pk0 (v := .int .i64 ((stN L : Nat) : Int)) h16 rfl fun a20 h20 => ?_; clear h16
 refine pl_nil ?_
 refine co_then ?_
 refine wp_ret ?_
 refine co_ret1 h20 rfl rfl ?_
 have hM21 := hm2.kept (below_grown hb18) (by simp)
 have hr22 := row_kept_new hO.row (below_grown hb18)
 have hE23 := hO.ents.new (below_grown hb18)
 have hk24 := hO.blk.below hb18
 have hB25 := fbU_call hB0 hb18
 exact ⟨rfl, ⟨hk24, ⟨_, hM21⟩, hr22, hE23, hO.sb, hO.sM, hO.su, hO.uq, hO.len⟩, hB25⟩
end Go.Proofs.Ytkjnhghniopnoaa
