/- Package ops: Of of both. Conditions: none. -/
import Derived.Test.YteioaaegooebpaaGreatOpsBNp
namespace Go.Proofs.YteioaaegooebpaaGreat
open Go.RowKit Go.PlainAid
set_option linter.unusedVariables false


/-- What Of reads: one operation more, n of them; a batch. -/
def rdStep (s : ByteArray) (q : List OpT × Int × Int) : List OpT × Int × Int :=
  let t := textR s q.2.1 q.2.2 8
  let f := flagR s t.2.1.toNat t.2.2
  let u := textR s f.2.1 f.2.2 8
  (q.1 ++ [(t.1, u.1, f.1)], u.2.1, u.2.2)
def rdN (s : ByteArray) : Nat → List OpT × Int × Int → List OpT × Int × Int
  | 0, q => q
  | n + 1, q => rdStep s (rdN s n q)
theorem rdN_step {s : ByteArray} {i : Nat} {q0 : List OpT × Int × Int} {l : List OpT} {a e a1 e1 a2 e2 a3 e3 : Int} {k t : ByteArray} {f : Bool} (h : rdN s i q0 = (l, a, e)) (h1 : textR s a e 8 = (k, a1, e1)) (h2 : flagR s a1.toNat e1 = (f, a2, e2)) (h3 : textR s a2 e2 8 = (t, a3, e3)) :
    rdN s (i + 1) q0 = (l ++ [(k, t, f)], a3, e3) := by
  show rdStep s (rdN s i q0) = _
  rw [h]; simp only [rdStep, h1, h2, h3]
def ofEnd (c r : Int) (l : List OpT) (x : Int) : (Int × Int × List OpT) × Int :=
  if x ≠ 0 then ((0, 0, []), x) else if chkB c r l ≠ 0 then ((0, 0, []), chkB c r l) else ((c, r, l), 0)
def ofB (s : ByteArray) : (Int × Int × List OpT) × Int :=
  let c := numR s 0 0 2
  let r := numR s c.2.1 c.2.2 1073741824
  let n := numR s r.2.1 r.2.2 4
  let q := rdN s n.1.toNat ([], n.2.1, n.2.2)
  ofEnd c.1 r.1 q.1 (endV s q.2.1.toNat q.2.2)
theorem ofB_at {s : ByteArray} {c r n x a1 e1 a2 e2 a3 e3 a4 e4 : Int} {l : List OpT} {i : Nat} (h1 : numR s 0 0 2 = (c, a1, e1)) (h2 : numR s a1 e1 1073741824 = (r, a2, e2)) (h3 : numR s a2 e2 4 = (n, a3, e3)) (h4 : rdN s i ([], a3, e3) = (l, a4, e4)) (hi : i = n.toNat) (h5 : endV s a4.toNat e4 = x) : ofB s = ofEnd c r l x := by
  subst hi; simp only [ofB, h1, h2, h3, h4, h5]
theorem ofEnd_a {c r x : Int} {l : List OpT} (h : x ≠ 0) : ofEnd c r l x = ((0, 0, []), x) := by unfold ofEnd; rw [if_pos h]
theorem ofEnd_b {c r x : Int} {l : List OpT} (h : ¬ x ≠ 0) (h1 : chkB c r l ≠ 0) : ofEnd c r l x = ((0, 0, []), chkB c r l) := by unfold ofEnd; rw [if_neg h, if_pos h1]
theorem ofEnd_c {c r x : Int} {l : List OpT} (h : ¬ x ≠ 0) (h1 : ¬ chkB c r l ≠ 0) : ofEnd c r l x = ((c, r, l), 0) := by unfold ofEnd; rw [if_neg h, if_neg h1]

set_option maxRecDepth 100000 in
theorem opsOf_any (s : ByteArray) (c : Int) (r : Int) (l : List OpT) (x : Int) (w : World) (hsz : s.size ≤ 9223372036854775807) (hof : ofB s = ((c, r, l), x)) :
    Calls Tryz.prog 125 #[.string s] w fun e w' => ∃ (u : Value), e = .returned (.tuple #[.agg #[.int .i64 c, .int .i64 r, u], .int .i64 x]) ∧ w'.ownsRow w.heap.size 159 3 u l.length (l.flatMap opE) ∧ Below w.heap.size w w' := by
 have hB0 := Below.refl w.heap.size w
 refine co_enter (n := 45) Tryz.func125 rfl rfl rfl [(0, .string s)] rfl (fun a h0 => ?_)
 refine co_seq ?_
 refine co_reg ?_
 refine pw h0 rfl (op_new (v := fun N => pt N 0) (T := 29) (cs := #[.int .i64 0, .int .i64 0, .slice none 0 0]) (by kernel_rfl) (by kernel_rfl) (by kernel_rfl)) ?_; clear h0
 rintro _ w2 a1 ⟨N3, rfl, hN6, hz7, hk5, hg4⟩ h1
 have hz8 := hg4.size
 try dsimp only at h1
 refine pk0 (v := .int .i64 0) h1 rfl fun a9 h9 => ?_; clear h1
 refine pl_nil ?_
 refine co_then ?_
 refine co_seq ?_
 refine co_reg ?_
 refine pk0 (v := .string s) h9 rfl fun a10 h10 => ?_; clear h9
 refine pw h10 rfl (op_call (args := #[.string s]) (R := fun res xw => ∃ b : Nat, res = pt b 0 ∧ b = w2.heap.size ∧ OR b s 0 0 xw ∧ Below w2.heap.size w2 xw) rfl rfl rfl (by kernel_rfl) (by kernel_rfl) (Tryz.call57 _ _) (or_open s w2) (by rintro e x ⟨b, rfl, h0, h1, h2⟩; exact ⟨_, rfl, b, rfl, h0, h1, h2⟩)) ?_; clear h10
 rintro _ w12 a11 ⟨b13, rfl, hN14, ho15, hb16⟩ h11
 have hz17 := hb16.size
 have hl18 := ho15.lt
 refine pk0 (v := pt b13 0) h11 rfl fun a19 h19 => ?_; clear h11
 refine pl_nil ?_
 refine co_then ?_
 refine co_seq ?_
 refine co_reg ?_
 refine pk0 (v := pt b13 0) h19 rfl fun a20 h20 => ?_; clear h19
 refine pw h20 rfl (op_call (args := #[pt b13 0, .int .i64 2]) (R := fun res xw => ∃ (n : Int) (a' e' : Int), res = .int .i64 n ∧ numR s 0 0 2 = (n, a', e') ∧ 0 ≤ n ∧ n ≤ 2 ∧ OR b13 s a' e' xw ∧ w12.grownBy xw (some b13)) rfl rfl rfl (by kernel_rfl) (by kernel_rfl) (Tryz.call58 _ _) (or_num b13 s 0 0 2 w12 ho15 (by omega) (by omega) (by omega)) (by rintro q x ⟨n, a', e', rfl, h0, k0, k1, h1, h2⟩; exact ⟨_, rfl, n, a', e', rfl, h0, k0, k1, h1, h2⟩)) ?_; clear h20
 rintro _ w22 a21 ⟨n23, a24, e25, rfl, hq26, hn27, hm28, ho29, hg30⟩ h21
 have hz31 := hg30.size
 have hl32 := ho29.lt
 refine pk0 (v := pt b13 0) h21 rfl fun a33 h33 => ?_; clear h21
 refine pw h33 rfl (op_call (args := #[pt b13 0, .int .i64 1073741824]) (R := fun res xw => ∃ (n : Int) (a' e' : Int), res = .int .i64 n ∧ numR s a24 e25 1073741824 = (n, a', e') ∧ 0 ≤ n ∧ n ≤ 1073741824 ∧ OR b13 s a' e' xw ∧ w22.grownBy xw (some b13)) rfl rfl rfl (by kernel_rfl) (by kernel_rfl) (Tryz.call58 _ _) (or_num b13 s a24 e25 1073741824 w22 ho29 (by omega) (by omega) (by omega)) (by rintro q x ⟨n, a', e', rfl, h0, k0, k1, h1, h2⟩; exact ⟨_, rfl, n, a', e', rfl, h0, k0, k1, h1, h2⟩)) ?_; clear h33
 rintro _ w35 a34 ⟨n36, a37, e38, rfl, hq39, hn40, hm41, ho42, hg43⟩ h34
 have hz44 := hg43.size
 have hl45 := ho42.lt
 refine pk0 (v := .agg #[.int .i64 n23, .int .i64 n36, .slice none 0 0]) h34 rfl fun a46 h46 => ?_; clear h34
 refine pw h46 rfl (op_new (v := fun N => pt N 0) (T := 29) (cs := #[.int .i64 0, .int .i64 0, .slice none 0 0]) (by kernel_rfl) (by kernel_rfl) (by kernel_rfl)) ?_; clear h46
 rintro _ w48 a47 ⟨N49, rfl, hN52, hz53, hk51, hg50⟩ h47
 have hz54 := hg50.size
 try dsimp only at h47
 refine pwD h47 rfl (op_storeN rfl rfl rfl (all_cons rfl (all_cons rfl (all_cons rfl all_nil))) (by kernel_rfl) hk51 rfl) ?_; clear h47
 rintro _ w56 a55 ⟨hk57, hz58, hg59⟩ h55
 have hk57' : Blk w56 N49 29 #[.int .i64 n23, .int .i64 n36, .slice none 0 0] := hk57; clear hk57
 have hz60 := hg59.size
 refine pl_nil ?_
 refine co_then ?_
 refine co_seq ?_
 refine co_seq ?_
 refine co_reg ?_
 refine pk0 (v := pt b13 0) h55 rfl fun a61 h61 => ?_; clear h55
 have ho72 := ho42.new hg50
 have ho73 := ho72.at (by omega) hg59
 refine pw h61 rfl (op_call (args := #[pt b13 0, .int .i64 4]) (R := fun res xw => ∃ (n : Int) (a' e' : Int), res = .int .i64 n ∧ numR s a37 e38 4 = (n, a', e') ∧ 0 ≤ n ∧ n ≤ 4 ∧ OR b13 s a' e' xw ∧ w56.grownBy xw (some b13)) rfl rfl rfl (by kernel_rfl) (by kernel_rfl) (Tryz.call58 _ _) (or_num b13 s a37 e38 4 w56 ho73 (by omega) (by omega) (by omega)) (by rintro q x ⟨n, a', e', rfl, h0, k0, k1, h1, h2⟩; exact ⟨_, rfl, n, a', e', rfl, h0, k0, k1, h1, h2⟩)) ?_; clear h61
 rintro _ w63 a62 ⟨n64, a65, e66, rfl, hq67, hn68, hm69, ho70, hg71⟩ h62
 have hz74 := hg71.size
 have hl75 := ho70.lt
 refine pk0 (v := .int .i64 0) h62 rfl fun a76 h76 => ?_; clear h62
 refine pl_nil ?_
 refine co_then ?_
 refine wp_block ?_
 have h77 : Slots 45 [(2, pt N3 0), (3, .int .i64 0), (4, pt b13 0), (5, pt N49 0), (16, .int .i64 n64), (17, .int .i64 0)] _ := h76.sub ⟨rfl, rfl, rfl, rfl, rfl, rfl, trivial⟩; clear h76
 refine co_loop (fun mm a x => ∃ (i : Nat) (u : Value) (ls : List OpT) (ps : Int) (er : Int), Slots 45 [(2, pt N3 0), (3, .int .i64 0), (4, pt b13 0), (5, pt N49 0), (16, .int .i64 n64), (17, .int .i64 ((i : Nat) : Int))] a ∧ mm = n64.toNat - i ∧ (((i : Nat) : Int) ≤ n64) ∧ (ls.length = i) ∧ (rdN s i ([], a65, e66) = (ls, ps, er)) ∧ Blk x N49 29 #[.int .i64 n23, .int .i64 n36, u] ∧ OR b13 s ps er x ∧ x.ownsRow (N49 + 1) 159 3 u ls.length (ls.flatMap opE) ∧ Below w.heap.size w x ∧ Blk x N3 29 #[.int .i64 0, .int .i64 0, .slice none 0 0]) (n64.toNat - 0) ?_ ?_
 have hk78 := hk57'.kept hg71 (by simp; omega)
 have hB79 := hb_new hB0 hg4
 have hB80 := hb_call hB79 hb16
 have hB81 := hb_at hB80 hg30 (by omega)
 have hB82 := hb_at hB81 hg43 (by omega)
 have hB83 := hb_new hB82 hg50
 have hB84 := hb_at hB83 hg59 (by omega)
 have hB85 := hb_at hB84 hg71 (by omega)
 have hk86 := hk5.below hb16
 have hk87 := hk86.kept hg30 (by simp; omega)
 have hk88 := hk87.kept hg43 (by simp; omega)
 have hk89 := hk88.kept hg50 (by simp)
 have hk90 := hk89.kept hg59 (by simp; omega)
 have hk91 := hk90.kept hg71 (by simp; omega)
 · exact ⟨0, (.slice none 0 0), [], a65, e66, h77.sub ⟨rfl, rfl, rfl, rfl, rfl, (slot_eq rfl (congrArg (Value.int .i64) (by first | rfl | omega))), trivial⟩, rfl, by omega, by first | rfl | (simp; omega), by first | rfl | exact hR', hk78, ho70, (row_nilL _ _ _ _ _), hB85, hk91⟩
 · rintro k92 a93 w94 ⟨i, u, ls, ps, er, h93, rfl, hi95, hi96, hi97, hf98, hf99, hf100, hB101, hk102⟩
   have hz103 := hB101.size
   have hl104 := hk102.lt
   have hl105 := hf98.lt
   have hl106 := hf99.lt
   have hR : rdN s i ([], a65, e66) = (ls, ps, er) := by assumption
   refine co_seq ?_
   refine co_reg ?_
   refine pk0 (v := .bool (decide (((i : Nat) : Int) < n64))) h93 rfl fun a107 h107 => ?_; clear h93
   refine pl_nil ?_
   refine co_then ?_
   refine co_seq ?_
   cases hc108 : (decide (((i : Nat) : Int) < n64))
   ·
    rw [hc108] at h107
    have hp109 : ¬ (((i : Nat) : Int) < n64) := of_decide_eq_false hc108
    clear hc108
    refine co_false h107 rfl ?_
    refine wp_exit ?_
    refine co_thenX ?_
    refine co_thenX ?_
    refine co_blockX ?_
    refine co_then ?_
    refine co_seq ?_
    refine co_seq ?_
    refine co_reg ?_
    refine pk0 (v := pt b13 0) h107 rfl fun a110 h110 => ?_; clear h107
    refine pw h110 rfl (op_call (args := #[pt b13 0]) (R := fun res xw => ∃ r : Int, res = .int .i64 r ∧ endV s ps.toNat er = r ∧ Below w94.heap.size w94 xw) rfl rfl rfl (by kernel_rfl) (by kernel_rfl) (Tryz.call61 _ _) (or_end b13 s ps er w94 hf99 (by omega)) (by rintro e x ⟨r, rfl, h0, h2⟩; exact ⟨_, rfl, r, rfl, h0, h2⟩)) ?_; clear h110
    rintro _ w112 a111 ⟨r113, rfl, hq114, hb115⟩ h111
    have hz116 := hb115.size
    refine pk0 (v := .int .i64 r113) h111 rfl fun a117 h117 => ?_; clear h111
    refine pl_nil ?_
    refine co_then ?_
    refine co_seq ?_
    refine co_reg ?_
    refine pk0 (v := .int .i64 r113) h117 rfl fun a118 h118 => ?_; clear h117
    refine pk0 (v := .bool (r113 != 0)) h118 rfl fun a119 h119 => ?_; clear h118
    refine pl_nil ?_
    refine co_then ?_
    have hB121 := hb_call hB101 hb115
    cases hc120 : (r113 != 0)
    ·
     rw [hc120] at h119
     have hp122 : ¬ (r113 ≠ 0) := by first | simpa using hc120 | simpa [and_assoc] using hc120
     clear hc120
     refine co_false h119 rfl ?_
     refine wp_skip ?_
     refine co_then ?_
     refine co_seq ?_
     refine co_seq ?_
     refine co_reg ?_
     have hk123 := hf98.below hb115
     refine pk (v := .agg #[.int .i64 n23, .int .i64 n36, u]) h119 rfl (rn_loadN rfl rfl Tryz.underlying29 rfl (by kernel_rfl) hk123.all) fun a124 h124 => ?_; clear h119
     have hr127 := row_kept_new hf100 (below_grown hb115)
     refine pw h124 rfl (op_call (args := #[.agg #[.int .i64 n23, .int .i64 n36, u]]) (R := fun res xw => res = .int .i64 (chkB n23 n36 ls) ∧ Below w112.heap.size w112 xw) rfl rfl rfl (by kernel_rfl) (by kernel_rfl) (Tryz.call100 _ _) (opsCheck_any n23 n36 u ls w112 (row_sl hr127 opE_len)) (by rintro e x ⟨rfl, hb128⟩; exact ⟨_, rfl, ⟨rfl, hb128⟩⟩)) ?_; clear h124
     rintro _ w126 a125 ⟨rfl, hb128⟩ h125
     have hz129 := hb128.size
     refine pk0 (v := .int .i64 (chkB n23 n36 ls)) h125 rfl fun a130 h130 => ?_; clear h125
     refine pl_nil ?_
     refine co_then ?_
     refine co_seq ?_
     refine co_reg ?_
     refine pk0 (v := .int .i64 (chkB n23 n36 ls)) h130 rfl fun a131 h131 => ?_; clear h130
     refine pk0 (v := .bool (chkB n23 n36 ls != 0)) h131 rfl fun a132 h132 => ?_; clear h131
     refine pl_nil ?_
     refine co_then ?_
     have hB134 := hb_call hB121 hb128
     have hk135 := hk102.below hb115
     have hk136 := hk135.below hb128
     have ho137 := hf99.below hb115
     have ho138 := ho137.below hb128
     cases hc133 : (chkB n23 n36 ls != 0)
     ·
      rw [hc133] at h132
      have hp139 : ¬ (chkB n23 n36 ls ≠ 0) := by first | simpa using hc133 | simpa [and_assoc] using hc133
      clear hc133
      refine co_false h132 rfl ?_
      refine wp_skip ?_
      refine co_then ?_
      refine co_seq ?_
      refine co_reg ?_
      have hk140 := hk123.below hb128
      refine pk (v := .agg #[.int .i64 n23, .int .i64 n36, u]) h132 rfl (rn_loadN rfl rfl Tryz.underlying29 rfl (by kernel_rfl) hk140.all) fun a141 h141 => ?_; clear h132
      have hr147 := row_kept_new hr127 (below_grown hb128)
      refine pwD h141 rfl (op_storeN rfl rfl rfl (all_cons rfl (all_cons rfl (all_cons (row_one hr147) all_nil))) (by kernel_rfl) hk136 rfl) ?_; clear h141
      rintro _ w143 a142 ⟨hk144, hz145, hg146⟩ h142
      have hk144' : Blk w143 N3 29 #[.int .i64 n23, .int .i64 n36, u] := hk144; clear hk144
      have hz148 := hg146.size
      refine pk0 (v := .int .i64 0) h142 rfl fun a149 h149 => ?_; clear h142
      refine pl_nil ?_
      refine co_then ?_
      refine wp_ret ?_
      refine co_retC1 (Q := fun _ _ _ => True) h149 rfl rfl rfl hk144' Tryz.underlying29 rfl (by kernel_rfl) ?_
      have hr150 := row_kept_at hr147 hg146 (row_ne_lt hr147 (by omega))
      have hB151 := hb_at hB134 hg146 (by omega)
      cases hof.symm.trans ((ofB_at hq26 hq39 hq67 hR (by omega) hq114).trans (ofEnd_c (by assumption) (by assumption)))
      exact ⟨_, rfl, (row_lows hr150 (by omega)), hB151⟩
     ·
      rw [hc133] at h132
      have hp152 : chkB n23 n36 ls ≠ 0 := by first | simpa using hc133 | simpa [and_assoc] using hc133
      clear hc133
      refine co_true h132 rfl ?_
      refine co_seq ?_
      refine co_reg ?_
      refine pk0 (v := .agg #[.int .i64 0, .int .i64 0, .slice none 0 0]) h132 rfl fun a153 h153 => ?_; clear h132
      refine pk0 (v := .int .i64 (chkB n23 n36 ls)) h153 rfl fun a154 h154 => ?_; clear h153
      refine pwD h154 rfl (op_storeN rfl rfl rfl (all_cons rfl (all_cons rfl (all_cons rfl all_nil))) (by kernel_rfl) hk136 rfl) ?_; clear h154
      rintro _ w156 a155 ⟨hk157, hz158, hg159⟩ h155
      have hk157' : Blk w156 N3 29 #[.int .i64 0, .int .i64 0, .slice none 0 0] := hk157; clear hk157
      have hz160 := hg159.size
      refine pk0 (v := .int .i64 (chkB n23 n36 ls)) h155 rfl fun a161 h161 => ?_; clear h155
      refine pl_nil ?_
      refine co_then ?_
      refine wp_ret ?_
      refine co_thenR ?_
      refine co_retC1 (Q := fun _ _ _ => True) h161 rfl rfl rfl hk157' Tryz.underlying29 rfl (by kernel_rfl) ?_
      have hB162 := hb_at hB134 hg159 (by omega)
      cases hof.symm.trans ((ofB_at hq26 hq39 hq67 hR (by omega) hq114).trans (ofEnd_b (by assumption) (by assumption)))
      exact ⟨_, rfl, (row_nilL _ _ _ _ _), hB162⟩
    ·
     rw [hc120] at h119
     have hp163 : r113 ≠ 0 := by first | simpa using hc120 | simpa [and_assoc] using hc120
     clear hc120
     refine co_true h119 rfl ?_
     refine co_seq ?_
     refine co_reg ?_
     refine pk0 (v := .agg #[.int .i64 0, .int .i64 0, .slice none 0 0]) h119 rfl fun a164 h164 => ?_; clear h119
     refine pk0 (v := .int .i64 r113) h164 rfl fun a165 h165 => ?_; clear h164
     have hk171 := hk102.below hb115
     refine pwD h165 rfl (op_storeN rfl rfl rfl (all_cons rfl (all_cons rfl (all_cons rfl all_nil))) (by kernel_rfl) hk171 rfl) ?_; clear h165
     rintro _ w167 a166 ⟨hk168, hz169, hg170⟩ h166
     have hk168' : Blk w167 N3 29 #[.int .i64 0, .int .i64 0, .slice none 0 0] := hk168; clear hk168
     have hz172 := hg170.size
     refine pk0 (v := .int .i64 r113) h166 rfl fun a173 h173 => ?_; clear h166
     refine pl_nil ?_
     refine co_then ?_
     refine wp_ret ?_
     refine co_thenR ?_
     refine co_retC1 (Q := fun _ _ _ => True) h173 rfl rfl rfl hk168' Tryz.underlying29 rfl (by kernel_rfl) ?_
     have hB174 := hb_at hB121 hg170 (by omega)
     cases hof.symm.trans ((ofB_at hq26 hq39 hq67 hR (by omega) hq114).trans (ofEnd_a (by assumption)))
     exact ⟨_, rfl, (row_nilL _ _ _ _ _), hB174⟩
   ·
    rw [hc108] at h107
    have hp175 : ((i : Nat) : Int) < n64 := of_decide_eq_true hc108
    clear hc108
    refine co_true h107 rfl ?_
    refine wp_skip ?_
    refine co_then ?_
    refine co_seq ?_
    refine wp_block ?_
    refine dr_gen (fun x => Below w.heap.size w x) (by kernel_rfl) (fun w176 hg177 => ?_) (fun w176 hg177 => ?_)
    ·
     have hz178 := hg177.size
     have hB179 := hb_new hB101 hg177
     exact hB179
    have hz180 := hg177.size
    have hB181 := hb_new hB101 hg177
    refine dk0 0 (v := pt N49 2) h107 rfl rfl hB181 fun a182 h182 => ?_; clear h107
    refine dk0 2 (v := pt b13 0) h182 rfl rfl hB181 fun a183 h183 => ?_; clear h182
    refine dk0 4 (v := pt b13 0) h183 rfl rfl hB181 fun a184 h184 => ?_; clear h183
    refine dk0 6 (v := pt b13 0) h184 rfl rfl hB181 fun a185 h185 => ?_; clear h184
    refine dr_many [1, 3] (by kernel_rfl) (by simp) ⟨?_, ?_, trivial⟩
    ·
     have hk186 := hf98.kept hg177 (by simp)
     refine dr_opVal (i := 1) (v := u) h185 rfl rfl rfl rfl (by kernel_rfl) rfl (rn_load1 rfl rfl Tryz.isAgg27 (hk186.cell rfl)) hB181 (fun a187 h187 => ?_); clear h185
     have ho198 := hf99.new hg177
     refine d1 3 h187 rfl rfl (op_call (args := #[pt b13 0, .int .i64 8]) (R := fun res xw => ∃ (n : ByteArray) (a' e' : Int), res = .string n ∧ textR s ps er 8 = (n, a', e') ∧ (n.size : Int) ≤ 8 ∧ OR b13 s a' e' xw ∧ w176.grownBy xw (some b13)) rfl rfl rfl (by kernel_rfl) (by kernel_rfl) (Tryz.call121 _ _) (or_text b13 s ps er 8 w176 ho198 (by omega) (by omega) (by omega)) (by rintro q x ⟨n, a', e', rfl, h0, k0, h1, h2⟩; exact ⟨_, rfl, n, a', e', rfl, h0, k0, h1, h2⟩)) ?_ ?_; clear h187
     ·
      rintro _ w189 ⟨n190, a191, e192, rfl, hq193, hn194, ho196, hg197⟩
      have hz199 := hg197.size
      have hl200 := ho196.lt
      have hB201 := hb_at hB181 hg197 (by omega)
      exact hB201
     rintro _ w189 a188 ⟨n190, a191, e192, rfl, hq193, hn194, ho196, hg197⟩ h188
     have hz199 := hg197.size
     have hl200 := ho196.lt
     have hB201 := hb_at hB181 hg197 (by omega)
     refine d1 5 h188 rfl rfl (op_call (args := #[pt b13 0]) (R := fun res xw => ∃ (n : Bool) (a' e' : Int), res = .bool n ∧ flagR s a191.toNat e192 = (n, a', e') ∧ OR b13 s a' e' xw ∧ w189.grownBy xw (some b13)) rfl rfl rfl (by kernel_rfl) (by kernel_rfl) (Tryz.call119 _ _) (or_flag b13 s a191 e192 w189 ho196 (by omega)) (by rintro q x ⟨n, a', e', rfl, h0, h1, h2⟩; exact ⟨_, rfl, n, a', e', rfl, h0, h1, h2⟩)) ?_ ?_; clear h188
     ·
      rintro _ w203 ⟨n204, a205, e206, rfl, hq207, ho210, hg211⟩
      have hz212 := hg211.size
      have hl213 := ho210.lt
      have hB214 := hb_at hB201 hg211 (by omega)
      exact hB214
     rintro _ w203 a202 ⟨n204, a205, e206, rfl, hq207, ho210, hg211⟩ h202
     have hz212 := hg211.size
     have hl213 := ho210.lt
     have hB214 := hb_at hB201 hg211 (by omega)
     refine d1 7 h202 rfl rfl (op_call (args := #[pt b13 0, .int .i64 8]) (R := fun res xw => ∃ (n : ByteArray) (a' e' : Int), res = .string n ∧ textR s a205 e206 8 = (n, a', e') ∧ (n.size : Int) ≤ 8 ∧ OR b13 s a' e' xw ∧ w203.grownBy xw (some b13)) rfl rfl rfl (by kernel_rfl) (by kernel_rfl) (Tryz.call121 _ _) (or_text b13 s a205 e206 8 w203 ho210 (by omega) (by omega) (by omega)) (by rintro q x ⟨n, a', e', rfl, h0, k0, h1, h2⟩; exact ⟨_, rfl, n, a', e', rfl, h0, k0, h1, h2⟩)) ?_ ?_; clear h202
     ·
      rintro _ w216 ⟨n217, a218, e219, rfl, hq220, hn221, ho223, hg224⟩
      have hz225 := hg224.size
      have hl226 := ho223.lt
      have hB227 := hb_at hB214 hg224 (by omega)
      exact hB227
     rintro _ w216 a215 ⟨n217, a218, e219, rfl, hq220, hn221, ho223, hg224⟩ h215
     have hz225 := hg224.size
     have hl226 := ho223.lt
     have hB227 := hb_at hB214 hg224 (by omega)
     refine dk0 8 (v := .agg #[.string n190, .string n217, .bool n204]) h215 rfl rfl hB227 fun a228 h228 => ?_; clear h215
     refine d1 9 h228 rfl rfl (op_new (v := fun N => .slice (some ⟨N, 0, none⟩) 1 1) (T := 159) (cs := #[.string n190, .string n217, .bool n204]) (by kernel_rfl) (by kernel_rfl) (by kernel_rfl)) ?_ ?_; clear h228
     ·
      rintro _ w230 ⟨N231, rfl, hN234, hz235, hk233, hg232⟩
      have hr237 := row_kept_new hf100 hg177
      have hr238 := row_kept_at hr237 hg197 (row_ne_lt hr237 (by omega))
      have hr239 := row_kept_at hr238 hg211 (row_ne_lt hr238 (by omega))
      have hr240 := row_kept_at hr239 hg224 (row_ne_lt hr239 (by omega))
      have ha236 := row_fresh hr240 hN234
      have hz241 := hg232.size
      have hB242 := hb_new hB227 hg232
      exact hB242
     rintro _ w230 a229 ⟨N231, rfl, hN234, hz235, hk233, hg232⟩ h229
     have hr237 := row_kept_new hf100 hg177
     have hr238 := row_kept_at hr237 hg197 (row_ne_lt hr237 (by omega))
     have hr239 := row_kept_at hr238 hg211 (row_ne_lt hr238 (by omega))
     have hr240 := row_kept_at hr239 hg224 (row_ne_lt hr239 (by omega))
     have ha236 := row_fresh hr240 hN234
     have hz241 := hg232.size
     try dsimp only at h229
     have hB242 := hb_new hB227 hg232
     have hr248 := row_kept_new hr240 hg232
     refine d1 10 h229 rfl rfl (op_append rfl (N49 + 1) 159 (z := .agg #[.string (⟨#[]⟩), .string (⟨#[]⟩), .bool false]) (size := 3) (bytes := 40) Tryz.underlying27 (by kernel_rfl) rfl rfl rfl hr248 rfl hk233 rfl (by kernel_rfl) (by first | omega | (simp only [List.length_nil, List.length_append, List.length_cons, List.length_take, List.length_drop]; omega)) (by first | omega | (simp only [List.length_nil, List.length_append, List.length_cons, List.length_take, List.length_drop]; omega)) (by omega)) ?_ ?_; clear h229
     ·
      rintro v245 w244 ⟨hr246, hg247⟩
      have hr246' : w244.ownsRow (N49 + 1) 159 3 v245 ((ls ++ [(n190, n217, n204)]).length) ((ls ++ [(n190, n217, n204)]).flatMap opE) := row_push (y := (n190, n217, n204)) hr246 rfl rfl; clear hr246
      have hz249 := hg247.size
      have hB250 := hb_row hB242 hr248 (by omega) hg247
      exact hB250
     rintro v245 w244 a243 ⟨hr246, hg247⟩ h243
     have hr246' : w244.ownsRow (N49 + 1) 159 3 v245 ((ls ++ [(n190, n217, n204)]).length) ((ls ++ [(n190, n217, n204)]).flatMap opE) := row_push (y := (n190, n217, n204)) hr246 rfl rfl; clear hr246
     have hz249 := hg247.size
     have hB250 := hb_row hB242 hr248 (by omega) hg247
     refine dk0 11 (v := pt N49 2) h243 rfl rfl hB250 fun a251 h251 => ?_; clear h243
     have hk257 := hk186.kept hg197 (by simp; omega)
     have hk258 := hk257.kept hg211 (by simp; omega)
     have hk259 := hk258.kept hg224 (by simp; omega)
     have hk260 := hk259.kept hg232 (by simp)
     have hk261 := hk260.kept hg247 (row_ne_lt hr248 (by omega))
     refine d1D 12 h251 rfl rfl (op_store1 rfl rfl rfl (row_one hr246') Tryz.sizeOf27 hk261 rfl) ?_ ?_; clear h251
     ·
      rintro _ w253 ⟨hk254, hz255, hg256⟩
      have hk254' : Blk w253 N49 29 #[.int .i64 n23, .int .i64 n36, v245] := hk254; clear hk254
      have hz262 := hg256.size
      have hB263 := hb_at hB250 hg256 (by omega)
      exact hB263
     rintro _ w253 a252 ⟨hk254, hz255, hg256⟩ h252
     have hk254' : Blk w253 N49 29 #[.int .i64 n23, .int .i64 n36, v245] := hk254; clear hk254
     have hz262 := hg256.size
     refine dr_done (by kernel_rfl) ?_
     refine co_blockN ?_
     refine co_then ?_
     refine co_reg ?_
     refine pk (v := .int .i64 ((i + 1 : Nat) : Int)) h252 rfl (rn_arith' rfl rfl rfl rfl rfl rfl (IntWalk.i64_in _ (by omega)) (by omega)) fun a263 h263 => ?_; clear h252
     refine pk0 (v := .int .i64 ((i + 1 : Nat) : Int)) h263 rfl fun a264 h264 => ?_; clear h263
     refine pl_nil ?_
     refine co_then ?_
     refine ⟨(n64.toNat - (i + 1)), by omega, ?_⟩
     have hR' := rdN_step hR hq193 hq207 hq220
     have ho265 := ho223.new hg232
     have ho266 := ho265.row (row_ne_lt hr248 (by omega)) hg247
     have ho267 := ho266.at (by omega) hg256
     have hr268 := row_kept_at hr246' hg256 (row_ne_lt hr246' (by omega))
     have hB269 := hb_at hB250 hg256 (by omega)
     have hk270 := hk102.kept hg177 (by simp)
     have hk271 := hk270.kept hg197 (by simp; omega)
     have hk272 := hk271.kept hg211 (by simp; omega)
     have hk273 := hk272.kept hg224 (by simp; omega)
     have hk274 := hk273.kept hg232 (by simp)
     have hk275 := hk274.kept hg247 (row_ne_lt hr248 (by omega))
     have hk276 := hk275.kept hg256 (by simp; omega)
     exact ⟨i + 1, v245, ls ++ [(n190, n217, n204)], a218, e219, h264.sub ⟨rfl, rfl, rfl, rfl, rfl, rfl, trivial⟩, rfl, by omega, by first | rfl | (simp; omega), by first | rfl | exact hR', hk254', ho267, (row_eq hr268 (rfl)), hB269, hk276⟩
    ·
     have ho287 := hf99.new hg177
     refine dr_op (i := 3) h185 rfl rfl rfl rfl (op_call (args := #[pt b13 0, .int .i64 8]) (R := fun res xw => ∃ (n : ByteArray) (a' e' : Int), res = .string n ∧ textR s ps er 8 = (n, a', e') ∧ (n.size : Int) ≤ 8 ∧ OR b13 s a' e' xw ∧ w176.grownBy xw (some b13)) rfl rfl rfl (by kernel_rfl) (by kernel_rfl) (Tryz.call121 _ _) (or_text b13 s ps er 8 w176 ho287 (by omega) (by omega) (by omega)) (by rintro q x ⟨n, a', e', rfl, h0, k0, h1, h2⟩; exact ⟨_, rfl, n, a', e', rfl, h0, k0, h1, h2⟩)) ?_ ?_; clear h185
     ·
      rintro _ w278 ⟨n279, a280, e281, rfl, hq282, hn283, ho285, hg286⟩
      have hz288 := hg286.size
      have hl289 := ho285.lt
      have hB290 := hb_at hB181 hg286 (by omega)
      exact hB290
     rintro _ w278 a277 ⟨n279, a280, e281, rfl, hq282, hn283, ho285, hg286⟩ h277
     have hz288 := hg286.size
     have hl289 := ho285.lt
     have hB290 := hb_at hB181 hg286 (by omega)
     refine dr_many [1, 5] (by kernel_rfl) (by simp) ⟨?_, ?_, trivial⟩
     ·
      have hk291 := hf98.kept hg177 (by simp)
      have hk292 := hk291.kept hg286 (by simp; omega)
      refine dr_opVal (i := 1) (v := u) h277 rfl rfl rfl rfl (by kernel_rfl) rfl (rn_load1 rfl rfl Tryz.isAgg27 (hk292.cell rfl)) hB290 (fun a293 h293 => ?_); clear h277
      refine d1 5 h293 rfl rfl (op_call (args := #[pt b13 0]) (R := fun res xw => ∃ (n : Bool) (a' e' : Int), res = .bool n ∧ flagR s a280.toNat e281 = (n, a', e') ∧ OR b13 s a' e' xw ∧ w278.grownBy xw (some b13)) rfl rfl rfl (by kernel_rfl) (by kernel_rfl) (Tryz.call119 _ _) (or_flag b13 s a280 e281 w278 ho285 (by omega)) (by rintro q x ⟨n, a', e', rfl, h0, h1, h2⟩; exact ⟨_, rfl, n, a', e', rfl, h0, h1, h2⟩)) ?_ ?_; clear h293
      ·
       rintro _ w295 ⟨n296, a297, e298, rfl, hq299, ho302, hg303⟩
       have hz304 := hg303.size
       have hl305 := ho302.lt
       have hB306 := hb_at hB290 hg303 (by omega)
       exact hB306
      rintro _ w295 a294 ⟨n296, a297, e298, rfl, hq299, ho302, hg303⟩ h294
      have hz304 := hg303.size
      have hl305 := ho302.lt
      have hB306 := hb_at hB290 hg303 (by omega)
      refine d1 7 h294 rfl rfl (op_call (args := #[pt b13 0, .int .i64 8]) (R := fun res xw => ∃ (n : ByteArray) (a' e' : Int), res = .string n ∧ textR s a297 e298 8 = (n, a', e') ∧ (n.size : Int) ≤ 8 ∧ OR b13 s a' e' xw ∧ w295.grownBy xw (some b13)) rfl rfl rfl (by kernel_rfl) (by kernel_rfl) (Tryz.call121 _ _) (or_text b13 s a297 e298 8 w295 ho302 (by omega) (by omega) (by omega)) (by rintro q x ⟨n, a', e', rfl, h0, k0, h1, h2⟩; exact ⟨_, rfl, n, a', e', rfl, h0, k0, h1, h2⟩)) ?_ ?_; clear h294
      ·
       rintro _ w308 ⟨n309, a310, e311, rfl, hq312, hn313, ho315, hg316⟩
       have hz317 := hg316.size
       have hl318 := ho315.lt
       have hB319 := hb_at hB306 hg316 (by omega)
       exact hB319
      rintro _ w308 a307 ⟨n309, a310, e311, rfl, hq312, hn313, ho315, hg316⟩ h307
      have hz317 := hg316.size
      have hl318 := ho315.lt
      have hB319 := hb_at hB306 hg316 (by omega)
      refine dk0 8 (v := .agg #[.string n279, .string n309, .bool n296]) h307 rfl rfl hB319 fun a320 h320 => ?_; clear h307
      refine d1 9 h320 rfl rfl (op_new (v := fun N => .slice (some ⟨N, 0, none⟩) 1 1) (T := 159) (cs := #[.string n279, .string n309, .bool n296]) (by kernel_rfl) (by kernel_rfl) (by kernel_rfl)) ?_ ?_; clear h320
      ·
       rintro _ w322 ⟨N323, rfl, hN326, hz327, hk325, hg324⟩
       have hr329 := row_kept_new hf100 hg177
       have hr330 := row_kept_at hr329 hg286 (row_ne_lt hr329 (by omega))
       have hr331 := row_kept_at hr330 hg303 (row_ne_lt hr330 (by omega))
       have hr332 := row_kept_at hr331 hg316 (row_ne_lt hr331 (by omega))
       have ha328 := row_fresh hr332 hN326
       have hz333 := hg324.size
       have hB334 := hb_new hB319 hg324
       exact hB334
      rintro _ w322 a321 ⟨N323, rfl, hN326, hz327, hk325, hg324⟩ h321
      have hr329 := row_kept_new hf100 hg177
      have hr330 := row_kept_at hr329 hg286 (row_ne_lt hr329 (by omega))
      have hr331 := row_kept_at hr330 hg303 (row_ne_lt hr330 (by omega))
      have hr332 := row_kept_at hr331 hg316 (row_ne_lt hr331 (by omega))
      have ha328 := row_fresh hr332 hN326
      have hz333 := hg324.size
      try dsimp only at h321
      have hB334 := hb_new hB319 hg324
      have hr340 := row_kept_new hr332 hg324
      refine d1 10 h321 rfl rfl (op_append rfl (N49 + 1) 159 (z := .agg #[.string (⟨#[]⟩), .string (⟨#[]⟩), .bool false]) (size := 3) (bytes := 40) Tryz.underlying27 (by kernel_rfl) rfl rfl rfl hr340 rfl hk325 rfl (by kernel_rfl) (by first | omega | (simp only [List.length_nil, List.length_append, List.length_cons, List.length_take, List.length_drop]; omega)) (by first | omega | (simp only [List.length_nil, List.length_append, List.length_cons, List.length_take, List.length_drop]; omega)) (by omega)) ?_ ?_; clear h321
      ·
       rintro v337 w336 ⟨hr338, hg339⟩
       have hr338' : w336.ownsRow (N49 + 1) 159 3 v337 ((ls ++ [(n279, n309, n296)]).length) ((ls ++ [(n279, n309, n296)]).flatMap opE) := row_push (y := (n279, n309, n296)) hr338 rfl rfl; clear hr338
       have hz341 := hg339.size
       have hB342 := hb_row hB334 hr340 (by omega) hg339
       exact hB342
      rintro v337 w336 a335 ⟨hr338, hg339⟩ h335
      have hr338' : w336.ownsRow (N49 + 1) 159 3 v337 ((ls ++ [(n279, n309, n296)]).length) ((ls ++ [(n279, n309, n296)]).flatMap opE) := row_push (y := (n279, n309, n296)) hr338 rfl rfl; clear hr338
      have hz341 := hg339.size
      have hB342 := hb_row hB334 hr340 (by omega) hg339
      refine dk0 11 (v := pt N49 2) h335 rfl rfl hB342 fun a343 h343 => ?_; clear h335
      have hk349 := hk292.kept hg303 (by simp; omega)
      have hk350 := hk349.kept hg316 (by simp; omega)
      have hk351 := hk350.kept hg324 (by simp)
      have hk352 := hk351.kept hg339 (row_ne_lt hr340 (by omega))
      refine d1D 12 h343 rfl rfl (op_store1 rfl rfl rfl (row_one hr338') Tryz.sizeOf27 hk352 rfl) ?_ ?_; clear h343
      ·
       rintro _ w345 ⟨hk346, hz347, hg348⟩
       have hk346' : Blk w345 N49 29 #[.int .i64 n23, .int .i64 n36, v337] := hk346; clear hk346
       have hz353 := hg348.size
       have hB354 := hb_at hB342 hg348 (by omega)
       exact hB354
      rintro _ w345 a344 ⟨hk346, hz347, hg348⟩ h344
      have hk346' : Blk w345 N49 29 #[.int .i64 n23, .int .i64 n36, v337] := hk346; clear hk346
      have hz353 := hg348.size
      refine dr_done (by kernel_rfl) ?_
      refine co_blockN ?_
      refine co_then ?_
      refine co_reg ?_
      refine pk (v := .int .i64 ((i + 1 : Nat) : Int)) h344 rfl (rn_arith' rfl rfl rfl rfl rfl rfl (IntWalk.i64_in _ (by omega)) (by omega)) fun a354 h354 => ?_; clear h344
      refine pk0 (v := .int .i64 ((i + 1 : Nat) : Int)) h354 rfl fun a355 h355 => ?_; clear h354
      refine pl_nil ?_
      refine co_then ?_
      refine ⟨(n64.toNat - (i + 1)), by omega, ?_⟩
      have hR' := rdN_step hR hq282 hq299 hq312
      have ho356 := ho315.new hg324
      have ho357 := ho356.row (row_ne_lt hr340 (by omega)) hg339
      have ho358 := ho357.at (by omega) hg348
      have hr359 := row_kept_at hr338' hg348 (row_ne_lt hr338' (by omega))
      have hB360 := hb_at hB342 hg348 (by omega)
      have hk361 := hk102.kept hg177 (by simp)
      have hk362 := hk361.kept hg286 (by simp; omega)
      have hk363 := hk362.kept hg303 (by simp; omega)
      have hk364 := hk363.kept hg316 (by simp; omega)
      have hk365 := hk364.kept hg324 (by simp)
      have hk366 := hk365.kept hg339 (row_ne_lt hr340 (by omega))
      have hk367 := hk366.kept hg348 (by simp; omega)
      exact ⟨i + 1, v337, ls ++ [(n279, n309, n296)], a310, e311, h355.sub ⟨rfl, rfl, rfl, rfl, rfl, rfl, trivial⟩, rfl, by omega, by first | rfl | (simp; omega), by first | rfl | exact hR', hk346', ho358, (row_eq hr359 (rfl)), hB360, hk367⟩
     ·
      refine dr_op (i := 5) h277 rfl rfl rfl rfl (op_call (args := #[pt b13 0]) (R := fun res xw => ∃ (n : Bool) (a' e' : Int), res = .bool n ∧ flagR s a280.toNat e281 = (n, a', e') ∧ OR b13 s a' e' xw ∧ w278.grownBy xw (some b13)) rfl rfl rfl (by kernel_rfl) (by kernel_rfl) (Tryz.call119 _ _) (or_flag b13 s a280 e281 w278 ho285 (by omega)) (by rintro q x ⟨n, a', e', rfl, h0, h1, h2⟩; exact ⟨_, rfl, n, a', e', rfl, h0, h1, h2⟩)) ?_ ?_; clear h277
      ·
       rintro _ w369 ⟨n370, a371, e372, rfl, hq373, ho376, hg377⟩
       have hz378 := hg377.size
       have hl379 := ho376.lt
       have hB380 := hb_at hB290 hg377 (by omega)
       exact hB380
      rintro _ w369 a368 ⟨n370, a371, e372, rfl, hq373, ho376, hg377⟩ h368
      have hz378 := hg377.size
      have hl379 := ho376.lt
      have hB380 := hb_at hB290 hg377 (by omega)
      refine dr_many [1, 7] (by kernel_rfl) (by simp) ⟨?_, ?_, trivial⟩
      ·
       have hk381 := hf98.kept hg177 (by simp)
       have hk382 := hk381.kept hg286 (by simp; omega)
       have hk383 := hk382.kept hg377 (by simp; omega)
       refine dr_opVal (i := 1) (v := u) h368 rfl rfl rfl rfl (by kernel_rfl) rfl (rn_load1 rfl rfl Tryz.isAgg27 (hk383.cell rfl)) hB380 (fun a384 h384 => ?_); clear h368
       refine d1 7 h384 rfl rfl (op_call (args := #[pt b13 0, .int .i64 8]) (R := fun res xw => ∃ (n : ByteArray) (a' e' : Int), res = .string n ∧ textR s a371 e372 8 = (n, a', e') ∧ (n.size : Int) ≤ 8 ∧ OR b13 s a' e' xw ∧ w369.grownBy xw (some b13)) rfl rfl rfl (by kernel_rfl) (by kernel_rfl) (Tryz.call121 _ _) (or_text b13 s a371 e372 8 w369 ho376 (by omega) (by omega) (by omega)) (by rintro q x ⟨n, a', e', rfl, h0, k0, h1, h2⟩; exact ⟨_, rfl, n, a', e', rfl, h0, k0, h1, h2⟩)) ?_ ?_; clear h384
       ·
        rintro _ w386 ⟨n387, a388, e389, rfl, hq390, hn391, ho393, hg394⟩
        have hz395 := hg394.size
        have hl396 := ho393.lt
        have hB397 := hb_at hB380 hg394 (by omega)
        exact hB397
       rintro _ w386 a385 ⟨n387, a388, e389, rfl, hq390, hn391, ho393, hg394⟩ h385
       have hz395 := hg394.size
       have hl396 := ho393.lt
       have hB397 := hb_at hB380 hg394 (by omega)
       refine dk0 8 (v := .agg #[.string n279, .string n387, .bool n370]) h385 rfl rfl hB397 fun a398 h398 => ?_; clear h385
       refine d1 9 h398 rfl rfl (op_new (v := fun N => .slice (some ⟨N, 0, none⟩) 1 1) (T := 159) (cs := #[.string n279, .string n387, .bool n370]) (by kernel_rfl) (by kernel_rfl) (by kernel_rfl)) ?_ ?_; clear h398
       ·
        rintro _ w400 ⟨N401, rfl, hN404, hz405, hk403, hg402⟩
        have hr407 := row_kept_new hf100 hg177
        have hr408 := row_kept_at hr407 hg286 (row_ne_lt hr407 (by omega))
        have hr409 := row_kept_at hr408 hg377 (row_ne_lt hr408 (by omega))
        have hr410 := row_kept_at hr409 hg394 (row_ne_lt hr409 (by omega))
        have ha406 := row_fresh hr410 hN404
        have hz411 := hg402.size
        have hB412 := hb_new hB397 hg402
        exact hB412
       rintro _ w400 a399 ⟨N401, rfl, hN404, hz405, hk403, hg402⟩ h399
       have hr407 := row_kept_new hf100 hg177
       have hr408 := row_kept_at hr407 hg286 (row_ne_lt hr407 (by omega))
       have hr409 := row_kept_at hr408 hg377 (row_ne_lt hr408 (by omega))
       have hr410 := row_kept_at hr409 hg394 (row_ne_lt hr409 (by omega))
       have ha406 := row_fresh hr410 hN404
       have hz411 := hg402.size
       try dsimp only at h399
       have hB412 := hb_new hB397 hg402
       have hr418 := row_kept_new hr410 hg402
       refine d1 10 h399 rfl rfl (op_append rfl (N49 + 1) 159 (z := .agg #[.string (⟨#[]⟩), .string (⟨#[]⟩), .bool false]) (size := 3) (bytes := 40) Tryz.underlying27 (by kernel_rfl) rfl rfl rfl hr418 rfl hk403 rfl (by kernel_rfl) (by first | omega | (simp only [List.length_nil, List.length_append, List.length_cons, List.length_take, List.length_drop]; omega)) (by first | omega | (simp only [List.length_nil, List.length_append, List.length_cons, List.length_take, List.length_drop]; omega)) (by omega)) ?_ ?_; clear h399
       ·
        rintro v415 w414 ⟨hr416, hg417⟩
        have hr416' : w414.ownsRow (N49 + 1) 159 3 v415 ((ls ++ [(n279, n387, n370)]).length) ((ls ++ [(n279, n387, n370)]).flatMap opE) := row_push (y := (n279, n387, n370)) hr416 rfl rfl; clear hr416
        have hz419 := hg417.size
        have hB420 := hb_row hB412 hr418 (by omega) hg417
        exact hB420
       rintro v415 w414 a413 ⟨hr416, hg417⟩ h413
       have hr416' : w414.ownsRow (N49 + 1) 159 3 v415 ((ls ++ [(n279, n387, n370)]).length) ((ls ++ [(n279, n387, n370)]).flatMap opE) := row_push (y := (n279, n387, n370)) hr416 rfl rfl; clear hr416
       have hz419 := hg417.size
       have hB420 := hb_row hB412 hr418 (by omega) hg417
       refine dk0 11 (v := pt N49 2) h413 rfl rfl hB420 fun a421 h421 => ?_; clear h413
       have hk427 := hk383.kept hg394 (by simp; omega)
       have hk428 := hk427.kept hg402 (by simp)
       have hk429 := hk428.kept hg417 (row_ne_lt hr418 (by omega))
       refine d1D 12 h421 rfl rfl (op_store1 rfl rfl rfl (row_one hr416') Tryz.sizeOf27 hk429 rfl) ?_ ?_; clear h421
       ·
        rintro _ w423 ⟨hk424, hz425, hg426⟩
        have hk424' : Blk w423 N49 29 #[.int .i64 n23, .int .i64 n36, v415] := hk424; clear hk424
        have hz430 := hg426.size
        have hB431 := hb_at hB420 hg426 (by omega)
        exact hB431
       rintro _ w423 a422 ⟨hk424, hz425, hg426⟩ h422
       have hk424' : Blk w423 N49 29 #[.int .i64 n23, .int .i64 n36, v415] := hk424; clear hk424
       have hz430 := hg426.size
       refine dr_done (by kernel_rfl) ?_
       refine co_blockN ?_
       refine co_then ?_
       refine co_reg ?_
       refine pk (v := .int .i64 ((i + 1 : Nat) : Int)) h422 rfl (rn_arith' rfl rfl rfl rfl rfl rfl (IntWalk.i64_in _ (by omega)) (by omega)) fun a431 h431 => ?_; clear h422
       refine pk0 (v := .int .i64 ((i + 1 : Nat) : Int)) h431 rfl fun a432 h432 => ?_; clear h431
       refine pl_nil ?_
       refine co_then ?_
       refine ⟨(n64.toNat - (i + 1)), by omega, ?_⟩
       have hR' := rdN_step hR hq282 hq373 hq390
       have ho433 := ho393.new hg402
       have ho434 := ho433.row (row_ne_lt hr418 (by omega)) hg417
       have ho435 := ho434.at (by omega) hg426
       have hr436 := row_kept_at hr416' hg426 (row_ne_lt hr416' (by omega))
       have hB437 := hb_at hB420 hg426 (by omega)
       have hk438 := hk102.kept hg177 (by simp)
       have hk439 := hk438.kept hg286 (by simp; omega)
       have hk440 := hk439.kept hg377 (by simp; omega)
       have hk441 := hk440.kept hg394 (by simp; omega)
       have hk442 := hk441.kept hg402 (by simp)
       have hk443 := hk442.kept hg417 (row_ne_lt hr418 (by omega))
       have hk444 := hk443.kept hg426 (by simp; omega)
       exact ⟨i + 1, v415, ls ++ [(n279, n387, n370)], a388, e389, h432.sub ⟨rfl, rfl, rfl, rfl, rfl, rfl, trivial⟩, rfl, by omega, by first | rfl | (simp; omega), by first | rfl | exact hR', hk424', ho435, (row_eq hr436 (rfl)), hB437, hk444⟩
      ·
       refine dr_op (i := 7) h368 rfl rfl rfl rfl (op_call (args := #[pt b13 0, .int .i64 8]) (R := fun res xw => ∃ (n : ByteArray) (a' e' : Int), res = .string n ∧ textR s a371 e372 8 = (n, a', e') ∧ (n.size : Int) ≤ 8 ∧ OR b13 s a' e' xw ∧ w369.grownBy xw (some b13)) rfl rfl rfl (by kernel_rfl) (by kernel_rfl) (Tryz.call121 _ _) (or_text b13 s a371 e372 8 w369 ho376 (by omega) (by omega) (by omega)) (by rintro q x ⟨n, a', e', rfl, h0, k0, h1, h2⟩; exact ⟨_, rfl, n, a', e', rfl, h0, k0, h1, h2⟩)) ?_ ?_; clear h368
       ·
        rintro _ w446 ⟨n447, a448, e449, rfl, hq450, hn451, ho453, hg454⟩
        have hz455 := hg454.size
        have hl456 := ho453.lt
        have hB457 := hb_at hB380 hg454 (by omega)
        exact hB457
       rintro _ w446 a445 ⟨n447, a448, e449, rfl, hq450, hn451, ho453, hg454⟩ h445
       have hz455 := hg454.size
       have hl456 := ho453.lt
       have hB457 := hb_at hB380 hg454 (by omega)
       refine dk0 8 (v := .agg #[.string n279, .string n447, .bool n370]) h445 rfl rfl hB457 fun a458 h458 => ?_; clear h445
       refine dr_many [1, 9] (by kernel_rfl) (by simp) ⟨?_, ?_, trivial⟩
       ·
        have hk459 := hf98.kept hg177 (by simp)
        have hk460 := hk459.kept hg286 (by simp; omega)
        have hk461 := hk460.kept hg377 (by simp; omega)
        have hk462 := hk461.kept hg454 (by simp; omega)
        refine dr_opVal (i := 1) (v := u) h458 rfl rfl rfl rfl (by kernel_rfl) rfl (rn_load1 rfl rfl Tryz.isAgg27 (hk462.cell rfl)) hB457 (fun a463 h463 => ?_); clear h458
        refine d1 9 h463 rfl rfl (op_new (v := fun N => .slice (some ⟨N, 0, none⟩) 1 1) (T := 159) (cs := #[.string n279, .string n447, .bool n370]) (by kernel_rfl) (by kernel_rfl) (by kernel_rfl)) ?_ ?_; clear h463
        ·
         rintro _ w465 ⟨N466, rfl, hN469, hz470, hk468, hg467⟩
         have hr472 := row_kept_new hf100 hg177
         have hr473 := row_kept_at hr472 hg286 (row_ne_lt hr472 (by omega))
         have hr474 := row_kept_at hr473 hg377 (row_ne_lt hr473 (by omega))
         have hr475 := row_kept_at hr474 hg454 (row_ne_lt hr474 (by omega))
         have ha471 := row_fresh hr475 hN469
         have hz476 := hg467.size
         have hB477 := hb_new hB457 hg467
         exact hB477
        rintro _ w465 a464 ⟨N466, rfl, hN469, hz470, hk468, hg467⟩ h464
        have hr472 := row_kept_new hf100 hg177
        have hr473 := row_kept_at hr472 hg286 (row_ne_lt hr472 (by omega))
        have hr474 := row_kept_at hr473 hg377 (row_ne_lt hr473 (by omega))
        have hr475 := row_kept_at hr474 hg454 (row_ne_lt hr474 (by omega))
        have ha471 := row_fresh hr475 hN469
        have hz476 := hg467.size
        try dsimp only at h464
        have hB477 := hb_new hB457 hg467
        have hr483 := row_kept_new hr475 hg467
        refine d1 10 h464 rfl rfl (op_append rfl (N49 + 1) 159 (z := .agg #[.string (⟨#[]⟩), .string (⟨#[]⟩), .bool false]) (size := 3) (bytes := 40) Tryz.underlying27 (by kernel_rfl) rfl rfl rfl hr483 rfl hk468 rfl (by kernel_rfl) (by first | omega | (simp only [List.length_nil, List.length_append, List.length_cons, List.length_take, List.length_drop]; omega)) (by first | omega | (simp only [List.length_nil, List.length_append, List.length_cons, List.length_take, List.length_drop]; omega)) (by omega)) ?_ ?_; clear h464
        ·
         rintro v480 w479 ⟨hr481, hg482⟩
         have hr481' : w479.ownsRow (N49 + 1) 159 3 v480 ((ls ++ [(n279, n447, n370)]).length) ((ls ++ [(n279, n447, n370)]).flatMap opE) := row_push (y := (n279, n447, n370)) hr481 rfl rfl; clear hr481
         have hz484 := hg482.size
         have hB485 := hb_row hB477 hr483 (by omega) hg482
         exact hB485
        rintro v480 w479 a478 ⟨hr481, hg482⟩ h478
        have hr481' : w479.ownsRow (N49 + 1) 159 3 v480 ((ls ++ [(n279, n447, n370)]).length) ((ls ++ [(n279, n447, n370)]).flatMap opE) := row_push (y := (n279, n447, n370)) hr481 rfl rfl; clear hr481
        have hz484 := hg482.size
        have hB485 := hb_row hB477 hr483 (by omega) hg482
        refine dk0 11 (v := pt N49 2) h478 rfl rfl hB485 fun a486 h486 => ?_; clear h478
        have hk492 := hk462.kept hg467 (by simp)
        have hk493 := hk492.kept hg482 (row_ne_lt hr483 (by omega))
        refine d1D 12 h486 rfl rfl (op_store1 rfl rfl rfl (row_one hr481') Tryz.sizeOf27 hk493 rfl) ?_ ?_; clear h486
        ·
         rintro _ w488 ⟨hk489, hz490, hg491⟩
         have hk489' : Blk w488 N49 29 #[.int .i64 n23, .int .i64 n36, v480] := hk489; clear hk489
         have hz494 := hg491.size
         have hB495 := hb_at hB485 hg491 (by omega)
         exact hB495
        rintro _ w488 a487 ⟨hk489, hz490, hg491⟩ h487
        have hk489' : Blk w488 N49 29 #[.int .i64 n23, .int .i64 n36, v480] := hk489; clear hk489
        have hz494 := hg491.size
        refine dr_done (by kernel_rfl) ?_
        refine co_blockN ?_
        refine co_then ?_
        refine co_reg ?_
        refine pk (v := .int .i64 ((i + 1 : Nat) : Int)) h487 rfl (rn_arith' rfl rfl rfl rfl rfl rfl (IntWalk.i64_in _ (by omega)) (by omega)) fun a495 h495 => ?_; clear h487
        refine pk0 (v := .int .i64 ((i + 1 : Nat) : Int)) h495 rfl fun a496 h496 => ?_; clear h495
        refine pl_nil ?_
        refine co_then ?_
        refine ⟨(n64.toNat - (i + 1)), by omega, ?_⟩
        have hR' := rdN_step hR hq282 hq373 hq450
        have ho497 := ho453.new hg467
        have ho498 := ho497.row (row_ne_lt hr483 (by omega)) hg482
        have ho499 := ho498.at (by omega) hg491
        have hr500 := row_kept_at hr481' hg491 (row_ne_lt hr481' (by omega))
        have hB501 := hb_at hB485 hg491 (by omega)
        have hk502 := hk102.kept hg177 (by simp)
        have hk503 := hk502.kept hg286 (by simp; omega)
        have hk504 := hk503.kept hg377 (by simp; omega)
        have hk505 := hk504.kept hg454 (by simp; omega)
        have hk506 := hk505.kept hg467 (by simp)
        have hk507 := hk506.kept hg482 (row_ne_lt hr483 (by omega))
        have hk508 := hk507.kept hg491 (by simp; omega)
        exact ⟨i + 1, v480, ls ++ [(n279, n447, n370)], a448, e449, h496.sub ⟨rfl, rfl, rfl, rfl, rfl, rfl, trivial⟩, rfl, by omega, by first | rfl | (simp; omega), by first | rfl | exact hR', hk489', ho499, (row_eq hr500 (rfl)), hB501, hk508⟩
       ·
        refine dr_op (i := 9) h458 rfl rfl rfl rfl (op_new (v := fun N => .slice (some ⟨N, 0, none⟩) 1 1) (T := 159) (cs := #[.string n279, .string n447, .bool n370]) (by kernel_rfl) (by kernel_rfl) (by kernel_rfl)) ?_ ?_; clear h458
        ·
         rintro _ w510 ⟨N511, rfl, hN514, hz515, hk513, hg512⟩
         have hr517 := row_kept_new hf100 hg177
         have hr518 := row_kept_at hr517 hg286 (row_ne_lt hr517 (by omega))
         have hr519 := row_kept_at hr518 hg377 (row_ne_lt hr518 (by omega))
         have hr520 := row_kept_at hr519 hg454 (row_ne_lt hr519 (by omega))
         have ha516 := row_fresh hr520 hN514
         have hz521 := hg512.size
         have hB522 := hb_new hB457 hg512
         exact hB522
        rintro _ w510 a509 ⟨N511, rfl, hN514, hz515, hk513, hg512⟩ h509
        have hr517 := row_kept_new hf100 hg177
        have hr518 := row_kept_at hr517 hg286 (row_ne_lt hr517 (by omega))
        have hr519 := row_kept_at hr518 hg377 (row_ne_lt hr518 (by omega))
        have hr520 := row_kept_at hr519 hg454 (row_ne_lt hr519 (by omega))
        have ha516 := row_fresh hr520 hN514
        have hz521 := hg512.size
        try dsimp only at h509
        have hB522 := hb_new hB457 hg512
        refine dr_many [1] (by kernel_rfl) (by simp) ⟨?_, trivial⟩
        ·
         have hk523 := hf98.kept hg177 (by simp)
         have hk524 := hk523.kept hg286 (by simp; omega)
         have hk525 := hk524.kept hg377 (by simp; omega)
         have hk526 := hk525.kept hg454 (by simp; omega)
         have hk527 := hk526.kept hg512 (by simp)
         refine dr_opVal (i := 1) (v := u) h509 rfl rfl rfl rfl (by kernel_rfl) rfl (rn_load1 rfl rfl Tryz.isAgg27 (hk527.cell rfl)) hB522 (fun a528 h528 => ?_); clear h509
         have hr534 := row_kept_new hr520 hg512
         refine d1 10 h528 rfl rfl (op_append rfl (N49 + 1) 159 (z := .agg #[.string (⟨#[]⟩), .string (⟨#[]⟩), .bool false]) (size := 3) (bytes := 40) Tryz.underlying27 (by kernel_rfl) rfl rfl rfl hr534 rfl hk513 rfl (by kernel_rfl) (by first | omega | (simp only [List.length_nil, List.length_append, List.length_cons, List.length_take, List.length_drop]; omega)) (by first | omega | (simp only [List.length_nil, List.length_append, List.length_cons, List.length_take, List.length_drop]; omega)) (by omega)) ?_ ?_; clear h528
         ·
          rintro v531 w530 ⟨hr532, hg533⟩
          have hr532' : w530.ownsRow (N49 + 1) 159 3 v531 ((ls ++ [(n279, n447, n370)]).length) ((ls ++ [(n279, n447, n370)]).flatMap opE) := row_push (y := (n279, n447, n370)) hr532 rfl rfl; clear hr532
          have hz535 := hg533.size
          have hB536 := hb_row hB522 hr534 (by omega) hg533
          exact hB536
         rintro v531 w530 a529 ⟨hr532, hg533⟩ h529
         have hr532' : w530.ownsRow (N49 + 1) 159 3 v531 ((ls ++ [(n279, n447, n370)]).length) ((ls ++ [(n279, n447, n370)]).flatMap opE) := row_push (y := (n279, n447, n370)) hr532 rfl rfl; clear hr532
         have hz535 := hg533.size
         have hB536 := hb_row hB522 hr534 (by omega) hg533
         refine dk0 11 (v := pt N49 2) h529 rfl rfl hB536 fun a537 h537 => ?_; clear h529
         have hk543 := hk527.kept hg533 (row_ne_lt hr534 (by omega))
         refine d1D 12 h537 rfl rfl (op_store1 rfl rfl rfl (row_one hr532') Tryz.sizeOf27 hk543 rfl) ?_ ?_; clear h537
         ·
          rintro _ w539 ⟨hk540, hz541, hg542⟩
          have hk540' : Blk w539 N49 29 #[.int .i64 n23, .int .i64 n36, v531] := hk540; clear hk540
          have hz544 := hg542.size
          have hB545 := hb_at hB536 hg542 (by omega)
          exact hB545
         rintro _ w539 a538 ⟨hk540, hz541, hg542⟩ h538
         have hk540' : Blk w539 N49 29 #[.int .i64 n23, .int .i64 n36, v531] := hk540; clear hk540
         have hz544 := hg542.size
         refine dr_done (by kernel_rfl) ?_
         refine co_blockN ?_
         refine co_then ?_
         refine co_reg ?_
         refine pk (v := .int .i64 ((i + 1 : Nat) : Int)) h538 rfl (rn_arith' rfl rfl rfl rfl rfl rfl (IntWalk.i64_in _ (by omega)) (by omega)) fun a545 h545 => ?_; clear h538
         refine pk0 (v := .int .i64 ((i + 1 : Nat) : Int)) h545 rfl fun a546 h546 => ?_; clear h545
         refine pl_nil ?_
         refine co_then ?_
         refine ⟨(n64.toNat - (i + 1)), by omega, ?_⟩
         have hR' := rdN_step hR hq282 hq373 hq450
         have ho547 := ho453.new hg512
         have ho548 := ho547.row (row_ne_lt hr534 (by omega)) hg533
         have ho549 := ho548.at (by omega) hg542
         have hr550 := row_kept_at hr532' hg542 (row_ne_lt hr532' (by omega))
         have hB551 := hb_at hB536 hg542 (by omega)
         have hk552 := hk102.kept hg177 (by simp)
         have hk553 := hk552.kept hg286 (by simp; omega)
         have hk554 := hk553.kept hg377 (by simp; omega)
         have hk555 := hk554.kept hg454 (by simp; omega)
         have hk556 := hk555.kept hg512 (by simp)
         have hk557 := hk556.kept hg533 (row_ne_lt hr534 (by omega))
         have hk558 := hk557.kept hg542 (by simp; omega)
         exact ⟨i + 1, v531, ls ++ [(n279, n447, n370)], a448, e449, h546.sub ⟨rfl, rfl, rfl, rfl, rfl, rfl, trivial⟩, rfl, by omega, by first | rfl | (simp; omega), by first | rfl | exact hR', hk540', ho549, (row_eq hr550 (rfl)), hB551, hk558⟩
set_option maxRecDepth 100000 in
theorem ropsOf_any (s : ByteArray) (c : Int) (r : Int) (l : List OpT) (x : Int) (w : World) (hsz : s.size ≤ 9223372036854775807) (hof : ofB s = ((c, r, l), x)) :
    Calls Tryz.prog 158 #[.string s] w fun e w' => ∃ (u : Value), e = .returned (.tuple #[.agg #[.int .i64 c, .int .i64 r, u], .int .i64 x]) ∧ w'.ownsRow w.heap.size 159 3 u l.length (l.flatMap opE) ∧ Below w.heap.size w w' := by
 have hB0 := Below.refl w.heap.size w
 refine co_enter (n := 57) Tryz.func158 rfl rfl rfl [(0, .string s)] rfl (fun a h0 => ?_)
 refine co_seq ?_
 refine co_reg ?_
 refine pw h0 rfl (op_new (v := fun N => pt N 0) (T := 29) (cs := #[.int .i64 0, .int .i64 0, .slice none 0 0]) (by kernel_rfl) (by kernel_rfl) (by kernel_rfl)) ?_; clear h0
 rintro _ w2 a1 ⟨N3, rfl, hN6, hz7, hk5, hg4⟩ h1
 have hz8 := hg4.size
 try dsimp only at h1
 refine pk0 (v := .int .i64 0) h1 rfl fun a9 h9 => ?_; clear h1
 refine pl_nil ?_
 refine co_then ?_
 refine co_seq ?_
 refine co_reg ?_
 refine pk0 (v := .string s) h9 rfl fun a10 h10 => ?_; clear h9
 refine pk0 (v := .agg #[.string s, .int .i64 0, .int .i64 0]) h10 rfl fun a11 h11 => ?_; clear h10
 refine pw h11 rfl (op_new (v := fun N => pt N 0) (T := 110) (cs := #[.string s, .int .i64 0, .int .i64 0]) (by kernel_rfl) (by kernel_rfl) (by kernel_rfl)) ?_; clear h11
 rintro _ w13 a12 ⟨N14, rfl, hN17, hz18, hk16, hg15⟩ h12
 have hz19 := hg15.size
 try dsimp only at h12
 refine pk0 (v := pt N14 0) h12 rfl fun a20 h20 => ?_; clear h12
 refine pl_nil ?_
 refine co_then ?_
 refine co_seq ?_
 refine co_reg ?_
 refine pk0 (v := .agg #[.int .i64 0, .int .i64 0, .slice none 0 0]) h20 rfl fun a21 h21 => ?_; clear h20
 refine pw h21 rfl (op_new (v := fun N => pt N 0) (T := 29) (cs := #[.int .i64 0, .int .i64 0, .slice none 0 0]) (by kernel_rfl) (by kernel_rfl) (by kernel_rfl)) ?_; clear h21
 rintro _ w23 a22 ⟨N24, rfl, hN27, hz28, hk26, hg25⟩ h22
 have hz29 := hg25.size
 try dsimp only at h22
 refine pwD h22 rfl (op_storeN rfl rfl rfl (all_cons rfl (all_cons rfl (all_cons rfl all_nil))) (by kernel_rfl) hk26 rfl) ?_; clear h22
 rintro _ w31 a30 ⟨hk32, hz33, hg34⟩ h30
 have hk32' : Blk w31 N24 29 #[.int .i64 0, .int .i64 0, .slice none 0 0] := hk32; clear hk32
 have hz35 := hg34.size
 refine pl_nil ?_
 refine co_then ?_
 refine co_seq ?_
 refine co_reg ?_
 refine pk0 (v := pt N14 0) h30 rfl fun a36 h36 => ?_; clear h30
 have hk40 := hk16.kept hg25 (by simp)
 have hk41 := hk40.kept hg34 (by simp; omega)
 have ho39 := oxr_of hk41
 refine pw h36 rfl (op_call (args := #[pt N14 0, .int .i64 2]) (R := fun res xw => ∃ (n : Int) (a' e' : Int), res = .int .i64 n ∧ numR s 0 0 2 = (n, a', e') ∧ 0 ≤ n ∧ n ≤ 2 ∧ OXR N14 s a' e' xw ∧ w31.grownBy xw (some N14)) rfl rfl rfl (by kernel_rfl) (by kernel_rfl) (Tryz.call62 _ _) (oxr_num N14 s 0 0 2 w31 ho39 (by omega) (by omega) (by omega)) (by rintro q x ⟨n, a', e', rfl, h0, k0, k1, h1, h2⟩; exact ⟨_, rfl, n, a', e', rfl, h0, k0, k1, h1, h2⟩)) ?_; clear h36
 rintro _ w38 a37 ⟨n42, a43, e44, rfl, hq45, hn46, hm47, ho48, hg49⟩ h37
 have hz50 := hg49.size
 have hl51 := ho48.lt
 refine pk0 (v := pt N24 0) h37 rfl fun a52 h52 => ?_; clear h37
 have hk58 := hk32'.kept hg49 (by simp; omega)
 refine pwD h52 rfl (op_store1 rfl rfl rfl rfl Tryz.sizeOf3 hk58 rfl) ?_; clear h52
 rintro _ w54 a53 ⟨hk55, hz56, hg57⟩ h53
 have hk55' : Blk w54 N24 29 #[.int .i64 n42, .int .i64 0, .slice none 0 0] := hk55; clear hk55
 have hz59 := hg57.size
 refine pl_nil ?_
 refine co_then ?_
 refine co_seq ?_
 refine co_reg ?_
 refine pk0 (v := pt N14 0) h53 rfl fun a60 h60 => ?_; clear h53
 have ho71 := ho48.at (by omega) hg57
 refine pw h60 rfl (op_call (args := #[pt N14 0, .int .i64 1073741824]) (R := fun res xw => ∃ (n : Int) (a' e' : Int), res = .int .i64 n ∧ numR s a43 e44 1073741824 = (n, a', e') ∧ 0 ≤ n ∧ n ≤ 1073741824 ∧ OXR N14 s a' e' xw ∧ w54.grownBy xw (some N14)) rfl rfl rfl (by kernel_rfl) (by kernel_rfl) (Tryz.call62 _ _) (oxr_num N14 s a43 e44 1073741824 w54 ho71 (by omega) (by omega) (by omega)) (by rintro q x ⟨n, a', e', rfl, h0, k0, k1, h1, h2⟩; exact ⟨_, rfl, n, a', e', rfl, h0, k0, k1, h1, h2⟩)) ?_; clear h60
 rintro _ w62 a61 ⟨n63, a64, e65, rfl, hq66, hn67, hm68, ho69, hg70⟩ h61
 have hz72 := hg70.size
 have hl73 := ho69.lt
 refine pk0 (v := pt N24 1) h61 rfl fun a74 h74 => ?_; clear h61
 have hk80 := hk55'.kept hg70 (by simp; omega)
 refine pwD h74 rfl (op_store1 rfl rfl rfl rfl Tryz.sizeOf3 hk80 rfl) ?_; clear h74
 rintro _ w76 a75 ⟨hk77, hz78, hg79⟩ h75
 have hk77' : Blk w76 N24 29 #[.int .i64 n42, .int .i64 n63, .slice none 0 0] := hk77; clear hk77
 have hz81 := hg79.size
 refine pl_nil ?_
 refine co_then ?_
 refine co_seq ?_
 refine co_reg ?_
 refine pk0 (v := pt N14 0) h75 rfl fun a82 h82 => ?_; clear h75
 have ho93 := ho69.at (by omega) hg79
 refine pw h82 rfl (op_call (args := #[pt N14 0, .int .i64 4]) (R := fun res xw => ∃ (n : Int) (a' e' : Int), res = .int .i64 n ∧ numR s a64 e65 4 = (n, a', e') ∧ 0 ≤ n ∧ n ≤ 4 ∧ OXR N14 s a' e' xw ∧ w76.grownBy xw (some N14)) rfl rfl rfl (by kernel_rfl) (by kernel_rfl) (Tryz.call62 _ _) (oxr_num N14 s a64 e65 4 w76 ho93 (by omega) (by omega) (by omega)) (by rintro q x ⟨n, a', e', rfl, h0, k0, k1, h1, h2⟩; exact ⟨_, rfl, n, a', e', rfl, h0, k0, k1, h1, h2⟩)) ?_; clear h82
 rintro _ w84 a83 ⟨n85, a86, e87, rfl, hq88, hn89, hm90, ho91, hg92⟩ h83
 have hz94 := hg92.size
 have hl95 := ho91.lt
 refine pk0 (v := .int .i64 n85) h83 rfl fun a96 h96 => ?_; clear h83
 refine pl_nil ?_
 refine co_then ?_
 refine co_seq ?_
 refine co_seq ?_
 refine co_reg ?_
 refine pk0 (v := .int .i64 0) h96 rfl fun a97 h97 => ?_; clear h96
 refine pl_nil ?_
 refine co_then ?_
 refine wp_block ?_
 have h98 : Slots 57 [(2, pt N3 0), (3, .int .i64 0), (4, pt N14 0), (5, pt N24 0), (6, .int .i64 n85), (7, .int .i64 0)] _ := h97.sub ⟨rfl, rfl, rfl, rfl, rfl, rfl, trivial⟩; clear h97
 refine co_loop (fun mm a x => ∃ (i : Nat) (u : Value) (ls : List OpT) (ps : Int) (er : Int), Slots 57 [(2, pt N3 0), (3, .int .i64 0), (4, pt N14 0), (5, pt N24 0), (6, .int .i64 n85), (7, .int .i64 ((i : Nat) : Int))] a ∧ mm = n85.toNat - i ∧ (((i : Nat) : Int) ≤ n85) ∧ (ls.length = i) ∧ (rdN s i ([], a86, e87) = (ls, ps, er)) ∧ Blk x N24 29 #[.int .i64 n42, .int .i64 n63, u] ∧ OXR N14 s ps er x ∧ x.ownsRow (N24 + 1) 159 3 u ls.length (ls.flatMap opE) ∧ Below w.heap.size w x ∧ Blk x N3 29 #[.int .i64 0, .int .i64 0, .slice none 0 0]) (n85.toNat - 0) ?_ ?_
 have hk99 := hk77'.kept hg92 (by simp; omega)
 have hB100 := hb_new hB0 hg4
 have hB101 := hb_new hB100 hg15
 have hB102 := hb_new hB101 hg25
 have hB103 := hb_at hB102 hg34 (by omega)
 have hB104 := hb_at hB103 hg49 (by omega)
 have hB105 := hb_at hB104 hg57 (by omega)
 have hB106 := hb_at hB105 hg70 (by omega)
 have hB107 := hb_at hB106 hg79 (by omega)
 have hB108 := hb_at hB107 hg92 (by omega)
 have hk109 := hk5.kept hg15 (by simp)
 have hk110 := hk109.kept hg25 (by simp)
 have hk111 := hk110.kept hg34 (by simp; omega)
 have hk112 := hk111.kept hg49 (by simp; omega)
 have hk113 := hk112.kept hg57 (by simp; omega)
 have hk114 := hk113.kept hg70 (by simp; omega)
 have hk115 := hk114.kept hg79 (by simp; omega)
 have hk116 := hk115.kept hg92 (by simp; omega)
 · exact ⟨0, (.slice none 0 0), [], a86, e87, h98.sub ⟨rfl, rfl, rfl, rfl, rfl, (slot_eq rfl (congrArg (Value.int .i64) (by first | rfl | omega))), trivial⟩, rfl, by omega, by first | rfl | (simp; omega), by first | rfl | exact hR', hk99, ho91, (row_nilL _ _ _ _ _), hB108, hk116⟩
 · rintro k117 a118 w119 ⟨i, u, ls, ps, er, h118, rfl, hi120, hi121, hi122, hf123, hf124, hf125, hB126, hk127⟩
   have hz128 := hB126.size
   have hl129 := hk127.lt
   have hl130 := hf123.lt
   have hl131 := hf124.lt
   have hR : rdN s i ([], a86, e87) = (ls, ps, er) := by assumption
   refine co_seq ?_
   refine co_seq ?_
   refine co_reg ?_
   refine pk0 (v := .int .i64 ((i : Nat) : Int)) h118 rfl fun a132 h132 => ?_; clear h118
   refine pk0 (v := .int .i64 n85) h132 rfl fun a133 h133 => ?_; clear h132
   refine pk0 (v := .bool (decide (((i : Nat) : Int) < n85))) h133 rfl fun a134 h134 => ?_; clear h133
   refine pl_nil ?_
   refine co_then ?_
   cases hc135 : (decide (((i : Nat) : Int) < n85))
   ·
    rw [hc135] at h134
    have hp136 : ¬ (((i : Nat) : Int) < n85) := of_decide_eq_false hc135
    clear hc135
    refine co_false h134 rfl ?_
    refine wp_exit ?_
    refine co_thenX ?_
    refine co_thenX ?_
    refine co_blockX ?_
    refine co_then ?_
    refine co_seq ?_
    refine co_seq ?_
    refine co_reg ?_
    refine pk0 (v := pt N14 0) h134 rfl fun a137 h137 => ?_; clear h134
    refine pw h137 rfl (op_call (args := #[pt N14 0]) (R := fun res xw => ∃ r : Int, res = .int .i64 r ∧ endV s ps.toNat er = r ∧ Below w119.heap.size w119 xw) rfl rfl rfl (by kernel_rfl) (by kernel_rfl) (Tryz.call64 _ _) (oxr_end N14 s ps er w119 hf124 (by omega)) (by rintro e x ⟨r, rfl, h0, h2⟩; exact ⟨_, rfl, r, rfl, h0, h2⟩)) ?_; clear h137
    rintro _ w139 a138 ⟨r140, rfl, hq141, hb142⟩ h138
    have hz143 := hb142.size
    refine pk0 (v := .int .i64 r140) h138 rfl fun a144 h144 => ?_; clear h138
    refine pl_nil ?_
    refine co_then ?_
    refine co_seq ?_
    refine co_reg ?_
    refine pk0 (v := .int .i64 r140) h144 rfl fun a145 h145 => ?_; clear h144
    refine pk0 (v := .bool (r140 != 0)) h145 rfl fun a146 h146 => ?_; clear h145
    refine pl_nil ?_
    refine co_then ?_
    have hB148 := hb_call hB126 hb142
    cases hc147 : (r140 != 0)
    ·
     rw [hc147] at h146
     have hp149 : ¬ (r140 ≠ 0) := by first | simpa using hc147 | simpa [and_assoc] using hc147
     clear hc147
     refine co_false h146 rfl ?_
     refine wp_skip ?_
     refine co_then ?_
     refine co_seq ?_
     refine co_seq ?_
     refine co_reg ?_
     have hk150 := hf123.below hb142
     refine pk (v := .agg #[.int .i64 n42, .int .i64 n63, u]) h146 rfl (rn_loadN rfl rfl Tryz.underlying29 rfl (by kernel_rfl) hk150.all) fun a151 h151 => ?_; clear h146
     have hr154 := row_kept_new hf125 (below_grown hb142)
     refine pw h151 rfl (op_call (args := #[.agg #[.int .i64 n42, .int .i64 n63, u]]) (R := fun res xw => res = .int .i64 (chkB n42 n63 ls) ∧ Below w139.heap.size w139 xw) rfl rfl rfl (by kernel_rfl) (by kernel_rfl) (Tryz.call106 _ _) (ropsCheck_any n42 n63 u ls w139 (row_sl hr154 opE_len)) (by rintro e x ⟨rfl, hb155⟩; exact ⟨_, rfl, ⟨rfl, hb155⟩⟩)) ?_; clear h151
     rintro _ w153 a152 ⟨rfl, hb155⟩ h152
     have hz156 := hb155.size
     refine pk0 (v := .int .i64 (chkB n42 n63 ls)) h152 rfl fun a157 h157 => ?_; clear h152
     refine pl_nil ?_
     refine co_then ?_
     refine co_seq ?_
     refine co_reg ?_
     refine pk0 (v := .int .i64 (chkB n42 n63 ls)) h157 rfl fun a158 h158 => ?_; clear h157
     refine pk0 (v := .bool (chkB n42 n63 ls != 0)) h158 rfl fun a159 h159 => ?_; clear h158
     refine pl_nil ?_
     refine co_then ?_
     have hB161 := hb_call hB148 hb155
     have hk162 := hk127.below hb142
     have hk163 := hk162.below hb155
     have ho164 := hf124.below hb142
     have ho165 := ho164.below hb155
     cases hc160 : (chkB n42 n63 ls != 0)
     ·
      rw [hc160] at h159
      have hp166 : ¬ (chkB n42 n63 ls ≠ 0) := by first | simpa using hc160 | simpa [and_assoc] using hc160
      clear hc160
      refine co_false h159 rfl ?_
      refine wp_skip ?_
      refine co_then ?_
      refine co_seq ?_
      refine co_reg ?_
      have hk167 := hk150.below hb155
      refine pk (v := .agg #[.int .i64 n42, .int .i64 n63, u]) h159 rfl (rn_loadN rfl rfl Tryz.underlying29 rfl (by kernel_rfl) hk167.all) fun a168 h168 => ?_; clear h159
      have hr174 := row_kept_new hr154 (below_grown hb155)
      refine pwD h168 rfl (op_storeN rfl rfl rfl (all_cons rfl (all_cons rfl (all_cons (row_one hr174) all_nil))) (by kernel_rfl) hk163 rfl) ?_; clear h168
      rintro _ w170 a169 ⟨hk171, hz172, hg173⟩ h169
      have hk171' : Blk w170 N3 29 #[.int .i64 n42, .int .i64 n63, u] := hk171; clear hk171
      have hz175 := hg173.size
      refine pk0 (v := .int .i64 0) h169 rfl fun a176 h176 => ?_; clear h169
      refine pl_nil ?_
      refine co_then ?_
      refine wp_ret ?_
      refine co_retC1 (Q := fun _ _ _ => True) h176 rfl rfl rfl hk171' Tryz.underlying29 rfl (by kernel_rfl) ?_
      have hr177 := row_kept_at hr174 hg173 (row_ne_lt hr174 (by omega))
      have hB178 := hb_at hB161 hg173 (by omega)
      cases hof.symm.trans ((ofB_at hq45 hq66 hq88 hR (by omega) hq141).trans (ofEnd_c (by assumption) (by assumption)))
      exact ⟨_, rfl, (row_lows hr177 (by omega)), hB178⟩
     ·
      rw [hc160] at h159
      have hp179 : chkB n42 n63 ls ≠ 0 := by first | simpa using hc160 | simpa [and_assoc] using hc160
      clear hc160
      refine co_true h159 rfl ?_
      refine co_seq ?_
      refine co_reg ?_
      refine pk0 (v := .agg #[.int .i64 0, .int .i64 0, .slice none 0 0]) h159 rfl fun a180 h180 => ?_; clear h159
      refine pk0 (v := .int .i64 (chkB n42 n63 ls)) h180 rfl fun a181 h181 => ?_; clear h180
      refine pwD h181 rfl (op_storeN rfl rfl rfl (all_cons rfl (all_cons rfl (all_cons rfl all_nil))) (by kernel_rfl) hk163 rfl) ?_; clear h181
      rintro _ w183 a182 ⟨hk184, hz185, hg186⟩ h182
      have hk184' : Blk w183 N3 29 #[.int .i64 0, .int .i64 0, .slice none 0 0] := hk184; clear hk184
      have hz187 := hg186.size
      refine pk0 (v := .int .i64 (chkB n42 n63 ls)) h182 rfl fun a188 h188 => ?_; clear h182
      refine pl_nil ?_
      refine co_then ?_
      refine wp_ret ?_
      refine co_thenR ?_
      refine co_retC1 (Q := fun _ _ _ => True) h188 rfl rfl rfl hk184' Tryz.underlying29 rfl (by kernel_rfl) ?_
      have hB189 := hb_at hB161 hg186 (by omega)
      cases hof.symm.trans ((ofB_at hq45 hq66 hq88 hR (by omega) hq141).trans (ofEnd_b (by assumption) (by assumption)))
      exact ⟨_, rfl, (row_nilL _ _ _ _ _), hB189⟩
    ·
     rw [hc147] at h146
     have hp190 : r140 ≠ 0 := by first | simpa using hc147 | simpa [and_assoc] using hc147
     clear hc147
     refine co_true h146 rfl ?_
     refine co_seq ?_
     refine co_reg ?_
     refine pk0 (v := .agg #[.int .i64 0, .int .i64 0, .slice none 0 0]) h146 rfl fun a191 h191 => ?_; clear h146
     refine pk0 (v := .int .i64 r140) h191 rfl fun a192 h192 => ?_; clear h191
     have hk198 := hk127.below hb142
     refine pwD h192 rfl (op_storeN rfl rfl rfl (all_cons rfl (all_cons rfl (all_cons rfl all_nil))) (by kernel_rfl) hk198 rfl) ?_; clear h192
     rintro _ w194 a193 ⟨hk195, hz196, hg197⟩ h193
     have hk195' : Blk w194 N3 29 #[.int .i64 0, .int .i64 0, .slice none 0 0] := hk195; clear hk195
     have hz199 := hg197.size
     refine pk0 (v := .int .i64 r140) h193 rfl fun a200 h200 => ?_; clear h193
     refine pl_nil ?_
     refine co_then ?_
     refine wp_ret ?_
     refine co_thenR ?_
     refine co_retC1 (Q := fun _ _ _ => True) h200 rfl rfl rfl hk195' Tryz.underlying29 rfl (by kernel_rfl) ?_
     have hB201 := hb_at hB148 hg197 (by omega)
     cases hof.symm.trans ((ofB_at hq45 hq66 hq88 hR (by omega) hq141).trans (ofEnd_a (by assumption)))
     exact ⟨_, rfl, (row_nilL _ _ _ _ _), hB201⟩
   ·
    rw [hc135] at h134
    have hp202 : ((i : Nat) : Int) < n85 := of_decide_eq_true hc135
    clear hc135
    refine co_true h134 rfl ?_
    refine wp_skip ?_
    refine co_then ?_
    refine co_seq ?_
    refine wp_block ?_
    refine co_seq ?_
    refine co_reg ?_
    refine pk0 (v := .agg #[.string (⟨#[]⟩), .string (⟨#[]⟩), .bool false]) h134 rfl fun a203 h203 => ?_; clear h134
    refine pw h203 rfl (op_new (v := fun N => pt N 0) (T := 159) (cs := #[.string (⟨#[]⟩), .string (⟨#[]⟩), .bool false]) (by kernel_rfl) (by kernel_rfl) (by kernel_rfl)) ?_; clear h203
    rintro _ w205 a204 ⟨N206, rfl, hN209, hz210, hk208, hg207⟩ h204
    have ha211 := row_fresh hf125 hN209
    have hz212 := hg207.size
    try dsimp only at h204
    refine pwD h204 rfl (op_storeN rfl rfl rfl (by kernel_rfl) (by kernel_rfl) hk208 rfl) ?_; clear h204
    rintro _ w214 a213 ⟨hk215, hz216, hg217⟩ h213
    have hk215' : Blk w214 N206 159 #[.string (⟨#[]⟩), .string (⟨#[]⟩), .bool false] := hk215; clear hk215
    have hz218 := hg217.size
    refine pl_nil ?_
    refine co_then ?_
    refine co_seq ?_
    refine co_reg ?_
    refine pk0 (v := pt N14 0) h213 rfl fun a219 h219 => ?_; clear h213
    have ho230 := hf124.new hg207
    have ho231 := ho230.at (by omega) hg217
    refine pw h219 rfl (op_call (args := #[pt N14 0, .int .i64 8]) (R := fun res xw => ∃ (n : ByteArray) (a' e' : Int), res = .string n ∧ textR s ps er 8 = (n, a', e') ∧ (n.size : Int) ≤ 8 ∧ OXR N14 s a' e' xw ∧ w214.grownBy xw (some N14)) rfl rfl rfl (by kernel_rfl) (by kernel_rfl) (Tryz.call130 _ _) (oxr_text N14 s ps er 8 w214 ho231 (by omega) (by omega) (by omega)) (by rintro q x ⟨n, a', e', rfl, h0, k0, h1, h2⟩; exact ⟨_, rfl, n, a', e', rfl, h0, k0, h1, h2⟩)) ?_; clear h219
    rintro _ w221 a220 ⟨n222, a223, e224, rfl, hq225, hn226, ho228, hg229⟩ h220
    have hz232 := hg229.size
    have hl233 := ho228.lt
    refine pk0 (v := pt N206 0) h220 rfl fun a234 h234 => ?_; clear h220
    have hk240 := hk215'.kept hg229 (by simp; omega)
    refine pwD h234 rfl (op_store1 rfl rfl rfl rfl Tryz.sizeOf9 hk240 rfl) ?_; clear h234
    rintro _ w236 a235 ⟨hk237, hz238, hg239⟩ h235
    have hk237' : Blk w236 N206 159 #[.string n222, .string (⟨#[]⟩), .bool false] := hk237; clear hk237
    have hz241 := hg239.size
    refine pl_nil ?_
    refine co_then ?_
    refine co_seq ?_
    refine co_reg ?_
    refine pk0 (v := pt N14 0) h235 rfl fun a242 h242 => ?_; clear h235
    have ho253 := ho228.at (by omega) hg239
    refine pw h242 rfl (op_call (args := #[pt N14 0]) (R := fun res xw => ∃ (n : Bool) (a' e' : Int), res = .bool n ∧ flagR s a223.toNat e224 = (n, a', e') ∧ OXR N14 s a' e' xw ∧ w236.grownBy xw (some N14)) rfl rfl rfl (by kernel_rfl) (by kernel_rfl) (Tryz.call129 _ _) (oxr_flag N14 s a223 e224 w236 ho253 (by omega)) (by rintro q x ⟨n, a', e', rfl, h0, h1, h2⟩; exact ⟨_, rfl, n, a', e', rfl, h0, h1, h2⟩)) ?_; clear h242
    rintro _ w244 a243 ⟨n245, a246, e247, rfl, hq248, ho251, hg252⟩ h243
    have hz254 := hg252.size
    have hl255 := ho251.lt
    refine pk0 (v := pt N206 2) h243 rfl fun a256 h256 => ?_; clear h243
    have hk262 := hk237'.kept hg252 (by simp; omega)
    refine pwD h256 rfl (op_store1 rfl rfl rfl rfl Tryz.sizeOf4 hk262 rfl) ?_; clear h256
    rintro _ w258 a257 ⟨hk259, hz260, hg261⟩ h257
    have hk259' : Blk w258 N206 159 #[.string n222, .string (⟨#[]⟩), .bool n245] := hk259; clear hk259
    have hz263 := hg261.size
    refine pl_nil ?_
    refine co_then ?_
    refine co_seq ?_
    refine co_reg ?_
    refine pk0 (v := pt N14 0) h257 rfl fun a264 h264 => ?_; clear h257
    have ho275 := ho251.at (by omega) hg261
    refine pw h264 rfl (op_call (args := #[pt N14 0, .int .i64 8]) (R := fun res xw => ∃ (n : ByteArray) (a' e' : Int), res = .string n ∧ textR s a246 e247 8 = (n, a', e') ∧ (n.size : Int) ≤ 8 ∧ OXR N14 s a' e' xw ∧ w258.grownBy xw (some N14)) rfl rfl rfl (by kernel_rfl) (by kernel_rfl) (Tryz.call130 _ _) (oxr_text N14 s a246 e247 8 w258 ho275 (by omega) (by omega) (by omega)) (by rintro q x ⟨n, a', e', rfl, h0, k0, h1, h2⟩; exact ⟨_, rfl, n, a', e', rfl, h0, k0, h1, h2⟩)) ?_; clear h264
    rintro _ w266 a265 ⟨n267, a268, e269, rfl, hq270, hn271, ho273, hg274⟩ h265
    have hz276 := hg274.size
    have hl277 := ho273.lt
    refine pk0 (v := pt N206 1) h265 rfl fun a278 h278 => ?_; clear h265
    have hk284 := hk259'.kept hg274 (by simp; omega)
    refine pwD h278 rfl (op_store1 rfl rfl rfl rfl Tryz.sizeOf9 hk284 rfl) ?_; clear h278
    rintro _ w280 a279 ⟨hk281, hz282, hg283⟩ h279
    have hk281' : Blk w280 N206 159 #[.string n222, .string n267, .bool n245] := hk281; clear hk281
    have hz285 := hg283.size
    refine pl_nil ?_
    refine co_then ?_
    refine co_reg ?_
    refine pk0 (v := pt N24 2) h279 rfl fun a286 h286 => ?_; clear h279
    have hk287 := hf123.kept hg207 (by simp)
    have hk288 := hk287.kept hg217 (by simp; omega)
    have hk289 := hk288.kept hg229 (by simp; omega)
    have hk290 := hk289.kept hg239 (by simp; omega)
    have hk291 := hk290.kept hg252 (by simp; omega)
    have hk292 := hk291.kept hg261 (by simp; omega)
    have hk293 := hk292.kept hg274 (by simp; omega)
    have hk294 := hk293.kept hg283 (by simp; omega)
    refine pk (v := u) h286 rfl (rn_load1 rfl rfl Tryz.isAgg27 (hk294.cell rfl)) fun a295 h295 => ?_; clear h286
    refine pk (v := .agg #[.string n222, .string n267, .bool n245]) h295 rfl (rn_loadN rfl rfl Tryz.underlying159 rfl (by kernel_rfl) hk281'.all) fun a296 h296 => ?_; clear h295
    refine pw h296 rfl (op_new (v := fun N => .slice (some ⟨N, 0, none⟩) 1 1) (T := 159) (cs := #[.string n222, .string n267, .bool n245]) (by kernel_rfl) (by kernel_rfl) (by kernel_rfl)) ?_; clear h296
    rintro _ w298 a297 ⟨N299, rfl, hN302, hz303, hk301, hg300⟩ h297
    have hr305 := row_kept_new hf125 hg207
    have hr306 := row_kept_at hr305 hg217 (ha211)
    have hr307 := row_kept_at hr306 hg229 (row_ne_lt hr306 (by omega))
    have hr308 := row_kept_at hr307 hg239 (ha211)
    have hr309 := row_kept_at hr308 hg252 (row_ne_lt hr308 (by omega))
    have hr310 := row_kept_at hr309 hg261 (ha211)
    have hr311 := row_kept_at hr310 hg274 (row_ne_lt hr310 (by omega))
    have hr312 := row_kept_at hr311 hg283 (ha211)
    have ha304 := row_fresh hr312 hN302
    have hz313 := hg300.size
    try dsimp only at h297
    have hr319 := row_kept_new hr312 hg300
    refine pw h297 rfl (op_append rfl (N24 + 1) 159 (z := .agg #[.string (⟨#[]⟩), .string (⟨#[]⟩), .bool false]) (size := 3) (bytes := 40) Tryz.underlying27 (by kernel_rfl) rfl rfl rfl hr319 rfl hk301 rfl (by kernel_rfl) (by first | omega | (simp only [List.length_nil, List.length_append, List.length_cons, List.length_take, List.length_drop]; omega)) (by first | omega | (simp only [List.length_nil, List.length_append, List.length_cons, List.length_take, List.length_drop]; omega)) (by omega)) ?_; clear h297
    rintro v316 w315 a314 ⟨hr317, hg318⟩ h314
    have hr317' : w315.ownsRow (N24 + 1) 159 3 v316 ((ls ++ [(n222, n267, n245)]).length) ((ls ++ [(n222, n267, n245)]).flatMap opE) := row_push (y := (n222, n267, n245)) hr317 rfl rfl; clear hr317
    have hz320 := hg318.size
    refine pk0 (v := pt N24 2) h314 rfl fun a321 h321 => ?_; clear h314
    have hk327 := hk294.kept hg300 (by simp)
    have hk328 := hk327.kept hg318 (row_ne_lt hr319 (by omega))
    refine pwD h321 rfl (op_store1 rfl rfl rfl (row_one hr317') Tryz.sizeOf27 hk328 rfl) ?_; clear h321
    rintro _ w323 a322 ⟨hk324, hz325, hg326⟩ h322
    have hk324' : Blk w323 N24 29 #[.int .i64 n42, .int .i64 n63, v316] := hk324; clear hk324
    have hz329 := hg326.size
    refine pl_nil ?_
    refine co_blockN ?_
    refine co_then ?_
    refine co_reg ?_
    refine pk0 (v := .int .i64 ((i : Nat) : Int)) h322 rfl fun a330 h330 => ?_; clear h322
    refine pk (v := .int .i64 ((i + 1 : Nat) : Int)) h330 rfl (rn_arith' rfl rfl rfl rfl rfl rfl (IntWalk.i64_in _ (by omega)) (by omega)) fun a331 h331 => ?_; clear h330
    refine pk0 (v := .int .i64 ((i + 1 : Nat) : Int)) h331 rfl fun a332 h332 => ?_; clear h331
    refine pl_nil ?_
    refine co_then ?_
    refine ⟨(n85.toNat - (i + 1)), by omega, ?_⟩
    have hR' := rdN_step hR hq225 hq248 hq270
    have ho333 := ho273.at (by omega) hg283
    have ho334 := ho333.new hg300
    have ho335 := ho334.row (row_ne_lt hr319 (by omega)) hg318
    have ho336 := ho335.at (by omega) hg326
    have hr337 := row_kept_at hr317' hg326 (row_ne_lt hr317' (by omega))
    have hB338 := hb_new hB126 hg207
    have hB339 := hb_at hB338 hg217 (by omega)
    have hB340 := hb_at hB339 hg229 (by omega)
    have hB341 := hb_at hB340 hg239 (by omega)
    have hB342 := hb_at hB341 hg252 (by omega)
    have hB343 := hb_at hB342 hg261 (by omega)
    have hB344 := hb_at hB343 hg274 (by omega)
    have hB345 := hb_at hB344 hg283 (by omega)
    have hB346 := hb_new hB345 hg300
    have hB347 := hb_row hB346 hr319 (by omega) hg318
    have hB348 := hb_at hB347 hg326 (by omega)
    have hk349 := hk127.kept hg207 (by simp)
    have hk350 := hk349.kept hg217 (by simp; omega)
    have hk351 := hk350.kept hg229 (by simp; omega)
    have hk352 := hk351.kept hg239 (by simp; omega)
    have hk353 := hk352.kept hg252 (by simp; omega)
    have hk354 := hk353.kept hg261 (by simp; omega)
    have hk355 := hk354.kept hg274 (by simp; omega)
    have hk356 := hk355.kept hg283 (by simp; omega)
    have hk357 := hk356.kept hg300 (by simp)
    have hk358 := hk357.kept hg318 (row_ne_lt hr319 (by omega))
    have hk359 := hk358.kept hg326 (by simp; omega)
    exact ⟨i + 1, v316, ls ++ [(n222, n267, n245)], a268, e269, h332.sub ⟨rfl, rfl, rfl, rfl, rfl, rfl, trivial⟩, rfl, by omega, by first | rfl | (simp; omega), by first | rfl | exact hR', hk324', ho336, (row_eq hr337 (rfl)), hB348, hk359⟩
end Go.Proofs.YteioaaegooebpaaGreat
