/- Package ops: Of of both. Conditions: none. -/
import Derived.Test.YteioaaegooebpaaOpsB
namespace Go.Proofs.Yteioaaegooebpaa
open Go.RowKit Go.PlainAid
set_option linter.unusedVariables false


/-- What Of reads: one operation more, n of them; a batch. -/
def rdStep (s : ByteArray) (q : List OpT × Int × Int) : List OpT × Int × Int :=
  let t := textR s q.2.1 q.2.2 8
  let f := flagR s t.2.1.toNat t.2.2
  let u := textR s f.2.1 f.2.2 8
  (q.1 ++ [(t.1, u.1, f.1)], u.2.1, u.2.2)
def rdN (s : ByteArray) : Nat → List OpT × Int × Int → List OpT × Int × Int
  | 0, q => q
  | n + 1, q => rdStep s (rdN s n q)
theorem rdN_step {s : ByteArray} {i : Nat} {q0 : List OpT × Int × Int} {l : List OpT} {a e a1 e1 a2 e2 a3 e3 : Int} {k t : ByteArray} {f : Bool} (h : rdN s i q0 = (l, a, e)) (h1 : textR s a e 8 = (k, a1, e1)) (h2 : flagR s a1.toNat e1 = (f, a2, e2)) (h3 : textR s a2 e2 8 = (t, a3, e3)) :
    rdN s (i + 1) q0 = (l ++ [(k, t, f)], a3, e3) := by
  show rdStep s (rdN s i q0) = _
  rw [h]; simp only [rdStep, h1, h2, h3]
def ofEnd (c r : Int) (l : List OpT) (x : Int) : (Int × Int × List OpT) × Int :=
  if x ≠ 0 then ((0, 0, []), x) else if chkB c r l ≠ 0 then ((0, 0, []), chkB c r l) else ((c, r, l), 0)
def ofB (s : ByteArray) : (Int × Int × List OpT) × Int :=
  let c := numR s 0 0 2
  let r := numR s c.2.1 c.2.2 1073741824
  let n := numR s r.2.1 r.2.2 4
  let q := rdN s n.1.toNat ([], n.2.1, n.2.2)
  ofEnd c.1 r.1 q.1 (endV s q.2.1.toNat q.2.2)
theorem ofB_at {s : ByteArray} {c r n x a1 e1 a2 e2 a3 e3 a4 e4 : Int} {l : List OpT} {i : Nat} (h1 : numR s 0 0 2 = (c, a1, e1)) (h2 : numR s a1 e1 1073741824 = (r, a2, e2)) (h3 : numR s a2 e2 4 = (n, a3, e3)) (h4 : rdN s i ([], a3, e3) = (l, a4, e4)) (hi : i = n.toNat) (h5 : endV s a4.toNat e4 = x) : ofB s = ofEnd c r l x := by
  subst hi; simp only [ofB, h1, h2, h3, h4, h5]
theorem ofEnd_a {c r x : Int} {l : List OpT} (h : x ≠ 0) : ofEnd c r l x = ((0, 0, []), x) := by unfold ofEnd; rw [if_pos h]
theorem ofEnd_b {c r x : Int} {l : List OpT} (h : ¬ x ≠ 0) (h1 : chkB c r l ≠ 0) : ofEnd c r l x = ((0, 0, []), chkB c r l) := by unfold ofEnd; rw [if_neg h, if_pos h1]
theorem ofEnd_c {c r x : Int} {l : List OpT} (h : ¬ x ≠ 0) (h1 : ¬ chkB c r l ≠ 0) : ofEnd c r l x = ((c, r, l), 0) := by unfold ofEnd; rw [if_neg h, if_neg h1]

set_option maxRecDepth 100000 in
theorem opsOf_any (s : ByteArray) (c : Int) (r : Int) (l : List OpT) (x : Int) (w : World) (hsz : s.size ≤ 9223372036854775807) (hof : ofB s = ((c, r, l), x)) :
    Calls Try.prog 72 #[.string s] w fun e w' => ∃ (u : Value), e = .returned (.tuple #[.agg #[.int .i64 c, .int .i64 r, u], .int .i64 x]) ∧ w'.ownsRow w.heap.size 86 3 u l.length (l.flatMap opE) ∧ Below w.heap.size w w' := by
  have hB0 := Below.refl w.heap.size w
  refine co_enter (n := 45) Try.func72 rfl rfl rfl [(0, .string s)] rfl (fun a h0 => ?_)
  refine co_seq ?_
  refine co_reg ?_
  refine pl_want h0 rfl rfl rfl (op_new (v := fun N => .pointer (some ⟨N, 0, none⟩)) (T := 31) (cs := #[.int .i64 0, .int .i64 0, .slice none 0 0]) (by kernel_rfl) (by kernel_rfl) (by kernel_rfl)) ?_; clear h0
  rintro _ w2 a1 ⟨N3, rfl, hN6, hz7, hk5, hg4⟩ h1
  have hB8 := hb_new hB0 hg4
  have hz9 := hB8.size
  have hz10 := hg4.size
  try dsimp only at h1
  refine pl_val (v := .int .i64 0) h1 rfl rfl rfl (by kernel_rfl) (by kernel_rfl) (by kernel_rfl) (fun a11 h11 => ?_); clear h1
  refine pl_nil ?_
  refine co_then ?_
  refine co_seq ?_
  refine co_reg ?_
  refine pl_val (v := .string s) h11 rfl rfl rfl (by kernel_rfl) (by kernel_rfl) (by kernel_rfl) (fun a12 h12 => ?_); clear h11
  refine pl_want h12 rfl rfl rfl (op_call (args := #[.string s]) (R := fun res xw => ∃ b : Nat, res = .pointer (some ⟨b, 0, none⟩) ∧ b = w2.heap.size ∧ OR b s 0 0 xw ∧ Below w2.heap.size w2 xw) rfl rfl rfl (by kernel_rfl) (by kernel_rfl) (Try.call68 _ _) (or_open s w2) (by rintro e x ⟨b, rfl, h0, h1, h2⟩; exact ⟨_, rfl, b, rfl, h0, h1, h2⟩)) ?_; clear h12
  rintro _ w14 a13 ⟨b15, rfl, hN16, ho17, hb18⟩ h13
  have hB19 := hb_call hB8 hb18
  have hz20 := hB19.size
  have hz21 := hb18.size
  have hk22 := hk5.below hb18
  have hl23 := ho17.lt
  refine pl_val (v := .pointer (some ⟨b15, 0, none⟩)) h13 rfl rfl rfl (by kernel_rfl) (by kernel_rfl) (by kernel_rfl) (fun a24 h24 => ?_); clear h13
  refine pl_nil ?_
  refine co_then ?_
  refine co_seq ?_
  refine co_reg ?_
  refine pl_val (v := .pointer (some ⟨b15, 0, none⟩)) h24 rfl rfl rfl (by kernel_rfl) (by kernel_rfl) (by kernel_rfl) (fun a25 h25 => ?_); clear h24
  refine pl_want h25 rfl rfl rfl (op_call (args := #[.pointer (some ⟨b15, 0, none⟩), .int .i64 2]) (R := fun res xw => ∃ (n : Int) (a' e' : Int), res = .int .i64 n ∧ numR s 0 0 2 = (n, a', e') ∧ 0 ≤ n ∧ n ≤ 2 ∧ OR b15 s a' e' xw ∧ w14.grownBy xw (some b15)) rfl rfl rfl (by kernel_rfl) (by kernel_rfl) (Try.call81 _ _) (or_num b15 s 0 0 2 w14 ho17 (by omega) (by omega) (by omega)) (by rintro q x ⟨n, a', e', rfl, h0, k0, k1, h1, h2⟩; exact ⟨_, rfl, n, a', e', rfl, h0, k0, k1, h1, h2⟩)) ?_; clear h25
  rintro _ w27 a26 ⟨n28, a29, e30, rfl, hq31, hn32, hm33, ho34, hg35⟩ h26
  have hB36 := hb_at hB19 hg35 (by omega)
  have hz37 := hB36.size
  have hz38 := hg35.size
  have hk39 := hk22.kept hg35 (by simp; omega)
  have hl40 := ho34.lt
  refine pl_val (v := .pointer (some ⟨b15, 0, none⟩)) h26 rfl rfl rfl (by kernel_rfl) (by kernel_rfl) (by kernel_rfl) (fun a41 h41 => ?_); clear h26
  refine pl_want h41 rfl rfl rfl (op_call (args := #[.pointer (some ⟨b15, 0, none⟩), .int .i64 1073741824]) (R := fun res xw => ∃ (n : Int) (a' e' : Int), res = .int .i64 n ∧ numR s a29 e30 1073741824 = (n, a', e') ∧ 0 ≤ n ∧ n ≤ 1073741824 ∧ OR b15 s a' e' xw ∧ w27.grownBy xw (some b15)) rfl rfl rfl (by kernel_rfl) (by kernel_rfl) (Try.call81 _ _) (or_num b15 s a29 e30 1073741824 w27 ho34 (by omega) (by omega) (by omega)) (by rintro q x ⟨n, a', e', rfl, h0, k0, k1, h1, h2⟩; exact ⟨_, rfl, n, a', e', rfl, h0, k0, k1, h1, h2⟩)) ?_; clear h41
  rintro _ w43 a42 ⟨n44, a45, e46, rfl, hq47, hn48, hm49, ho50, hg51⟩ h42
  have hB52 := hb_at hB36 hg51 (by omega)
  have hz53 := hB52.size
  have hz54 := hg51.size
  have hk55 := hk39.kept hg51 (by simp; omega)
  have hl56 := ho50.lt
  refine pl_val (v := .agg #[.int .i64 n28, .int .i64 n44, .slice none 0 0]) h42 rfl rfl rfl (by kernel_rfl) (by kernel_rfl) (by kernel_rfl) (fun a57 h57 => ?_); clear h42
  refine pl_want h57 rfl rfl rfl (op_new (v := fun N => .pointer (some ⟨N, 0, none⟩)) (T := 31) (cs := #[.int .i64 0, .int .i64 0, .slice none 0 0]) (by kernel_rfl) (by kernel_rfl) (by kernel_rfl)) ?_; clear h57
  rintro _ w59 a58 ⟨N60, rfl, hN63, hz64, hk62, hg61⟩ h58
  have hB65 := hb_new hB52 hg61
  have hz66 := hB65.size
  have hz67 := hg61.size
  have hk68 := hk55.kept hg61 (by simp)
  have ho69 := ho50.new hg61
  try dsimp only at h58
  refine pl_doW h58 rfl rfl (op_storeN rfl rfl rfl (all_cons rfl (all_cons rfl (all_cons rfl all_nil))) (by kernel_rfl) hk62 rfl) ?_; clear h58
  rintro _ w71 a70 ⟨hk72, hz73, hg74⟩ h70
  have hk72' : Blk w71 N60 31 #[.int .i64 n28, .int .i64 n44, .slice none 0 0] := hk72; clear hk72
  have hB75 := hb_at hB65 hg74 (by omega)
  have hz76 := hB75.size
  have hz77 := hg74.size
  have hk78 := hk68.kept hg74 (by simp; omega)
  have ho79 := ho69.at (by omega) hg74
  refine pl_nil ?_
  refine co_then ?_
  refine co_seq ?_
  refine co_seq ?_
  refine co_reg ?_
  refine pl_val (v := .pointer (some ⟨b15, 0, none⟩)) h70 rfl rfl rfl (by kernel_rfl) (by kernel_rfl) (by kernel_rfl) (fun a80 h80 => ?_); clear h70
  refine pl_want h80 rfl rfl rfl (op_call (args := #[.pointer (some ⟨b15, 0, none⟩), .int .i64 4]) (R := fun res xw => ∃ (n : Int) (a' e' : Int), res = .int .i64 n ∧ numR s a45 e46 4 = (n, a', e') ∧ 0 ≤ n ∧ n ≤ 4 ∧ OR b15 s a' e' xw ∧ w71.grownBy xw (some b15)) rfl rfl rfl (by kernel_rfl) (by kernel_rfl) (Try.call81 _ _) (or_num b15 s a45 e46 4 w71 ho79 (by omega) (by omega) (by omega)) (by rintro q x ⟨n, a', e', rfl, h0, k0, k1, h1, h2⟩; exact ⟨_, rfl, n, a', e', rfl, h0, k0, k1, h1, h2⟩)) ?_; clear h80
  rintro _ w82 a81 ⟨n83, a84, e85, rfl, hq86, hn87, hm88, ho89, hg90⟩ h81
  have hB91 := hb_at hB75 hg90 (by omega)
  have hz92 := hB91.size
  have hz93 := hg90.size
  have hk94 := hk78.kept hg90 (by simp; omega)
  have hk95 := hk72'.kept hg90 (by simp; omega)
  have hl96 := ho89.lt
  refine pl_val (v := .int .i64 0) h81 rfl rfl rfl (by kernel_rfl) (by kernel_rfl) (by kernel_rfl) (fun a97 h97 => ?_); clear h81
  refine pl_nil ?_
  refine co_then ?_
  refine wp_block ?_
  have h98 : Slots 45 [(2, .pointer (some ⟨N3, 0, none⟩)), (3, .int .i64 0), (4, .pointer (some ⟨b15, 0, none⟩)), (5, .pointer (some ⟨N60, 0, none⟩)), (16, .int .i64 n83), (17, .int .i64 0)] _ := h97.sub ⟨rfl, rfl, rfl, rfl, rfl, rfl, trivial⟩; clear h97
  refine co_loop (fun mm a x => ∃ (i : Nat) (u : Value) (ls : List OpT) (ps : Int) (er : Int), Slots 45 [(2, .pointer (some ⟨N3, 0, none⟩)), (3, .int .i64 0), (4, .pointer (some ⟨b15, 0, none⟩)), (5, .pointer (some ⟨N60, 0, none⟩)), (16, .int .i64 n83), (17, .int .i64 ((i : Nat) : Int))] a ∧ mm = n83.toNat - i ∧ (((i : Nat) : Int) ≤ n83) ∧ (ls.length = i) ∧ (rdN s i ([], a84, e85) = (ls, ps, er)) ∧ Blk x N60 31 #[.int .i64 n28, .int .i64 n44, u] ∧ OR b15 s ps er x ∧ x.ownsRow (N60 + 1) 86 3 u ls.length (ls.flatMap opE) ∧ Below w.heap.size w x ∧ Blk x N3 31 #[.int .i64 0, .int .i64 0, .slice none 0 0]) (n83.toNat - 0) ?_ ?_
  · exact ⟨0, (.slice none 0 0), [], a84, e85, h98.sub ⟨rfl, rfl, rfl, rfl, rfl, (slot_eq rfl (congrArg (Value.int .i64) (by first | rfl | omega))), trivial⟩, rfl, by omega, by first | rfl | (simp; omega), by first | rfl | exact hR', hk95, ho89, (row_nilL _ _ _ _ _), hB91, hk94⟩
  · rintro k99 a100 w101 ⟨i, u, ls, ps, er, h100, rfl, hi102, hi103, hi104, hf105, hf106, hf107, hB108, hk109⟩
    have hz110 := hB108.size
    have hl111 := hk109.lt
    have hl112 := hf105.lt
    have hl113 := hf106.lt
    have hR : rdN s i ([], a84, e85) = (ls, ps, er) := by assumption
    refine co_seq ?_
    refine co_reg ?_
    refine pl_val (v := .bool (decide (((i : Nat) : Int) < n83))) h100 rfl rfl rfl (by kernel_rfl) (by kernel_rfl) (by kernel_rfl) (fun a114 h114 => ?_); clear h100
    refine pl_nil ?_
    refine co_then ?_
    refine co_seq ?_
    cases hc115 : (decide (((i : Nat) : Int) < n83))
    ·
      rw [hc115] at h114
      have hp116 : ¬ (((i : Nat) : Int) < n83) := of_decide_eq_false hc115
      clear hc115
      refine co_false h114 rfl ?_
      refine wp_exit ?_
      refine co_thenX ?_
      refine co_thenX ?_
      refine co_blockX ?_
      refine co_then ?_
      refine co_seq ?_
      refine co_seq ?_
      refine co_reg ?_
      refine pl_val (v := .pointer (some ⟨b15, 0, none⟩)) h114 rfl rfl rfl (by kernel_rfl) (by kernel_rfl) (by kernel_rfl) (fun a117 h117 => ?_); clear h114
      refine pl_want h117 rfl rfl rfl (op_call (args := #[.pointer (some ⟨b15, 0, none⟩)]) (R := fun res xw => ∃ r : Int, res = .int .i64 r ∧ endV s ps.toNat er = r ∧ Below w101.heap.size w101 xw) rfl rfl rfl (by kernel_rfl) (by kernel_rfl) (Try.call71 _ _) (or_end b15 s ps er w101 hf106 (by omega)) (by rintro e x ⟨r, rfl, h0, h2⟩; exact ⟨_, rfl, r, rfl, h0, h2⟩)) ?_; clear h117
      rintro _ w119 a118 ⟨r120, rfl, hq121, hb122⟩ h118
      have hB123 := hb_call hB108 hb122
      have hz124 := hB123.size
      have hz125 := hb122.size
      have hk126 := hk109.below hb122
      have hk127 := hf105.below hb122
      have ho128 := hf106.below hb122
      have hr129 := row_kept_new hf107 (below_grown hb122)
      refine pl_val (v := .int .i64 r120) h118 rfl rfl rfl (by kernel_rfl) (by kernel_rfl) (by kernel_rfl) (fun a130 h130 => ?_); clear h118
      refine pl_nil ?_
      refine co_then ?_
      refine co_seq ?_
      refine co_reg ?_
      refine pl_val (v := .int .i64 r120) h130 rfl rfl rfl (by kernel_rfl) (by kernel_rfl) (by kernel_rfl) (fun a131 h131 => ?_); clear h130
      refine pl_val (v := .bool (r120 != 0)) h131 rfl rfl rfl (by kernel_rfl) (by kernel_rfl) (by kernel_rfl) (fun a132 h132 => ?_); clear h131
      refine pl_nil ?_
      refine co_then ?_
      cases hc133 : (r120 != 0)
      ·
        rw [hc133] at h132
        have hp134 : ¬ (r120 ≠ 0) := by first | simpa using hc133 | simpa [and_assoc] using hc133
        clear hc133
        refine co_false h132 rfl ?_
        refine wp_skip ?_
        refine co_then ?_
        refine co_seq ?_
        refine co_seq ?_
        refine co_reg ?_
        refine pl_val (v := .agg #[.int .i64 n28, .int .i64 n44, u]) h132 rfl rfl rfl (by kernel_rfl) (by kernel_rfl) (rn_loadN rfl rfl Try.underlying31 rfl (by kernel_rfl) hk127.all) (fun a135 h135 => ?_); clear h132
        refine pl_want h135 rfl rfl rfl (op_call (args := #[.agg #[.int .i64 n28, .int .i64 n44, u]]) (R := fun res xw => res = .int .i64 (chkB n28 n44 ls) ∧ Below w119.heap.size w119 xw) rfl rfl rfl (by kernel_rfl) (by kernel_rfl) (Try.call63 _ _) (opsCheck_any n28 n44 u ls w119 (row_sl hr129 opE_len)) (by rintro e x ⟨rfl, hb138⟩; exact ⟨_, rfl, ⟨rfl, hb138⟩⟩)) ?_; clear h135
        rintro _ w137 a136 ⟨rfl, hb138⟩ h136
        have hB139 := hb_call hB123 hb138
        have hz140 := hB139.size
        have hz141 := hb138.size
        have hk142 := hk126.below hb138
        have hk143 := hk127.below hb138
        have ho144 := ho128.below hb138
        have hr145 := row_kept_new hr129 (below_grown hb138)
        refine pl_val (v := .int .i64 (chkB n28 n44 ls)) h136 rfl rfl rfl (by kernel_rfl) (by kernel_rfl) (by kernel_rfl) (fun a146 h146 => ?_); clear h136
        refine pl_nil ?_
        refine co_then ?_
        refine co_seq ?_
        refine co_reg ?_
        refine pl_val (v := .int .i64 (chkB n28 n44 ls)) h146 rfl rfl rfl (by kernel_rfl) (by kernel_rfl) (by kernel_rfl) (fun a147 h147 => ?_); clear h146
        refine pl_val (v := .bool (chkB n28 n44 ls != 0)) h147 rfl rfl rfl (by kernel_rfl) (by kernel_rfl) (by kernel_rfl) (fun a148 h148 => ?_); clear h147
        refine pl_nil ?_
        refine co_then ?_
        cases hc149 : (chkB n28 n44 ls != 0)
        ·
          rw [hc149] at h148
          have hp150 : ¬ (chkB n28 n44 ls ≠ 0) := by first | simpa using hc149 | simpa [and_assoc] using hc149
          clear hc149
          refine co_false h148 rfl ?_
          refine wp_skip ?_
          refine co_then ?_
          refine co_seq ?_
          refine co_reg ?_
          refine pl_val (v := .agg #[.int .i64 n28, .int .i64 n44, u]) h148 rfl rfl rfl (by kernel_rfl) (by kernel_rfl) (rn_loadN rfl rfl Try.underlying31 rfl (by kernel_rfl) hk143.all) (fun a151 h151 => ?_); clear h148
          refine pl_doW h151 rfl rfl (op_storeN rfl rfl rfl (all_cons rfl (all_cons rfl (all_cons (row_one hr145) all_nil))) (by kernel_rfl) hk142 rfl) ?_; clear h151
          rintro _ w153 a152 ⟨hk154, hz155, hg156⟩ h152
          have hk154' : Blk w153 N3 31 #[.int .i64 n28, .int .i64 n44, u] := hk154; clear hk154
          have hB157 := hb_at hB139 hg156 (by omega)
          have hz158 := hB157.size
          have hz159 := hg156.size
          have hk160 := hk143.kept hg156 (by simp; omega)
          have ho161 := ho144.at (by omega) hg156
          have hr162 := row_kept_at hr145 hg156 (row_ne_lt hr145 (by omega))
          refine pl_val (v := .int .i64 0) h152 rfl rfl rfl (by kernel_rfl) (by kernel_rfl) (by kernel_rfl) (fun a163 h163 => ?_); clear h152
          refine pl_nil ?_
          refine co_then ?_
          refine wp_ret ?_
          refine co_retC1 (Q := fun _ _ _ => True) h163 rfl rfl rfl hk154' Try.underlying31 rfl (by kernel_rfl) ?_
          cases hof.symm.trans ((ofB_at hq31 hq47 hq86 hR (by omega) hq121).trans (ofEnd_c (by assumption) (by assumption)))
          exact ⟨_, rfl, (row_lows hr162 (by omega)), hB157⟩
        ·
          rw [hc149] at h148
          have hp164 : chkB n28 n44 ls ≠ 0 := by first | simpa using hc149 | simpa [and_assoc] using hc149
          clear hc149
          refine co_true h148 rfl ?_
          refine co_seq ?_
          refine co_reg ?_
          refine pl_val (v := .agg #[.int .i64 0, .int .i64 0, .slice none 0 0]) h148 rfl rfl rfl (by kernel_rfl) (by kernel_rfl) (by kernel_rfl) (fun a165 h165 => ?_); clear h148
          refine pl_val (v := .int .i64 (chkB n28 n44 ls)) h165 rfl rfl rfl (by kernel_rfl) (by kernel_rfl) (by kernel_rfl) (fun a166 h166 => ?_); clear h165
          refine pl_doW h166 rfl rfl (op_storeN rfl rfl rfl (all_cons rfl (all_cons rfl (all_cons rfl all_nil))) (by kernel_rfl) hk142 rfl) ?_; clear h166
          rintro _ w168 a167 ⟨hk169, hz170, hg171⟩ h167
          have hk169' : Blk w168 N3 31 #[.int .i64 0, .int .i64 0, .slice none 0 0] := hk169; clear hk169
          have hB172 := hb_at hB139 hg171 (by omega)
          have hz173 := hB172.size
          have hz174 := hg171.size
          have hk175 := hk143.kept hg171 (by simp; omega)
          have ho176 := ho144.at (by omega) hg171
          have hr177 := row_kept_at hr145 hg171 (row_ne_lt hr145 (by omega))
          refine pl_val (v := .int .i64 (chkB n28 n44 ls)) h167 rfl rfl rfl (by kernel_rfl) (by kernel_rfl) (by kernel_rfl) (fun a178 h178 => ?_); clear h167
          refine pl_nil ?_
          refine co_then ?_
          refine wp_ret ?_
          refine co_thenR ?_
          refine co_retC1 (Q := fun _ _ _ => True) h178 rfl rfl rfl hk169' Try.underlying31 rfl (by kernel_rfl) ?_
          cases hof.symm.trans ((ofB_at hq31 hq47 hq86 hR (by omega) hq121).trans (ofEnd_b (by assumption) (by assumption)))
          exact ⟨_, rfl, (row_nilL _ _ _ _ _), hB172⟩
      ·
        rw [hc133] at h132
        have hp179 : r120 ≠ 0 := by first | simpa using hc133 | simpa [and_assoc] using hc133
        clear hc133
        refine co_true h132 rfl ?_
        refine co_seq ?_
        refine co_reg ?_
        refine pl_val (v := .agg #[.int .i64 0, .int .i64 0, .slice none 0 0]) h132 rfl rfl rfl (by kernel_rfl) (by kernel_rfl) (by kernel_rfl) (fun a180 h180 => ?_); clear h132
        refine pl_val (v := .int .i64 r120) h180 rfl rfl rfl (by kernel_rfl) (by kernel_rfl) (by kernel_rfl) (fun a181 h181 => ?_); clear h180
        refine pl_doW h181 rfl rfl (op_storeN rfl rfl rfl (all_cons rfl (all_cons rfl (all_cons rfl all_nil))) (by kernel_rfl) hk126 rfl) ?_; clear h181
        rintro _ w183 a182 ⟨hk184, hz185, hg186⟩ h182
        have hk184' : Blk w183 N3 31 #[.int .i64 0, .int .i64 0, .slice none 0 0] := hk184; clear hk184
        have hB187 := hb_at hB123 hg186 (by omega)
        have hz188 := hB187.size
        have hz189 := hg186.size
        have hk190 := hk127.kept hg186 (by simp; omega)
        have ho191 := ho128.at (by omega) hg186
        have hr192 := row_kept_at hr129 hg186 (row_ne_lt hr129 (by omega))
        refine pl_val (v := .int .i64 r120) h182 rfl rfl rfl (by kernel_rfl) (by kernel_rfl) (by kernel_rfl) (fun a193 h193 => ?_); clear h182
        refine pl_nil ?_
        refine co_then ?_
        refine wp_ret ?_
        refine co_thenR ?_
        refine co_retC1 (Q := fun _ _ _ => True) h193 rfl rfl rfl hk184' Try.underlying31 rfl (by kernel_rfl) ?_
        cases hof.symm.trans ((ofB_at hq31 hq47 hq86 hR (by omega) hq121).trans (ofEnd_a (by assumption)))
        exact ⟨_, rfl, (row_nilL _ _ _ _ _), hB187⟩
    ·
      rw [hc115] at h114
      have hp194 : ((i : Nat) : Int) < n83 := of_decide_eq_true hc115
      clear hc115
      refine co_true h114 rfl ?_
      refine wp_skip ?_
      refine co_then ?_
      refine co_seq ?_
      refine wp_block ?_
      refine dr_gen (fun x => Below w.heap.size w x) (by kernel_rfl) (fun w195 hg196 => ?_) (fun w195 hg196 => ?_)
      ·
        have hB197 := hb_new hB108 hg196
        have hz198 := hB197.size
        have hz199 := hg196.size
        have hk200 := hk109.kept hg196 (by simp)
        have hk201 := hf105.kept hg196 (by simp)
        have ho202 := hf106.new hg196
        have hr203 := row_kept_new hf107 hg196
        exact hB197
      have hB204 := hb_new hB108 hg196
      have hz205 := hB204.size
      have hz206 := hg196.size
      have hk207 := hk109.kept hg196 (by simp)
      have hk208 := hf105.kept hg196 (by simp)
      have ho209 := hf106.new hg196
      have hr210 := row_kept_new hf107 hg196
      refine dr_take (i := 0) (v := .pointer (some ⟨N60, 2, none⟩)) h114 rfl (by kernel_rfl) (by kernel_rfl) (by kernel_rfl) rfl rfl rfl hB204 (by kernel_rfl) (fun _ _ => by kernel_rfl) (fun a211 h211 => ?_); clear h114
      refine dr_take (i := 2) (v := .pointer (some ⟨b15, 0, none⟩)) h211 rfl (by kernel_rfl) (by kernel_rfl) (by kernel_rfl) rfl rfl rfl hB204 (by kernel_rfl) (fun _ _ => by kernel_rfl) (fun a212 h212 => ?_); clear h211
      refine dr_take (i := 4) (v := .pointer (some ⟨b15, 0, none⟩)) h212 rfl (by kernel_rfl) (by kernel_rfl) (by kernel_rfl) rfl rfl rfl hB204 (by kernel_rfl) (fun _ _ => by kernel_rfl) (fun a213 h213 => ?_); clear h212
      refine dr_take (i := 6) (v := .pointer (some ⟨b15, 0, none⟩)) h213 rfl (by kernel_rfl) (by kernel_rfl) (by kernel_rfl) rfl rfl rfl hB204 (by kernel_rfl) (fun _ _ => by kernel_rfl) (fun a214 h214 => ?_); clear h213
      refine dr_many [1, 3] (by kernel_rfl) (by simp) ⟨?_, ?_, trivial⟩
      ·
        refine dr_opVal (i := 1) (v := u) h214 rfl rfl rfl rfl (by kernel_rfl) rfl (rn_load1 rfl rfl Try.isAgg23 (hk208.cell rfl)) hB204 (fun a215 h215 => ?_); clear h214
        refine dr_one (i := 3) h215 rfl (by kernel_rfl) rfl rfl rfl (op_call (args := #[.pointer (some ⟨b15, 0, none⟩), .int .i64 8]) (R := fun res xw => ∃ (n : ByteArray) (a' e' : Int), res = .string n ∧ textR s ps er 8 = (n, a', e') ∧ (n.size : Int) ≤ 8 ∧ OR b15 s a' e' xw ∧ w195.grownBy xw (some b15)) rfl rfl rfl (by kernel_rfl) (by kernel_rfl) (Try.call70 _ _) (or_text b15 s ps er 8 w195 ho209 (by omega) (by omega) (by omega)) (by rintro q x ⟨n, a', e', rfl, h0, k0, h1, h2⟩; exact ⟨_, rfl, n, a', e', rfl, h0, k0, h1, h2⟩)) ?_ ?_; clear h215
        ·
          rintro _ w217 ⟨n218, a219, e220, rfl, hq221, hn222, ho224, hg225⟩
          have hB226 := hb_at hB204 hg225 (by omega)
          have hz227 := hB226.size
          have hz228 := hg225.size
          have hk229 := hk207.kept hg225 (by simp; omega)
          have hk230 := hk208.kept hg225 (by simp; omega)
          have hr231 := row_kept_at hr210 hg225 (row_ne_lt hr210 (by omega))
          have hl232 := ho224.lt
          exact hB226
        rintro _ w217 a216 ⟨n218, a219, e220, rfl, hq221, hn222, ho224, hg225⟩ h216
        have hB226 := hb_at hB204 hg225 (by omega)
        have hz227 := hB226.size
        have hz228 := hg225.size
        have hk229 := hk207.kept hg225 (by simp; omega)
        have hk230 := hk208.kept hg225 (by simp; omega)
        have hr231 := row_kept_at hr210 hg225 (row_ne_lt hr210 (by omega))
        have hl232 := ho224.lt
        refine dr_one (i := 5) h216 rfl (by kernel_rfl) rfl rfl rfl (op_call (args := #[.pointer (some ⟨b15, 0, none⟩)]) (R := fun res xw => ∃ (n : Bool) (a' e' : Int), res = .bool n ∧ flagR s a219.toNat e220 = (n, a', e') ∧ OR b15 s a' e' xw ∧ w217.grownBy xw (some b15)) rfl rfl rfl (by kernel_rfl) (by kernel_rfl) (Try.call118 _ _) (or_flag b15 s a219 e220 w217 ho224 (by omega)) (by rintro q x ⟨n, a', e', rfl, h0, h1, h2⟩; exact ⟨_, rfl, n, a', e', rfl, h0, h1, h2⟩)) ?_ ?_; clear h216
        ·
          rintro _ w234 ⟨n235, a236, e237, rfl, hq238, ho241, hg242⟩
          have hB243 := hb_at hB226 hg242 (by omega)
          have hz244 := hB243.size
          have hz245 := hg242.size
          have hk246 := hk229.kept hg242 (by simp; omega)
          have hk247 := hk230.kept hg242 (by simp; omega)
          have hr248 := row_kept_at hr231 hg242 (row_ne_lt hr231 (by omega))
          have hl249 := ho241.lt
          exact hB243
        rintro _ w234 a233 ⟨n235, a236, e237, rfl, hq238, ho241, hg242⟩ h233
        have hB243 := hb_at hB226 hg242 (by omega)
        have hz244 := hB243.size
        have hz245 := hg242.size
        have hk246 := hk229.kept hg242 (by simp; omega)
        have hk247 := hk230.kept hg242 (by simp; omega)
        have hr248 := row_kept_at hr231 hg242 (row_ne_lt hr231 (by omega))
        have hl249 := ho241.lt
        refine dr_one (i := 7) h233 rfl (by kernel_rfl) rfl rfl rfl (op_call (args := #[.pointer (some ⟨b15, 0, none⟩), .int .i64 8]) (R := fun res xw => ∃ (n : ByteArray) (a' e' : Int), res = .string n ∧ textR s a236 e237 8 = (n, a', e') ∧ (n.size : Int) ≤ 8 ∧ OR b15 s a' e' xw ∧ w234.grownBy xw (some b15)) rfl rfl rfl (by kernel_rfl) (by kernel_rfl) (Try.call70 _ _) (or_text b15 s a236 e237 8 w234 ho241 (by omega) (by omega) (by omega)) (by rintro q x ⟨n, a', e', rfl, h0, k0, h1, h2⟩; exact ⟨_, rfl, n, a', e', rfl, h0, k0, h1, h2⟩)) ?_ ?_; clear h233
        ·
          rintro _ w251 ⟨n252, a253, e254, rfl, hq255, hn256, ho258, hg259⟩
          have hB260 := hb_at hB243 hg259 (by omega)
          have hz261 := hB260.size
          have hz262 := hg259.size
          have hk263 := hk246.kept hg259 (by simp; omega)
          have hk264 := hk247.kept hg259 (by simp; omega)
          have hr265 := row_kept_at hr248 hg259 (row_ne_lt hr248 (by omega))
          have hl266 := ho258.lt
          exact hB260
        rintro _ w251 a250 ⟨n252, a253, e254, rfl, hq255, hn256, ho258, hg259⟩ h250
        have hB260 := hb_at hB243 hg259 (by omega)
        have hz261 := hB260.size
        have hz262 := hg259.size
        have hk263 := hk246.kept hg259 (by simp; omega)
        have hk264 := hk247.kept hg259 (by simp; omega)
        have hr265 := row_kept_at hr248 hg259 (row_ne_lt hr248 (by omega))
        have hl266 := ho258.lt
        refine dr_take (i := 8) (v := .agg #[.string n218, .string n252, .bool n235]) h250 rfl (by kernel_rfl) (by kernel_rfl) (by kernel_rfl) rfl rfl rfl hB260 (by kernel_rfl) (fun _ _ => by kernel_rfl) (fun a267 h267 => ?_); clear h250
        refine dr_one (i := 9) h267 rfl (by kernel_rfl) rfl rfl rfl (op_new (v := fun N => .slice (some ⟨N, 0, none⟩) 1 1) (T := 86) (cs := #[.string n218, .string n252, .bool n235]) (by kernel_rfl) (by kernel_rfl) (by kernel_rfl)) ?_ ?_; clear h267
        ·
          rintro _ w269 ⟨N270, rfl, hN273, hz274, hk272, hg271⟩
          have ha275 := row_fresh hr265 hN273
          have hB276 := hb_new hB260 hg271
          have hz277 := hB276.size
          have hz278 := hg271.size
          have hk279 := hk263.kept hg271 (by simp)
          have hk280 := hk264.kept hg271 (by simp)
          have hr281 := row_kept_new hr265 hg271
          have ho282 := ho258.new hg271
          exact hB276
        rintro _ w269 a268 ⟨N270, rfl, hN273, hz274, hk272, hg271⟩ h268
        have ha275 := row_fresh hr265 hN273
        have hB276 := hb_new hB260 hg271
        have hz277 := hB276.size
        have hz278 := hg271.size
        have hk279 := hk263.kept hg271 (by simp)
        have hk280 := hk264.kept hg271 (by simp)
        have hr281 := row_kept_new hr265 hg271
        have ho282 := ho258.new hg271
        try dsimp only at h268
        refine dr_one (i := 10) h268 rfl (by kernel_rfl) rfl rfl rfl (op_append rfl (N60 + 1) 86 (z := .agg #[.string (⟨#[]⟩), .string (⟨#[]⟩), .bool false]) (size := 3) (bytes := 40) Try.underlying23 (by kernel_rfl) rfl rfl rfl hr281 rfl hk272 rfl (by kernel_rfl) (by first | omega | (simp only [List.length_nil, List.length_append, List.length_cons, List.length_take, List.length_drop]; omega)) (by first | omega | (simp only [List.length_nil, List.length_append, List.length_cons, List.length_take, List.length_drop]; omega)) (by omega)) ?_ ?_; clear h268
        ·
          rintro v285 w284 ⟨hr286, hg287⟩
          have hr286' : w284.ownsRow (N60 + 1) 86 3 v285 ((ls ++ [(n218, n252, n235)]).length) ((ls ++ [(n218, n252, n235)]).flatMap opE) := row_push (y := (n218, n252, n235)) hr286 rfl rfl; clear hr286
          have hB288 := hb_row hB276 hr281 (by omega) hg287
          have hz289 := hB288.size
          have hz290 := hg287.size
          have hk291 := hk279.kept hg287 (row_ne_lt hr281 (by omega))
          have hk292 := hk280.kept hg287 (row_ne_lt hr281 (by omega))
          have ho293 := ho282.row (row_ne_lt hr281 (by omega)) hg287
          have hk294 := hk272.kept hg287 (ha275)
          exact hB288
        rintro v285 w284 a283 ⟨hr286, hg287⟩ h283
        have hr286' : w284.ownsRow (N60 + 1) 86 3 v285 ((ls ++ [(n218, n252, n235)]).length) ((ls ++ [(n218, n252, n235)]).flatMap opE) := row_push (y := (n218, n252, n235)) hr286 rfl rfl; clear hr286
        have hB288 := hb_row hB276 hr281 (by omega) hg287
        have hz289 := hB288.size
        have hz290 := hg287.size
        have hk291 := hk279.kept hg287 (row_ne_lt hr281 (by omega))
        have hk292 := hk280.kept hg287 (row_ne_lt hr281 (by omega))
        have ho293 := ho282.row (row_ne_lt hr281 (by omega)) hg287
        have hk294 := hk272.kept hg287 (ha275)
        refine dr_take (i := 11) (v := .pointer (some ⟨N60, 2, none⟩)) h283 rfl (by kernel_rfl) (by kernel_rfl) (by kernel_rfl) rfl rfl rfl hB288 (by kernel_rfl) (fun _ _ => by kernel_rfl) (fun a295 h295 => ?_); clear h283
        refine dr_oneDo (i := 12) h295 rfl (by kernel_rfl) rfl rfl (op_store1 rfl rfl rfl (row_one hr286') Try.sizeOf23 hk292 rfl) ?_ ?_; clear h295
        ·
          rintro _ w297 ⟨hk298, hz299, hg300⟩
          have hk298' : Blk w297 N60 31 #[.int .i64 n28, .int .i64 n44, v285] := hk298; clear hk298
          have hB301 := hb_at hB288 hg300 (by omega)
          have hz302 := hB301.size
          have hz303 := hg300.size
          have hk304 := hk291.kept hg300 (by simp; omega)
          have ho305 := ho293.at (by omega) hg300
          have hk306 := hk294.kept hg300 (by simp; omega)
          have hr307 := row_kept_at hr286' hg300 (row_ne_lt hr286' (by omega))
          exact hB301
        rintro _ w297 a296 ⟨hk298, hz299, hg300⟩ h296
        have hk298' : Blk w297 N60 31 #[.int .i64 n28, .int .i64 n44, v285] := hk298; clear hk298
        have hB301 := hb_at hB288 hg300 (by omega)
        have hz302 := hB301.size
        have hz303 := hg300.size
        have hk304 := hk291.kept hg300 (by simp; omega)
        have ho305 := ho293.at (by omega) hg300
        have hk306 := hk294.kept hg300 (by simp; omega)
        have hr307 := row_kept_at hr286' hg300 (row_ne_lt hr286' (by omega))
        refine dr_done (by kernel_rfl) ?_
        refine co_blockN ?_
        refine co_then ?_
        refine co_reg ?_
        refine pl_val (v := .int .i64 ((i + 1 : Nat) : Int)) h296 rfl rfl rfl (by kernel_rfl) (by kernel_rfl) (rn_arith' rfl rfl rfl rfl rfl rfl (IntWalk.i64_in _ (by omega)) (by omega)) (fun a308 h308 => ?_); clear h296
        refine pl_val (v := .int .i64 ((i + 1 : Nat) : Int)) h308 rfl rfl rfl (by kernel_rfl) (by kernel_rfl) (by kernel_rfl) (fun a309 h309 => ?_); clear h308
        refine pl_nil ?_
        refine co_then ?_
        refine ⟨(n83.toNat - (i + 1)), by omega, ?_⟩
        have hR' := rdN_step hR hq221 hq238 hq255
        exact ⟨i + 1, v285, ls ++ [(n218, n252, n235)], a253, e254, h309.sub ⟨rfl, rfl, rfl, rfl, rfl, rfl, trivial⟩, rfl, by omega, by first | rfl | (simp; omega), by first | rfl | exact hR', hk298', ho305, (row_eq hr307 (rfl)), hB301, hk304⟩
      ·
        refine dr_op (i := 3) h214 rfl rfl rfl rfl (op_call (args := #[.pointer (some ⟨b15, 0, none⟩), .int .i64 8]) (R := fun res xw => ∃ (n : ByteArray) (a' e' : Int), res = .string n ∧ textR s ps er 8 = (n, a', e') ∧ (n.size : Int) ≤ 8 ∧ OR b15 s a' e' xw ∧ w195.grownBy xw (some b15)) rfl rfl rfl (by kernel_rfl) (by kernel_rfl) (Try.call70 _ _) (or_text b15 s ps er 8 w195 ho209 (by omega) (by omega) (by omega)) (by rintro q x ⟨n, a', e', rfl, h0, k0, h1, h2⟩; exact ⟨_, rfl, n, a', e', rfl, h0, k0, h1, h2⟩)) ?_ ?_; clear h214
        ·
          rintro _ w311 ⟨n312, a313, e314, rfl, hq315, hn316, ho318, hg319⟩
          have hB320 := hb_at hB204 hg319 (by omega)
          have hz321 := hB320.size
          have hz322 := hg319.size
          have hk323 := hk207.kept hg319 (by simp; omega)
          have hk324 := hk208.kept hg319 (by simp; omega)
          have hr325 := row_kept_at hr210 hg319 (row_ne_lt hr210 (by omega))
          have hl326 := ho318.lt
          exact hB320
        rintro _ w311 a310 ⟨n312, a313, e314, rfl, hq315, hn316, ho318, hg319⟩ h310
        have hB320 := hb_at hB204 hg319 (by omega)
        have hz321 := hB320.size
        have hz322 := hg319.size
        have hk323 := hk207.kept hg319 (by simp; omega)
        have hk324 := hk208.kept hg319 (by simp; omega)
        have hr325 := row_kept_at hr210 hg319 (row_ne_lt hr210 (by omega))
        have hl326 := ho318.lt
        refine dr_many [1, 5] (by kernel_rfl) (by simp) ⟨?_, ?_, trivial⟩
        ·
          refine dr_opVal (i := 1) (v := u) h310 rfl rfl rfl rfl (by kernel_rfl) rfl (rn_load1 rfl rfl Try.isAgg23 (hk324.cell rfl)) hB320 (fun a327 h327 => ?_); clear h310
          refine dr_one (i := 5) h327 rfl (by kernel_rfl) rfl rfl rfl (op_call (args := #[.pointer (some ⟨b15, 0, none⟩)]) (R := fun res xw => ∃ (n : Bool) (a' e' : Int), res = .bool n ∧ flagR s a313.toNat e314 = (n, a', e') ∧ OR b15 s a' e' xw ∧ w311.grownBy xw (some b15)) rfl rfl rfl (by kernel_rfl) (by kernel_rfl) (Try.call118 _ _) (or_flag b15 s a313 e314 w311 ho318 (by omega)) (by rintro q x ⟨n, a', e', rfl, h0, h1, h2⟩; exact ⟨_, rfl, n, a', e', rfl, h0, h1, h2⟩)) ?_ ?_; clear h327
          ·
            rintro _ w329 ⟨n330, a331, e332, rfl, hq333, ho336, hg337⟩
            have hB338 := hb_at hB320 hg337 (by omega)
            have hz339 := hB338.size
            have hz340 := hg337.size
            have hk341 := hk323.kept hg337 (by simp; omega)
            have hk342 := hk324.kept hg337 (by simp; omega)
            have hr343 := row_kept_at hr325 hg337 (row_ne_lt hr325 (by omega))
            have hl344 := ho336.lt
            exact hB338
          rintro _ w329 a328 ⟨n330, a331, e332, rfl, hq333, ho336, hg337⟩ h328
          have hB338 := hb_at hB320 hg337 (by omega)
          have hz339 := hB338.size
          have hz340 := hg337.size
          have hk341 := hk323.kept hg337 (by simp; omega)
          have hk342 := hk324.kept hg337 (by simp; omega)
          have hr343 := row_kept_at hr325 hg337 (row_ne_lt hr325 (by omega))
          have hl344 := ho336.lt
          refine dr_one (i := 7) h328 rfl (by kernel_rfl) rfl rfl rfl (op_call (args := #[.pointer (some ⟨b15, 0, none⟩), .int .i64 8]) (R := fun res xw => ∃ (n : ByteArray) (a' e' : Int), res = .string n ∧ textR s a331 e332 8 = (n, a', e') ∧ (n.size : Int) ≤ 8 ∧ OR b15 s a' e' xw ∧ w329.grownBy xw (some b15)) rfl rfl rfl (by kernel_rfl) (by kernel_rfl) (Try.call70 _ _) (or_text b15 s a331 e332 8 w329 ho336 (by omega) (by omega) (by omega)) (by rintro q x ⟨n, a', e', rfl, h0, k0, h1, h2⟩; exact ⟨_, rfl, n, a', e', rfl, h0, k0, h1, h2⟩)) ?_ ?_; clear h328
          ·
            rintro _ w346 ⟨n347, a348, e349, rfl, hq350, hn351, ho353, hg354⟩
            have hB355 := hb_at hB338 hg354 (by omega)
            have hz356 := hB355.size
            have hz357 := hg354.size
            have hk358 := hk341.kept hg354 (by simp; omega)
            have hk359 := hk342.kept hg354 (by simp; omega)
            have hr360 := row_kept_at hr343 hg354 (row_ne_lt hr343 (by omega))
            have hl361 := ho353.lt
            exact hB355
          rintro _ w346 a345 ⟨n347, a348, e349, rfl, hq350, hn351, ho353, hg354⟩ h345
          have hB355 := hb_at hB338 hg354 (by omega)
          have hz356 := hB355.size
          have hz357 := hg354.size
          have hk358 := hk341.kept hg354 (by simp; omega)
          have hk359 := hk342.kept hg354 (by simp; omega)
          have hr360 := row_kept_at hr343 hg354 (row_ne_lt hr343 (by omega))
          have hl361 := ho353.lt
          refine dr_take (i := 8) (v := .agg #[.string n312, .string n347, .bool n330]) h345 rfl (by kernel_rfl) (by kernel_rfl) (by kernel_rfl) rfl rfl rfl hB355 (by kernel_rfl) (fun _ _ => by kernel_rfl) (fun a362 h362 => ?_); clear h345
          refine dr_one (i := 9) h362 rfl (by kernel_rfl) rfl rfl rfl (op_new (v := fun N => .slice (some ⟨N, 0, none⟩) 1 1) (T := 86) (cs := #[.string n312, .string n347, .bool n330]) (by kernel_rfl) (by kernel_rfl) (by kernel_rfl)) ?_ ?_; clear h362
          ·
            rintro _ w364 ⟨N365, rfl, hN368, hz369, hk367, hg366⟩
            have ha370 := row_fresh hr360 hN368
            have hB371 := hb_new hB355 hg366
            have hz372 := hB371.size
            have hz373 := hg366.size
            have hk374 := hk358.kept hg366 (by simp)
            have hk375 := hk359.kept hg366 (by simp)
            have hr376 := row_kept_new hr360 hg366
            have ho377 := ho353.new hg366
            exact hB371
          rintro _ w364 a363 ⟨N365, rfl, hN368, hz369, hk367, hg366⟩ h363
          have ha370 := row_fresh hr360 hN368
          have hB371 := hb_new hB355 hg366
          have hz372 := hB371.size
          have hz373 := hg366.size
          have hk374 := hk358.kept hg366 (by simp)
          have hk375 := hk359.kept hg366 (by simp)
          have hr376 := row_kept_new hr360 hg366
          have ho377 := ho353.new hg366
          try dsimp only at h363
          refine dr_one (i := 10) h363 rfl (by kernel_rfl) rfl rfl rfl (op_append rfl (N60 + 1) 86 (z := .agg #[.string (⟨#[]⟩), .string (⟨#[]⟩), .bool false]) (size := 3) (bytes := 40) Try.underlying23 (by kernel_rfl) rfl rfl rfl hr376 rfl hk367 rfl (by kernel_rfl) (by first | omega | (simp only [List.length_nil, List.length_append, List.length_cons, List.length_take, List.length_drop]; omega)) (by first | omega | (simp only [List.length_nil, List.length_append, List.length_cons, List.length_take, List.length_drop]; omega)) (by omega)) ?_ ?_; clear h363
          ·
            rintro v380 w379 ⟨hr381, hg382⟩
            have hr381' : w379.ownsRow (N60 + 1) 86 3 v380 ((ls ++ [(n312, n347, n330)]).length) ((ls ++ [(n312, n347, n330)]).flatMap opE) := row_push (y := (n312, n347, n330)) hr381 rfl rfl; clear hr381
            have hB383 := hb_row hB371 hr376 (by omega) hg382
            have hz384 := hB383.size
            have hz385 := hg382.size
            have hk386 := hk374.kept hg382 (row_ne_lt hr376 (by omega))
            have hk387 := hk375.kept hg382 (row_ne_lt hr376 (by omega))
            have ho388 := ho377.row (row_ne_lt hr376 (by omega)) hg382
            have hk389 := hk367.kept hg382 (ha370)
            exact hB383
          rintro v380 w379 a378 ⟨hr381, hg382⟩ h378
          have hr381' : w379.ownsRow (N60 + 1) 86 3 v380 ((ls ++ [(n312, n347, n330)]).length) ((ls ++ [(n312, n347, n330)]).flatMap opE) := row_push (y := (n312, n347, n330)) hr381 rfl rfl; clear hr381
          have hB383 := hb_row hB371 hr376 (by omega) hg382
          have hz384 := hB383.size
          have hz385 := hg382.size
          have hk386 := hk374.kept hg382 (row_ne_lt hr376 (by omega))
          have hk387 := hk375.kept hg382 (row_ne_lt hr376 (by omega))
          have ho388 := ho377.row (row_ne_lt hr376 (by omega)) hg382
          have hk389 := hk367.kept hg382 (ha370)
          refine dr_take (i := 11) (v := .pointer (some ⟨N60, 2, none⟩)) h378 rfl (by kernel_rfl) (by kernel_rfl) (by kernel_rfl) rfl rfl rfl hB383 (by kernel_rfl) (fun _ _ => by kernel_rfl) (fun a390 h390 => ?_); clear h378
          refine dr_oneDo (i := 12) h390 rfl (by kernel_rfl) rfl rfl (op_store1 rfl rfl rfl (row_one hr381') Try.sizeOf23 hk387 rfl) ?_ ?_; clear h390
          ·
            rintro _ w392 ⟨hk393, hz394, hg395⟩
            have hk393' : Blk w392 N60 31 #[.int .i64 n28, .int .i64 n44, v380] := hk393; clear hk393
            have hB396 := hb_at hB383 hg395 (by omega)
            have hz397 := hB396.size
            have hz398 := hg395.size
            have hk399 := hk386.kept hg395 (by simp; omega)
            have ho400 := ho388.at (by omega) hg395
            have hk401 := hk389.kept hg395 (by simp; omega)
            have hr402 := row_kept_at hr381' hg395 (row_ne_lt hr381' (by omega))
            exact hB396
          rintro _ w392 a391 ⟨hk393, hz394, hg395⟩ h391
          have hk393' : Blk w392 N60 31 #[.int .i64 n28, .int .i64 n44, v380] := hk393; clear hk393
          have hB396 := hb_at hB383 hg395 (by omega)
          have hz397 := hB396.size
          have hz398 := hg395.size
          have hk399 := hk386.kept hg395 (by simp; omega)
          have ho400 := ho388.at (by omega) hg395
          have hk401 := hk389.kept hg395 (by simp; omega)
          have hr402 := row_kept_at hr381' hg395 (row_ne_lt hr381' (by omega))
          refine dr_done (by kernel_rfl) ?_
          refine co_blockN ?_
          refine co_then ?_
          refine co_reg ?_
          refine pl_val (v := .int .i64 ((i + 1 : Nat) : Int)) h391 rfl rfl rfl (by kernel_rfl) (by kernel_rfl) (rn_arith' rfl rfl rfl rfl rfl rfl (IntWalk.i64_in _ (by omega)) (by omega)) (fun a403 h403 => ?_); clear h391
          refine pl_val (v := .int .i64 ((i + 1 : Nat) : Int)) h403 rfl rfl rfl (by kernel_rfl) (by kernel_rfl) (by kernel_rfl) (fun a404 h404 => ?_); clear h403
          refine pl_nil ?_
          refine co_then ?_
          refine ⟨(n83.toNat - (i + 1)), by omega, ?_⟩
          have hR' := rdN_step hR hq315 hq333 hq350
          exact ⟨i + 1, v380, ls ++ [(n312, n347, n330)], a348, e349, h404.sub ⟨rfl, rfl, rfl, rfl, rfl, rfl, trivial⟩, rfl, by omega, by first | rfl | (simp; omega), by first | rfl | exact hR', hk393', ho400, (row_eq hr402 (rfl)), hB396, hk399⟩
        ·
          refine dr_op (i := 5) h310 rfl rfl rfl rfl (op_call (args := #[.pointer (some ⟨b15, 0, none⟩)]) (R := fun res xw => ∃ (n : Bool) (a' e' : Int), res = .bool n ∧ flagR s a313.toNat e314 = (n, a', e') ∧ OR b15 s a' e' xw ∧ w311.grownBy xw (some b15)) rfl rfl rfl (by kernel_rfl) (by kernel_rfl) (Try.call118 _ _) (or_flag b15 s a313 e314 w311 ho318 (by omega)) (by rintro q x ⟨n, a', e', rfl, h0, h1, h2⟩; exact ⟨_, rfl, n, a', e', rfl, h0, h1, h2⟩)) ?_ ?_; clear h310
          ·
            rintro _ w406 ⟨n407, a408, e409, rfl, hq410, ho413, hg414⟩
            have hB415 := hb_at hB320 hg414 (by omega)
            have hz416 := hB415.size
            have hz417 := hg414.size
            have hk418 := hk323.kept hg414 (by simp; omega)
            have hk419 := hk324.kept hg414 (by simp; omega)
            have hr420 := row_kept_at hr325 hg414 (row_ne_lt hr325 (by omega))
            have hl421 := ho413.lt
            exact hB415
          rintro _ w406 a405 ⟨n407, a408, e409, rfl, hq410, ho413, hg414⟩ h405
          have hB415 := hb_at hB320 hg414 (by omega)
          have hz416 := hB415.size
          have hz417 := hg414.size
          have hk418 := hk323.kept hg414 (by simp; omega)
          have hk419 := hk324.kept hg414 (by simp; omega)
          have hr420 := row_kept_at hr325 hg414 (row_ne_lt hr325 (by omega))
          have hl421 := ho413.lt
          refine dr_many [1, 7] (by kernel_rfl) (by simp) ⟨?_, ?_, trivial⟩
          ·
            refine dr_opVal (i := 1) (v := u) h405 rfl rfl rfl rfl (by kernel_rfl) rfl (rn_load1 rfl rfl Try.isAgg23 (hk419.cell rfl)) hB415 (fun a422 h422 => ?_); clear h405
            refine dr_one (i := 7) h422 rfl (by kernel_rfl) rfl rfl rfl (op_call (args := #[.pointer (some ⟨b15, 0, none⟩), .int .i64 8]) (R := fun res xw => ∃ (n : ByteArray) (a' e' : Int), res = .string n ∧ textR s a408 e409 8 = (n, a', e') ∧ (n.size : Int) ≤ 8 ∧ OR b15 s a' e' xw ∧ w406.grownBy xw (some b15)) rfl rfl rfl (by kernel_rfl) (by kernel_rfl) (Try.call70 _ _) (or_text b15 s a408 e409 8 w406 ho413 (by omega) (by omega) (by omega)) (by rintro q x ⟨n, a', e', rfl, h0, k0, h1, h2⟩; exact ⟨_, rfl, n, a', e', rfl, h0, k0, h1, h2⟩)) ?_ ?_; clear h422
            ·
              rintro _ w424 ⟨n425, a426, e427, rfl, hq428, hn429, ho431, hg432⟩
              have hB433 := hb_at hB415 hg432 (by omega)
              have hz434 := hB433.size
              have hz435 := hg432.size
              have hk436 := hk418.kept hg432 (by simp; omega)
              have hk437 := hk419.kept hg432 (by simp; omega)
              have hr438 := row_kept_at hr420 hg432 (row_ne_lt hr420 (by omega))
              have hl439 := ho431.lt
              exact hB433
            rintro _ w424 a423 ⟨n425, a426, e427, rfl, hq428, hn429, ho431, hg432⟩ h423
            have hB433 := hb_at hB415 hg432 (by omega)
            have hz434 := hB433.size
            have hz435 := hg432.size
            have hk436 := hk418.kept hg432 (by simp; omega)
            have hk437 := hk419.kept hg432 (by simp; omega)
            have hr438 := row_kept_at hr420 hg432 (row_ne_lt hr420 (by omega))
            have hl439 := ho431.lt
            refine dr_take (i := 8) (v := .agg #[.string n312, .string n425, .bool n407]) h423 rfl (by kernel_rfl) (by kernel_rfl) (by kernel_rfl) rfl rfl rfl hB433 (by kernel_rfl) (fun _ _ => by kernel_rfl) (fun a440 h440 => ?_); clear h423
            refine dr_one (i := 9) h440 rfl (by kernel_rfl) rfl rfl rfl (op_new (v := fun N => .slice (some ⟨N, 0, none⟩) 1 1) (T := 86) (cs := #[.string n312, .string n425, .bool n407]) (by kernel_rfl) (by kernel_rfl) (by kernel_rfl)) ?_ ?_; clear h440
            ·
              rintro _ w442 ⟨N443, rfl, hN446, hz447, hk445, hg444⟩
              have ha448 := row_fresh hr438 hN446
              have hB449 := hb_new hB433 hg444
              have hz450 := hB449.size
              have hz451 := hg444.size
              have hk452 := hk436.kept hg444 (by simp)
              have hk453 := hk437.kept hg444 (by simp)
              have hr454 := row_kept_new hr438 hg444
              have ho455 := ho431.new hg444
              exact hB449
            rintro _ w442 a441 ⟨N443, rfl, hN446, hz447, hk445, hg444⟩ h441
            have ha448 := row_fresh hr438 hN446
            have hB449 := hb_new hB433 hg444
            have hz450 := hB449.size
            have hz451 := hg444.size
            have hk452 := hk436.kept hg444 (by simp)
            have hk453 := hk437.kept hg444 (by simp)
            have hr454 := row_kept_new hr438 hg444
            have ho455 := ho431.new hg444
            try dsimp only at h441
            refine dr_one (i := 10) h441 rfl (by kernel_rfl) rfl rfl rfl (op_append rfl (N60 + 1) 86 (z := .agg #[.string (⟨#[]⟩), .string (⟨#[]⟩), .bool false]) (size := 3) (bytes := 40) Try.underlying23 (by kernel_rfl) rfl rfl rfl hr454 rfl hk445 rfl (by kernel_rfl) (by first | omega | (simp only [List.length_nil, List.length_append, List.length_cons, List.length_take, List.length_drop]; omega)) (by first | omega | (simp only [List.length_nil, List.length_append, List.length_cons, List.length_take, List.length_drop]; omega)) (by omega)) ?_ ?_; clear h441
            ·
              rintro v458 w457 ⟨hr459, hg460⟩
              have hr459' : w457.ownsRow (N60 + 1) 86 3 v458 ((ls ++ [(n312, n425, n407)]).length) ((ls ++ [(n312, n425, n407)]).flatMap opE) := row_push (y := (n312, n425, n407)) hr459 rfl rfl; clear hr459
              have hB461 := hb_row hB449 hr454 (by omega) hg460
              have hz462 := hB461.size
              have hz463 := hg460.size
              have hk464 := hk452.kept hg460 (row_ne_lt hr454 (by omega))
              have hk465 := hk453.kept hg460 (row_ne_lt hr454 (by omega))
              have ho466 := ho455.row (row_ne_lt hr454 (by omega)) hg460
              have hk467 := hk445.kept hg460 (ha448)
              exact hB461
            rintro v458 w457 a456 ⟨hr459, hg460⟩ h456
            have hr459' : w457.ownsRow (N60 + 1) 86 3 v458 ((ls ++ [(n312, n425, n407)]).length) ((ls ++ [(n312, n425, n407)]).flatMap opE) := row_push (y := (n312, n425, n407)) hr459 rfl rfl; clear hr459
            have hB461 := hb_row hB449 hr454 (by omega) hg460
            have hz462 := hB461.size
            have hz463 := hg460.size
            have hk464 := hk452.kept hg460 (row_ne_lt hr454 (by omega))
            have hk465 := hk453.kept hg460 (row_ne_lt hr454 (by omega))
            have ho466 := ho455.row (row_ne_lt hr454 (by omega)) hg460
            have hk467 := hk445.kept hg460 (ha448)
            refine dr_take (i := 11) (v := .pointer (some ⟨N60, 2, none⟩)) h456 rfl (by kernel_rfl) (by kernel_rfl) (by kernel_rfl) rfl rfl rfl hB461 (by kernel_rfl) (fun _ _ => by kernel_rfl) (fun a468 h468 => ?_); clear h456
            refine dr_oneDo (i := 12) h468 rfl (by kernel_rfl) rfl rfl (op_store1 rfl rfl rfl (row_one hr459') Try.sizeOf23 hk465 rfl) ?_ ?_; clear h468
            ·
              rintro _ w470 ⟨hk471, hz472, hg473⟩
              have hk471' : Blk w470 N60 31 #[.int .i64 n28, .int .i64 n44, v458] := hk471; clear hk471
              have hB474 := hb_at hB461 hg473 (by omega)
              have hz475 := hB474.size
              have hz476 := hg473.size
              have hk477 := hk464.kept hg473 (by simp; omega)
              have ho478 := ho466.at (by omega) hg473
              have hk479 := hk467.kept hg473 (by simp; omega)
              have hr480 := row_kept_at hr459' hg473 (row_ne_lt hr459' (by omega))
              exact hB474
            rintro _ w470 a469 ⟨hk471, hz472, hg473⟩ h469
            have hk471' : Blk w470 N60 31 #[.int .i64 n28, .int .i64 n44, v458] := hk471; clear hk471
            have hB474 := hb_at hB461 hg473 (by omega)
            have hz475 := hB474.size
            have hz476 := hg473.size
            have hk477 := hk464.kept hg473 (by simp; omega)
            have ho478 := ho466.at (by omega) hg473
            have hk479 := hk467.kept hg473 (by simp; omega)
            have hr480 := row_kept_at hr459' hg473 (row_ne_lt hr459' (by omega))
            refine dr_done (by kernel_rfl) ?_
            refine co_blockN ?_
            refine co_then ?_
            refine co_reg ?_
            refine pl_val (v := .int .i64 ((i + 1 : Nat) : Int)) h469 rfl rfl rfl (by kernel_rfl) (by kernel_rfl) (rn_arith' rfl rfl rfl rfl rfl rfl (IntWalk.i64_in _ (by omega)) (by omega)) (fun a481 h481 => ?_); clear h469
            refine pl_val (v := .int .i64 ((i + 1 : Nat) : Int)) h481 rfl rfl rfl (by kernel_rfl) (by kernel_rfl) (by kernel_rfl) (fun a482 h482 => ?_); clear h481
            refine pl_nil ?_
            refine co_then ?_
            refine ⟨(n83.toNat - (i + 1)), by omega, ?_⟩
            have hR' := rdN_step hR hq315 hq410 hq428
            exact ⟨i + 1, v458, ls ++ [(n312, n425, n407)], a426, e427, h482.sub ⟨rfl, rfl, rfl, rfl, rfl, rfl, trivial⟩, rfl, by omega, by first | rfl | (simp; omega), by first | rfl | exact hR', hk471', ho478, (row_eq hr480 (rfl)), hB474, hk477⟩
          ·
            refine dr_op (i := 7) h405 rfl rfl rfl rfl (op_call (args := #[.pointer (some ⟨b15, 0, none⟩), .int .i64 8]) (R := fun res xw => ∃ (n : ByteArray) (a' e' : Int), res = .string n ∧ textR s a408 e409 8 = (n, a', e') ∧ (n.size : Int) ≤ 8 ∧ OR b15 s a' e' xw ∧ w406.grownBy xw (some b15)) rfl rfl rfl (by kernel_rfl) (by kernel_rfl) (Try.call70 _ _) (or_text b15 s a408 e409 8 w406 ho413 (by omega) (by omega) (by omega)) (by rintro q x ⟨n, a', e', rfl, h0, k0, h1, h2⟩; exact ⟨_, rfl, n, a', e', rfl, h0, k0, h1, h2⟩)) ?_ ?_; clear h405
            ·
              rintro _ w484 ⟨n485, a486, e487, rfl, hq488, hn489, ho491, hg492⟩
              have hB493 := hb_at hB415 hg492 (by omega)
              have hz494 := hB493.size
              have hz495 := hg492.size
              have hk496 := hk418.kept hg492 (by simp; omega)
              have hk497 := hk419.kept hg492 (by simp; omega)
              have hr498 := row_kept_at hr420 hg492 (row_ne_lt hr420 (by omega))
              have hl499 := ho491.lt
              exact hB493
            rintro _ w484 a483 ⟨n485, a486, e487, rfl, hq488, hn489, ho491, hg492⟩ h483
            have hB493 := hb_at hB415 hg492 (by omega)
            have hz494 := hB493.size
            have hz495 := hg492.size
            have hk496 := hk418.kept hg492 (by simp; omega)
            have hk497 := hk419.kept hg492 (by simp; omega)
            have hr498 := row_kept_at hr420 hg492 (row_ne_lt hr420 (by omega))
            have hl499 := ho491.lt
            refine dr_take (i := 8) (v := .agg #[.string n312, .string n485, .bool n407]) h483 rfl (by kernel_rfl) (by kernel_rfl) (by kernel_rfl) rfl rfl rfl hB493 (by kernel_rfl) (fun _ _ => by kernel_rfl) (fun a500 h500 => ?_); clear h483
            refine dr_many [1, 9] (by kernel_rfl) (by simp) ⟨?_, ?_, trivial⟩
            ·
              refine dr_opVal (i := 1) (v := u) h500 rfl rfl rfl rfl (by kernel_rfl) rfl (rn_load1 rfl rfl Try.isAgg23 (hk497.cell rfl)) hB493 (fun a501 h501 => ?_); clear h500
              refine dr_one (i := 9) h501 rfl (by kernel_rfl) rfl rfl rfl (op_new (v := fun N => .slice (some ⟨N, 0, none⟩) 1 1) (T := 86) (cs := #[.string n312, .string n485, .bool n407]) (by kernel_rfl) (by kernel_rfl) (by kernel_rfl)) ?_ ?_; clear h501
              ·
                rintro _ w503 ⟨N504, rfl, hN507, hz508, hk506, hg505⟩
                have ha509 := row_fresh hr498 hN507
                have hB510 := hb_new hB493 hg505
                have hz511 := hB510.size
                have hz512 := hg505.size
                have hk513 := hk496.kept hg505 (by simp)
                have hk514 := hk497.kept hg505 (by simp)
                have hr515 := row_kept_new hr498 hg505
                have ho516 := ho491.new hg505
                exact hB510
              rintro _ w503 a502 ⟨N504, rfl, hN507, hz508, hk506, hg505⟩ h502
              have ha509 := row_fresh hr498 hN507
              have hB510 := hb_new hB493 hg505
              have hz511 := hB510.size
              have hz512 := hg505.size
              have hk513 := hk496.kept hg505 (by simp)
              have hk514 := hk497.kept hg505 (by simp)
              have hr515 := row_kept_new hr498 hg505
              have ho516 := ho491.new hg505
              try dsimp only at h502
              refine dr_one (i := 10) h502 rfl (by kernel_rfl) rfl rfl rfl (op_append rfl (N60 + 1) 86 (z := .agg #[.string (⟨#[]⟩), .string (⟨#[]⟩), .bool false]) (size := 3) (bytes := 40) Try.underlying23 (by kernel_rfl) rfl rfl rfl hr515 rfl hk506 rfl (by kernel_rfl) (by first | omega | (simp only [List.length_nil, List.length_append, List.length_cons, List.length_take, List.length_drop]; omega)) (by first | omega | (simp only [List.length_nil, List.length_append, List.length_cons, List.length_take, List.length_drop]; omega)) (by omega)) ?_ ?_; clear h502
              ·
                rintro v519 w518 ⟨hr520, hg521⟩
                have hr520' : w518.ownsRow (N60 + 1) 86 3 v519 ((ls ++ [(n312, n485, n407)]).length) ((ls ++ [(n312, n485, n407)]).flatMap opE) := row_push (y := (n312, n485, n407)) hr520 rfl rfl; clear hr520
                have hB522 := hb_row hB510 hr515 (by omega) hg521
                have hz523 := hB522.size
                have hz524 := hg521.size
                have hk525 := hk513.kept hg521 (row_ne_lt hr515 (by omega))
                have hk526 := hk514.kept hg521 (row_ne_lt hr515 (by omega))
                have ho527 := ho516.row (row_ne_lt hr515 (by omega)) hg521
                have hk528 := hk506.kept hg521 (ha509)
                exact hB522
              rintro v519 w518 a517 ⟨hr520, hg521⟩ h517
              have hr520' : w518.ownsRow (N60 + 1) 86 3 v519 ((ls ++ [(n312, n485, n407)]).length) ((ls ++ [(n312, n485, n407)]).flatMap opE) := row_push (y := (n312, n485, n407)) hr520 rfl rfl; clear hr520
              have hB522 := hb_row hB510 hr515 (by omega) hg521
              have hz523 := hB522.size
              have hz524 := hg521.size
              have hk525 := hk513.kept hg521 (row_ne_lt hr515 (by omega))
              have hk526 := hk514.kept hg521 (row_ne_lt hr515 (by omega))
              have ho527 := ho516.row (row_ne_lt hr515 (by omega)) hg521
              have hk528 := hk506.kept hg521 (ha509)
              refine dr_take (i := 11) (v := .pointer (some ⟨N60, 2, none⟩)) h517 rfl (by kernel_rfl) (by kernel_rfl) (by kernel_rfl) rfl rfl rfl hB522 (by kernel_rfl) (fun _ _ => by kernel_rfl) (fun a529 h529 => ?_); clear h517
              refine dr_oneDo (i := 12) h529 rfl (by kernel_rfl) rfl rfl (op_store1 rfl rfl rfl (row_one hr520') Try.sizeOf23 hk526 rfl) ?_ ?_; clear h529
              ·
                rintro _ w531 ⟨hk532, hz533, hg534⟩
                have hk532' : Blk w531 N60 31 #[.int .i64 n28, .int .i64 n44, v519] := hk532; clear hk532
                have hB535 := hb_at hB522 hg534 (by omega)
                have hz536 := hB535.size
                have hz537 := hg534.size
                have hk538 := hk525.kept hg534 (by simp; omega)
                have ho539 := ho527.at (by omega) hg534
                have hk540 := hk528.kept hg534 (by simp; omega)
                have hr541 := row_kept_at hr520' hg534 (row_ne_lt hr520' (by omega))
                exact hB535
              rintro _ w531 a530 ⟨hk532, hz533, hg534⟩ h530
              have hk532' : Blk w531 N60 31 #[.int .i64 n28, .int .i64 n44, v519] := hk532; clear hk532
              have hB535 := hb_at hB522 hg534 (by omega)
              have hz536 := hB535.size
              have hz537 := hg534.size
              have hk538 := hk525.kept hg534 (by simp; omega)
              have ho539 := ho527.at (by omega) hg534
              have hk540 := hk528.kept hg534 (by simp; omega)
              have hr541 := row_kept_at hr520' hg534 (row_ne_lt hr520' (by omega))
              refine dr_done (by kernel_rfl) ?_
              refine co_blockN ?_
              refine co_then ?_
              refine co_reg ?_
              refine pl_val (v := .int .i64 ((i + 1 : Nat) : Int)) h530 rfl rfl rfl (by kernel_rfl) (by kernel_rfl) (rn_arith' rfl rfl rfl rfl rfl rfl (IntWalk.i64_in _ (by omega)) (by omega)) (fun a542 h542 => ?_); clear h530
              refine pl_val (v := .int .i64 ((i + 1 : Nat) : Int)) h542 rfl rfl rfl (by kernel_rfl) (by kernel_rfl) (by kernel_rfl) (fun a543 h543 => ?_); clear h542
              refine pl_nil ?_
              refine co_then ?_
              refine ⟨(n83.toNat - (i + 1)), by omega, ?_⟩
              have hR' := rdN_step hR hq315 hq410 hq488
              exact ⟨i + 1, v519, ls ++ [(n312, n485, n407)], a486, e487, h543.sub ⟨rfl, rfl, rfl, rfl, rfl, rfl, trivial⟩, rfl, by omega, by first | rfl | (simp; omega), by first | rfl | exact hR', hk532', ho539, (row_eq hr541 (rfl)), hB535, hk538⟩
            ·
              refine dr_op (i := 9) h500 rfl rfl rfl rfl (op_new (v := fun N => .slice (some ⟨N, 0, none⟩) 1 1) (T := 86) (cs := #[.string n312, .string n485, .bool n407]) (by kernel_rfl) (by kernel_rfl) (by kernel_rfl)) ?_ ?_; clear h500
              ·
                rintro _ w545 ⟨N546, rfl, hN549, hz550, hk548, hg547⟩
                have ha551 := row_fresh hr498 hN549
                have hB552 := hb_new hB493 hg547
                have hz553 := hB552.size
                have hz554 := hg547.size
                have hk555 := hk496.kept hg547 (by simp)
                have hk556 := hk497.kept hg547 (by simp)
                have hr557 := row_kept_new hr498 hg547
                have ho558 := ho491.new hg547
                exact hB552
              rintro _ w545 a544 ⟨N546, rfl, hN549, hz550, hk548, hg547⟩ h544
              have ha551 := row_fresh hr498 hN549
              have hB552 := hb_new hB493 hg547
              have hz553 := hB552.size
              have hz554 := hg547.size
              have hk555 := hk496.kept hg547 (by simp)
              have hk556 := hk497.kept hg547 (by simp)
              have hr557 := row_kept_new hr498 hg547
              have ho558 := ho491.new hg547
              try dsimp only at h544
              refine dr_many [1] (by kernel_rfl) (by simp) ⟨?_, trivial⟩
              ·
                refine dr_opVal (i := 1) (v := u) h544 rfl rfl rfl rfl (by kernel_rfl) rfl (rn_load1 rfl rfl Try.isAgg23 (hk556.cell rfl)) hB552 (fun a559 h559 => ?_); clear h544
                refine dr_one (i := 10) h559 rfl (by kernel_rfl) rfl rfl rfl (op_append rfl (N60 + 1) 86 (z := .agg #[.string (⟨#[]⟩), .string (⟨#[]⟩), .bool false]) (size := 3) (bytes := 40) Try.underlying23 (by kernel_rfl) rfl rfl rfl hr557 rfl hk548 rfl (by kernel_rfl) (by first | omega | (simp only [List.length_nil, List.length_append, List.length_cons, List.length_take, List.length_drop]; omega)) (by first | omega | (simp only [List.length_nil, List.length_append, List.length_cons, List.length_take, List.length_drop]; omega)) (by omega)) ?_ ?_; clear h559
                ·
                  rintro v562 w561 ⟨hr563, hg564⟩
                  have hr563' : w561.ownsRow (N60 + 1) 86 3 v562 ((ls ++ [(n312, n485, n407)]).length) ((ls ++ [(n312, n485, n407)]).flatMap opE) := row_push (y := (n312, n485, n407)) hr563 rfl rfl; clear hr563
                  have hB565 := hb_row hB552 hr557 (by omega) hg564
                  have hz566 := hB565.size
                  have hz567 := hg564.size
                  have hk568 := hk555.kept hg564 (row_ne_lt hr557 (by omega))
                  have hk569 := hk556.kept hg564 (row_ne_lt hr557 (by omega))
                  have ho570 := ho558.row (row_ne_lt hr557 (by omega)) hg564
                  have hk571 := hk548.kept hg564 (ha551)
                  exact hB565
                rintro v562 w561 a560 ⟨hr563, hg564⟩ h560
                have hr563' : w561.ownsRow (N60 + 1) 86 3 v562 ((ls ++ [(n312, n485, n407)]).length) ((ls ++ [(n312, n485, n407)]).flatMap opE) := row_push (y := (n312, n485, n407)) hr563 rfl rfl; clear hr563
                have hB565 := hb_row hB552 hr557 (by omega) hg564
                have hz566 := hB565.size
                have hz567 := hg564.size
                have hk568 := hk555.kept hg564 (row_ne_lt hr557 (by omega))
                have hk569 := hk556.kept hg564 (row_ne_lt hr557 (by omega))
                have ho570 := ho558.row (row_ne_lt hr557 (by omega)) hg564
                have hk571 := hk548.kept hg564 (ha551)
                refine dr_take (i := 11) (v := .pointer (some ⟨N60, 2, none⟩)) h560 rfl (by kernel_rfl) (by kernel_rfl) (by kernel_rfl) rfl rfl rfl hB565 (by kernel_rfl) (fun _ _ => by kernel_rfl) (fun a572 h572 => ?_); clear h560
                refine dr_oneDo (i := 12) h572 rfl (by kernel_rfl) rfl rfl (op_store1 rfl rfl rfl (row_one hr563') Try.sizeOf23 hk569 rfl) ?_ ?_; clear h572
                ·
                  rintro _ w574 ⟨hk575, hz576, hg577⟩
                  have hk575' : Blk w574 N60 31 #[.int .i64 n28, .int .i64 n44, v562] := hk575; clear hk575
                  have hB578 := hb_at hB565 hg577 (by omega)
                  have hz579 := hB578.size
                  have hz580 := hg577.size
                  have hk581 := hk568.kept hg577 (by simp; omega)
                  have ho582 := ho570.at (by omega) hg577
                  have hk583 := hk571.kept hg577 (by simp; omega)
                  have hr584 := row_kept_at hr563' hg577 (row_ne_lt hr563' (by omega))
                  exact hB578
                rintro _ w574 a573 ⟨hk575, hz576, hg577⟩ h573
                have hk575' : Blk w574 N60 31 #[.int .i64 n28, .int .i64 n44, v562] := hk575; clear hk575
                have hB578 := hb_at hB565 hg577 (by omega)
                have hz579 := hB578.size
                have hz580 := hg577.size
                have hk581 := hk568.kept hg577 (by simp; omega)
                have ho582 := ho570.at (by omega) hg577
                have hk583 := hk571.kept hg577 (by simp; omega)
                have hr584 := row_kept_at hr563' hg577 (row_ne_lt hr563' (by omega))
                refine dr_done (by kernel_rfl) ?_
                refine co_blockN ?_
                refine co_then ?_
                refine co_reg ?_
                refine pl_val (v := .int .i64 ((i + 1 : Nat) : Int)) h573 rfl rfl rfl (by kernel_rfl) (by kernel_rfl) (rn_arith' rfl rfl rfl rfl rfl rfl (IntWalk.i64_in _ (by omega)) (by omega)) (fun a585 h585 => ?_); clear h573
                refine pl_val (v := .int .i64 ((i + 1 : Nat) : Int)) h585 rfl rfl rfl (by kernel_rfl) (by kernel_rfl) (by kernel_rfl) (fun a586 h586 => ?_); clear h585
                refine pl_nil ?_
                refine co_then ?_
                refine ⟨(n83.toNat - (i + 1)), by omega, ?_⟩
                have hR' := rdN_step hR hq315 hq410 hq488
                exact ⟨i + 1, v562, ls ++ [(n312, n485, n407)], a486, e487, h586.sub ⟨rfl, rfl, rfl, rfl, rfl, rfl, trivial⟩, rfl, by omega, by first | rfl | (simp; omega), by first | rfl | exact hR', hk575', ho582, (row_eq hr584 (rfl)), hB578, hk581⟩
set_option maxRecDepth 100000 in
theorem ropsOf_any (s : ByteArray) (c : Int) (r : Int) (l : List OpT) (x : Int) (w : World) (hsz : s.size ≤ 9223372036854775807) (hof : ofB s = ((c, r, l), x)) :
    Calls Try.prog 76 #[.string s] w fun e w' => ∃ (u : Value), e = .returned (.tuple #[.agg #[.int .i64 c, .int .i64 r, u], .int .i64 x]) ∧ w'.ownsRow w.heap.size 86 3 u l.length (l.flatMap opE) ∧ Below w.heap.size w w' := by
  have hB0 := Below.refl w.heap.size w
  refine co_enter (n := 57) Try.func76 rfl rfl rfl [(0, .string s)] rfl (fun a h0 => ?_)
  refine co_seq ?_
  refine co_reg ?_
  refine pl_want h0 rfl rfl rfl (op_new (v := fun N => .pointer (some ⟨N, 0, none⟩)) (T := 31) (cs := #[.int .i64 0, .int .i64 0, .slice none 0 0]) (by kernel_rfl) (by kernel_rfl) (by kernel_rfl)) ?_; clear h0
  rintro _ w2 a1 ⟨N3, rfl, hN6, hz7, hk5, hg4⟩ h1
  have hB8 := hb_new hB0 hg4
  have hz9 := hB8.size
  have hz10 := hg4.size
  try dsimp only at h1
  refine pl_val (v := .int .i64 0) h1 rfl rfl rfl (by kernel_rfl) (by kernel_rfl) (by kernel_rfl) (fun a11 h11 => ?_); clear h1
  refine pl_nil ?_
  refine co_then ?_
  refine co_seq ?_
  refine co_reg ?_
  refine pl_val (v := .string s) h11 rfl rfl rfl (by kernel_rfl) (by kernel_rfl) (by kernel_rfl) (fun a12 h12 => ?_); clear h11
  refine pl_val (v := .agg #[.string s, .int .i64 0, .int .i64 0]) h12 rfl rfl rfl (by kernel_rfl) (by kernel_rfl) (by kernel_rfl) (fun a13 h13 => ?_); clear h12
  refine pl_want h13 rfl rfl rfl (op_new (v := fun N => .pointer (some ⟨N, 0, none⟩)) (T := 129) (cs := #[.string s, .int .i64 0, .int .i64 0]) (by kernel_rfl) (by kernel_rfl) (by kernel_rfl)) ?_; clear h13
  rintro _ w15 a14 ⟨N16, rfl, hN19, hz20, hk18, hg17⟩ h14
  have hB21 := hb_new hB8 hg17
  have hz22 := hB21.size
  have hz23 := hg17.size
  have hk24 := hk5.kept hg17 (by simp)
  try dsimp only at h14
  refine pl_val (v := .pointer (some ⟨N16, 0, none⟩)) h14 rfl rfl rfl (by kernel_rfl) (by kernel_rfl) (by kernel_rfl) (fun a25 h25 => ?_); clear h14
  refine pl_nil ?_
  refine co_then ?_
  refine co_seq ?_
  refine co_reg ?_
  refine pl_val (v := .agg #[.int .i64 0, .int .i64 0, .slice none 0 0]) h25 rfl rfl rfl (by kernel_rfl) (by kernel_rfl) (by kernel_rfl) (fun a26 h26 => ?_); clear h25
  refine pl_want h26 rfl rfl rfl (op_new (v := fun N => .pointer (some ⟨N, 0, none⟩)) (T := 31) (cs := #[.int .i64 0, .int .i64 0, .slice none 0 0]) (by kernel_rfl) (by kernel_rfl) (by kernel_rfl)) ?_; clear h26
  rintro _ w28 a27 ⟨N29, rfl, hN32, hz33, hk31, hg30⟩ h27
  have hB34 := hb_new hB21 hg30
  have hz35 := hB34.size
  have hz36 := hg30.size
  have hk37 := hk24.kept hg30 (by simp)
  have hk38 := hk18.kept hg30 (by simp)
  try dsimp only at h27
  refine pl_doW h27 rfl rfl (op_storeN rfl rfl rfl (all_cons rfl (all_cons rfl (all_cons rfl all_nil))) (by kernel_rfl) hk31 rfl) ?_; clear h27
  rintro _ w40 a39 ⟨hk41, hz42, hg43⟩ h39
  have hk41' : Blk w40 N29 31 #[.int .i64 0, .int .i64 0, .slice none 0 0] := hk41; clear hk41
  have hB44 := hb_at hB34 hg43 (by omega)
  have hz45 := hB44.size
  have hz46 := hg43.size
  have hk47 := hk37.kept hg43 (by simp; omega)
  have hk48 := hk38.kept hg43 (by simp; omega)
  refine pl_nil ?_
  refine co_then ?_
  refine co_seq ?_
  refine co_reg ?_
  refine pl_val (v := .pointer (some ⟨N16, 0, none⟩)) h39 rfl rfl rfl (by kernel_rfl) (by kernel_rfl) (by kernel_rfl) (fun a49 h49 => ?_); clear h39
  have ho52 := oxr_of hk48
  refine pl_want h49 rfl rfl rfl (op_call (args := #[.pointer (some ⟨N16, 0, none⟩), .int .i64 2]) (R := fun res xw => ∃ (n : Int) (a' e' : Int), res = .int .i64 n ∧ numR s 0 0 2 = (n, a', e') ∧ 0 ≤ n ∧ n ≤ 2 ∧ OXR N16 s a' e' xw ∧ w40.grownBy xw (some N16)) rfl rfl rfl (by kernel_rfl) (by kernel_rfl) (Try.call93 _ _) (oxr_num N16 s 0 0 2 w40 ho52 (by omega) (by omega) (by omega)) (by rintro q x ⟨n, a', e', rfl, h0, k0, k1, h1, h2⟩; exact ⟨_, rfl, n, a', e', rfl, h0, k0, k1, h1, h2⟩)) ?_; clear h49
  rintro _ w51 a50 ⟨n53, a54, e55, rfl, hq56, hn57, hm58, ho59, hg60⟩ h50
  have hB61 := hb_at hB44 hg60 (by omega)
  have hz62 := hB61.size
  have hz63 := hg60.size
  have hk64 := hk47.kept hg60 (by simp; omega)
  have hk65 := hk41'.kept hg60 (by simp; omega)
  have hl66 := ho59.lt
  refine pl_val (v := .pointer (some ⟨N29, 0, none⟩)) h50 rfl rfl rfl (by kernel_rfl) (by kernel_rfl) (by kernel_rfl) (fun a67 h67 => ?_); clear h50
  refine pl_doW h67 rfl rfl (op_store1 rfl rfl rfl rfl Try.sizeOf3 hk65 rfl) ?_; clear h67
  rintro _ w69 a68 ⟨hk70, hz71, hg72⟩ h68
  have hk70' : Blk w69 N29 31 #[.int .i64 n53, .int .i64 0, .slice none 0 0] := hk70; clear hk70
  have hB73 := hb_at hB61 hg72 (by omega)
  have hz74 := hB73.size
  have hz75 := hg72.size
  have hk76 := hk64.kept hg72 (by simp; omega)
  have ho77 := ho59.at (by omega) hg72
  refine pl_nil ?_
  refine co_then ?_
  refine co_seq ?_
  refine co_reg ?_
  refine pl_val (v := .pointer (some ⟨N16, 0, none⟩)) h68 rfl rfl rfl (by kernel_rfl) (by kernel_rfl) (by kernel_rfl) (fun a78 h78 => ?_); clear h68
  refine pl_want h78 rfl rfl rfl (op_call (args := #[.pointer (some ⟨N16, 0, none⟩), .int .i64 1073741824]) (R := fun res xw => ∃ (n : Int) (a' e' : Int), res = .int .i64 n ∧ numR s a54 e55 1073741824 = (n, a', e') ∧ 0 ≤ n ∧ n ≤ 1073741824 ∧ OXR N16 s a' e' xw ∧ w69.grownBy xw (some N16)) rfl rfl rfl (by kernel_rfl) (by kernel_rfl) (Try.call93 _ _) (oxr_num N16 s a54 e55 1073741824 w69 ho77 (by omega) (by omega) (by omega)) (by rintro q x ⟨n, a', e', rfl, h0, k0, k1, h1, h2⟩; exact ⟨_, rfl, n, a', e', rfl, h0, k0, k1, h1, h2⟩)) ?_; clear h78
  rintro _ w80 a79 ⟨n81, a82, e83, rfl, hq84, hn85, hm86, ho87, hg88⟩ h79
  have hB89 := hb_at hB73 hg88 (by omega)
  have hz90 := hB89.size
  have hz91 := hg88.size
  have hk92 := hk76.kept hg88 (by simp; omega)
  have hk93 := hk70'.kept hg88 (by simp; omega)
  have hl94 := ho87.lt
  refine pl_val (v := .pointer (some ⟨N29, 1, none⟩)) h79 rfl rfl rfl (by kernel_rfl) (by kernel_rfl) (by kernel_rfl) (fun a95 h95 => ?_); clear h79
  refine pl_doW h95 rfl rfl (op_store1 rfl rfl rfl rfl Try.sizeOf3 hk93 rfl) ?_; clear h95
  rintro _ w97 a96 ⟨hk98, hz99, hg100⟩ h96
  have hk98' : Blk w97 N29 31 #[.int .i64 n53, .int .i64 n81, .slice none 0 0] := hk98; clear hk98
  have hB101 := hb_at hB89 hg100 (by omega)
  have hz102 := hB101.size
  have hz103 := hg100.size
  have hk104 := hk92.kept hg100 (by simp; omega)
  have ho105 := ho87.at (by omega) hg100
  refine pl_nil ?_
  refine co_then ?_
  refine co_seq ?_
  refine co_reg ?_
  refine pl_val (v := .pointer (some ⟨N16, 0, none⟩)) h96 rfl rfl rfl (by kernel_rfl) (by kernel_rfl) (by kernel_rfl) (fun a106 h106 => ?_); clear h96
  refine pl_want h106 rfl rfl rfl (op_call (args := #[.pointer (some ⟨N16, 0, none⟩), .int .i64 4]) (R := fun res xw => ∃ (n : Int) (a' e' : Int), res = .int .i64 n ∧ numR s a82 e83 4 = (n, a', e') ∧ 0 ≤ n ∧ n ≤ 4 ∧ OXR N16 s a' e' xw ∧ w97.grownBy xw (some N16)) rfl rfl rfl (by kernel_rfl) (by kernel_rfl) (Try.call93 _ _) (oxr_num N16 s a82 e83 4 w97 ho105 (by omega) (by omega) (by omega)) (by rintro q x ⟨n, a', e', rfl, h0, k0, k1, h1, h2⟩; exact ⟨_, rfl, n, a', e', rfl, h0, k0, k1, h1, h2⟩)) ?_; clear h106
  rintro _ w108 a107 ⟨n109, a110, e111, rfl, hq112, hn113, hm114, ho115, hg116⟩ h107
  have hB117 := hb_at hB101 hg116 (by omega)
  have hz118 := hB117.size
  have hz119 := hg116.size
  have hk120 := hk104.kept hg116 (by simp; omega)
  have hk121 := hk98'.kept hg116 (by simp; omega)
  have hl122 := ho115.lt
  refine pl_val (v := .int .i64 n109) h107 rfl rfl rfl (by kernel_rfl) (by kernel_rfl) (by kernel_rfl) (fun a123 h123 => ?_); clear h107
  refine pl_nil ?_
  refine co_then ?_
  refine co_seq ?_
  refine co_seq ?_
  refine co_reg ?_
  refine pl_val (v := .int .i64 0) h123 rfl rfl rfl (by kernel_rfl) (by kernel_rfl) (by kernel_rfl) (fun a124 h124 => ?_); clear h123
  refine pl_nil ?_
  refine co_then ?_
  refine wp_block ?_
  have h125 : Slots 57 [(2, .pointer (some ⟨N3, 0, none⟩)), (3, .int .i64 0), (4, .pointer (some ⟨N16, 0, none⟩)), (5, .pointer (some ⟨N29, 0, none⟩)), (6, .int .i64 n109), (7, .int .i64 0)] _ := h124.sub ⟨rfl, rfl, rfl, rfl, rfl, rfl, trivial⟩; clear h124
  refine co_loop (fun mm a x => ∃ (i : Nat) (u : Value) (ls : List OpT) (ps : Int) (er : Int), Slots 57 [(2, .pointer (some ⟨N3, 0, none⟩)), (3, .int .i64 0), (4, .pointer (some ⟨N16, 0, none⟩)), (5, .pointer (some ⟨N29, 0, none⟩)), (6, .int .i64 n109), (7, .int .i64 ((i : Nat) : Int))] a ∧ mm = n109.toNat - i ∧ (((i : Nat) : Int) ≤ n109) ∧ (ls.length = i) ∧ (rdN s i ([], a110, e111) = (ls, ps, er)) ∧ Blk x N29 31 #[.int .i64 n53, .int .i64 n81, u] ∧ OXR N16 s ps er x ∧ x.ownsRow (N29 + 1) 86 3 u ls.length (ls.flatMap opE) ∧ Below w.heap.size w x ∧ Blk x N3 31 #[.int .i64 0, .int .i64 0, .slice none 0 0]) (n109.toNat - 0) ?_ ?_
  · exact ⟨0, (.slice none 0 0), [], a110, e111, h125.sub ⟨rfl, rfl, rfl, rfl, rfl, (slot_eq rfl (congrArg (Value.int .i64) (by first | rfl | omega))), trivial⟩, rfl, by omega, by first | rfl | (simp; omega), by first | rfl | exact hR', hk121, ho115, (row_nilL _ _ _ _ _), hB117, hk120⟩
  · rintro k126 a127 w128 ⟨i, u, ls, ps, er, h127, rfl, hi129, hi130, hi131, hf132, hf133, hf134, hB135, hk136⟩
    have hz137 := hB135.size
    have hl138 := hk136.lt
    have hl139 := hf132.lt
    have hl140 := hf133.lt
    have hR : rdN s i ([], a110, e111) = (ls, ps, er) := by assumption
    refine co_seq ?_
    refine co_seq ?_
    refine co_reg ?_
    refine pl_val (v := .int .i64 ((i : Nat) : Int)) h127 rfl rfl rfl (by kernel_rfl) (by kernel_rfl) (by kernel_rfl) (fun a141 h141 => ?_); clear h127
    refine pl_val (v := .int .i64 n109) h141 rfl rfl rfl (by kernel_rfl) (by kernel_rfl) (by kernel_rfl) (fun a142 h142 => ?_); clear h141
    refine pl_val (v := .bool (decide (((i : Nat) : Int) < n109))) h142 rfl rfl rfl (by kernel_rfl) (by kernel_rfl) (by kernel_rfl) (fun a143 h143 => ?_); clear h142
    refine pl_nil ?_
    refine co_then ?_
    cases hc144 : (decide (((i : Nat) : Int) < n109))
    ·
      rw [hc144] at h143
      have hp145 : ¬ (((i : Nat) : Int) < n109) := of_decide_eq_false hc144
      clear hc144
      refine co_false h143 rfl ?_
      refine wp_exit ?_
      refine co_thenX ?_
      refine co_thenX ?_
      refine co_blockX ?_
      refine co_then ?_
      refine co_seq ?_
      refine co_seq ?_
      refine co_reg ?_
      refine pl_val (v := .pointer (some ⟨N16, 0, none⟩)) h143 rfl rfl rfl (by kernel_rfl) (by kernel_rfl) (by kernel_rfl) (fun a146 h146 => ?_); clear h143
      refine pl_want h146 rfl rfl rfl (op_call (args := #[.pointer (some ⟨N16, 0, none⟩)]) (R := fun res xw => ∃ r : Int, res = .int .i64 r ∧ endV s ps.toNat er = r ∧ Below w128.heap.size w128 xw) rfl rfl rfl (by kernel_rfl) (by kernel_rfl) (Try.call75 _ _) (oxr_end N16 s ps er w128 hf133 (by omega)) (by rintro e x ⟨r, rfl, h0, h2⟩; exact ⟨_, rfl, r, rfl, h0, h2⟩)) ?_; clear h146
      rintro _ w148 a147 ⟨r149, rfl, hq150, hb151⟩ h147
      have hB152 := hb_call hB135 hb151
      have hz153 := hB152.size
      have hz154 := hb151.size
      have hk155 := hk136.below hb151
      have hk156 := hf132.below hb151
      have ho157 := hf133.below hb151
      have hr158 := row_kept_new hf134 (below_grown hb151)
      refine pl_val (v := .int .i64 r149) h147 rfl rfl rfl (by kernel_rfl) (by kernel_rfl) (by kernel_rfl) (fun a159 h159 => ?_); clear h147
      refine pl_nil ?_
      refine co_then ?_
      refine co_seq ?_
      refine co_reg ?_
      refine pl_val (v := .int .i64 r149) h159 rfl rfl rfl (by kernel_rfl) (by kernel_rfl) (by kernel_rfl) (fun a160 h160 => ?_); clear h159
      refine pl_val (v := .bool (r149 != 0)) h160 rfl rfl rfl (by kernel_rfl) (by kernel_rfl) (by kernel_rfl) (fun a161 h161 => ?_); clear h160
      refine pl_nil ?_
      refine co_then ?_
      cases hc162 : (r149 != 0)
      ·
        rw [hc162] at h161
        have hp163 : ¬ (r149 ≠ 0) := by first | simpa using hc162 | simpa [and_assoc] using hc162
        clear hc162
        refine co_false h161 rfl ?_
        refine wp_skip ?_
        refine co_then ?_
        refine co_seq ?_
        refine co_seq ?_
        refine co_reg ?_
        refine pl_val (v := .agg #[.int .i64 n53, .int .i64 n81, u]) h161 rfl rfl rfl (by kernel_rfl) (by kernel_rfl) (rn_loadN rfl rfl Try.underlying31 rfl (by kernel_rfl) hk156.all) (fun a164 h164 => ?_); clear h161
        refine pl_want h164 rfl rfl rfl (op_call (args := #[.agg #[.int .i64 n53, .int .i64 n81, u]]) (R := fun res xw => res = .int .i64 (chkB n53 n81 ls) ∧ Below w148.heap.size w148 xw) rfl rfl rfl (by kernel_rfl) (by kernel_rfl) (Try.call64 _ _) (ropsCheck_any n53 n81 u ls w148 (row_sl hr158 opE_len)) (by rintro e x ⟨rfl, hb167⟩; exact ⟨_, rfl, ⟨rfl, hb167⟩⟩)) ?_; clear h164
        rintro _ w166 a165 ⟨rfl, hb167⟩ h165
        have hB168 := hb_call hB152 hb167
        have hz169 := hB168.size
        have hz170 := hb167.size
        have hk171 := hk155.below hb167
        have hk172 := hk156.below hb167
        have ho173 := ho157.below hb167
        have hr174 := row_kept_new hr158 (below_grown hb167)
        refine pl_val (v := .int .i64 (chkB n53 n81 ls)) h165 rfl rfl rfl (by kernel_rfl) (by kernel_rfl) (by kernel_rfl) (fun a175 h175 => ?_); clear h165
        refine pl_nil ?_
        refine co_then ?_
        refine co_seq ?_
        refine co_reg ?_
        refine pl_val (v := .int .i64 (chkB n53 n81 ls)) h175 rfl rfl rfl (by kernel_rfl) (by kernel_rfl) (by kernel_rfl) (fun a176 h176 => ?_); clear h175
        refine pl_val (v := .bool (chkB n53 n81 ls != 0)) h176 rfl rfl rfl (by kernel_rfl) (by kernel_rfl) (by kernel_rfl) (fun a177 h177 => ?_); clear h176
        refine pl_nil ?_
        refine co_then ?_
        cases hc178 : (chkB n53 n81 ls != 0)
        ·
          rw [hc178] at h177
          have hp179 : ¬ (chkB n53 n81 ls ≠ 0) := by first | simpa using hc178 | simpa [and_assoc] using hc178
          clear hc178
          refine co_false h177 rfl ?_
          refine wp_skip ?_
          refine co_then ?_
          refine co_seq ?_
          refine co_reg ?_
          refine pl_val (v := .agg #[.int .i64 n53, .int .i64 n81, u]) h177 rfl rfl rfl (by kernel_rfl) (by kernel_rfl) (rn_loadN rfl rfl Try.underlying31 rfl (by kernel_rfl) hk172.all) (fun a180 h180 => ?_); clear h177
          refine pl_doW h180 rfl rfl (op_storeN rfl rfl rfl (all_cons rfl (all_cons rfl (all_cons (row_one hr174) all_nil))) (by kernel_rfl) hk171 rfl) ?_; clear h180
          rintro _ w182 a181 ⟨hk183, hz184, hg185⟩ h181
          have hk183' : Blk w182 N3 31 #[.int .i64 n53, .int .i64 n81, u] := hk183; clear hk183
          have hB186 := hb_at hB168 hg185 (by omega)
          have hz187 := hB186.size
          have hz188 := hg185.size
          have hk189 := hk172.kept hg185 (by simp; omega)
          have ho190 := ho173.at (by omega) hg185
          have hr191 := row_kept_at hr174 hg185 (row_ne_lt hr174 (by omega))
          refine pl_val (v := .int .i64 0) h181 rfl rfl rfl (by kernel_rfl) (by kernel_rfl) (by kernel_rfl) (fun a192 h192 => ?_); clear h181
          refine pl_nil ?_
          refine co_then ?_
          refine wp_ret ?_
          refine co_retC1 (Q := fun _ _ _ => True) h192 rfl rfl rfl hk183' Try.underlying31 rfl (by kernel_rfl) ?_
          cases hof.symm.trans ((ofB_at hq56 hq84 hq112 hR (by omega) hq150).trans (ofEnd_c (by assumption) (by assumption)))
          exact ⟨_, rfl, (row_lows hr191 (by omega)), hB186⟩
        ·
          rw [hc178] at h177
          have hp193 : chkB n53 n81 ls ≠ 0 := by first | simpa using hc178 | simpa [and_assoc] using hc178
          clear hc178
          refine co_true h177 rfl ?_
          refine co_seq ?_
          refine co_reg ?_
          refine pl_val (v := .agg #[.int .i64 0, .int .i64 0, .slice none 0 0]) h177 rfl rfl rfl (by kernel_rfl) (by kernel_rfl) (by kernel_rfl) (fun a194 h194 => ?_); clear h177
          refine pl_val (v := .int .i64 (chkB n53 n81 ls)) h194 rfl rfl rfl (by kernel_rfl) (by kernel_rfl) (by kernel_rfl) (fun a195 h195 => ?_); clear h194
          refine pl_doW h195 rfl rfl (op_storeN rfl rfl rfl (all_cons rfl (all_cons rfl (all_cons rfl all_nil))) (by kernel_rfl) hk171 rfl) ?_; clear h195
          rintro _ w197 a196 ⟨hk198, hz199, hg200⟩ h196
          have hk198' : Blk w197 N3 31 #[.int .i64 0, .int .i64 0, .slice none 0 0] := hk198; clear hk198
          have hB201 := hb_at hB168 hg200 (by omega)
          have hz202 := hB201.size
          have hz203 := hg200.size
          have hk204 := hk172.kept hg200 (by simp; omega)
          have ho205 := ho173.at (by omega) hg200
          have hr206 := row_kept_at hr174 hg200 (row_ne_lt hr174 (by omega))
          refine pl_val (v := .int .i64 (chkB n53 n81 ls)) h196 rfl rfl rfl (by kernel_rfl) (by kernel_rfl) (by kernel_rfl) (fun a207 h207 => ?_); clear h196
          refine pl_nil ?_
          refine co_then ?_
          refine wp_ret ?_
          refine co_thenR ?_
          refine co_retC1 (Q := fun _ _ _ => True) h207 rfl rfl rfl hk198' Try.underlying31 rfl (by kernel_rfl) ?_
          cases hof.symm.trans ((ofB_at hq56 hq84 hq112 hR (by omega) hq150).trans (ofEnd_b (by assumption) (by assumption)))
          exact ⟨_, rfl, (row_nilL _ _ _ _ _), hB201⟩
      ·
        rw [hc162] at h161
        have hp208 : r149 ≠ 0 := by first | simpa using hc162 | simpa [and_assoc] using hc162
        clear hc162
        refine co_true h161 rfl ?_
        refine co_seq ?_
        refine co_reg ?_
        refine pl_val (v := .agg #[.int .i64 0, .int .i64 0, .slice none 0 0]) h161 rfl rfl rfl (by kernel_rfl) (by kernel_rfl) (by kernel_rfl) (fun a209 h209 => ?_); clear h161
        refine pl_val (v := .int .i64 r149) h209 rfl rfl rfl (by kernel_rfl) (by kernel_rfl) (by kernel_rfl) (fun a210 h210 => ?_); clear h209
        refine pl_doW h210 rfl rfl (op_storeN rfl rfl rfl (all_cons rfl (all_cons rfl (all_cons rfl all_nil))) (by kernel_rfl) hk155 rfl) ?_; clear h210
        rintro _ w212 a211 ⟨hk213, hz214, hg215⟩ h211
        have hk213' : Blk w212 N3 31 #[.int .i64 0, .int .i64 0, .slice none 0 0] := hk213; clear hk213
        have hB216 := hb_at hB152 hg215 (by omega)
        have hz217 := hB216.size
        have hz218 := hg215.size
        have hk219 := hk156.kept hg215 (by simp; omega)
        have ho220 := ho157.at (by omega) hg215
        have hr221 := row_kept_at hr158 hg215 (row_ne_lt hr158 (by omega))
        refine pl_val (v := .int .i64 r149) h211 rfl rfl rfl (by kernel_rfl) (by kernel_rfl) (by kernel_rfl) (fun a222 h222 => ?_); clear h211
        refine pl_nil ?_
        refine co_then ?_
        refine wp_ret ?_
        refine co_thenR ?_
        refine co_retC1 (Q := fun _ _ _ => True) h222 rfl rfl rfl hk213' Try.underlying31 rfl (by kernel_rfl) ?_
        cases hof.symm.trans ((ofB_at hq56 hq84 hq112 hR (by omega) hq150).trans (ofEnd_a (by assumption)))
        exact ⟨_, rfl, (row_nilL _ _ _ _ _), hB216⟩
    ·
      rw [hc144] at h143
      have hp223 : ((i : Nat) : Int) < n109 := of_decide_eq_true hc144
      clear hc144
      refine co_true h143 rfl ?_
      refine wp_skip ?_
      refine co_then ?_
      refine co_seq ?_
      refine wp_block ?_
      refine co_seq ?_
      refine co_reg ?_
      refine pl_val (v := .agg #[.string (⟨#[]⟩), .string (⟨#[]⟩), .bool false]) h143 rfl rfl rfl (by kernel_rfl) (by kernel_rfl) (by kernel_rfl) (fun a224 h224 => ?_); clear h143
      refine pl_want h224 rfl rfl rfl (op_new (v := fun N => .pointer (some ⟨N, 0, none⟩)) (T := 86) (cs := #[.string (⟨#[]⟩), .string (⟨#[]⟩), .bool false]) (by kernel_rfl) (by kernel_rfl) (by kernel_rfl)) ?_; clear h224
      rintro _ w226 a225 ⟨N227, rfl, hN230, hz231, hk229, hg228⟩ h225
      have ha232 := row_fresh hf134 hN230
      have hB233 := hb_new hB135 hg228
      have hz234 := hB233.size
      have hz235 := hg228.size
      have hk236 := hk136.kept hg228 (by simp)
      have hk237 := hf132.kept hg228 (by simp)
      have ho238 := hf133.new hg228
      have hr239 := row_kept_new hf134 hg228
      try dsimp only at h225
      refine pl_doW h225 rfl rfl (op_storeN rfl rfl rfl (by kernel_rfl) (by kernel_rfl) hk229 rfl) ?_; clear h225
      rintro _ w241 a240 ⟨hk242, hz243, hg244⟩ h240
      have hk242' : Blk w241 N227 86 #[.string (⟨#[]⟩), .string (⟨#[]⟩), .bool false] := hk242; clear hk242
      have hB245 := hb_at hB233 hg244 (by omega)
      have hz246 := hB245.size
      have hz247 := hg244.size
      have hk248 := hk236.kept hg244 (by simp; omega)
      have hk249 := hk237.kept hg244 (by simp; omega)
      have ho250 := ho238.at (by omega) hg244
      have hr251 := row_kept_at hr239 hg244 (ha232)
      refine pl_nil ?_
      refine co_then ?_
      refine co_seq ?_
      refine co_reg ?_
      refine pl_val (v := .pointer (some ⟨N16, 0, none⟩)) h240 rfl rfl rfl (by kernel_rfl) (by kernel_rfl) (by kernel_rfl) (fun a252 h252 => ?_); clear h240
      refine pl_want h252 rfl rfl rfl (op_call (args := #[.pointer (some ⟨N16, 0, none⟩), .int .i64 8]) (R := fun res xw => ∃ (n : ByteArray) (a' e' : Int), res = .string n ∧ textR s ps er 8 = (n, a', e') ∧ (n.size : Int) ≤ 8 ∧ OXR N16 s a' e' xw ∧ w241.grownBy xw (some N16)) rfl rfl rfl (by kernel_rfl) (by kernel_rfl) (Try.call74 _ _) (oxr_text N16 s ps er 8 w241 ho250 (by omega) (by omega) (by omega)) (by rintro q x ⟨n, a', e', rfl, h0, k0, h1, h2⟩; exact ⟨_, rfl, n, a', e', rfl, h0, k0, h1, h2⟩)) ?_; clear h252
      rintro _ w254 a253 ⟨n255, a256, e257, rfl, hq258, hn259, ho261, hg262⟩ h253
      have hB263 := hb_at hB245 hg262 (by omega)
      have hz264 := hB263.size
      have hz265 := hg262.size
      have hk266 := hk248.kept hg262 (by simp; omega)
      have hk267 := hk249.kept hg262 (by simp; omega)
      have hr268 := row_kept_at hr251 hg262 (row_ne_lt hr251 (by omega))
      have hk269 := hk242'.kept hg262 (by simp; omega)
      have hl270 := ho261.lt
      refine pl_val (v := .pointer (some ⟨N227, 0, none⟩)) h253 rfl rfl rfl (by kernel_rfl) (by kernel_rfl) (by kernel_rfl) (fun a271 h271 => ?_); clear h253
      refine pl_doW h271 rfl rfl (op_store1 rfl rfl rfl rfl Try.sizeOf9 hk269 rfl) ?_; clear h271
      rintro _ w273 a272 ⟨hk274, hz275, hg276⟩ h272
      have hk274' : Blk w273 N227 86 #[.string n255, .string (⟨#[]⟩), .bool false] := hk274; clear hk274
      have hB277 := hb_at hB263 hg276 (by omega)
      have hz278 := hB277.size
      have hz279 := hg276.size
      have hk280 := hk266.kept hg276 (by simp; omega)
      have hk281 := hk267.kept hg276 (by simp; omega)
      have hr282 := row_kept_at hr268 hg276 (ha232)
      have ho283 := ho261.at (by omega) hg276
      refine pl_nil ?_
      refine co_then ?_
      refine co_seq ?_
      refine co_reg ?_
      refine pl_val (v := .pointer (some ⟨N16, 0, none⟩)) h272 rfl rfl rfl (by kernel_rfl) (by kernel_rfl) (by kernel_rfl) (fun a284 h284 => ?_); clear h272
      refine pl_want h284 rfl rfl rfl (op_call (args := #[.pointer (some ⟨N16, 0, none⟩)]) (R := fun res xw => ∃ (n : Bool) (a' e' : Int), res = .bool n ∧ flagR s a256.toNat e257 = (n, a', e') ∧ OXR N16 s a' e' xw ∧ w273.grownBy xw (some N16)) rfl rfl rfl (by kernel_rfl) (by kernel_rfl) (Try.call120 _ _) (oxr_flag N16 s a256 e257 w273 ho283 (by omega)) (by rintro q x ⟨n, a', e', rfl, h0, h1, h2⟩; exact ⟨_, rfl, n, a', e', rfl, h0, h1, h2⟩)) ?_; clear h284
      rintro _ w286 a285 ⟨n287, a288, e289, rfl, hq290, ho293, hg294⟩ h285
      have hB295 := hb_at hB277 hg294 (by omega)
      have hz296 := hB295.size
      have hz297 := hg294.size
      have hk298 := hk280.kept hg294 (by simp; omega)
      have hk299 := hk281.kept hg294 (by simp; omega)
      have hr300 := row_kept_at hr282 hg294 (row_ne_lt hr282 (by omega))
      have hk301 := hk274'.kept hg294 (by simp; omega)
      have hl302 := ho293.lt
      refine pl_val (v := .pointer (some ⟨N227, 2, none⟩)) h285 rfl rfl rfl (by kernel_rfl) (by kernel_rfl) (by kernel_rfl) (fun a303 h303 => ?_); clear h285
      refine pl_doW h303 rfl rfl (op_store1 rfl rfl rfl rfl Try.sizeOf4 hk301 rfl) ?_; clear h303
      rintro _ w305 a304 ⟨hk306, hz307, hg308⟩ h304
      have hk306' : Blk w305 N227 86 #[.string n255, .string (⟨#[]⟩), .bool n287] := hk306; clear hk306
      have hB309 := hb_at hB295 hg308 (by omega)
      have hz310 := hB309.size
      have hz311 := hg308.size
      have hk312 := hk298.kept hg308 (by simp; omega)
      have hk313 := hk299.kept hg308 (by simp; omega)
      have hr314 := row_kept_at hr300 hg308 (ha232)
      have ho315 := ho293.at (by omega) hg308
      refine pl_nil ?_
      refine co_then ?_
      refine co_seq ?_
      refine co_reg ?_
      refine pl_val (v := .pointer (some ⟨N16, 0, none⟩)) h304 rfl rfl rfl (by kernel_rfl) (by kernel_rfl) (by kernel_rfl) (fun a316 h316 => ?_); clear h304
      refine pl_want h316 rfl rfl rfl (op_call (args := #[.pointer (some ⟨N16, 0, none⟩), .int .i64 8]) (R := fun res xw => ∃ (n : ByteArray) (a' e' : Int), res = .string n ∧ textR s a288 e289 8 = (n, a', e') ∧ (n.size : Int) ≤ 8 ∧ OXR N16 s a' e' xw ∧ w305.grownBy xw (some N16)) rfl rfl rfl (by kernel_rfl) (by kernel_rfl) (Try.call74 _ _) (oxr_text N16 s a288 e289 8 w305 ho315 (by omega) (by omega) (by omega)) (by rintro q x ⟨n, a', e', rfl, h0, k0, h1, h2⟩; exact ⟨_, rfl, n, a', e', rfl, h0, k0, h1, h2⟩)) ?_; clear h316
      rintro _ w318 a317 ⟨n319, a320, e321, rfl, hq322, hn323, ho325, hg326⟩ h317
      have hB327 := hb_at hB309 hg326 (by omega)
      have hz328 := hB327.size
      have hz329 := hg326.size
      have hk330 := hk312.kept hg326 (by simp; omega)
      have hk331 := hk313.kept hg326 (by simp; omega)
      have hr332 := row_kept_at hr314 hg326 (row_ne_lt hr314 (by omega))
      have hk333 := hk306'.kept hg326 (by simp; omega)
      have hl334 := ho325.lt
      refine pl_val (v := .pointer (some ⟨N227, 1, none⟩)) h317 rfl rfl rfl (by kernel_rfl) (by kernel_rfl) (by kernel_rfl) (fun a335 h335 => ?_); clear h317
      refine pl_doW h335 rfl rfl (op_store1 rfl rfl rfl rfl Try.sizeOf9 hk333 rfl) ?_; clear h335
      rintro _ w337 a336 ⟨hk338, hz339, hg340⟩ h336
      have hk338' : Blk w337 N227 86 #[.string n255, .string n319, .bool n287] := hk338; clear hk338
      have hB341 := hb_at hB327 hg340 (by omega)
      have hz342 := hB341.size
      have hz343 := hg340.size
      have hk344 := hk330.kept hg340 (by simp; omega)
      have hk345 := hk331.kept hg340 (by simp; omega)
      have hr346 := row_kept_at hr332 hg340 (ha232)
      have ho347 := ho325.at (by omega) hg340
      refine pl_nil ?_
      refine co_then ?_
      refine co_reg ?_
      refine pl_val (v := .pointer (some ⟨N29, 2, none⟩)) h336 rfl rfl rfl (by kernel_rfl) (by kernel_rfl) (by kernel_rfl) (fun a348 h348 => ?_); clear h336
      refine pl_val (v := u) h348 rfl rfl rfl (by kernel_rfl) (by kernel_rfl) (rn_load1 rfl rfl Try.isAgg23 (hk345.cell rfl)) (fun a349 h349 => ?_); clear h348
      refine pl_val (v := .agg #[.string n255, .string n319, .bool n287]) h349 rfl rfl rfl (by kernel_rfl) (by kernel_rfl) (rn_loadN rfl rfl Try.underlying86 rfl (by kernel_rfl) hk338'.all) (fun a350 h350 => ?_); clear h349
      refine pl_want h350 rfl rfl rfl (op_new (v := fun N => .slice (some ⟨N, 0, none⟩) 1 1) (T := 86) (cs := #[.string n255, .string n319, .bool n287]) (by kernel_rfl) (by kernel_rfl) (by kernel_rfl)) ?_; clear h350
      rintro _ w352 a351 ⟨N353, rfl, hN356, hz357, hk355, hg354⟩ h351
      have ha358 := row_fresh hr346 hN356
      have hB359 := hb_new hB341 hg354
      have hz360 := hB359.size
      have hz361 := hg354.size
      have hk362 := hk344.kept hg354 (by simp)
      have hk363 := hk345.kept hg354 (by simp)
      have hr364 := row_kept_new hr346 hg354
      have ho365 := ho347.new hg354
      have hk366 := hk338'.kept hg354 (by simp)
      try dsimp only at h351
      refine pl_want h351 rfl rfl rfl (op_append rfl (N29 + 1) 86 (z := .agg #[.string (⟨#[]⟩), .string (⟨#[]⟩), .bool false]) (size := 3) (bytes := 40) Try.underlying23 (by kernel_rfl) rfl rfl rfl hr364 rfl hk355 rfl (by kernel_rfl) (by first | omega | (simp only [List.length_nil, List.length_append, List.length_cons, List.length_take, List.length_drop]; omega)) (by first | omega | (simp only [List.length_nil, List.length_append, List.length_cons, List.length_take, List.length_drop]; omega)) (by omega)) ?_; clear h351
      rintro v369 w368 a367 ⟨hr370, hg371⟩ h367
      have hr370' : w368.ownsRow (N29 + 1) 86 3 v369 ((ls ++ [(n255, n319, n287)]).length) ((ls ++ [(n255, n319, n287)]).flatMap opE) := row_push (y := (n255, n319, n287)) hr370 rfl rfl; clear hr370
      have hB372 := hb_row hB359 hr364 (by omega) hg371
      have hz373 := hB372.size
      have hz374 := hg371.size
      have hk375 := hk362.kept hg371 (row_ne_lt hr364 (by omega))
      have hk376 := hk363.kept hg371 (row_ne_lt hr364 (by omega))
      have ho377 := ho365.row (row_ne_lt hr364 (by omega)) hg371
      have hk378 := hk366.kept hg371 (ha232)
      have hk379 := hk355.kept hg371 (ha358)
      refine pl_val (v := .pointer (some ⟨N29, 2, none⟩)) h367 rfl rfl rfl (by kernel_rfl) (by kernel_rfl) (by kernel_rfl) (fun a380 h380 => ?_); clear h367
      refine pl_doW h380 rfl rfl (op_store1 rfl rfl rfl (row_one hr370') Try.sizeOf23 hk376 rfl) ?_; clear h380
      rintro _ w382 a381 ⟨hk383, hz384, hg385⟩ h381
      have hk383' : Blk w382 N29 31 #[.int .i64 n53, .int .i64 n81, v369] := hk383; clear hk383
      have hB386 := hb_at hB372 hg385 (by omega)
      have hz387 := hB386.size
      have hz388 := hg385.size
      have hk389 := hk375.kept hg385 (by simp; omega)
      have ho390 := ho377.at (by omega) hg385
      have hk391 := hk378.kept hg385 (by simp; omega)
      have hk392 := hk379.kept hg385 (by simp; omega)
      have hr393 := row_kept_at hr370' hg385 (row_ne_lt hr370' (by omega))
      refine pl_nil ?_
      refine co_blockN ?_
      refine co_then ?_
      refine co_reg ?_
      refine pl_val (v := .int .i64 ((i : Nat) : Int)) h381 rfl rfl rfl (by kernel_rfl) (by kernel_rfl) (by kernel_rfl) (fun a394 h394 => ?_); clear h381
      refine pl_val (v := .int .i64 ((i + 1 : Nat) : Int)) h394 rfl rfl rfl (by kernel_rfl) (by kernel_rfl) (rn_arith' rfl rfl rfl rfl rfl rfl (IntWalk.i64_in _ (by omega)) (by omega)) (fun a395 h395 => ?_); clear h394
      refine pl_val (v := .int .i64 ((i + 1 : Nat) : Int)) h395 rfl rfl rfl (by kernel_rfl) (by kernel_rfl) (by kernel_rfl) (fun a396 h396 => ?_); clear h395
      refine pl_nil ?_
      refine co_then ?_
      refine ⟨(n109.toNat - (i + 1)), by omega, ?_⟩
      have hR' := rdN_step hR hq258 hq290 hq322
      exact ⟨i + 1, v369, ls ++ [(n255, n319, n287)], a320, e321, h396.sub ⟨rfl, rfl, rfl, rfl, rfl, rfl, trivial⟩, rfl, by omega, by first | rfl | (simp; omega), by first | rfl | exact hR', hk383', ho390, (row_eq hr393 (rfl)), hB386, hk389⟩
end Go.Proofs.Yteioaaegooebpaa
