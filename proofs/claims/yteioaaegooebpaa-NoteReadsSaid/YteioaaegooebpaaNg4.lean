/- Put together: NoteE, NoteF. Conditions: as each says. -/
import Derived.Test.YteioaaegooebpaaNg3
/- Package note: Of. Conditions: none. -/
namespace Go.Proofs.Yteioaaegooebpaa
open Go.RowKit Go.PlainAid
set_option linter.unusedVariables false


theorem numR_e {s : ByteArray} {a x m n a1 e1 : Int} (h : numR s a x m = (n, a1, e1)) : e1 ≠ 0 → n = 0 := fun he => by
  unfold numR at h
  split at h
  · cases h; rfl
  · cases h
    rename_i h1
    split
    · rename_i h2; exact absurd h2 he
    · rfl
theorem ofC_ok (s : ByteArray) : (∀ m ∈ (ofC s).1.2.1, memOk m) ∧ (-9223372036854775808 ≤ (ofC s).1.1 ∧ (ofC s).1.1 ≤ 9223372036854775807) ∧ (0 ≤ (ofC s).1.2.2 ∧ (ofC s).1.2.2 < 18446744073709551616) := by
  unfold ofC
  split
  · have h1 := numR_bd s 0 0 1073741824 (by omega)
    refine ⟨ofRows_ok _ _ _ _ _ (by simp), ⟨?_, ?_⟩, bigR_bd _ _ _⟩
    · show _ ≤ (numR s 0 0 1073741824).1; omega
    · show (numR s 0 0 1073741824).1 ≤ _; omega
  · exact ⟨by simp, by simp, by simp⟩
theorem ofE_ok (s : ByteArray) : 0 ≤ (ofE s).1.2.2.2 ∧ (ofE s).1.2.2.2 < 18446744073709551616 := by
  have hb := bigR_le (s := s) (a := 0) (x := 0)
  show 0 ≤ (ofEndE _ _ _).1.2.2.2 ∧ (ofEndE _ _ _).1.2.2.2 < _
  unfold ofEndE
  split
  · exact ⟨Int.le_refl _, by show (0 : Int) < _; decide⟩
  · split
    · exact ⟨Int.le_refl _, by show (0 : Int) < _; decide⟩
    · exact hb
theorem whC_ok (s : ByteArray) (a e : Int) : (∀ m ∈ (whC s a e).1.2.1, memOk m) ∧ (-9223372036854775808 ≤ (whC s a e).1.1 ∧ (whC s a e).1.1 ≤ 9223372036854775807) ∧ (0 ≤ (whC s a e).1.2.2 ∧ (whC s a e).1.2.2 < 18446744073709551616) := by
  unfold whC
  simp only
  split
  · exact ⟨by simp, by simp, by simp⟩
  · exact ofC_ok _
theorem whE_ok (s : ByteArray) (a e : Int) : 0 ≤ (whE s a e).1.2.2.2 ∧ (whE s a e).1.2.2.2 < 18446744073709551616 := by
  unfold whE
  simp only
  split
  · exact ⟨Int.le_refl _, by show (0 : Int) < _; decide⟩
  · exact ofE_ok _
theorem rdNote_R (s : ByteArray) (k a e : Int) : NoteR (rdNote s k a e).1 := by
  have hz : ∀ x : Int, 0 ≤ (bigR s x 0).1 ∧ True := fun x => ⟨(bigR_bd s x 0).1, trivial⟩
  have c0 : (-9223372036854775808 : Int) ≤ 0 ∧ (0 : Int) ≤ 9223372036854775807 := by decide
  have u0 : (0 : Int) ≤ 0 ∧ (0 : Int) < 18446744073709551616 := by decide
  unfold rdNote
  split
  · simp only
    have h := whC_ok s a e
    split
    · exact ⟨h.1, h.2.1, h.2.2, u0, u0, u0⟩
    · exact ⟨h.1, h.2.1, h.2.2, u0, u0, u0⟩
  split
  · simp only
    exact ⟨by simp [zE], c0, u0, u0, whE_ok _ _ _, u0⟩
  split
  · simp only
    exact ⟨by simp [zT], c0, u0, bigR_bd _ _ _, u0, u0⟩
  split
  · simp only
    exact ⟨by simp [zT], c0, u0, bigR_bd _ _ _, u0, u0⟩
  split
  · exact ⟨by simp [zT], c0, u0, u0, u0, u0⟩
  split
  · simp only
    exact ⟨by simp [zP], c0, u0, u0, u0, bigR_bd _ _ _⟩
  split
  · exact ⟨by simp [zS], c0, u0, u0, u0, u0⟩
  · exact zN_R k
def nEnd (s : ByteArray) (q : NoteD × Int × Int × Int) : NoteD × Int :=
  if q.2.2.2 ≠ 0 then (zN 0, q.2.2.2) else if endV s q.2.1.toNat q.2.2.1 ≠ 0 then (zN 0, endV s q.2.1.toNat q.2.2.1) else if chkN q.1 ≠ 0 then (zN 0, chkN q.1) else (q.1, 0)
def noteOf (s : ByteArray) : NoteD × Int :=
  let h := numR s 0 0 8
  if h.2.2 ≠ 0 then (zN 0, h.2.2) else if ¬ (1 ≤ h.1 ∧ h.1 ≤ 8) then (zN 0, 11) else nEnd s (rdNote s h.1 h.2.1 h.2.2)
theorem nOf_e {s : ByteArray} {k a e : Int} (h : numR s 0 0 8 = (k, a, e)) (he : e ≠ 0) : noteOf s = (zN 0, e) := by unfold noteOf; simp only [h]; rw [if_pos he]
theorem nOf_k {s : ByteArray} {k a e : Int} (h : numR s 0 0 8 = (k, a, e)) (he : ¬ e ≠ 0) (hk : ¬ (1 ≤ k ∧ k ≤ 8)) : noteOf s = (zN 0, 11) := by unfold noteOf; simp only [h]; rw [if_neg he, if_pos hk]
theorem nOf_q {s : ByteArray} {k a e a1 e1 r : Int} {d : NoteD} {z : NoteD × Int} (h : numR s 0 0 8 = (k, a, e)) (he : ¬ e ≠ 0) (hk : 1 ≤ k ∧ k ≤ 8) (hq : rdNote s k a e = (d, a1, e1, r)) (hz : nEnd s (d, a1, e1, r) = z) : noteOf s = z := by unfold noteOf; simp only [h]; rw [if_neg he, if_neg (fun h => h hk), hq, hz]
theorem nEnd_r {s : ByteArray} {a1 e1 r : Int} {d : NoteD} (h : r ≠ 0) : nEnd s (d, a1, e1, r) = (zN 0, r) := by unfold nEnd; rw [if_pos h]
theorem nEnd_x {s : ByteArray} {a1 e1 r x : Int} {d : NoteD} (h : ¬ r ≠ 0) (hx : endV s a1.toNat e1 = x) (h1 : x ≠ 0) : nEnd s (d, a1, e1, r) = (zN 0, x) := by subst hx; unfold nEnd; rw [if_neg h, if_pos h1]
theorem nEnd_c {s : ByteArray} {a1 e1 r x : Int} {d : NoteD} (h : ¬ r ≠ 0) (hx : endV s a1.toNat e1 = x) (h1 : ¬ x ≠ 0) (h2 : chkN d ≠ 0) : nEnd s (d, a1, e1, r) = (zN 0, chkN d) := by subst hx; unfold nEnd; rw [if_neg h, if_neg h1, if_pos h2]
theorem nEnd_o {s : ByteArray} {a1 e1 r x : Int} {d : NoteD} (h : ¬ r ≠ 0) (hx : endV s a1.toNat e1 = x) (h1 : ¬ x ≠ 0) (h2 : ¬ chkN d ≠ 0) : nEnd s (d, a1, e1, r) = (d, 0) := by subst hx; unfold nEnd; rw [if_neg h, if_neg h1, if_neg h2]
theorem nOf_q' {s : ByteArray} {k a e : Int} {z : NoteD × Int} (h : numR s 0 0 8 = (k, a, e)) (he : ¬ e ≠ 0) (hk : 1 ≤ k ∧ k ≤ 8) (hz : nEnd s (rdNote s k a e) = z) : noteOf s = z := nOf_q h he hk rfl hz
theorem nEnd_r' {s : ByteArray} {q : NoteD × Int × Int × Int} (h : q.2.2.2 ≠ 0) : nEnd s q = (zN 0, q.2.2.2) := nEnd_r (d := q.1) (a1 := q.2.1) (e1 := q.2.2.1) h
theorem nEnd_x' {s : ByteArray} {x : Int} {q : NoteD × Int × Int × Int} (h : ¬ q.2.2.2 ≠ 0) (hx : endV s q.2.1.toNat q.2.2.1 = x) (h1 : x ≠ 0) : nEnd s q = (zN 0, x) := nEnd_x (d := q.1) h hx h1
theorem nEnd_c' {s : ByteArray} {x : Int} {q : NoteD × Int × Int × Int} (h : ¬ q.2.2.2 ≠ 0) (hx : endV s q.2.1.toNat q.2.2.1 = x) (h1 : ¬ x ≠ 0) (h2 : chkN q.1 ≠ 0) : nEnd s q = (zN 0, chkN q.1) := nEnd_c (d := q.1) h hx h1 h2
theorem nEnd_o' {s : ByteArray} {x : Int} {q : NoteD × Int × Int × Int} (h : ¬ q.2.2.2 ≠ 0) (hx : endV s q.2.1.toNat q.2.2.1 = x) (h1 : ¬ x ≠ 0) (h2 : ¬ chkN q.1 ≠ 0) : nEnd s q = (q.1, 0) := nEnd_o (d := q.1) h hx h1 h2
theorem endV_e {s : ByteArray} {a : Nat} {e : Int} (h : e ≠ 0) : endV s a e = e := by unfold endV; rw [if_neg h]
/-- The document asks at the end alone. -/
theorem nEnd_xx {s : ByteArray} {a1 e1 x : Int} {d : NoteD} (hx : endV s a1.toNat e1 = x) (h1 : x ≠ 0) : nEnd s (d, a1, e1, e1) = (zN 0, x) := by
  by_cases he : e1 ≠ 0
  · rw [endV_e he] at hx; subst hx; exact nEnd_r he
  · exact nEnd_x he hx h1
theorem endV_0 {s : ByteArray} {a : Nat} {e x : Int} (hx : endV s a e = x) (h : ¬ x ≠ 0) : ¬ e ≠ 0 := fun he => by rw [endV_e he] at hx; exact h (by rw [← hx]; exact he)

set_option maxRecDepth 100000 in
theorem nOf_any (s : ByteArray) (d : NoteD) (x : Int) (w : World) (hsz : s.size ≤ 9223372036854775807) (hof : noteOf s = (d, x)) :
    Calls Try.prog 43 #[.string s] w fun e w' => ∃ (mv : Value) (lv : Value) (ev : Value), e = .returned (.tuple #[.agg #[.int .i64 d.k, .int .i64 d.n, .int .u64 d.t, .int .i64 d.ep, mv, .int .u64 d.fl, lv, .int .i64 d.ec, .int .i64 d.er, ev, .int .u64 d.ets, .int .i64 d.pid, .int .u64 d.pat, .int .i64 d.plf, .int .i64 d.sc, .int .i64 d.sr, .int .i64 d.se, .int .i64 d.sp], .int .i64 x]) ∧ w'.ownsRow w.heap.size 185 2 mv d.ms.length (d.ms.flatMap memE) ∧ w'.ownsRow w.heap.size 3 1 lv d.lg.length (d.lg.flatMap (intE .i64)) ∧ w'.ownsRow w.heap.size 86 3 ev d.el.length (d.el.flatMap opE) ∧ Below w.heap.size w w' := by
 have hB0 := Below.refl w.heap.size w
 refine co_enter (n := 45) Try.func43 rfl rfl rfl [(0, .string s)] rfl (fun a h0 => ?_)
 refine co_seq ?_
 refine co_reg ?_
 refine pw h0 rfl (op_new (v := fun N => pt N 0) (T := 73) (cs := #[.int .i64 0, .int .i64 0, .int .u64 0, .int .i64 0, .slice none 0 0, .int .u64 0, .slice none 0 0, .int .i64 0, .int .i64 0, .slice none 0 0, .int .u64 0, .int .i64 0, .int .u64 0, .int .i64 0, .int .i64 0, .int .i64 0, .int .i64 0, .int .i64 0]) (by kernel_rfl) (by kernel_rfl) (by kernel_rfl)) ?_; clear h0
 rintro _ w2 a1 ⟨N3, rfl, hN6, hz7, hk5, hg4⟩ h1
 have hz8 := hg4.size
 try dsimp only at h1
 refine pk0 (v := .int .i64 0) h1 rfl fun a9 h9 => ?_; clear h1
 refine pl_nil ?_
 refine co_then ?_
 refine co_seq ?_
 refine co_reg ?_
 refine pk0 (v := .string s) h9 rfl fun a10 h10 => ?_; clear h9
 refine pw h10 rfl (op_call (args := #[.string s]) (R := fun res xw => ∃ b : Nat, res = pt b 0 ∧ b = w2.heap.size ∧ OR b s 0 0 xw ∧ Below w2.heap.size w2 xw) rfl rfl rfl (by kernel_rfl) (by kernel_rfl) (Try.call68 _ _) (or_open s w2) (by rintro e x ⟨b, rfl, h0, h1, h2⟩; exact ⟨_, rfl, b, rfl, h0, h1, h2⟩)) ?_; clear h10
 rintro _ w12 a11 ⟨b13, rfl, hN14, ho15, hb16⟩ h11
 have hz17 := hb16.size
 have hl18 := ho15.lt
 refine pk0 (v := pt b13 0) h11 rfl fun a19 h19 => ?_; clear h11
 refine pl_nil ?_
 refine co_then ?_
 refine co_seq ?_
 refine co_reg ?_
 refine pk0 (v := pt b13 0) h19 rfl fun a20 h20 => ?_; clear h19
 refine pw h20 rfl (op_call (args := #[pt b13 0, .int .i64 8]) (R := fun res xw => ∃ (n : Int) (a' e' : Int), res = .int .i64 n ∧ numR s 0 0 8 = (n, a', e') ∧ 0 ≤ n ∧ n ≤ 8 ∧ OR b13 s a' e' xw ∧ w12.grownBy xw (some b13)) rfl rfl rfl (by kernel_rfl) (by kernel_rfl) (Try.call81 _ _) (or_num b13 s 0 0 8 w12 ho15 (by omega) (by omega) (by omega)) (by rintro q x ⟨n, a', e', rfl, h0, k0, k1, h1, h2⟩; exact ⟨_, rfl, n, a', e', rfl, h0, k0, k1, h1, h2⟩)) ?_; clear h20
 rintro _ w22 a21 ⟨n23, a24, e25, rfl, hq26, hn27, hm28, ho29, hg30⟩ h21
 have hz31 := hg30.size
 have hl32 := ho29.lt
 refine pk0 (v := .agg #[.int .i64 n23, .int .i64 0, .int .u64 0, .int .i64 0, .slice none 0 0, .int .u64 0, .slice none 0 0, .int .i64 0, .int .i64 0, .slice none 0 0, .int .u64 0, .int .i64 0, .int .u64 0, .int .i64 0, .int .i64 0, .int .i64 0, .int .i64 0, .int .i64 0]) h21 rfl fun a33 h33 => ?_; clear h21
 refine pw h33 rfl (op_new (v := fun N => pt N 0) (T := 73) (cs := #[.int .i64 0, .int .i64 0, .int .u64 0, .int .i64 0, .slice none 0 0, .int .u64 0, .slice none 0 0, .int .i64 0, .int .i64 0, .slice none 0 0, .int .u64 0, .int .i64 0, .int .u64 0, .int .i64 0, .int .i64 0, .int .i64 0, .int .i64 0, .int .i64 0]) (by kernel_rfl) (by kernel_rfl) (by kernel_rfl)) ?_; clear h33
 rintro _ w35 a34 ⟨N36, rfl, hN39, hz40, hk38, hg37⟩ h34
 have hz41 := hg37.size
 try dsimp only at h34
 refine pwD h34 rfl (op_storeN rfl rfl rfl (all_cons rfl (all_cons rfl (all_cons rfl (all_cons rfl (all_cons rfl (all_cons rfl (all_cons rfl (all_cons rfl (all_cons rfl (all_cons rfl (all_cons rfl (all_cons rfl (all_cons rfl (all_cons rfl (all_cons rfl (all_cons rfl (all_cons rfl (all_cons rfl all_nil)))))))))))))))))) (by kernel_rfl) hk38 rfl) ?_; clear h34
 rintro _ w43 a42 ⟨hk44, hz45, hg46⟩ h42
 have hk44' : Blk w43 N36 73 #[.int .i64 n23, .int .i64 0, .int .u64 0, .int .i64 0, .slice none 0 0, .int .u64 0, .slice none 0 0, .int .i64 0, .int .i64 0, .slice none 0 0, .int .u64 0, .int .i64 0, .int .u64 0, .int .i64 0, .int .i64 0, .int .i64 0, .int .i64 0, .int .i64 0] := hk44; clear hk44
 have hz47 := hg46.size
 refine pl_nil ?_
 refine co_then ?_
 refine co_seq ?_
 refine co_seq ?_
 refine co_reg ?_
 refine pk0 (v := pt b13 0) h42 rfl fun a48 h48 => ?_; clear h42
 have ho51 := ho29.new hg37
 have ho52 := ho51.at (by omega) hg46
 refine pw h48 rfl (op_call (args := #[pt b13 0]) (R := fun res xw => res = .int .i64 e25 ∧ w43 = xw) rfl rfl rfl (by kernel_rfl) (by kernel_rfl) (Try.call82 _ _) (or_err b13 s a24 e25 w43 ho52) (by rintro q x ⟨rfl, rfl⟩; exact ⟨_, rfl, rfl, rfl⟩)) ?_; clear h48
 rintro _ _ a49 ⟨rfl, rfl⟩ h49
 refine pk0 (v := .int .i64 e25) h49 rfl fun a53 h53 => ?_; clear h49
 refine pl_nil ?_
 refine co_then ?_
 refine co_seq ?_
 refine co_reg ?_
 refine pk0 (v := .int .i64 e25) h53 rfl fun a54 h54 => ?_; clear h53
 refine pk0 (v := .bool (e25 != 0)) h54 rfl fun a55 h55 => ?_; clear h54
 refine pl_nil ?_
 refine co_then ?_
 have hB57 := hb_new hB0 hg4
 have hB58 := hb_call hB57 hb16
 have hB59 := hb_at hB58 hg30 (by omega)
 have hB60 := hb_new hB59 hg37
 have hB61 := hb_at hB60 hg46 (by omega)
 have hk62 := hk5.below hb16
 have hk63 := hk62.kept hg30 (by simp; omega)
 have hk64 := hk63.kept hg37 (by simp)
 have hk65 := hk64.kept hg46 (by simp; omega)
 cases hc56 : (e25 != 0)
 ·
  rw [hc56] at h55
  have hp66 : ¬ (e25 ≠ 0) := by first | simpa using hc56 | simpa [and_assoc] using hc56
  clear hc56
  refine co_false h55 rfl ?_
  refine wp_skip ?_
  refine co_then ?_
  refine co_seq ?_
  refine co_seq ?_
  refine co_reg ?_
  refine pk0 (v := pt N36 0) h55 rfl fun a67 h67 => ?_; clear h55
  refine pk (v := .int .i64 n23) h67 rfl (rn_load1 rfl rfl Try.isAgg3 (hk44'.cell rfl)) fun a68 h68 => ?_; clear h67
  refine pw h68 rfl (op_call (args := #[.int .i64 n23]) (R := fun res xw => res = .bool (decide (1 ≤ n23 ∧ n23 ≤ 8)) ∧ Below w43.heap.size w43 xw) rfl rfl rfl (by kernel_rfl) (by kernel_rfl) (Try.call90 _ _) (nKnown_any n23 w43 ) (by rintro e x ⟨rfl, hb71⟩; exact ⟨_, rfl, ⟨rfl, hb71⟩⟩)) ?_; clear h68
  rintro _ w70 a69 ⟨rfl, hb71⟩ h69
  have hz72 := hb71.size
  have hB74 := hb_call hB61 hb71
  cases hc73 : (decide (1 ≤ n23 ∧ n23 ≤ 8))
  ·
   rw [hc73] at h69
   have hp75 : ¬ (1 ≤ n23 ∧ n23 ≤ 8) := of_decide_eq_false hc73
   clear hc73
   refine pk0 (v := .bool true) h69 rfl fun a76 h76 => ?_; clear h69
   refine pl_nil ?_
   refine co_then ?_
   refine co_true h76 rfl ?_
   refine co_seq ?_
   refine co_reg ?_
   refine pk0 (v := .agg #[.int .i64 0, .int .i64 0, .int .u64 0, .int .i64 0, .slice none 0 0, .int .u64 0, .slice none 0 0, .int .i64 0, .int .i64 0, .slice none 0 0, .int .u64 0, .int .i64 0, .int .u64 0, .int .i64 0, .int .i64 0, .int .i64 0, .int .i64 0, .int .i64 0]) h76 rfl fun a77 h77 => ?_; clear h76
   have hk83 := hk65.below hb71
   refine pwD h77 rfl (op_storeN rfl rfl rfl (all_cons rfl (all_cons rfl (all_cons rfl (all_cons rfl (all_cons rfl (all_cons rfl (all_cons rfl (all_cons rfl (all_cons rfl (all_cons rfl (all_cons rfl (all_cons rfl (all_cons rfl (all_cons rfl (all_cons rfl (all_cons rfl (all_cons rfl (all_cons rfl all_nil)))))))))))))))))) (by kernel_rfl) hk83 rfl) ?_; clear h77
   rintro _ w79 a78 ⟨hk80, hz81, hg82⟩ h78
   have hk80' : Blk w79 N3 73 #[.int .i64 0, .int .i64 0, .int .u64 0, .int .i64 0, .slice none 0 0, .int .u64 0, .slice none 0 0, .int .i64 0, .int .i64 0, .slice none 0 0, .int .u64 0, .int .i64 0, .int .u64 0, .int .i64 0, .int .i64 0, .int .i64 0, .int .i64 0, .int .i64 0] := hk80; clear hk80
   have hz84 := hg82.size
   refine pk0 (v := .int .i64 11) h78 rfl fun a85 h85 => ?_; clear h78
   refine pl_nil ?_
   refine co_then ?_
   refine wp_ret ?_
   refine co_thenR ?_
   refine co_retC1 (Q := fun _ _ _ => True) h85 rfl rfl rfl hk80' Try.underlying73 rfl (by kernel_rfl) ?_
   have hB86 := hb_at hB74 hg82 (by omega)
   cases hof.symm.trans (nOf_k hq26 (by omega) (by omega))
   exact ⟨_, _, _, rfl, (row_nilL _ _ _ _ _), (row_nilL _ _ _ _ _), (row_nilL _ _ _ _ _), hB86⟩
  ·
   rw [hc73] at h69
   have hp87 : 1 ≤ n23 ∧ n23 ≤ 8 := of_decide_eq_true hc73
   clear hc73
   refine pk0 (v := .bool false) h69 rfl fun a88 h88 => ?_; clear h69
   refine pl_nil ?_
   refine co_then ?_
   refine co_false h88 rfl ?_
   refine wp_skip ?_
   refine co_then ?_
   refine co_seq ?_
   refine co_seq ?_
   refine co_reg ?_
   refine pk0 (v := pt b13 0) h88 rfl fun a89 h89 => ?_; clear h88
   have ho92 := ho52.below hb71
   have hk93 := hk44'.below hb71
   refine pw h89 rfl (op_call (args := #[pt b13 0, pt N36 0]) (R := fun res xw => ∃ mv : Value, ∃ lv : Value, ∃ ev : Value, res = .int .i64 ((rdNote s n23 a24 e25).2.2.2) ∧ xw.ownsRow w70.heap.size 185 2 mv ((rdNote s n23 a24 e25).1).ms.length (((rdNote s n23 a24 e25).1).ms.flatMap memE) ∧ xw.ownsRow w70.heap.size 3 1 lv ((rdNote s n23 a24 e25).1).lg.length (((rdNote s n23 a24 e25).1).lg.flatMap (intE .i64)) ∧ xw.ownsRow w70.heap.size 86 3 ev ((rdNote s n23 a24 e25).1).el.length (((rdNote s n23 a24 e25).1).el.flatMap opE) ∧ Blk xw N36 73 #[.int .i64 ((rdNote s n23 a24 e25).1).k, .int .i64 ((rdNote s n23 a24 e25).1).n, .int .u64 ((rdNote s n23 a24 e25).1).t, .int .i64 ((rdNote s n23 a24 e25).1).ep, mv, .int .u64 ((rdNote s n23 a24 e25).1).fl, lv, .int .i64 ((rdNote s n23 a24 e25).1).ec, .int .i64 ((rdNote s n23 a24 e25).1).er, ev, .int .u64 ((rdNote s n23 a24 e25).1).ets, .int .i64 ((rdNote s n23 a24 e25).1).pid, .int .u64 ((rdNote s n23 a24 e25).1).pat, .int .i64 ((rdNote s n23 a24 e25).1).plf, .int .i64 ((rdNote s n23 a24 e25).1).sc, .int .i64 ((rdNote s n23 a24 e25).1).sr, .int .i64 ((rdNote s n23 a24 e25).1).se, .int .i64 ((rdNote s n23 a24 e25).1).sp] ∧ OR b13 s ((rdNote s n23 a24 e25).2.1) ((rdNote s n23 a24 e25).2.2.1) xw ∧ But (fun q => q = b13 ∨ q = N36) w70 xw) rfl rfl rfl (by kernel_rfl) (by kernel_rfl) (Try.call91 _ _) (nRead_any b13 s a24 e25 N36 n23 ((rdNote s n23 a24 e25).1) ((rdNote s n23 a24 e25).2.1) ((rdNote s n23 a24 e25).2.2.1) ((rdNote s n23 a24 e25).2.2.2) w70 (by first | omega | (simp; done) | (simp; omega)) ho92 hk93 (by omega) rfl) (by rintro e x ⟨mv, lv, ev, rfl, hq97, hq98, hq99, hq100, hq101, hb102⟩; exact ⟨_, rfl, ⟨mv, lv, ev, rfl, hq97, hq98, hq99, hq100, hq101, hb102⟩⟩)) ?_; clear h89
   rintro _ w91 a90 ⟨mv94, lv95, ev96, rfl, hq97, hq98, hq99, hq100, hq101, hb102⟩ h90
   have hz103 := hb102.size
   have hl104 := sl_len (row_sl hq97 memE_len)
   have hl105 := sl_len (row_sl hq98 (intE_len .i64))
   have hl106 := sl_len (row_sl hq99 opE_len)
   have hl107 := hq100.lt
   have hl108 := hq101.lt
   refine pk0 (v := .int .i64 ((rdNote s n23 a24 e25).2.2.2)) h90 rfl fun a109 h109 => ?_; clear h90
   refine pl_nil ?_
   refine co_then ?_
   refine co_seq ?_
   refine co_reg ?_
   refine pk0 (v := .int .i64 ((rdNote s n23 a24 e25).2.2.2)) h109 rfl fun a110 h110 => ?_; clear h109
   refine pk0 (v := .bool (((rdNote s n23 a24 e25).2.2.2) != 0)) h110 rfl fun a111 h111 => ?_; clear h110
   refine pl_nil ?_
   refine co_then ?_
   have hB113 := hb_foot hB74 hb102 (fun i hlt hS => by (try simp at hS); first | omega | (simp; omega) | simp_all)
   have hk114 := hk65.below hb71
   have hk115 := hk114.but hb102 (by first | omega | (simp; omega))
   cases hc112 : (((rdNote s n23 a24 e25).2.2.2) != 0)
   ·
    rw [hc112] at h111
    have hp116 : ¬ (((rdNote s n23 a24 e25).2.2.2) ≠ 0) := by first | simpa using hc112 | simpa [and_assoc] using hc112
    clear hc112
    refine co_false h111 rfl ?_
    refine wp_skip ?_
    refine co_then ?_
    refine co_seq ?_
    refine co_seq ?_
    refine co_reg ?_
    refine pk0 (v := pt b13 0) h111 rfl fun a117 h117 => ?_; clear h111
    refine pw h117 rfl (op_call (args := #[pt b13 0]) (R := fun res xw => ∃ r : Int, res = .int .i64 r ∧ endV s ((rdNote s n23 a24 e25).2.1).toNat ((rdNote s n23 a24 e25).2.2.1) = r ∧ Below w91.heap.size w91 xw) rfl rfl rfl (by kernel_rfl) (by kernel_rfl) (Try.call71 _ _) (or_end b13 s ((rdNote s n23 a24 e25).2.1) ((rdNote s n23 a24 e25).2.2.1) w91 hq101 (by omega)) (by rintro e x ⟨r, rfl, h0, h2⟩; exact ⟨_, rfl, r, rfl, h0, h2⟩)) ?_; clear h117
    rintro _ w119 a118 ⟨r120, rfl, hq121, hb122⟩ h118
    have hz123 := hb122.size
    refine pk0 (v := .int .i64 r120) h118 rfl fun a124 h124 => ?_; clear h118
    refine pl_nil ?_
    refine co_then ?_
    refine co_seq ?_
    refine co_reg ?_
    refine pk0 (v := .int .i64 r120) h124 rfl fun a125 h125 => ?_; clear h124
    refine pk0 (v := .bool (r120 != 0)) h125 rfl fun a126 h126 => ?_; clear h125
    refine pl_nil ?_
    refine co_then ?_
    have hB128 := hb_call hB113 hb122
    cases hc127 : (r120 != 0)
    ·
     rw [hc127] at h126
     have hp129 : ¬ (r120 ≠ 0) := by first | simpa using hc127 | simpa [and_assoc] using hc127
     clear hc127
     refine co_false h126 rfl ?_
     refine wp_skip ?_
     refine co_then ?_
     refine co_seq ?_
     refine co_seq ?_
     refine co_reg ?_
     have hk130 := hq100.below hb122
     refine pk (v := .agg #[.int .i64 (((rdNote s n23 a24 e25).1).k), .int .i64 (((rdNote s n23 a24 e25).1).n), .int .u64 (((rdNote s n23 a24 e25).1).t), .int .i64 (((rdNote s n23 a24 e25).1).ep), mv94, .int .u64 (((rdNote s n23 a24 e25).1).fl), lv95, .int .i64 (((rdNote s n23 a24 e25).1).ec), .int .i64 (((rdNote s n23 a24 e25).1).er), ev96, .int .u64 (((rdNote s n23 a24 e25).1).ets), .int .i64 (((rdNote s n23 a24 e25).1).pid), .int .u64 (((rdNote s n23 a24 e25).1).pat), .int .i64 (((rdNote s n23 a24 e25).1).plf), .int .i64 (((rdNote s n23 a24 e25).1).sc), .int .i64 (((rdNote s n23 a24 e25).1).sr), .int .i64 (((rdNote s n23 a24 e25).1).se), .int .i64 (((rdNote s n23 a24 e25).1).sp)]) h126 rfl (rn_loadN rfl rfl Try.underlying73 rfl (by kernel_rfl) hk130.all) fun a131 h131 => ?_; clear h126
     have hr134 := row_kept_new hq97 (below_grown hb122)
     have hr135 := row_kept_new hq98 (below_grown hb122)
     have hr136 := row_kept_new hq99 (below_grown hb122)
     refine pw h131 rfl (op_call (args := #[.agg #[.int .i64 (((rdNote s n23 a24 e25).1).k), .int .i64 (((rdNote s n23 a24 e25).1).n), .int .u64 (((rdNote s n23 a24 e25).1).t), .int .i64 (((rdNote s n23 a24 e25).1).ep), mv94, .int .u64 (((rdNote s n23 a24 e25).1).fl), lv95, .int .i64 (((rdNote s n23 a24 e25).1).ec), .int .i64 (((rdNote s n23 a24 e25).1).er), ev96, .int .u64 (((rdNote s n23 a24 e25).1).ets), .int .i64 (((rdNote s n23 a24 e25).1).pid), .int .u64 (((rdNote s n23 a24 e25).1).pat), .int .i64 (((rdNote s n23 a24 e25).1).plf), .int .i64 (((rdNote s n23 a24 e25).1).sc), .int .i64 (((rdNote s n23 a24 e25).1).sr), .int .i64 (((rdNote s n23 a24 e25).1).se), .int .i64 (((rdNote s n23 a24 e25).1).sp)]]) (R := fun res xw => res = .int .i64 (chkN ((rdNote s n23 a24 e25).1)) ∧ Below w119.heap.size w119 xw) rfl rfl rfl (by kernel_rfl) (by kernel_rfl) (Try.call92 _ _) (nCheck_any ((rdNote s n23 a24 e25).1) mv94 lv95 ev96 w119 (row_sl hr134 memE_len) (row_sl hr135 (intE_len .i64)) (row_sl hr136 opE_len) (rdNote_R _ _ _ _)) (by rintro e x ⟨rfl, hb137⟩; exact ⟨_, rfl, ⟨rfl, hb137⟩⟩)) ?_; clear h131
     rintro _ w133 a132 ⟨rfl, hb137⟩ h132
     have hz138 := hb137.size
     refine pk0 (v := .int .i64 (chkN ((rdNote s n23 a24 e25).1))) h132 rfl fun a139 h139 => ?_; clear h132
     refine pl_nil ?_
     refine co_then ?_
     refine co_seq ?_
     refine co_reg ?_
     refine pk0 (v := .int .i64 (chkN ((rdNote s n23 a24 e25).1))) h139 rfl fun a140 h140 => ?_; clear h139
     refine pk0 (v := .bool (chkN ((rdNote s n23 a24 e25).1) != 0)) h140 rfl fun a141 h141 => ?_; clear h140
     refine pl_nil ?_
     refine co_then ?_
     have hB143 := hb_call hB128 hb137
     have hk144 := hk115.below hb122
     have hk145 := hk144.below hb137
     have ho146 := hq101.below hb122
     have ho147 := ho146.below hb137
     cases hc142 : (chkN ((rdNote s n23 a24 e25).1) != 0)
     ·
      rw [hc142] at h141
      have hp148 : ¬ (chkN ((rdNote s n23 a24 e25).1) ≠ 0) := by first | simpa using hc142 | simpa [and_assoc] using hc142
      clear hc142
      refine co_false h141 rfl ?_
      refine wp_skip ?_
      refine co_then ?_
      refine co_seq ?_
      refine co_reg ?_
      have hk149 := hk130.below hb137
      refine pk (v := .agg #[.int .i64 (((rdNote s n23 a24 e25).1).k), .int .i64 (((rdNote s n23 a24 e25).1).n), .int .u64 (((rdNote s n23 a24 e25).1).t), .int .i64 (((rdNote s n23 a24 e25).1).ep), mv94, .int .u64 (((rdNote s n23 a24 e25).1).fl), lv95, .int .i64 (((rdNote s n23 a24 e25).1).ec), .int .i64 (((rdNote s n23 a24 e25).1).er), ev96, .int .u64 (((rdNote s n23 a24 e25).1).ets), .int .i64 (((rdNote s n23 a24 e25).1).pid), .int .u64 (((rdNote s n23 a24 e25).1).pat), .int .i64 (((rdNote s n23 a24 e25).1).plf), .int .i64 (((rdNote s n23 a24 e25).1).sc), .int .i64 (((rdNote s n23 a24 e25).1).sr), .int .i64 (((rdNote s n23 a24 e25).1).se), .int .i64 (((rdNote s n23 a24 e25).1).sp)]) h141 rfl (rn_loadN rfl rfl Try.underlying73 rfl (by kernel_rfl) hk149.all) fun a150 h150 => ?_; clear h141
      have hr156 := row_kept_new hr136 (below_grown hb137)
      have hr157 := row_kept_new hr135 (below_grown hb137)
      have hr158 := row_kept_new hr134 (below_grown hb137)
      refine pwD h150 rfl (op_storeN rfl rfl rfl (all_cons rfl (all_cons rfl (all_cons rfl (all_cons rfl (all_cons (row_one hr158) (all_cons rfl (all_cons (row_one hr157) (all_cons rfl (all_cons rfl (all_cons (row_one hr156) (all_cons rfl (all_cons rfl (all_cons rfl (all_cons rfl (all_cons rfl (all_cons rfl (all_cons rfl (all_cons rfl all_nil)))))))))))))))))) (by kernel_rfl) hk145 rfl) ?_; clear h150
      rintro _ w152 a151 ⟨hk153, hz154, hg155⟩ h151
      have hk153' : Blk w152 N3 73 #[.int .i64 (((rdNote s n23 a24 e25).1).k), .int .i64 (((rdNote s n23 a24 e25).1).n), .int .u64 (((rdNote s n23 a24 e25).1).t), .int .i64 (((rdNote s n23 a24 e25).1).ep), mv94, .int .u64 (((rdNote s n23 a24 e25).1).fl), lv95, .int .i64 (((rdNote s n23 a24 e25).1).ec), .int .i64 (((rdNote s n23 a24 e25).1).er), ev96, .int .u64 (((rdNote s n23 a24 e25).1).ets), .int .i64 (((rdNote s n23 a24 e25).1).pid), .int .u64 (((rdNote s n23 a24 e25).1).pat), .int .i64 (((rdNote s n23 a24 e25).1).plf), .int .i64 (((rdNote s n23 a24 e25).1).sc), .int .i64 (((rdNote s n23 a24 e25).1).sr), .int .i64 (((rdNote s n23 a24 e25).1).se), .int .i64 (((rdNote s n23 a24 e25).1).sp)] := hk153; clear hk153
      have hz159 := hg155.size
      refine pk0 (v := .int .i64 0) h151 rfl fun a160 h160 => ?_; clear h151
      refine pl_nil ?_
      refine co_then ?_
      refine wp_ret ?_
      refine co_retC1 (Q := fun _ _ _ => True) h160 rfl rfl rfl hk153' Try.underlying73 rfl (by kernel_rfl) ?_
      have hr161 := row_kept_at hr158 hg155 (row_ne_lt hr158 (by omega))
      have hr162 := row_kept_at hr157 hg155 (row_ne_lt hr157 (by omega))
      have hr163 := row_kept_at hr156 hg155 (row_ne_lt hr156 (by omega))
      have hB164 := hb_at hB143 hg155 (by omega)
      cases hof.symm.trans (nOf_q' hq26 (by assumption) (by omega) (nEnd_o' (by assumption) hq121 (by assumption) (by assumption)))
      exact ⟨_, _, _, rfl, (row_lows hr161 (by omega)), (row_lows hr162 (by omega)), (row_lows hr163 (by omega)), hB164⟩
     ·
      rw [hc142] at h141
      have hp165 : chkN ((rdNote s n23 a24 e25).1) ≠ 0 := by first | simpa using hc142 | simpa [and_assoc] using hc142
      clear hc142
      refine co_true h141 rfl ?_
      refine co_seq ?_
      refine co_reg ?_
      refine pk0 (v := .agg #[.int .i64 0, .int .i64 0, .int .u64 0, .int .i64 0, .slice none 0 0, .int .u64 0, .slice none 0 0, .int .i64 0, .int .i64 0, .slice none 0 0, .int .u64 0, .int .i64 0, .int .u64 0, .int .i64 0, .int .i64 0, .int .i64 0, .int .i64 0, .int .i64 0]) h141 rfl fun a166 h166 => ?_; clear h141
      refine pk0 (v := .int .i64 (chkN ((rdNote s n23 a24 e25).1))) h166 rfl fun a167 h167 => ?_; clear h166
      refine pwD h167 rfl (op_storeN rfl rfl rfl (all_cons rfl (all_cons rfl (all_cons rfl (all_cons rfl (all_cons rfl (all_cons rfl (all_cons rfl (all_cons rfl (all_cons rfl (all_cons rfl (all_cons rfl (all_cons rfl (all_cons rfl (all_cons rfl (all_cons rfl (all_cons rfl (all_cons rfl (all_cons rfl all_nil)))))))))))))))))) (by kernel_rfl) hk145 rfl) ?_; clear h167
      rintro _ w169 a168 ⟨hk170, hz171, hg172⟩ h168
      have hk170' : Blk w169 N3 73 #[.int .i64 0, .int .i64 0, .int .u64 0, .int .i64 0, .slice none 0 0, .int .u64 0, .slice none 0 0, .int .i64 0, .int .i64 0, .slice none 0 0, .int .u64 0, .int .i64 0, .int .u64 0, .int .i64 0, .int .i64 0, .int .i64 0, .int .i64 0, .int .i64 0] := hk170; clear hk170
      have hz173 := hg172.size
      refine pk0 (v := .int .i64 (chkN ((rdNote s n23 a24 e25).1))) h168 rfl fun a174 h174 => ?_; clear h168
      refine pl_nil ?_
      refine co_then ?_
      refine wp_ret ?_
      refine co_thenR ?_
      refine co_retC1 (Q := fun _ _ _ => True) h174 rfl rfl rfl hk170' Try.underlying73 rfl (by kernel_rfl) ?_
      have hB175 := hb_at hB143 hg172 (by omega)
      cases hof.symm.trans (nOf_q' hq26 (by assumption) (by omega) (nEnd_c' (by assumption) hq121 (by assumption) (by assumption)))
      exact ⟨_, _, _, rfl, (row_nilL _ _ _ _ _), (row_nilL _ _ _ _ _), (row_nilL _ _ _ _ _), hB175⟩
    ·
     rw [hc127] at h126
     have hp176 : r120 ≠ 0 := by first | simpa using hc127 | simpa [and_assoc] using hc127
     clear hc127
     refine co_true h126 rfl ?_
     refine co_seq ?_
     refine co_reg ?_
     refine pk0 (v := .agg #[.int .i64 0, .int .i64 0, .int .u64 0, .int .i64 0, .slice none 0 0, .int .u64 0, .slice none 0 0, .int .i64 0, .int .i64 0, .slice none 0 0, .int .u64 0, .int .i64 0, .int .u64 0, .int .i64 0, .int .i64 0, .int .i64 0, .int .i64 0, .int .i64 0]) h126 rfl fun a177 h177 => ?_; clear h126
     refine pk0 (v := .int .i64 r120) h177 rfl fun a178 h178 => ?_; clear h177
     have hk184 := hk115.below hb122
     refine pwD h178 rfl (op_storeN rfl rfl rfl (all_cons rfl (all_cons rfl (all_cons rfl (all_cons rfl (all_cons rfl (all_cons rfl (all_cons rfl (all_cons rfl (all_cons rfl (all_cons rfl (all_cons rfl (all_cons rfl (all_cons rfl (all_cons rfl (all_cons rfl (all_cons rfl (all_cons rfl (all_cons rfl all_nil)))))))))))))))))) (by kernel_rfl) hk184 rfl) ?_; clear h178
     rintro _ w180 a179 ⟨hk181, hz182, hg183⟩ h179
     have hk181' : Blk w180 N3 73 #[.int .i64 0, .int .i64 0, .int .u64 0, .int .i64 0, .slice none 0 0, .int .u64 0, .slice none 0 0, .int .i64 0, .int .i64 0, .slice none 0 0, .int .u64 0, .int .i64 0, .int .u64 0, .int .i64 0, .int .i64 0, .int .i64 0, .int .i64 0, .int .i64 0] := hk181; clear hk181
     have hz185 := hg183.size
     refine pk0 (v := .int .i64 r120) h179 rfl fun a186 h186 => ?_; clear h179
     refine pl_nil ?_
     refine co_then ?_
     refine wp_ret ?_
     refine co_thenR ?_
     refine co_retC1 (Q := fun _ _ _ => True) h186 rfl rfl rfl hk181' Try.underlying73 rfl (by kernel_rfl) ?_
     have hB187 := hb_at hB128 hg183 (by omega)
     cases hof.symm.trans (nOf_q' hq26 (by assumption) (by omega) (nEnd_x' (by assumption) hq121 (by assumption)))
     exact ⟨_, _, _, rfl, (row_nilL _ _ _ _ _), (row_nilL _ _ _ _ _), (row_nilL _ _ _ _ _), hB187⟩
   ·
    rw [hc112] at h111
    have hp188 : ((rdNote s n23 a24 e25).2.2.2) ≠ 0 := by first | simpa using hc112 | simpa [and_assoc] using hc112
    clear hc112
    refine co_true h111 rfl ?_
    refine co_seq ?_
    refine co_reg ?_
    refine pk0 (v := .agg #[.int .i64 0, .int .i64 0, .int .u64 0, .int .i64 0, .slice none 0 0, .int .u64 0, .slice none 0 0, .int .i64 0, .int .i64 0, .slice none 0 0, .int .u64 0, .int .i64 0, .int .u64 0, .int .i64 0, .int .i64 0, .int .i64 0, .int .i64 0, .int .i64 0]) h111 rfl fun a189 h189 => ?_; clear h111
    refine pk0 (v := .int .i64 ((rdNote s n23 a24 e25).2.2.2)) h189 rfl fun a190 h190 => ?_; clear h189
    refine pwD h190 rfl (op_storeN rfl rfl rfl (all_cons rfl (all_cons rfl (all_cons rfl (all_cons rfl (all_cons rfl (all_cons rfl (all_cons rfl (all_cons rfl (all_cons rfl (all_cons rfl (all_cons rfl (all_cons rfl (all_cons rfl (all_cons rfl (all_cons rfl (all_cons rfl (all_cons rfl (all_cons rfl all_nil)))))))))))))))))) (by kernel_rfl) hk115 rfl) ?_; clear h190
    rintro _ w192 a191 ⟨hk193, hz194, hg195⟩ h191
    have hk193' : Blk w192 N3 73 #[.int .i64 0, .int .i64 0, .int .u64 0, .int .i64 0, .slice none 0 0, .int .u64 0, .slice none 0 0, .int .i64 0, .int .i64 0, .slice none 0 0, .int .u64 0, .int .i64 0, .int .u64 0, .int .i64 0, .int .i64 0, .int .i64 0, .int .i64 0, .int .i64 0] := hk193; clear hk193
    have hz196 := hg195.size
    refine pk0 (v := .int .i64 ((rdNote s n23 a24 e25).2.2.2)) h191 rfl fun a197 h197 => ?_; clear h191
    refine pl_nil ?_
    refine co_then ?_
    refine wp_ret ?_
    refine co_thenR ?_
    refine co_retC1 (Q := fun _ _ _ => True) h197 rfl rfl rfl hk193' Try.underlying73 rfl (by kernel_rfl) ?_
    have hB198 := hb_at hB113 hg195 (by omega)
    cases hof.symm.trans (nOf_q' hq26 (by assumption) (by omega) (nEnd_r' (by assumption)))
    exact ⟨_, _, _, rfl, (row_nilL _ _ _ _ _), (row_nilL _ _ _ _ _), (row_nilL _ _ _ _ _), hB198⟩
 ·
  rw [hc56] at h55
  have hp199 : e25 ≠ 0 := by first | simpa using hc56 | simpa [and_assoc] using hc56
  clear hc56
  refine co_true h55 rfl ?_
  refine co_seq ?_
  refine co_reg ?_
  refine pk0 (v := .agg #[.int .i64 0, .int .i64 0, .int .u64 0, .int .i64 0, .slice none 0 0, .int .u64 0, .slice none 0 0, .int .i64 0, .int .i64 0, .slice none 0 0, .int .u64 0, .int .i64 0, .int .u64 0, .int .i64 0, .int .i64 0, .int .i64 0, .int .i64 0, .int .i64 0]) h55 rfl fun a200 h200 => ?_; clear h55
  refine pk0 (v := .int .i64 e25) h200 rfl fun a201 h201 => ?_; clear h200
  refine pwD h201 rfl (op_storeN rfl rfl rfl (all_cons rfl (all_cons rfl (all_cons rfl (all_cons rfl (all_cons rfl (all_cons rfl (all_cons rfl (all_cons rfl (all_cons rfl (all_cons rfl (all_cons rfl (all_cons rfl (all_cons rfl (all_cons rfl (all_cons rfl (all_cons rfl (all_cons rfl (all_cons rfl all_nil)))))))))))))))))) (by kernel_rfl) hk65 rfl) ?_; clear h201
  rintro _ w203 a202 ⟨hk204, hz205, hg206⟩ h202
  have hk204' : Blk w203 N3 73 #[.int .i64 0, .int .i64 0, .int .u64 0, .int .i64 0, .slice none 0 0, .int .u64 0, .slice none 0 0, .int .i64 0, .int .i64 0, .slice none 0 0, .int .u64 0, .int .i64 0, .int .u64 0, .int .i64 0, .int .i64 0, .int .i64 0, .int .i64 0, .int .i64 0] := hk204; clear hk204
  have hz207 := hg206.size
  refine pk0 (v := .int .i64 e25) h202 rfl fun a208 h208 => ?_; clear h202
  refine pl_nil ?_
  refine co_then ?_
  refine wp_ret ?_
  refine co_thenR ?_
  refine co_retC1 (Q := fun _ _ _ => True) h208 rfl rfl rfl hk204' Try.underlying73 rfl (by kernel_rfl) ?_
  have hB209 := hb_at hB61 hg206 (by omega)
  cases hof.symm.trans (nOf_e hq26 (by assumption))
  exact ⟨_, _, _, rfl, (row_nilL _ _ _ _ _), (row_nilL _ _ _ _ _), (row_nilL _ _ _ _ _), hB209⟩
end Go.Proofs.Yteioaaegooebpaa

/- The document's own note: Of. Conditions: none. -/
namespace Go.Proofs.Yteioaaegooebpaa
open Go.RowKit Go.PlainAid
set_option linter.unusedVariables false


theorem rw_1a {s t : ByteArray} {k a e a1 e1 : Int} (hk : k = 1) (h : textR s a e 65536 = (t, a1, e1)) (h1 : e1 ≠ 0) : rdNote s k a e = (zC k (0, [], 0) [], a1, e1, e1) := rd_1a hk (whC_a h h1) h1
theorem rw_1b {s t : ByteArray} {k a e a1 e1 : Int} (hk : k = 1) (h : textR s a e 65536 = (t, a1, e1)) (h1 : ¬ e1 ≠ 0) (hr : (ofC t).2 ≠ 0) : rdNote s k a e = (zC k (ofC t).1 [], a1, e1, (ofC t).2) := rd_1a hk (whC_b h h1) hr
theorem rw_1c {s t : ByteArray} {k a e a1 e1 n a2 e2 a3 e3 : Int} {g : List Int} {i : Nat} (hk : k = 1) (h : textR s a e 65536 = (t, a1, e1)) (h1 : ¬ e1 ≠ 0) (hr : ¬ (ofC t).2 ≠ 0) (h3 : numR s a1 e1 4 = (n, a2, e2)) (h4 : rgN s i ([], a2, e2) = (g, a3, e3)) (hi : i = n.toNat) : rdNote s k a e = (zC k (ofC t).1 g, a3, e3, e3) := rd_1b hk (whC_b h h1) hr h3 h4 hi
theorem rw_2a {s t : ByteArray} {k a e n a1 e1 a2 e2 : Int} (hk : k = 2) (h : numR s a e 1073741824 = (n, a1, e1)) (h2 : textR s a1 e1 65536 = (t, a2, e2)) (h3 : e2 ≠ 0) : rdNote s k a e = (zE k n (0, 0, [], 0), a2, e2, e2) := rd_2 hk h (whE_a h2 h3)
theorem rw_2b {s t : ByteArray} {k a e n a1 e1 a2 e2 : Int} (hk : k = 2) (h : numR s a e 1073741824 = (n, a1, e1)) (h2 : textR s a1 e1 65536 = (t, a2, e2)) (h3 : ¬ e2 ≠ 0) : rdNote s k a e = (zE k n (ofE t).1, a2, e2, (ofE t).2) := rd_2 hk h (whE_b h2 h3)
theorem rdNote_R2 {s : ByteArray} {k a e : Int} {z : NoteD × Int × Int × Int} (h : rdNote s k a e = z) : NoteR z.1 := h ▸ rdNote_R s k a e
theorem nOf_z {s : ByteArray} {k a e : Int} (h : numR s 0 0 8 = (k, a, e)) (he : e = 0) (hk : k = 0) : noteOf s = (zN 0, 11) := nOf_k h (by omega) (by omega)
theorem nOf_ee {s : ByteArray} {k a e x : Int} (h : numR s 0 0 8 = (k, a, e)) (he : ¬ e = 0) (hx : endV s a.toNat e = x) : noteOf s = (zN 0, x) := by rw [endV_e he] at hx; subst hx; exact nOf_e h he

set_option maxRecDepth 100000 in
theorem rnWhole_any (b : Nat) (s : ByteArray) (ra : Int) (rx : Int) (k : Int) (d : NoteD) (a' : Int) (e' : Int) (r : Int) (w : World) (hsz : s.size ≤ 9223372036854775807) (ho : OXR b s ra rx w) (hk12 : k = 1 ∨ k = 2) (hof : rdNote s k ra rx = (d, a', e', r)) :
    Calls Try.prog 94 #[pt b 0, .agg #[.int .i64 k, .int .i64 0, .int .u64 0, .int .i64 0, .slice none 0 0, .int .u64 0, .slice none 0 0, .int .i64 0, .int .i64 0, .slice none 0 0, .int .u64 0, .int .i64 0, .int .u64 0, .int .i64 0, .int .i64 0, .int .i64 0, .int .i64 0, .int .i64 0]] w fun e w' => ∃ (mv : Value) (lv : Value) (ev : Value), e = .returned (.tuple #[.agg #[.int .i64 d.k, .int .i64 d.n, .int .u64 d.t, .int .i64 d.ep, mv, .int .u64 d.fl, lv, .int .i64 d.ec, .int .i64 d.er, ev, .int .u64 d.ets, .int .i64 d.pid, .int .u64 d.pat, .int .i64 d.plf, .int .i64 d.sc, .int .i64 d.sr, .int .i64 d.se, .int .i64 d.sp], .int .i64 r]) ∧ w'.ownsRow w.heap.size 185 2 mv d.ms.length (d.ms.flatMap memE) ∧ w'.ownsRow w.heap.size 3 1 lv d.lg.length (d.lg.flatMap (intE .i64)) ∧ w'.ownsRow w.heap.size 86 3 ev d.el.length (d.el.flatMap opE) ∧ OXR b s a' e' w' ∧ But (fun q => q = b) w w' := by
 have hB0 := But.refl (fun q => q = b) w
 have hl_ho := ho.lt
 refine co_enter (n := 80) Try.func94 rfl rfl rfl [(0, pt b 0), (1, .agg #[.int .i64 k, .int .i64 0, .int .u64 0, .int .i64 0, .slice none 0 0, .int .u64 0, .slice none 0 0, .int .i64 0, .int .i64 0, .slice none 0 0, .int .u64 0, .int .i64 0, .int .u64 0, .int .i64 0, .int .i64 0, .int .i64 0, .int .i64 0, .int .i64 0])] rfl (fun a h0 => ?_)
 refine co_seq ?_
 refine co_reg ?_
 refine pw h0 rfl (op_new (v := fun N => pt N 0) (T := 73) (cs := #[.int .i64 k, .int .i64 0, .int .u64 0, .int .i64 0, .slice none 0 0, .int .u64 0, .slice none 0 0, .int .i64 0, .int .i64 0, .slice none 0 0, .int .u64 0, .int .i64 0, .int .u64 0, .int .i64 0, .int .i64 0, .int .i64 0, .int .i64 0, .int .i64 0]) (by kernel_rfl) (by kernel_rfl) (by kernel_rfl)) ?_; clear h0
 rintro _ w2 a1 ⟨N3, rfl, hN6, hz7, hk5, hg4⟩ h1
 have hz8 := hg4.size
 try dsimp only at h1
 refine pw h1 rfl (op_new (v := fun N => pt N 0) (T := 73) (cs := #[.int .i64 0, .int .i64 0, .int .u64 0, .int .i64 0, .slice none 0 0, .int .u64 0, .slice none 0 0, .int .i64 0, .int .i64 0, .slice none 0 0, .int .u64 0, .int .i64 0, .int .u64 0, .int .i64 0, .int .i64 0, .int .i64 0, .int .i64 0, .int .i64 0]) (by kernel_rfl) (by kernel_rfl) (by kernel_rfl)) ?_; clear h1
 rintro _ w10 a9 ⟨N11, rfl, hN14, hz15, hk13, hg12⟩ h9
 have hz16 := hg12.size
 try dsimp only at h9
 refine pk0 (v := .int .i64 0) h9 rfl fun a17 h17 => ?_; clear h9
 refine pl_nil ?_
 refine co_then ?_
 refine co_seq ?_
 refine co_reg ?_
 have hk18 := hk5.kept hg12 (by simp)
 refine pk (v := .agg #[.int .i64 k, .int .i64 0, .int .u64 0, .int .i64 0, .slice none 0 0, .int .u64 0, .slice none 0 0, .int .i64 0, .int .i64 0, .slice none 0 0, .int .u64 0, .int .i64 0, .int .u64 0, .int .i64 0, .int .i64 0, .int .i64 0, .int .i64 0, .int .i64 0]) h17 rfl (rn_loadN rfl rfl Try.underlying73 rfl (by kernel_rfl) hk18.all) fun a19 h19 => ?_; clear h17
 refine pw h19 rfl (op_new (v := fun N => pt N 0) (T := 73) (cs := #[.int .i64 0, .int .i64 0, .int .u64 0, .int .i64 0, .slice none 0 0, .int .u64 0, .slice none 0 0, .int .i64 0, .int .i64 0, .slice none 0 0, .int .u64 0, .int .i64 0, .int .u64 0, .int .i64 0, .int .i64 0, .int .i64 0, .int .i64 0, .int .i64 0]) (by kernel_rfl) (by kernel_rfl) (by kernel_rfl)) ?_; clear h19
 rintro _ w21 a20 ⟨N22, rfl, hN25, hz26, hk24, hg23⟩ h20
 have hz27 := hg23.size
 try dsimp only at h20
 refine pwD h20 rfl (op_storeN rfl rfl rfl (all_cons rfl (all_cons rfl (all_cons rfl (all_cons rfl (all_cons rfl (all_cons rfl (all_cons rfl (all_cons rfl (all_cons rfl (all_cons rfl (all_cons rfl (all_cons rfl (all_cons rfl (all_cons rfl (all_cons rfl (all_cons rfl (all_cons rfl (all_cons rfl all_nil)))))))))))))))))) (by kernel_rfl) hk24 rfl) ?_; clear h20
 rintro _ w29 a28 ⟨hk30, hz31, hg32⟩ h28
 have hk30' : Blk w29 N22 73 #[.int .i64 k, .int .i64 0, .int .u64 0, .int .i64 0, .slice none 0 0, .int .u64 0, .slice none 0 0, .int .i64 0, .int .i64 0, .slice none 0 0, .int .u64 0, .int .i64 0, .int .u64 0, .int .i64 0, .int .i64 0, .int .i64 0, .int .i64 0, .int .i64 0] := hk30; clear hk30
 have hz33 := hg32.size
 refine pl_nil ?_
 refine co_then ?_
 refine co_seq ?_
 refine co_reg ?_
 refine pk0 (v := .int .i64 0) h28 rfl fun a34 h34 => ?_; clear h28
 refine pl_nil ?_
 refine co_then ?_
 refine co_seq ?_
 refine co_seq ?_
 refine co_reg ?_
 refine pk0 (v := pt N3 0) h34 rfl fun a35 h35 => ?_; clear h34
 have hk36 := hk18.kept hg23 (by simp)
 have hk37 := hk36.kept hg32 (by simp; omega)
 refine pk (v := .int .i64 k) h35 rfl (rn_load1 rfl rfl Try.isAgg3 (hk37.cell rfl)) fun a38 h38 => ?_; clear h35
 refine pk0 (v := .bool (k == 1)) h38 rfl fun a39 h39 => ?_; clear h38
 refine pl_nil ?_
 refine co_then ?_
 have hB41 := fb_new hB0 hg4
 have hB42 := fb_new hB41 hg12
 have hB43 := fb_new hB42 hg23
 have hB44 := fb_at hB43 hg32 (fun hlt => by first | (exfalso; omega) | (simp; done) | simp_all)
 have ho45 := ho.new hg4
 have ho46 := ho45.new hg12
 have ho47 := ho46.new hg23
 have ho48 := ho47.at (by omega) hg32
 have hk49 := hk13.kept hg23 (by simp)
 have hk50 := hk49.kept hg32 (by simp; omega)
 cases hc40 : (k == 1)
 ·
  rw [hc40] at h39
  have hp51 : ¬ (k = 1) := by first | simpa using hc40 | simpa [and_assoc] using hc40
  clear hc40
  refine co_false h39 rfl ?_
  refine wp_skip ?_
  refine co_then ?_
  refine co_seq ?_
  refine co_reg ?_
  refine pk0 (v := pt b 0) h39 rfl fun a52 h52 => ?_; clear h39
  refine pw h52 rfl (op_call (args := #[pt b 0, .int .i64 1073741824]) (R := fun res xw => ∃ (n : Int) (a' e' : Int), res = .int .i64 n ∧ numR s ra rx 1073741824 = (n, a', e') ∧ 0 ≤ n ∧ n ≤ 1073741824 ∧ OXR b s a' e' xw ∧ w29.grownBy xw (some b)) rfl rfl rfl (by kernel_rfl) (by kernel_rfl) (Try.call93 _ _) (oxr_num b s ra rx 1073741824 w29 ho48 (by omega) (by omega) (by omega)) (by rintro q x ⟨n, a', e', rfl, h0, k0, k1, h1, h2⟩; exact ⟨_, rfl, n, a', e', rfl, h0, k0, k1, h1, h2⟩)) ?_; clear h52
  rintro _ w54 a53 ⟨n55, a56, e57, rfl, hq58, hn59, hm60, ho61, hg62⟩ h53
  have hz63 := hg62.size
  have hl64 := ho61.lt
  refine pk0 (v := pt N22 1) h53 rfl fun a65 h65 => ?_; clear h53
  have hk71 := hk30'.kept hg62 (by simp; omega)
  refine pwD h65 rfl (op_store1 rfl rfl rfl rfl Try.sizeOf3 hk71 rfl) ?_; clear h65
  rintro _ w67 a66 ⟨hk68, hz69, hg70⟩ h66
  have hk68' : Blk w67 N22 73 #[.int .i64 k, .int .i64 n55, .int .u64 0, .int .i64 0, .slice none 0 0, .int .u64 0, .slice none 0 0, .int .i64 0, .int .i64 0, .slice none 0 0, .int .u64 0, .int .i64 0, .int .u64 0, .int .i64 0, .int .i64 0, .int .i64 0, .int .i64 0, .int .i64 0] := hk68; clear hk68
  have hz72 := hg70.size
  refine pl_nil ?_
  refine co_then ?_
  refine co_seq ?_
  refine co_reg ?_
  refine pk0 (v := pt b 0) h66 rfl fun a73 h73 => ?_; clear h66
  have ho84 := ho61.at (by omega) hg70
  refine pw h73 rfl (op_call (args := #[pt b 0, .int .i64 65536]) (R := fun res xw => ∃ (n : ByteArray) (a' e' : Int), res = .string n ∧ textR s a56 e57 65536 = (n, a', e') ∧ (n.size : Int) ≤ 65536 ∧ OXR b s a' e' xw ∧ w67.grownBy xw (some b)) rfl rfl rfl (by kernel_rfl) (by kernel_rfl) (Try.call74 _ _) (oxr_text b s a56 e57 65536 w67 ho84 (by omega) (by omega) (by omega)) (by rintro q x ⟨n, a', e', rfl, h0, k0, h1, h2⟩; exact ⟨_, rfl, n, a', e', rfl, h0, k0, h1, h2⟩)) ?_; clear h73
  rintro _ w75 a74 ⟨n76, a77, e78, rfl, hq79, hn80, ho82, hg83⟩ h74
  have hz85 := hg83.size
  have hl86 := ho82.lt
  refine pk0 (v := .string n76) h74 rfl fun a87 h87 => ?_; clear h74
  refine pl_nil ?_
  refine co_then ?_
  refine co_seq ?_
  refine co_seq ?_
  refine co_reg ?_
  refine pk0 (v := pt b 0) h87 rfl fun a88 h88 => ?_; clear h87
  refine pk0 (v := pt b 0) h88 rfl fun a89 h89 => ?_; clear h88
  refine pk0 (v := pt b 2) h89 rfl fun a90 h90 => ?_; clear h89
  refine pk (v := .int .i64 e78) h90 rfl (rn_load1 rfl rfl Try.isAgg3 ho82.re.cell) fun a91 h91 => ?_; clear h90
  refine pk0 (v := .bool (e78 != 0)) h91 rfl fun a92 h92 => ?_; clear h91
  refine pl_nil ?_
  refine co_then ?_
  have hB94 := fb_at hB44 hg62 (fun hlt => by first | (exfalso; omega) | (simp; done) | simp_all)
  have hB95 := fb_at hB94 hg70 (fun hlt => by first | (exfalso; omega) | (simp; done) | simp_all)
  have hB96 := fb_at hB95 hg83 (fun hlt => by first | (exfalso; omega) | (simp; done) | simp_all)
  have hk97 := hk37.kept hg62 (by simp; omega)
  have hk98 := hk97.kept hg70 (by simp; omega)
  have hk99 := hk98.kept hg83 (by simp; omega)
  have hk100 := hk50.kept hg62 (by simp; omega)
  have hk101 := hk100.kept hg70 (by simp; omega)
  have hk102 := hk101.kept hg83 (by simp; omega)
  cases hc93 : (e78 != 0)
  ·
   rw [hc93] at h92
   have hp103 : ¬ (e78 ≠ 0) := by first | simpa using hc93 | simpa [and_assoc] using hc93
   clear hc93
   refine co_false h92 rfl ?_
   refine wp_skip ?_
   refine co_then ?_
   refine co_seq ?_
   refine co_reg ?_
   refine pk0 (v := .string n76) h92 rfl fun a104 h104 => ?_; clear h92
   refine pw h104 rfl (op_call (args := #[.string n76]) (R := fun res xw => ∃ u : Value, res = .tuple #[.agg #[.int .i64 ((ofE n76).1.1), .int .i64 ((ofE n76).1.2.1), u, .int .u64 ((ofE n76).1.2.2.2)], .int .i64 ((ofE n76).2)] ∧ xw.ownsRow w75.heap.size 86 3 u ((ofE n76).1.2.2.1).length (((ofE n76).1.2.2.1).flatMap opE) ∧ Below w75.heap.size w75 xw) rfl rfl rfl (by kernel_rfl) (by kernel_rfl) (Try.call28 _ _) (ritemOf_any n76 ((ofE n76).1.1) ((ofE n76).1.2.1) ((ofE n76).1.2.2.1) ((ofE n76).1.2.2.2) ((ofE n76).2) w75 (by first | omega | (simp; done) | (simp; omega)) rfl) (by rintro e x ⟨u, rfl, hq108, hb109⟩; exact ⟨_, rfl, ⟨u, rfl, hq108, hb109⟩⟩)) ?_; clear h104
   rintro _ w106 a105 ⟨u107, rfl, hq108, hb109⟩ h105
   have hz110 := hb109.size
   have hl111 := sl_len (row_sl hq108 opE_len)
   refine pk0 (v := .tuple #[.agg #[.int .i64 ((ofE n76).1.1), .int .i64 ((ofE n76).1.2.1), u107, .int .u64 ((ofE n76).1.2.2.2)], .int .i64 ((ofE n76).2)]) h105 rfl fun a112 h112 => ?_; clear h105
   refine pk0 (v := .agg #[.int .i64 ((ofE n76).1.1), .int .i64 ((ofE n76).1.2.1), u107, .int .u64 ((ofE n76).1.2.2.2)]) h112 rfl fun a113 h113 => ?_; clear h112
   refine pk0 (v := .int .i64 ((ofE n76).2)) h113 rfl fun a114 h114 => ?_; clear h113
   refine pk0 (v := pt N22 7) h114 rfl fun a115 h115 => ?_; clear h114
   have hk121 := hk68'.kept hg83 (by simp; omega)
   have hk122 := hk121.below hb109
   refine pwD h115 rfl (op_storePart (k := 7) (cs' := #[.int .i64 k, .int .i64 n55, .int .u64 0, .int .i64 0, .slice none 0 0, .int .u64 0, .slice none 0 0, .int .i64 ((ofE n76).1.1), .int .i64 ((ofE n76).1.2.1), u107, .int .u64 ((ofE n76).1.2.2.2), .int .i64 0, .int .u64 0, .int .i64 0, .int .i64 0, .int .i64 0, .int .i64 0, .int .i64 0]) rfl rfl rfl (all_cons rfl (all_cons rfl (all_cons (row_one hq108) (all_cons rfl all_nil)))) (by kernel_rfl) hk122 rfl rfl) ?_; clear h115
   rintro _ w117 a116 ⟨hk118, hz119, hg120⟩ h116
   have hk118' : Blk w117 N22 73 #[.int .i64 k, .int .i64 n55, .int .u64 0, .int .i64 0, .slice none 0 0, .int .u64 0, .slice none 0 0, .int .i64 ((ofE n76).1.1), .int .i64 ((ofE n76).1.2.1), u107, .int .u64 ((ofE n76).1.2.2.2), .int .i64 0, .int .u64 0, .int .i64 0, .int .i64 0, .int .i64 0, .int .i64 0, .int .i64 0] := hk118; clear hk118
   have hz123 := hg120.size
   refine pk0 (v := .int .i64 ((ofE n76).2)) h116 rfl fun a124 h124 => ?_; clear h116
   refine pl_nil ?_
   refine co_then ?_
   refine co_seq ?_
   refine co_reg ?_
   refine pk (v := .agg #[.int .i64 k, .int .i64 n55, .int .u64 0, .int .i64 0, .slice none 0 0, .int .u64 0, .slice none 0 0, .int .i64 ((ofE n76).1.1), .int .i64 ((ofE n76).1.2.1), u107, .int .u64 ((ofE n76).1.2.2.2), .int .i64 0, .int .u64 0, .int .i64 0, .int .i64 0, .int .i64 0, .int .i64 0, .int .i64 0]) h124 rfl (rn_loadN rfl rfl Try.underlying73 rfl (by kernel_rfl) hk118'.all) fun a125 h125 => ?_; clear h124
   refine pk0 (v := .int .i64 ((ofE n76).2)) h125 rfl fun a126 h126 => ?_; clear h125
   have hr132 := row_kept_at hq108 hg120 (row_ne_lt hq108 (by omega))
   have hk133 := hk102.below hb109
   have hk134 := hk133.kept hg120 (by simp; omega)
   refine pwD h126 rfl (op_storeN rfl rfl rfl (all_cons rfl (all_cons rfl (all_cons rfl (all_cons rfl (all_cons rfl (all_cons rfl (all_cons rfl (all_cons rfl (all_cons rfl (all_cons (row_one hr132) (all_cons rfl (all_cons rfl (all_cons rfl (all_cons rfl (all_cons rfl (all_cons rfl (all_cons rfl (all_cons rfl all_nil)))))))))))))))))) (by kernel_rfl) hk134 rfl) ?_; clear h126
   rintro _ w128 a127 ⟨hk129, hz130, hg131⟩ h127
   have hk129' : Blk w128 N11 73 #[.int .i64 k, .int .i64 n55, .int .u64 0, .int .i64 0, .slice none 0 0, .int .u64 0, .slice none 0 0, .int .i64 ((ofE n76).1.1), .int .i64 ((ofE n76).1.2.1), u107, .int .u64 ((ofE n76).1.2.2.2), .int .i64 0, .int .u64 0, .int .i64 0, .int .i64 0, .int .i64 0, .int .i64 0, .int .i64 0] := hk129; clear hk129
   have hz135 := hg131.size
   refine pk0 (v := .int .i64 ((ofE n76).2)) h127 rfl fun a136 h136 => ?_; clear h127
   refine pl_nil ?_
   refine co_then ?_
   refine wp_ret ?_
   refine co_retC1 (Q := fun _ _ _ => True) h136 rfl rfl rfl hk129' Try.underlying73 rfl (by kernel_rfl) ?_
   have hr137 := row_kept_at hr132 hg131 (row_ne_lt hr132 (by omega))
   have ho138 := ho82.below hb109
   have ho139 := ho138.at (by omega) hg120
   have ho140 := ho139.at (by omega) hg131
   have hB141 := fb_call hB96 hb109
   have hB142 := fb_at hB141 hg120 (fun hlt => by first | (exfalso; omega) | (simp; done) | simp_all)
   have hB143 := fb_at hB142 hg131 (fun hlt => by first | (exfalso; omega) | (simp; done) | simp_all)
   cases hof.symm.trans (rw_2b (by omega) hq58 hq79 (by omega))
   exact ⟨_, _, _, rfl, (row_nilL _ _ _ _ _), (row_nilL _ _ _ _ _), (row_lows hr137 (by omega)), ho140, hB143⟩
  ·
   rw [hc93] at h92
   have hp144 : e78 ≠ 0 := by first | simpa using hc93 | simpa [and_assoc] using hc93
   clear hc93
   refine co_true h92 rfl ?_
   refine co_seq ?_
   refine dr_gen (fun x => But (fun q => q = b) w x ∧ Blk x N22 73 #[.int .i64 k, .int .i64 n55, .int .u64 0, .int .i64 0, .slice none 0 0, .int .u64 0, .slice none 0 0, .int .i64 0, .int .i64 0, .slice none 0 0, .int .u64 0, .int .i64 0, .int .u64 0, .int .i64 0, .int .i64 0, .int .i64 0, .int .i64 0, .int .i64 0]) (by kernel_rfl) (fun w145 hg146 => ?_) (fun w145 hg146 => ?_)
   ·
    have hz147 := hg146.size
    have hB148 := fb_new hB96 hg146
    have hk149 := hk68'.kept hg83 (by simp; omega)
    have hk150 := hk149.kept hg146 (by simp)
    exact ⟨hB148, hk150⟩
   have hz151 := hg146.size
   have hB152 := fb_new hB96 hg146
   have hk153 := hk68'.kept hg83 (by simp; omega)
   have hk154 := hk153.kept hg146 (by simp)
   refine dk0 1 (v := pt b 0) h92 rfl rfl ⟨hB152, hk154⟩ fun a155 h155 => ?_; clear h92
   refine dk0 2 (v := pt b 0) h155 rfl rfl ⟨hB152, hk154⟩ fun a156 h156 => ?_; clear h155
   refine dk0 3 (v := pt b 2) h156 rfl rfl ⟨hB152, hk154⟩ fun a157 h157 => ?_; clear h156
   refine dr_many [0, 4] (by kernel_rfl) (by simp) ⟨?_, ?_, trivial⟩
   ·
    refine dr_opVal (i := 0) (v := .agg #[.int .i64 k, .int .i64 n55, .int .u64 0, .int .i64 0, .slice none 0 0, .int .u64 0, .slice none 0 0, .int .i64 0, .int .i64 0, .slice none 0 0, .int .u64 0, .int .i64 0, .int .u64 0, .int .i64 0, .int .i64 0, .int .i64 0, .int .i64 0, .int .i64 0]) h157 rfl rfl rfl rfl (by kernel_rfl) rfl (rn_loadN rfl rfl Try.underlying73 rfl (by kernel_rfl) hk154.all) ⟨hB152, hk154⟩ (fun a158 h158 => ?_); clear h157
    refine dr_many [4, 5] (by kernel_rfl) (by simp) ⟨?_, ?_, trivial⟩
    ·
     have ho159 := ho82.new hg146
     refine dr_opVal (i := 4) (v := .int .i64 e78) h158 rfl rfl rfl rfl (by kernel_rfl) rfl (rn_load1 rfl rfl Try.isAgg3 ho159.re.cell) ⟨hB152, hk154⟩ (fun a160 h160 => ?_); clear h158
     have hk166 := hk102.kept hg146 (by simp)
     refine d1D 5 h160 rfl rfl (op_storeN rfl rfl rfl (all_cons rfl (all_cons rfl (all_cons rfl (all_cons rfl (all_cons rfl (all_cons rfl (all_cons rfl (all_cons rfl (all_cons rfl (all_cons rfl (all_cons rfl (all_cons rfl (all_cons rfl (all_cons rfl (all_cons rfl (all_cons rfl (all_cons rfl (all_cons rfl all_nil)))))))))))))))))) (by kernel_rfl) hk166 rfl) ?_ ?_; clear h160
     ·
      rintro _ w162 ⟨hk163, hz164, hg165⟩
      have hk163' : Blk w162 N11 73 #[.int .i64 k, .int .i64 n55, .int .u64 0, .int .i64 0, .slice none 0 0, .int .u64 0, .slice none 0 0, .int .i64 0, .int .i64 0, .slice none 0 0, .int .u64 0, .int .i64 0, .int .u64 0, .int .i64 0, .int .i64 0, .int .i64 0, .int .i64 0, .int .i64 0] := hk163; clear hk163
      have hz167 := hg165.size
      have hB168 := fb_at hB152 hg165 (fun hlt => by first | (exfalso; omega) | (simp; done) | simp_all)
      have hk169 := hk154.kept hg165 (by simp; omega)
      exact ⟨hB168, hk169⟩
     rintro _ w162 a161 ⟨hk163, hz164, hg165⟩ h161
     have hk163' : Blk w162 N11 73 #[.int .i64 k, .int .i64 n55, .int .u64 0, .int .i64 0, .slice none 0 0, .int .u64 0, .slice none 0 0, .int .i64 0, .int .i64 0, .slice none 0 0, .int .u64 0, .int .i64 0, .int .u64 0, .int .i64 0, .int .i64 0, .int .i64 0, .int .i64 0, .int .i64 0] := hk163; clear hk163
     have hz167 := hg165.size
     have hB168 := fb_at hB152 hg165 (fun hlt => by first | (exfalso; omega) | (simp; done) | simp_all)
     have hk169 := hk154.kept hg165 (by simp; omega)
     refine dk0 6 (v := .int .i64 e78) h161 rfl rfl ⟨hB168, hk169⟩ fun a170 h170 => ?_; clear h161
     refine dr_done (by kernel_rfl) ?_
     refine co_then ?_
     refine wp_ret ?_
     refine co_thenR ?_
     refine co_retC1 (Q := fun _ _ _ => True) h170 rfl rfl rfl hk163' Try.underlying73 rfl (by kernel_rfl) ?_
     have ho171 := ho159.at (by omega) hg165
     cases hof.symm.trans (rw_2a (by omega) hq58 hq79 (by omega))
     exact ⟨_, _, _, rfl, (row_nilL _ _ _ _ _), (row_nilL _ _ _ _ _), (row_nilL _ _ _ _ _), ho171, hB168⟩
    ·
     have hk177 := hk102.kept hg146 (by simp)
     refine dr_opDo (i := 5) h158 rfl rfl rfl (op_storeN rfl rfl rfl (all_cons rfl (all_cons rfl (all_cons rfl (all_cons rfl (all_cons rfl (all_cons rfl (all_cons rfl (all_cons rfl (all_cons rfl (all_cons rfl (all_cons rfl (all_cons rfl (all_cons rfl (all_cons rfl (all_cons rfl (all_cons rfl (all_cons rfl (all_cons rfl all_nil)))))))))))))))))) (by kernel_rfl) hk177 rfl) ?_ ?_; clear h158
     ·
      rintro _ w173 ⟨hk174, hz175, hg176⟩
      have hk174' : Blk w173 N11 73 #[.int .i64 k, .int .i64 n55, .int .u64 0, .int .i64 0, .slice none 0 0, .int .u64 0, .slice none 0 0, .int .i64 0, .int .i64 0, .slice none 0 0, .int .u64 0, .int .i64 0, .int .u64 0, .int .i64 0, .int .i64 0, .int .i64 0, .int .i64 0, .int .i64 0] := hk174; clear hk174
      have hz178 := hg176.size
      have hB179 := fb_at hB152 hg176 (fun hlt => by first | (exfalso; omega) | (simp; done) | simp_all)
      have hk180 := hk154.kept hg176 (by simp; omega)
      exact ⟨hB179, hk180⟩
     rintro _ w173 a172 ⟨hk174, hz175, hg176⟩ h172
     have hk174' : Blk w173 N11 73 #[.int .i64 k, .int .i64 n55, .int .u64 0, .int .i64 0, .slice none 0 0, .int .u64 0, .slice none 0 0, .int .i64 0, .int .i64 0, .slice none 0 0, .int .u64 0, .int .i64 0, .int .u64 0, .int .i64 0, .int .i64 0, .int .i64 0, .int .i64 0, .int .i64 0] := hk174; clear hk174
     have hz178 := hg176.size
     have hB179 := fb_at hB152 hg176 (fun hlt => by first | (exfalso; omega) | (simp; done) | simp_all)
     have hk180 := hk154.kept hg176 (by simp; omega)
     refine dr_many [4] (by kernel_rfl) (by simp) ⟨?_, trivial⟩
     ·
      have ho181 := ho82.new hg146
      have ho182 := ho181.at (by omega) hg176
      refine dr_opVal (i := 4) (v := .int .i64 e78) h172 rfl rfl rfl rfl (by kernel_rfl) rfl (rn_load1 rfl rfl Try.isAgg3 ho182.re.cell) ⟨hB179, hk180⟩ (fun a183 h183 => ?_); clear h172
      refine dk0 6 (v := .int .i64 e78) h183 rfl rfl ⟨hB179, hk180⟩ fun a184 h184 => ?_; clear h183
      refine dr_done (by kernel_rfl) ?_
      refine co_then ?_
      refine wp_ret ?_
      refine co_thenR ?_
      refine co_retC1 (Q := fun _ _ _ => True) h184 rfl rfl rfl hk174' Try.underlying73 rfl (by kernel_rfl) ?_
      cases hof.symm.trans (rw_2a (by omega) hq58 hq79 (by omega))
      exact ⟨_, _, _, rfl, (row_nilL _ _ _ _ _), (row_nilL _ _ _ _ _), (row_nilL _ _ _ _ _), ho182, hB179⟩
   ·
    have ho185 := ho82.new hg146
    refine dr_opVal (i := 4) (v := .int .i64 e78) h157 rfl rfl rfl rfl (by kernel_rfl) rfl (rn_load1 rfl rfl Try.isAgg3 ho185.re.cell) ⟨hB152, hk154⟩ (fun a186 h186 => ?_); clear h157
    refine dr_many [0] (by kernel_rfl) (by simp) ⟨?_, trivial⟩
    ·
     refine dr_opVal (i := 0) (v := .agg #[.int .i64 k, .int .i64 n55, .int .u64 0, .int .i64 0, .slice none 0 0, .int .u64 0, .slice none 0 0, .int .i64 0, .int .i64 0, .slice none 0 0, .int .u64 0, .int .i64 0, .int .u64 0, .int .i64 0, .int .i64 0, .int .i64 0, .int .i64 0, .int .i64 0]) h186 rfl rfl rfl rfl (by kernel_rfl) rfl (rn_loadN rfl rfl Try.underlying73 rfl (by kernel_rfl) hk154.all) ⟨hB152, hk154⟩ (fun a187 h187 => ?_); clear h186
     have hk193 := hk102.kept hg146 (by simp)
     refine d1D 5 h187 rfl rfl (op_storeN rfl rfl rfl (all_cons rfl (all_cons rfl (all_cons rfl (all_cons rfl (all_cons rfl (all_cons rfl (all_cons rfl (all_cons rfl (all_cons rfl (all_cons rfl (all_cons rfl (all_cons rfl (all_cons rfl (all_cons rfl (all_cons rfl (all_cons rfl (all_cons rfl (all_cons rfl all_nil)))))))))))))))))) (by kernel_rfl) hk193 rfl) ?_ ?_; clear h187
     ·
      rintro _ w189 ⟨hk190, hz191, hg192⟩
      have hk190' : Blk w189 N11 73 #[.int .i64 k, .int .i64 n55, .int .u64 0, .int .i64 0, .slice none 0 0, .int .u64 0, .slice none 0 0, .int .i64 0, .int .i64 0, .slice none 0 0, .int .u64 0, .int .i64 0, .int .u64 0, .int .i64 0, .int .i64 0, .int .i64 0, .int .i64 0, .int .i64 0] := hk190; clear hk190
      have hz194 := hg192.size
      have hB195 := fb_at hB152 hg192 (fun hlt => by first | (exfalso; omega) | (simp; done) | simp_all)
      have hk196 := hk154.kept hg192 (by simp; omega)
      exact ⟨hB195, hk196⟩
     rintro _ w189 a188 ⟨hk190, hz191, hg192⟩ h188
     have hk190' : Blk w189 N11 73 #[.int .i64 k, .int .i64 n55, .int .u64 0, .int .i64 0, .slice none 0 0, .int .u64 0, .slice none 0 0, .int .i64 0, .int .i64 0, .slice none 0 0, .int .u64 0, .int .i64 0, .int .u64 0, .int .i64 0, .int .i64 0, .int .i64 0, .int .i64 0, .int .i64 0] := hk190; clear hk190
     have hz194 := hg192.size
     have hB195 := fb_at hB152 hg192 (fun hlt => by first | (exfalso; omega) | (simp; done) | simp_all)
     have hk196 := hk154.kept hg192 (by simp; omega)
     refine dk0 6 (v := .int .i64 e78) h188 rfl rfl ⟨hB195, hk196⟩ fun a197 h197 => ?_; clear h188
     refine dr_done (by kernel_rfl) ?_
     refine co_then ?_
     refine wp_ret ?_
     refine co_thenR ?_
     refine co_retC1 (Q := fun _ _ _ => True) h197 rfl rfl rfl hk190' Try.underlying73 rfl (by kernel_rfl) ?_
     have ho198 := ho185.at (by omega) hg192
     cases hof.symm.trans (rw_2a (by omega) hq58 hq79 (by omega))
     exact ⟨_, _, _, rfl, (row_nilL _ _ _ _ _), (row_nilL _ _ _ _ _), (row_nilL _ _ _ _ _), ho198, hB195⟩
 ·
  rw [hc40] at h39
  have hp199 : k = 1 := by first | simpa using hc40 | simpa [and_assoc] using hc40
  clear hc40
  refine co_true h39 rfl ?_
  refine co_seq ?_
  refine co_reg ?_
  refine pk0 (v := pt b 0) h39 rfl fun a200 h200 => ?_; clear h39
  refine pw h200 rfl (op_call (args := #[pt b 0, .int .i64 65536]) (R := fun res xw => ∃ (n : ByteArray) (a' e' : Int), res = .string n ∧ textR s ra rx 65536 = (n, a', e') ∧ (n.size : Int) ≤ 65536 ∧ OXR b s a' e' xw ∧ w29.grownBy xw (some b)) rfl rfl rfl (by kernel_rfl) (by kernel_rfl) (Try.call74 _ _) (oxr_text b s ra rx 65536 w29 ho48 (by omega) (by omega) (by omega)) (by rintro q x ⟨n, a', e', rfl, h0, k0, h1, h2⟩; exact ⟨_, rfl, n, a', e', rfl, h0, k0, h1, h2⟩)) ?_; clear h200
  rintro _ w202 a201 ⟨n203, a204, e205, rfl, hq206, hn207, ho209, hg210⟩ h201
  have hz211 := hg210.size
  have hl212 := ho209.lt
  refine pk0 (v := .string n203) h201 rfl fun a213 h213 => ?_; clear h201
  refine pl_nil ?_
  refine co_then ?_
  refine co_seq ?_
  refine co_seq ?_
  refine co_reg ?_
  refine pk0 (v := pt b 0) h213 rfl fun a214 h214 => ?_; clear h213
  refine pk0 (v := pt b 0) h214 rfl fun a215 h215 => ?_; clear h214
  refine pk0 (v := pt b 2) h215 rfl fun a216 h216 => ?_; clear h215
  refine pk (v := .int .i64 e205) h216 rfl (rn_load1 rfl rfl Try.isAgg3 ho209.re.cell) fun a217 h217 => ?_; clear h216
  refine pk0 (v := .bool (e205 != 0)) h217 rfl fun a218 h218 => ?_; clear h217
  refine pl_nil ?_
  refine co_then ?_
  have hB220 := fb_at hB44 hg210 (fun hlt => by first | (exfalso; omega) | (simp; done) | simp_all)
  cases hc219 : (e205 != 0)
  ·
   rw [hc219] at h218
   have hp221 : ¬ (e205 ≠ 0) := by first | simpa using hc219 | simpa [and_assoc] using hc219
   clear hc219
   refine co_false h218 rfl ?_
   refine wp_skip ?_
   refine co_then ?_
   refine co_seq ?_
   refine co_reg ?_
   refine pk0 (v := .string n203) h218 rfl fun a222 h222 => ?_; clear h218
   refine pw h222 rfl (op_call (args := #[.string n203]) (R := fun res xw => ∃ u : Value, res = .tuple #[.agg #[.int .i64 ((ofC n203).1.1), u, .int .u64 ((ofC n203).1.2.2)], .int .i64 ((ofC n203).2)] ∧ xw.ownsRow w202.heap.size 185 2 u ((ofC n203).1.2.1).length (((ofC n203).1.2.1).flatMap memE) ∧ Below w202.heap.size w202 xw) rfl rfl rfl (by kernel_rfl) (by kernel_rfl) (Try.call138 _ _) (crOf_any n203 ((ofC n203).1.1) ((ofC n203).1.2.1) ((ofC n203).1.2.2) ((ofC n203).2) w202 (by first | omega | (simp; done) | (simp; omega)) rfl) (by rintro e x ⟨u, rfl, hq226, hb227⟩; exact ⟨_, rfl, ⟨u, rfl, hq226, hb227⟩⟩)) ?_; clear h222
   rintro _ w224 a223 ⟨u225, rfl, hq226, hb227⟩ h223
   have hz228 := hb227.size
   have hl229 := sl_len (row_sl hq226 memE_len)
   refine pk0 (v := .tuple #[.agg #[.int .i64 ((ofC n203).1.1), u225, .int .u64 ((ofC n203).1.2.2)], .int .i64 ((ofC n203).2)]) h223 rfl fun a230 h230 => ?_; clear h223
   refine pk0 (v := .agg #[.int .i64 ((ofC n203).1.1), u225, .int .u64 ((ofC n203).1.2.2)]) h230 rfl fun a231 h231 => ?_; clear h230
   refine pk0 (v := .int .i64 ((ofC n203).2)) h231 rfl fun a232 h232 => ?_; clear h231
   refine pk0 (v := pt N22 3) h232 rfl fun a233 h233 => ?_; clear h232
   have hk239 := hk30'.kept hg210 (by simp; omega)
   have hk240 := hk239.below hb227
   refine pwD h233 rfl (op_storePart (k := 3) (cs' := #[.int .i64 k, .int .i64 0, .int .u64 0, .int .i64 ((ofC n203).1.1), u225, .int .u64 ((ofC n203).1.2.2), .slice none 0 0, .int .i64 0, .int .i64 0, .slice none 0 0, .int .u64 0, .int .i64 0, .int .u64 0, .int .i64 0, .int .i64 0, .int .i64 0, .int .i64 0, .int .i64 0]) rfl rfl rfl (all_cons rfl (all_cons (row_one hq226) (all_cons rfl all_nil))) (by kernel_rfl) hk240 rfl rfl) ?_; clear h233
   rintro _ w235 a234 ⟨hk236, hz237, hg238⟩ h234
   have hk236' : Blk w235 N22 73 #[.int .i64 k, .int .i64 0, .int .u64 0, .int .i64 ((ofC n203).1.1), u225, .int .u64 ((ofC n203).1.2.2), .slice none 0 0, .int .i64 0, .int .i64 0, .slice none 0 0, .int .u64 0, .int .i64 0, .int .u64 0, .int .i64 0, .int .i64 0, .int .i64 0, .int .i64 0, .int .i64 0] := hk236; clear hk236
   have hz241 := hg238.size
   refine pk0 (v := .int .i64 ((ofC n203).2)) h234 rfl fun a242 h242 => ?_; clear h234
   refine pl_nil ?_
   refine co_then ?_
   refine co_seq ?_
   refine co_seq ?_
   refine co_reg ?_
   refine pk0 (v := .int .i64 ((ofC n203).2)) h242 rfl fun a243 h243 => ?_; clear h242
   refine pk0 (v := .bool (((ofC n203).2) != 0)) h243 rfl fun a244 h244 => ?_; clear h243
   refine pl_nil ?_
   refine co_then ?_
   have hB246 := fb_call hB220 hb227
   have hB247 := fb_at hB246 hg238 (fun hlt => by first | (exfalso; omega) | (simp; done) | simp_all)
   have hk248 := hk37.kept hg210 (by simp; omega)
   have hk249 := hk248.below hb227
   have hk250 := hk249.kept hg238 (by simp; omega)
   have hk251 := hk50.kept hg210 (by simp; omega)
   have hk252 := hk251.below hb227
   have hk253 := hk252.kept hg238 (by simp; omega)
   have ho254 := ho209.below hb227
   have ho255 := ho254.at (by omega) hg238
   cases hc245 : (((ofC n203).2) != 0)
   ·
    rw [hc245] at h244
    have hp256 : ¬ (((ofC n203).2) ≠ 0) := by first | simpa using hc245 | simpa [and_assoc] using hc245
    clear hc245
    refine co_false h244 rfl ?_
    refine wp_skip ?_
    refine co_then ?_
    refine co_seq ?_
    refine co_reg ?_
    refine pk0 (v := pt b 0) h244 rfl fun a257 h257 => ?_; clear h244
    refine pw h257 rfl (op_call (args := #[pt b 0, .int .i64 4]) (R := fun res xw => ∃ (n : Int) (a' e' : Int), res = .int .i64 n ∧ numR s a204 e205 4 = (n, a', e') ∧ 0 ≤ n ∧ n ≤ 4 ∧ OXR b s a' e' xw ∧ w235.grownBy xw (some b)) rfl rfl rfl (by kernel_rfl) (by kernel_rfl) (Try.call93 _ _) (oxr_num b s a204 e205 4 w235 ho255 (by omega) (by omega) (by omega)) (by rintro q x ⟨n, a', e', rfl, h0, k0, k1, h1, h2⟩; exact ⟨_, rfl, n, a', e', rfl, h0, k0, k1, h1, h2⟩)) ?_; clear h257
    rintro _ w259 a258 ⟨n260, a261, e262, rfl, hq263, hn264, hm265, ho266, hg267⟩ h258
    have hz268 := hg267.size
    have hl269 := ho266.lt
    refine pk0 (v := .int .i64 n260) h258 rfl fun a270 h270 => ?_; clear h258
    refine pl_nil ?_
    refine co_then ?_
    refine co_seq ?_
    refine co_seq ?_
    refine co_reg ?_
    refine pk0 (v := .int .i64 0) h270 rfl fun a271 h271 => ?_; clear h270
    refine pl_nil ?_
    refine co_then ?_
    refine wp_block ?_
    obtain ⟨base272, hb_base272⟩ : ∃ b, b = w259.heap.size := ⟨_, rfl⟩
    have hNb : N22 < base272 := by omega
    have hbb : b < base272 := by omega
    have h273 : Slots 80 [(0, pt b 0), (4, pt N11 0), (6, pt N22 0), (7, .int .i64 ((ofC n203).2)), (9, .int .i64 n260), (10, .int .i64 0)] _ := h271.sub ⟨rfl, rfl, rfl, rfl, rfl, rfl, trivial⟩; clear h271
    refine co_loop (fun mm a x => ∃ (i : Nat) (u : Value) (ls : List Int) (ps : Int) (er : Int), Slots 80 [(0, pt b 0), (4, pt N11 0), (6, pt N22 0), (7, .int .i64 ((ofC n203).2)), (9, .int .i64 n260), (10, .int .i64 ((i : Nat) : Int))] a ∧ mm = n260.toNat - i ∧ (((i : Nat) : Int) ≤ n260) ∧ (ls.length = i) ∧ (rgN s i ([], a261, e262) = (ls, ps, er)) ∧ Blk x N22 73 #[.int .i64 k, .int .i64 0, .int .u64 0, .int .i64 ((ofC n203).1.1), u225, .int .u64 ((ofC n203).1.2.2), u, .int .i64 0, .int .i64 0, .slice none 0 0, .int .u64 0, .int .i64 0, .int .u64 0, .int .i64 0, .int .i64 0, .int .i64 0, .int .i64 0, .int .i64 0] ∧ OXR b s ps er x ∧ x.ownsRow base272 3 1 u ls.length (ls.flatMap (intE .i64)) ∧ base272 ≤ x.heap.size ∧ x.ownsRow w202.heap.size 185 2 u225 (((ofC n203).1.2.1).length) (((ofC n203).1.2.1).flatMap memE) ∧ But (fun q => q = b) w x ∧ Blk x N11 73 #[.int .i64 0, .int .i64 0, .int .u64 0, .int .i64 0, .slice none 0 0, .int .u64 0, .slice none 0 0, .int .i64 0, .int .i64 0, .slice none 0 0, .int .u64 0, .int .i64 0, .int .u64 0, .int .i64 0, .int .i64 0, .int .i64 0, .int .i64 0, .int .i64 0]) (n260.toNat - 0) ?_ ?_
    have hk274 := hk236'.kept hg267 (by simp; omega)
    have hr275 := row_kept_at hq226 hg238 (row_ne_lt hq226 (by omega))
    have hr276 := row_kept_at hr275 hg267 (row_ne_lt hr275 (by omega))
    have hB277 := fb_at hB247 hg267 (fun hlt => by first | (exfalso; omega) | (simp; done) | simp_all)
    have hk278 := hk253.kept hg267 (by simp; omega)
    · exact ⟨0, (.slice none 0 0), [], a261, e262, h273.sub ⟨rfl, rfl, rfl, rfl, rfl, (slot_eq rfl (congrArg (Value.int .i64) (by first | rfl | omega))), trivial⟩, rfl, by omega, by first | rfl | (simp; omega), by first | rfl | exact hR', hk274, ho266, (row_nilL _ _ _ _ _), (by omega), hr276, hB277, hk278⟩
    · rintro k279 a280 w281 ⟨i, u, ls, ps, er, h280, rfl, hi282, hi283, hi284, hf285, hf286, hf287, hf288, hf289, hB290, hk291⟩
      have hz292 := hB290.size
      have hl293 := hk291.lt
      have hl294 := hf285.lt
      have hl295 := hf286.lt
      have hR : rgN s i ([], a261, e262) = (ls, ps, er) := by assumption
      refine co_seq ?_
      refine co_seq ?_
      refine co_reg ?_
      refine pk0 (v := .int .i64 ((i : Nat) : Int)) h280 rfl fun a296 h296 => ?_; clear h280
      refine pk0 (v := .int .i64 n260) h296 rfl fun a297 h297 => ?_; clear h296
      refine pk0 (v := .bool (decide (((i : Nat) : Int) < n260))) h297 rfl fun a298 h298 => ?_; clear h297
      refine pl_nil ?_
      refine co_then ?_
      cases hc299 : (decide (((i : Nat) : Int) < n260))
      ·
       rw [hc299] at h298
       have hp300 : ¬ (((i : Nat) : Int) < n260) := of_decide_eq_false hc299
       clear hc299
       refine co_false h298 rfl ?_
       refine wp_exit ?_
       refine co_thenX ?_
       refine co_thenX ?_
       refine co_blockX ?_
       refine co_then ?_
       refine co_seq ?_
       refine dr_gen (fun x => But (fun q => q = b) w x ∧ Blk x N22 73 #[.int .i64 k, .int .i64 0, .int .u64 0, .int .i64 ((ofC n203).1.1), u225, .int .u64 ((ofC n203).1.2.2), u, .int .i64 0, .int .i64 0, .slice none 0 0, .int .u64 0, .int .i64 0, .int .u64 0, .int .i64 0, .int .i64 0, .int .i64 0, .int .i64 0, .int .i64 0]) (by kernel_rfl) (fun w301 hg302 => ?_) (fun w301 hg302 => ?_)
       ·
        have hz303 := hg302.size
        have hB304 := fb_new hB290 hg302
        have hk305 := hf285.kept hg302 (by simp)
        exact ⟨hB304, hk305⟩
       have hz306 := hg302.size
       have hB307 := fb_new hB290 hg302
       have hk308 := hf285.kept hg302 (by simp)
       refine dk0 1 (v := pt b 0) h298 rfl rfl ⟨hB307, hk308⟩ fun a309 h309 => ?_; clear h298
       refine dk0 2 (v := pt b 0) h309 rfl rfl ⟨hB307, hk308⟩ fun a310 h310 => ?_; clear h309
       refine dk0 3 (v := pt b 2) h310 rfl rfl ⟨hB307, hk308⟩ fun a311 h311 => ?_; clear h310
       refine dr_many [0, 4] (by kernel_rfl) (by simp) ⟨?_, ?_, trivial⟩
       ·
        refine dr_opVal (i := 0) (v := .agg #[.int .i64 k, .int .i64 0, .int .u64 0, .int .i64 ((ofC n203).1.1), u225, .int .u64 ((ofC n203).1.2.2), u, .int .i64 0, .int .i64 0, .slice none 0 0, .int .u64 0, .int .i64 0, .int .u64 0, .int .i64 0, .int .i64 0, .int .i64 0, .int .i64 0, .int .i64 0]) h311 rfl rfl rfl rfl (by kernel_rfl) rfl (rn_loadN rfl rfl Try.underlying73 rfl (by kernel_rfl) hk308.all) ⟨hB307, hk308⟩ (fun a312 h312 => ?_); clear h311
        refine dr_many [4, 5] (by kernel_rfl) (by simp) ⟨?_, ?_, trivial⟩
        ·
         have ho313 := hf286.new hg302
         refine dr_opVal (i := 4) (v := .int .i64 er) h312 rfl rfl rfl rfl (by kernel_rfl) rfl (rn_load1 rfl rfl Try.isAgg3 ho313.re.cell) ⟨hB307, hk308⟩ (fun a314 h314 => ?_); clear h312
         have hr320 := row_kept_new hf287 hg302
         have hr321 := row_kept_new hf289 hg302
         have hk322 := hk291.kept hg302 (by simp)
         refine d1D 5 h314 rfl rfl (op_storeN rfl rfl rfl (all_cons rfl (all_cons rfl (all_cons rfl (all_cons rfl (all_cons (row_one hr321) (all_cons rfl (all_cons (row_one hr320) (all_cons rfl (all_cons rfl (all_cons rfl (all_cons rfl (all_cons rfl (all_cons rfl (all_cons rfl (all_cons rfl (all_cons rfl (all_cons rfl (all_cons rfl all_nil)))))))))))))))))) (by kernel_rfl) hk322 rfl) ?_ ?_; clear h314
         ·
          rintro _ w316 ⟨hk317, hz318, hg319⟩
          have hk317' : Blk w316 N11 73 #[.int .i64 k, .int .i64 0, .int .u64 0, .int .i64 ((ofC n203).1.1), u225, .int .u64 ((ofC n203).1.2.2), u, .int .i64 0, .int .i64 0, .slice none 0 0, .int .u64 0, .int .i64 0, .int .u64 0, .int .i64 0, .int .i64 0, .int .i64 0, .int .i64 0, .int .i64 0] := hk317; clear hk317
          have hz323 := hg319.size
          have hB324 := fb_at hB307 hg319 (fun hlt => by first | (exfalso; omega) | (simp; done) | simp_all)
          have hk325 := hk308.kept hg319 (by simp; omega)
          exact ⟨hB324, hk325⟩
         rintro _ w316 a315 ⟨hk317, hz318, hg319⟩ h315
         have hk317' : Blk w316 N11 73 #[.int .i64 k, .int .i64 0, .int .u64 0, .int .i64 ((ofC n203).1.1), u225, .int .u64 ((ofC n203).1.2.2), u, .int .i64 0, .int .i64 0, .slice none 0 0, .int .u64 0, .int .i64 0, .int .u64 0, .int .i64 0, .int .i64 0, .int .i64 0, .int .i64 0, .int .i64 0] := hk317; clear hk317
         have hz323 := hg319.size
         have hB324 := fb_at hB307 hg319 (fun hlt => by first | (exfalso; omega) | (simp; done) | simp_all)
         have hk325 := hk308.kept hg319 (by simp; omega)
         refine dk0 6 (v := .int .i64 er) h315 rfl rfl ⟨hB324, hk325⟩ fun a326 h326 => ?_; clear h315
         refine dr_done (by kernel_rfl) ?_
         refine co_then ?_
         refine wp_ret ?_
         refine co_thenR ?_
         refine co_retC1 (Q := fun _ _ _ => True) h326 rfl rfl rfl hk317' Try.underlying73 rfl (by kernel_rfl) ?_
         have hr327 := row_kept_at hr321 hg319 (row_ne_lt hr321 (by omega))
         have hr328 := row_kept_at hr320 hg319 (row_ne_lt hr320 (by omega))
         have ho329 := ho313.at (by omega) hg319
         cases hof.symm.trans (rw_1c (by omega) hq206 (by omega) (by omega) hq263 hR (by omega))
         exact ⟨_, _, _, rfl, (row_lows hr327 (by omega)), (row_lows hr328 (by omega)), (row_nilL _ _ _ _ _), ho329, hB324⟩
        ·
         have hr335 := row_kept_new hf287 hg302
         have hr336 := row_kept_new hf289 hg302
         have hk337 := hk291.kept hg302 (by simp)
         refine dr_opDo (i := 5) h312 rfl rfl rfl (op_storeN rfl rfl rfl (all_cons rfl (all_cons rfl (all_cons rfl (all_cons rfl (all_cons (row_one hr336) (all_cons rfl (all_cons (row_one hr335) (all_cons rfl (all_cons rfl (all_cons rfl (all_cons rfl (all_cons rfl (all_cons rfl (all_cons rfl (all_cons rfl (all_cons rfl (all_cons rfl (all_cons rfl all_nil)))))))))))))))))) (by kernel_rfl) hk337 rfl) ?_ ?_; clear h312
         ·
          rintro _ w331 ⟨hk332, hz333, hg334⟩
          have hk332' : Blk w331 N11 73 #[.int .i64 k, .int .i64 0, .int .u64 0, .int .i64 ((ofC n203).1.1), u225, .int .u64 ((ofC n203).1.2.2), u, .int .i64 0, .int .i64 0, .slice none 0 0, .int .u64 0, .int .i64 0, .int .u64 0, .int .i64 0, .int .i64 0, .int .i64 0, .int .i64 0, .int .i64 0] := hk332; clear hk332
          have hz338 := hg334.size
          have hB339 := fb_at hB307 hg334 (fun hlt => by first | (exfalso; omega) | (simp; done) | simp_all)
          have hk340 := hk308.kept hg334 (by simp; omega)
          exact ⟨hB339, hk340⟩
         rintro _ w331 a330 ⟨hk332, hz333, hg334⟩ h330
         have hk332' : Blk w331 N11 73 #[.int .i64 k, .int .i64 0, .int .u64 0, .int .i64 ((ofC n203).1.1), u225, .int .u64 ((ofC n203).1.2.2), u, .int .i64 0, .int .i64 0, .slice none 0 0, .int .u64 0, .int .i64 0, .int .u64 0, .int .i64 0, .int .i64 0, .int .i64 0, .int .i64 0, .int .i64 0] := hk332; clear hk332
         have hz338 := hg334.size
         have hB339 := fb_at hB307 hg334 (fun hlt => by first | (exfalso; omega) | (simp; done) | simp_all)
         have hk340 := hk308.kept hg334 (by simp; omega)
         refine dr_many [4] (by kernel_rfl) (by simp) ⟨?_, trivial⟩
         ·
          have ho341 := hf286.new hg302
          have ho342 := ho341.at (by omega) hg334
          refine dr_opVal (i := 4) (v := .int .i64 er) h330 rfl rfl rfl rfl (by kernel_rfl) rfl (rn_load1 rfl rfl Try.isAgg3 ho342.re.cell) ⟨hB339, hk340⟩ (fun a343 h343 => ?_); clear h330
          refine dk0 6 (v := .int .i64 er) h343 rfl rfl ⟨hB339, hk340⟩ fun a344 h344 => ?_; clear h343
          refine dr_done (by kernel_rfl) ?_
          refine co_then ?_
          refine wp_ret ?_
          refine co_thenR ?_
          refine co_retC1 (Q := fun _ _ _ => True) h344 rfl rfl rfl hk332' Try.underlying73 rfl (by kernel_rfl) ?_
          have hr345 := row_kept_at hr336 hg334 (row_ne_lt hr336 (by omega))
          have hr346 := row_kept_at hr335 hg334 (row_ne_lt hr335 (by omega))
          cases hof.symm.trans (rw_1c (by omega) hq206 (by omega) (by omega) hq263 hR (by omega))
          exact ⟨_, _, _, rfl, (row_lows hr345 (by omega)), (row_lows hr346 (by omega)), (row_nilL _ _ _ _ _), ho342, hB339⟩
       ·
        have ho347 := hf286.new hg302
        refine dr_opVal (i := 4) (v := .int .i64 er) h311 rfl rfl rfl rfl (by kernel_rfl) rfl (rn_load1 rfl rfl Try.isAgg3 ho347.re.cell) ⟨hB307, hk308⟩ (fun a348 h348 => ?_); clear h311
        refine dr_many [0] (by kernel_rfl) (by simp) ⟨?_, trivial⟩
        ·
         refine dr_opVal (i := 0) (v := .agg #[.int .i64 k, .int .i64 0, .int .u64 0, .int .i64 ((ofC n203).1.1), u225, .int .u64 ((ofC n203).1.2.2), u, .int .i64 0, .int .i64 0, .slice none 0 0, .int .u64 0, .int .i64 0, .int .u64 0, .int .i64 0, .int .i64 0, .int .i64 0, .int .i64 0, .int .i64 0]) h348 rfl rfl rfl rfl (by kernel_rfl) rfl (rn_loadN rfl rfl Try.underlying73 rfl (by kernel_rfl) hk308.all) ⟨hB307, hk308⟩ (fun a349 h349 => ?_); clear h348
         have hr355 := row_kept_new hf287 hg302
         have hr356 := row_kept_new hf289 hg302
         have hk357 := hk291.kept hg302 (by simp)
         refine d1D 5 h349 rfl rfl (op_storeN rfl rfl rfl (all_cons rfl (all_cons rfl (all_cons rfl (all_cons rfl (all_cons (row_one hr356) (all_cons rfl (all_cons (row_one hr355) (all_cons rfl (all_cons rfl (all_cons rfl (all_cons rfl (all_cons rfl (all_cons rfl (all_cons rfl (all_cons rfl (all_cons rfl (all_cons rfl (all_cons rfl all_nil)))))))))))))))))) (by kernel_rfl) hk357 rfl) ?_ ?_; clear h349
         ·
          rintro _ w351 ⟨hk352, hz353, hg354⟩
          have hk352' : Blk w351 N11 73 #[.int .i64 k, .int .i64 0, .int .u64 0, .int .i64 ((ofC n203).1.1), u225, .int .u64 ((ofC n203).1.2.2), u, .int .i64 0, .int .i64 0, .slice none 0 0, .int .u64 0, .int .i64 0, .int .u64 0, .int .i64 0, .int .i64 0, .int .i64 0, .int .i64 0, .int .i64 0] := hk352; clear hk352
          have hz358 := hg354.size
          have hB359 := fb_at hB307 hg354 (fun hlt => by first | (exfalso; omega) | (simp; done) | simp_all)
          have hk360 := hk308.kept hg354 (by simp; omega)
          exact ⟨hB359, hk360⟩
         rintro _ w351 a350 ⟨hk352, hz353, hg354⟩ h350
         have hk352' : Blk w351 N11 73 #[.int .i64 k, .int .i64 0, .int .u64 0, .int .i64 ((ofC n203).1.1), u225, .int .u64 ((ofC n203).1.2.2), u, .int .i64 0, .int .i64 0, .slice none 0 0, .int .u64 0, .int .i64 0, .int .u64 0, .int .i64 0, .int .i64 0, .int .i64 0, .int .i64 0, .int .i64 0] := hk352; clear hk352
         have hz358 := hg354.size
         have hB359 := fb_at hB307 hg354 (fun hlt => by first | (exfalso; omega) | (simp; done) | simp_all)
         have hk360 := hk308.kept hg354 (by simp; omega)
         refine dk0 6 (v := .int .i64 er) h350 rfl rfl ⟨hB359, hk360⟩ fun a361 h361 => ?_; clear h350
         refine dr_done (by kernel_rfl) ?_
         refine co_then ?_
         refine wp_ret ?_
         refine co_thenR ?_
         refine co_retC1 (Q := fun _ _ _ => True) h361 rfl rfl rfl hk352' Try.underlying73 rfl (by kernel_rfl) ?_
         have hr362 := row_kept_at hr356 hg354 (row_ne_lt hr356 (by omega))
         have hr363 := row_kept_at hr355 hg354 (row_ne_lt hr355 (by omega))
         have ho364 := ho347.at (by omega) hg354
         cases hof.symm.trans (rw_1c (by omega) hq206 (by omega) (by omega) hq263 hR (by omega))
         exact ⟨_, _, _, rfl, (row_lows hr362 (by omega)), (row_lows hr363 (by omega)), (row_nilL _ _ _ _ _), ho364, hB359⟩
      ·
       rw [hc299] at h298
       have hp365 : ((i : Nat) : Int) < n260 := of_decide_eq_true hc299
       clear hc299
       refine co_true h298 rfl ?_
       refine wp_skip ?_
       refine co_then ?_
       refine co_seq ?_
       refine wp_block ?_
       refine dr_gen (fun x => But (fun q => q = b) w x) (by kernel_rfl) (fun w366 hg367 => ?_) (fun w366 hg367 => ?_)
       ·
        have hz368 := hg367.size
        have hB369 := fb_new hB290 hg367
        exact hB369
       have hz370 := hg367.size
       have hB371 := fb_new hB290 hg367
       refine dk0 0 (v := pt N22 6) h298 rfl rfl hB371 fun a372 h372 => ?_; clear h298
       refine dk0 2 (v := pt b 0) h372 rfl rfl hB371 fun a373 h373 => ?_; clear h372
       refine dr_many [1, 3] (by kernel_rfl) (by simp) ⟨?_, ?_, trivial⟩
       ·
        have hk374 := hf285.kept hg367 (by simp)
        refine dr_opVal (i := 1) (v := u) h373 rfl rfl rfl rfl (by kernel_rfl) rfl (rn_load1 rfl rfl Try.isAgg67 (hk374.cell rfl)) hB371 (fun a375 h375 => ?_); clear h373
        have ho386 := hf286.new hg367
        refine d1 3 h375 rfl rfl (op_call (args := #[pt b 0, .int .i64 3]) (R := fun res xw => ∃ (n : Int) (a' e' : Int), res = .int .i64 n ∧ numR s ps er 3 = (n, a', e') ∧ 0 ≤ n ∧ n ≤ 3 ∧ OXR b s a' e' xw ∧ w366.grownBy xw (some b)) rfl rfl rfl (by kernel_rfl) (by kernel_rfl) (Try.call93 _ _) (oxr_num b s ps er 3 w366 ho386 (by omega) (by omega) (by omega)) (by rintro q x ⟨n, a', e', rfl, h0, k0, k1, h1, h2⟩; exact ⟨_, rfl, n, a', e', rfl, h0, k0, k1, h1, h2⟩)) ?_ ?_; clear h375
        ·
         rintro _ w377 ⟨n378, a379, e380, rfl, hq381, hn382, hm383, ho384, hg385⟩
         have hz387 := hg385.size
         have hl388 := ho384.lt
         have hB389 := fb_at hB371 hg385 (fun hlt => by first | (exfalso; omega) | (simp; done) | simp_all)
         exact hB389
        rintro _ w377 a376 ⟨n378, a379, e380, rfl, hq381, hn382, hm383, ho384, hg385⟩ h376
        have hz387 := hg385.size
        have hl388 := ho384.lt
        have hB389 := fb_at hB371 hg385 (fun hlt => by first | (exfalso; omega) | (simp; done) | simp_all)
        refine d1 4 h376 rfl rfl (op_new (v := fun N => .slice (some ⟨N, 0, none⟩) 1 1) (T := 3) (cs := #[.int .i64 n378]) (by kernel_rfl) (by kernel_rfl) (by kernel_rfl)) ?_ ?_; clear h376
        ·
         rintro _ w391 ⟨N392, rfl, hN395, hz396, hk394, hg393⟩
         have hr398 := row_kept_new hf287 hg367
         have hr399 := row_kept_at hr398 hg385 (row_ne_lt hr398 (by omega))
         have ha397 := row_fresh hr399 hN395
         have hr401 := row_kept_new hf289 hg367
         have hr402 := row_kept_at hr401 hg385 (row_ne_lt hr401 (by omega))
         have ha400 := row_fresh hr402 hN395
         have hz403 := hg393.size
         have hB404 := fb_new hB389 hg393
         exact hB404
        rintro _ w391 a390 ⟨N392, rfl, hN395, hz396, hk394, hg393⟩ h390
        have hr398 := row_kept_new hf287 hg367
        have hr399 := row_kept_at hr398 hg385 (row_ne_lt hr398 (by omega))
        have ha397 := row_fresh hr399 hN395
        have hr401 := row_kept_new hf289 hg367
        have hr402 := row_kept_at hr401 hg385 (row_ne_lt hr401 (by omega))
        have ha400 := row_fresh hr402 hN395
        have hz403 := hg393.size
        try dsimp only at h390
        have hB404 := fb_new hB389 hg393
        have hr410 := row_kept_new hr399 hg393
        refine d1 5 h390 rfl rfl (op_append rfl base272 3 (z := .int .i64 0) (size := 1) (bytes := 8) Try.underlying67 (by kernel_rfl) rfl rfl rfl hr410 rfl hk394 rfl (by kernel_rfl) (by first | omega | (simp only [List.length_nil, List.length_append, List.length_cons, List.length_take, List.length_drop]; omega)) (by first | omega | (simp only [List.length_nil, List.length_append, List.length_cons, List.length_take, List.length_drop]; omega)) (by omega)) ?_ ?_; clear h390
        ·
         rintro v407 w406 ⟨hr408, hg409⟩
         have hr408' : w406.ownsRow base272 3 1 v407 ((ls ++ [n378]).length) ((ls ++ [n378]).flatMap (intE .i64)) := row_push (y := n378) hr408 rfl rfl; clear hr408
         have hz411 := hg409.size
         have hB412 := fb_row hB404 hr410 (by omega) hg409
         exact hB412
        rintro v407 w406 a405 ⟨hr408, hg409⟩ h405
        have hr408' : w406.ownsRow base272 3 1 v407 ((ls ++ [n378]).length) ((ls ++ [n378]).flatMap (intE .i64)) := row_push (y := n378) hr408 rfl rfl; clear hr408
        have hz411 := hg409.size
        have hB412 := fb_row hB404 hr410 (by omega) hg409
        refine dk0 6 (v := pt N22 6) h405 rfl rfl hB412 fun a413 h413 => ?_; clear h405
        have hk419 := hk374.kept hg385 (by simp; omega)
        have hk420 := hk419.kept hg393 (by simp)
        have hk421 := hk420.kept hg409 (row_ne_lt hr410 (by omega))
        refine d1D 7 h413 rfl rfl (op_store1 rfl rfl rfl (row_one hr408') Try.sizeOf67 hk421 rfl) ?_ ?_; clear h413
        ·
         rintro _ w415 ⟨hk416, hz417, hg418⟩
         have hk416' : Blk w415 N22 73 #[.int .i64 k, .int .i64 0, .int .u64 0, .int .i64 ((ofC n203).1.1), u225, .int .u64 ((ofC n203).1.2.2), v407, .int .i64 0, .int .i64 0, .slice none 0 0, .int .u64 0, .int .i64 0, .int .u64 0, .int .i64 0, .int .i64 0, .int .i64 0, .int .i64 0, .int .i64 0] := hk416; clear hk416
         have hz422 := hg418.size
         have hB423 := fb_at hB412 hg418 (fun hlt => by first | (exfalso; omega) | (simp; done) | simp_all)
         exact hB423
        rintro _ w415 a414 ⟨hk416, hz417, hg418⟩ h414
        have hk416' : Blk w415 N22 73 #[.int .i64 k, .int .i64 0, .int .u64 0, .int .i64 ((ofC n203).1.1), u225, .int .u64 ((ofC n203).1.2.2), v407, .int .i64 0, .int .i64 0, .slice none 0 0, .int .u64 0, .int .i64 0, .int .u64 0, .int .i64 0, .int .i64 0, .int .i64 0, .int .i64 0, .int .i64 0] := hk416; clear hk416
        have hz422 := hg418.size
        refine dr_done (by kernel_rfl) ?_
        refine co_blockN ?_
        refine co_then ?_
        refine co_reg ?_
        refine pk0 (v := .int .i64 ((i : Nat) : Int)) h414 rfl fun a423 h423 => ?_; clear h414
        refine pk (v := .int .i64 ((i + 1 : Nat) : Int)) h423 rfl (rn_arith' rfl rfl rfl rfl rfl rfl (IntWalk.i64_in _ (by omega)) (by omega)) fun a424 h424 => ?_; clear h423
        refine pk0 (v := .int .i64 ((i + 1 : Nat) : Int)) h424 rfl fun a425 h425 => ?_; clear h424
        refine pl_nil ?_
        refine co_then ?_
        refine ⟨(n260.toNat - (i + 1)), by omega, ?_⟩
        have hR' := rgN_step hR hq381
        have ho426 := ho384.new hg393
        have ho427 := ho426.row (row_ne_lt hr410 (by omega)) hg409
        have ho428 := ho427.at (by omega) hg418
        have hr429 := row_kept_at hr408' hg418 (row_ne_lt hr408' (by omega))
        have hr430 := row_kept_new hr402 hg393
        have hr431 := row_kept_row hr430 hr410 hg409 (by decide)
        have hr432 := row_kept_at hr431 hg418 (row_ne_lt hr431 (by omega))
        have hB433 := fb_at hB412 hg418 (fun hlt => by first | (exfalso; omega) | (simp; done) | simp_all)
        have hk434 := hk291.kept hg367 (by simp)
        have hk435 := hk434.kept hg385 (by simp; omega)
        have hk436 := hk435.kept hg393 (by simp)
        have hk437 := hk436.kept hg409 (row_ne_lt hr410 (by omega))
        have hk438 := hk437.kept hg418 (by simp; omega)
        exact ⟨i + 1, v407, ls ++ [n378], a379, e380, h425.sub ⟨rfl, rfl, rfl, rfl, rfl, rfl, trivial⟩, rfl, by omega, by first | rfl | (simp; omega), by first | rfl | exact hR', hk416', ho428, (row_eq hr429 (rfl)), (by omega), hr432, hB433, hk438⟩
       ·
        have ho449 := hf286.new hg367
        refine dr_op (i := 3) h373 rfl rfl rfl rfl (op_call (args := #[pt b 0, .int .i64 3]) (R := fun res xw => ∃ (n : Int) (a' e' : Int), res = .int .i64 n ∧ numR s ps er 3 = (n, a', e') ∧ 0 ≤ n ∧ n ≤ 3 ∧ OXR b s a' e' xw ∧ w366.grownBy xw (some b)) rfl rfl rfl (by kernel_rfl) (by kernel_rfl) (Try.call93 _ _) (oxr_num b s ps er 3 w366 ho449 (by omega) (by omega) (by omega)) (by rintro q x ⟨n, a', e', rfl, h0, k0, k1, h1, h2⟩; exact ⟨_, rfl, n, a', e', rfl, h0, k0, k1, h1, h2⟩)) ?_ ?_; clear h373
        ·
         rintro _ w440 ⟨n441, a442, e443, rfl, hq444, hn445, hm446, ho447, hg448⟩
         have hz450 := hg448.size
         have hl451 := ho447.lt
         have hB452 := fb_at hB371 hg448 (fun hlt => by first | (exfalso; omega) | (simp; done) | simp_all)
         exact hB452
        rintro _ w440 a439 ⟨n441, a442, e443, rfl, hq444, hn445, hm446, ho447, hg448⟩ h439
        have hz450 := hg448.size
        have hl451 := ho447.lt
        have hB452 := fb_at hB371 hg448 (fun hlt => by first | (exfalso; omega) | (simp; done) | simp_all)
        refine dr_many [1, 4] (by kernel_rfl) (by simp) ⟨?_, ?_, trivial⟩
        ·
         have hk453 := hf285.kept hg367 (by simp)
         have hk454 := hk453.kept hg448 (by simp; omega)
         refine dr_opVal (i := 1) (v := u) h439 rfl rfl rfl rfl (by kernel_rfl) rfl (rn_load1 rfl rfl Try.isAgg67 (hk454.cell rfl)) hB452 (fun a455 h455 => ?_); clear h439
         refine d1 4 h455 rfl rfl (op_new (v := fun N => .slice (some ⟨N, 0, none⟩) 1 1) (T := 3) (cs := #[.int .i64 n441]) (by kernel_rfl) (by kernel_rfl) (by kernel_rfl)) ?_ ?_; clear h455
         ·
          rintro _ w457 ⟨N458, rfl, hN461, hz462, hk460, hg459⟩
          have hr464 := row_kept_new hf287 hg367
          have hr465 := row_kept_at hr464 hg448 (row_ne_lt hr464 (by omega))
          have ha463 := row_fresh hr465 hN461
          have hr467 := row_kept_new hf289 hg367
          have hr468 := row_kept_at hr467 hg448 (row_ne_lt hr467 (by omega))
          have ha466 := row_fresh hr468 hN461
          have hz469 := hg459.size
          have hB470 := fb_new hB452 hg459
          exact hB470
         rintro _ w457 a456 ⟨N458, rfl, hN461, hz462, hk460, hg459⟩ h456
         have hr464 := row_kept_new hf287 hg367
         have hr465 := row_kept_at hr464 hg448 (row_ne_lt hr464 (by omega))
         have ha463 := row_fresh hr465 hN461
         have hr467 := row_kept_new hf289 hg367
         have hr468 := row_kept_at hr467 hg448 (row_ne_lt hr467 (by omega))
         have ha466 := row_fresh hr468 hN461
         have hz469 := hg459.size
         try dsimp only at h456
         have hB470 := fb_new hB452 hg459
         have hr476 := row_kept_new hr465 hg459
         refine d1 5 h456 rfl rfl (op_append rfl base272 3 (z := .int .i64 0) (size := 1) (bytes := 8) Try.underlying67 (by kernel_rfl) rfl rfl rfl hr476 rfl hk460 rfl (by kernel_rfl) (by first | omega | (simp only [List.length_nil, List.length_append, List.length_cons, List.length_take, List.length_drop]; omega)) (by first | omega | (simp only [List.length_nil, List.length_append, List.length_cons, List.length_take, List.length_drop]; omega)) (by omega)) ?_ ?_; clear h456
         ·
          rintro v473 w472 ⟨hr474, hg475⟩
          have hr474' : w472.ownsRow base272 3 1 v473 ((ls ++ [n441]).length) ((ls ++ [n441]).flatMap (intE .i64)) := row_push (y := n441) hr474 rfl rfl; clear hr474
          have hz477 := hg475.size
          have hB478 := fb_row hB470 hr476 (by omega) hg475
          exact hB478
         rintro v473 w472 a471 ⟨hr474, hg475⟩ h471
         have hr474' : w472.ownsRow base272 3 1 v473 ((ls ++ [n441]).length) ((ls ++ [n441]).flatMap (intE .i64)) := row_push (y := n441) hr474 rfl rfl; clear hr474
         have hz477 := hg475.size
         have hB478 := fb_row hB470 hr476 (by omega) hg475
         refine dk0 6 (v := pt N22 6) h471 rfl rfl hB478 fun a479 h479 => ?_; clear h471
         have hk485 := hk454.kept hg459 (by simp)
         have hk486 := hk485.kept hg475 (row_ne_lt hr476 (by omega))
         refine d1D 7 h479 rfl rfl (op_store1 rfl rfl rfl (row_one hr474') Try.sizeOf67 hk486 rfl) ?_ ?_; clear h479
         ·
          rintro _ w481 ⟨hk482, hz483, hg484⟩
          have hk482' : Blk w481 N22 73 #[.int .i64 k, .int .i64 0, .int .u64 0, .int .i64 ((ofC n203).1.1), u225, .int .u64 ((ofC n203).1.2.2), v473, .int .i64 0, .int .i64 0, .slice none 0 0, .int .u64 0, .int .i64 0, .int .u64 0, .int .i64 0, .int .i64 0, .int .i64 0, .int .i64 0, .int .i64 0] := hk482; clear hk482
          have hz487 := hg484.size
          have hB488 := fb_at hB478 hg484 (fun hlt => by first | (exfalso; omega) | (simp; done) | simp_all)
          exact hB488
         rintro _ w481 a480 ⟨hk482, hz483, hg484⟩ h480
         have hk482' : Blk w481 N22 73 #[.int .i64 k, .int .i64 0, .int .u64 0, .int .i64 ((ofC n203).1.1), u225, .int .u64 ((ofC n203).1.2.2), v473, .int .i64 0, .int .i64 0, .slice none 0 0, .int .u64 0, .int .i64 0, .int .u64 0, .int .i64 0, .int .i64 0, .int .i64 0, .int .i64 0, .int .i64 0] := hk482; clear hk482
         have hz487 := hg484.size
         refine dr_done (by kernel_rfl) ?_
         refine co_blockN ?_
         refine co_then ?_
         refine co_reg ?_
         refine pk0 (v := .int .i64 ((i : Nat) : Int)) h480 rfl fun a488 h488 => ?_; clear h480
         refine pk (v := .int .i64 ((i + 1 : Nat) : Int)) h488 rfl (rn_arith' rfl rfl rfl rfl rfl rfl (IntWalk.i64_in _ (by omega)) (by omega)) fun a489 h489 => ?_; clear h488
         refine pk0 (v := .int .i64 ((i + 1 : Nat) : Int)) h489 rfl fun a490 h490 => ?_; clear h489
         refine pl_nil ?_
         refine co_then ?_
         refine ⟨(n260.toNat - (i + 1)), by omega, ?_⟩
         have hR' := rgN_step hR hq444
         have ho491 := ho447.new hg459
         have ho492 := ho491.row (row_ne_lt hr476 (by omega)) hg475
         have ho493 := ho492.at (by omega) hg484
         have hr494 := row_kept_at hr474' hg484 (row_ne_lt hr474' (by omega))
         have hr495 := row_kept_new hr468 hg459
         have hr496 := row_kept_row hr495 hr476 hg475 (by decide)
         have hr497 := row_kept_at hr496 hg484 (row_ne_lt hr496 (by omega))
         have hB498 := fb_at hB478 hg484 (fun hlt => by first | (exfalso; omega) | (simp; done) | simp_all)
         have hk499 := hk291.kept hg367 (by simp)
         have hk500 := hk499.kept hg448 (by simp; omega)
         have hk501 := hk500.kept hg459 (by simp)
         have hk502 := hk501.kept hg475 (row_ne_lt hr476 (by omega))
         have hk503 := hk502.kept hg484 (by simp; omega)
         exact ⟨i + 1, v473, ls ++ [n441], a442, e443, h490.sub ⟨rfl, rfl, rfl, rfl, rfl, rfl, trivial⟩, rfl, by omega, by first | rfl | (simp; omega), by first | rfl | exact hR', hk482', ho493, (row_eq hr494 (rfl)), (by omega), hr497, hB498, hk503⟩
        ·
         refine dr_op (i := 4) h439 rfl rfl rfl rfl (op_new (v := fun N => .slice (some ⟨N, 0, none⟩) 1 1) (T := 3) (cs := #[.int .i64 n441]) (by kernel_rfl) (by kernel_rfl) (by kernel_rfl)) ?_ ?_; clear h439
         ·
          rintro _ w505 ⟨N506, rfl, hN509, hz510, hk508, hg507⟩
          have hr512 := row_kept_new hf287 hg367
          have hr513 := row_kept_at hr512 hg448 (row_ne_lt hr512 (by omega))
          have ha511 := row_fresh hr513 hN509
          have hr515 := row_kept_new hf289 hg367
          have hr516 := row_kept_at hr515 hg448 (row_ne_lt hr515 (by omega))
          have ha514 := row_fresh hr516 hN509
          have hz517 := hg507.size
          have hB518 := fb_new hB452 hg507
          exact hB518
         rintro _ w505 a504 ⟨N506, rfl, hN509, hz510, hk508, hg507⟩ h504
         have hr512 := row_kept_new hf287 hg367
         have hr513 := row_kept_at hr512 hg448 (row_ne_lt hr512 (by omega))
         have ha511 := row_fresh hr513 hN509
         have hr515 := row_kept_new hf289 hg367
         have hr516 := row_kept_at hr515 hg448 (row_ne_lt hr515 (by omega))
         have ha514 := row_fresh hr516 hN509
         have hz517 := hg507.size
         try dsimp only at h504
         have hB518 := fb_new hB452 hg507
         refine dr_many [1] (by kernel_rfl) (by simp) ⟨?_, trivial⟩
         ·
          have hk519 := hf285.kept hg367 (by simp)
          have hk520 := hk519.kept hg448 (by simp; omega)
          have hk521 := hk520.kept hg507 (by simp)
          refine dr_opVal (i := 1) (v := u) h504 rfl rfl rfl rfl (by kernel_rfl) rfl (rn_load1 rfl rfl Try.isAgg67 (hk521.cell rfl)) hB518 (fun a522 h522 => ?_); clear h504
          have hr528 := row_kept_new hr513 hg507
          refine d1 5 h522 rfl rfl (op_append rfl base272 3 (z := .int .i64 0) (size := 1) (bytes := 8) Try.underlying67 (by kernel_rfl) rfl rfl rfl hr528 rfl hk508 rfl (by kernel_rfl) (by first | omega | (simp only [List.length_nil, List.length_append, List.length_cons, List.length_take, List.length_drop]; omega)) (by first | omega | (simp only [List.length_nil, List.length_append, List.length_cons, List.length_take, List.length_drop]; omega)) (by omega)) ?_ ?_; clear h522
          ·
           rintro v525 w524 ⟨hr526, hg527⟩
           have hr526' : w524.ownsRow base272 3 1 v525 ((ls ++ [n441]).length) ((ls ++ [n441]).flatMap (intE .i64)) := row_push (y := n441) hr526 rfl rfl; clear hr526
           have hz529 := hg527.size
           have hB530 := fb_row hB518 hr528 (by omega) hg527
           exact hB530
          rintro v525 w524 a523 ⟨hr526, hg527⟩ h523
          have hr526' : w524.ownsRow base272 3 1 v525 ((ls ++ [n441]).length) ((ls ++ [n441]).flatMap (intE .i64)) := row_push (y := n441) hr526 rfl rfl; clear hr526
          have hz529 := hg527.size
          have hB530 := fb_row hB518 hr528 (by omega) hg527
          refine dk0 6 (v := pt N22 6) h523 rfl rfl hB530 fun a531 h531 => ?_; clear h523
          have hk537 := hk521.kept hg527 (row_ne_lt hr528 (by omega))
          refine d1D 7 h531 rfl rfl (op_store1 rfl rfl rfl (row_one hr526') Try.sizeOf67 hk537 rfl) ?_ ?_; clear h531
          ·
           rintro _ w533 ⟨hk534, hz535, hg536⟩
           have hk534' : Blk w533 N22 73 #[.int .i64 k, .int .i64 0, .int .u64 0, .int .i64 ((ofC n203).1.1), u225, .int .u64 ((ofC n203).1.2.2), v525, .int .i64 0, .int .i64 0, .slice none 0 0, .int .u64 0, .int .i64 0, .int .u64 0, .int .i64 0, .int .i64 0, .int .i64 0, .int .i64 0, .int .i64 0] := hk534; clear hk534
           have hz538 := hg536.size
           have hB539 := fb_at hB530 hg536 (fun hlt => by first | (exfalso; omega) | (simp; done) | simp_all)
           exact hB539
          rintro _ w533 a532 ⟨hk534, hz535, hg536⟩ h532
          have hk534' : Blk w533 N22 73 #[.int .i64 k, .int .i64 0, .int .u64 0, .int .i64 ((ofC n203).1.1), u225, .int .u64 ((ofC n203).1.2.2), v525, .int .i64 0, .int .i64 0, .slice none 0 0, .int .u64 0, .int .i64 0, .int .u64 0, .int .i64 0, .int .i64 0, .int .i64 0, .int .i64 0, .int .i64 0] := hk534; clear hk534
          have hz538 := hg536.size
          refine dr_done (by kernel_rfl) ?_
          refine co_blockN ?_
          refine co_then ?_
          refine co_reg ?_
          refine pk0 (v := .int .i64 ((i : Nat) : Int)) h532 rfl fun a539 h539 => ?_; clear h532
          refine pk (v := .int .i64 ((i + 1 : Nat) : Int)) h539 rfl (rn_arith' rfl rfl rfl rfl rfl rfl (IntWalk.i64_in _ (by omega)) (by omega)) fun a540 h540 => ?_; clear h539
          refine pk0 (v := .int .i64 ((i + 1 : Nat) : Int)) h540 rfl fun a541 h541 => ?_; clear h540
          refine pl_nil ?_
          refine co_then ?_
          refine ⟨(n260.toNat - (i + 1)), by omega, ?_⟩
          have hR' := rgN_step hR hq444
          have ho542 := ho447.new hg507
          have ho543 := ho542.row (row_ne_lt hr528 (by omega)) hg527
          have ho544 := ho543.at (by omega) hg536
          have hr545 := row_kept_at hr526' hg536 (row_ne_lt hr526' (by omega))
          have hr546 := row_kept_new hr516 hg507
          have hr547 := row_kept_row hr546 hr528 hg527 (by decide)
          have hr548 := row_kept_at hr547 hg536 (row_ne_lt hr547 (by omega))
          have hB549 := fb_at hB530 hg536 (fun hlt => by first | (exfalso; omega) | (simp; done) | simp_all)
          have hk550 := hk291.kept hg367 (by simp)
          have hk551 := hk550.kept hg448 (by simp; omega)
          have hk552 := hk551.kept hg507 (by simp)
          have hk553 := hk552.kept hg527 (row_ne_lt hr528 (by omega))
          have hk554 := hk553.kept hg536 (by simp; omega)
          exact ⟨i + 1, v525, ls ++ [n441], a442, e443, h541.sub ⟨rfl, rfl, rfl, rfl, rfl, rfl, trivial⟩, rfl, by omega, by first | rfl | (simp; omega), by first | rfl | exact hR', hk534', ho544, (row_eq hr545 (rfl)), (by omega), hr548, hB549, hk554⟩
   ·
    rw [hc245] at h244
    have hp555 : ((ofC n203).2) ≠ 0 := by first | simpa using hc245 | simpa [and_assoc] using hc245
    clear hc245
    refine co_true h244 rfl ?_
    refine co_seq ?_
    refine co_reg ?_
    refine pk (v := .agg #[.int .i64 k, .int .i64 0, .int .u64 0, .int .i64 ((ofC n203).1.1), u225, .int .u64 ((ofC n203).1.2.2), .slice none 0 0, .int .i64 0, .int .i64 0, .slice none 0 0, .int .u64 0, .int .i64 0, .int .u64 0, .int .i64 0, .int .i64 0, .int .i64 0, .int .i64 0, .int .i64 0]) h244 rfl (rn_loadN rfl rfl Try.underlying73 rfl (by kernel_rfl) hk236'.all) fun a556 h556 => ?_; clear h244
    refine pk0 (v := .int .i64 ((ofC n203).2)) h556 rfl fun a557 h557 => ?_; clear h556
    have hr563 := row_kept_at hq226 hg238 (row_ne_lt hq226 (by omega))
    refine pwD h557 rfl (op_storeN rfl rfl rfl (all_cons rfl (all_cons rfl (all_cons rfl (all_cons rfl (all_cons (row_one hr563) (all_cons rfl (all_cons rfl (all_cons rfl (all_cons rfl (all_cons rfl (all_cons rfl (all_cons rfl (all_cons rfl (all_cons rfl (all_cons rfl (all_cons rfl (all_cons rfl (all_cons rfl all_nil)))))))))))))))))) (by kernel_rfl) hk253 rfl) ?_; clear h557
    rintro _ w559 a558 ⟨hk560, hz561, hg562⟩ h558
    have hk560' : Blk w559 N11 73 #[.int .i64 k, .int .i64 0, .int .u64 0, .int .i64 ((ofC n203).1.1), u225, .int .u64 ((ofC n203).1.2.2), .slice none 0 0, .int .i64 0, .int .i64 0, .slice none 0 0, .int .u64 0, .int .i64 0, .int .u64 0, .int .i64 0, .int .i64 0, .int .i64 0, .int .i64 0, .int .i64 0] := hk560; clear hk560
    have hz564 := hg562.size
    refine pk0 (v := .int .i64 ((ofC n203).2)) h558 rfl fun a565 h565 => ?_; clear h558
    refine pl_nil ?_
    refine co_then ?_
    refine wp_ret ?_
    refine co_thenR ?_
    refine co_thenR ?_
    refine co_retC1 (Q := fun _ _ _ => True) h565 rfl rfl rfl hk560' Try.underlying73 rfl (by kernel_rfl) ?_
    have hr566 := row_kept_at hr563 hg562 (row_ne_lt hr563 (by omega))
    have ho567 := ho255.at (by omega) hg562
    have hB568 := fb_at hB247 hg562 (fun hlt => by first | (exfalso; omega) | (simp; done) | simp_all)
    cases hof.symm.trans (rw_1b (by omega) hq206 (by omega) (by omega))
    exact ⟨_, _, _, rfl, (row_lows hr566 (by omega)), (row_nilL _ _ _ _ _), (row_nilL _ _ _ _ _), ho567, hB568⟩
  ·
   rw [hc219] at h218
   have hp569 : e205 ≠ 0 := by first | simpa using hc219 | simpa [and_assoc] using hc219
   clear hc219
   refine co_true h218 rfl ?_
   refine co_seq ?_
   refine dr_gen (fun x => But (fun q => q = b) w x ∧ Blk x N22 73 #[.int .i64 k, .int .i64 0, .int .u64 0, .int .i64 0, .slice none 0 0, .int .u64 0, .slice none 0 0, .int .i64 0, .int .i64 0, .slice none 0 0, .int .u64 0, .int .i64 0, .int .u64 0, .int .i64 0, .int .i64 0, .int .i64 0, .int .i64 0, .int .i64 0]) (by kernel_rfl) (fun w570 hg571 => ?_) (fun w570 hg571 => ?_)
   ·
    have hz572 := hg571.size
    have hB573 := fb_new hB220 hg571
    have hk574 := hk30'.kept hg210 (by simp; omega)
    have hk575 := hk574.kept hg571 (by simp)
    exact ⟨hB573, hk575⟩
   have hz576 := hg571.size
   have hB577 := fb_new hB220 hg571
   have hk578 := hk30'.kept hg210 (by simp; omega)
   have hk579 := hk578.kept hg571 (by simp)
   refine dk0 1 (v := pt b 0) h218 rfl rfl ⟨hB577, hk579⟩ fun a580 h580 => ?_; clear h218
   refine dk0 2 (v := pt b 0) h580 rfl rfl ⟨hB577, hk579⟩ fun a581 h581 => ?_; clear h580
   refine dk0 3 (v := pt b 2) h581 rfl rfl ⟨hB577, hk579⟩ fun a582 h582 => ?_; clear h581
   refine dr_many [0, 4] (by kernel_rfl) (by simp) ⟨?_, ?_, trivial⟩
   ·
    refine dr_opVal (i := 0) (v := .agg #[.int .i64 k, .int .i64 0, .int .u64 0, .int .i64 0, .slice none 0 0, .int .u64 0, .slice none 0 0, .int .i64 0, .int .i64 0, .slice none 0 0, .int .u64 0, .int .i64 0, .int .u64 0, .int .i64 0, .int .i64 0, .int .i64 0, .int .i64 0, .int .i64 0]) h582 rfl rfl rfl rfl (by kernel_rfl) rfl (rn_loadN rfl rfl Try.underlying73 rfl (by kernel_rfl) hk579.all) ⟨hB577, hk579⟩ (fun a583 h583 => ?_); clear h582
    refine dr_many [4, 5] (by kernel_rfl) (by simp) ⟨?_, ?_, trivial⟩
    ·
     have ho584 := ho209.new hg571
     refine dr_opVal (i := 4) (v := .int .i64 e205) h583 rfl rfl rfl rfl (by kernel_rfl) rfl (rn_load1 rfl rfl Try.isAgg3 ho584.re.cell) ⟨hB577, hk579⟩ (fun a585 h585 => ?_); clear h583
     have hk591 := hk50.kept hg210 (by simp; omega)
     have hk592 := hk591.kept hg571 (by simp)
     refine d1D 5 h585 rfl rfl (op_storeN rfl rfl rfl (all_cons rfl (all_cons rfl (all_cons rfl (all_cons rfl (all_cons rfl (all_cons rfl (all_cons rfl (all_cons rfl (all_cons rfl (all_cons rfl (all_cons rfl (all_cons rfl (all_cons rfl (all_cons rfl (all_cons rfl (all_cons rfl (all_cons rfl (all_cons rfl all_nil)))))))))))))))))) (by kernel_rfl) hk592 rfl) ?_ ?_; clear h585
     ·
      rintro _ w587 ⟨hk588, hz589, hg590⟩
      have hk588' : Blk w587 N11 73 #[.int .i64 k, .int .i64 0, .int .u64 0, .int .i64 0, .slice none 0 0, .int .u64 0, .slice none 0 0, .int .i64 0, .int .i64 0, .slice none 0 0, .int .u64 0, .int .i64 0, .int .u64 0, .int .i64 0, .int .i64 0, .int .i64 0, .int .i64 0, .int .i64 0] := hk588; clear hk588
      have hz593 := hg590.size
      have hB594 := fb_at hB577 hg590 (fun hlt => by first | (exfalso; omega) | (simp; done) | simp_all)
      have hk595 := hk579.kept hg590 (by simp; omega)
      exact ⟨hB594, hk595⟩
     rintro _ w587 a586 ⟨hk588, hz589, hg590⟩ h586
     have hk588' : Blk w587 N11 73 #[.int .i64 k, .int .i64 0, .int .u64 0, .int .i64 0, .slice none 0 0, .int .u64 0, .slice none 0 0, .int .i64 0, .int .i64 0, .slice none 0 0, .int .u64 0, .int .i64 0, .int .u64 0, .int .i64 0, .int .i64 0, .int .i64 0, .int .i64 0, .int .i64 0] := hk588; clear hk588
     have hz593 := hg590.size
     have hB594 := fb_at hB577 hg590 (fun hlt => by first | (exfalso; omega) | (simp; done) | simp_all)
     have hk595 := hk579.kept hg590 (by simp; omega)
     refine dk0 6 (v := .int .i64 e205) h586 rfl rfl ⟨hB594, hk595⟩ fun a596 h596 => ?_; clear h586
     refine dr_done (by kernel_rfl) ?_
     refine co_then ?_
     refine wp_ret ?_
     refine co_thenR ?_
     refine co_thenR ?_
     refine co_retC1 (Q := fun _ _ _ => True) h596 rfl rfl rfl hk588' Try.underlying73 rfl (by kernel_rfl) ?_
     have ho597 := ho584.at (by omega) hg590
     cases hof.symm.trans (rw_1a (by omega) hq206 (by omega))
     exact ⟨_, _, _, rfl, (row_nilL _ _ _ _ _), (row_nilL _ _ _ _ _), (row_nilL _ _ _ _ _), ho597, hB594⟩
    ·
     have hk603 := hk50.kept hg210 (by simp; omega)
     have hk604 := hk603.kept hg571 (by simp)
     refine dr_opDo (i := 5) h583 rfl rfl rfl (op_storeN rfl rfl rfl (all_cons rfl (all_cons rfl (all_cons rfl (all_cons rfl (all_cons rfl (all_cons rfl (all_cons rfl (all_cons rfl (all_cons rfl (all_cons rfl (all_cons rfl (all_cons rfl (all_cons rfl (all_cons rfl (all_cons rfl (all_cons rfl (all_cons rfl (all_cons rfl all_nil)))))))))))))))))) (by kernel_rfl) hk604 rfl) ?_ ?_; clear h583
     ·
      rintro _ w599 ⟨hk600, hz601, hg602⟩
      have hk600' : Blk w599 N11 73 #[.int .i64 k, .int .i64 0, .int .u64 0, .int .i64 0, .slice none 0 0, .int .u64 0, .slice none 0 0, .int .i64 0, .int .i64 0, .slice none 0 0, .int .u64 0, .int .i64 0, .int .u64 0, .int .i64 0, .int .i64 0, .int .i64 0, .int .i64 0, .int .i64 0] := hk600; clear hk600
      have hz605 := hg602.size
      have hB606 := fb_at hB577 hg602 (fun hlt => by first | (exfalso; omega) | (simp; done) | simp_all)
      have hk607 := hk579.kept hg602 (by simp; omega)
      exact ⟨hB606, hk607⟩
     rintro _ w599 a598 ⟨hk600, hz601, hg602⟩ h598
     have hk600' : Blk w599 N11 73 #[.int .i64 k, .int .i64 0, .int .u64 0, .int .i64 0, .slice none 0 0, .int .u64 0, .slice none 0 0, .int .i64 0, .int .i64 0, .slice none 0 0, .int .u64 0, .int .i64 0, .int .u64 0, .int .i64 0, .int .i64 0, .int .i64 0, .int .i64 0, .int .i64 0] := hk600; clear hk600
     have hz605 := hg602.size
     have hB606 := fb_at hB577 hg602 (fun hlt => by first | (exfalso; omega) | (simp; done) | simp_all)
     have hk607 := hk579.kept hg602 (by simp; omega)
     refine dr_many [4] (by kernel_rfl) (by simp) ⟨?_, trivial⟩
     ·
      have ho608 := ho209.new hg571
      have ho609 := ho608.at (by omega) hg602
      refine dr_opVal (i := 4) (v := .int .i64 e205) h598 rfl rfl rfl rfl (by kernel_rfl) rfl (rn_load1 rfl rfl Try.isAgg3 ho609.re.cell) ⟨hB606, hk607⟩ (fun a610 h610 => ?_); clear h598
      refine dk0 6 (v := .int .i64 e205) h610 rfl rfl ⟨hB606, hk607⟩ fun a611 h611 => ?_; clear h610
      refine dr_done (by kernel_rfl) ?_
      refine co_then ?_
      refine wp_ret ?_
      refine co_thenR ?_
      refine co_thenR ?_
      refine co_retC1 (Q := fun _ _ _ => True) h611 rfl rfl rfl hk600' Try.underlying73 rfl (by kernel_rfl) ?_
      cases hof.symm.trans (rw_1a (by omega) hq206 (by omega))
      exact ⟨_, _, _, rfl, (row_nilL _ _ _ _ _), (row_nilL _ _ _ _ _), (row_nilL _ _ _ _ _), ho609, hB606⟩
   ·
    have ho612 := ho209.new hg571
    refine dr_opVal (i := 4) (v := .int .i64 e205) h582 rfl rfl rfl rfl (by kernel_rfl) rfl (rn_load1 rfl rfl Try.isAgg3 ho612.re.cell) ⟨hB577, hk579⟩ (fun a613 h613 => ?_); clear h582
    refine dr_many [0] (by kernel_rfl) (by simp) ⟨?_, trivial⟩
    ·
     refine dr_opVal (i := 0) (v := .agg #[.int .i64 k, .int .i64 0, .int .u64 0, .int .i64 0, .slice none 0 0, .int .u64 0, .slice none 0 0, .int .i64 0, .int .i64 0, .slice none 0 0, .int .u64 0, .int .i64 0, .int .u64 0, .int .i64 0, .int .i64 0, .int .i64 0, .int .i64 0, .int .i64 0]) h613 rfl rfl rfl rfl (by kernel_rfl) rfl (rn_loadN rfl rfl Try.underlying73 rfl (by kernel_rfl) hk579.all) ⟨hB577, hk579⟩ (fun a614 h614 => ?_); clear h613
     have hk620 := hk50.kept hg210 (by simp; omega)
     have hk621 := hk620.kept hg571 (by simp)
     refine d1D 5 h614 rfl rfl (op_storeN rfl rfl rfl (all_cons rfl (all_cons rfl (all_cons rfl (all_cons rfl (all_cons rfl (all_cons rfl (all_cons rfl (all_cons rfl (all_cons rfl (all_cons rfl (all_cons rfl (all_cons rfl (all_cons rfl (all_cons rfl (all_cons rfl (all_cons rfl (all_cons rfl (all_cons rfl all_nil)))))))))))))))))) (by kernel_rfl) hk621 rfl) ?_ ?_; clear h614
     ·
      rintro _ w616 ⟨hk617, hz618, hg619⟩
      have hk617' : Blk w616 N11 73 #[.int .i64 k, .int .i64 0, .int .u64 0, .int .i64 0, .slice none 0 0, .int .u64 0, .slice none 0 0, .int .i64 0, .int .i64 0, .slice none 0 0, .int .u64 0, .int .i64 0, .int .u64 0, .int .i64 0, .int .i64 0, .int .i64 0, .int .i64 0, .int .i64 0] := hk617; clear hk617
      have hz622 := hg619.size
      have hB623 := fb_at hB577 hg619 (fun hlt => by first | (exfalso; omega) | (simp; done) | simp_all)
      have hk624 := hk579.kept hg619 (by simp; omega)
      exact ⟨hB623, hk624⟩
     rintro _ w616 a615 ⟨hk617, hz618, hg619⟩ h615
     have hk617' : Blk w616 N11 73 #[.int .i64 k, .int .i64 0, .int .u64 0, .int .i64 0, .slice none 0 0, .int .u64 0, .slice none 0 0, .int .i64 0, .int .i64 0, .slice none 0 0, .int .u64 0, .int .i64 0, .int .u64 0, .int .i64 0, .int .i64 0, .int .i64 0, .int .i64 0, .int .i64 0] := hk617; clear hk617
     have hz622 := hg619.size
     have hB623 := fb_at hB577 hg619 (fun hlt => by first | (exfalso; omega) | (simp; done) | simp_all)
     have hk624 := hk579.kept hg619 (by simp; omega)
     refine dk0 6 (v := .int .i64 e205) h615 rfl rfl ⟨hB623, hk624⟩ fun a625 h625 => ?_; clear h615
     refine dr_done (by kernel_rfl) ?_
     refine co_then ?_
     refine wp_ret ?_
     refine co_thenR ?_
     refine co_thenR ?_
     refine co_retC1 (Q := fun _ _ _ => True) h625 rfl rfl rfl hk617' Try.underlying73 rfl (by kernel_rfl) ?_
     have ho626 := ho612.at (by omega) hg619
     cases hof.symm.trans (rw_1a (by omega) hq206 (by omega))
     exact ⟨_, _, _, rfl, (row_nilL _ _ _ _ _), (row_nilL _ _ _ _ _), (row_nilL _ _ _ _ _), ho626, hB623⟩
set_option maxRecDepth 100000 in
set_option maxHeartbeats 3200000 in
theorem rnOf_any (s : ByteArray) (d : NoteD) (x : Int) (w : World) (hsz : s.size ≤ 9223372036854775807) (hof : noteOf s = (d, x)) :
    Calls Try.prog 44 #[.string s] w fun e w' => ∃ (mv : Value) (lv : Value) (ev : Value), e = .returned (.tuple #[.agg #[.int .i64 d.k, .int .i64 d.n, .int .u64 d.t, .int .i64 d.ep, mv, .int .u64 d.fl, lv, .int .i64 d.ec, .int .i64 d.er, ev, .int .u64 d.ets, .int .i64 d.pid, .int .u64 d.pat, .int .i64 d.plf, .int .i64 d.sc, .int .i64 d.sr, .int .i64 d.se, .int .i64 d.sp], .int .i64 x]) ∧ w'.ownsRow w.heap.size 185 2 mv d.ms.length (d.ms.flatMap memE) ∧ w'.ownsRow w.heap.size 3 1 lv d.lg.length (d.lg.flatMap (intE .i64)) ∧ w'.ownsRow w.heap.size 86 3 ev d.el.length (d.el.flatMap opE) ∧ Below w.heap.size w w' := by
 have hB0 := Below.refl w.heap.size w
 refine co_enter (n := 111) Try.func44 rfl rfl rfl [(0, .string s)] rfl (fun a h0 => ?_)
 refine co_seq ?_
 refine co_reg ?_
 refine pw h0 rfl (op_new (v := fun N => pt N 0) (T := 73) (cs := #[.int .i64 0, .int .i64 0, .int .u64 0, .int .i64 0, .slice none 0 0, .int .u64 0, .slice none 0 0, .int .i64 0, .int .i64 0, .slice none 0 0, .int .u64 0, .int .i64 0, .int .u64 0, .int .i64 0, .int .i64 0, .int .i64 0, .int .i64 0, .int .i64 0]) (by kernel_rfl) (by kernel_rfl) (by kernel_rfl)) ?_; clear h0
 rintro _ w2 a1 ⟨N3, rfl, hN6, hz7, hk5, hg4⟩ h1
 have hz8 := hg4.size
 try dsimp only at h1
 refine pk0 (v := .int .i64 0) h1 rfl fun a9 h9 => ?_; clear h1
 refine pl_nil ?_
 refine co_then ?_
 refine co_seq ?_
 refine co_reg ?_
 refine pk0 (v := .string s) h9 rfl fun a10 h10 => ?_; clear h9
 refine pk0 (v := .agg #[.string s, .int .i64 0, .int .i64 0]) h10 rfl fun a11 h11 => ?_; clear h10
 refine pw h11 rfl (op_new (v := fun N => pt N 0) (T := 129) (cs := #[.string s, .int .i64 0, .int .i64 0]) (by kernel_rfl) (by kernel_rfl) (by kernel_rfl)) ?_; clear h11
 rintro _ w13 a12 ⟨N14, rfl, hN17, hz18, hk16, hg15⟩ h12
 have hz19 := hg15.size
 try dsimp only at h12
 refine pk0 (v := pt N14 0) h12 rfl fun a20 h20 => ?_; clear h12
 refine pl_nil ?_
 refine co_then ?_
 refine co_seq ?_
 refine co_reg ?_
 refine pk0 (v := .agg #[.int .i64 0, .int .i64 0, .int .u64 0, .int .i64 0, .slice none 0 0, .int .u64 0, .slice none 0 0, .int .i64 0, .int .i64 0, .slice none 0 0, .int .u64 0, .int .i64 0, .int .u64 0, .int .i64 0, .int .i64 0, .int .i64 0, .int .i64 0, .int .i64 0]) h20 rfl fun a21 h21 => ?_; clear h20
 refine pw h21 rfl (op_new (v := fun N => pt N 0) (T := 73) (cs := #[.int .i64 0, .int .i64 0, .int .u64 0, .int .i64 0, .slice none 0 0, .int .u64 0, .slice none 0 0, .int .i64 0, .int .i64 0, .slice none 0 0, .int .u64 0, .int .i64 0, .int .u64 0, .int .i64 0, .int .i64 0, .int .i64 0, .int .i64 0, .int .i64 0]) (by kernel_rfl) (by kernel_rfl) (by kernel_rfl)) ?_; clear h21
 rintro _ w23 a22 ⟨N24, rfl, hN27, hz28, hk26, hg25⟩ h22
 have hz29 := hg25.size
 try dsimp only at h22
 refine pwD h22 rfl (op_storeN rfl rfl rfl (all_cons rfl (all_cons rfl (all_cons rfl (all_cons rfl (all_cons rfl (all_cons rfl (all_cons rfl (all_cons rfl (all_cons rfl (all_cons rfl (all_cons rfl (all_cons rfl (all_cons rfl (all_cons rfl (all_cons rfl (all_cons rfl (all_cons rfl (all_cons rfl all_nil)))))))))))))))))) (by kernel_rfl) hk26 rfl) ?_; clear h22
 rintro _ w31 a30 ⟨hk32, hz33, hg34⟩ h30
 have hk32' : Blk w31 N24 73 #[.int .i64 0, .int .i64 0, .int .u64 0, .int .i64 0, .slice none 0 0, .int .u64 0, .slice none 0 0, .int .i64 0, .int .i64 0, .slice none 0 0, .int .u64 0, .int .i64 0, .int .u64 0, .int .i64 0, .int .i64 0, .int .i64 0, .int .i64 0, .int .i64 0] := hk32; clear hk32
 have hz35 := hg34.size
 refine pl_nil ?_
 refine co_then ?_
 refine co_seq ?_
 refine co_reg ?_
 refine pk0 (v := pt N14 0) h30 rfl fun a36 h36 => ?_; clear h30
 have hk40 := hk16.kept hg25 (by simp)
 have hk41 := hk40.kept hg34 (by simp; omega)
 have ho39 := oxr_of hk41
 refine pw h36 rfl (op_call (args := #[pt N14 0, .int .i64 8]) (R := fun res xw => ∃ (n : Int) (a' e' : Int), res = .int .i64 n ∧ numR s 0 0 8 = (n, a', e') ∧ 0 ≤ n ∧ n ≤ 8 ∧ OXR N14 s a' e' xw ∧ w31.grownBy xw (some N14)) rfl rfl rfl (by kernel_rfl) (by kernel_rfl) (Try.call93 _ _) (oxr_num N14 s 0 0 8 w31 ho39 (by omega) (by omega) (by omega)) (by rintro q x ⟨n, a', e', rfl, h0, k0, k1, h1, h2⟩; exact ⟨_, rfl, n, a', e', rfl, h0, k0, k1, h1, h2⟩)) ?_; clear h36
 rintro _ w38 a37 ⟨n42, a43, e44, rfl, hq45, hn46, hm47, ho48, hg49⟩ h37
 have hz50 := hg49.size
 have hl51 := ho48.lt
 have k52 := numR_e hq45
 refine pk0 (v := pt N24 0) h37 rfl fun a53 h53 => ?_; clear h37
 have hk59 := hk32'.kept hg49 (by simp; omega)
 refine pwD h53 rfl (op_store1 rfl rfl rfl rfl Try.sizeOf3 hk59 rfl) ?_; clear h53
 rintro _ w55 a54 ⟨hk56, hz57, hg58⟩ h54
 have hk56' : Blk w55 N24 73 #[.int .i64 n42, .int .i64 0, .int .u64 0, .int .i64 0, .slice none 0 0, .int .u64 0, .slice none 0 0, .int .i64 0, .int .i64 0, .slice none 0 0, .int .u64 0, .int .i64 0, .int .u64 0, .int .i64 0, .int .i64 0, .int .i64 0, .int .i64 0, .int .i64 0] := hk56; clear hk56
 have hz60 := hg58.size
 refine pl_nil ?_
 refine co_then ?_
 refine co_seq ?_
 refine co_seq ?_
 refine co_reg ?_
 refine pk0 (v := pt N14 0) h54 rfl fun a61 h61 => ?_; clear h54
 refine pk0 (v := pt N14 0) h61 rfl fun a62 h62 => ?_; clear h61
 refine pk0 (v := pt N14 2) h62 rfl fun a63 h63 => ?_; clear h62
 have ho64 := ho48.at (by omega) hg58
 refine pk (v := .int .i64 e44) h63 rfl (rn_load1 rfl rfl Try.isAgg3 ho64.re.cell) fun a65 h65 => ?_; clear h63
 refine pk0 (v := .bool (e44 == 0)) h65 rfl fun a66 h66 => ?_; clear h65
 refine pk0 (v := .bool (e44 == 0)) h66 rfl fun a67 h67 => ?_; clear h66
 have hB69 := hb_new hB0 hg4
 have hB70 := hb_new hB69 hg15
 have hB71 := hb_new hB70 hg25
 have hB72 := hb_at hB71 hg34 (by omega)
 have hB73 := hb_at hB72 hg49 (by omega)
 have hB74 := hb_at hB73 hg58 (by omega)
 have hk75 := hk5.kept hg15 (by simp)
 have hk76 := hk75.kept hg25 (by simp)
 have hk77 := hk76.kept hg34 (by simp; omega)
 have hk78 := hk77.kept hg49 (by simp; omega)
 have hk79 := hk78.kept hg58 (by simp; omega)
 cases hc68 : (e44 == 0)
 ·
  rw [hc68] at h67
  have hp80 : ¬ (e44 = 0) := by first | simpa using hc68 | simpa [and_assoc] using hc68
  clear hc68
  refine psk h67 rfl fun a81 h81 => ?_; clear h67
  refine psk h81 rfl fun a82 h82 => ?_; clear h81
  refine psk h82 rfl fun a83 h83 => ?_; clear h82
  refine pk0 (v := .bool false) h83 rfl fun a84 h84 => ?_; clear h83
  refine pl_nil ?_
  refine co_then ?_
  refine co_false h84 rfl ?_
  refine wp_skip ?_
  refine co_then ?_
  refine co_seq ?_
  refine co_seq ?_
  refine co_reg ?_
  refine pk0 (v := pt N24 0) h84 rfl fun a85 h85 => ?_; clear h84
  refine pk (v := .int .i64 n42) h85 rfl (rn_load1 rfl rfl Try.isAgg3 (hk56'.cell rfl)) fun a86 h86 => ?_; clear h85
  refine pl_nil ?_
  refine co_then ?_
  refine wp_block ?_
  refine co_seq ?_
  refine co_seq ?_
  refine co_reg ?_
  refine pk0 (v := .bool (n42 == 1)) h86 rfl fun a87 h87 => ?_; clear h86
  refine pk0 (v := .bool (n42 == 1)) h87 rfl fun a88 h88 => ?_; clear h87
  refine pl_nil ?_
  refine co_then ?_
  have hc89 : (n42 == 1) = false := by first | (simp; done) | (simp; omega)
  rw [hc89] at h88; clear hc89
  refine co_false h88 rfl ?_
  refine co_reg ?_
  refine pk0 (v := .bool (n42 == 2)) h88 rfl fun a90 h90 => ?_; clear h88
  refine pk0 (v := .bool (n42 == 2)) h90 rfl fun a91 h91 => ?_; clear h90
  refine pl_nil ?_
  refine co_then ?_
  have hc92 : (n42 == 2) = false := by first | (simp; done) | (simp; omega)
  rw [hc92] at h91; clear hc92
  refine co_false h91 rfl ?_
  refine co_seq ?_
  refine co_reg ?_
  refine pk0 (v := .bool (n42 == 3)) h91 rfl fun a93 h93 => ?_; clear h91
  refine pk0 (v := .bool (n42 == 3)) h93 rfl fun a94 h94 => ?_; clear h93
  refine pl_nil ?_
  refine co_then ?_
  have hc95 : (n42 == 3) = false := by first | (simp; done) | (simp; omega)
  rw [hc95] at h94; clear hc95
  refine co_false h94 rfl ?_
  refine co_seq ?_
  refine co_reg ?_
  refine pk0 (v := .bool (n42 == 4)) h94 rfl fun a96 h96 => ?_; clear h94
  refine pk0 (v := .bool (n42 == 4)) h96 rfl fun a97 h97 => ?_; clear h96
  refine pl_nil ?_
  refine co_then ?_
  have hc98 : (n42 == 4) = false := by first | (simp; done) | (simp; omega)
  rw [hc98] at h97; clear hc98
  refine co_false h97 rfl ?_
  refine co_seq ?_
  refine co_seq ?_
  refine co_reg ?_
  refine pk0 (v := .bool (n42 == 5)) h97 rfl fun a99 h99 => ?_; clear h97
  refine pk0 (v := .bool (n42 == 5)) h99 rfl fun a100 h100 => ?_; clear h99
  refine pl_nil ?_
  refine co_then ?_
  have hc101 : (n42 == 5) = false := by first | (simp; done) | (simp; omega)
  rw [hc101] at h100; clear hc101
  refine co_false h100 rfl ?_
  refine co_reg ?_
  refine pk0 (v := .bool (n42 == 7)) h100 rfl fun a102 h102 => ?_; clear h100
  refine pk0 (v := .bool (n42 == 7)) h102 rfl fun a103 h103 => ?_; clear h102
  refine pl_nil ?_
  refine co_then ?_
  have hc104 : (n42 == 7) = false := by first | (simp; done) | (simp; omega)
  rw [hc104] at h103; clear hc104
  refine co_false h103 rfl ?_
  refine co_seq ?_
  refine co_reg ?_
  refine pk0 (v := .bool (n42 == 6)) h103 rfl fun a105 h105 => ?_; clear h103
  refine pk0 (v := .bool (n42 == 6)) h105 rfl fun a106 h106 => ?_; clear h105
  refine pl_nil ?_
  refine co_then ?_
  have hc107 : (n42 == 6) = false := by first | (simp; done) | (simp; omega)
  rw [hc107] at h106; clear hc107
  refine co_false h106 rfl ?_
  refine co_seq ?_
  refine co_reg ?_
  refine pk0 (v := .bool (n42 == 8)) h106 rfl fun a108 h108 => ?_; clear h106
  refine pk0 (v := .bool (n42 == 8)) h108 rfl fun a109 h109 => ?_; clear h108
  refine pl_nil ?_
  refine co_then ?_
  have hc110 : (n42 == 8) = false := by first | (simp; done) | (simp; omega)
  rw [hc110] at h109; clear hc110
  refine co_false h109 rfl ?_
  refine wp_skip ?_
  refine co_blockN ?_
  refine co_then ?_
  refine co_seq ?_
  refine co_seq ?_
  refine co_reg ?_
  refine pk0 (v := pt N14 0) h109 rfl fun a111 h111 => ?_; clear h109
  refine pw h111 rfl (op_call (args := #[pt N14 0]) (R := fun res xw => ∃ r : Int, res = .int .i64 r ∧ endV s a43.toNat e44 = r ∧ Below w55.heap.size w55 xw) rfl rfl rfl (by kernel_rfl) (by kernel_rfl) (Try.call75 _ _) (oxr_end N14 s a43 e44 w55 ho64 (by omega)) (by rintro e x ⟨r, rfl, h0, h2⟩; exact ⟨_, rfl, r, rfl, h0, h2⟩)) ?_; clear h111
  rintro _ w113 a112 ⟨r114, rfl, hq115, hb116⟩ h112
  have hz117 := hb116.size
  have k118 : e44 ≠ 0 → r114 = e44 := fun he => by rw [← hq115]; exact endV_e he
  refine pk0 (v := .int .i64 r114) h112 rfl fun a119 h119 => ?_; clear h112
  refine pl_nil ?_
  refine co_then ?_
  refine co_seq ?_
  refine co_reg ?_
  refine pk0 (v := .int .i64 r114) h119 rfl fun a120 h120 => ?_; clear h119
  refine pk0 (v := .bool (r114 != 0)) h120 rfl fun a121 h121 => ?_; clear h120
  refine pl_nil ?_
  refine co_then ?_
  have hc122 : (r114 != 0) = true := by first | (simp; done) | (simp; omega)
  rw [hc122] at h121; clear hc122
  refine co_true h121 rfl ?_
  refine co_seq ?_
  refine co_reg ?_
  refine pk0 (v := .agg #[.int .i64 0, .int .i64 0, .int .u64 0, .int .i64 0, .slice none 0 0, .int .u64 0, .slice none 0 0, .int .i64 0, .int .i64 0, .slice none 0 0, .int .u64 0, .int .i64 0, .int .u64 0, .int .i64 0, .int .i64 0, .int .i64 0, .int .i64 0, .int .i64 0]) h121 rfl fun a123 h123 => ?_; clear h121
  refine pk0 (v := .int .i64 r114) h123 rfl fun a124 h124 => ?_; clear h123
  have hk130 := hk79.below hb116
  refine pwD h124 rfl (op_storeN rfl rfl rfl (all_cons rfl (all_cons rfl (all_cons rfl (all_cons rfl (all_cons rfl (all_cons rfl (all_cons rfl (all_cons rfl (all_cons rfl (all_cons rfl (all_cons rfl (all_cons rfl (all_cons rfl (all_cons rfl (all_cons rfl (all_cons rfl (all_cons rfl (all_cons rfl all_nil)))))))))))))))))) (by kernel_rfl) hk130 rfl) ?_; clear h124
  rintro _ w126 a125 ⟨hk127, hz128, hg129⟩ h125
  have hk127' : Blk w126 N3 73 #[.int .i64 0, .int .i64 0, .int .u64 0, .int .i64 0, .slice none 0 0, .int .u64 0, .slice none 0 0, .int .i64 0, .int .i64 0, .slice none 0 0, .int .u64 0, .int .i64 0, .int .u64 0, .int .i64 0, .int .i64 0, .int .i64 0, .int .i64 0, .int .i64 0] := hk127; clear hk127
  have hz131 := hg129.size
  refine pk0 (v := .int .i64 r114) h125 rfl fun a132 h132 => ?_; clear h125
  refine pl_nil ?_
  refine co_then ?_
  refine wp_ret ?_
  refine co_thenR ?_
  refine co_retC1 (Q := fun _ _ _ => True) h132 rfl rfl rfl hk127' Try.underlying73 rfl (by kernel_rfl) ?_
  have hB133 := hb_call hB74 hb116
  have hB134 := hb_at hB133 hg129 (by omega)
  cases hof.symm.trans (nOf_ee hq45 (by omega) hq115)
  exact ⟨_, _, _, rfl, (row_nilL _ _ _ _ _), (row_nilL _ _ _ _ _), (row_nilL _ _ _ _ _), hB134⟩
 ·
  rw [hc68] at h67
  have hp135 : e44 = 0 := by first | simpa using hc68 | simpa [and_assoc] using hc68
  clear hc68
  refine pk0 (v := pt N24 0) h67 rfl fun a136 h136 => ?_; clear h67
  refine pk (v := .int .i64 n42) h136 rfl (rn_load1 rfl rfl Try.isAgg3 (hk56'.cell rfl)) fun a137 h137 => ?_; clear h136
  refine pk0 (v := .bool (n42 == 0)) h137 rfl fun a138 h138 => ?_; clear h137
  refine pk0 (v := .bool (n42 == 0)) h138 rfl fun a139 h139 => ?_; clear h138
  refine pl_nil ?_
  refine co_then ?_
  cases hc140 : (n42 == 0)
  ·
   rw [hc140] at h139
   have hp141 : ¬ (n42 = 0) := by first | simpa using hc140 | simpa [and_assoc] using hc140
   clear hc140
   refine co_false h139 rfl ?_
   refine wp_skip ?_
   refine co_then ?_
   refine co_seq ?_
   refine co_seq ?_
   refine co_reg ?_
   refine pk0 (v := pt N24 0) h139 rfl fun a142 h142 => ?_; clear h139
   refine pk (v := .int .i64 n42) h142 rfl (rn_load1 rfl rfl Try.isAgg3 (hk56'.cell rfl)) fun a143 h143 => ?_; clear h142
   refine pl_nil ?_
   refine co_then ?_
   refine wp_block ?_
   refine co_seq ?_
   refine co_seq ?_
   refine co_reg ?_
   refine pk0 (v := .bool (n42 == 1)) h143 rfl fun a144 h144 => ?_; clear h143
   refine pk0 (v := .bool (n42 == 1)) h144 rfl fun a145 h145 => ?_; clear h144
   refine pl_nil ?_
   refine co_then ?_
   cases hc146 : (n42 == 1)
   ·
    rw [hc146] at h145
    have hp147 : ¬ (n42 = 1) := by first | simpa using hc146 | simpa [and_assoc] using hc146
    clear hc146
    refine co_false h145 rfl ?_
    refine co_reg ?_
    refine pk0 (v := .bool (n42 == 2)) h145 rfl fun a148 h148 => ?_; clear h145
    refine pk0 (v := .bool (n42 == 2)) h148 rfl fun a149 h149 => ?_; clear h148
    refine pl_nil ?_
    refine co_then ?_
    cases hc150 : (n42 == 2)
    ·
     rw [hc150] at h149
     have hp151 : ¬ (n42 = 2) := by first | simpa using hc150 | simpa [and_assoc] using hc150
     clear hc150
     refine co_false h149 rfl ?_
     refine co_seq ?_
     refine co_reg ?_
     refine pk0 (v := .bool (n42 == 3)) h149 rfl fun a152 h152 => ?_; clear h149
     refine pk0 (v := .bool (n42 == 3)) h152 rfl fun a153 h153 => ?_; clear h152
     refine pl_nil ?_
     refine co_then ?_
     cases hc154 : (n42 == 3)
     ·
      rw [hc154] at h153
      have hp155 : ¬ (n42 = 3) := by first | simpa using hc154 | simpa [and_assoc] using hc154
      clear hc154
      refine co_false h153 rfl ?_
      refine co_seq ?_
      refine co_reg ?_
      refine pk0 (v := .bool (n42 == 4)) h153 rfl fun a156 h156 => ?_; clear h153
      refine pk0 (v := .bool (n42 == 4)) h156 rfl fun a157 h157 => ?_; clear h156
      refine pl_nil ?_
      refine co_then ?_
      cases hc158 : (n42 == 4)
      ·
       rw [hc158] at h157
       have hp159 : ¬ (n42 = 4) := by first | simpa using hc158 | simpa [and_assoc] using hc158
       clear hc158
       refine co_false h157 rfl ?_
       refine co_seq ?_
       refine co_seq ?_
       refine co_reg ?_
       refine pk0 (v := .bool (n42 == 5)) h157 rfl fun a160 h160 => ?_; clear h157
       refine pk0 (v := .bool (n42 == 5)) h160 rfl fun a161 h161 => ?_; clear h160
       refine pl_nil ?_
       refine co_then ?_
       cases hc162 : (n42 == 5)
       ·
        rw [hc162] at h161
        have hp163 : ¬ (n42 = 5) := by first | simpa using hc162 | simpa [and_assoc] using hc162
        clear hc162
        refine co_false h161 rfl ?_
        refine co_reg ?_
        refine pk0 (v := .bool (n42 == 7)) h161 rfl fun a164 h164 => ?_; clear h161
        refine pk0 (v := .bool (n42 == 7)) h164 rfl fun a165 h165 => ?_; clear h164
        refine pl_nil ?_
        refine co_then ?_
        cases hc166 : (n42 == 7)
        ·
         rw [hc166] at h165
         have hp167 : ¬ (n42 = 7) := by first | simpa using hc166 | simpa [and_assoc] using hc166
         clear hc166
         refine co_false h165 rfl ?_
         refine co_seq ?_
         refine co_reg ?_
         refine pk0 (v := .bool (n42 == 6)) h165 rfl fun a168 h168 => ?_; clear h165
         refine pk0 (v := .bool (n42 == 6)) h168 rfl fun a169 h169 => ?_; clear h168
         refine pl_nil ?_
         refine co_then ?_
         cases hc170 : (n42 == 6)
         ·
          rw [hc170] at h169
          have hp171 : ¬ (n42 = 6) := by first | simpa using hc170 | simpa [and_assoc] using hc170
          clear hc170
          refine co_false h169 rfl ?_
          refine co_seq ?_
          refine co_reg ?_
          refine pk0 (v := .bool (n42 == 8)) h169 rfl fun a172 h172 => ?_; clear h169
          refine pk0 (v := .bool (n42 == 8)) h172 rfl fun a173 h173 => ?_; clear h172
          refine pl_nil ?_
          refine co_then ?_
          have hc174 : (n42 == 8) = true := by first | (simp; done) | (simp; omega)
          rw [hc174] at h173; clear hc174
          refine co_true h173 rfl ?_
          refine co_seq ?_
          refine co_reg ?_
          refine pk0 (v := pt N14 0) h173 rfl fun a175 h175 => ?_; clear h173
          refine pw h175 rfl (op_call (args := #[pt N14 0, .int .i64 2]) (R := fun res xw => ∃ (n : Int) (a' e' : Int), res = .int .i64 n ∧ numR s a43 e44 2 = (n, a', e') ∧ 0 ≤ n ∧ n ≤ 2 ∧ OXR N14 s a' e' xw ∧ w55.grownBy xw (some N14)) rfl rfl rfl (by kernel_rfl) (by kernel_rfl) (Try.call93 _ _) (oxr_num N14 s a43 e44 2 w55 ho64 (by omega) (by omega) (by omega)) (by rintro q x ⟨n, a', e', rfl, h0, k0, k1, h1, h2⟩; exact ⟨_, rfl, n, a', e', rfl, h0, k0, k1, h1, h2⟩)) ?_; clear h175
          rintro _ w177 a176 ⟨n178, a179, e180, rfl, hq181, hn182, hm183, ho184, hg185⟩ h176
          have hz186 := hg185.size
          have hl187 := ho184.lt
          have k188 := numR_e hq181
          refine pk0 (v := pt N24 14) h176 rfl fun a189 h189 => ?_; clear h176
          refine pk0 (v := pt N24 14) h189 rfl fun a190 h190 => ?_; clear h189
          have hk196 := hk56'.kept hg185 (by simp; omega)
          refine pwD h190 rfl (op_store1 rfl rfl rfl rfl Try.sizeOf3 hk196 rfl) ?_; clear h190
          rintro _ w192 a191 ⟨hk193, hz194, hg195⟩ h191
          have hk193' : Blk w192 N24 73 #[.int .i64 n42, .int .i64 0, .int .u64 0, .int .i64 0, .slice none 0 0, .int .u64 0, .slice none 0 0, .int .i64 0, .int .i64 0, .slice none 0 0, .int .u64 0, .int .i64 0, .int .u64 0, .int .i64 0, .int .i64 n178, .int .i64 0, .int .i64 0, .int .i64 0] := hk193; clear hk193
          have hz197 := hg195.size
          refine pl_nil ?_
          refine co_then ?_
          refine co_seq ?_
          refine co_reg ?_
          refine pk0 (v := pt N14 0) h191 rfl fun a198 h198 => ?_; clear h191
          have ho209 := ho184.at (by omega) hg195
          refine pw h198 rfl (op_call (args := #[pt N14 0, .int .i64 1073741824]) (R := fun res xw => ∃ (n : Int) (a' e' : Int), res = .int .i64 n ∧ numR s a179 e180 1073741824 = (n, a', e') ∧ 0 ≤ n ∧ n ≤ 1073741824 ∧ OXR N14 s a' e' xw ∧ w192.grownBy xw (some N14)) rfl rfl rfl (by kernel_rfl) (by kernel_rfl) (Try.call93 _ _) (oxr_num N14 s a179 e180 1073741824 w192 ho209 (by omega) (by omega) (by omega)) (by rintro q x ⟨n, a', e', rfl, h0, k0, k1, h1, h2⟩; exact ⟨_, rfl, n, a', e', rfl, h0, k0, k1, h1, h2⟩)) ?_; clear h198
          rintro _ w200 a199 ⟨n201, a202, e203, rfl, hq204, hn205, hm206, ho207, hg208⟩ h199
          have hz210 := hg208.size
          have hl211 := ho207.lt
          have k212 := numR_e hq204
          refine pk0 (v := pt N24 14) h199 rfl fun a213 h213 => ?_; clear h199
          refine pk0 (v := pt N24 15) h213 rfl fun a214 h214 => ?_; clear h213
          have hk220 := hk193'.kept hg208 (by simp; omega)
          refine pwD h214 rfl (op_store1 rfl rfl rfl rfl Try.sizeOf3 hk220 rfl) ?_; clear h214
          rintro _ w216 a215 ⟨hk217, hz218, hg219⟩ h215
          have hk217' : Blk w216 N24 73 #[.int .i64 n42, .int .i64 0, .int .u64 0, .int .i64 0, .slice none 0 0, .int .u64 0, .slice none 0 0, .int .i64 0, .int .i64 0, .slice none 0 0, .int .u64 0, .int .i64 0, .int .u64 0, .int .i64 0, .int .i64 n178, .int .i64 n201, .int .i64 0, .int .i64 0] := hk217; clear hk217
          have hz221 := hg219.size
          refine pl_nil ?_
          refine co_then ?_
          refine co_seq ?_
          refine co_reg ?_
          refine pk0 (v := pt N14 0) h215 rfl fun a222 h222 => ?_; clear h215
          have ho233 := ho207.at (by omega) hg219
          refine pw h222 rfl (op_call (args := #[pt N14 0, .int .i64 21]) (R := fun res xw => ∃ (n : Int) (a' e' : Int), res = .int .i64 n ∧ numR s a202 e203 21 = (n, a', e') ∧ 0 ≤ n ∧ n ≤ 21 ∧ OXR N14 s a' e' xw ∧ w216.grownBy xw (some N14)) rfl rfl rfl (by kernel_rfl) (by kernel_rfl) (Try.call93 _ _) (oxr_num N14 s a202 e203 21 w216 ho233 (by omega) (by omega) (by omega)) (by rintro q x ⟨n, a', e', rfl, h0, k0, k1, h1, h2⟩; exact ⟨_, rfl, n, a', e', rfl, h0, k0, k1, h1, h2⟩)) ?_; clear h222
          rintro _ w224 a223 ⟨n225, a226, e227, rfl, hq228, hn229, hm230, ho231, hg232⟩ h223
          have hz234 := hg232.size
          have hl235 := ho231.lt
          have k236 := numR_e hq228
          refine pk0 (v := pt N24 14) h223 rfl fun a237 h237 => ?_; clear h223
          refine pk0 (v := pt N24 16) h237 rfl fun a238 h238 => ?_; clear h237
          have hk244 := hk217'.kept hg232 (by simp; omega)
          refine pwD h238 rfl (op_store1 rfl rfl rfl rfl Try.sizeOf35 hk244 rfl) ?_; clear h238
          rintro _ w240 a239 ⟨hk241, hz242, hg243⟩ h239
          have hk241' : Blk w240 N24 73 #[.int .i64 n42, .int .i64 0, .int .u64 0, .int .i64 0, .slice none 0 0, .int .u64 0, .slice none 0 0, .int .i64 0, .int .i64 0, .slice none 0 0, .int .u64 0, .int .i64 0, .int .u64 0, .int .i64 0, .int .i64 n178, .int .i64 n201, .int .i64 n225, .int .i64 0] := hk241; clear hk241
          have hz245 := hg243.size
          refine pl_nil ?_
          refine co_then ?_
          refine co_reg ?_
          refine pk0 (v := pt N14 0) h239 rfl fun a246 h246 => ?_; clear h239
          have ho257 := ho231.at (by omega) hg243
          refine pw h246 rfl (op_call (args := #[pt N14 0, .int .i64 1073741824]) (R := fun res xw => ∃ (n : Int) (a' e' : Int), res = .int .i64 n ∧ numR s a226 e227 1073741824 = (n, a', e') ∧ 0 ≤ n ∧ n ≤ 1073741824 ∧ OXR N14 s a' e' xw ∧ w240.grownBy xw (some N14)) rfl rfl rfl (by kernel_rfl) (by kernel_rfl) (Try.call93 _ _) (oxr_num N14 s a226 e227 1073741824 w240 ho257 (by omega) (by omega) (by omega)) (by rintro q x ⟨n, a', e', rfl, h0, k0, k1, h1, h2⟩; exact ⟨_, rfl, n, a', e', rfl, h0, k0, k1, h1, h2⟩)) ?_; clear h246
          rintro _ w248 a247 ⟨n249, a250, e251, rfl, hq252, hn253, hm254, ho255, hg256⟩ h247
          have hz258 := hg256.size
          have hl259 := ho255.lt
          have k260 := numR_e hq252
          refine pk0 (v := pt N24 14) h247 rfl fun a261 h261 => ?_; clear h247
          refine pk0 (v := pt N24 17) h261 rfl fun a262 h262 => ?_; clear h261
          have hk268 := hk241'.kept hg256 (by simp; omega)
          refine pwD h262 rfl (op_store1 rfl rfl rfl rfl Try.sizeOf3 hk268 rfl) ?_; clear h262
          rintro _ w264 a263 ⟨hk265, hz266, hg267⟩ h263
          have hk265' : Blk w264 N24 73 #[.int .i64 n42, .int .i64 0, .int .u64 0, .int .i64 0, .slice none 0 0, .int .u64 0, .slice none 0 0, .int .i64 0, .int .i64 0, .slice none 0 0, .int .u64 0, .int .i64 0, .int .u64 0, .int .i64 0, .int .i64 n178, .int .i64 n201, .int .i64 n225, .int .i64 n249] := hk265; clear hk265
          have hz269 := hg267.size
          refine pl_nil ?_
          refine co_blockN ?_
          refine co_then ?_
          refine co_seq ?_
          refine co_seq ?_
          refine co_reg ?_
          refine pk0 (v := pt N14 0) h263 rfl fun a270 h270 => ?_; clear h263
          have ho276 := ho255.at (by omega) hg267
          refine pw h270 rfl (op_call (args := #[pt N14 0]) (R := fun res xw => ∃ r : Int, res = .int .i64 r ∧ endV s a250.toNat e251 = r ∧ Below w264.heap.size w264 xw) rfl rfl rfl (by kernel_rfl) (by kernel_rfl) (Try.call75 _ _) (oxr_end N14 s a250 e251 w264 ho276 (by omega)) (by rintro e x ⟨r, rfl, h0, h2⟩; exact ⟨_, rfl, r, rfl, h0, h2⟩)) ?_; clear h270
          rintro _ w272 a271 ⟨r273, rfl, hq274, hb275⟩ h271
          have hz277 := hb275.size
          have k278 : e251 ≠ 0 → r273 = e251 := fun he => by rw [← hq274]; exact endV_e he
          refine pk0 (v := .int .i64 r273) h271 rfl fun a279 h279 => ?_; clear h271
          refine pl_nil ?_
          refine co_then ?_
          refine co_seq ?_
          refine co_reg ?_
          refine pk0 (v := .int .i64 r273) h279 rfl fun a280 h280 => ?_; clear h279
          refine pk0 (v := .bool (r273 != 0)) h280 rfl fun a281 h281 => ?_; clear h280
          refine pl_nil ?_
          refine co_then ?_
          have hB283 := hb_at hB74 hg185 (by omega)
          have hB284 := hb_at hB283 hg195 (by omega)
          have hB285 := hb_at hB284 hg208 (by omega)
          have hB286 := hb_at hB285 hg219 (by omega)
          have hB287 := hb_at hB286 hg232 (by omega)
          have hB288 := hb_at hB287 hg243 (by omega)
          have hB289 := hb_at hB288 hg256 (by omega)
          have hB290 := hb_at hB289 hg267 (by omega)
          have hB291 := hb_call hB290 hb275
          have hk292 := hk79.kept hg185 (by simp; omega)
          have hk293 := hk292.kept hg195 (by simp; omega)
          have hk294 := hk293.kept hg208 (by simp; omega)
          have hk295 := hk294.kept hg219 (by simp; omega)
          have hk296 := hk295.kept hg232 (by simp; omega)
          have hk297 := hk296.kept hg243 (by simp; omega)
          have hk298 := hk297.kept hg256 (by simp; omega)
          have hk299 := hk298.kept hg267 (by simp; omega)
          have hk300 := hk299.below hb275
          cases hc282 : (r273 != 0)
          ·
           rw [hc282] at h281
           have hp301 : ¬ (r273 ≠ 0) := by first | simpa using hc282 | simpa [and_assoc] using hc282
           clear hc282
           refine co_false h281 rfl ?_
           refine wp_skip ?_
           refine co_then ?_
           refine co_seq ?_
           refine co_seq ?_
           refine co_reg ?_
           have hk302 := hk265'.below hb275
           refine pk (v := .agg #[.int .i64 n42, .int .i64 0, .int .u64 0, .int .i64 0, .slice none 0 0, .int .u64 0, .slice none 0 0, .int .i64 0, .int .i64 0, .slice none 0 0, .int .u64 0, .int .i64 0, .int .u64 0, .int .i64 0, .int .i64 n178, .int .i64 n201, .int .i64 n225, .int .i64 n249]) h281 rfl (rn_loadN rfl rfl Try.underlying73 rfl (by kernel_rfl) hk302.all) fun a303 h303 => ?_; clear h281
           have hRd := rd_8 (k := n42) (by omega) hq181 hq204 hq228 hq252
           refine pw h303 rfl (op_call (args := #[.agg #[.int .i64 n42, .int .i64 0, .int .u64 0, .int .i64 0, .slice none 0 0, .int .u64 0, .slice none 0 0, .int .i64 0, .int .i64 0, .slice none 0 0, .int .u64 0, .int .i64 0, .int .u64 0, .int .i64 0, .int .i64 n178, .int .i64 n201, .int .i64 n225, .int .i64 n249]]) (R := fun res xw => res = .int .i64 (chkN (zS n42 n178 n201 n225 n249)) ∧ Below w272.heap.size w272 xw) rfl rfl rfl (by kernel_rfl) (by kernel_rfl) (Try.call95 _ _) (rnCheck_any (zS n42 n178 n201 n225 n249) (.slice none 0 0) (.slice none 0 0) (.slice none 0 0) w272 (sl_nil _) (sl_nil _) (sl_nil _) (rdNote_R2 hRd)) (by rintro e x ⟨rfl, hb306⟩; exact ⟨_, rfl, ⟨rfl, hb306⟩⟩)) ?_; clear h303
           rintro _ w305 a304 ⟨rfl, hb306⟩ h304
           have hz307 := hb306.size
           refine pk0 (v := .int .i64 (chkN (zS n42 n178 n201 n225 n249))) h304 rfl fun a308 h308 => ?_; clear h304
           refine pl_nil ?_
           refine co_then ?_
           refine co_seq ?_
           refine co_reg ?_
           refine pk0 (v := .int .i64 (chkN (zS n42 n178 n201 n225 n249))) h308 rfl fun a309 h309 => ?_; clear h308
           refine pk0 (v := .bool (chkN (zS n42 n178 n201 n225 n249) != 0)) h309 rfl fun a310 h310 => ?_; clear h309
           refine pl_nil ?_
           refine co_then ?_
           have hB312 := hb_call hB291 hb306
           have ho313 := ho276.below hb275
           have ho314 := ho313.below hb306
           cases hc311 : (chkN (zS n42 n178 n201 n225 n249) != 0)
           ·
            rw [hc311] at h310
            have hp315 : ¬ (chkN (zS n42 n178 n201 n225 n249) ≠ 0) := by first | simpa using hc311 | simpa [and_assoc] using hc311
            clear hc311
            refine co_false h310 rfl ?_
            refine wp_skip ?_
            refine co_then ?_
            refine co_seq ?_
            refine co_reg ?_
            have hk316 := hk302.below hb306
            refine pk (v := .agg #[.int .i64 n42, .int .i64 0, .int .u64 0, .int .i64 0, .slice none 0 0, .int .u64 0, .slice none 0 0, .int .i64 0, .int .i64 0, .slice none 0 0, .int .u64 0, .int .i64 0, .int .u64 0, .int .i64 0, .int .i64 n178, .int .i64 n201, .int .i64 n225, .int .i64 n249]) h310 rfl (rn_loadN rfl rfl Try.underlying73 rfl (by kernel_rfl) hk316.all) fun a317 h317 => ?_; clear h310
            have hk323 := hk300.below hb306
            refine pwD h317 rfl (op_storeN rfl rfl rfl (all_cons rfl (all_cons rfl (all_cons rfl (all_cons rfl (all_cons rfl (all_cons rfl (all_cons rfl (all_cons rfl (all_cons rfl (all_cons rfl (all_cons rfl (all_cons rfl (all_cons rfl (all_cons rfl (all_cons rfl (all_cons rfl (all_cons rfl (all_cons rfl all_nil)))))))))))))))))) (by kernel_rfl) hk323 rfl) ?_; clear h317
            rintro _ w319 a318 ⟨hk320, hz321, hg322⟩ h318
            have hk320' : Blk w319 N3 73 #[.int .i64 n42, .int .i64 0, .int .u64 0, .int .i64 0, .slice none 0 0, .int .u64 0, .slice none 0 0, .int .i64 0, .int .i64 0, .slice none 0 0, .int .u64 0, .int .i64 0, .int .u64 0, .int .i64 0, .int .i64 n178, .int .i64 n201, .int .i64 n225, .int .i64 n249] := hk320; clear hk320
            have hz324 := hg322.size
            refine pk0 (v := .int .i64 0) h318 rfl fun a325 h325 => ?_; clear h318
            refine pl_nil ?_
            refine co_then ?_
            refine wp_ret ?_
            refine co_retC1 (Q := fun _ _ _ => True) h325 rfl rfl rfl hk320' Try.underlying73 rfl (by kernel_rfl) ?_
            have hB326 := hb_at hB312 hg322 (by omega)
            have hrd := rd_8 (k := n42) (by omega) hq181 hq204 hq228 hq252
            cases hof.symm.trans (nOf_q hq45 (by omega) (by omega) hrd (nEnd_o (endV_0 hq274 (by assumption)) hq274 (by assumption) (by assumption)))
            exact ⟨_, _, _, rfl, (row_nilL _ _ _ _ _), (row_nilL _ _ _ _ _), (row_nilL _ _ _ _ _), hB326⟩
           ·
            rw [hc311] at h310
            have hp327 : chkN (zS n42 n178 n201 n225 n249) ≠ 0 := by first | simpa using hc311 | simpa [and_assoc] using hc311
            clear hc311
            refine co_true h310 rfl ?_
            refine co_seq ?_
            refine co_reg ?_
            refine pk0 (v := .agg #[.int .i64 0, .int .i64 0, .int .u64 0, .int .i64 0, .slice none 0 0, .int .u64 0, .slice none 0 0, .int .i64 0, .int .i64 0, .slice none 0 0, .int .u64 0, .int .i64 0, .int .u64 0, .int .i64 0, .int .i64 0, .int .i64 0, .int .i64 0, .int .i64 0]) h310 rfl fun a328 h328 => ?_; clear h310
            refine pk0 (v := .int .i64 (chkN (zS n42 n178 n201 n225 n249))) h328 rfl fun a329 h329 => ?_; clear h328
            have hk335 := hk300.below hb306
            refine pwD h329 rfl (op_storeN rfl rfl rfl (all_cons rfl (all_cons rfl (all_cons rfl (all_cons rfl (all_cons rfl (all_cons rfl (all_cons rfl (all_cons rfl (all_cons rfl (all_cons rfl (all_cons rfl (all_cons rfl (all_cons rfl (all_cons rfl (all_cons rfl (all_cons rfl (all_cons rfl (all_cons rfl all_nil)))))))))))))))))) (by kernel_rfl) hk335 rfl) ?_; clear h329
            rintro _ w331 a330 ⟨hk332, hz333, hg334⟩ h330
            have hk332' : Blk w331 N3 73 #[.int .i64 0, .int .i64 0, .int .u64 0, .int .i64 0, .slice none 0 0, .int .u64 0, .slice none 0 0, .int .i64 0, .int .i64 0, .slice none 0 0, .int .u64 0, .int .i64 0, .int .u64 0, .int .i64 0, .int .i64 0, .int .i64 0, .int .i64 0, .int .i64 0] := hk332; clear hk332
            have hz336 := hg334.size
            refine pk0 (v := .int .i64 (chkN (zS n42 n178 n201 n225 n249))) h330 rfl fun a337 h337 => ?_; clear h330
            refine pl_nil ?_
            refine co_then ?_
            refine wp_ret ?_
            refine co_thenR ?_
            refine co_retC1 (Q := fun _ _ _ => True) h337 rfl rfl rfl hk332' Try.underlying73 rfl (by kernel_rfl) ?_
            have hB338 := hb_at hB312 hg334 (by omega)
            have hrd := rd_8 (k := n42) (by omega) hq181 hq204 hq228 hq252
            cases hof.symm.trans (nOf_q hq45 (by omega) (by omega) hrd (nEnd_c (endV_0 hq274 (by assumption)) hq274 (by assumption) (by assumption)))
            exact ⟨_, _, _, rfl, (row_nilL _ _ _ _ _), (row_nilL _ _ _ _ _), (row_nilL _ _ _ _ _), hB338⟩
          ·
           rw [hc282] at h281
           have hp339 : r273 ≠ 0 := by first | simpa using hc282 | simpa [and_assoc] using hc282
           clear hc282
           refine co_true h281 rfl ?_
           refine co_seq ?_
           refine co_reg ?_
           refine pk0 (v := .agg #[.int .i64 0, .int .i64 0, .int .u64 0, .int .i64 0, .slice none 0 0, .int .u64 0, .slice none 0 0, .int .i64 0, .int .i64 0, .slice none 0 0, .int .u64 0, .int .i64 0, .int .u64 0, .int .i64 0, .int .i64 0, .int .i64 0, .int .i64 0, .int .i64 0]) h281 rfl fun a340 h340 => ?_; clear h281
           refine pk0 (v := .int .i64 r273) h340 rfl fun a341 h341 => ?_; clear h340
           refine pwD h341 rfl (op_storeN rfl rfl rfl (all_cons rfl (all_cons rfl (all_cons rfl (all_cons rfl (all_cons rfl (all_cons rfl (all_cons rfl (all_cons rfl (all_cons rfl (all_cons rfl (all_cons rfl (all_cons rfl (all_cons rfl (all_cons rfl (all_cons rfl (all_cons rfl (all_cons rfl (all_cons rfl all_nil)))))))))))))))))) (by kernel_rfl) hk300 rfl) ?_; clear h341
           rintro _ w343 a342 ⟨hk344, hz345, hg346⟩ h342
           have hk344' : Blk w343 N3 73 #[.int .i64 0, .int .i64 0, .int .u64 0, .int .i64 0, .slice none 0 0, .int .u64 0, .slice none 0 0, .int .i64 0, .int .i64 0, .slice none 0 0, .int .u64 0, .int .i64 0, .int .u64 0, .int .i64 0, .int .i64 0, .int .i64 0, .int .i64 0, .int .i64 0] := hk344; clear hk344
           have hz347 := hg346.size
           refine pk0 (v := .int .i64 r273) h342 rfl fun a348 h348 => ?_; clear h342
           refine pl_nil ?_
           refine co_then ?_
           refine wp_ret ?_
           refine co_thenR ?_
           refine co_retC1 (Q := fun _ _ _ => True) h348 rfl rfl rfl hk344' Try.underlying73 rfl (by kernel_rfl) ?_
           have hB349 := hb_at hB291 hg346 (by omega)
           have hrd := rd_8 (k := n42) (by omega) hq181 hq204 hq228 hq252
           cases hof.symm.trans (nOf_q hq45 (by omega) (by omega) hrd (nEnd_xx hq274 (by assumption)))
           exact ⟨_, _, _, rfl, (row_nilL _ _ _ _ _), (row_nilL _ _ _ _ _), (row_nilL _ _ _ _ _), hB349⟩
         ·
          rw [hc170] at h169
          have hp350 : n42 = 6 := by first | simpa using hc170 | simpa [and_assoc] using hc170
          clear hc170
          refine co_true h169 rfl ?_
          refine co_seq ?_
          refine co_reg ?_
          refine pk0 (v := pt N14 0) h169 rfl fun a351 h351 => ?_; clear h169
          refine pw h351 rfl (op_call (args := #[pt N14 0, .int .i64 1073741824]) (R := fun res xw => ∃ (n : Int) (a' e' : Int), res = .int .i64 n ∧ numR s a43 e44 1073741824 = (n, a', e') ∧ 0 ≤ n ∧ n ≤ 1073741824 ∧ OXR N14 s a' e' xw ∧ w55.grownBy xw (some N14)) rfl rfl rfl (by kernel_rfl) (by kernel_rfl) (Try.call93 _ _) (oxr_num N14 s a43 e44 1073741824 w55 ho64 (by omega) (by omega) (by omega)) (by rintro q x ⟨n, a', e', rfl, h0, k0, k1, h1, h2⟩; exact ⟨_, rfl, n, a', e', rfl, h0, k0, k1, h1, h2⟩)) ?_; clear h351
          rintro _ w353 a352 ⟨n354, a355, e356, rfl, hq357, hn358, hm359, ho360, hg361⟩ h352
          have hz362 := hg361.size
          have hl363 := ho360.lt
          have k364 := numR_e hq357
          refine pk0 (v := pt N24 11) h352 rfl fun a365 h365 => ?_; clear h352
          refine pk0 (v := pt N24 11) h365 rfl fun a366 h366 => ?_; clear h365
          have hk372 := hk56'.kept hg361 (by simp; omega)
          refine pwD h366 rfl (op_store1 rfl rfl rfl rfl Try.sizeOf3 hk372 rfl) ?_; clear h366
          rintro _ w368 a367 ⟨hk369, hz370, hg371⟩ h367
          have hk369' : Blk w368 N24 73 #[.int .i64 n42, .int .i64 0, .int .u64 0, .int .i64 0, .slice none 0 0, .int .u64 0, .slice none 0 0, .int .i64 0, .int .i64 0, .slice none 0 0, .int .u64 0, .int .i64 n354, .int .u64 0, .int .i64 0, .int .i64 0, .int .i64 0, .int .i64 0, .int .i64 0] := hk369; clear hk369
          have hz373 := hg371.size
          refine pl_nil ?_
          refine co_then ?_
          refine co_seq ?_
          refine co_reg ?_
          refine pk0 (v := pt N14 0) h367 rfl fun a374 h374 => ?_; clear h367
          have ho385 := ho360.at (by omega) hg371
          refine pw h374 rfl (op_call (args := #[pt N14 0]) (R := fun res xw => ∃ (n : Int) (a' e' : Int), res = .int .u64 n ∧ bigR s a355 e356 = (n, a', e') ∧ 0 ≤ n ∧ n < 18446744073709551616 ∧ OXR N14 s a' e' xw ∧ w368.grownBy xw (some N14)) rfl rfl rfl (by kernel_rfl) (by kernel_rfl) (Try.call73 _ _) (oxr_big N14 s a355 e356 w368 ho385 (by omega)) (by rintro q x ⟨n, a', e', rfl, h0, k0, k1, h1, h2⟩; exact ⟨_, rfl, n, a', e', rfl, h0, k0, k1, h1, h2⟩)) ?_; clear h374
          rintro _ w376 a375 ⟨n377, a378, e379, rfl, hq380, hn381, hm382, ho383, hg384⟩ h375
          have hz386 := hg384.size
          have hl387 := ho383.lt
          refine pk0 (v := pt N24 11) h375 rfl fun a388 h388 => ?_; clear h375
          refine pk0 (v := pt N24 12) h388 rfl fun a389 h389 => ?_; clear h388
          have hk395 := hk369'.kept hg384 (by simp; omega)
          refine pwD h389 rfl (op_store1 rfl rfl rfl rfl Try.sizeOf32 hk395 rfl) ?_; clear h389
          rintro _ w391 a390 ⟨hk392, hz393, hg394⟩ h390
          have hk392' : Blk w391 N24 73 #[.int .i64 n42, .int .i64 0, .int .u64 0, .int .i64 0, .slice none 0 0, .int .u64 0, .slice none 0 0, .int .i64 0, .int .i64 0, .slice none 0 0, .int .u64 0, .int .i64 n354, .int .u64 n377, .int .i64 0, .int .i64 0, .int .i64 0, .int .i64 0, .int .i64 0] := hk392; clear hk392
          have hz396 := hg394.size
          refine pl_nil ?_
          refine co_then ?_
          refine co_reg ?_
          refine pk0 (v := pt N14 0) h390 rfl fun a397 h397 => ?_; clear h390
          have ho408 := ho383.at (by omega) hg394
          refine pw h397 rfl (op_call (args := #[pt N14 0, .int .i64 1073741824]) (R := fun res xw => ∃ (n : Int) (a' e' : Int), res = .int .i64 n ∧ numR s a378 e379 1073741824 = (n, a', e') ∧ 0 ≤ n ∧ n ≤ 1073741824 ∧ OXR N14 s a' e' xw ∧ w391.grownBy xw (some N14)) rfl rfl rfl (by kernel_rfl) (by kernel_rfl) (Try.call93 _ _) (oxr_num N14 s a378 e379 1073741824 w391 ho408 (by omega) (by omega) (by omega)) (by rintro q x ⟨n, a', e', rfl, h0, k0, k1, h1, h2⟩; exact ⟨_, rfl, n, a', e', rfl, h0, k0, k1, h1, h2⟩)) ?_; clear h397
          rintro _ w399 a398 ⟨n400, a401, e402, rfl, hq403, hn404, hm405, ho406, hg407⟩ h398
          have hz409 := hg407.size
          have hl410 := ho406.lt
          have k411 := numR_e hq403
          refine pk0 (v := pt N24 11) h398 rfl fun a412 h412 => ?_; clear h398
          refine pk0 (v := pt N24 13) h412 rfl fun a413 h413 => ?_; clear h412
          have hk419 := hk392'.kept hg407 (by simp; omega)
          refine pwD h413 rfl (op_store1 rfl rfl rfl rfl Try.sizeOf3 hk419 rfl) ?_; clear h413
          rintro _ w415 a414 ⟨hk416, hz417, hg418⟩ h414
          have hk416' : Blk w415 N24 73 #[.int .i64 n42, .int .i64 0, .int .u64 0, .int .i64 0, .slice none 0 0, .int .u64 0, .slice none 0 0, .int .i64 0, .int .i64 0, .slice none 0 0, .int .u64 0, .int .i64 n354, .int .u64 n377, .int .i64 n400, .int .i64 0, .int .i64 0, .int .i64 0, .int .i64 0] := hk416; clear hk416
          have hz420 := hg418.size
          refine pl_nil ?_
          refine co_blockN ?_
          refine co_then ?_
          refine co_seq ?_
          refine co_seq ?_
          refine co_reg ?_
          refine pk0 (v := pt N14 0) h414 rfl fun a421 h421 => ?_; clear h414
          have ho427 := ho406.at (by omega) hg418
          refine pw h421 rfl (op_call (args := #[pt N14 0]) (R := fun res xw => ∃ r : Int, res = .int .i64 r ∧ endV s a401.toNat e402 = r ∧ Below w415.heap.size w415 xw) rfl rfl rfl (by kernel_rfl) (by kernel_rfl) (Try.call75 _ _) (oxr_end N14 s a401 e402 w415 ho427 (by omega)) (by rintro e x ⟨r, rfl, h0, h2⟩; exact ⟨_, rfl, r, rfl, h0, h2⟩)) ?_; clear h421
          rintro _ w423 a422 ⟨r424, rfl, hq425, hb426⟩ h422
          have hz428 := hb426.size
          have k429 : e402 ≠ 0 → r424 = e402 := fun he => by rw [← hq425]; exact endV_e he
          refine pk0 (v := .int .i64 r424) h422 rfl fun a430 h430 => ?_; clear h422
          refine pl_nil ?_
          refine co_then ?_
          refine co_seq ?_
          refine co_reg ?_
          refine pk0 (v := .int .i64 r424) h430 rfl fun a431 h431 => ?_; clear h430
          refine pk0 (v := .bool (r424 != 0)) h431 rfl fun a432 h432 => ?_; clear h431
          refine pl_nil ?_
          refine co_then ?_
          have hB434 := hb_at hB74 hg361 (by omega)
          have hB435 := hb_at hB434 hg371 (by omega)
          have hB436 := hb_at hB435 hg384 (by omega)
          have hB437 := hb_at hB436 hg394 (by omega)
          have hB438 := hb_at hB437 hg407 (by omega)
          have hB439 := hb_at hB438 hg418 (by omega)
          have hB440 := hb_call hB439 hb426
          have hk441 := hk79.kept hg361 (by simp; omega)
          have hk442 := hk441.kept hg371 (by simp; omega)
          have hk443 := hk442.kept hg384 (by simp; omega)
          have hk444 := hk443.kept hg394 (by simp; omega)
          have hk445 := hk444.kept hg407 (by simp; omega)
          have hk446 := hk445.kept hg418 (by simp; omega)
          have hk447 := hk446.below hb426
          cases hc433 : (r424 != 0)
          ·
           rw [hc433] at h432
           have hp448 : ¬ (r424 ≠ 0) := by first | simpa using hc433 | simpa [and_assoc] using hc433
           clear hc433
           refine co_false h432 rfl ?_
           refine wp_skip ?_
           refine co_then ?_
           refine co_seq ?_
           refine co_seq ?_
           refine co_reg ?_
           have hk449 := hk416'.below hb426
           refine pk (v := .agg #[.int .i64 n42, .int .i64 0, .int .u64 0, .int .i64 0, .slice none 0 0, .int .u64 0, .slice none 0 0, .int .i64 0, .int .i64 0, .slice none 0 0, .int .u64 0, .int .i64 n354, .int .u64 n377, .int .i64 n400, .int .i64 0, .int .i64 0, .int .i64 0, .int .i64 0]) h432 rfl (rn_loadN rfl rfl Try.underlying73 rfl (by kernel_rfl) hk449.all) fun a450 h450 => ?_; clear h432
           have hRd := rd_6 (k := n42) (by omega) hq357 hq380 hq403
           refine pw h450 rfl (op_call (args := #[.agg #[.int .i64 n42, .int .i64 0, .int .u64 0, .int .i64 0, .slice none 0 0, .int .u64 0, .slice none 0 0, .int .i64 0, .int .i64 0, .slice none 0 0, .int .u64 0, .int .i64 n354, .int .u64 n377, .int .i64 n400, .int .i64 0, .int .i64 0, .int .i64 0, .int .i64 0]]) (R := fun res xw => res = .int .i64 (chkN (zP n42 n354 n377 n400)) ∧ Below w423.heap.size w423 xw) rfl rfl rfl (by kernel_rfl) (by kernel_rfl) (Try.call95 _ _) (rnCheck_any (zP n42 n354 n377 n400) (.slice none 0 0) (.slice none 0 0) (.slice none 0 0) w423 (sl_nil _) (sl_nil _) (sl_nil _) (rdNote_R2 hRd)) (by rintro e x ⟨rfl, hb453⟩; exact ⟨_, rfl, ⟨rfl, hb453⟩⟩)) ?_; clear h450
           rintro _ w452 a451 ⟨rfl, hb453⟩ h451
           have hz454 := hb453.size
           refine pk0 (v := .int .i64 (chkN (zP n42 n354 n377 n400))) h451 rfl fun a455 h455 => ?_; clear h451
           refine pl_nil ?_
           refine co_then ?_
           refine co_seq ?_
           refine co_reg ?_
           refine pk0 (v := .int .i64 (chkN (zP n42 n354 n377 n400))) h455 rfl fun a456 h456 => ?_; clear h455
           refine pk0 (v := .bool (chkN (zP n42 n354 n377 n400) != 0)) h456 rfl fun a457 h457 => ?_; clear h456
           refine pl_nil ?_
           refine co_then ?_
           have hB459 := hb_call hB440 hb453
           have ho460 := ho427.below hb426
           have ho461 := ho460.below hb453
           cases hc458 : (chkN (zP n42 n354 n377 n400) != 0)
           ·
            rw [hc458] at h457
            have hp462 : ¬ (chkN (zP n42 n354 n377 n400) ≠ 0) := by first | simpa using hc458 | simpa [and_assoc] using hc458
            clear hc458
            refine co_false h457 rfl ?_
            refine wp_skip ?_
            refine co_then ?_
            refine co_seq ?_
            refine co_reg ?_
            have hk463 := hk449.below hb453
            refine pk (v := .agg #[.int .i64 n42, .int .i64 0, .int .u64 0, .int .i64 0, .slice none 0 0, .int .u64 0, .slice none 0 0, .int .i64 0, .int .i64 0, .slice none 0 0, .int .u64 0, .int .i64 n354, .int .u64 n377, .int .i64 n400, .int .i64 0, .int .i64 0, .int .i64 0, .int .i64 0]) h457 rfl (rn_loadN rfl rfl Try.underlying73 rfl (by kernel_rfl) hk463.all) fun a464 h464 => ?_; clear h457
            have hk470 := hk447.below hb453
            refine pwD h464 rfl (op_storeN rfl rfl rfl (all_cons rfl (all_cons rfl (all_cons rfl (all_cons rfl (all_cons rfl (all_cons rfl (all_cons rfl (all_cons rfl (all_cons rfl (all_cons rfl (all_cons rfl (all_cons rfl (all_cons rfl (all_cons rfl (all_cons rfl (all_cons rfl (all_cons rfl (all_cons rfl all_nil)))))))))))))))))) (by kernel_rfl) hk470 rfl) ?_; clear h464
            rintro _ w466 a465 ⟨hk467, hz468, hg469⟩ h465
            have hk467' : Blk w466 N3 73 #[.int .i64 n42, .int .i64 0, .int .u64 0, .int .i64 0, .slice none 0 0, .int .u64 0, .slice none 0 0, .int .i64 0, .int .i64 0, .slice none 0 0, .int .u64 0, .int .i64 n354, .int .u64 n377, .int .i64 n400, .int .i64 0, .int .i64 0, .int .i64 0, .int .i64 0] := hk467; clear hk467
            have hz471 := hg469.size
            refine pk0 (v := .int .i64 0) h465 rfl fun a472 h472 => ?_; clear h465
            refine pl_nil ?_
            refine co_then ?_
            refine wp_ret ?_
            refine co_retC1 (Q := fun _ _ _ => True) h472 rfl rfl rfl hk467' Try.underlying73 rfl (by kernel_rfl) ?_
            have hB473 := hb_at hB459 hg469 (by omega)
            have hrd := rd_6 (k := n42) (by omega) hq357 hq380 hq403
            cases hof.symm.trans (nOf_q hq45 (by omega) (by omega) hrd (nEnd_o (endV_0 hq425 (by assumption)) hq425 (by assumption) (by assumption)))
            exact ⟨_, _, _, rfl, (row_nilL _ _ _ _ _), (row_nilL _ _ _ _ _), (row_nilL _ _ _ _ _), hB473⟩
           ·
            rw [hc458] at h457
            have hp474 : chkN (zP n42 n354 n377 n400) ≠ 0 := by first | simpa using hc458 | simpa [and_assoc] using hc458
            clear hc458
            refine co_true h457 rfl ?_
            refine co_seq ?_
            refine co_reg ?_
            refine pk0 (v := .agg #[.int .i64 0, .int .i64 0, .int .u64 0, .int .i64 0, .slice none 0 0, .int .u64 0, .slice none 0 0, .int .i64 0, .int .i64 0, .slice none 0 0, .int .u64 0, .int .i64 0, .int .u64 0, .int .i64 0, .int .i64 0, .int .i64 0, .int .i64 0, .int .i64 0]) h457 rfl fun a475 h475 => ?_; clear h457
            refine pk0 (v := .int .i64 (chkN (zP n42 n354 n377 n400))) h475 rfl fun a476 h476 => ?_; clear h475
            have hk482 := hk447.below hb453
            refine pwD h476 rfl (op_storeN rfl rfl rfl (all_cons rfl (all_cons rfl (all_cons rfl (all_cons rfl (all_cons rfl (all_cons rfl (all_cons rfl (all_cons rfl (all_cons rfl (all_cons rfl (all_cons rfl (all_cons rfl (all_cons rfl (all_cons rfl (all_cons rfl (all_cons rfl (all_cons rfl (all_cons rfl all_nil)))))))))))))))))) (by kernel_rfl) hk482 rfl) ?_; clear h476
            rintro _ w478 a477 ⟨hk479, hz480, hg481⟩ h477
            have hk479' : Blk w478 N3 73 #[.int .i64 0, .int .i64 0, .int .u64 0, .int .i64 0, .slice none 0 0, .int .u64 0, .slice none 0 0, .int .i64 0, .int .i64 0, .slice none 0 0, .int .u64 0, .int .i64 0, .int .u64 0, .int .i64 0, .int .i64 0, .int .i64 0, .int .i64 0, .int .i64 0] := hk479; clear hk479
            have hz483 := hg481.size
            refine pk0 (v := .int .i64 (chkN (zP n42 n354 n377 n400))) h477 rfl fun a484 h484 => ?_; clear h477
            refine pl_nil ?_
            refine co_then ?_
            refine wp_ret ?_
            refine co_thenR ?_
            refine co_retC1 (Q := fun _ _ _ => True) h484 rfl rfl rfl hk479' Try.underlying73 rfl (by kernel_rfl) ?_
            have hB485 := hb_at hB459 hg481 (by omega)
            have hrd := rd_6 (k := n42) (by omega) hq357 hq380 hq403
            cases hof.symm.trans (nOf_q hq45 (by omega) (by omega) hrd (nEnd_c (endV_0 hq425 (by assumption)) hq425 (by assumption) (by assumption)))
            exact ⟨_, _, _, rfl, (row_nilL _ _ _ _ _), (row_nilL _ _ _ _ _), (row_nilL _ _ _ _ _), hB485⟩
          ·
           rw [hc433] at h432
           have hp486 : r424 ≠ 0 := by first | simpa using hc433 | simpa [and_assoc] using hc433
           clear hc433
           refine co_true h432 rfl ?_
           refine co_seq ?_
           refine co_reg ?_
           refine pk0 (v := .agg #[.int .i64 0, .int .i64 0, .int .u64 0, .int .i64 0, .slice none 0 0, .int .u64 0, .slice none 0 0, .int .i64 0, .int .i64 0, .slice none 0 0, .int .u64 0, .int .i64 0, .int .u64 0, .int .i64 0, .int .i64 0, .int .i64 0, .int .i64 0, .int .i64 0]) h432 rfl fun a487 h487 => ?_; clear h432
           refine pk0 (v := .int .i64 r424) h487 rfl fun a488 h488 => ?_; clear h487
           refine pwD h488 rfl (op_storeN rfl rfl rfl (all_cons rfl (all_cons rfl (all_cons rfl (all_cons rfl (all_cons rfl (all_cons rfl (all_cons rfl (all_cons rfl (all_cons rfl (all_cons rfl (all_cons rfl (all_cons rfl (all_cons rfl (all_cons rfl (all_cons rfl (all_cons rfl (all_cons rfl (all_cons rfl all_nil)))))))))))))))))) (by kernel_rfl) hk447 rfl) ?_; clear h488
           rintro _ w490 a489 ⟨hk491, hz492, hg493⟩ h489
           have hk491' : Blk w490 N3 73 #[.int .i64 0, .int .i64 0, .int .u64 0, .int .i64 0, .slice none 0 0, .int .u64 0, .slice none 0 0, .int .i64 0, .int .i64 0, .slice none 0 0, .int .u64 0, .int .i64 0, .int .u64 0, .int .i64 0, .int .i64 0, .int .i64 0, .int .i64 0, .int .i64 0] := hk491; clear hk491
           have hz494 := hg493.size
           refine pk0 (v := .int .i64 r424) h489 rfl fun a495 h495 => ?_; clear h489
           refine pl_nil ?_
           refine co_then ?_
           refine wp_ret ?_
           refine co_thenR ?_
           refine co_retC1 (Q := fun _ _ _ => True) h495 rfl rfl rfl hk491' Try.underlying73 rfl (by kernel_rfl) ?_
           have hB496 := hb_at hB440 hg493 (by omega)
           have hrd := rd_6 (k := n42) (by omega) hq357 hq380 hq403
           cases hof.symm.trans (nOf_q hq45 (by omega) (by omega) hrd (nEnd_xx hq425 (by assumption)))
           exact ⟨_, _, _, rfl, (row_nilL _ _ _ _ _), (row_nilL _ _ _ _ _), (row_nilL _ _ _ _ _), hB496⟩
        ·
         rw [hc166] at h165
         have hp497 : n42 = 7 := by first | simpa using hc166 | simpa [and_assoc] using hc166
         clear hc166
         refine co_true h165 rfl ?_
         refine co_reg ?_
         refine pk0 (v := pt N14 0) h165 rfl fun a498 h498 => ?_; clear h165
         refine pw h498 rfl (op_call (args := #[pt N14 0, .int .i64 1073741824]) (R := fun res xw => ∃ (n : Int) (a' e' : Int), res = .int .i64 n ∧ numR s a43 e44 1073741824 = (n, a', e') ∧ 0 ≤ n ∧ n ≤ 1073741824 ∧ OXR N14 s a' e' xw ∧ w55.grownBy xw (some N14)) rfl rfl rfl (by kernel_rfl) (by kernel_rfl) (Try.call93 _ _) (oxr_num N14 s a43 e44 1073741824 w55 ho64 (by omega) (by omega) (by omega)) (by rintro q x ⟨n, a', e', rfl, h0, k0, k1, h1, h2⟩; exact ⟨_, rfl, n, a', e', rfl, h0, k0, k1, h1, h2⟩)) ?_; clear h498
         rintro _ w500 a499 ⟨n501, a502, e503, rfl, hq504, hn505, hm506, ho507, hg508⟩ h499
         have hz509 := hg508.size
         have hl510 := ho507.lt
         have k511 := numR_e hq504
         refine pk0 (v := pt N24 1) h499 rfl fun a512 h512 => ?_; clear h499
         have hk518 := hk56'.kept hg508 (by simp; omega)
         refine pwD h512 rfl (op_store1 rfl rfl rfl rfl Try.sizeOf3 hk518 rfl) ?_; clear h512
         rintro _ w514 a513 ⟨hk515, hz516, hg517⟩ h513
         have hk515' : Blk w514 N24 73 #[.int .i64 n42, .int .i64 n501, .int .u64 0, .int .i64 0, .slice none 0 0, .int .u64 0, .slice none 0 0, .int .i64 0, .int .i64 0, .slice none 0 0, .int .u64 0, .int .i64 0, .int .u64 0, .int .i64 0, .int .i64 0, .int .i64 0, .int .i64 0, .int .i64 0] := hk515; clear hk515
         have hz519 := hg517.size
         refine pl_nil ?_
         refine co_blockN ?_
         refine co_then ?_
         refine co_seq ?_
         refine co_seq ?_
         refine co_reg ?_
         refine pk0 (v := pt N14 0) h513 rfl fun a520 h520 => ?_; clear h513
         have ho526 := ho507.at (by omega) hg517
         refine pw h520 rfl (op_call (args := #[pt N14 0]) (R := fun res xw => ∃ r : Int, res = .int .i64 r ∧ endV s a502.toNat e503 = r ∧ Below w514.heap.size w514 xw) rfl rfl rfl (by kernel_rfl) (by kernel_rfl) (Try.call75 _ _) (oxr_end N14 s a502 e503 w514 ho526 (by omega)) (by rintro e x ⟨r, rfl, h0, h2⟩; exact ⟨_, rfl, r, rfl, h0, h2⟩)) ?_; clear h520
         rintro _ w522 a521 ⟨r523, rfl, hq524, hb525⟩ h521
         have hz527 := hb525.size
         have k528 : e503 ≠ 0 → r523 = e503 := fun he => by rw [← hq524]; exact endV_e he
         refine pk0 (v := .int .i64 r523) h521 rfl fun a529 h529 => ?_; clear h521
         refine pl_nil ?_
         refine co_then ?_
         refine co_seq ?_
         refine co_reg ?_
         refine pk0 (v := .int .i64 r523) h529 rfl fun a530 h530 => ?_; clear h529
         refine pk0 (v := .bool (r523 != 0)) h530 rfl fun a531 h531 => ?_; clear h530
         refine pl_nil ?_
         refine co_then ?_
         have hB533 := hb_at hB74 hg508 (by omega)
         have hB534 := hb_at hB533 hg517 (by omega)
         have hB535 := hb_call hB534 hb525
         have hk536 := hk79.kept hg508 (by simp; omega)
         have hk537 := hk536.kept hg517 (by simp; omega)
         have hk538 := hk537.below hb525
         cases hc532 : (r523 != 0)
         ·
          rw [hc532] at h531
          have hp539 : ¬ (r523 ≠ 0) := by first | simpa using hc532 | simpa [and_assoc] using hc532
          clear hc532
          refine co_false h531 rfl ?_
          refine wp_skip ?_
          refine co_then ?_
          refine co_seq ?_
          refine co_seq ?_
          refine co_reg ?_
          have hk540 := hk515'.below hb525
          refine pk (v := .agg #[.int .i64 n42, .int .i64 n501, .int .u64 0, .int .i64 0, .slice none 0 0, .int .u64 0, .slice none 0 0, .int .i64 0, .int .i64 0, .slice none 0 0, .int .u64 0, .int .i64 0, .int .u64 0, .int .i64 0, .int .i64 0, .int .i64 0, .int .i64 0, .int .i64 0]) h531 rfl (rn_loadN rfl rfl Try.underlying73 rfl (by kernel_rfl) hk540.all) fun a541 h541 => ?_; clear h531
          have hRd := rd_5 (k := n42) (by omega) hq504
          refine pw h541 rfl (op_call (args := #[.agg #[.int .i64 n42, .int .i64 n501, .int .u64 0, .int .i64 0, .slice none 0 0, .int .u64 0, .slice none 0 0, .int .i64 0, .int .i64 0, .slice none 0 0, .int .u64 0, .int .i64 0, .int .u64 0, .int .i64 0, .int .i64 0, .int .i64 0, .int .i64 0, .int .i64 0]]) (R := fun res xw => res = .int .i64 (chkN (zT n42 n501 0)) ∧ Below w522.heap.size w522 xw) rfl rfl rfl (by kernel_rfl) (by kernel_rfl) (Try.call95 _ _) (rnCheck_any (zT n42 n501 0) (.slice none 0 0) (.slice none 0 0) (.slice none 0 0) w522 (sl_nil _) (sl_nil _) (sl_nil _) (rdNote_R2 hRd)) (by rintro e x ⟨rfl, hb544⟩; exact ⟨_, rfl, ⟨rfl, hb544⟩⟩)) ?_; clear h541
          rintro _ w543 a542 ⟨rfl, hb544⟩ h542
          have hz545 := hb544.size
          refine pk0 (v := .int .i64 (chkN (zT n42 n501 0))) h542 rfl fun a546 h546 => ?_; clear h542
          refine pl_nil ?_
          refine co_then ?_
          refine co_seq ?_
          refine co_reg ?_
          refine pk0 (v := .int .i64 (chkN (zT n42 n501 0))) h546 rfl fun a547 h547 => ?_; clear h546
          refine pk0 (v := .bool (chkN (zT n42 n501 0) != 0)) h547 rfl fun a548 h548 => ?_; clear h547
          refine pl_nil ?_
          refine co_then ?_
          have hB550 := hb_call hB535 hb544
          have ho551 := ho526.below hb525
          have ho552 := ho551.below hb544
          cases hc549 : (chkN (zT n42 n501 0) != 0)
          ·
           rw [hc549] at h548
           have hp553 : ¬ (chkN (zT n42 n501 0) ≠ 0) := by first | simpa using hc549 | simpa [and_assoc] using hc549
           clear hc549
           refine co_false h548 rfl ?_
           refine wp_skip ?_
           refine co_then ?_
           refine co_seq ?_
           refine co_reg ?_
           have hk554 := hk540.below hb544
           refine pk (v := .agg #[.int .i64 n42, .int .i64 n501, .int .u64 0, .int .i64 0, .slice none 0 0, .int .u64 0, .slice none 0 0, .int .i64 0, .int .i64 0, .slice none 0 0, .int .u64 0, .int .i64 0, .int .u64 0, .int .i64 0, .int .i64 0, .int .i64 0, .int .i64 0, .int .i64 0]) h548 rfl (rn_loadN rfl rfl Try.underlying73 rfl (by kernel_rfl) hk554.all) fun a555 h555 => ?_; clear h548
           have hk561 := hk538.below hb544
           refine pwD h555 rfl (op_storeN rfl rfl rfl (all_cons rfl (all_cons rfl (all_cons rfl (all_cons rfl (all_cons rfl (all_cons rfl (all_cons rfl (all_cons rfl (all_cons rfl (all_cons rfl (all_cons rfl (all_cons rfl (all_cons rfl (all_cons rfl (all_cons rfl (all_cons rfl (all_cons rfl (all_cons rfl all_nil)))))))))))))))))) (by kernel_rfl) hk561 rfl) ?_; clear h555
           rintro _ w557 a556 ⟨hk558, hz559, hg560⟩ h556
           have hk558' : Blk w557 N3 73 #[.int .i64 n42, .int .i64 n501, .int .u64 0, .int .i64 0, .slice none 0 0, .int .u64 0, .slice none 0 0, .int .i64 0, .int .i64 0, .slice none 0 0, .int .u64 0, .int .i64 0, .int .u64 0, .int .i64 0, .int .i64 0, .int .i64 0, .int .i64 0, .int .i64 0] := hk558; clear hk558
           have hz562 := hg560.size
           refine pk0 (v := .int .i64 0) h556 rfl fun a563 h563 => ?_; clear h556
           refine pl_nil ?_
           refine co_then ?_
           refine wp_ret ?_
           refine co_retC1 (Q := fun _ _ _ => True) h563 rfl rfl rfl hk558' Try.underlying73 rfl (by kernel_rfl) ?_
           have hB564 := hb_at hB550 hg560 (by omega)
           have hrd := rd_5 (k := n42) (by omega) hq504
           cases hof.symm.trans (nOf_q hq45 (by omega) (by omega) hrd (nEnd_o (endV_0 hq524 (by assumption)) hq524 (by assumption) (by assumption)))
           exact ⟨_, _, _, rfl, (row_nilL _ _ _ _ _), (row_nilL _ _ _ _ _), (row_nilL _ _ _ _ _), hB564⟩
          ·
           rw [hc549] at h548
           have hp565 : chkN (zT n42 n501 0) ≠ 0 := by first | simpa using hc549 | simpa [and_assoc] using hc549
           clear hc549
           refine co_true h548 rfl ?_
           refine co_seq ?_
           refine co_reg ?_
           refine pk0 (v := .agg #[.int .i64 0, .int .i64 0, .int .u64 0, .int .i64 0, .slice none 0 0, .int .u64 0, .slice none 0 0, .int .i64 0, .int .i64 0, .slice none 0 0, .int .u64 0, .int .i64 0, .int .u64 0, .int .i64 0, .int .i64 0, .int .i64 0, .int .i64 0, .int .i64 0]) h548 rfl fun a566 h566 => ?_; clear h548
           refine pk0 (v := .int .i64 (chkN (zT n42 n501 0))) h566 rfl fun a567 h567 => ?_; clear h566
           have hk573 := hk538.below hb544
           refine pwD h567 rfl (op_storeN rfl rfl rfl (all_cons rfl (all_cons rfl (all_cons rfl (all_cons rfl (all_cons rfl (all_cons rfl (all_cons rfl (all_cons rfl (all_cons rfl (all_cons rfl (all_cons rfl (all_cons rfl (all_cons rfl (all_cons rfl (all_cons rfl (all_cons rfl (all_cons rfl (all_cons rfl all_nil)))))))))))))))))) (by kernel_rfl) hk573 rfl) ?_; clear h567
           rintro _ w569 a568 ⟨hk570, hz571, hg572⟩ h568
           have hk570' : Blk w569 N3 73 #[.int .i64 0, .int .i64 0, .int .u64 0, .int .i64 0, .slice none 0 0, .int .u64 0, .slice none 0 0, .int .i64 0, .int .i64 0, .slice none 0 0, .int .u64 0, .int .i64 0, .int .u64 0, .int .i64 0, .int .i64 0, .int .i64 0, .int .i64 0, .int .i64 0] := hk570; clear hk570
           have hz574 := hg572.size
           refine pk0 (v := .int .i64 (chkN (zT n42 n501 0))) h568 rfl fun a575 h575 => ?_; clear h568
           refine pl_nil ?_
           refine co_then ?_
           refine wp_ret ?_
           refine co_thenR ?_
           refine co_retC1 (Q := fun _ _ _ => True) h575 rfl rfl rfl hk570' Try.underlying73 rfl (by kernel_rfl) ?_
           have hB576 := hb_at hB550 hg572 (by omega)
           have hrd := rd_5 (k := n42) (by omega) hq504
           cases hof.symm.trans (nOf_q hq45 (by omega) (by omega) hrd (nEnd_c (endV_0 hq524 (by assumption)) hq524 (by assumption) (by assumption)))
           exact ⟨_, _, _, rfl, (row_nilL _ _ _ _ _), (row_nilL _ _ _ _ _), (row_nilL _ _ _ _ _), hB576⟩
         ·
          rw [hc532] at h531
          have hp577 : r523 ≠ 0 := by first | simpa using hc532 | simpa [and_assoc] using hc532
          clear hc532
          refine co_true h531 rfl ?_
          refine co_seq ?_
          refine co_reg ?_
          refine pk0 (v := .agg #[.int .i64 0, .int .i64 0, .int .u64 0, .int .i64 0, .slice none 0 0, .int .u64 0, .slice none 0 0, .int .i64 0, .int .i64 0, .slice none 0 0, .int .u64 0, .int .i64 0, .int .u64 0, .int .i64 0, .int .i64 0, .int .i64 0, .int .i64 0, .int .i64 0]) h531 rfl fun a578 h578 => ?_; clear h531
          refine pk0 (v := .int .i64 r523) h578 rfl fun a579 h579 => ?_; clear h578
          refine pwD h579 rfl (op_storeN rfl rfl rfl (all_cons rfl (all_cons rfl (all_cons rfl (all_cons rfl (all_cons rfl (all_cons rfl (all_cons rfl (all_cons rfl (all_cons rfl (all_cons rfl (all_cons rfl (all_cons rfl (all_cons rfl (all_cons rfl (all_cons rfl (all_cons rfl (all_cons rfl (all_cons rfl all_nil)))))))))))))))))) (by kernel_rfl) hk538 rfl) ?_; clear h579
          rintro _ w581 a580 ⟨hk582, hz583, hg584⟩ h580
          have hk582' : Blk w581 N3 73 #[.int .i64 0, .int .i64 0, .int .u64 0, .int .i64 0, .slice none 0 0, .int .u64 0, .slice none 0 0, .int .i64 0, .int .i64 0, .slice none 0 0, .int .u64 0, .int .i64 0, .int .u64 0, .int .i64 0, .int .i64 0, .int .i64 0, .int .i64 0, .int .i64 0] := hk582; clear hk582
          have hz585 := hg584.size
          refine pk0 (v := .int .i64 r523) h580 rfl fun a586 h586 => ?_; clear h580
          refine pl_nil ?_
          refine co_then ?_
          refine wp_ret ?_
          refine co_thenR ?_
          refine co_retC1 (Q := fun _ _ _ => True) h586 rfl rfl rfl hk582' Try.underlying73 rfl (by kernel_rfl) ?_
          have hB587 := hb_at hB535 hg584 (by omega)
          have hrd := rd_5 (k := n42) (by omega) hq504
          cases hof.symm.trans (nOf_q hq45 (by omega) (by omega) hrd (nEnd_xx hq524 (by assumption)))
          exact ⟨_, _, _, rfl, (row_nilL _ _ _ _ _), (row_nilL _ _ _ _ _), (row_nilL _ _ _ _ _), hB587⟩
       ·
        rw [hc162] at h161
        have hp588 : n42 = 5 := by first | simpa using hc162 | simpa [and_assoc] using hc162
        clear hc162
        refine co_true h161 rfl ?_
        refine wp_skip ?_
        refine co_then ?_
        refine co_true h161 rfl ?_
        refine co_reg ?_
        refine pk0 (v := pt N14 0) h161 rfl fun a589 h589 => ?_; clear h161
        refine pw h589 rfl (op_call (args := #[pt N14 0, .int .i64 1073741824]) (R := fun res xw => ∃ (n : Int) (a' e' : Int), res = .int .i64 n ∧ numR s a43 e44 1073741824 = (n, a', e') ∧ 0 ≤ n ∧ n ≤ 1073741824 ∧ OXR N14 s a' e' xw ∧ w55.grownBy xw (some N14)) rfl rfl rfl (by kernel_rfl) (by kernel_rfl) (Try.call93 _ _) (oxr_num N14 s a43 e44 1073741824 w55 ho64 (by omega) (by omega) (by omega)) (by rintro q x ⟨n, a', e', rfl, h0, k0, k1, h1, h2⟩; exact ⟨_, rfl, n, a', e', rfl, h0, k0, k1, h1, h2⟩)) ?_; clear h589
        rintro _ w591 a590 ⟨n592, a593, e594, rfl, hq595, hn596, hm597, ho598, hg599⟩ h590
        have hz600 := hg599.size
        have hl601 := ho598.lt
        have k602 := numR_e hq595
        refine pk0 (v := pt N24 1) h590 rfl fun a603 h603 => ?_; clear h590
        have hk609 := hk56'.kept hg599 (by simp; omega)
        refine pwD h603 rfl (op_store1 rfl rfl rfl rfl Try.sizeOf3 hk609 rfl) ?_; clear h603
        rintro _ w605 a604 ⟨hk606, hz607, hg608⟩ h604
        have hk606' : Blk w605 N24 73 #[.int .i64 n42, .int .i64 n592, .int .u64 0, .int .i64 0, .slice none 0 0, .int .u64 0, .slice none 0 0, .int .i64 0, .int .i64 0, .slice none 0 0, .int .u64 0, .int .i64 0, .int .u64 0, .int .i64 0, .int .i64 0, .int .i64 0, .int .i64 0, .int .i64 0] := hk606; clear hk606
        have hz610 := hg608.size
        refine pl_nil ?_
        refine co_blockN ?_
        refine co_then ?_
        refine co_seq ?_
        refine co_seq ?_
        refine co_reg ?_
        refine pk0 (v := pt N14 0) h604 rfl fun a611 h611 => ?_; clear h604
        have ho617 := ho598.at (by omega) hg608
        refine pw h611 rfl (op_call (args := #[pt N14 0]) (R := fun res xw => ∃ r : Int, res = .int .i64 r ∧ endV s a593.toNat e594 = r ∧ Below w605.heap.size w605 xw) rfl rfl rfl (by kernel_rfl) (by kernel_rfl) (Try.call75 _ _) (oxr_end N14 s a593 e594 w605 ho617 (by omega)) (by rintro e x ⟨r, rfl, h0, h2⟩; exact ⟨_, rfl, r, rfl, h0, h2⟩)) ?_; clear h611
        rintro _ w613 a612 ⟨r614, rfl, hq615, hb616⟩ h612
        have hz618 := hb616.size
        have k619 : e594 ≠ 0 → r614 = e594 := fun he => by rw [← hq615]; exact endV_e he
        refine pk0 (v := .int .i64 r614) h612 rfl fun a620 h620 => ?_; clear h612
        refine pl_nil ?_
        refine co_then ?_
        refine co_seq ?_
        refine co_reg ?_
        refine pk0 (v := .int .i64 r614) h620 rfl fun a621 h621 => ?_; clear h620
        refine pk0 (v := .bool (r614 != 0)) h621 rfl fun a622 h622 => ?_; clear h621
        refine pl_nil ?_
        refine co_then ?_
        have hB624 := hb_at hB74 hg599 (by omega)
        have hB625 := hb_at hB624 hg608 (by omega)
        have hB626 := hb_call hB625 hb616
        have hk627 := hk79.kept hg599 (by simp; omega)
        have hk628 := hk627.kept hg608 (by simp; omega)
        have hk629 := hk628.below hb616
        cases hc623 : (r614 != 0)
        ·
         rw [hc623] at h622
         have hp630 : ¬ (r614 ≠ 0) := by first | simpa using hc623 | simpa [and_assoc] using hc623
         clear hc623
         refine co_false h622 rfl ?_
         refine wp_skip ?_
         refine co_then ?_
         refine co_seq ?_
         refine co_seq ?_
         refine co_reg ?_
         have hk631 := hk606'.below hb616
         refine pk (v := .agg #[.int .i64 n42, .int .i64 n592, .int .u64 0, .int .i64 0, .slice none 0 0, .int .u64 0, .slice none 0 0, .int .i64 0, .int .i64 0, .slice none 0 0, .int .u64 0, .int .i64 0, .int .u64 0, .int .i64 0, .int .i64 0, .int .i64 0, .int .i64 0, .int .i64 0]) h622 rfl (rn_loadN rfl rfl Try.underlying73 rfl (by kernel_rfl) hk631.all) fun a632 h632 => ?_; clear h622
         have hRd := rd_5 (k := n42) (by omega) hq595
         refine pw h632 rfl (op_call (args := #[.agg #[.int .i64 n42, .int .i64 n592, .int .u64 0, .int .i64 0, .slice none 0 0, .int .u64 0, .slice none 0 0, .int .i64 0, .int .i64 0, .slice none 0 0, .int .u64 0, .int .i64 0, .int .u64 0, .int .i64 0, .int .i64 0, .int .i64 0, .int .i64 0, .int .i64 0]]) (R := fun res xw => res = .int .i64 (chkN (zT n42 n592 0)) ∧ Below w613.heap.size w613 xw) rfl rfl rfl (by kernel_rfl) (by kernel_rfl) (Try.call95 _ _) (rnCheck_any (zT n42 n592 0) (.slice none 0 0) (.slice none 0 0) (.slice none 0 0) w613 (sl_nil _) (sl_nil _) (sl_nil _) (rdNote_R2 hRd)) (by rintro e x ⟨rfl, hb635⟩; exact ⟨_, rfl, ⟨rfl, hb635⟩⟩)) ?_; clear h632
         rintro _ w634 a633 ⟨rfl, hb635⟩ h633
         have hz636 := hb635.size
         refine pk0 (v := .int .i64 (chkN (zT n42 n592 0))) h633 rfl fun a637 h637 => ?_; clear h633
         refine pl_nil ?_
         refine co_then ?_
         refine co_seq ?_
         refine co_reg ?_
         refine pk0 (v := .int .i64 (chkN (zT n42 n592 0))) h637 rfl fun a638 h638 => ?_; clear h637
         refine pk0 (v := .bool (chkN (zT n42 n592 0) != 0)) h638 rfl fun a639 h639 => ?_; clear h638
         refine pl_nil ?_
         refine co_then ?_
         have hB641 := hb_call hB626 hb635
         have ho642 := ho617.below hb616
         have ho643 := ho642.below hb635
         cases hc640 : (chkN (zT n42 n592 0) != 0)
         ·
          rw [hc640] at h639
          have hp644 : ¬ (chkN (zT n42 n592 0) ≠ 0) := by first | simpa using hc640 | simpa [and_assoc] using hc640
          clear hc640
          refine co_false h639 rfl ?_
          refine wp_skip ?_
          refine co_then ?_
          refine co_seq ?_
          refine co_reg ?_
          have hk645 := hk631.below hb635
          refine pk (v := .agg #[.int .i64 n42, .int .i64 n592, .int .u64 0, .int .i64 0, .slice none 0 0, .int .u64 0, .slice none 0 0, .int .i64 0, .int .i64 0, .slice none 0 0, .int .u64 0, .int .i64 0, .int .u64 0, .int .i64 0, .int .i64 0, .int .i64 0, .int .i64 0, .int .i64 0]) h639 rfl (rn_loadN rfl rfl Try.underlying73 rfl (by kernel_rfl) hk645.all) fun a646 h646 => ?_; clear h639
          have hk652 := hk629.below hb635
          refine pwD h646 rfl (op_storeN rfl rfl rfl (all_cons rfl (all_cons rfl (all_cons rfl (all_cons rfl (all_cons rfl (all_cons rfl (all_cons rfl (all_cons rfl (all_cons rfl (all_cons rfl (all_cons rfl (all_cons rfl (all_cons rfl (all_cons rfl (all_cons rfl (all_cons rfl (all_cons rfl (all_cons rfl all_nil)))))))))))))))))) (by kernel_rfl) hk652 rfl) ?_; clear h646
          rintro _ w648 a647 ⟨hk649, hz650, hg651⟩ h647
          have hk649' : Blk w648 N3 73 #[.int .i64 n42, .int .i64 n592, .int .u64 0, .int .i64 0, .slice none 0 0, .int .u64 0, .slice none 0 0, .int .i64 0, .int .i64 0, .slice none 0 0, .int .u64 0, .int .i64 0, .int .u64 0, .int .i64 0, .int .i64 0, .int .i64 0, .int .i64 0, .int .i64 0] := hk649; clear hk649
          have hz653 := hg651.size
          refine pk0 (v := .int .i64 0) h647 rfl fun a654 h654 => ?_; clear h647
          refine pl_nil ?_
          refine co_then ?_
          refine wp_ret ?_
          refine co_retC1 (Q := fun _ _ _ => True) h654 rfl rfl rfl hk649' Try.underlying73 rfl (by kernel_rfl) ?_
          have hB655 := hb_at hB641 hg651 (by omega)
          have hrd := rd_5 (k := n42) (by omega) hq595
          cases hof.symm.trans (nOf_q hq45 (by omega) (by omega) hrd (nEnd_o (endV_0 hq615 (by assumption)) hq615 (by assumption) (by assumption)))
          exact ⟨_, _, _, rfl, (row_nilL _ _ _ _ _), (row_nilL _ _ _ _ _), (row_nilL _ _ _ _ _), hB655⟩
         ·
          rw [hc640] at h639
          have hp656 : chkN (zT n42 n592 0) ≠ 0 := by first | simpa using hc640 | simpa [and_assoc] using hc640
          clear hc640
          refine co_true h639 rfl ?_
          refine co_seq ?_
          refine co_reg ?_
          refine pk0 (v := .agg #[.int .i64 0, .int .i64 0, .int .u64 0, .int .i64 0, .slice none 0 0, .int .u64 0, .slice none 0 0, .int .i64 0, .int .i64 0, .slice none 0 0, .int .u64 0, .int .i64 0, .int .u64 0, .int .i64 0, .int .i64 0, .int .i64 0, .int .i64 0, .int .i64 0]) h639 rfl fun a657 h657 => ?_; clear h639
          refine pk0 (v := .int .i64 (chkN (zT n42 n592 0))) h657 rfl fun a658 h658 => ?_; clear h657
          have hk664 := hk629.below hb635
          refine pwD h658 rfl (op_storeN rfl rfl rfl (all_cons rfl (all_cons rfl (all_cons rfl (all_cons rfl (all_cons rfl (all_cons rfl (all_cons rfl (all_cons rfl (all_cons rfl (all_cons rfl (all_cons rfl (all_cons rfl (all_cons rfl (all_cons rfl (all_cons rfl (all_cons rfl (all_cons rfl (all_cons rfl all_nil)))))))))))))))))) (by kernel_rfl) hk664 rfl) ?_; clear h658
          rintro _ w660 a659 ⟨hk661, hz662, hg663⟩ h659
          have hk661' : Blk w660 N3 73 #[.int .i64 0, .int .i64 0, .int .u64 0, .int .i64 0, .slice none 0 0, .int .u64 0, .slice none 0 0, .int .i64 0, .int .i64 0, .slice none 0 0, .int .u64 0, .int .i64 0, .int .u64 0, .int .i64 0, .int .i64 0, .int .i64 0, .int .i64 0, .int .i64 0] := hk661; clear hk661
          have hz665 := hg663.size
          refine pk0 (v := .int .i64 (chkN (zT n42 n592 0))) h659 rfl fun a666 h666 => ?_; clear h659
          refine pl_nil ?_
          refine co_then ?_
          refine wp_ret ?_
          refine co_thenR ?_
          refine co_retC1 (Q := fun _ _ _ => True) h666 rfl rfl rfl hk661' Try.underlying73 rfl (by kernel_rfl) ?_
          have hB667 := hb_at hB641 hg663 (by omega)
          have hrd := rd_5 (k := n42) (by omega) hq595
          cases hof.symm.trans (nOf_q hq45 (by omega) (by omega) hrd (nEnd_c (endV_0 hq615 (by assumption)) hq615 (by assumption) (by assumption)))
          exact ⟨_, _, _, rfl, (row_nilL _ _ _ _ _), (row_nilL _ _ _ _ _), (row_nilL _ _ _ _ _), hB667⟩
        ·
         rw [hc623] at h622
         have hp668 : r614 ≠ 0 := by first | simpa using hc623 | simpa [and_assoc] using hc623
         clear hc623
         refine co_true h622 rfl ?_
         refine co_seq ?_
         refine co_reg ?_
         refine pk0 (v := .agg #[.int .i64 0, .int .i64 0, .int .u64 0, .int .i64 0, .slice none 0 0, .int .u64 0, .slice none 0 0, .int .i64 0, .int .i64 0, .slice none 0 0, .int .u64 0, .int .i64 0, .int .u64 0, .int .i64 0, .int .i64 0, .int .i64 0, .int .i64 0, .int .i64 0]) h622 rfl fun a669 h669 => ?_; clear h622
         refine pk0 (v := .int .i64 r614) h669 rfl fun a670 h670 => ?_; clear h669
         refine pwD h670 rfl (op_storeN rfl rfl rfl (all_cons rfl (all_cons rfl (all_cons rfl (all_cons rfl (all_cons rfl (all_cons rfl (all_cons rfl (all_cons rfl (all_cons rfl (all_cons rfl (all_cons rfl (all_cons rfl (all_cons rfl (all_cons rfl (all_cons rfl (all_cons rfl (all_cons rfl (all_cons rfl all_nil)))))))))))))))))) (by kernel_rfl) hk629 rfl) ?_; clear h670
         rintro _ w672 a671 ⟨hk673, hz674, hg675⟩ h671
         have hk673' : Blk w672 N3 73 #[.int .i64 0, .int .i64 0, .int .u64 0, .int .i64 0, .slice none 0 0, .int .u64 0, .slice none 0 0, .int .i64 0, .int .i64 0, .slice none 0 0, .int .u64 0, .int .i64 0, .int .u64 0, .int .i64 0, .int .i64 0, .int .i64 0, .int .i64 0, .int .i64 0] := hk673; clear hk673
         have hz676 := hg675.size
         refine pk0 (v := .int .i64 r614) h671 rfl fun a677 h677 => ?_; clear h671
         refine pl_nil ?_
         refine co_then ?_
         refine wp_ret ?_
         refine co_thenR ?_
         refine co_retC1 (Q := fun _ _ _ => True) h677 rfl rfl rfl hk673' Try.underlying73 rfl (by kernel_rfl) ?_
         have hB678 := hb_at hB626 hg675 (by omega)
         have hrd := rd_5 (k := n42) (by omega) hq595
         cases hof.symm.trans (nOf_q hq45 (by omega) (by omega) hrd (nEnd_xx hq615 (by assumption)))
         exact ⟨_, _, _, rfl, (row_nilL _ _ _ _ _), (row_nilL _ _ _ _ _), (row_nilL _ _ _ _ _), hB678⟩
      ·
       rw [hc158] at h157
       have hp679 : n42 = 4 := by first | simpa using hc158 | simpa [and_assoc] using hc158
       clear hc158
       refine co_true h157 rfl ?_
       refine co_seq ?_
       refine co_reg ?_
       refine pk0 (v := pt N14 0) h157 rfl fun a680 h680 => ?_; clear h157
       refine pw h680 rfl (op_call (args := #[pt N14 0]) (R := fun res xw => ∃ (n : Int) (a' e' : Int), res = .int .u64 n ∧ bigR s a43 e44 = (n, a', e') ∧ 0 ≤ n ∧ n < 18446744073709551616 ∧ OXR N14 s a' e' xw ∧ w55.grownBy xw (some N14)) rfl rfl rfl (by kernel_rfl) (by kernel_rfl) (Try.call73 _ _) (oxr_big N14 s a43 e44 w55 ho64 (by omega)) (by rintro q x ⟨n, a', e', rfl, h0, k0, k1, h1, h2⟩; exact ⟨_, rfl, n, a', e', rfl, h0, k0, k1, h1, h2⟩)) ?_; clear h680
       rintro _ w682 a681 ⟨n683, a684, e685, rfl, hq686, hn687, hm688, ho689, hg690⟩ h681
       have hz691 := hg690.size
       have hl692 := ho689.lt
       refine pk0 (v := pt N24 2) h681 rfl fun a693 h693 => ?_; clear h681
       have hk699 := hk56'.kept hg690 (by simp; omega)
       refine pwD h693 rfl (op_store1 rfl rfl rfl rfl Try.sizeOf32 hk699 rfl) ?_; clear h693
       rintro _ w695 a694 ⟨hk696, hz697, hg698⟩ h694
       have hk696' : Blk w695 N24 73 #[.int .i64 n42, .int .i64 0, .int .u64 n683, .int .i64 0, .slice none 0 0, .int .u64 0, .slice none 0 0, .int .i64 0, .int .i64 0, .slice none 0 0, .int .u64 0, .int .i64 0, .int .u64 0, .int .i64 0, .int .i64 0, .int .i64 0, .int .i64 0, .int .i64 0] := hk696; clear hk696
       have hz700 := hg698.size
       refine pl_nil ?_
       refine co_then ?_
       refine co_reg ?_
       refine pk0 (v := pt N14 0) h694 rfl fun a701 h701 => ?_; clear h694
       have ho712 := ho689.at (by omega) hg698
       refine pw h701 rfl (op_call (args := #[pt N14 0, .int .i64 1073741824]) (R := fun res xw => ∃ (n : Int) (a' e' : Int), res = .int .i64 n ∧ numR s a684 e685 1073741824 = (n, a', e') ∧ 0 ≤ n ∧ n ≤ 1073741824 ∧ OXR N14 s a' e' xw ∧ w695.grownBy xw (some N14)) rfl rfl rfl (by kernel_rfl) (by kernel_rfl) (Try.call93 _ _) (oxr_num N14 s a684 e685 1073741824 w695 ho712 (by omega) (by omega) (by omega)) (by rintro q x ⟨n, a', e', rfl, h0, k0, k1, h1, h2⟩; exact ⟨_, rfl, n, a', e', rfl, h0, k0, k1, h1, h2⟩)) ?_; clear h701
       rintro _ w703 a702 ⟨n704, a705, e706, rfl, hq707, hn708, hm709, ho710, hg711⟩ h702
       have hz713 := hg711.size
       have hl714 := ho710.lt
       have k715 := numR_e hq707
       refine pk0 (v := pt N24 1) h702 rfl fun a716 h716 => ?_; clear h702
       have hk722 := hk696'.kept hg711 (by simp; omega)
       refine pwD h716 rfl (op_store1 rfl rfl rfl rfl Try.sizeOf3 hk722 rfl) ?_; clear h716
       rintro _ w718 a717 ⟨hk719, hz720, hg721⟩ h717
       have hk719' : Blk w718 N24 73 #[.int .i64 n42, .int .i64 n704, .int .u64 n683, .int .i64 0, .slice none 0 0, .int .u64 0, .slice none 0 0, .int .i64 0, .int .i64 0, .slice none 0 0, .int .u64 0, .int .i64 0, .int .u64 0, .int .i64 0, .int .i64 0, .int .i64 0, .int .i64 0, .int .i64 0] := hk719; clear hk719
       have hz723 := hg721.size
       refine pl_nil ?_
       refine co_blockN ?_
       refine co_then ?_
       refine co_seq ?_
       refine co_seq ?_
       refine co_reg ?_
       refine pk0 (v := pt N14 0) h717 rfl fun a724 h724 => ?_; clear h717
       have ho730 := ho710.at (by omega) hg721
       refine pw h724 rfl (op_call (args := #[pt N14 0]) (R := fun res xw => ∃ r : Int, res = .int .i64 r ∧ endV s a705.toNat e706 = r ∧ Below w718.heap.size w718 xw) rfl rfl rfl (by kernel_rfl) (by kernel_rfl) (Try.call75 _ _) (oxr_end N14 s a705 e706 w718 ho730 (by omega)) (by rintro e x ⟨r, rfl, h0, h2⟩; exact ⟨_, rfl, r, rfl, h0, h2⟩)) ?_; clear h724
       rintro _ w726 a725 ⟨r727, rfl, hq728, hb729⟩ h725
       have hz731 := hb729.size
       have k732 : e706 ≠ 0 → r727 = e706 := fun he => by rw [← hq728]; exact endV_e he
       refine pk0 (v := .int .i64 r727) h725 rfl fun a733 h733 => ?_; clear h725
       refine pl_nil ?_
       refine co_then ?_
       refine co_seq ?_
       refine co_reg ?_
       refine pk0 (v := .int .i64 r727) h733 rfl fun a734 h734 => ?_; clear h733
       refine pk0 (v := .bool (r727 != 0)) h734 rfl fun a735 h735 => ?_; clear h734
       refine pl_nil ?_
       refine co_then ?_
       have hB737 := hb_at hB74 hg690 (by omega)
       have hB738 := hb_at hB737 hg698 (by omega)
       have hB739 := hb_at hB738 hg711 (by omega)
       have hB740 := hb_at hB739 hg721 (by omega)
       have hB741 := hb_call hB740 hb729
       have hk742 := hk79.kept hg690 (by simp; omega)
       have hk743 := hk742.kept hg698 (by simp; omega)
       have hk744 := hk743.kept hg711 (by simp; omega)
       have hk745 := hk744.kept hg721 (by simp; omega)
       have hk746 := hk745.below hb729
       cases hc736 : (r727 != 0)
       ·
        rw [hc736] at h735
        have hp747 : ¬ (r727 ≠ 0) := by first | simpa using hc736 | simpa [and_assoc] using hc736
        clear hc736
        refine co_false h735 rfl ?_
        refine wp_skip ?_
        refine co_then ?_
        refine co_seq ?_
        refine co_seq ?_
        refine co_reg ?_
        have hk748 := hk719'.below hb729
        refine pk (v := .agg #[.int .i64 n42, .int .i64 n704, .int .u64 n683, .int .i64 0, .slice none 0 0, .int .u64 0, .slice none 0 0, .int .i64 0, .int .i64 0, .slice none 0 0, .int .u64 0, .int .i64 0, .int .u64 0, .int .i64 0, .int .i64 0, .int .i64 0, .int .i64 0, .int .i64 0]) h735 rfl (rn_loadN rfl rfl Try.underlying73 rfl (by kernel_rfl) hk748.all) fun a749 h749 => ?_; clear h735
        have hRd := rd_4 (k := n42) (by omega) hq686 hq707
        refine pw h749 rfl (op_call (args := #[.agg #[.int .i64 n42, .int .i64 n704, .int .u64 n683, .int .i64 0, .slice none 0 0, .int .u64 0, .slice none 0 0, .int .i64 0, .int .i64 0, .slice none 0 0, .int .u64 0, .int .i64 0, .int .u64 0, .int .i64 0, .int .i64 0, .int .i64 0, .int .i64 0, .int .i64 0]]) (R := fun res xw => res = .int .i64 (chkN (zT n42 n704 n683)) ∧ Below w726.heap.size w726 xw) rfl rfl rfl (by kernel_rfl) (by kernel_rfl) (Try.call95 _ _) (rnCheck_any (zT n42 n704 n683) (.slice none 0 0) (.slice none 0 0) (.slice none 0 0) w726 (sl_nil _) (sl_nil _) (sl_nil _) (rdNote_R2 hRd)) (by rintro e x ⟨rfl, hb752⟩; exact ⟨_, rfl, ⟨rfl, hb752⟩⟩)) ?_; clear h749
        rintro _ w751 a750 ⟨rfl, hb752⟩ h750
        have hz753 := hb752.size
        refine pk0 (v := .int .i64 (chkN (zT n42 n704 n683))) h750 rfl fun a754 h754 => ?_; clear h750
        refine pl_nil ?_
        refine co_then ?_
        refine co_seq ?_
        refine co_reg ?_
        refine pk0 (v := .int .i64 (chkN (zT n42 n704 n683))) h754 rfl fun a755 h755 => ?_; clear h754
        refine pk0 (v := .bool (chkN (zT n42 n704 n683) != 0)) h755 rfl fun a756 h756 => ?_; clear h755
        refine pl_nil ?_
        refine co_then ?_
        have hB758 := hb_call hB741 hb752
        have ho759 := ho730.below hb729
        have ho760 := ho759.below hb752
        cases hc757 : (chkN (zT n42 n704 n683) != 0)
        ·
         rw [hc757] at h756
         have hp761 : ¬ (chkN (zT n42 n704 n683) ≠ 0) := by first | simpa using hc757 | simpa [and_assoc] using hc757
         clear hc757
         refine co_false h756 rfl ?_
         refine wp_skip ?_
         refine co_then ?_
         refine co_seq ?_
         refine co_reg ?_
         have hk762 := hk748.below hb752
         refine pk (v := .agg #[.int .i64 n42, .int .i64 n704, .int .u64 n683, .int .i64 0, .slice none 0 0, .int .u64 0, .slice none 0 0, .int .i64 0, .int .i64 0, .slice none 0 0, .int .u64 0, .int .i64 0, .int .u64 0, .int .i64 0, .int .i64 0, .int .i64 0, .int .i64 0, .int .i64 0]) h756 rfl (rn_loadN rfl rfl Try.underlying73 rfl (by kernel_rfl) hk762.all) fun a763 h763 => ?_; clear h756
         have hk769 := hk746.below hb752
         refine pwD h763 rfl (op_storeN rfl rfl rfl (all_cons rfl (all_cons rfl (all_cons rfl (all_cons rfl (all_cons rfl (all_cons rfl (all_cons rfl (all_cons rfl (all_cons rfl (all_cons rfl (all_cons rfl (all_cons rfl (all_cons rfl (all_cons rfl (all_cons rfl (all_cons rfl (all_cons rfl (all_cons rfl all_nil)))))))))))))))))) (by kernel_rfl) hk769 rfl) ?_; clear h763
         rintro _ w765 a764 ⟨hk766, hz767, hg768⟩ h764
         have hk766' : Blk w765 N3 73 #[.int .i64 n42, .int .i64 n704, .int .u64 n683, .int .i64 0, .slice none 0 0, .int .u64 0, .slice none 0 0, .int .i64 0, .int .i64 0, .slice none 0 0, .int .u64 0, .int .i64 0, .int .u64 0, .int .i64 0, .int .i64 0, .int .i64 0, .int .i64 0, .int .i64 0] := hk766; clear hk766
         have hz770 := hg768.size
         refine pk0 (v := .int .i64 0) h764 rfl fun a771 h771 => ?_; clear h764
         refine pl_nil ?_
         refine co_then ?_
         refine wp_ret ?_
         refine co_retC1 (Q := fun _ _ _ => True) h771 rfl rfl rfl hk766' Try.underlying73 rfl (by kernel_rfl) ?_
         have hB772 := hb_at hB758 hg768 (by omega)
         have hrd := rd_4 (k := n42) (by omega) hq686 hq707
         cases hof.symm.trans (nOf_q hq45 (by omega) (by omega) hrd (nEnd_o (endV_0 hq728 (by assumption)) hq728 (by assumption) (by assumption)))
         exact ⟨_, _, _, rfl, (row_nilL _ _ _ _ _), (row_nilL _ _ _ _ _), (row_nilL _ _ _ _ _), hB772⟩
        ·
         rw [hc757] at h756
         have hp773 : chkN (zT n42 n704 n683) ≠ 0 := by first | simpa using hc757 | simpa [and_assoc] using hc757
         clear hc757
         refine co_true h756 rfl ?_
         refine co_seq ?_
         refine co_reg ?_
         refine pk0 (v := .agg #[.int .i64 0, .int .i64 0, .int .u64 0, .int .i64 0, .slice none 0 0, .int .u64 0, .slice none 0 0, .int .i64 0, .int .i64 0, .slice none 0 0, .int .u64 0, .int .i64 0, .int .u64 0, .int .i64 0, .int .i64 0, .int .i64 0, .int .i64 0, .int .i64 0]) h756 rfl fun a774 h774 => ?_; clear h756
         refine pk0 (v := .int .i64 (chkN (zT n42 n704 n683))) h774 rfl fun a775 h775 => ?_; clear h774
         have hk781 := hk746.below hb752
         refine pwD h775 rfl (op_storeN rfl rfl rfl (all_cons rfl (all_cons rfl (all_cons rfl (all_cons rfl (all_cons rfl (all_cons rfl (all_cons rfl (all_cons rfl (all_cons rfl (all_cons rfl (all_cons rfl (all_cons rfl (all_cons rfl (all_cons rfl (all_cons rfl (all_cons rfl (all_cons rfl (all_cons rfl all_nil)))))))))))))))))) (by kernel_rfl) hk781 rfl) ?_; clear h775
         rintro _ w777 a776 ⟨hk778, hz779, hg780⟩ h776
         have hk778' : Blk w777 N3 73 #[.int .i64 0, .int .i64 0, .int .u64 0, .int .i64 0, .slice none 0 0, .int .u64 0, .slice none 0 0, .int .i64 0, .int .i64 0, .slice none 0 0, .int .u64 0, .int .i64 0, .int .u64 0, .int .i64 0, .int .i64 0, .int .i64 0, .int .i64 0, .int .i64 0] := hk778; clear hk778
         have hz782 := hg780.size
         refine pk0 (v := .int .i64 (chkN (zT n42 n704 n683))) h776 rfl fun a783 h783 => ?_; clear h776
         refine pl_nil ?_
         refine co_then ?_
         refine wp_ret ?_
         refine co_thenR ?_
         refine co_retC1 (Q := fun _ _ _ => True) h783 rfl rfl rfl hk778' Try.underlying73 rfl (by kernel_rfl) ?_
         have hB784 := hb_at hB758 hg780 (by omega)
         have hrd := rd_4 (k := n42) (by omega) hq686 hq707
         cases hof.symm.trans (nOf_q hq45 (by omega) (by omega) hrd (nEnd_c (endV_0 hq728 (by assumption)) hq728 (by assumption) (by assumption)))
         exact ⟨_, _, _, rfl, (row_nilL _ _ _ _ _), (row_nilL _ _ _ _ _), (row_nilL _ _ _ _ _), hB784⟩
       ·
        rw [hc736] at h735
        have hp785 : r727 ≠ 0 := by first | simpa using hc736 | simpa [and_assoc] using hc736
        clear hc736
        refine co_true h735 rfl ?_
        refine co_seq ?_
        refine co_reg ?_
        refine pk0 (v := .agg #[.int .i64 0, .int .i64 0, .int .u64 0, .int .i64 0, .slice none 0 0, .int .u64 0, .slice none 0 0, .int .i64 0, .int .i64 0, .slice none 0 0, .int .u64 0, .int .i64 0, .int .u64 0, .int .i64 0, .int .i64 0, .int .i64 0, .int .i64 0, .int .i64 0]) h735 rfl fun a786 h786 => ?_; clear h735
        refine pk0 (v := .int .i64 r727) h786 rfl fun a787 h787 => ?_; clear h786
        refine pwD h787 rfl (op_storeN rfl rfl rfl (all_cons rfl (all_cons rfl (all_cons rfl (all_cons rfl (all_cons rfl (all_cons rfl (all_cons rfl (all_cons rfl (all_cons rfl (all_cons rfl (all_cons rfl (all_cons rfl (all_cons rfl (all_cons rfl (all_cons rfl (all_cons rfl (all_cons rfl (all_cons rfl all_nil)))))))))))))))))) (by kernel_rfl) hk746 rfl) ?_; clear h787
        rintro _ w789 a788 ⟨hk790, hz791, hg792⟩ h788
        have hk790' : Blk w789 N3 73 #[.int .i64 0, .int .i64 0, .int .u64 0, .int .i64 0, .slice none 0 0, .int .u64 0, .slice none 0 0, .int .i64 0, .int .i64 0, .slice none 0 0, .int .u64 0, .int .i64 0, .int .u64 0, .int .i64 0, .int .i64 0, .int .i64 0, .int .i64 0, .int .i64 0] := hk790; clear hk790
        have hz793 := hg792.size
        refine pk0 (v := .int .i64 r727) h788 rfl fun a794 h794 => ?_; clear h788
        refine pl_nil ?_
        refine co_then ?_
        refine wp_ret ?_
        refine co_thenR ?_
        refine co_retC1 (Q := fun _ _ _ => True) h794 rfl rfl rfl hk790' Try.underlying73 rfl (by kernel_rfl) ?_
        have hB795 := hb_at hB741 hg792 (by omega)
        have hrd := rd_4 (k := n42) (by omega) hq686 hq707
        cases hof.symm.trans (nOf_q hq45 (by omega) (by omega) hrd (nEnd_xx hq728 (by assumption)))
        exact ⟨_, _, _, rfl, (row_nilL _ _ _ _ _), (row_nilL _ _ _ _ _), (row_nilL _ _ _ _ _), hB795⟩
     ·
      rw [hc154] at h153
      have hp796 : n42 = 3 := by first | simpa using hc154 | simpa [and_assoc] using hc154
      clear hc154
      refine co_true h153 rfl ?_
      refine co_seq ?_
      refine co_reg ?_
      refine pk0 (v := pt N14 0) h153 rfl fun a797 h797 => ?_; clear h153
      refine pw h797 rfl (op_call (args := #[pt N14 0, .int .i64 1073741824]) (R := fun res xw => ∃ (n : Int) (a' e' : Int), res = .int .i64 n ∧ numR s a43 e44 1073741824 = (n, a', e') ∧ 0 ≤ n ∧ n ≤ 1073741824 ∧ OXR N14 s a' e' xw ∧ w55.grownBy xw (some N14)) rfl rfl rfl (by kernel_rfl) (by kernel_rfl) (Try.call93 _ _) (oxr_num N14 s a43 e44 1073741824 w55 ho64 (by omega) (by omega) (by omega)) (by rintro q x ⟨n, a', e', rfl, h0, k0, k1, h1, h2⟩; exact ⟨_, rfl, n, a', e', rfl, h0, k0, k1, h1, h2⟩)) ?_; clear h797
      rintro _ w799 a798 ⟨n800, a801, e802, rfl, hq803, hn804, hm805, ho806, hg807⟩ h798
      have hz808 := hg807.size
      have hl809 := ho806.lt
      have k810 := numR_e hq803
      refine pk0 (v := pt N24 1) h798 rfl fun a811 h811 => ?_; clear h798
      have hk817 := hk56'.kept hg807 (by simp; omega)
      refine pwD h811 rfl (op_store1 rfl rfl rfl rfl Try.sizeOf3 hk817 rfl) ?_; clear h811
      rintro _ w813 a812 ⟨hk814, hz815, hg816⟩ h812
      have hk814' : Blk w813 N24 73 #[.int .i64 n42, .int .i64 n800, .int .u64 0, .int .i64 0, .slice none 0 0, .int .u64 0, .slice none 0 0, .int .i64 0, .int .i64 0, .slice none 0 0, .int .u64 0, .int .i64 0, .int .u64 0, .int .i64 0, .int .i64 0, .int .i64 0, .int .i64 0, .int .i64 0] := hk814; clear hk814
      have hz818 := hg816.size
      refine pl_nil ?_
      refine co_then ?_
      refine co_reg ?_
      refine pk0 (v := pt N14 0) h812 rfl fun a819 h819 => ?_; clear h812
      have ho830 := ho806.at (by omega) hg816
      refine pw h819 rfl (op_call (args := #[pt N14 0]) (R := fun res xw => ∃ (n : Int) (a' e' : Int), res = .int .u64 n ∧ bigR s a801 e802 = (n, a', e') ∧ 0 ≤ n ∧ n < 18446744073709551616 ∧ OXR N14 s a' e' xw ∧ w813.grownBy xw (some N14)) rfl rfl rfl (by kernel_rfl) (by kernel_rfl) (Try.call73 _ _) (oxr_big N14 s a801 e802 w813 ho830 (by omega)) (by rintro q x ⟨n, a', e', rfl, h0, k0, k1, h1, h2⟩; exact ⟨_, rfl, n, a', e', rfl, h0, k0, k1, h1, h2⟩)) ?_; clear h819
      rintro _ w821 a820 ⟨n822, a823, e824, rfl, hq825, hn826, hm827, ho828, hg829⟩ h820
      have hz831 := hg829.size
      have hl832 := ho828.lt
      refine pk0 (v := pt N24 2) h820 rfl fun a833 h833 => ?_; clear h820
      have hk839 := hk814'.kept hg829 (by simp; omega)
      refine pwD h833 rfl (op_store1 rfl rfl rfl rfl Try.sizeOf32 hk839 rfl) ?_; clear h833
      rintro _ w835 a834 ⟨hk836, hz837, hg838⟩ h834
      have hk836' : Blk w835 N24 73 #[.int .i64 n42, .int .i64 n800, .int .u64 n822, .int .i64 0, .slice none 0 0, .int .u64 0, .slice none 0 0, .int .i64 0, .int .i64 0, .slice none 0 0, .int .u64 0, .int .i64 0, .int .u64 0, .int .i64 0, .int .i64 0, .int .i64 0, .int .i64 0, .int .i64 0] := hk836; clear hk836
      have hz840 := hg838.size
      refine pl_nil ?_
      refine co_blockN ?_
      refine co_then ?_
      refine co_seq ?_
      refine co_seq ?_
      refine co_reg ?_
      refine pk0 (v := pt N14 0) h834 rfl fun a841 h841 => ?_; clear h834
      have ho847 := ho828.at (by omega) hg838
      refine pw h841 rfl (op_call (args := #[pt N14 0]) (R := fun res xw => ∃ r : Int, res = .int .i64 r ∧ endV s a823.toNat e824 = r ∧ Below w835.heap.size w835 xw) rfl rfl rfl (by kernel_rfl) (by kernel_rfl) (Try.call75 _ _) (oxr_end N14 s a823 e824 w835 ho847 (by omega)) (by rintro e x ⟨r, rfl, h0, h2⟩; exact ⟨_, rfl, r, rfl, h0, h2⟩)) ?_; clear h841
      rintro _ w843 a842 ⟨r844, rfl, hq845, hb846⟩ h842
      have hz848 := hb846.size
      have k849 : e824 ≠ 0 → r844 = e824 := fun he => by rw [← hq845]; exact endV_e he
      refine pk0 (v := .int .i64 r844) h842 rfl fun a850 h850 => ?_; clear h842
      refine pl_nil ?_
      refine co_then ?_
      refine co_seq ?_
      refine co_reg ?_
      refine pk0 (v := .int .i64 r844) h850 rfl fun a851 h851 => ?_; clear h850
      refine pk0 (v := .bool (r844 != 0)) h851 rfl fun a852 h852 => ?_; clear h851
      refine pl_nil ?_
      refine co_then ?_
      have hB854 := hb_at hB74 hg807 (by omega)
      have hB855 := hb_at hB854 hg816 (by omega)
      have hB856 := hb_at hB855 hg829 (by omega)
      have hB857 := hb_at hB856 hg838 (by omega)
      have hB858 := hb_call hB857 hb846
      have hk859 := hk79.kept hg807 (by simp; omega)
      have hk860 := hk859.kept hg816 (by simp; omega)
      have hk861 := hk860.kept hg829 (by simp; omega)
      have hk862 := hk861.kept hg838 (by simp; omega)
      have hk863 := hk862.below hb846
      cases hc853 : (r844 != 0)
      ·
       rw [hc853] at h852
       have hp864 : ¬ (r844 ≠ 0) := by first | simpa using hc853 | simpa [and_assoc] using hc853
       clear hc853
       refine co_false h852 rfl ?_
       refine wp_skip ?_
       refine co_then ?_
       refine co_seq ?_
       refine co_seq ?_
       refine co_reg ?_
       have hk865 := hk836'.below hb846
       refine pk (v := .agg #[.int .i64 n42, .int .i64 n800, .int .u64 n822, .int .i64 0, .slice none 0 0, .int .u64 0, .slice none 0 0, .int .i64 0, .int .i64 0, .slice none 0 0, .int .u64 0, .int .i64 0, .int .u64 0, .int .i64 0, .int .i64 0, .int .i64 0, .int .i64 0, .int .i64 0]) h852 rfl (rn_loadN rfl rfl Try.underlying73 rfl (by kernel_rfl) hk865.all) fun a866 h866 => ?_; clear h852
       have hRd := rd_3 (k := n42) (by omega) hq803 hq825
       refine pw h866 rfl (op_call (args := #[.agg #[.int .i64 n42, .int .i64 n800, .int .u64 n822, .int .i64 0, .slice none 0 0, .int .u64 0, .slice none 0 0, .int .i64 0, .int .i64 0, .slice none 0 0, .int .u64 0, .int .i64 0, .int .u64 0, .int .i64 0, .int .i64 0, .int .i64 0, .int .i64 0, .int .i64 0]]) (R := fun res xw => res = .int .i64 (chkN (zT n42 n800 n822)) ∧ Below w843.heap.size w843 xw) rfl rfl rfl (by kernel_rfl) (by kernel_rfl) (Try.call95 _ _) (rnCheck_any (zT n42 n800 n822) (.slice none 0 0) (.slice none 0 0) (.slice none 0 0) w843 (sl_nil _) (sl_nil _) (sl_nil _) (rdNote_R2 hRd)) (by rintro e x ⟨rfl, hb869⟩; exact ⟨_, rfl, ⟨rfl, hb869⟩⟩)) ?_; clear h866
       rintro _ w868 a867 ⟨rfl, hb869⟩ h867
       have hz870 := hb869.size
       refine pk0 (v := .int .i64 (chkN (zT n42 n800 n822))) h867 rfl fun a871 h871 => ?_; clear h867
       refine pl_nil ?_
       refine co_then ?_
       refine co_seq ?_
       refine co_reg ?_
       refine pk0 (v := .int .i64 (chkN (zT n42 n800 n822))) h871 rfl fun a872 h872 => ?_; clear h871
       refine pk0 (v := .bool (chkN (zT n42 n800 n822) != 0)) h872 rfl fun a873 h873 => ?_; clear h872
       refine pl_nil ?_
       refine co_then ?_
       have hB875 := hb_call hB858 hb869
       have ho876 := ho847.below hb846
       have ho877 := ho876.below hb869
       cases hc874 : (chkN (zT n42 n800 n822) != 0)
       ·
        rw [hc874] at h873
        have hp878 : ¬ (chkN (zT n42 n800 n822) ≠ 0) := by first | simpa using hc874 | simpa [and_assoc] using hc874
        clear hc874
        refine co_false h873 rfl ?_
        refine wp_skip ?_
        refine co_then ?_
        refine co_seq ?_
        refine co_reg ?_
        have hk879 := hk865.below hb869
        refine pk (v := .agg #[.int .i64 n42, .int .i64 n800, .int .u64 n822, .int .i64 0, .slice none 0 0, .int .u64 0, .slice none 0 0, .int .i64 0, .int .i64 0, .slice none 0 0, .int .u64 0, .int .i64 0, .int .u64 0, .int .i64 0, .int .i64 0, .int .i64 0, .int .i64 0, .int .i64 0]) h873 rfl (rn_loadN rfl rfl Try.underlying73 rfl (by kernel_rfl) hk879.all) fun a880 h880 => ?_; clear h873
        have hk886 := hk863.below hb869
        refine pwD h880 rfl (op_storeN rfl rfl rfl (all_cons rfl (all_cons rfl (all_cons rfl (all_cons rfl (all_cons rfl (all_cons rfl (all_cons rfl (all_cons rfl (all_cons rfl (all_cons rfl (all_cons rfl (all_cons rfl (all_cons rfl (all_cons rfl (all_cons rfl (all_cons rfl (all_cons rfl (all_cons rfl all_nil)))))))))))))))))) (by kernel_rfl) hk886 rfl) ?_; clear h880
        rintro _ w882 a881 ⟨hk883, hz884, hg885⟩ h881
        have hk883' : Blk w882 N3 73 #[.int .i64 n42, .int .i64 n800, .int .u64 n822, .int .i64 0, .slice none 0 0, .int .u64 0, .slice none 0 0, .int .i64 0, .int .i64 0, .slice none 0 0, .int .u64 0, .int .i64 0, .int .u64 0, .int .i64 0, .int .i64 0, .int .i64 0, .int .i64 0, .int .i64 0] := hk883; clear hk883
        have hz887 := hg885.size
        refine pk0 (v := .int .i64 0) h881 rfl fun a888 h888 => ?_; clear h881
        refine pl_nil ?_
        refine co_then ?_
        refine wp_ret ?_
        refine co_retC1 (Q := fun _ _ _ => True) h888 rfl rfl rfl hk883' Try.underlying73 rfl (by kernel_rfl) ?_
        have hB889 := hb_at hB875 hg885 (by omega)
        have hrd := rd_3 (k := n42) (by omega) hq803 hq825
        cases hof.symm.trans (nOf_q hq45 (by omega) (by omega) hrd (nEnd_o (endV_0 hq845 (by assumption)) hq845 (by assumption) (by assumption)))
        exact ⟨_, _, _, rfl, (row_nilL _ _ _ _ _), (row_nilL _ _ _ _ _), (row_nilL _ _ _ _ _), hB889⟩
       ·
        rw [hc874] at h873
        have hp890 : chkN (zT n42 n800 n822) ≠ 0 := by first | simpa using hc874 | simpa [and_assoc] using hc874
        clear hc874
        refine co_true h873 rfl ?_
        refine co_seq ?_
        refine co_reg ?_
        refine pk0 (v := .agg #[.int .i64 0, .int .i64 0, .int .u64 0, .int .i64 0, .slice none 0 0, .int .u64 0, .slice none 0 0, .int .i64 0, .int .i64 0, .slice none 0 0, .int .u64 0, .int .i64 0, .int .u64 0, .int .i64 0, .int .i64 0, .int .i64 0, .int .i64 0, .int .i64 0]) h873 rfl fun a891 h891 => ?_; clear h873
        refine pk0 (v := .int .i64 (chkN (zT n42 n800 n822))) h891 rfl fun a892 h892 => ?_; clear h891
        have hk898 := hk863.below hb869
        refine pwD h892 rfl (op_storeN rfl rfl rfl (all_cons rfl (all_cons rfl (all_cons rfl (all_cons rfl (all_cons rfl (all_cons rfl (all_cons rfl (all_cons rfl (all_cons rfl (all_cons rfl (all_cons rfl (all_cons rfl (all_cons rfl (all_cons rfl (all_cons rfl (all_cons rfl (all_cons rfl (all_cons rfl all_nil)))))))))))))))))) (by kernel_rfl) hk898 rfl) ?_; clear h892
        rintro _ w894 a893 ⟨hk895, hz896, hg897⟩ h893
        have hk895' : Blk w894 N3 73 #[.int .i64 0, .int .i64 0, .int .u64 0, .int .i64 0, .slice none 0 0, .int .u64 0, .slice none 0 0, .int .i64 0, .int .i64 0, .slice none 0 0, .int .u64 0, .int .i64 0, .int .u64 0, .int .i64 0, .int .i64 0, .int .i64 0, .int .i64 0, .int .i64 0] := hk895; clear hk895
        have hz899 := hg897.size
        refine pk0 (v := .int .i64 (chkN (zT n42 n800 n822))) h893 rfl fun a900 h900 => ?_; clear h893
        refine pl_nil ?_
        refine co_then ?_
        refine wp_ret ?_
        refine co_thenR ?_
        refine co_retC1 (Q := fun _ _ _ => True) h900 rfl rfl rfl hk895' Try.underlying73 rfl (by kernel_rfl) ?_
        have hB901 := hb_at hB875 hg897 (by omega)
        have hrd := rd_3 (k := n42) (by omega) hq803 hq825
        cases hof.symm.trans (nOf_q hq45 (by omega) (by omega) hrd (nEnd_c (endV_0 hq845 (by assumption)) hq845 (by assumption) (by assumption)))
        exact ⟨_, _, _, rfl, (row_nilL _ _ _ _ _), (row_nilL _ _ _ _ _), (row_nilL _ _ _ _ _), hB901⟩
      ·
       rw [hc853] at h852
       have hp902 : r844 ≠ 0 := by first | simpa using hc853 | simpa [and_assoc] using hc853
       clear hc853
       refine co_true h852 rfl ?_
       refine co_seq ?_
       refine co_reg ?_
       refine pk0 (v := .agg #[.int .i64 0, .int .i64 0, .int .u64 0, .int .i64 0, .slice none 0 0, .int .u64 0, .slice none 0 0, .int .i64 0, .int .i64 0, .slice none 0 0, .int .u64 0, .int .i64 0, .int .u64 0, .int .i64 0, .int .i64 0, .int .i64 0, .int .i64 0, .int .i64 0]) h852 rfl fun a903 h903 => ?_; clear h852
       refine pk0 (v := .int .i64 r844) h903 rfl fun a904 h904 => ?_; clear h903
       refine pwD h904 rfl (op_storeN rfl rfl rfl (all_cons rfl (all_cons rfl (all_cons rfl (all_cons rfl (all_cons rfl (all_cons rfl (all_cons rfl (all_cons rfl (all_cons rfl (all_cons rfl (all_cons rfl (all_cons rfl (all_cons rfl (all_cons rfl (all_cons rfl (all_cons rfl (all_cons rfl (all_cons rfl all_nil)))))))))))))))))) (by kernel_rfl) hk863 rfl) ?_; clear h904
       rintro _ w906 a905 ⟨hk907, hz908, hg909⟩ h905
       have hk907' : Blk w906 N3 73 #[.int .i64 0, .int .i64 0, .int .u64 0, .int .i64 0, .slice none 0 0, .int .u64 0, .slice none 0 0, .int .i64 0, .int .i64 0, .slice none 0 0, .int .u64 0, .int .i64 0, .int .u64 0, .int .i64 0, .int .i64 0, .int .i64 0, .int .i64 0, .int .i64 0] := hk907; clear hk907
       have hz910 := hg909.size
       refine pk0 (v := .int .i64 r844) h905 rfl fun a911 h911 => ?_; clear h905
       refine pl_nil ?_
       refine co_then ?_
       refine wp_ret ?_
       refine co_thenR ?_
       refine co_retC1 (Q := fun _ _ _ => True) h911 rfl rfl rfl hk907' Try.underlying73 rfl (by kernel_rfl) ?_
       have hB912 := hb_at hB858 hg909 (by omega)
       have hrd := rd_3 (k := n42) (by omega) hq803 hq825
       cases hof.symm.trans (nOf_q hq45 (by omega) (by omega) hrd (nEnd_xx hq845 (by assumption)))
       exact ⟨_, _, _, rfl, (row_nilL _ _ _ _ _), (row_nilL _ _ _ _ _), (row_nilL _ _ _ _ _), hB912⟩
    ·
     rw [hc150] at h149
     have hp913 : n42 = 2 := by first | simpa using hc150 | simpa [and_assoc] using hc150
     clear hc150
     refine co_true h149 rfl ?_
     refine co_seq ?_
     refine co_reg ?_
     refine pk0 (v := pt N14 0) h149 rfl fun a914 h914 => ?_; clear h149
     refine pk (v := .agg #[.int .i64 n42, .int .i64 0, .int .u64 0, .int .i64 0, .slice none 0 0, .int .u64 0, .slice none 0 0, .int .i64 0, .int .i64 0, .slice none 0 0, .int .u64 0, .int .i64 0, .int .u64 0, .int .i64 0, .int .i64 0, .int .i64 0, .int .i64 0, .int .i64 0]) h914 rfl (rn_loadN rfl rfl Try.underlying73 rfl (by kernel_rfl) hk56'.all) fun a915 h915 => ?_; clear h914
     refine pw h915 rfl (op_call (args := #[pt N14 0, .agg #[.int .i64 n42, .int .i64 0, .int .u64 0, .int .i64 0, .slice none 0 0, .int .u64 0, .slice none 0 0, .int .i64 0, .int .i64 0, .slice none 0 0, .int .u64 0, .int .i64 0, .int .u64 0, .int .i64 0, .int .i64 0, .int .i64 0, .int .i64 0, .int .i64 0]]) (R := fun res xw => ∃ mv : Value, ∃ lv : Value, ∃ ev : Value, res = .tuple #[.agg #[.int .i64 (((rdNote s n42 a43 e44).1).k), .int .i64 (((rdNote s n42 a43 e44).1).n), .int .u64 (((rdNote s n42 a43 e44).1).t), .int .i64 (((rdNote s n42 a43 e44).1).ep), mv, .int .u64 (((rdNote s n42 a43 e44).1).fl), lv, .int .i64 (((rdNote s n42 a43 e44).1).ec), .int .i64 (((rdNote s n42 a43 e44).1).er), ev, .int .u64 (((rdNote s n42 a43 e44).1).ets), .int .i64 (((rdNote s n42 a43 e44).1).pid), .int .u64 (((rdNote s n42 a43 e44).1).pat), .int .i64 (((rdNote s n42 a43 e44).1).plf), .int .i64 (((rdNote s n42 a43 e44).1).sc), .int .i64 (((rdNote s n42 a43 e44).1).sr), .int .i64 (((rdNote s n42 a43 e44).1).se), .int .i64 (((rdNote s n42 a43 e44).1).sp)], .int .i64 ((rdNote s n42 a43 e44).2.2.2)] ∧ xw.ownsRow w55.heap.size 185 2 mv ((rdNote s n42 a43 e44).1).ms.length (((rdNote s n42 a43 e44).1).ms.flatMap memE) ∧ xw.ownsRow w55.heap.size 3 1 lv ((rdNote s n42 a43 e44).1).lg.length (((rdNote s n42 a43 e44).1).lg.flatMap (intE .i64)) ∧ xw.ownsRow w55.heap.size 86 3 ev ((rdNote s n42 a43 e44).1).el.length (((rdNote s n42 a43 e44).1).el.flatMap opE) ∧ OXR N14 s ((rdNote s n42 a43 e44).2.1) ((rdNote s n42 a43 e44).2.2.1) xw ∧ But (fun q => q = N14) w55 xw) rfl rfl rfl (by kernel_rfl) (by kernel_rfl) (Try.call94 _ _) (rnWhole_any N14 s a43 e44 n42 ((rdNote s n42 a43 e44).1) ((rdNote s n42 a43 e44).2.1) ((rdNote s n42 a43 e44).2.2.1) ((rdNote s n42 a43 e44).2.2.2) w55 (by first | omega | (simp; done) | (simp; omega)) ho64 (by first | omega | (simp; done) | (simp; omega)) rfl) (by rintro e x ⟨mv, lv, ev, rfl, hq921, hq922, hq923, hq924, hb925⟩; exact ⟨_, rfl, ⟨mv, lv, ev, rfl, hq921, hq922, hq923, hq924, hb925⟩⟩)) ?_; clear h915
     rintro _ w917 a916 ⟨mv918, lv919, ev920, rfl, hq921, hq922, hq923, hq924, hb925⟩ h916
     have hz926 := hb925.size
     have hl927 := sl_len (row_sl hq921 memE_len)
     have hl928 := sl_len (row_sl hq922 (intE_len .i64))
     have hl929 := sl_len (row_sl hq923 opE_len)
     have hl930 := hq924.lt
     refine pk0 (v := .tuple #[.agg #[.int .i64 (((rdNote s n42 a43 e44).1).k), .int .i64 (((rdNote s n42 a43 e44).1).n), .int .u64 (((rdNote s n42 a43 e44).1).t), .int .i64 (((rdNote s n42 a43 e44).1).ep), mv918, .int .u64 (((rdNote s n42 a43 e44).1).fl), lv919, .int .i64 (((rdNote s n42 a43 e44).1).ec), .int .i64 (((rdNote s n42 a43 e44).1).er), ev920, .int .u64 (((rdNote s n42 a43 e44).1).ets), .int .i64 (((rdNote s n42 a43 e44).1).pid), .int .u64 (((rdNote s n42 a43 e44).1).pat), .int .i64 (((rdNote s n42 a43 e44).1).plf), .int .i64 (((rdNote s n42 a43 e44).1).sc), .int .i64 (((rdNote s n42 a43 e44).1).sr), .int .i64 (((rdNote s n42 a43 e44).1).se), .int .i64 (((rdNote s n42 a43 e44).1).sp)], .int .i64 ((rdNote s n42 a43 e44).2.2.2)]) h916 rfl fun a931 h931 => ?_; clear h916
     refine pk0 (v := .agg #[.int .i64 (((rdNote s n42 a43 e44).1).k), .int .i64 (((rdNote s n42 a43 e44).1).n), .int .u64 (((rdNote s n42 a43 e44).1).t), .int .i64 (((rdNote s n42 a43 e44).1).ep), mv918, .int .u64 (((rdNote s n42 a43 e44).1).fl), lv919, .int .i64 (((rdNote s n42 a43 e44).1).ec), .int .i64 (((rdNote s n42 a43 e44).1).er), ev920, .int .u64 (((rdNote s n42 a43 e44).1).ets), .int .i64 (((rdNote s n42 a43 e44).1).pid), .int .u64 (((rdNote s n42 a43 e44).1).pat), .int .i64 (((rdNote s n42 a43 e44).1).plf), .int .i64 (((rdNote s n42 a43 e44).1).sc), .int .i64 (((rdNote s n42 a43 e44).1).sr), .int .i64 (((rdNote s n42 a43 e44).1).se), .int .i64 (((rdNote s n42 a43 e44).1).sp)]) h931 rfl fun a932 h932 => ?_; clear h931
     refine pk0 (v := .int .i64 ((rdNote s n42 a43 e44).2.2.2)) h932 rfl fun a933 h933 => ?_; clear h932
     refine pw h933 rfl (op_new (v := fun N => pt N 0) (T := 73) (cs := #[.int .i64 0, .int .i64 0, .int .u64 0, .int .i64 0, .slice none 0 0, .int .u64 0, .slice none 0 0, .int .i64 0, .int .i64 0, .slice none 0 0, .int .u64 0, .int .i64 0, .int .u64 0, .int .i64 0, .int .i64 0, .int .i64 0, .int .i64 0, .int .i64 0]) (by kernel_rfl) (by kernel_rfl) (by kernel_rfl)) ?_; clear h933
     rintro _ w935 a934 ⟨N936, rfl, hN939, hz940, hk938, hg937⟩ h934
     have ha941 := row_fresh hq921 hN939
     have ha942 := row_fresh hq922 hN939
     have ha943 := row_fresh hq923 hN939
     have hz944 := hg937.size
     try dsimp only at h934
     have hr950 := row_kept_new hq923 hg937
     have hr951 := row_kept_new hq922 hg937
     have hr952 := row_kept_new hq921 hg937
     refine pwD h934 rfl (op_storeN rfl rfl rfl (all_cons rfl (all_cons rfl (all_cons rfl (all_cons rfl (all_cons (row_one hr952) (all_cons rfl (all_cons (row_one hr951) (all_cons rfl (all_cons rfl (all_cons (row_one hr950) (all_cons rfl (all_cons rfl (all_cons rfl (all_cons rfl (all_cons rfl (all_cons rfl (all_cons rfl (all_cons rfl all_nil)))))))))))))))))) (by kernel_rfl) hk938 rfl) ?_; clear h934
     rintro _ w946 a945 ⟨hk947, hz948, hg949⟩ h945
     have hk947' : Blk w946 N936 73 #[.int .i64 (((rdNote s n42 a43 e44).1).k), .int .i64 (((rdNote s n42 a43 e44).1).n), .int .u64 (((rdNote s n42 a43 e44).1).t), .int .i64 (((rdNote s n42 a43 e44).1).ep), mv918, .int .u64 (((rdNote s n42 a43 e44).1).fl), lv919, .int .i64 (((rdNote s n42 a43 e44).1).ec), .int .i64 (((rdNote s n42 a43 e44).1).er), ev920, .int .u64 (((rdNote s n42 a43 e44).1).ets), .int .i64 (((rdNote s n42 a43 e44).1).pid), .int .u64 (((rdNote s n42 a43 e44).1).pat), .int .i64 (((rdNote s n42 a43 e44).1).plf), .int .i64 (((rdNote s n42 a43 e44).1).sc), .int .i64 (((rdNote s n42 a43 e44).1).sr), .int .i64 (((rdNote s n42 a43 e44).1).se), .int .i64 (((rdNote s n42 a43 e44).1).sp)] := hk947; clear hk947
     have hz953 := hg949.size
     refine pk0 (v := .int .i64 ((rdNote s n42 a43 e44).2.2.2)) h945 rfl fun a954 h954 => ?_; clear h945
     refine pl_nil ?_
     refine co_then ?_
     refine co_seq ?_
     refine co_seq ?_
     refine co_reg ?_
     refine pk0 (v := .int .i64 ((rdNote s n42 a43 e44).2.2.2)) h954 rfl fun a955 h955 => ?_; clear h954
     refine pk0 (v := .bool (((rdNote s n42 a43 e44).2.2.2) != 0)) h955 rfl fun a956 h956 => ?_; clear h955
     refine pl_nil ?_
     refine co_then ?_
     have hB958 := hb_foot hB74 hb925 (fun i hlt hS => by (try simp at hS); first | omega | (simp; omega) | simp_all)
     have hB959 := hb_new hB958 hg937
     have hB960 := hb_at hB959 hg949 (by omega)
     have hk961 := hk79.but hb925 (by first | omega | (simp; omega))
     have hk962 := hk961.kept hg937 (by simp)
     have hk963 := hk962.kept hg949 (by simp; omega)
     have hk964 := hk56'.but hb925 (by first | omega | (simp; omega))
     have hk965 := hk964.kept hg937 (by simp)
     have hk966 := hk965.kept hg949 (by simp; omega)
     have ho967 := hq924.new hg937
     have ho968 := ho967.at (by omega) hg949
     cases hc957 : (((rdNote s n42 a43 e44).2.2.2) != 0)
     ·
      rw [hc957] at h956
      have hp969 : ¬ (((rdNote s n42 a43 e44).2.2.2) ≠ 0) := by first | simpa using hc957 | simpa [and_assoc] using hc957
      clear hc957
      refine co_false h956 rfl ?_
      refine wp_skip ?_
      refine co_then ?_
      refine co_reg ?_
      refine pk (v := .agg #[.int .i64 (((rdNote s n42 a43 e44).1).k), .int .i64 (((rdNote s n42 a43 e44).1).n), .int .u64 (((rdNote s n42 a43 e44).1).t), .int .i64 (((rdNote s n42 a43 e44).1).ep), mv918, .int .u64 (((rdNote s n42 a43 e44).1).fl), lv919, .int .i64 (((rdNote s n42 a43 e44).1).ec), .int .i64 (((rdNote s n42 a43 e44).1).er), ev920, .int .u64 (((rdNote s n42 a43 e44).1).ets), .int .i64 (((rdNote s n42 a43 e44).1).pid), .int .u64 (((rdNote s n42 a43 e44).1).pat), .int .i64 (((rdNote s n42 a43 e44).1).plf), .int .i64 (((rdNote s n42 a43 e44).1).sc), .int .i64 (((rdNote s n42 a43 e44).1).sr), .int .i64 (((rdNote s n42 a43 e44).1).se), .int .i64 (((rdNote s n42 a43 e44).1).sp)]) h956 rfl (rn_loadN rfl rfl Try.underlying73 rfl (by kernel_rfl) hk947'.all) fun a970 h970 => ?_; clear h956
      have hr976 := row_kept_at hr950 hg949 (ha943)
      have hr977 := row_kept_at hr951 hg949 (ha942)
      have hr978 := row_kept_at hr952 hg949 (ha941)
      refine pwD h970 rfl (op_storeN rfl rfl rfl (all_cons rfl (all_cons rfl (all_cons rfl (all_cons rfl (all_cons (row_one hr978) (all_cons rfl (all_cons (row_one hr977) (all_cons rfl (all_cons rfl (all_cons (row_one hr976) (all_cons rfl (all_cons rfl (all_cons rfl (all_cons rfl (all_cons rfl (all_cons rfl (all_cons rfl (all_cons rfl all_nil)))))))))))))))))) (by kernel_rfl) hk966 rfl) ?_; clear h970
      rintro _ w972 a971 ⟨hk973, hz974, hg975⟩ h971
      have hk973' : Blk w972 N24 73 #[.int .i64 (((rdNote s n42 a43 e44).1).k), .int .i64 (((rdNote s n42 a43 e44).1).n), .int .u64 (((rdNote s n42 a43 e44).1).t), .int .i64 (((rdNote s n42 a43 e44).1).ep), mv918, .int .u64 (((rdNote s n42 a43 e44).1).fl), lv919, .int .i64 (((rdNote s n42 a43 e44).1).ec), .int .i64 (((rdNote s n42 a43 e44).1).er), ev920, .int .u64 (((rdNote s n42 a43 e44).1).ets), .int .i64 (((rdNote s n42 a43 e44).1).pid), .int .u64 (((rdNote s n42 a43 e44).1).pat), .int .i64 (((rdNote s n42 a43 e44).1).plf), .int .i64 (((rdNote s n42 a43 e44).1).sc), .int .i64 (((rdNote s n42 a43 e44).1).sr), .int .i64 (((rdNote s n42 a43 e44).1).se), .int .i64 (((rdNote s n42 a43 e44).1).sp)] := hk973; clear hk973
      have hz979 := hg975.size
      refine pl_nil ?_
      refine co_blockN ?_
      refine co_then ?_
      refine co_seq ?_
      refine co_seq ?_
      refine co_reg ?_
      refine pk0 (v := pt N14 0) h971 rfl fun a980 h980 => ?_; clear h971
      have ho986 := ho968.at (by omega) hg975
      refine pw h980 rfl (op_call (args := #[pt N14 0]) (R := fun res xw => ∃ r : Int, res = .int .i64 r ∧ endV s ((rdNote s n42 a43 e44).2.1).toNat ((rdNote s n42 a43 e44).2.2.1) = r ∧ Below w972.heap.size w972 xw) rfl rfl rfl (by kernel_rfl) (by kernel_rfl) (Try.call75 _ _) (oxr_end N14 s ((rdNote s n42 a43 e44).2.1) ((rdNote s n42 a43 e44).2.2.1) w972 ho986 (by omega)) (by rintro e x ⟨r, rfl, h0, h2⟩; exact ⟨_, rfl, r, rfl, h0, h2⟩)) ?_; clear h980
      rintro _ w982 a981 ⟨r983, rfl, hq984, hb985⟩ h981
      have hz987 := hb985.size
      have k988 : ((rdNote s n42 a43 e44).2.2.1) ≠ 0 → r983 = ((rdNote s n42 a43 e44).2.2.1) := fun he => by rw [← hq984]; exact endV_e he
      refine pk0 (v := .int .i64 r983) h981 rfl fun a989 h989 => ?_; clear h981
      refine pl_nil ?_
      refine co_then ?_
      refine co_seq ?_
      refine co_reg ?_
      refine pk0 (v := .int .i64 r983) h989 rfl fun a990 h990 => ?_; clear h989
      refine pk0 (v := .bool (r983 != 0)) h990 rfl fun a991 h991 => ?_; clear h990
      refine pl_nil ?_
      refine co_then ?_
      have hB993 := hb_at hB960 hg975 (by omega)
      have hB994 := hb_call hB993 hb985
      have hk995 := hk963.kept hg975 (by simp; omega)
      have hk996 := hk995.below hb985
      have hr997 := row_kept_at hr978 hg975 (row_ne_lt hr978 (by omega))
      have hr998 := row_kept_new hr997 (below_grown hb985)
      have hr999 := row_kept_at hr977 hg975 (row_ne_lt hr977 (by omega))
      have hr1000 := row_kept_new hr999 (below_grown hb985)
      have hr1001 := row_kept_at hr976 hg975 (row_ne_lt hr976 (by omega))
      have hr1002 := row_kept_new hr1001 (below_grown hb985)
      have hk1003 := hk947'.kept hg975 (by simp; omega)
      have hk1004 := hk1003.below hb985
      cases hc992 : (r983 != 0)
      ·
       rw [hc992] at h991
       have hp1005 : ¬ (r983 ≠ 0) := by first | simpa using hc992 | simpa [and_assoc] using hc992
       clear hc992
       refine co_false h991 rfl ?_
       refine wp_skip ?_
       refine co_then ?_
       refine co_seq ?_
       refine co_seq ?_
       refine co_reg ?_
       have hk1006 := hk973'.below hb985
       refine pk (v := .agg #[.int .i64 (((rdNote s n42 a43 e44).1).k), .int .i64 (((rdNote s n42 a43 e44).1).n), .int .u64 (((rdNote s n42 a43 e44).1).t), .int .i64 (((rdNote s n42 a43 e44).1).ep), mv918, .int .u64 (((rdNote s n42 a43 e44).1).fl), lv919, .int .i64 (((rdNote s n42 a43 e44).1).ec), .int .i64 (((rdNote s n42 a43 e44).1).er), ev920, .int .u64 (((rdNote s n42 a43 e44).1).ets), .int .i64 (((rdNote s n42 a43 e44).1).pid), .int .u64 (((rdNote s n42 a43 e44).1).pat), .int .i64 (((rdNote s n42 a43 e44).1).plf), .int .i64 (((rdNote s n42 a43 e44).1).sc), .int .i64 (((rdNote s n42 a43 e44).1).sr), .int .i64 (((rdNote s n42 a43 e44).1).se), .int .i64 (((rdNote s n42 a43 e44).1).sp)]) h991 rfl (rn_loadN rfl rfl Try.underlying73 rfl (by kernel_rfl) hk1006.all) fun a1007 h1007 => ?_; clear h991
       refine pw h1007 rfl (op_call (args := #[.agg #[.int .i64 (((rdNote s n42 a43 e44).1).k), .int .i64 (((rdNote s n42 a43 e44).1).n), .int .u64 (((rdNote s n42 a43 e44).1).t), .int .i64 (((rdNote s n42 a43 e44).1).ep), mv918, .int .u64 (((rdNote s n42 a43 e44).1).fl), lv919, .int .i64 (((rdNote s n42 a43 e44).1).ec), .int .i64 (((rdNote s n42 a43 e44).1).er), ev920, .int .u64 (((rdNote s n42 a43 e44).1).ets), .int .i64 (((rdNote s n42 a43 e44).1).pid), .int .u64 (((rdNote s n42 a43 e44).1).pat), .int .i64 (((rdNote s n42 a43 e44).1).plf), .int .i64 (((rdNote s n42 a43 e44).1).sc), .int .i64 (((rdNote s n42 a43 e44).1).sr), .int .i64 (((rdNote s n42 a43 e44).1).se), .int .i64 (((rdNote s n42 a43 e44).1).sp)]]) (R := fun res xw => res = .int .i64 (chkN ((rdNote s n42 a43 e44).1)) ∧ Below w982.heap.size w982 xw) rfl rfl rfl (by kernel_rfl) (by kernel_rfl) (Try.call95 _ _) (rnCheck_any ((rdNote s n42 a43 e44).1) mv918 lv919 ev920 w982 (row_sl hr998 memE_len) (row_sl hr1000 (intE_len .i64)) (row_sl hr1002 opE_len) (rdNote_R _ _ _ _)) (by rintro e x ⟨rfl, hb1010⟩; exact ⟨_, rfl, ⟨rfl, hb1010⟩⟩)) ?_; clear h1007
       rintro _ w1009 a1008 ⟨rfl, hb1010⟩ h1008
       have hz1011 := hb1010.size
       refine pk0 (v := .int .i64 (chkN ((rdNote s n42 a43 e44).1))) h1008 rfl fun a1012 h1012 => ?_; clear h1008
       refine pl_nil ?_
       refine co_then ?_
       refine co_seq ?_
       refine co_reg ?_
       refine pk0 (v := .int .i64 (chkN ((rdNote s n42 a43 e44).1))) h1012 rfl fun a1013 h1013 => ?_; clear h1012
       refine pk0 (v := .bool (chkN ((rdNote s n42 a43 e44).1) != 0)) h1013 rfl fun a1014 h1014 => ?_; clear h1013
       refine pl_nil ?_
       refine co_then ?_
       have hB1016 := hb_call hB994 hb1010
       have ho1017 := ho986.below hb985
       have ho1018 := ho1017.below hb1010
       cases hc1015 : (chkN ((rdNote s n42 a43 e44).1) != 0)
       ·
        rw [hc1015] at h1014
        have hp1019 : ¬ (chkN ((rdNote s n42 a43 e44).1) ≠ 0) := by first | simpa using hc1015 | simpa [and_assoc] using hc1015
        clear hc1015
        refine co_false h1014 rfl ?_
        refine wp_skip ?_
        refine co_then ?_
        refine co_seq ?_
        refine co_reg ?_
        have hk1020 := hk1006.below hb1010
        refine pk (v := .agg #[.int .i64 (((rdNote s n42 a43 e44).1).k), .int .i64 (((rdNote s n42 a43 e44).1).n), .int .u64 (((rdNote s n42 a43 e44).1).t), .int .i64 (((rdNote s n42 a43 e44).1).ep), mv918, .int .u64 (((rdNote s n42 a43 e44).1).fl), lv919, .int .i64 (((rdNote s n42 a43 e44).1).ec), .int .i64 (((rdNote s n42 a43 e44).1).er), ev920, .int .u64 (((rdNote s n42 a43 e44).1).ets), .int .i64 (((rdNote s n42 a43 e44).1).pid), .int .u64 (((rdNote s n42 a43 e44).1).pat), .int .i64 (((rdNote s n42 a43 e44).1).plf), .int .i64 (((rdNote s n42 a43 e44).1).sc), .int .i64 (((rdNote s n42 a43 e44).1).sr), .int .i64 (((rdNote s n42 a43 e44).1).se), .int .i64 (((rdNote s n42 a43 e44).1).sp)]) h1014 rfl (rn_loadN rfl rfl Try.underlying73 rfl (by kernel_rfl) hk1020.all) fun a1021 h1021 => ?_; clear h1014
        have hr1027 := row_kept_new hr1002 (below_grown hb1010)
        have hr1028 := row_kept_new hr1000 (below_grown hb1010)
        have hr1029 := row_kept_new hr998 (below_grown hb1010)
        have hk1030 := hk996.below hb1010
        refine pwD h1021 rfl (op_storeN rfl rfl rfl (all_cons rfl (all_cons rfl (all_cons rfl (all_cons rfl (all_cons (row_one hr1029) (all_cons rfl (all_cons (row_one hr1028) (all_cons rfl (all_cons rfl (all_cons (row_one hr1027) (all_cons rfl (all_cons rfl (all_cons rfl (all_cons rfl (all_cons rfl (all_cons rfl (all_cons rfl (all_cons rfl all_nil)))))))))))))))))) (by kernel_rfl) hk1030 rfl) ?_; clear h1021
        rintro _ w1023 a1022 ⟨hk1024, hz1025, hg1026⟩ h1022
        have hk1024' : Blk w1023 N3 73 #[.int .i64 (((rdNote s n42 a43 e44).1).k), .int .i64 (((rdNote s n42 a43 e44).1).n), .int .u64 (((rdNote s n42 a43 e44).1).t), .int .i64 (((rdNote s n42 a43 e44).1).ep), mv918, .int .u64 (((rdNote s n42 a43 e44).1).fl), lv919, .int .i64 (((rdNote s n42 a43 e44).1).ec), .int .i64 (((rdNote s n42 a43 e44).1).er), ev920, .int .u64 (((rdNote s n42 a43 e44).1).ets), .int .i64 (((rdNote s n42 a43 e44).1).pid), .int .u64 (((rdNote s n42 a43 e44).1).pat), .int .i64 (((rdNote s n42 a43 e44).1).plf), .int .i64 (((rdNote s n42 a43 e44).1).sc), .int .i64 (((rdNote s n42 a43 e44).1).sr), .int .i64 (((rdNote s n42 a43 e44).1).se), .int .i64 (((rdNote s n42 a43 e44).1).sp)] := hk1024; clear hk1024
        have hz1031 := hg1026.size
        refine pk0 (v := .int .i64 0) h1022 rfl fun a1032 h1032 => ?_; clear h1022
        refine pl_nil ?_
        refine co_then ?_
        refine wp_ret ?_
        refine co_retC1 (Q := fun _ _ _ => True) h1032 rfl rfl rfl hk1024' Try.underlying73 rfl (by kernel_rfl) ?_
        have hr1033 := row_kept_at hr1029 hg1026 (row_ne_lt hr1029 (by omega))
        have hr1034 := row_kept_at hr1028 hg1026 (row_ne_lt hr1028 (by omega))
        have hr1035 := row_kept_at hr1027 hg1026 (row_ne_lt hr1027 (by omega))
        have hB1036 := hb_at hB1016 hg1026 (by omega)
        cases hof.symm.trans (nOf_q' hq45 (by omega) (by omega) (nEnd_o' (by assumption) hq984 (by assumption) (by assumption)))
        exact ⟨_, _, _, rfl, (row_lows hr1033 (by omega)), (row_lows hr1034 (by omega)), (row_lows hr1035 (by omega)), hB1036⟩
       ·
        rw [hc1015] at h1014
        have hp1037 : chkN ((rdNote s n42 a43 e44).1) ≠ 0 := by first | simpa using hc1015 | simpa [and_assoc] using hc1015
        clear hc1015
        refine co_true h1014 rfl ?_
        refine co_seq ?_
        refine co_reg ?_
        refine pk0 (v := .agg #[.int .i64 0, .int .i64 0, .int .u64 0, .int .i64 0, .slice none 0 0, .int .u64 0, .slice none 0 0, .int .i64 0, .int .i64 0, .slice none 0 0, .int .u64 0, .int .i64 0, .int .u64 0, .int .i64 0, .int .i64 0, .int .i64 0, .int .i64 0, .int .i64 0]) h1014 rfl fun a1038 h1038 => ?_; clear h1014
        refine pk0 (v := .int .i64 (chkN ((rdNote s n42 a43 e44).1))) h1038 rfl fun a1039 h1039 => ?_; clear h1038
        have hk1045 := hk996.below hb1010
        refine pwD h1039 rfl (op_storeN rfl rfl rfl (all_cons rfl (all_cons rfl (all_cons rfl (all_cons rfl (all_cons rfl (all_cons rfl (all_cons rfl (all_cons rfl (all_cons rfl (all_cons rfl (all_cons rfl (all_cons rfl (all_cons rfl (all_cons rfl (all_cons rfl (all_cons rfl (all_cons rfl (all_cons rfl all_nil)))))))))))))))))) (by kernel_rfl) hk1045 rfl) ?_; clear h1039
        rintro _ w1041 a1040 ⟨hk1042, hz1043, hg1044⟩ h1040
        have hk1042' : Blk w1041 N3 73 #[.int .i64 0, .int .i64 0, .int .u64 0, .int .i64 0, .slice none 0 0, .int .u64 0, .slice none 0 0, .int .i64 0, .int .i64 0, .slice none 0 0, .int .u64 0, .int .i64 0, .int .u64 0, .int .i64 0, .int .i64 0, .int .i64 0, .int .i64 0, .int .i64 0] := hk1042; clear hk1042
        have hz1046 := hg1044.size
        refine pk0 (v := .int .i64 (chkN ((rdNote s n42 a43 e44).1))) h1040 rfl fun a1047 h1047 => ?_; clear h1040
        refine pl_nil ?_
        refine co_then ?_
        refine wp_ret ?_
        refine co_thenR ?_
        refine co_retC1 (Q := fun _ _ _ => True) h1047 rfl rfl rfl hk1042' Try.underlying73 rfl (by kernel_rfl) ?_
        have hB1048 := hb_at hB1016 hg1044 (by omega)
        cases hof.symm.trans (nOf_q' hq45 (by omega) (by omega) (nEnd_c' (by assumption) hq984 (by assumption) (by assumption)))
        exact ⟨_, _, _, rfl, (row_nilL _ _ _ _ _), (row_nilL _ _ _ _ _), (row_nilL _ _ _ _ _), hB1048⟩
      ·
       rw [hc992] at h991
       have hp1049 : r983 ≠ 0 := by first | simpa using hc992 | simpa [and_assoc] using hc992
       clear hc992
       refine co_true h991 rfl ?_
       refine co_seq ?_
       refine co_reg ?_
       refine pk0 (v := .agg #[.int .i64 0, .int .i64 0, .int .u64 0, .int .i64 0, .slice none 0 0, .int .u64 0, .slice none 0 0, .int .i64 0, .int .i64 0, .slice none 0 0, .int .u64 0, .int .i64 0, .int .u64 0, .int .i64 0, .int .i64 0, .int .i64 0, .int .i64 0, .int .i64 0]) h991 rfl fun a1050 h1050 => ?_; clear h991
       refine pk0 (v := .int .i64 r983) h1050 rfl fun a1051 h1051 => ?_; clear h1050
       refine pwD h1051 rfl (op_storeN rfl rfl rfl (all_cons rfl (all_cons rfl (all_cons rfl (all_cons rfl (all_cons rfl (all_cons rfl (all_cons rfl (all_cons rfl (all_cons rfl (all_cons rfl (all_cons rfl (all_cons rfl (all_cons rfl (all_cons rfl (all_cons rfl (all_cons rfl (all_cons rfl (all_cons rfl all_nil)))))))))))))))))) (by kernel_rfl) hk996 rfl) ?_; clear h1051
       rintro _ w1053 a1052 ⟨hk1054, hz1055, hg1056⟩ h1052
       have hk1054' : Blk w1053 N3 73 #[.int .i64 0, .int .i64 0, .int .u64 0, .int .i64 0, .slice none 0 0, .int .u64 0, .slice none 0 0, .int .i64 0, .int .i64 0, .slice none 0 0, .int .u64 0, .int .i64 0, .int .u64 0, .int .i64 0, .int .i64 0, .int .i64 0, .int .i64 0, .int .i64 0] := hk1054; clear hk1054
       have hz1057 := hg1056.size
       refine pk0 (v := .int .i64 r983) h1052 rfl fun a1058 h1058 => ?_; clear h1052
       refine pl_nil ?_
       refine co_then ?_
       refine wp_ret ?_
       refine co_thenR ?_
       refine co_retC1 (Q := fun _ _ _ => True) h1058 rfl rfl rfl hk1054' Try.underlying73 rfl (by kernel_rfl) ?_
       have hB1059 := hb_at hB994 hg1056 (by omega)
       cases hof.symm.trans (nOf_q' hq45 (by omega) (by omega) (nEnd_x' (by assumption) hq984 (by assumption)))
       exact ⟨_, _, _, rfl, (row_nilL _ _ _ _ _), (row_nilL _ _ _ _ _), (row_nilL _ _ _ _ _), hB1059⟩
     ·
      rw [hc957] at h956
      have hp1060 : ((rdNote s n42 a43 e44).2.2.2) ≠ 0 := by first | simpa using hc957 | simpa [and_assoc] using hc957
      clear hc957
      refine co_true h956 rfl ?_
      refine co_seq ?_
      refine co_reg ?_
      refine pk0 (v := .agg #[.int .i64 0, .int .i64 0, .int .u64 0, .int .i64 0, .slice none 0 0, .int .u64 0, .slice none 0 0, .int .i64 0, .int .i64 0, .slice none 0 0, .int .u64 0, .int .i64 0, .int .u64 0, .int .i64 0, .int .i64 0, .int .i64 0, .int .i64 0, .int .i64 0]) h956 rfl fun a1061 h1061 => ?_; clear h956
      refine pk0 (v := .int .i64 ((rdNote s n42 a43 e44).2.2.2)) h1061 rfl fun a1062 h1062 => ?_; clear h1061
      refine pwD h1062 rfl (op_storeN rfl rfl rfl (all_cons rfl (all_cons rfl (all_cons rfl (all_cons rfl (all_cons rfl (all_cons rfl (all_cons rfl (all_cons rfl (all_cons rfl (all_cons rfl (all_cons rfl (all_cons rfl (all_cons rfl (all_cons rfl (all_cons rfl (all_cons rfl (all_cons rfl (all_cons rfl all_nil)))))))))))))))))) (by kernel_rfl) hk963 rfl) ?_; clear h1062
      rintro _ w1064 a1063 ⟨hk1065, hz1066, hg1067⟩ h1063
      have hk1065' : Blk w1064 N3 73 #[.int .i64 0, .int .i64 0, .int .u64 0, .int .i64 0, .slice none 0 0, .int .u64 0, .slice none 0 0, .int .i64 0, .int .i64 0, .slice none 0 0, .int .u64 0, .int .i64 0, .int .u64 0, .int .i64 0, .int .i64 0, .int .i64 0, .int .i64 0, .int .i64 0] := hk1065; clear hk1065
      have hz1068 := hg1067.size
      refine pk0 (v := .int .i64 ((rdNote s n42 a43 e44).2.2.2)) h1063 rfl fun a1069 h1069 => ?_; clear h1063
      refine pl_nil ?_
      refine co_then ?_
      refine wp_ret ?_
      refine co_thenR ?_
      refine co_blockR ?_
      refine co_thenR ?_
      refine co_retC1 (Q := fun _ _ _ => True) h1069 rfl rfl rfl hk1065' Try.underlying73 rfl (by kernel_rfl) ?_
      have hB1070 := hb_at hB960 hg1067 (by omega)
      cases hof.symm.trans (nOf_q' hq45 (by omega) (by omega) (nEnd_r' (by assumption)))
      exact ⟨_, _, _, rfl, (row_nilL _ _ _ _ _), (row_nilL _ _ _ _ _), (row_nilL _ _ _ _ _), hB1070⟩
   ·
    rw [hc146] at h145
    have hp1071 : n42 = 1 := by first | simpa using hc146 | simpa [and_assoc] using hc146
    clear hc146
    refine co_true h145 rfl ?_
    refine wp_skip ?_
    refine co_then ?_
    refine co_true h145 rfl ?_
    refine co_seq ?_
    refine co_reg ?_
    refine pk0 (v := pt N14 0) h145 rfl fun a1072 h1072 => ?_; clear h145
    refine pk (v := .agg #[.int .i64 n42, .int .i64 0, .int .u64 0, .int .i64 0, .slice none 0 0, .int .u64 0, .slice none 0 0, .int .i64 0, .int .i64 0, .slice none 0 0, .int .u64 0, .int .i64 0, .int .u64 0, .int .i64 0, .int .i64 0, .int .i64 0, .int .i64 0, .int .i64 0]) h1072 rfl (rn_loadN rfl rfl Try.underlying73 rfl (by kernel_rfl) hk56'.all) fun a1073 h1073 => ?_; clear h1072
    refine pw h1073 rfl (op_call (args := #[pt N14 0, .agg #[.int .i64 n42, .int .i64 0, .int .u64 0, .int .i64 0, .slice none 0 0, .int .u64 0, .slice none 0 0, .int .i64 0, .int .i64 0, .slice none 0 0, .int .u64 0, .int .i64 0, .int .u64 0, .int .i64 0, .int .i64 0, .int .i64 0, .int .i64 0, .int .i64 0]]) (R := fun res xw => ∃ mv : Value, ∃ lv : Value, ∃ ev : Value, res = .tuple #[.agg #[.int .i64 (((rdNote s n42 a43 e44).1).k), .int .i64 (((rdNote s n42 a43 e44).1).n), .int .u64 (((rdNote s n42 a43 e44).1).t), .int .i64 (((rdNote s n42 a43 e44).1).ep), mv, .int .u64 (((rdNote s n42 a43 e44).1).fl), lv, .int .i64 (((rdNote s n42 a43 e44).1).ec), .int .i64 (((rdNote s n42 a43 e44).1).er), ev, .int .u64 (((rdNote s n42 a43 e44).1).ets), .int .i64 (((rdNote s n42 a43 e44).1).pid), .int .u64 (((rdNote s n42 a43 e44).1).pat), .int .i64 (((rdNote s n42 a43 e44).1).plf), .int .i64 (((rdNote s n42 a43 e44).1).sc), .int .i64 (((rdNote s n42 a43 e44).1).sr), .int .i64 (((rdNote s n42 a43 e44).1).se), .int .i64 (((rdNote s n42 a43 e44).1).sp)], .int .i64 ((rdNote s n42 a43 e44).2.2.2)] ∧ xw.ownsRow w55.heap.size 185 2 mv ((rdNote s n42 a43 e44).1).ms.length (((rdNote s n42 a43 e44).1).ms.flatMap memE) ∧ xw.ownsRow w55.heap.size 3 1 lv ((rdNote s n42 a43 e44).1).lg.length (((rdNote s n42 a43 e44).1).lg.flatMap (intE .i64)) ∧ xw.ownsRow w55.heap.size 86 3 ev ((rdNote s n42 a43 e44).1).el.length (((rdNote s n42 a43 e44).1).el.flatMap opE) ∧ OXR N14 s ((rdNote s n42 a43 e44).2.1) ((rdNote s n42 a43 e44).2.2.1) xw ∧ But (fun q => q = N14) w55 xw) rfl rfl rfl (by kernel_rfl) (by kernel_rfl) (Try.call94 _ _) (rnWhole_any N14 s a43 e44 n42 ((rdNote s n42 a43 e44).1) ((rdNote s n42 a43 e44).2.1) ((rdNote s n42 a43 e44).2.2.1) ((rdNote s n42 a43 e44).2.2.2) w55 (by first | omega | (simp; done) | (simp; omega)) ho64 (by first | omega | (simp; done) | (simp; omega)) rfl) (by rintro e x ⟨mv, lv, ev, rfl, hq1079, hq1080, hq1081, hq1082, hb1083⟩; exact ⟨_, rfl, ⟨mv, lv, ev, rfl, hq1079, hq1080, hq1081, hq1082, hb1083⟩⟩)) ?_; clear h1073
    rintro _ w1075 a1074 ⟨mv1076, lv1077, ev1078, rfl, hq1079, hq1080, hq1081, hq1082, hb1083⟩ h1074
    have hz1084 := hb1083.size
    have hl1085 := sl_len (row_sl hq1079 memE_len)
    have hl1086 := sl_len (row_sl hq1080 (intE_len .i64))
    have hl1087 := sl_len (row_sl hq1081 opE_len)
    have hl1088 := hq1082.lt
    refine pk0 (v := .tuple #[.agg #[.int .i64 (((rdNote s n42 a43 e44).1).k), .int .i64 (((rdNote s n42 a43 e44).1).n), .int .u64 (((rdNote s n42 a43 e44).1).t), .int .i64 (((rdNote s n42 a43 e44).1).ep), mv1076, .int .u64 (((rdNote s n42 a43 e44).1).fl), lv1077, .int .i64 (((rdNote s n42 a43 e44).1).ec), .int .i64 (((rdNote s n42 a43 e44).1).er), ev1078, .int .u64 (((rdNote s n42 a43 e44).1).ets), .int .i64 (((rdNote s n42 a43 e44).1).pid), .int .u64 (((rdNote s n42 a43 e44).1).pat), .int .i64 (((rdNote s n42 a43 e44).1).plf), .int .i64 (((rdNote s n42 a43 e44).1).sc), .int .i64 (((rdNote s n42 a43 e44).1).sr), .int .i64 (((rdNote s n42 a43 e44).1).se), .int .i64 (((rdNote s n42 a43 e44).1).sp)], .int .i64 ((rdNote s n42 a43 e44).2.2.2)]) h1074 rfl fun a1089 h1089 => ?_; clear h1074
    refine pk0 (v := .agg #[.int .i64 (((rdNote s n42 a43 e44).1).k), .int .i64 (((rdNote s n42 a43 e44).1).n), .int .u64 (((rdNote s n42 a43 e44).1).t), .int .i64 (((rdNote s n42 a43 e44).1).ep), mv1076, .int .u64 (((rdNote s n42 a43 e44).1).fl), lv1077, .int .i64 (((rdNote s n42 a43 e44).1).ec), .int .i64 (((rdNote s n42 a43 e44).1).er), ev1078, .int .u64 (((rdNote s n42 a43 e44).1).ets), .int .i64 (((rdNote s n42 a43 e44).1).pid), .int .u64 (((rdNote s n42 a43 e44).1).pat), .int .i64 (((rdNote s n42 a43 e44).1).plf), .int .i64 (((rdNote s n42 a43 e44).1).sc), .int .i64 (((rdNote s n42 a43 e44).1).sr), .int .i64 (((rdNote s n42 a43 e44).1).se), .int .i64 (((rdNote s n42 a43 e44).1).sp)]) h1089 rfl fun a1090 h1090 => ?_; clear h1089
    refine pk0 (v := .int .i64 ((rdNote s n42 a43 e44).2.2.2)) h1090 rfl fun a1091 h1091 => ?_; clear h1090
    refine pw h1091 rfl (op_new (v := fun N => pt N 0) (T := 73) (cs := #[.int .i64 0, .int .i64 0, .int .u64 0, .int .i64 0, .slice none 0 0, .int .u64 0, .slice none 0 0, .int .i64 0, .int .i64 0, .slice none 0 0, .int .u64 0, .int .i64 0, .int .u64 0, .int .i64 0, .int .i64 0, .int .i64 0, .int .i64 0, .int .i64 0]) (by kernel_rfl) (by kernel_rfl) (by kernel_rfl)) ?_; clear h1091
    rintro _ w1093 a1092 ⟨N1094, rfl, hN1097, hz1098, hk1096, hg1095⟩ h1092
    have ha1099 := row_fresh hq1079 hN1097
    have ha1100 := row_fresh hq1080 hN1097
    have ha1101 := row_fresh hq1081 hN1097
    have hz1102 := hg1095.size
    try dsimp only at h1092
    have hr1108 := row_kept_new hq1081 hg1095
    have hr1109 := row_kept_new hq1080 hg1095
    have hr1110 := row_kept_new hq1079 hg1095
    refine pwD h1092 rfl (op_storeN rfl rfl rfl (all_cons rfl (all_cons rfl (all_cons rfl (all_cons rfl (all_cons (row_one hr1110) (all_cons rfl (all_cons (row_one hr1109) (all_cons rfl (all_cons rfl (all_cons (row_one hr1108) (all_cons rfl (all_cons rfl (all_cons rfl (all_cons rfl (all_cons rfl (all_cons rfl (all_cons rfl (all_cons rfl all_nil)))))))))))))))))) (by kernel_rfl) hk1096 rfl) ?_; clear h1092
    rintro _ w1104 a1103 ⟨hk1105, hz1106, hg1107⟩ h1103
    have hk1105' : Blk w1104 N1094 73 #[.int .i64 (((rdNote s n42 a43 e44).1).k), .int .i64 (((rdNote s n42 a43 e44).1).n), .int .u64 (((rdNote s n42 a43 e44).1).t), .int .i64 (((rdNote s n42 a43 e44).1).ep), mv1076, .int .u64 (((rdNote s n42 a43 e44).1).fl), lv1077, .int .i64 (((rdNote s n42 a43 e44).1).ec), .int .i64 (((rdNote s n42 a43 e44).1).er), ev1078, .int .u64 (((rdNote s n42 a43 e44).1).ets), .int .i64 (((rdNote s n42 a43 e44).1).pid), .int .u64 (((rdNote s n42 a43 e44).1).pat), .int .i64 (((rdNote s n42 a43 e44).1).plf), .int .i64 (((rdNote s n42 a43 e44).1).sc), .int .i64 (((rdNote s n42 a43 e44).1).sr), .int .i64 (((rdNote s n42 a43 e44).1).se), .int .i64 (((rdNote s n42 a43 e44).1).sp)] := hk1105; clear hk1105
    have hz1111 := hg1107.size
    refine pk0 (v := .int .i64 ((rdNote s n42 a43 e44).2.2.2)) h1103 rfl fun a1112 h1112 => ?_; clear h1103
    refine pl_nil ?_
    refine co_then ?_
    refine co_seq ?_
    refine co_seq ?_
    refine co_reg ?_
    refine pk0 (v := .int .i64 ((rdNote s n42 a43 e44).2.2.2)) h1112 rfl fun a1113 h1113 => ?_; clear h1112
    refine pk0 (v := .bool (((rdNote s n42 a43 e44).2.2.2) != 0)) h1113 rfl fun a1114 h1114 => ?_; clear h1113
    refine pl_nil ?_
    refine co_then ?_
    have hB1116 := hb_foot hB74 hb1083 (fun i hlt hS => by (try simp at hS); first | omega | (simp; omega) | simp_all)
    have hB1117 := hb_new hB1116 hg1095
    have hB1118 := hb_at hB1117 hg1107 (by omega)
    have hk1119 := hk79.but hb1083 (by first | omega | (simp; omega))
    have hk1120 := hk1119.kept hg1095 (by simp)
    have hk1121 := hk1120.kept hg1107 (by simp; omega)
    have hk1122 := hk56'.but hb1083 (by first | omega | (simp; omega))
    have hk1123 := hk1122.kept hg1095 (by simp)
    have hk1124 := hk1123.kept hg1107 (by simp; omega)
    have ho1125 := hq1082.new hg1095
    have ho1126 := ho1125.at (by omega) hg1107
    cases hc1115 : (((rdNote s n42 a43 e44).2.2.2) != 0)
    ·
     rw [hc1115] at h1114
     have hp1127 : ¬ (((rdNote s n42 a43 e44).2.2.2) ≠ 0) := by first | simpa using hc1115 | simpa [and_assoc] using hc1115
     clear hc1115
     refine co_false h1114 rfl ?_
     refine wp_skip ?_
     refine co_then ?_
     refine co_reg ?_
     refine pk (v := .agg #[.int .i64 (((rdNote s n42 a43 e44).1).k), .int .i64 (((rdNote s n42 a43 e44).1).n), .int .u64 (((rdNote s n42 a43 e44).1).t), .int .i64 (((rdNote s n42 a43 e44).1).ep), mv1076, .int .u64 (((rdNote s n42 a43 e44).1).fl), lv1077, .int .i64 (((rdNote s n42 a43 e44).1).ec), .int .i64 (((rdNote s n42 a43 e44).1).er), ev1078, .int .u64 (((rdNote s n42 a43 e44).1).ets), .int .i64 (((rdNote s n42 a43 e44).1).pid), .int .u64 (((rdNote s n42 a43 e44).1).pat), .int .i64 (((rdNote s n42 a43 e44).1).plf), .int .i64 (((rdNote s n42 a43 e44).1).sc), .int .i64 (((rdNote s n42 a43 e44).1).sr), .int .i64 (((rdNote s n42 a43 e44).1).se), .int .i64 (((rdNote s n42 a43 e44).1).sp)]) h1114 rfl (rn_loadN rfl rfl Try.underlying73 rfl (by kernel_rfl) hk1105'.all) fun a1128 h1128 => ?_; clear h1114
     have hr1134 := row_kept_at hr1108 hg1107 (ha1101)
     have hr1135 := row_kept_at hr1109 hg1107 (ha1100)
     have hr1136 := row_kept_at hr1110 hg1107 (ha1099)
     refine pwD h1128 rfl (op_storeN rfl rfl rfl (all_cons rfl (all_cons rfl (all_cons rfl (all_cons rfl (all_cons (row_one hr1136) (all_cons rfl (all_cons (row_one hr1135) (all_cons rfl (all_cons rfl (all_cons (row_one hr1134) (all_cons rfl (all_cons rfl (all_cons rfl (all_cons rfl (all_cons rfl (all_cons rfl (all_cons rfl (all_cons rfl all_nil)))))))))))))))))) (by kernel_rfl) hk1124 rfl) ?_; clear h1128
     rintro _ w1130 a1129 ⟨hk1131, hz1132, hg1133⟩ h1129
     have hk1131' : Blk w1130 N24 73 #[.int .i64 (((rdNote s n42 a43 e44).1).k), .int .i64 (((rdNote s n42 a43 e44).1).n), .int .u64 (((rdNote s n42 a43 e44).1).t), .int .i64 (((rdNote s n42 a43 e44).1).ep), mv1076, .int .u64 (((rdNote s n42 a43 e44).1).fl), lv1077, .int .i64 (((rdNote s n42 a43 e44).1).ec), .int .i64 (((rdNote s n42 a43 e44).1).er), ev1078, .int .u64 (((rdNote s n42 a43 e44).1).ets), .int .i64 (((rdNote s n42 a43 e44).1).pid), .int .u64 (((rdNote s n42 a43 e44).1).pat), .int .i64 (((rdNote s n42 a43 e44).1).plf), .int .i64 (((rdNote s n42 a43 e44).1).sc), .int .i64 (((rdNote s n42 a43 e44).1).sr), .int .i64 (((rdNote s n42 a43 e44).1).se), .int .i64 (((rdNote s n42 a43 e44).1).sp)] := hk1131; clear hk1131
     have hz1137 := hg1133.size
     refine pl_nil ?_
     refine co_blockN ?_
     refine co_then ?_
     refine co_seq ?_
     refine co_seq ?_
     refine co_reg ?_
     refine pk0 (v := pt N14 0) h1129 rfl fun a1138 h1138 => ?_; clear h1129
     have ho1144 := ho1126.at (by omega) hg1133
     refine pw h1138 rfl (op_call (args := #[pt N14 0]) (R := fun res xw => ∃ r : Int, res = .int .i64 r ∧ endV s ((rdNote s n42 a43 e44).2.1).toNat ((rdNote s n42 a43 e44).2.2.1) = r ∧ Below w1130.heap.size w1130 xw) rfl rfl rfl (by kernel_rfl) (by kernel_rfl) (Try.call75 _ _) (oxr_end N14 s ((rdNote s n42 a43 e44).2.1) ((rdNote s n42 a43 e44).2.2.1) w1130 ho1144 (by omega)) (by rintro e x ⟨r, rfl, h0, h2⟩; exact ⟨_, rfl, r, rfl, h0, h2⟩)) ?_; clear h1138
     rintro _ w1140 a1139 ⟨r1141, rfl, hq1142, hb1143⟩ h1139
     have hz1145 := hb1143.size
     have k1146 : ((rdNote s n42 a43 e44).2.2.1) ≠ 0 → r1141 = ((rdNote s n42 a43 e44).2.2.1) := fun he => by rw [← hq1142]; exact endV_e he
     refine pk0 (v := .int .i64 r1141) h1139 rfl fun a1147 h1147 => ?_; clear h1139
     refine pl_nil ?_
     refine co_then ?_
     refine co_seq ?_
     refine co_reg ?_
     refine pk0 (v := .int .i64 r1141) h1147 rfl fun a1148 h1148 => ?_; clear h1147
     refine pk0 (v := .bool (r1141 != 0)) h1148 rfl fun a1149 h1149 => ?_; clear h1148
     refine pl_nil ?_
     refine co_then ?_
     have hB1151 := hb_at hB1118 hg1133 (by omega)
     have hB1152 := hb_call hB1151 hb1143
     have hk1153 := hk1121.kept hg1133 (by simp; omega)
     have hk1154 := hk1153.below hb1143
     have hr1155 := row_kept_at hr1136 hg1133 (row_ne_lt hr1136 (by omega))
     have hr1156 := row_kept_new hr1155 (below_grown hb1143)
     have hr1157 := row_kept_at hr1135 hg1133 (row_ne_lt hr1135 (by omega))
     have hr1158 := row_kept_new hr1157 (below_grown hb1143)
     have hr1159 := row_kept_at hr1134 hg1133 (row_ne_lt hr1134 (by omega))
     have hr1160 := row_kept_new hr1159 (below_grown hb1143)
     have hk1161 := hk1105'.kept hg1133 (by simp; omega)
     have hk1162 := hk1161.below hb1143
     cases hc1150 : (r1141 != 0)
     ·
      rw [hc1150] at h1149
      have hp1163 : ¬ (r1141 ≠ 0) := by first | simpa using hc1150 | simpa [and_assoc] using hc1150
      clear hc1150
      refine co_false h1149 rfl ?_
      refine wp_skip ?_
      refine co_then ?_
      refine co_seq ?_
      refine co_seq ?_
      refine co_reg ?_
      have hk1164 := hk1131'.below hb1143
      refine pk (v := .agg #[.int .i64 (((rdNote s n42 a43 e44).1).k), .int .i64 (((rdNote s n42 a43 e44).1).n), .int .u64 (((rdNote s n42 a43 e44).1).t), .int .i64 (((rdNote s n42 a43 e44).1).ep), mv1076, .int .u64 (((rdNote s n42 a43 e44).1).fl), lv1077, .int .i64 (((rdNote s n42 a43 e44).1).ec), .int .i64 (((rdNote s n42 a43 e44).1).er), ev1078, .int .u64 (((rdNote s n42 a43 e44).1).ets), .int .i64 (((rdNote s n42 a43 e44).1).pid), .int .u64 (((rdNote s n42 a43 e44).1).pat), .int .i64 (((rdNote s n42 a43 e44).1).plf), .int .i64 (((rdNote s n42 a43 e44).1).sc), .int .i64 (((rdNote s n42 a43 e44).1).sr), .int .i64 (((rdNote s n42 a43 e44).1).se), .int .i64 (((rdNote s n42 a43 e44).1).sp)]) h1149 rfl (rn_loadN rfl rfl Try.underlying73 rfl (by kernel_rfl) hk1164.all) fun a1165 h1165 => ?_; clear h1149
      refine pw h1165 rfl (op_call (args := #[.agg #[.int .i64 (((rdNote s n42 a43 e44).1).k), .int .i64 (((rdNote s n42 a43 e44).1).n), .int .u64 (((rdNote s n42 a43 e44).1).t), .int .i64 (((rdNote s n42 a43 e44).1).ep), mv1076, .int .u64 (((rdNote s n42 a43 e44).1).fl), lv1077, .int .i64 (((rdNote s n42 a43 e44).1).ec), .int .i64 (((rdNote s n42 a43 e44).1).er), ev1078, .int .u64 (((rdNote s n42 a43 e44).1).ets), .int .i64 (((rdNote s n42 a43 e44).1).pid), .int .u64 (((rdNote s n42 a43 e44).1).pat), .int .i64 (((rdNote s n42 a43 e44).1).plf), .int .i64 (((rdNote s n42 a43 e44).1).sc), .int .i64 (((rdNote s n42 a43 e44).1).sr), .int .i64 (((rdNote s n42 a43 e44).1).se), .int .i64 (((rdNote s n42 a43 e44).1).sp)]]) (R := fun res xw => res = .int .i64 (chkN ((rdNote s n42 a43 e44).1)) ∧ Below w1140.heap.size w1140 xw) rfl rfl rfl (by kernel_rfl) (by kernel_rfl) (Try.call95 _ _) (rnCheck_any ((rdNote s n42 a43 e44).1) mv1076 lv1077 ev1078 w1140 (row_sl hr1156 memE_len) (row_sl hr1158 (intE_len .i64)) (row_sl hr1160 opE_len) (rdNote_R _ _ _ _)) (by rintro e x ⟨rfl, hb1168⟩; exact ⟨_, rfl, ⟨rfl, hb1168⟩⟩)) ?_; clear h1165
      rintro _ w1167 a1166 ⟨rfl, hb1168⟩ h1166
      have hz1169 := hb1168.size
      refine pk0 (v := .int .i64 (chkN ((rdNote s n42 a43 e44).1))) h1166 rfl fun a1170 h1170 => ?_; clear h1166
      refine pl_nil ?_
      refine co_then ?_
      refine co_seq ?_
      refine co_reg ?_
      refine pk0 (v := .int .i64 (chkN ((rdNote s n42 a43 e44).1))) h1170 rfl fun a1171 h1171 => ?_; clear h1170
      refine pk0 (v := .bool (chkN ((rdNote s n42 a43 e44).1) != 0)) h1171 rfl fun a1172 h1172 => ?_; clear h1171
      refine pl_nil ?_
      refine co_then ?_
      have hB1174 := hb_call hB1152 hb1168
      have ho1175 := ho1144.below hb1143
      have ho1176 := ho1175.below hb1168
      cases hc1173 : (chkN ((rdNote s n42 a43 e44).1) != 0)
      ·
       rw [hc1173] at h1172
       have hp1177 : ¬ (chkN ((rdNote s n42 a43 e44).1) ≠ 0) := by first | simpa using hc1173 | simpa [and_assoc] using hc1173
       clear hc1173
       refine co_false h1172 rfl ?_
       refine wp_skip ?_
       refine co_then ?_
       refine co_seq ?_
       refine co_reg ?_
       have hk1178 := hk1164.below hb1168
       refine pk (v := .agg #[.int .i64 (((rdNote s n42 a43 e44).1).k), .int .i64 (((rdNote s n42 a43 e44).1).n), .int .u64 (((rdNote s n42 a43 e44).1).t), .int .i64 (((rdNote s n42 a43 e44).1).ep), mv1076, .int .u64 (((rdNote s n42 a43 e44).1).fl), lv1077, .int .i64 (((rdNote s n42 a43 e44).1).ec), .int .i64 (((rdNote s n42 a43 e44).1).er), ev1078, .int .u64 (((rdNote s n42 a43 e44).1).ets), .int .i64 (((rdNote s n42 a43 e44).1).pid), .int .u64 (((rdNote s n42 a43 e44).1).pat), .int .i64 (((rdNote s n42 a43 e44).1).plf), .int .i64 (((rdNote s n42 a43 e44).1).sc), .int .i64 (((rdNote s n42 a43 e44).1).sr), .int .i64 (((rdNote s n42 a43 e44).1).se), .int .i64 (((rdNote s n42 a43 e44).1).sp)]) h1172 rfl (rn_loadN rfl rfl Try.underlying73 rfl (by kernel_rfl) hk1178.all) fun a1179 h1179 => ?_; clear h1172
       have hr1185 := row_kept_new hr1160 (below_grown hb1168)
       have hr1186 := row_kept_new hr1158 (below_grown hb1168)
       have hr1187 := row_kept_new hr1156 (below_grown hb1168)
       have hk1188 := hk1154.below hb1168
       refine pwD h1179 rfl (op_storeN rfl rfl rfl (all_cons rfl (all_cons rfl (all_cons rfl (all_cons rfl (all_cons (row_one hr1187) (all_cons rfl (all_cons (row_one hr1186) (all_cons rfl (all_cons rfl (all_cons (row_one hr1185) (all_cons rfl (all_cons rfl (all_cons rfl (all_cons rfl (all_cons rfl (all_cons rfl (all_cons rfl (all_cons rfl all_nil)))))))))))))))))) (by kernel_rfl) hk1188 rfl) ?_; clear h1179
       rintro _ w1181 a1180 ⟨hk1182, hz1183, hg1184⟩ h1180
       have hk1182' : Blk w1181 N3 73 #[.int .i64 (((rdNote s n42 a43 e44).1).k), .int .i64 (((rdNote s n42 a43 e44).1).n), .int .u64 (((rdNote s n42 a43 e44).1).t), .int .i64 (((rdNote s n42 a43 e44).1).ep), mv1076, .int .u64 (((rdNote s n42 a43 e44).1).fl), lv1077, .int .i64 (((rdNote s n42 a43 e44).1).ec), .int .i64 (((rdNote s n42 a43 e44).1).er), ev1078, .int .u64 (((rdNote s n42 a43 e44).1).ets), .int .i64 (((rdNote s n42 a43 e44).1).pid), .int .u64 (((rdNote s n42 a43 e44).1).pat), .int .i64 (((rdNote s n42 a43 e44).1).plf), .int .i64 (((rdNote s n42 a43 e44).1).sc), .int .i64 (((rdNote s n42 a43 e44).1).sr), .int .i64 (((rdNote s n42 a43 e44).1).se), .int .i64 (((rdNote s n42 a43 e44).1).sp)] := hk1182; clear hk1182
       have hz1189 := hg1184.size
       refine pk0 (v := .int .i64 0) h1180 rfl fun a1190 h1190 => ?_; clear h1180
       refine pl_nil ?_
       refine co_then ?_
       refine wp_ret ?_
       refine co_retC1 (Q := fun _ _ _ => True) h1190 rfl rfl rfl hk1182' Try.underlying73 rfl (by kernel_rfl) ?_
       have hr1191 := row_kept_at hr1187 hg1184 (row_ne_lt hr1187 (by omega))
       have hr1192 := row_kept_at hr1186 hg1184 (row_ne_lt hr1186 (by omega))
       have hr1193 := row_kept_at hr1185 hg1184 (row_ne_lt hr1185 (by omega))
       have hB1194 := hb_at hB1174 hg1184 (by omega)
       cases hof.symm.trans (nOf_q' hq45 (by omega) (by omega) (nEnd_o' (by assumption) hq1142 (by assumption) (by assumption)))
       exact ⟨_, _, _, rfl, (row_lows hr1191 (by omega)), (row_lows hr1192 (by omega)), (row_lows hr1193 (by omega)), hB1194⟩
      ·
       rw [hc1173] at h1172
       have hp1195 : chkN ((rdNote s n42 a43 e44).1) ≠ 0 := by first | simpa using hc1173 | simpa [and_assoc] using hc1173
       clear hc1173
       refine co_true h1172 rfl ?_
       refine co_seq ?_
       refine co_reg ?_
       refine pk0 (v := .agg #[.int .i64 0, .int .i64 0, .int .u64 0, .int .i64 0, .slice none 0 0, .int .u64 0, .slice none 0 0, .int .i64 0, .int .i64 0, .slice none 0 0, .int .u64 0, .int .i64 0, .int .u64 0, .int .i64 0, .int .i64 0, .int .i64 0, .int .i64 0, .int .i64 0]) h1172 rfl fun a1196 h1196 => ?_; clear h1172
       refine pk0 (v := .int .i64 (chkN ((rdNote s n42 a43 e44).1))) h1196 rfl fun a1197 h1197 => ?_; clear h1196
       have hk1203 := hk1154.below hb1168
       refine pwD h1197 rfl (op_storeN rfl rfl rfl (all_cons rfl (all_cons rfl (all_cons rfl (all_cons rfl (all_cons rfl (all_cons rfl (all_cons rfl (all_cons rfl (all_cons rfl (all_cons rfl (all_cons rfl (all_cons rfl (all_cons rfl (all_cons rfl (all_cons rfl (all_cons rfl (all_cons rfl (all_cons rfl all_nil)))))))))))))))))) (by kernel_rfl) hk1203 rfl) ?_; clear h1197
       rintro _ w1199 a1198 ⟨hk1200, hz1201, hg1202⟩ h1198
       have hk1200' : Blk w1199 N3 73 #[.int .i64 0, .int .i64 0, .int .u64 0, .int .i64 0, .slice none 0 0, .int .u64 0, .slice none 0 0, .int .i64 0, .int .i64 0, .slice none 0 0, .int .u64 0, .int .i64 0, .int .u64 0, .int .i64 0, .int .i64 0, .int .i64 0, .int .i64 0, .int .i64 0] := hk1200; clear hk1200
       have hz1204 := hg1202.size
       refine pk0 (v := .int .i64 (chkN ((rdNote s n42 a43 e44).1))) h1198 rfl fun a1205 h1205 => ?_; clear h1198
       refine pl_nil ?_
       refine co_then ?_
       refine wp_ret ?_
       refine co_thenR ?_
       refine co_retC1 (Q := fun _ _ _ => True) h1205 rfl rfl rfl hk1200' Try.underlying73 rfl (by kernel_rfl) ?_
       have hB1206 := hb_at hB1174 hg1202 (by omega)
       cases hof.symm.trans (nOf_q' hq45 (by omega) (by omega) (nEnd_c' (by assumption) hq1142 (by assumption) (by assumption)))
       exact ⟨_, _, _, rfl, (row_nilL _ _ _ _ _), (row_nilL _ _ _ _ _), (row_nilL _ _ _ _ _), hB1206⟩
     ·
      rw [hc1150] at h1149
      have hp1207 : r1141 ≠ 0 := by first | simpa using hc1150 | simpa [and_assoc] using hc1150
      clear hc1150
      refine co_true h1149 rfl ?_
      refine co_seq ?_
      refine co_reg ?_
      refine pk0 (v := .agg #[.int .i64 0, .int .i64 0, .int .u64 0, .int .i64 0, .slice none 0 0, .int .u64 0, .slice none 0 0, .int .i64 0, .int .i64 0, .slice none 0 0, .int .u64 0, .int .i64 0, .int .u64 0, .int .i64 0, .int .i64 0, .int .i64 0, .int .i64 0, .int .i64 0]) h1149 rfl fun a1208 h1208 => ?_; clear h1149
      refine pk0 (v := .int .i64 r1141) h1208 rfl fun a1209 h1209 => ?_; clear h1208
      refine pwD h1209 rfl (op_storeN rfl rfl rfl (all_cons rfl (all_cons rfl (all_cons rfl (all_cons rfl (all_cons rfl (all_cons rfl (all_cons rfl (all_cons rfl (all_cons rfl (all_cons rfl (all_cons rfl (all_cons rfl (all_cons rfl (all_cons rfl (all_cons rfl (all_cons rfl (all_cons rfl (all_cons rfl all_nil)))))))))))))))))) (by kernel_rfl) hk1154 rfl) ?_; clear h1209
      rintro _ w1211 a1210 ⟨hk1212, hz1213, hg1214⟩ h1210
      have hk1212' : Blk w1211 N3 73 #[.int .i64 0, .int .i64 0, .int .u64 0, .int .i64 0, .slice none 0 0, .int .u64 0, .slice none 0 0, .int .i64 0, .int .i64 0, .slice none 0 0, .int .u64 0, .int .i64 0, .int .u64 0, .int .i64 0, .int .i64 0, .int .i64 0, .int .i64 0, .int .i64 0] := hk1212; clear hk1212
      have hz1215 := hg1214.size
      refine pk0 (v := .int .i64 r1141) h1210 rfl fun a1216 h1216 => ?_; clear h1210
      refine pl_nil ?_
      refine co_then ?_
      refine wp_ret ?_
      refine co_thenR ?_
      refine co_retC1 (Q := fun _ _ _ => True) h1216 rfl rfl rfl hk1212' Try.underlying73 rfl (by kernel_rfl) ?_
      have hB1217 := hb_at hB1152 hg1214 (by omega)
      cases hof.symm.trans (nOf_q' hq45 (by omega) (by omega) (nEnd_x' (by assumption) hq1142 (by assumption)))
      exact ⟨_, _, _, rfl, (row_nilL _ _ _ _ _), (row_nilL _ _ _ _ _), (row_nilL _ _ _ _ _), hB1217⟩
    ·
     rw [hc1115] at h1114
     have hp1218 : ((rdNote s n42 a43 e44).2.2.2) ≠ 0 := by first | simpa using hc1115 | simpa [and_assoc] using hc1115
     clear hc1115
     refine co_true h1114 rfl ?_
     refine co_seq ?_
     refine co_reg ?_
     refine pk0 (v := .agg #[.int .i64 0, .int .i64 0, .int .u64 0, .int .i64 0, .slice none 0 0, .int .u64 0, .slice none 0 0, .int .i64 0, .int .i64 0, .slice none 0 0, .int .u64 0, .int .i64 0, .int .u64 0, .int .i64 0, .int .i64 0, .int .i64 0, .int .i64 0, .int .i64 0]) h1114 rfl fun a1219 h1219 => ?_; clear h1114
     refine pk0 (v := .int .i64 ((rdNote s n42 a43 e44).2.2.2)) h1219 rfl fun a1220 h1220 => ?_; clear h1219
     refine pwD h1220 rfl (op_storeN rfl rfl rfl (all_cons rfl (all_cons rfl (all_cons rfl (all_cons rfl (all_cons rfl (all_cons rfl (all_cons rfl (all_cons rfl (all_cons rfl (all_cons rfl (all_cons rfl (all_cons rfl (all_cons rfl (all_cons rfl (all_cons rfl (all_cons rfl (all_cons rfl (all_cons rfl all_nil)))))))))))))))))) (by kernel_rfl) hk1121 rfl) ?_; clear h1220
     rintro _ w1222 a1221 ⟨hk1223, hz1224, hg1225⟩ h1221
     have hk1223' : Blk w1222 N3 73 #[.int .i64 0, .int .i64 0, .int .u64 0, .int .i64 0, .slice none 0 0, .int .u64 0, .slice none 0 0, .int .i64 0, .int .i64 0, .slice none 0 0, .int .u64 0, .int .i64 0, .int .u64 0, .int .i64 0, .int .i64 0, .int .i64 0, .int .i64 0, .int .i64 0] := hk1223; clear hk1223
     have hz1226 := hg1225.size
     refine pk0 (v := .int .i64 ((rdNote s n42 a43 e44).2.2.2)) h1221 rfl fun a1227 h1227 => ?_; clear h1221
     refine pl_nil ?_
     refine co_then ?_
     refine wp_ret ?_
     refine co_thenR ?_
     refine co_blockR ?_
     refine co_thenR ?_
     refine co_retC1 (Q := fun _ _ _ => True) h1227 rfl rfl rfl hk1223' Try.underlying73 rfl (by kernel_rfl) ?_
     have hB1228 := hb_at hB1118 hg1225 (by omega)
     cases hof.symm.trans (nOf_q' hq45 (by omega) (by omega) (nEnd_r' (by assumption)))
     exact ⟨_, _, _, rfl, (row_nilL _ _ _ _ _), (row_nilL _ _ _ _ _), (row_nilL _ _ _ _ _), hB1228⟩
  ·
   rw [hc140] at h139
   have hp1229 : n42 = 0 := by first | simpa using hc140 | simpa [and_assoc] using hc140
   clear hc140
   refine co_true h139 rfl ?_
   refine co_seq ?_
   refine co_reg ?_
   refine pk0 (v := .agg #[.int .i64 0, .int .i64 0, .int .u64 0, .int .i64 0, .slice none 0 0, .int .u64 0, .slice none 0 0, .int .i64 0, .int .i64 0, .slice none 0 0, .int .u64 0, .int .i64 0, .int .u64 0, .int .i64 0, .int .i64 0, .int .i64 0, .int .i64 0, .int .i64 0]) h139 rfl fun a1230 h1230 => ?_; clear h139
   refine pwD h1230 rfl (op_storeN rfl rfl rfl (all_cons rfl (all_cons rfl (all_cons rfl (all_cons rfl (all_cons rfl (all_cons rfl (all_cons rfl (all_cons rfl (all_cons rfl (all_cons rfl (all_cons rfl (all_cons rfl (all_cons rfl (all_cons rfl (all_cons rfl (all_cons rfl (all_cons rfl (all_cons rfl all_nil)))))))))))))))))) (by kernel_rfl) hk79 rfl) ?_; clear h1230
   rintro _ w1232 a1231 ⟨hk1233, hz1234, hg1235⟩ h1231
   have hk1233' : Blk w1232 N3 73 #[.int .i64 0, .int .i64 0, .int .u64 0, .int .i64 0, .slice none 0 0, .int .u64 0, .slice none 0 0, .int .i64 0, .int .i64 0, .slice none 0 0, .int .u64 0, .int .i64 0, .int .u64 0, .int .i64 0, .int .i64 0, .int .i64 0, .int .i64 0, .int .i64 0] := hk1233; clear hk1233
   have hz1236 := hg1235.size
   refine pk0 (v := .int .i64 11) h1231 rfl fun a1237 h1237 => ?_; clear h1231
   refine pl_nil ?_
   refine co_then ?_
   refine wp_ret ?_
   refine co_thenR ?_
   refine co_retC1 (Q := fun _ _ _ => True) h1237 rfl rfl rfl hk1233' Try.underlying73 rfl (by kernel_rfl) ?_
   have hB1238 := hb_at hB74 hg1235 (by omega)
   cases hof.symm.trans (nOf_z hq45 (by omega) (by omega))
   exact ⟨_, _, _, rfl, (row_nilL _ _ _ _ _), (row_nilL _ _ _ _ _), (row_nilL _ _ _ _ _), hB1238⟩
end Go.Proofs.Yteioaaegooebpaa
