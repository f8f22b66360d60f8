/- Put together: NoteE, NoteG. Conditions: as each says. -/
import Derived.Test.YteioaaegooebpaaGreatNp3
/- Package note: Of. Conditions: none. -/
namespace Go.Proofs.YteioaaegooebpaaGreat
open Go.RowKit Go.PlainAid
set_option linter.unusedVariables false


theorem numR_e {s : ByteArray} {a x m n a1 e1 : Int} (h : numR s a x m = (n, a1, e1)) : e1 ≠ 0 → n = 0 := fun he => by
  unfold numR at h
  split at h
  · cases h; rfl
  · cases h
    rename_i h1
    split
    · rename_i h2; exact absurd h2 he
    · rfl
theorem ofC_ok (s : ByteArray) : (∀ m ∈ (ofC s).1.2.1, memOk m) ∧ (-9223372036854775808 ≤ (ofC s).1.1 ∧ (ofC s).1.1 ≤ 9223372036854775807) ∧ (0 ≤ (ofC s).1.2.2 ∧ (ofC s).1.2.2 < 18446744073709551616) := by
  unfold ofC
  split
  · have h1 := numR_bd s 0 0 1073741824 (by omega)
    refine ⟨ofRows_ok _ _ _ _ _ (by simp), ⟨?_, ?_⟩, bigR_bd _ _ _⟩
    · show _ ≤ (numR s 0 0 1073741824).1; omega
    · show (numR s 0 0 1073741824).1 ≤ _; omega
  · exact ⟨by simp, by simp, by simp⟩
theorem ofE_ok (s : ByteArray) : 0 ≤ (ofE s).1.2.2.2 ∧ (ofE s).1.2.2.2 < 18446744073709551616 := by
  have hb := bigR_le (s := s) (a := 0) (x := 0)
  show 0 ≤ (ofEndE _ _ _).1.2.2.2 ∧ (ofEndE _ _ _).1.2.2.2 < _
  unfold ofEndE
  split
  · exact ⟨Int.le_refl _, by show (0 : Int) < _; decide⟩
  · split
    · exact ⟨Int.le_refl _, by show (0 : Int) < _; decide⟩
    · exact hb
theorem whC_ok (s : ByteArray) (a e : Int) : (∀ m ∈ (whC s a e).1.2.1, memOk m) ∧ (-9223372036854775808 ≤ (whC s a e).1.1 ∧ (whC s a e).1.1 ≤ 9223372036854775807) ∧ (0 ≤ (whC s a e).1.2.2 ∧ (whC s a e).1.2.2 < 18446744073709551616) := by
  unfold whC
  simp only
  split
  · exact ⟨by simp, by simp, by simp⟩
  · exact ofC_ok _
theorem whE_ok (s : ByteArray) (a e : Int) : 0 ≤ (whE s a e).1.2.2.2 ∧ (whE s a e).1.2.2.2 < 18446744073709551616 := by
  unfold whE
  simp only
  split
  · exact ⟨Int.le_refl _, by show (0 : Int) < _; decide⟩
  · exact ofE_ok _
theorem rdNote_R (s : ByteArray) (k a e : Int) : NoteR (rdNote s k a e).1 := by
  have hz : ∀ x : Int, 0 ≤ (bigR s x 0).1 ∧ True := fun x => ⟨(bigR_bd s x 0).1, trivial⟩
  have c0 : (-9223372036854775808 : Int) ≤ 0 ∧ (0 : Int) ≤ 9223372036854775807 := by decide
  have u0 : (0 : Int) ≤ 0 ∧ (0 : Int) < 18446744073709551616 := by decide
  unfold rdNote
  split
  · simp only
    have h := whC_ok s a e
    split
    · exact ⟨h.1, h.2.1, h.2.2, u0, u0, u0⟩
    · exact ⟨h.1, h.2.1, h.2.2, u0, u0, u0⟩
  split
  · simp only
    exact ⟨by simp [zE], c0, u0, u0, whE_ok _ _ _, u0⟩
  split
  · simp only
    exact ⟨by simp [zT], c0, u0, bigR_bd _ _ _, u0, u0⟩
  split
  · simp only
    exact ⟨by simp [zT], c0, u0, bigR_bd _ _ _, u0, u0⟩
  split
  · exact ⟨by simp [zT], c0, u0, u0, u0, u0⟩
  split
  · simp only
    exact ⟨by simp [zP], c0, u0, u0, u0, bigR_bd _ _ _⟩
  split
  · exact ⟨by simp [zS], c0, u0, u0, u0, u0⟩
  · exact zN_R k
def nEnd (s : ByteArray) (q : NoteD × Int × Int × Int) : NoteD × Int :=
  if q.2.2.2 ≠ 0 then (zN 0, q.2.2.2) else if endV s q.2.1.toNat q.2.2.1 ≠ 0 then (zN 0, endV s q.2.1.toNat q.2.2.1) else if chkN q.1 ≠ 0 then (zN 0, chkN q.1) else (q.1, 0)
def noteOf (s : ByteArray) : NoteD × Int :=
  let h := numR s 0 0 8
  if h.2.2 ≠ 0 then (zN 0, h.2.2) else if ¬ (1 ≤ h.1 ∧ h.1 ≤ 8) then (zN 0, 11) else nEnd s (rdNote s h.1 h.2.1 h.2.2)
theorem nOf_e {s : ByteArray} {k a e : Int} (h : numR s 0 0 8 = (k, a, e)) (he : e ≠ 0) : noteOf s = (zN 0, e) := by unfold noteOf; simp only [h]; rw [if_pos he]
theorem nOf_k {s : ByteArray} {k a e : Int} (h : numR s 0 0 8 = (k, a, e)) (he : ¬ e ≠ 0) (hk : ¬ (1 ≤ k ∧ k ≤ 8)) : noteOf s = (zN 0, 11) := by unfold noteOf; simp only [h]; rw [if_neg he, if_pos hk]
theorem nOf_q {s : ByteArray} {k a e a1 e1 r : Int} {d : NoteD} {z : NoteD × Int} (h : numR s 0 0 8 = (k, a, e)) (he : ¬ e ≠ 0) (hk : 1 ≤ k ∧ k ≤ 8) (hq : rdNote s k a e = (d, a1, e1, r)) (hz : nEnd s (d, a1, e1, r) = z) : noteOf s = z := by unfold noteOf; simp only [h]; rw [if_neg he, if_neg (fun h => h hk), hq, hz]
theorem nEnd_r {s : ByteArray} {a1 e1 r : Int} {d : NoteD} (h : r ≠ 0) : nEnd s (d, a1, e1, r) = (zN 0, r) := by unfold nEnd; rw [if_pos h]
theorem nEnd_x {s : ByteArray} {a1 e1 r x : Int} {d : NoteD} (h : ¬ r ≠ 0) (hx : endV s a1.toNat e1 = x) (h1 : x ≠ 0) : nEnd s (d, a1, e1, r) = (zN 0, x) := by subst hx; unfold nEnd; rw [if_neg h, if_pos h1]
theorem nEnd_c {s : ByteArray} {a1 e1 r x : Int} {d : NoteD} (h : ¬ r ≠ 0) (hx : endV s a1.toNat e1 = x) (h1 : ¬ x ≠ 0) (h2 : chkN d ≠ 0) : nEnd s (d, a1, e1, r) = (zN 0, chkN d) := by subst hx; unfold nEnd; rw [if_neg h, if_neg h1, if_pos h2]
theorem nEnd_o {s : ByteArray} {a1 e1 r x : Int} {d : NoteD} (h : ¬ r ≠ 0) (hx : endV s a1.toNat e1 = x) (h1 : ¬ x ≠ 0) (h2 : ¬ chkN d ≠ 0) : nEnd s (d, a1, e1, r) = (d, 0) := by subst hx; unfold nEnd; rw [if_neg h, if_neg h1, if_neg h2]
theorem nOf_q' {s : ByteArray} {k a e : Int} {z : NoteD × Int} (h : numR s 0 0 8 = (k, a, e)) (he : ¬ e ≠ 0) (hk : 1 ≤ k ∧ k ≤ 8) (hz : nEnd s (rdNote s k a e) = z) : noteOf s = z := nOf_q h he hk rfl hz
theorem nEnd_r' {s : ByteArray} {q : NoteD × Int × Int × Int} (h : q.2.2.2 ≠ 0) : nEnd s q = (zN 0, q.2.2.2) := nEnd_r (d := q.1) (a1 := q.2.1) (e1 := q.2.2.1) h
theorem nEnd_x' {s : ByteArray} {x : Int} {q : NoteD × Int × Int × Int} (h : ¬ q.2.2.2 ≠ 0) (hx : endV s q.2.1.toNat q.2.2.1 = x) (h1 : x ≠ 0) : nEnd s q = (zN 0, x) := nEnd_x (d := q.1) h hx h1
theorem nEnd_c' {s : ByteArray} {x : Int} {q : NoteD × Int × Int × Int} (h : ¬ q.2.2.2 ≠ 0) (hx : endV s q.2.1.toNat q.2.2.1 = x) (h1 : ¬ x ≠ 0) (h2 : chkN q.1 ≠ 0) : nEnd s q = (zN 0, chkN q.1) := nEnd_c (d := q.1) h hx h1 h2
theorem nEnd_o' {s : ByteArray} {x : Int} {q : NoteD × Int × Int × Int} (h : ¬ q.2.2.2 ≠ 0) (hx : endV s q.2.1.toNat q.2.2.1 = x) (h1 : ¬ x ≠ 0) (h2 : ¬ chkN q.1 ≠ 0) : nEnd s q = (q.1, 0) := nEnd_o (d := q.1) h hx h1 h2
theorem endV_e {s : ByteArray} {a : Nat} {e : Int} (h : e ≠ 0) : endV s a e = e := by unfold endV; rw [if_neg h]
/-- The document asks at the end alone. -/
theorem nEnd_xx {s : ByteArray} {a1 e1 x : Int} {d : NoteD} (hx : endV s a1.toNat e1 = x) (h1 : x ≠ 0) : nEnd s (d, a1, e1, e1) = (zN 0, x) := by
  by_cases he : e1 ≠ 0
  · rw [endV_e he] at hx; subst hx; exact nEnd_r he
  · exact nEnd_x he hx h1
theorem endV_0 {s : ByteArray} {a : Nat} {e x : Int} (hx : endV s a e = x) (h : ¬ x ≠ 0) : ¬ e ≠ 0 := fun he => by rw [endV_e he] at hx; exact h (by rw [← hx]; exact he)

set_option maxRecDepth 100000 in
theorem nOf_any (s : ByteArray) (d : NoteD) (x : Int) (w : World) (hsz : s.size ≤ 9223372036854775807) (hof : noteOf s = (d, x)) :
    Calls Tryz.prog 65 #[.string s] w fun e w' => ∃ (mv : Value) (lv : Value) (ev : Value), e = .returned (.tuple #[.agg #[.int .i64 d.k, .int .i64 d.n, .int .u64 d.t, .int .i64 d.ep, mv, .int .u64 d.fl, lv, .int .i64 d.ec, .int .i64 d.er, ev, .int .u64 d.ets, .int .i64 d.pid, .int .u64 d.pat, .int .i64 d.plf, .int .i64 d.sc, .int .i64 d.sr, .int .i64 d.se, .int .i64 d.sp], .int .i64 x]) ∧ w'.ownsRow w.heap.size 154 2 mv d.ms.length (d.ms.flatMap memE) ∧ w'.ownsRow w.heap.size 3 1 lv d.lg.length (d.lg.flatMap (intE .i64)) ∧ w'.ownsRow w.heap.size 159 3 ev d.el.length (d.el.flatMap opE) ∧ Below w.heap.size w w' := by
 have hB0 := Below.refl w.heap.size w
 refine co_enter (n := 45) Tryz.func65 rfl rfl rfl [(0, .string s)] rfl (fun a h0 => ?_)
 refine co_seq ?_
 refine co_reg ?_
 refine pw h0 rfl (op_new (v := fun N => pt N 0) (T := 58) (cs := #[.int .i64 0, .int .i64 0, .int .u64 0, .int .i64 0, .slice none 0 0, .int .u64 0, .slice none 0 0, .int .i64 0, .int .i64 0, .slice none 0 0, .int .u64 0, .int .i64 0, .int .u64 0, .int .i64 0, .int .i64 0, .int .i64 0, .int .i64 0, .int .i64 0]) (by kernel_rfl) (by kernel_rfl) (by kernel_rfl)) ?_; clear h0
 rintro _ w2 a1 ⟨N3, rfl, hN6, hz7, hk5, hg4⟩ h1
 have hz8 := hg4.size
 try dsimp only at h1
 refine pk0 (v := .int .i64 0) h1 rfl fun a9 h9 => ?_; clear h1
 refine pl_nil ?_
 refine co_then ?_
 refine co_seq ?_
 refine co_reg ?_
 refine pk0 (v := .string s) h9 rfl fun a10 h10 => ?_; clear h9
 refine pw h10 rfl (op_call (args := #[.string s]) (R := fun res xw => ∃ b : Nat, res = pt b 0 ∧ b = w2.heap.size ∧ OR b s 0 0 xw ∧ Below w2.heap.size w2 xw) rfl rfl rfl (by kernel_rfl) (by kernel_rfl) (Tryz.call57 _ _) (or_open s w2) (by rintro e x ⟨b, rfl, h0, h1, h2⟩; exact ⟨_, rfl, b, rfl, h0, h1, h2⟩)) ?_; clear h10
 rintro _ w12 a11 ⟨b13, rfl, hN14, ho15, hb16⟩ h11
 have hz17 := hb16.size
 have hl18 := ho15.lt
 refine pk0 (v := pt b13 0) h11 rfl fun a19 h19 => ?_; clear h11
 refine pl_nil ?_
 refine co_then ?_
 refine co_seq ?_
 refine co_reg ?_
 refine pk0 (v := pt b13 0) h19 rfl fun a20 h20 => ?_; clear h19
 refine pw h20 rfl (op_call (args := #[pt b13 0, .int .i64 8]) (R := fun res xw => ∃ (n : Int) (a' e' : Int), res = .int .i64 n ∧ numR s 0 0 8 = (n, a', e') ∧ 0 ≤ n ∧ n ≤ 8 ∧ OR b13 s a' e' xw ∧ w12.grownBy xw (some b13)) rfl rfl rfl (by kernel_rfl) (by kernel_rfl) (Tryz.call58 _ _) (or_num b13 s 0 0 8 w12 ho15 (by omega) (by omega) (by omega)) (by rintro q x ⟨n, a', e', rfl, h0, k0, k1, h1, h2⟩; exact ⟨_, rfl, n, a', e', rfl, h0, k0, k1, h1, h2⟩)) ?_; clear h20
 rintro _ w22 a21 ⟨n23, a24, e25, rfl, hq26, hn27, hm28, ho29, hg30⟩ h21
 have hz31 := hg30.size
 have hl32 := ho29.lt
 refine pk0 (v := .agg #[.int .i64 n23, .int .i64 0, .int .u64 0, .int .i64 0, .slice none 0 0, .int .u64 0, .slice none 0 0, .int .i64 0, .int .i64 0, .slice none 0 0, .int .u64 0, .int .i64 0, .int .u64 0, .int .i64 0, .int .i64 0, .int .i64 0, .int .i64 0, .int .i64 0]) h21 rfl fun a33 h33 => ?_; clear h21
 refine pw h33 rfl (op_new (v := fun N => pt N 0) (T := 58) (cs := #[.int .i64 0, .int .i64 0, .int .u64 0, .int .i64 0, .slice none 0 0, .int .u64 0, .slice none 0 0, .int .i64 0, .int .i64 0, .slice none 0 0, .int .u64 0, .int .i64 0, .int .u64 0, .int .i64 0, .int .i64 0, .int .i64 0, .int .i64 0, .int .i64 0]) (by kernel_rfl) (by kernel_rfl) (by kernel_rfl)) ?_; clear h33
 rintro _ w35 a34 ⟨N36, rfl, hN39, hz40, hk38, hg37⟩ h34
 have hz41 := hg37.size
 try dsimp only at h34
 refine pwD h34 rfl (op_storeN rfl rfl rfl (all_cons rfl (all_cons rfl (all_cons rfl (all_cons rfl (all_cons rfl (all_cons rfl (all_cons rfl (all_cons rfl (all_cons rfl (all_cons rfl (all_cons rfl (all_cons rfl (all_cons rfl (all_cons rfl (all_cons rfl (all_cons rfl (all_cons rfl (all_cons rfl all_nil)))))))))))))))))) (by kernel_rfl) hk38 rfl) ?_; clear h34
 rintro _ w43 a42 ⟨hk44, hz45, hg46⟩ h42
 have hk44' : Blk w43 N36 58 #[.int .i64 n23, .int .i64 0, .int .u64 0, .int .i64 0, .slice none 0 0, .int .u64 0, .slice none 0 0, .int .i64 0, .int .i64 0, .slice none 0 0, .int .u64 0, .int .i64 0, .int .u64 0, .int .i64 0, .int .i64 0, .int .i64 0, .int .i64 0, .int .i64 0] := hk44; clear hk44
 have hz47 := hg46.size
 refine pl_nil ?_
 refine co_then ?_
 refine co_seq ?_
 refine co_seq ?_
 refine co_reg ?_
 refine pk0 (v := pt b13 0) h42 rfl fun a48 h48 => ?_; clear h42
 have ho51 := ho29.new hg37
 have ho52 := ho51.at (by omega) hg46
 refine pw h48 rfl (op_call (args := #[pt b13 0]) (R := fun res xw => res = .int .i64 e25 ∧ w43 = xw) rfl rfl rfl (by kernel_rfl) (by kernel_rfl) (Tryz.call59 _ _) (or_err b13 s a24 e25 w43 ho52) (by rintro q x ⟨rfl, rfl⟩; exact ⟨_, rfl, rfl, rfl⟩)) ?_; clear h48
 rintro _ _ a49 ⟨rfl, rfl⟩ h49
 refine pk0 (v := .int .i64 e25) h49 rfl fun a53 h53 => ?_; clear h49
 refine pl_nil ?_
 refine co_then ?_
 refine co_seq ?_
 refine co_reg ?_
 refine pk0 (v := .int .i64 e25) h53 rfl fun a54 h54 => ?_; clear h53
 refine pk0 (v := .bool (e25 != 0)) h54 rfl fun a55 h55 => ?_; clear h54
 refine pl_nil ?_
 refine co_then ?_
 have hB57 := hb_new hB0 hg4
 have hB58 := hb_call hB57 hb16
 have hB59 := hb_at hB58 hg30 (by omega)
 have hB60 := hb_new hB59 hg37
 have hB61 := hb_at hB60 hg46 (by omega)
 have hk62 := hk5.below hb16
 have hk63 := hk62.kept hg30 (by simp; omega)
 have hk64 := hk63.kept hg37 (by simp)
 have hk65 := hk64.kept hg46 (by simp; omega)
 cases hc56 : (e25 != 0)
 ·
  rw [hc56] at h55
  have hp66 : ¬ (e25 ≠ 0) := by first | simpa using hc56 | simpa [and_assoc] using hc56
  clear hc56
  refine co_false h55 rfl ?_
  refine wp_skip ?_
  refine co_then ?_
  refine co_seq ?_
  refine co_seq ?_
  refine co_reg ?_
  refine pk0 (v := pt N36 0) h55 rfl fun a67 h67 => ?_; clear h55
  refine pk (v := .int .i64 n23) h67 rfl (rn_load1 rfl rfl Tryz.isAgg3 (hk44'.cell rfl)) fun a68 h68 => ?_; clear h67
  refine pw h68 rfl (op_call (args := #[.int .i64 n23]) (R := fun res xw => res = .bool (decide (1 ≤ n23 ∧ n23 ≤ 8)) ∧ Below w43.heap.size w43 xw) rfl rfl rfl (by kernel_rfl) (by kernel_rfl) (Tryz.call132 _ _) (nKnown_any n23 w43 ) (by rintro e x ⟨rfl, hb71⟩; exact ⟨_, rfl, ⟨rfl, hb71⟩⟩)) ?_; clear h68
  rintro _ w70 a69 ⟨rfl, hb71⟩ h69
  have hz72 := hb71.size
  have hB74 := hb_call hB61 hb71
  cases hc73 : (decide (1 ≤ n23 ∧ n23 ≤ 8))
  ·
   rw [hc73] at h69
   have hp75 : ¬ (1 ≤ n23 ∧ n23 ≤ 8) := of_decide_eq_false hc73
   clear hc73
   refine pk0 (v := .bool true) h69 rfl fun a76 h76 => ?_; clear h69
   refine pl_nil ?_
   refine co_then ?_
   refine co_true h76 rfl ?_
   refine co_seq ?_
   refine co_reg ?_
   refine pk0 (v := .agg #[.int .i64 0, .int .i64 0, .int .u64 0, .int .i64 0, .slice none 0 0, .int .u64 0, .slice none 0 0, .int .i64 0, .int .i64 0, .slice none 0 0, .int .u64 0, .int .i64 0, .int .u64 0, .int .i64 0, .int .i64 0, .int .i64 0, .int .i64 0, .int .i64 0]) h76 rfl fun a77 h77 => ?_; clear h76
   have hk83 := hk65.below hb71
   refine pwD h77 rfl (op_storeN rfl rfl rfl (all_cons rfl (all_cons rfl (all_cons rfl (all_cons rfl (all_cons rfl (all_cons rfl (all_cons rfl (all_cons rfl (all_cons rfl (all_cons rfl (all_cons rfl (all_cons rfl (all_cons rfl (all_cons rfl (all_cons rfl (all_cons rfl (all_cons rfl (all_cons rfl all_nil)))))))))))))))))) (by kernel_rfl) hk83 rfl) ?_; clear h77
   rintro _ w79 a78 ⟨hk80, hz81, hg82⟩ h78
   have hk80' : Blk w79 N3 58 #[.int .i64 0, .int .i64 0, .int .u64 0, .int .i64 0, .slice none 0 0, .int .u64 0, .slice none 0 0, .int .i64 0, .int .i64 0, .slice none 0 0, .int .u64 0, .int .i64 0, .int .u64 0, .int .i64 0, .int .i64 0, .int .i64 0, .int .i64 0, .int .i64 0] := hk80; clear hk80
   have hz84 := hg82.size
   refine pk0 (v := .int .i64 11) h78 rfl fun a85 h85 => ?_; clear h78
   refine pl_nil ?_
   refine co_then ?_
   refine wp_ret ?_
   refine co_thenR ?_
   refine co_retC1 (Q := fun _ _ _ => True) h85 rfl rfl rfl hk80' Tryz.underlying58 rfl (by kernel_rfl) ?_
   have hB86 := hb_at hB74 hg82 (by omega)
   cases hof.symm.trans (nOf_k hq26 (by omega) (by omega))
   exact ⟨_, _, _, rfl, (row_nilL _ _ _ _ _), (row_nilL _ _ _ _ _), (row_nilL _ _ _ _ _), hB86⟩
  ·
   rw [hc73] at h69
   have hp87 : 1 ≤ n23 ∧ n23 ≤ 8 := of_decide_eq_true hc73
   clear hc73
   refine pk0 (v := .bool false) h69 rfl fun a88 h88 => ?_; clear h69
   refine pl_nil ?_
   refine co_then ?_
   refine co_false h88 rfl ?_
   refine wp_skip ?_
   refine co_then ?_
   refine co_seq ?_
   refine co_seq ?_
   refine co_reg ?_
   refine pk0 (v := pt b13 0) h88 rfl fun a89 h89 => ?_; clear h88
   have ho92 := ho52.below hb71
   have hk93 := hk44'.below hb71
   refine pw h89 rfl (op_call (args := #[pt b13 0, pt N36 0]) (R := fun res xw => ∃ mv : Value, ∃ lv : Value, ∃ ev : Value, res = .int .i64 ((rdNote s n23 a24 e25).2.2.2) ∧ xw.ownsRow w70.heap.size 154 2 mv ((rdNote s n23 a24 e25).1).ms.length (((rdNote s n23 a24 e25).1).ms.flatMap memE) ∧ xw.ownsRow w70.heap.size 3 1 lv ((rdNote s n23 a24 e25).1).lg.length (((rdNote s n23 a24 e25).1).lg.flatMap (intE .i64)) ∧ xw.ownsRow w70.heap.size 159 3 ev ((rdNote s n23 a24 e25).1).el.length (((rdNote s n23 a24 e25).1).el.flatMap opE) ∧ Blk xw N36 58 #[.int .i64 ((rdNote s n23 a24 e25).1).k, .int .i64 ((rdNote s n23 a24 e25).1).n, .int .u64 ((rdNote s n23 a24 e25).1).t, .int .i64 ((rdNote s n23 a24 e25).1).ep, mv, .int .u64 ((rdNote s n23 a24 e25).1).fl, lv, .int .i64 ((rdNote s n23 a24 e25).1).ec, .int .i64 ((rdNote s n23 a24 e25).1).er, ev, .int .u64 ((rdNote s n23 a24 e25).1).ets, .int .i64 ((rdNote s n23 a24 e25).1).pid, .int .u64 ((rdNote s n23 a24 e25).1).pat, .int .i64 ((rdNote s n23 a24 e25).1).plf, .int .i64 ((rdNote s n23 a24 e25).1).sc, .int .i64 ((rdNote s n23 a24 e25).1).sr, .int .i64 ((rdNote s n23 a24 e25).1).se, .int .i64 ((rdNote s n23 a24 e25).1).sp] ∧ OR b13 s ((rdNote s n23 a24 e25).2.1) ((rdNote s n23 a24 e25).2.2.1) xw ∧ But (fun q => q = b13 ∨ q = N36) w70 xw) rfl rfl rfl (by kernel_rfl) (by kernel_rfl) (Tryz.call133 _ _) (nRead_any b13 s a24 e25 N36 n23 ((rdNote s n23 a24 e25).1) ((rdNote s n23 a24 e25).2.1) ((rdNote s n23 a24 e25).2.2.1) ((rdNote s n23 a24 e25).2.2.2) w70 (by first | omega | (simp; done) | (simp; omega)) ho92 hk93 (by omega) rfl) (by rintro e x ⟨mv, lv, ev, rfl, hq97, hq98, hq99, hq100, hq101, hb102⟩; exact ⟨_, rfl, ⟨mv, lv, ev, rfl, hq97, hq98, hq99, hq100, hq101, hb102⟩⟩)) ?_; clear h89
   rintro _ w91 a90 ⟨mv94, lv95, ev96, rfl, hq97, hq98, hq99, hq100, hq101, hb102⟩ h90
   have hz103 := hb102.size
   have hl104 := sl_len (row_sl hq97 memE_len)
   have hl105 := sl_len (row_sl hq98 (intE_len .i64))
   have hl106 := sl_len (row_sl hq99 opE_len)
   have hl107 := hq100.lt
   have hl108 := hq101.lt
   refine pk0 (v := .int .i64 ((rdNote s n23 a24 e25).2.2.2)) h90 rfl fun a109 h109 => ?_; clear h90
   refine pl_nil ?_
   refine co_then ?_
   refine co_seq ?_
   refine co_reg ?_
   refine pk0 (v := .int .i64 ((rdNote s n23 a24 e25).2.2.2)) h109 rfl fun a110 h110 => ?_; clear h109
   refine pk0 (v := .bool (((rdNote s n23 a24 e25).2.2.2) != 0)) h110 rfl fun a111 h111 => ?_; clear h110
   refine pl_nil ?_
   refine co_then ?_
   have hB113 := hb_foot hB74 hb102 (fun i hlt hS => by (try simp at hS); first | omega | (simp; omega) | simp_all)
   have hk114 := hk65.below hb71
   have hk115 := hk114.but hb102 (by first | omega | (simp; omega))
   cases hc112 : (((rdNote s n23 a24 e25).2.2.2) != 0)
   ·
    rw [hc112] at h111
    have hp116 : ¬ (((rdNote s n23 a24 e25).2.2.2) ≠ 0) := by first | simpa using hc112 | simpa [and_assoc] using hc112
    clear hc112
    refine co_false h111 rfl ?_
    refine wp_skip ?_
    refine co_then ?_
    refine co_seq ?_
    refine co_seq ?_
    refine co_reg ?_
    refine pk0 (v := pt b13 0) h111 rfl fun a117 h117 => ?_; clear h111
    refine pw h117 rfl (op_call (args := #[pt b13 0]) (R := fun res xw => ∃ r : Int, res = .int .i64 r ∧ endV s ((rdNote s n23 a24 e25).2.1).toNat ((rdNote s n23 a24 e25).2.2.1) = r ∧ Below w91.heap.size w91 xw) rfl rfl rfl (by kernel_rfl) (by kernel_rfl) (Tryz.call61 _ _) (or_end b13 s ((rdNote s n23 a24 e25).2.1) ((rdNote s n23 a24 e25).2.2.1) w91 hq101 (by omega)) (by rintro e x ⟨r, rfl, h0, h2⟩; exact ⟨_, rfl, r, rfl, h0, h2⟩)) ?_; clear h117
    rintro _ w119 a118 ⟨r120, rfl, hq121, hb122⟩ h118
    have hz123 := hb122.size
    refine pk0 (v := .int .i64 r120) h118 rfl fun a124 h124 => ?_; clear h118
    refine pl_nil ?_
    refine co_then ?_
    refine co_seq ?_
    refine co_reg ?_
    refine pk0 (v := .int .i64 r120) h124 rfl fun a125 h125 => ?_; clear h124
    refine pk0 (v := .bool (r120 != 0)) h125 rfl fun a126 h126 => ?_; clear h125
    refine pl_nil ?_
    refine co_then ?_
    have hB128 := hb_call hB113 hb122
    cases hc127 : (r120 != 0)
    ·
     rw [hc127] at h126
     have hp129 : ¬ (r120 ≠ 0) := by first | simpa using hc127 | simpa [and_assoc] using hc127
     clear hc127
     refine co_false h126 rfl ?_
     refine wp_skip ?_
     refine co_then ?_
     refine co_seq ?_
     refine co_seq ?_
     refine co_reg ?_
     have hk130 := hq100.below hb122
     refine pk (v := .agg #[.int .i64 (((rdNote s n23 a24 e25).1).k), .int .i64 (((rdNote s n23 a24 e25).1).n), .int .u64 (((rdNote s n23 a24 e25).1).t), .int .i64 (((rdNote s n23 a24 e25).1).ep), mv94, .int .u64 (((rdNote s n23 a24 e25).1).fl), lv95, .int .i64 (((rdNote s n23 a24 e25).1).ec), .int .i64 (((rdNote s n23 a24 e25).1).er), ev96, .int .u64 (((rdNote s n23 a24 e25).1).ets), .int .i64 (((rdNote s n23 a24 e25).1).pid), .int .u64 (((rdNote s n23 a24 e25).1).pat), .int .i64 (((rdNote s n23 a24 e25).1).plf), .int .i64 (((rdNote s n23 a24 e25).1).sc), .int .i64 (((rdNote s n23 a24 e25).1).sr), .int .i64 (((rdNote s n23 a24 e25).1).se), .int .i64 (((rdNote s n23 a24 e25).1).sp)]) h126 rfl (rn_loadN rfl rfl Tryz.underlying58 rfl (by kernel_rfl) hk130.all) fun a131 h131 => ?_; clear h126
     have hr134 := row_kept_new hq97 (below_grown hb122)
     have hr135 := row_kept_new hq98 (below_grown hb122)
     have hr136 := row_kept_new hq99 (below_grown hb122)
     refine pw h131 rfl (op_call (args := #[.agg #[.int .i64 (((rdNote s n23 a24 e25).1).k), .int .i64 (((rdNote s n23 a24 e25).1).n), .int .u64 (((rdNote s n23 a24 e25).1).t), .int .i64 (((rdNote s n23 a24 e25).1).ep), mv94, .int .u64 (((rdNote s n23 a24 e25).1).fl), lv95, .int .i64 (((rdNote s n23 a24 e25).1).ec), .int .i64 (((rdNote s n23 a24 e25).1).er), ev96, .int .u64 (((rdNote s n23 a24 e25).1).ets), .int .i64 (((rdNote s n23 a24 e25).1).pid), .int .u64 (((rdNote s n23 a24 e25).1).pat), .int .i64 (((rdNote s n23 a24 e25).1).plf), .int .i64 (((rdNote s n23 a24 e25).1).sc), .int .i64 (((rdNote s n23 a24 e25).1).sr), .int .i64 (((rdNote s n23 a24 e25).1).se), .int .i64 (((rdNote s n23 a24 e25).1).sp)]]) (R := fun res xw => res = .int .i64 (chkN ((rdNote s n23 a24 e25).1)) ∧ Below w119.heap.size w119 xw) rfl rfl rfl (by kernel_rfl) (by kernel_rfl) (Tryz.call22 _ _) (nCheck_any ((rdNote s n23 a24 e25).1) mv94 lv95 ev96 w119 (row_sl hr134 memE_len) (row_sl hr135 (intE_len .i64)) (row_sl hr136 opE_len) (rdNote_R _ _ _ _)) (by rintro e x ⟨rfl, hb137⟩; exact ⟨_, rfl, ⟨rfl, hb137⟩⟩)) ?_; clear h131
     rintro _ w133 a132 ⟨rfl, hb137⟩ h132
     have hz138 := hb137.size
     refine pk0 (v := .int .i64 (chkN ((rdNote s n23 a24 e25).1))) h132 rfl fun a139 h139 => ?_; clear h132
     refine pl_nil ?_
     refine co_then ?_
     refine co_seq ?_
     refine co_reg ?_
     refine pk0 (v := .int .i64 (chkN ((rdNote s n23 a24 e25).1))) h139 rfl fun a140 h140 => ?_; clear h139
     refine pk0 (v := .bool (chkN ((rdNote s n23 a24 e25).1) != 0)) h140 rfl fun a141 h141 => ?_; clear h140
     refine pl_nil ?_
     refine co_then ?_
     have hB143 := hb_call hB128 hb137
     have hk144 := hk115.below hb122
     have hk145 := hk144.below hb137
     have ho146 := hq101.below hb122
     have ho147 := ho146.below hb137
     cases hc142 : (chkN ((rdNote s n23 a24 e25).1) != 0)
     ·
      rw [hc142] at h141
      have hp148 : ¬ (chkN ((rdNote s n23 a24 e25).1) ≠ 0) := by first | simpa using hc142 | simpa [and_assoc] using hc142
      clear hc142
      refine co_false h141 rfl ?_
      refine wp_skip ?_
      refine co_then ?_
      refine co_seq ?_
      refine co_reg ?_
      have hk149 := hk130.below hb137
      refine pk (v := .agg #[.int .i64 (((rdNote s n23 a24 e25).1).k), .int .i64 (((rdNote s n23 a24 e25).1).n), .int .u64 (((rdNote s n23 a24 e25).1).t), .int .i64 (((rdNote s n23 a24 e25).1).ep), mv94, .int .u64 (((rdNote s n23 a24 e25).1).fl), lv95, .int .i64 (((rdNote s n23 a24 e25).1).ec), .int .i64 (((rdNote s n23 a24 e25).1).er), ev96, .int .u64 (((rdNote s n23 a24 e25).1).ets), .int .i64 (((rdNote s n23 a24 e25).1).pid), .int .u64 (((rdNote s n23 a24 e25).1).pat), .int .i64 (((rdNote s n23 a24 e25).1).plf), .int .i64 (((rdNote s n23 a24 e25).1).sc), .int .i64 (((rdNote s n23 a24 e25).1).sr), .int .i64 (((rdNote s n23 a24 e25).1).se), .int .i64 (((rdNote s n23 a24 e25).1).sp)]) h141 rfl (rn_loadN rfl rfl Tryz.underlying58 rfl (by kernel_rfl) hk149.all) fun a150 h150 => ?_; clear h141
      have hr156 := row_kept_new hr136 (below_grown hb137)
      have hr157 := row_kept_new hr135 (below_grown hb137)
      have hr158 := row_kept_new hr134 (below_grown hb137)
      refine pwD h150 rfl (op_storeN rfl rfl rfl (all_cons rfl (all_cons rfl (all_cons rfl (all_cons rfl (all_cons (row_one hr158) (all_cons rfl (all_cons (row_one hr157) (all_cons rfl (all_cons rfl (all_cons (row_one hr156) (all_cons rfl (all_cons rfl (all_cons rfl (all_cons rfl (all_cons rfl (all_cons rfl (all_cons rfl (all_cons rfl all_nil)))))))))))))))))) (by kernel_rfl) hk145 rfl) ?_; clear h150
      rintro _ w152 a151 ⟨hk153, hz154, hg155⟩ h151
      have hk153' : Blk w152 N3 58 #[.int .i64 (((rdNote s n23 a24 e25).1).k), .int .i64 (((rdNote s n23 a24 e25).1).n), .int .u64 (((rdNote s n23 a24 e25).1).t), .int .i64 (((rdNote s n23 a24 e25).1).ep), mv94, .int .u64 (((rdNote s n23 a24 e25).1).fl), lv95, .int .i64 (((rdNote s n23 a24 e25).1).ec), .int .i64 (((rdNote s n23 a24 e25).1).er), ev96, .int .u64 (((rdNote s n23 a24 e25).1).ets), .int .i64 (((rdNote s n23 a24 e25).1).pid), .int .u64 (((rdNote s n23 a24 e25).1).pat), .int .i64 (((rdNote s n23 a24 e25).1).plf), .int .i64 (((rdNote s n23 a24 e25).1).sc), .int .i64 (((rdNote s n23 a24 e25).1).sr), .int .i64 (((rdNote s n23 a24 e25).1).se), .int .i64 (((rdNote s n23 a24 e25).1).sp)] := hk153; clear hk153
      have hz159 := hg155.size
      refine pk0 (v := .int .i64 0) h151 rfl fun a160 h160 => ?_; clear h151
      refine pl_nil ?_
      refine co_then ?_
      refine wp_ret ?_
      refine co_retC1 (Q := fun _ _ _ => True) h160 rfl rfl rfl hk153' Tryz.underlying58 rfl (by kernel_rfl) ?_
      have hr161 := row_kept_at hr158 hg155 (row_ne_lt hr158 (by omega))
      have hr162 := row_kept_at hr157 hg155 (row_ne_lt hr157 (by omega))
      have hr163 := row_kept_at hr156 hg155 (row_ne_lt hr156 (by omega))
      have hB164 := hb_at hB143 hg155 (by omega)
      cases hof.symm.trans (nOf_q' hq26 (by assumption) (by omega) (nEnd_o' (by assumption) hq121 (by assumption) (by assumption)))
      exact ⟨_, _, _, rfl, (row_lows hr161 (by omega)), (row_lows hr162 (by omega)), (row_lows hr163 (by omega)), hB164⟩
     ·
      rw [hc142] at h141
      have hp165 : chkN ((rdNote s n23 a24 e25).1) ≠ 0 := by first | simpa using hc142 | simpa [and_assoc] using hc142
      clear hc142
      refine co_true h141 rfl ?_
      refine co_seq ?_
      refine co_reg ?_
      refine pk0 (v := .agg #[.int .i64 0, .int .i64 0, .int .u64 0, .int .i64 0, .slice none 0 0, .int .u64 0, .slice none 0 0, .int .i64 0, .int .i64 0, .slice none 0 0, .int .u64 0, .int .i64 0, .int .u64 0, .int .i64 0, .int .i64 0, .int .i64 0, .int .i64 0, .int .i64 0]) h141 rfl fun a166 h166 => ?_; clear h141
      refine pk0 (v := .int .i64 (chkN ((rdNote s n23 a24 e25).1))) h166 rfl fun a167 h167 => ?_; clear h166
      refine pwD h167 rfl (op_storeN rfl rfl rfl (all_cons rfl (all_cons rfl (all_cons rfl (all_cons rfl (all_cons rfl (all_cons rfl (all_cons rfl (all_cons rfl (all_cons rfl (all_cons rfl (all_cons rfl (all_cons rfl (all_cons rfl (all_cons rfl (all_cons rfl (all_cons rfl (all_cons rfl (all_cons rfl all_nil)))))))))))))))))) (by kernel_rfl) hk145 rfl) ?_; clear h167
      rintro _ w169 a168 ⟨hk170, hz171, hg172⟩ h168
      have hk170' : Blk w169 N3 58 #[.int .i64 0, .int .i64 0, .int .u64 0, .int .i64 0, .slice none 0 0, .int .u64 0, .slice none 0 0, .int .i64 0, .int .i64 0, .slice none 0 0, .int .u64 0, .int .i64 0, .int .u64 0, .int .i64 0, .int .i64 0, .int .i64 0, .int .i64 0, .int .i64 0] := hk170; clear hk170
      have hz173 := hg172.size
      refine pk0 (v := .int .i64 (chkN ((rdNote s n23 a24 e25).1))) h168 rfl fun a174 h174 => ?_; clear h168
      refine pl_nil ?_
      refine co_then ?_
      refine wp_ret ?_
      refine co_thenR ?_
      refine co_retC1 (Q := fun _ _ _ => True) h174 rfl rfl rfl hk170' Tryz.underlying58 rfl (by kernel_rfl) ?_
      have hB175 := hb_at hB143 hg172 (by omega)
      cases hof.symm.trans (nOf_q' hq26 (by assumption) (by omega) (nEnd_c' (by assumption) hq121 (by assumption) (by assumption)))
      exact ⟨_, _, _, rfl, (row_nilL _ _ _ _ _), (row_nilL _ _ _ _ _), (row_nilL _ _ _ _ _), hB175⟩
    ·
     rw [hc127] at h126
     have hp176 : r120 ≠ 0 := by first | simpa using hc127 | simpa [and_assoc] using hc127
     clear hc127
     refine co_true h126 rfl ?_
     refine co_seq ?_
     refine co_reg ?_
     refine pk0 (v := .agg #[.int .i64 0, .int .i64 0, .int .u64 0, .int .i64 0, .slice none 0 0, .int .u64 0, .slice none 0 0, .int .i64 0, .int .i64 0, .slice none 0 0, .int .u64 0, .int .i64 0, .int .u64 0, .int .i64 0, .int .i64 0, .int .i64 0, .int .i64 0, .int .i64 0]) h126 rfl fun a177 h177 => ?_; clear h126
     refine pk0 (v := .int .i64 r120) h177 rfl fun a178 h178 => ?_; clear h177
     have hk184 := hk115.below hb122
     refine pwD h178 rfl (op_storeN rfl rfl rfl (all_cons rfl (all_cons rfl (all_cons rfl (all_cons rfl (all_cons rfl (all_cons rfl (all_cons rfl (all_cons rfl (all_cons rfl (all_cons rfl (all_cons rfl (all_cons rfl (all_cons rfl (all_cons rfl (all_cons rfl (all_cons rfl (all_cons rfl (all_cons rfl all_nil)))))))))))))))))) (by kernel_rfl) hk184 rfl) ?_; clear h178
     rintro _ w180 a179 ⟨hk181, hz182, hg183⟩ h179
     have hk181' : Blk w180 N3 58 #[.int .i64 0, .int .i64 0, .int .u64 0, .int .i64 0, .slice none 0 0, .int .u64 0, .slice none 0 0, .int .i64 0, .int .i64 0, .slice none 0 0, .int .u64 0, .int .i64 0, .int .u64 0, .int .i64 0, .int .i64 0, .int .i64 0, .int .i64 0, .int .i64 0] := hk181; clear hk181
     have hz185 := hg183.size
     refine pk0 (v := .int .i64 r120) h179 rfl fun a186 h186 => ?_; clear h179
     refine pl_nil ?_
     refine co_then ?_
     refine wp_ret ?_
     refine co_thenR ?_
     refine co_retC1 (Q := fun _ _ _ => True) h186 rfl rfl rfl hk181' Tryz.underlying58 rfl (by kernel_rfl) ?_
     have hB187 := hb_at hB128 hg183 (by omega)
     cases hof.symm.trans (nOf_q' hq26 (by assumption) (by omega) (nEnd_x' (by assumption) hq121 (by assumption)))
     exact ⟨_, _, _, rfl, (row_nilL _ _ _ _ _), (row_nilL _ _ _ _ _), (row_nilL _ _ _ _ _), hB187⟩
   ·
    rw [hc112] at h111
    have hp188 : ((rdNote s n23 a24 e25).2.2.2) ≠ 0 := by first | simpa using hc112 | simpa [and_assoc] using hc112
    clear hc112
    refine co_true h111 rfl ?_
    refine co_seq ?_
    refine co_reg ?_
    refine pk0 (v := .agg #[.int .i64 0, .int .i64 0, .int .u64 0, .int .i64 0, .slice none 0 0, .int .u64 0, .slice none 0 0, .int .i64 0, .int .i64 0, .slice none 0 0, .int .u64 0, .int .i64 0, .int .u64 0, .int .i64 0, .int .i64 0, .int .i64 0, .int .i64 0, .int .i64 0]) h111 rfl fun a189 h189 => ?_; clear h111
    refine pk0 (v := .int .i64 ((rdNote s n23 a24 e25).2.2.2)) h189 rfl fun a190 h190 => ?_; clear h189
    refine pwD h190 rfl (op_storeN rfl rfl rfl (all_cons rfl (all_cons rfl (all_cons rfl (all_cons rfl (all_cons rfl (all_cons rfl (all_cons rfl (all_cons rfl (all_cons rfl (all_cons rfl (all_cons rfl (all_cons rfl (all_cons rfl (all_cons rfl (all_cons rfl (all_cons rfl (all_cons rfl (all_cons rfl all_nil)))))))))))))))))) (by kernel_rfl) hk115 rfl) ?_; clear h190
    rintro _ w192 a191 ⟨hk193, hz194, hg195⟩ h191
    have hk193' : Blk w192 N3 58 #[.int .i64 0, .int .i64 0, .int .u64 0, .int .i64 0, .slice none 0 0, .int .u64 0, .slice none 0 0, .int .i64 0, .int .i64 0, .slice none 0 0, .int .u64 0, .int .i64 0, .int .u64 0, .int .i64 0, .int .i64 0, .int .i64 0, .int .i64 0, .int .i64 0] := hk193; clear hk193
    have hz196 := hg195.size
    refine pk0 (v := .int .i64 ((rdNote s n23 a24 e25).2.2.2)) h191 rfl fun a197 h197 => ?_; clear h191
    refine pl_nil ?_
    refine co_then ?_
    refine wp_ret ?_
    refine co_thenR ?_
    refine co_retC1 (Q := fun _ _ _ => True) h197 rfl rfl rfl hk193' Tryz.underlying58 rfl (by kernel_rfl) ?_
    have hB198 := hb_at hB113 hg195 (by omega)
    cases hof.symm.trans (nOf_q' hq26 (by assumption) (by omega) (nEnd_r' (by assumption)))
    exact ⟨_, _, _, rfl, (row_nilL _ _ _ _ _), (row_nilL _ _ _ _ _), (row_nilL _ _ _ _ _), hB198⟩
 ·
  rw [hc56] at h55
  have hp199 : e25 ≠ 0 := by first | simpa using hc56 | simpa [and_assoc] using hc56
  clear hc56
  refine co_true h55 rfl ?_
  refine co_seq ?_
  refine co_reg ?_
  refine pk0 (v := .agg #[.int .i64 0, .int .i64 0, .int .u64 0, .int .i64 0, .slice none 0 0, .int .u64 0, .slice none 0 0, .int .i64 0, .int .i64 0, .slice none 0 0, .int .u64 0, .int .i64 0, .int .u64 0, .int .i64 0, .int .i64 0, .int .i64 0, .int .i64 0, .int .i64 0]) h55 rfl fun a200 h200 => ?_; clear h55
  refine pk0 (v := .int .i64 e25) h200 rfl fun a201 h201 => ?_; clear h200
  refine pwD h201 rfl (op_storeN rfl rfl rfl (all_cons rfl (all_cons rfl (all_cons rfl (all_cons rfl (all_cons rfl (all_cons rfl (all_cons rfl (all_cons rfl (all_cons rfl (all_cons rfl (all_cons rfl (all_cons rfl (all_cons rfl (all_cons rfl (all_cons rfl (all_cons rfl (all_cons rfl (all_cons rfl all_nil)))))))))))))))))) (by kernel_rfl) hk65 rfl) ?_; clear h201
  rintro _ w203 a202 ⟨hk204, hz205, hg206⟩ h202
  have hk204' : Blk w203 N3 58 #[.int .i64 0, .int .i64 0, .int .u64 0, .int .i64 0, .slice none 0 0, .int .u64 0, .slice none 0 0, .int .i64 0, .int .i64 0, .slice none 0 0, .int .u64 0, .int .i64 0, .int .u64 0, .int .i64 0, .int .i64 0, .int .i64 0, .int .i64 0, .int .i64 0] := hk204; clear hk204
  have hz207 := hg206.size
  refine pk0 (v := .int .i64 e25) h202 rfl fun a208 h208 => ?_; clear h202
  refine pl_nil ?_
  refine co_then ?_
  refine wp_ret ?_
  refine co_thenR ?_
  refine co_retC1 (Q := fun _ _ _ => True) h208 rfl rfl rfl hk204' Tryz.underlying58 rfl (by kernel_rfl) ?_
  have hB209 := hb_at hB61 hg206 (by omega)
  cases hof.symm.trans (nOf_e hq26 (by assumption))
  exact ⟨_, _, _, rfl, (row_nilL _ _ _ _ _), (row_nilL _ _ _ _ _), (row_nilL _ _ _ _ _), hB209⟩

theorem rw_1a {s t : ByteArray} {k a e a1 e1 : Int} (hk : k = 1) (h : textR s a e 65536 = (t, a1, e1)) (h1 : e1 ≠ 0) : rdNote s k a e = (zC k (0, [], 0) [], a1, e1, e1) := rd_1a hk (whC_a h h1) h1
theorem rw_1b {s t : ByteArray} {k a e a1 e1 : Int} (hk : k = 1) (h : textR s a e 65536 = (t, a1, e1)) (h1 : ¬ e1 ≠ 0) (hr : (ofC t).2 ≠ 0) : rdNote s k a e = (zC k (ofC t).1 [], a1, e1, (ofC t).2) := rd_1a hk (whC_b h h1) hr
theorem rw_1c {s t : ByteArray} {k a e a1 e1 n a2 e2 a3 e3 : Int} {g : List Int} {i : Nat} (hk : k = 1) (h : textR s a e 65536 = (t, a1, e1)) (h1 : ¬ e1 ≠ 0) (hr : ¬ (ofC t).2 ≠ 0) (h3 : numR s a1 e1 4 = (n, a2, e2)) (h4 : rgN s i ([], a2, e2) = (g, a3, e3)) (hi : i = n.toNat) : rdNote s k a e = (zC k (ofC t).1 g, a3, e3, e3) := rd_1b hk (whC_b h h1) hr h3 h4 hi
theorem rw_2a {s t : ByteArray} {k a e n a1 e1 a2 e2 : Int} (hk : k = 2) (h : numR s a e 1073741824 = (n, a1, e1)) (h2 : textR s a1 e1 65536 = (t, a2, e2)) (h3 : e2 ≠ 0) : rdNote s k a e = (zE k n (0, 0, [], 0), a2, e2, e2) := rd_2 hk h (whE_a h2 h3)
theorem rw_2b {s t : ByteArray} {k a e n a1 e1 a2 e2 : Int} (hk : k = 2) (h : numR s a e 1073741824 = (n, a1, e1)) (h2 : textR s a1 e1 65536 = (t, a2, e2)) (h3 : ¬ e2 ≠ 0) : rdNote s k a e = (zE k n (ofE t).1, a2, e2, (ofE t).2) := rd_2 hk h (whE_b h2 h3)
theorem rdNote_R2 {s : ByteArray} {k a e : Int} {z : NoteD × Int × Int × Int} (h : rdNote s k a e = z) : NoteR z.1 := h ▸ rdNote_R s k a e
theorem nOf_z {s : ByteArray} {k a e : Int} (h : numR s 0 0 8 = (k, a, e)) (he : e = 0) (hk : k = 0) : noteOf s = (zN 0, 11) := nOf_k h (by omega) (by omega)
theorem nOf_ee {s : ByteArray} {k a e x : Int} (h : numR s 0 0 8 = (k, a, e)) (he : ¬ e = 0) (hx : endV s a.toNat e = x) : noteOf s = (zN 0, x) := by rw [endV_e he] at hx; subst hx; exact nOf_e h he

end Go.Proofs.YteioaaegooebpaaGreat

/- Notes: Same; what awake tries. Conditions: none. -/
namespace Go.Proofs.YteioaaegooebpaaGreat
open Go.RowKit Go.PlainAid
set_option linter.unusedVariables false


theorem eq_pin (a b c d e f : Int) (w : World) : (binOp .eql 54 (.agg #[.int .i64 a, .int .u64 b, .int .i64 c]) (.agg #[.int .i64 d, .int .u64 e, .int .i64 f])).run Tryz.prog w = .ok (.bool (a == d && b == e && c == f)) w := by
  have u := Tryz.underlying22
  have u' := Tryz.underlying3
  have hS : Tryz.prog.underlying 54 = some (.struct (Tryz.prog.fieldsOf 54)) := by kernel_rfl
  have hp : Tryz.prog.stoodInHeld 54 = false := by kernel_rfl
  have hf : (Tryz.prog.fieldsOf 54).toList.map (fun f => (f.offset, f.type)) = [(0, 3), (1, 22), (2, 3)] := by kernel_rfl
  rw [run_eql_struct, show (10000 : Nat) = 9999 + 1 from rfl, run_equalIn_agg w 9999 54 _ _ hS hp]
  simp only [Program.fieldsOf, Tryz.underlying54]
  go_simp
  by_cases h1 : a = d <;> by_cases h2 : b = e <;> by_cases h3 : c = f <;> simp [h1, h2, h3]
theorem eq_said (a b c d e f g h : Int) (w : World) : (binOp .eql 56 (.agg #[.int .i64 a, .int .i64 b, .int .i64 c, .int .i64 d]) (.agg #[.int .i64 e, .int .i64 f, .int .i64 g, .int .i64 h])).run Tryz.prog w = .ok (.bool (a == e && b == f && c == g && d == h)) w := by
  have u := Tryz.underlying3
  have u' := Tryz.underlying23
  have hS : Tryz.prog.underlying 56 = some (.struct (Tryz.prog.fieldsOf 56)) := by kernel_rfl
  have hp : Tryz.prog.stoodInHeld 56 = false := by kernel_rfl
  have hf : (Tryz.prog.fieldsOf 56).toList.map (fun f => (f.offset, f.type)) = [(0, 3), (1, 3), (2, 23), (3, 3)] := by kernel_rfl
  rw [run_eql_struct, show (10000 : Nat) = 9999 + 1 from rfl, run_equalIn_agg w 9999 56 _ _ hS hp]
  simp only [Program.fieldsOf, Tryz.underlying56]
  go_simp
  by_cases h1 : a = e <;> by_cases h2 : b = f <;> by_cases h3 : c = g <;> by_cases h4 : d = h <;> simp [h1, h2, h3, h4]
def sameI (l l2 : List Int) : Bool := decide (l = l2)
theorem sameI_len {l l2 : List Int} (h : l.length ≠ l2.length) : false = sameI l l2 := by unfold sameI; exact (decide_eq_false (fun e => h (by rw [e]))).symm
theorem sameI_no {l l2 : List Int} {i : Nat} {y z : Int} (hy : l[i]? = some y) (hz : l2[i]? = some z) (h : y ≠ z) : false = sameI l l2 := by unfold sameI; exact (decide_eq_false (fun e => h (by rw [e, hz] at hy; exact (Option.some.inj hy).symm))).symm
theorem sameI_end {l l2 : List Int} {i : Nat} (h : l.take i = l2.take i) (hl : l.length = l2.length) (hi : l.length ≤ i) : true = sameI l l2 := by
  rw [List.take_of_length_le hi, List.take_of_length_le (by omega)] at h
  unfold sameI; exact (decide_eq_true h).symm
theorem sameI_step {l l2 : List Int} {i : Nat} {y z : Int} (h : l.take i = l2.take i) (hy : l[i]? = some y) (hz : l2[i]? = some z) (e : y = z) : l.take (i + 1) = l2.take (i + 1) := by rw [takeI hy, takeI hz, h, e]
def pinQ (d d2 : NoteD) : Bool := d.pid == d2.pid && d.pat == d2.pat && d.plf == d2.plf
def saidQ (d d2 : NoteD) : Bool := d.sc == d2.sc && d.sr == d2.sr && d.se == d2.se && d.sp == d2.sp
/-- Have two notes the same fields? -/
def sameN (d d2 : NoteD) : Bool := if d.k = d2.k ∧ d.n = d2.n ∧ d.t = d2.t then (sameCf d.ep d.ms d.fl d2.ep d2.ms d2.fl && (sameI d.lg d2.lg && (sameE d.ec d.er d.el d.ets d2.ec d2.er d2.el d2.ets && (pinQ d d2 && saidQ d d2)))) else false
theorem sameN_no {d d2 : NoteD} (h : ¬ (d.k = d2.k ∧ d.n = d2.n ∧ d.t = d2.t)) : false = sameN d d2 := by unfold sameN; rw [if_neg h]
theorem sameN_y {d d2 : NoteD} (h : d.k = d2.k ∧ d.n = d2.n ∧ d.t = d2.t) : sameN d d2 = (sameCf d.ep d.ms d.fl d2.ep d2.ms d2.fl && (sameI d.lg d2.lg && (sameE d.ec d.er d.el d.ets d2.ec d2.er d2.el d2.ets && (pinQ d d2 && saidQ d d2)))) := by unfold sameN; rw [if_pos h]
theorem sameN_refl (d : NoteD) : sameN d d = true := by
  rw [sameN_y ⟨rfl, rfl, rfl⟩, sameCf_refl, sameE_refl]
  simp [sameI, pinQ, saidQ]
theorem s_a {c i e p q : Bool} (h : c = false) : false = (c && (i && (e && (p && q)))) := by subst h; rfl
theorem s_b {c i e p q : Bool} (h : c = true) (h1 : i = false) : false = (c && (i && (e && (p && q)))) := by subst h h1; rfl
theorem s_c {c i e p q : Bool} (h : c = true) (h1 : i = true) (h2 : e = false) : false = (c && (i && (e && (p && q)))) := by subst h h1 h2; rfl
theorem s_d {c i e p q : Bool} (h : c = true) (h1 : i = true) (h2 : e = true) (h3 : p = false) : false = (c && (i && (e && (p && q)))) := by subst h h1 h2 h3; rfl
theorem s_e {c i e p q : Bool} (h : c = true) (h1 : i = true) (h2 : e = true) (h3 : p = true) : q = (c && (i && (e && (p && q)))) := by subst h h1 h2 h3; rfl
theorem aw10_c : chkN (NoteD.mk 3 3 9 0 [] 0 [] 0 0 [] 0 0 0 0 0 0 0 0) = 0 := by decide
theorem aw10_put : putN (NoteD.mk 3 3 9 0 [] 0 [] 0 0 [] 0 0 0 0 0 0 0 0) = ⟨#[3, 3, 9]⟩ := by rw [putN_ok aw10_c]; decide
theorem aw10_R : NoteR (NoteD.mk 3 3 9 0 [] 0 [] 0 0 [] 0 0 0 0 0 0 0 0) := ⟨by simp, by simp⟩
theorem aw10_sz : (putN (NoteD.mk 3 3 9 0 [] 0 [] 0 0 [] 0 0 0 0 0 0 0 0)).size ≤ 9223372036854775807 := by rw [aw10_put]; decide
theorem aw10_of : (noteOf (putN (NoteD.mk 3 3 9 0 [] 0 [] 0 0 [] 0 0 0 0 0 0 0 0))).2 = 0 ∧ (noteOf (putN (NoteD.mk 3 3 9 0 [] 0 [] 0 0 [] 0 0 0 0 0 0 0 0))).1.n = 3 ∧ (noteOf (putN (NoteD.mk 3 3 9 0 [] 0 [] 0 0 [] 0 0 0 0 0 0 0 0))).1.t = 9 := by rw [aw10_put]; exact ⟨by decide, by decide, by decide⟩
theorem noteOf_R (s : ByteArray) : NoteR (noteOf s).1 := by
  unfold noteOf
  simp only
  split
  · exact zN_R 0
  split
  · exact zN_R 0
  unfold nEnd
  split
  · exact zN_R 0
  split
  · exact zN_R 0
  split
  · exact zN_R 0
  · exact rdNote_R _ _ _ _

set_option maxRecDepth 100000 in
theorem rnInts_any (v : Value) (l : List Int) (v2 : Value) (l2 : List Int) (w : World) (hs : SliceOf (intE .i64) 1 w v l) (hs2 : SliceOf (intE .i64) 1 w v2 l2) :
    Calls Tryz.prog 84 #[v, v2] w fun e w' => e = .returned (.bool (sameI l l2)) ∧ Below w.heap.size w w' := by
 have hB0 := Below.refl w.heap.size w
 have hl_hs := sl_len hs
 have hl_hs2 := sl_len hs2
 refine co_enter (n := 32) Tryz.func84 rfl rfl rfl [(0, v), (1, v2)] rfl (fun a h0 => ?_)
 refine co_seq ?_
 refine co_reg ?_
 refine pk0 (v := .bool false) h0 rfl fun a1 h1 => ?_; clear h0
 refine pl_nil ?_
 refine co_then ?_
 refine co_seq ?_
 refine co_seq ?_
 refine co_reg ?_
 refine pk0 (v := v) h1 rfl fun a2 h2 => ?_; clear h1
 refine pk (v := .int .i64 ((l.length : Nat) : Int)) h2 rfl (rn_len rfl rfl Tryz.underlying50 hs) fun a3 h3 => ?_; clear h2
 refine pk0 (v := v2) h3 rfl fun a4 h4 => ?_; clear h3
 refine pk (v := .int .i64 ((l2.length : Nat) : Int)) h4 rfl (rn_len rfl rfl Tryz.underlying50 hs2) fun a5 h5 => ?_; clear h4
 refine pk0 (v := .bool (((l.length : Nat) : Int) != ((l2.length : Nat) : Int))) h5 rfl fun a6 h6 => ?_; clear h5
 refine pl_nil ?_
 refine co_then ?_
 cases hc7 : (((l.length : Nat) : Int) != ((l2.length : Nat) : Int))
 ·
  rw [hc7] at h6
  have hp8 : ¬ (((l.length : Nat) : Int) ≠ ((l2.length : Nat) : Int)) := by first | simpa using hc7 | simpa [and_assoc] using hc7
  clear hc7
  refine co_false h6 rfl ?_
  refine wp_skip ?_
  refine co_then ?_
  refine co_seq ?_
  refine co_seq ?_
  refine co_reg ?_
  refine pk0 (v := .int .i64 0) h6 rfl fun a9 h9 => ?_; clear h6
  refine pl_nil ?_
  refine co_then ?_
  refine wp_block ?_
  have h10 : Slots 32 [(0, v), (1, v2), (5, .int .i64 0)] _ := h9.sub ⟨rfl, rfl, rfl, trivial⟩; clear h9
  refine co_loop (fun mm a x => ∃ (i : Nat), Slots 32 [(0, v), (1, v2), (5, .int .i64 ((i : Nat) : Int))] a ∧ mm = l.length - i ∧ (i ≤ l.length) ∧ (l.length = l2.length) ∧ (l.take i = l2.take i) ∧ Below w.heap.size w x) (l.length - 0) ?_ ?_
  · exact ⟨0, h10.sub ⟨rfl, rfl, (slot_eq rfl (congrArg (Value.int .i64) (by first | rfl | omega))), trivial⟩, rfl, by omega, by omega, by first | rfl | exact hL', hB0⟩
  · rintro k11 a12 w13 ⟨i, h12, rfl, hi14, hi15, hi16, hB17⟩
    have hz18 := hB17.size
    have hL : l.take i = l2.take i := by assumption
    refine co_seq ?_
    refine co_seq ?_
    refine co_reg ?_
    refine pk0 (v := .int .i64 ((i : Nat) : Int)) h12 rfl fun a19 h19 => ?_; clear h12
    refine pk0 (v := v) h19 rfl fun a20 h20 => ?_; clear h19
    refine pk (v := .int .i64 ((l.length : Nat) : Int)) h20 rfl (rn_len rfl rfl Tryz.underlying50 (hs.below hB17)) fun a21 h21 => ?_; clear h20
    refine pk0 (v := .bool (decide (((i : Nat) : Int) < ((l.length : Nat) : Int)))) h21 rfl fun a22 h22 => ?_; clear h21
    refine pk0 (v := .bool (decide (((i : Nat) : Int) < ((l.length : Nat) : Int)))) h22 rfl fun a23 h23 => ?_; clear h22
    cases hc24 : (decide (((i : Nat) : Int) < ((l.length : Nat) : Int)))
    ·
     rw [hc24] at h23
     have hp25 : ¬ (((i : Nat) : Int) < ((l.length : Nat) : Int)) := of_decide_eq_false hc24
     clear hc24
     refine psk h23 rfl fun a26 h26 => ?_; clear h23
     refine psk h26 rfl fun a27 h27 => ?_; clear h26
     refine psk h27 rfl fun a28 h28 => ?_; clear h27
     refine psk h28 rfl fun a29 h29 => ?_; clear h28
     refine pk0 (v := .bool false) h29 rfl fun a30 h30 => ?_; clear h29
     refine pl_nil ?_
     refine co_then ?_
     refine co_false h30 rfl ?_
     refine wp_exit ?_
     refine co_thenX ?_
     refine co_thenX ?_
     refine co_blockX ?_
     refine co_then ?_
     refine co_seq ?_
     refine co_reg ?_
     refine pk0 (v := .bool true) h30 rfl fun a31 h31 => ?_; clear h30
     refine pl_nil ?_
     refine co_then ?_
     refine wp_ret ?_
     refine co_ret1 h31 rfl rfl ?_
     exact ⟨ret_bool (sameI_end (i := i) hL (by omega) (by omega)), hB17⟩
    ·
     rw [hc24] at h23
     have hp32 : ((i : Nat) : Int) < ((l.length : Nat) : Int) := of_decide_eq_true hc24
     clear hc24
     refine pk0 (v := .int .i64 ((i : Nat) : Int)) h23 rfl fun a33 h33 => ?_; clear h23
     refine pk0 (v := v2) h33 rfl fun a34 h34 => ?_; clear h33
     refine pk (v := .int .i64 ((l2.length : Nat) : Int)) h34 rfl (rn_len rfl rfl Tryz.underlying50 (hs2.below hB17)) fun a35 h35 => ?_; clear h34
     refine pk0 (v := .bool (decide (((i : Nat) : Int) < ((l2.length : Nat) : Int)))) h35 rfl fun a36 h36 => ?_; clear h35
     refine pk0 (v := .bool (decide (((i : Nat) : Int) < ((l2.length : Nat) : Int)))) h36 rfl fun a37 h37 => ?_; clear h36
     refine pl_nil ?_
     refine co_then ?_
     have hc38 : (decide (((i : Nat) : Int) < ((l2.length : Nat) : Int))) = true := decide_eq_true (by omega)
     rw [hc38] at h37; clear hc38
     refine co_true h37 rfl ?_
     refine wp_skip ?_
     refine co_then ?_
     refine co_seq ?_
     refine wp_block ?_
     refine co_seq ?_
     refine dr_eq (by kernel_rfl) (fun w39 hg40 => ?_)
     have hz41 := hg40.size
     refine dk0 0 (v := v) h37 rfl rfl rfl fun a42 h42 => ?_; clear h37
     refine dk0 1 (v := .int .i64 ((i : Nat) : Int)) h42 rfl rfl rfl fun a43 h43 => ?_; clear h42
     have hB45 := hb_new hB17 hg40
     obtain ⟨y44, hy44⟩ : ∃ z, l[i]? = some z := ⟨_, List.getElem?_eq_getElem (by first | omega | (simp; done) | (simp; omega))⟩
     refine dk 2 (v := pt (blkOf v) (offOf v + i * 1)) h43 rfl rfl rfl (fun x hx => by subst hx; exact (rn_index rfl rfl rfl Tryz.underlying50 Tryz.sizeOf3 (hs.below hB45) (by omega) (by first | omega | (simp; done) | (simp; omega)))) fun a46 h46 => ?_; clear h43
     refine dk 3 (v := .int .i64 y44) h46 rfl rfl rfl (fun x hx => by subst hx; exact (rn_load1 rfl rfl Tryz.isAgg3 ((sl_at (hs.below hB45) hy44) 0 _ rfl))) fun a47 h47 => ?_; clear h46
     refine dk0 4 (v := v2) h47 rfl rfl rfl fun a48 h48 => ?_; clear h47
     refine dk0 5 (v := .int .i64 ((i : Nat) : Int)) h48 rfl rfl rfl fun a49 h49 => ?_; clear h48
     obtain ⟨y50, hy50⟩ : ∃ z, l2[i]? = some z := ⟨_, List.getElem?_eq_getElem (by first | omega | (simp; done) | (simp; omega))⟩
     refine dk 6 (v := pt (blkOf v2) (offOf v2 + i * 1)) h49 rfl rfl rfl (fun x hx => by subst hx; exact (rn_index rfl rfl rfl Tryz.underlying50 Tryz.sizeOf3 (hs2.below hB45) (by omega) (by first | omega | (simp; done) | (simp; omega)))) fun a51 h51 => ?_; clear h49
     refine dk 7 (v := .int .i64 y50) h51 rfl rfl rfl (fun x hx => by subst hx; exact (rn_load1 rfl rfl Tryz.isAgg3 ((sl_at (hs2.below hB45) hy50) 0 _ rfl))) fun a52 h52 => ?_; clear h51
     refine dk0 8 (v := .bool (y44 != y50)) h52 rfl rfl rfl fun a53 h53 => ?_; clear h52
     refine dr_done (by kernel_rfl) ?_
     refine co_then ?_
     cases hc54 : (y44 != y50)
     ·
      rw [hc54] at h53
      have hp55 : ¬ (y44 ≠ y50) := by first | simpa using hc54 | simpa [and_assoc] using hc54
      clear hc54
      refine co_false h53 rfl ?_
      refine wp_skip ?_
      refine co_blockN ?_
      refine co_then ?_
      refine co_reg ?_
      refine pk0 (v := .int .i64 ((i : Nat) : Int)) h53 rfl fun a56 h56 => ?_; clear h53
      refine pk (v := .int .i64 ((i + 1 : Nat) : Int)) h56 rfl (rn_arith' rfl rfl rfl rfl rfl rfl (IntWalk.i64_in _ (by omega)) (by omega)) fun a57 h57 => ?_; clear h56
      refine pk0 (v := .int .i64 ((i + 1 : Nat) : Int)) h57 rfl fun a58 h58 => ?_; clear h57
      refine pl_nil ?_
      refine co_then ?_
      refine ⟨(l.length - (i + 1)), by omega, ?_⟩
      have hL' := sameI_step hL hy44 hy50 (by omega)
      exact ⟨i + 1, h58.sub ⟨rfl, rfl, rfl, trivial⟩, rfl, by omega, by omega, by first | rfl | exact hL', hB45⟩
     ·
      rw [hc54] at h53
      have hp59 : y44 ≠ y50 := by first | simpa using hc54 | simpa [and_assoc] using hc54
      clear hc54
      refine co_true h53 rfl ?_
      refine co_seq ?_
      refine co_reg ?_
      refine pk0 (v := .bool false) h53 rfl fun a60 h60 => ?_; clear h53
      refine pl_nil ?_
      refine co_then ?_
      refine wp_ret ?_
      refine co_blockR ?_
      refine co_thenR ?_
      refine co_thenR ?_
      refine co_blockR ?_
      refine co_thenR ?_
      refine co_ret1 h60 rfl rfl ?_
      exact ⟨ret_bool (sameI_no hy44 hy50 (by omega)), hB45⟩
 ·
  rw [hc7] at h6
  have hp61 : ((l.length : Nat) : Int) ≠ ((l2.length : Nat) : Int) := by first | simpa using hc7 | simpa [and_assoc] using hc7
  clear hc7
  refine co_true h6 rfl ?_
  refine co_seq ?_
  refine co_reg ?_
  refine pk0 (v := .bool false) h6 rfl fun a62 h62 => ?_; clear h6
  refine pl_nil ?_
  refine co_then ?_
  refine wp_ret ?_
  refine co_thenR ?_
  refine co_ret1 h62 rfl rfl ?_
  exact ⟨ret_bool (sameI_len (by omega)), hB0⟩
set_option maxRecDepth 100000 in
theorem rnSame_any (d : NoteD) (mv : Value) (lv : Value) (ev : Value) (d2 : NoteD) (mv2 : Value) (lv2 : Value) (ev2 : Value) (w : World) (hm : SliceOf memE 2 w mv d.ms) (hg : SliceOf (intE .i64) 1 w lv d.lg) (he : SliceOf opE 3 w ev d.el) (hR : NoteR d) (hm2 : SliceOf memE 2 w mv2 d2.ms) (hg2 : SliceOf (intE .i64) 1 w lv2 d2.lg) (he2 : SliceOf opE 3 w ev2 d2.el) (hR2 : NoteR d2) :
    Calls Tryz.prog 24 #[.agg #[.int .i64 d.k, .int .i64 d.n, .int .u64 d.t, .int .i64 d.ep, mv, .int .u64 d.fl, lv, .int .i64 d.ec, .int .i64 d.er, ev, .int .u64 d.ets, .int .i64 d.pid, .int .u64 d.pat, .int .i64 d.plf, .int .i64 d.sc, .int .i64 d.sr, .int .i64 d.se, .int .i64 d.sp], .agg #[.int .i64 d2.k, .int .i64 d2.n, .int .u64 d2.t, .int .i64 d2.ep, mv2, .int .u64 d2.fl, lv2, .int .i64 d2.ec, .int .i64 d2.er, ev2, .int .u64 d2.ets, .int .i64 d2.pid, .int .u64 d2.pat, .int .i64 d2.plf, .int .i64 d2.sc, .int .i64 d2.sr, .int .i64 d2.se, .int .i64 d2.sp]] w fun e w' => e = .returned (.bool (sameN d d2)) ∧ Below w.heap.size w w' := by
 have hrng := hR.rng
 have hrng2 := hR2.rng
 have hB0 := Below.refl w.heap.size w
 have hl_hm := sl_len hm
 have hl_hg := sl_len hg
 have hl_he := sl_len he
 have hl_hm2 := sl_len hm2
 have hl_hg2 := sl_len hg2
 have hl_he2 := sl_len he2
 refine co_enter (n := 59) Tryz.func24 rfl rfl rfl [(0, .agg #[.int .i64 d.k, .int .i64 d.n, .int .u64 d.t, .int .i64 d.ep, mv, .int .u64 d.fl, lv, .int .i64 d.ec, .int .i64 d.er, ev, .int .u64 d.ets, .int .i64 d.pid, .int .u64 d.pat, .int .i64 d.plf, .int .i64 d.sc, .int .i64 d.sr, .int .i64 d.se, .int .i64 d.sp]), (1, .agg #[.int .i64 d2.k, .int .i64 d2.n, .int .u64 d2.t, .int .i64 d2.ep, mv2, .int .u64 d2.fl, lv2, .int .i64 d2.ec, .int .i64 d2.er, ev2, .int .u64 d2.ets, .int .i64 d2.pid, .int .u64 d2.pat, .int .i64 d2.plf, .int .i64 d2.sc, .int .i64 d2.sr, .int .i64 d2.se, .int .i64 d2.sp])] rfl (fun a h0 => ?_)
 refine co_seq ?_
 refine co_reg ?_
 refine pw h0 rfl (op_new (v := fun N => pt N 0) (T := 58) (cs := #[.int .i64 d.k, .int .i64 d.n, .int .u64 d.t, .int .i64 d.ep, mv, .int .u64 d.fl, lv, .int .i64 d.ec, .int .i64 d.er, ev, .int .u64 d.ets, .int .i64 d.pid, .int .u64 d.pat, .int .i64 d.plf, .int .i64 d.sc, .int .i64 d.sr, .int .i64 d.se, .int .i64 d.sp]) (by kernel_rfl) (by kernel_rfl) (by kernel_rfl)) ?_; clear h0
 rintro _ w2 a1 ⟨N3, rfl, hN6, hz7, hk5, hg4⟩ h1
 have hz8 := hg4.size
 try dsimp only at h1
 refine pw h1 rfl (op_new (v := fun N => pt N 0) (T := 58) (cs := #[.int .i64 d2.k, .int .i64 d2.n, .int .u64 d2.t, .int .i64 d2.ep, mv2, .int .u64 d2.fl, lv2, .int .i64 d2.ec, .int .i64 d2.er, ev2, .int .u64 d2.ets, .int .i64 d2.pid, .int .u64 d2.pat, .int .i64 d2.plf, .int .i64 d2.sc, .int .i64 d2.sr, .int .i64 d2.se, .int .i64 d2.sp]) (by kernel_rfl) (by kernel_rfl) (by kernel_rfl)) ?_; clear h1
 rintro _ w10 a9 ⟨N11, rfl, hN14, hz15, hk13, hg12⟩ h9
 have hz16 := hg12.size
 try dsimp only at h9
 refine pk0 (v := .bool false) h9 rfl fun a17 h17 => ?_; clear h9
 refine pl_nil ?_
 refine co_then ?_
 refine co_seq ?_
 refine co_reg ?_
 refine pk0 (v := pt N3 0) h17 rfl fun a18 h18 => ?_; clear h17
 have hk19 := hk5.kept hg12 (by simp)
 refine pk (v := .int .i64 d.k) h18 rfl (rn_load1 rfl rfl Tryz.isAgg3 (hk19.cell rfl)) fun a20 h20 => ?_; clear h18
 refine pk0 (v := pt N11 0) h20 rfl fun a21 h21 => ?_; clear h20
 refine pk (v := .int .i64 d2.k) h21 rfl (rn_load1 rfl rfl Tryz.isAgg3 (hk13.cell rfl)) fun a22 h22 => ?_; clear h21
 refine pk0 (v := .bool (d.k == d2.k)) h22 rfl fun a23 h23 => ?_; clear h22
 refine pk0 (v := .bool (d.k == d2.k)) h23 rfl fun a24 h24 => ?_; clear h23
 have hB26 := hb_new hB0 hg4
 have hB27 := hb_new hB26 hg12
 cases hc25 : (d.k == d2.k)
 ·
  rw [hc25] at h24
  have hp28 : ¬ (d.k = d2.k) := by first | simpa using hc25 | simpa [and_assoc] using hc25
  clear hc25
  refine psk h24 rfl fun a29 h29 => ?_; clear h24
  refine psk h29 rfl fun a30 h30 => ?_; clear h29
  refine psk h30 rfl fun a31 h31 => ?_; clear h30
  refine psk h31 rfl fun a32 h32 => ?_; clear h31
  refine psk h32 rfl fun a33 h33 => ?_; clear h32
  refine pk0 (v := .bool false) h33 rfl fun a34 h34 => ?_; clear h33
  refine pk0 (v := .bool false) h34 rfl fun a35 h35 => ?_; clear h34
  refine psk h35 rfl fun a36 h36 => ?_; clear h35
  refine psk h36 rfl fun a37 h37 => ?_; clear h36
  refine psk h37 rfl fun a38 h38 => ?_; clear h37
  refine psk h38 rfl fun a39 h39 => ?_; clear h38
  refine psk h39 rfl fun a40 h40 => ?_; clear h39
  refine pk0 (v := .bool false) h40 rfl fun a41 h41 => ?_; clear h40
  refine pk0 (v := .bool false) h41 rfl fun a42 h42 => ?_; clear h41
  refine psk h42 rfl fun a43 h43 => ?_; clear h42
  refine psk h43 rfl fun a44 h44 => ?_; clear h43
  refine psk h44 rfl fun a45 h45 => ?_; clear h44
  refine psk h45 rfl fun a46 h46 => ?_; clear h45
  refine psk h46 rfl fun a47 h47 => ?_; clear h46
  refine pk0 (v := .bool false) h47 rfl fun a48 h48 => ?_; clear h47
  refine pk0 (v := .bool false) h48 rfl fun a49 h49 => ?_; clear h48
  refine psk h49 rfl fun a50 h50 => ?_; clear h49
  refine psk h50 rfl fun a51 h51 => ?_; clear h50
  refine psk h51 rfl fun a52 h52 => ?_; clear h51
  refine psk h52 rfl fun a53 h53 => ?_; clear h52
  refine psk h53 rfl fun a54 h54 => ?_; clear h53
  refine pk0 (v := .bool false) h54 rfl fun a55 h55 => ?_; clear h54
  refine pk0 (v := .bool false) h55 rfl fun a56 h56 => ?_; clear h55
  refine psk h56 rfl fun a57 h57 => ?_; clear h56
  refine psk h57 rfl fun a58 h58 => ?_; clear h57
  refine psk h58 rfl fun a59 h59 => ?_; clear h58
  refine psk h59 rfl fun a60 h60 => ?_; clear h59
  refine psk h60 rfl fun a61 h61 => ?_; clear h60
  refine pk0 (v := .bool false) h61 rfl fun a62 h62 => ?_; clear h61
  refine pk0 (v := .bool false) h62 rfl fun a63 h63 => ?_; clear h62
  refine psk h63 rfl fun a64 h64 => ?_; clear h63
  refine psk h64 rfl fun a65 h65 => ?_; clear h64
  refine psk h65 rfl fun a66 h66 => ?_; clear h65
  refine psk h66 rfl fun a67 h67 => ?_; clear h66
  refine psk h67 rfl fun a68 h68 => ?_; clear h67
  refine pk0 (v := .bool false) h68 rfl fun a69 h69 => ?_; clear h68
  refine pk0 (v := .bool false) h69 rfl fun a70 h70 => ?_; clear h69
  refine psk h70 rfl fun a71 h71 => ?_; clear h70
  refine psk h71 rfl fun a72 h72 => ?_; clear h71
  refine psk h72 rfl fun a73 h73 => ?_; clear h72
  refine psk h73 rfl fun a74 h74 => ?_; clear h73
  refine psk h74 rfl fun a75 h75 => ?_; clear h74
  refine pk0 (v := .bool false) h75 rfl fun a76 h76 => ?_; clear h75
  refine pk0 (v := .bool false) h76 rfl fun a77 h77 => ?_; clear h76
  refine pl_nil ?_
  refine co_then ?_
  refine wp_ret ?_
  refine co_ret1 h77 rfl rfl ?_
  exact ⟨ret_bool (sameN_no (by omega)), hB27⟩
 ·
  rw [hc25] at h24
  have hp78 : d.k = d2.k := by first | simpa using hc25 | simpa [and_assoc] using hc25
  clear hc25
  refine pk0 (v := pt N3 1) h24 rfl fun a79 h79 => ?_; clear h24
  refine pk (v := .int .i64 d.n) h79 rfl (rn_load1 rfl rfl Tryz.isAgg3 (hk19.cell rfl)) fun a80 h80 => ?_; clear h79
  refine pk0 (v := pt N11 1) h80 rfl fun a81 h81 => ?_; clear h80
  refine pk (v := .int .i64 d2.n) h81 rfl (rn_load1 rfl rfl Tryz.isAgg3 (hk13.cell rfl)) fun a82 h82 => ?_; clear h81
  refine pk0 (v := .bool (d.n == d2.n)) h82 rfl fun a83 h83 => ?_; clear h82
  refine pk0 (v := .bool (d.n == d2.n)) h83 rfl fun a84 h84 => ?_; clear h83
  refine pk0 (v := .bool (d.n == d2.n)) h84 rfl fun a85 h85 => ?_; clear h84
  cases hc86 : (d.n == d2.n)
  ·
   rw [hc86] at h85
   have hp87 : ¬ (d.n = d2.n) := by first | simpa using hc86 | simpa [and_assoc] using hc86
   clear hc86
   refine psk h85 rfl fun a88 h88 => ?_; clear h85
   refine psk h88 rfl fun a89 h89 => ?_; clear h88
   refine psk h89 rfl fun a90 h90 => ?_; clear h89
   refine psk h90 rfl fun a91 h91 => ?_; clear h90
   refine psk h91 rfl fun a92 h92 => ?_; clear h91
   refine pk0 (v := .bool false) h92 rfl fun a93 h93 => ?_; clear h92
   refine pk0 (v := .bool false) h93 rfl fun a94 h94 => ?_; clear h93
   refine psk h94 rfl fun a95 h95 => ?_; clear h94
   refine psk h95 rfl fun a96 h96 => ?_; clear h95
   refine psk h96 rfl fun a97 h97 => ?_; clear h96
   refine psk h97 rfl fun a98 h98 => ?_; clear h97
   refine psk h98 rfl fun a99 h99 => ?_; clear h98
   refine pk0 (v := .bool false) h99 rfl fun a100 h100 => ?_; clear h99
   refine pk0 (v := .bool false) h100 rfl fun a101 h101 => ?_; clear h100
   refine psk h101 rfl fun a102 h102 => ?_; clear h101
   refine psk h102 rfl fun a103 h103 => ?_; clear h102
   refine psk h103 rfl fun a104 h104 => ?_; clear h103
   refine psk h104 rfl fun a105 h105 => ?_; clear h104
   refine psk h105 rfl fun a106 h106 => ?_; clear h105
   refine pk0 (v := .bool false) h106 rfl fun a107 h107 => ?_; clear h106
   refine pk0 (v := .bool false) h107 rfl fun a108 h108 => ?_; clear h107
   refine psk h108 rfl fun a109 h109 => ?_; clear h108
   refine psk h109 rfl fun a110 h110 => ?_; clear h109
   refine psk h110 rfl fun a111 h111 => ?_; clear h110
   refine psk h111 rfl fun a112 h112 => ?_; clear h111
   refine psk h112 rfl fun a113 h113 => ?_; clear h112
   refine pk0 (v := .bool false) h113 rfl fun a114 h114 => ?_; clear h113
   refine pk0 (v := .bool false) h114 rfl fun a115 h115 => ?_; clear h114
   refine psk h115 rfl fun a116 h116 => ?_; clear h115
   refine psk h116 rfl fun a117 h117 => ?_; clear h116
   refine psk h117 rfl fun a118 h118 => ?_; clear h117
   refine psk h118 rfl fun a119 h119 => ?_; clear h118
   refine psk h119 rfl fun a120 h120 => ?_; clear h119
   refine pk0 (v := .bool false) h120 rfl fun a121 h121 => ?_; clear h120
   refine pk0 (v := .bool false) h121 rfl fun a122 h122 => ?_; clear h121
   refine psk h122 rfl fun a123 h123 => ?_; clear h122
   refine psk h123 rfl fun a124 h124 => ?_; clear h123
   refine psk h124 rfl fun a125 h125 => ?_; clear h124
   refine psk h125 rfl fun a126 h126 => ?_; clear h125
   refine psk h126 rfl fun a127 h127 => ?_; clear h126
   refine pk0 (v := .bool false) h127 rfl fun a128 h128 => ?_; clear h127
   refine pk0 (v := .bool false) h128 rfl fun a129 h129 => ?_; clear h128
   refine pl_nil ?_
   refine co_then ?_
   refine wp_ret ?_
   refine co_ret1 h129 rfl rfl ?_
   exact ⟨ret_bool (sameN_no (by omega)), hB27⟩
  ·
   rw [hc86] at h85
   have hp130 : d.n = d2.n := by first | simpa using hc86 | simpa [and_assoc] using hc86
   clear hc86
   refine pk0 (v := pt N3 2) h85 rfl fun a131 h131 => ?_; clear h85
   refine pk (v := .int .u64 d.t) h131 rfl (rn_load1 rfl rfl Tryz.isAgg22 (hk19.cell rfl)) fun a132 h132 => ?_; clear h131
   refine pk0 (v := pt N11 2) h132 rfl fun a133 h133 => ?_; clear h132
   refine pk (v := .int .u64 d2.t) h133 rfl (rn_load1 rfl rfl Tryz.isAgg22 (hk13.cell rfl)) fun a134 h134 => ?_; clear h133
   refine pk0 (v := .bool (d.t == d2.t)) h134 rfl fun a135 h135 => ?_; clear h134
   refine pk0 (v := .bool (d.t == d2.t)) h135 rfl fun a136 h136 => ?_; clear h135
   refine pk0 (v := .bool (d.t == d2.t)) h136 rfl fun a137 h137 => ?_; clear h136
   cases hc138 : (d.t == d2.t)
   ·
    rw [hc138] at h137
    have hp139 : ¬ (d.t = d2.t) := by first | simpa using hc138 | simpa [and_assoc] using hc138
    clear hc138
    refine psk h137 rfl fun a140 h140 => ?_; clear h137
    refine psk h140 rfl fun a141 h141 => ?_; clear h140
    refine psk h141 rfl fun a142 h142 => ?_; clear h141
    refine psk h142 rfl fun a143 h143 => ?_; clear h142
    refine psk h143 rfl fun a144 h144 => ?_; clear h143
    refine pk0 (v := .bool false) h144 rfl fun a145 h145 => ?_; clear h144
    refine pk0 (v := .bool false) h145 rfl fun a146 h146 => ?_; clear h145
    refine psk h146 rfl fun a147 h147 => ?_; clear h146
    refine psk h147 rfl fun a148 h148 => ?_; clear h147
    refine psk h148 rfl fun a149 h149 => ?_; clear h148
    refine psk h149 rfl fun a150 h150 => ?_; clear h149
    refine psk h150 rfl fun a151 h151 => ?_; clear h150
    refine pk0 (v := .bool false) h151 rfl fun a152 h152 => ?_; clear h151
    refine pk0 (v := .bool false) h152 rfl fun a153 h153 => ?_; clear h152
    refine psk h153 rfl fun a154 h154 => ?_; clear h153
    refine psk h154 rfl fun a155 h155 => ?_; clear h154
    refine psk h155 rfl fun a156 h156 => ?_; clear h155
    refine psk h156 rfl fun a157 h157 => ?_; clear h156
    refine psk h157 rfl fun a158 h158 => ?_; clear h157
    refine pk0 (v := .bool false) h158 rfl fun a159 h159 => ?_; clear h158
    refine pk0 (v := .bool false) h159 rfl fun a160 h160 => ?_; clear h159
    refine psk h160 rfl fun a161 h161 => ?_; clear h160
    refine psk h161 rfl fun a162 h162 => ?_; clear h161
    refine psk h162 rfl fun a163 h163 => ?_; clear h162
    refine psk h163 rfl fun a164 h164 => ?_; clear h163
    refine psk h164 rfl fun a165 h165 => ?_; clear h164
    refine pk0 (v := .bool false) h165 rfl fun a166 h166 => ?_; clear h165
    refine pk0 (v := .bool false) h166 rfl fun a167 h167 => ?_; clear h166
    refine psk h167 rfl fun a168 h168 => ?_; clear h167
    refine psk h168 rfl fun a169 h169 => ?_; clear h168
    refine psk h169 rfl fun a170 h170 => ?_; clear h169
    refine psk h170 rfl fun a171 h171 => ?_; clear h170
    refine psk h171 rfl fun a172 h172 => ?_; clear h171
    refine pk0 (v := .bool false) h172 rfl fun a173 h173 => ?_; clear h172
    refine pk0 (v := .bool false) h173 rfl fun a174 h174 => ?_; clear h173
    refine pl_nil ?_
    refine co_then ?_
    refine wp_ret ?_
    refine co_ret1 h174 rfl rfl ?_
    exact ⟨ret_bool (sameN_no (by omega)), hB27⟩
   ·
    rw [hc138] at h137
    have hp175 : d.t = d2.t := by first | simpa using hc138 | simpa [and_assoc] using hc138
    clear hc138
    refine pk0 (v := pt N3 3) h137 rfl fun a176 h176 => ?_; clear h137
    refine pk (v := .agg #[.int .i64 d.ep, mv, .int .u64 d.fl]) h176 rfl (rn_loadN rfl rfl Tryz.underlying26 rfl (by kernel_rfl) (blk_part hk19 3 (by rfl))) fun a177 h177 => ?_; clear h176
    refine pk0 (v := pt N11 3) h177 rfl fun a178 h178 => ?_; clear h177
    refine pk (v := .agg #[.int .i64 d2.ep, mv2, .int .u64 d2.fl]) h178 rfl (rn_loadN rfl rfl Tryz.underlying26 rfl (by kernel_rfl) (blk_part hk13 3 (by rfl))) fun a179 h179 => ?_; clear h178
    refine pw h179 rfl (op_call (args := #[.agg #[.int .i64 d.ep, mv, .int .u64 d.fl], .agg #[.int .i64 d2.ep, mv2, .int .u64 d2.fl]]) (R := fun res xw => res = .bool (sameCf d.ep d.ms d.fl d2.ep d2.ms d2.fl) ∧ Below w10.heap.size w10 xw) rfl rfl rfl (by kernel_rfl) (by kernel_rfl) (Tryz.call41 _ _) (wrsame_any d.ep mv d.ms d.fl d2.ep mv2 d2.ms d2.fl w10 (hm.below hB27) hR.mem (by omega) (by omega) (hm2.below hB27) hR2.mem (by omega) (by omega)) (by rintro e x ⟨rfl, hb182⟩; exact ⟨_, rfl, ⟨rfl, hb182⟩⟩)) ?_; clear h179
    rintro _ w181 a180 ⟨rfl, hb182⟩ h180
    have hz183 := hb182.size
    refine pk0 (v := .bool (sameCf d.ep d.ms d.fl d2.ep d2.ms d2.fl)) h180 rfl fun a184 h184 => ?_; clear h180
    refine pk0 (v := .bool (sameCf d.ep d.ms d.fl d2.ep d2.ms d2.fl)) h184 rfl fun a185 h185 => ?_; clear h184
    have hB187 := hb_call hB27 hb182
    cases hc186 : (sameCf d.ep d.ms d.fl d2.ep d2.ms d2.fl)
    ·
     rw [hc186] at h185
     refine psk h185 rfl fun a188 h188 => ?_; clear h185
     refine psk h188 rfl fun a189 h189 => ?_; clear h188
     refine psk h189 rfl fun a190 h190 => ?_; clear h189
     refine psk h190 rfl fun a191 h191 => ?_; clear h190
     refine psk h191 rfl fun a192 h192 => ?_; clear h191
     refine pk0 (v := .bool false) h192 rfl fun a193 h193 => ?_; clear h192
     refine pk0 (v := .bool false) h193 rfl fun a194 h194 => ?_; clear h193
     refine psk h194 rfl fun a195 h195 => ?_; clear h194
     refine psk h195 rfl fun a196 h196 => ?_; clear h195
     refine psk h196 rfl fun a197 h197 => ?_; clear h196
     refine psk h197 rfl fun a198 h198 => ?_; clear h197
     refine psk h198 rfl fun a199 h199 => ?_; clear h198
     refine pk0 (v := .bool false) h199 rfl fun a200 h200 => ?_; clear h199
     refine pk0 (v := .bool false) h200 rfl fun a201 h201 => ?_; clear h200
     refine psk h201 rfl fun a202 h202 => ?_; clear h201
     refine psk h202 rfl fun a203 h203 => ?_; clear h202
     refine psk h203 rfl fun a204 h204 => ?_; clear h203
     refine psk h204 rfl fun a205 h205 => ?_; clear h204
     refine psk h205 rfl fun a206 h206 => ?_; clear h205
     refine pk0 (v := .bool false) h206 rfl fun a207 h207 => ?_; clear h206
     refine pk0 (v := .bool false) h207 rfl fun a208 h208 => ?_; clear h207
     refine psk h208 rfl fun a209 h209 => ?_; clear h208
     refine psk h209 rfl fun a210 h210 => ?_; clear h209
     refine psk h210 rfl fun a211 h211 => ?_; clear h210
     refine psk h211 rfl fun a212 h212 => ?_; clear h211
     refine psk h212 rfl fun a213 h213 => ?_; clear h212
     refine pk0 (v := .bool false) h213 rfl fun a214 h214 => ?_; clear h213
     refine pk0 (v := .bool false) h214 rfl fun a215 h215 => ?_; clear h214
     refine pl_nil ?_
     refine co_then ?_
     refine wp_ret ?_
     refine co_ret1 h215 rfl rfl ?_
     exact ⟨ret_bool (by rw [sameN_y (by omega)]; exact s_a (by assumption)), hB187⟩
    ·
     rw [hc186] at h185
     refine pk0 (v := pt N3 6) h185 rfl fun a216 h216 => ?_; clear h185
     have hk217 := hk19.below hb182
     refine pk (v := lv) h216 rfl (rn_load1 rfl rfl Tryz.isAgg50 (hk217.cell rfl)) fun a218 h218 => ?_; clear h216
     refine pk0 (v := pt N11 6) h218 rfl fun a219 h219 => ?_; clear h218
     have hk220 := hk13.below hb182
     refine pk (v := lv2) h219 rfl (rn_load1 rfl rfl Tryz.isAgg50 (hk220.cell rfl)) fun a221 h221 => ?_; clear h219
     refine pw h221 rfl (op_call (args := #[lv, lv2]) (R := fun res xw => res = .bool (sameI d.lg d2.lg) ∧ Below w181.heap.size w181 xw) rfl rfl rfl (by kernel_rfl) (by kernel_rfl) (Tryz.call84 _ _) (rnInts_any lv d.lg lv2 d2.lg w181 (hg.below hB187) (hg2.below hB187)) (by rintro e x ⟨rfl, hb224⟩; exact ⟨_, rfl, ⟨rfl, hb224⟩⟩)) ?_; clear h221
     rintro _ w223 a222 ⟨rfl, hb224⟩ h222
     have hz225 := hb224.size
     refine pk0 (v := .bool (sameI d.lg d2.lg)) h222 rfl fun a226 h226 => ?_; clear h222
     refine pk0 (v := .bool (sameI d.lg d2.lg)) h226 rfl fun a227 h227 => ?_; clear h226
     have hB229 := hb_call hB187 hb224
     cases hc228 : (sameI d.lg d2.lg)
     ·
      rw [hc228] at h227
      refine psk h227 rfl fun a230 h230 => ?_; clear h227
      refine psk h230 rfl fun a231 h231 => ?_; clear h230
      refine psk h231 rfl fun a232 h232 => ?_; clear h231
      refine psk h232 rfl fun a233 h233 => ?_; clear h232
      refine psk h233 rfl fun a234 h234 => ?_; clear h233
      refine pk0 (v := .bool false) h234 rfl fun a235 h235 => ?_; clear h234
      refine pk0 (v := .bool false) h235 rfl fun a236 h236 => ?_; clear h235
      refine psk h236 rfl fun a237 h237 => ?_; clear h236
      refine psk h237 rfl fun a238 h238 => ?_; clear h237
      refine psk h238 rfl fun a239 h239 => ?_; clear h238
      refine psk h239 rfl fun a240 h240 => ?_; clear h239
      refine psk h240 rfl fun a241 h241 => ?_; clear h240
      refine pk0 (v := .bool false) h241 rfl fun a242 h242 => ?_; clear h241
      refine pk0 (v := .bool false) h242 rfl fun a243 h243 => ?_; clear h242
      refine psk h243 rfl fun a244 h244 => ?_; clear h243
      refine psk h244 rfl fun a245 h245 => ?_; clear h244
      refine psk h245 rfl fun a246 h246 => ?_; clear h245
      refine psk h246 rfl fun a247 h247 => ?_; clear h246
      refine psk h247 rfl fun a248 h248 => ?_; clear h247
      refine pk0 (v := .bool false) h248 rfl fun a249 h249 => ?_; clear h248
      refine pk0 (v := .bool false) h249 rfl fun a250 h250 => ?_; clear h249
      refine pl_nil ?_
      refine co_then ?_
      refine wp_ret ?_
      refine co_ret1 h250 rfl rfl ?_
      exact ⟨ret_bool (by rw [sameN_y (by omega)]; exact s_b (by assumption) (by assumption)), hB229⟩
     ·
      rw [hc228] at h227
      refine pk0 (v := pt N3 7) h227 rfl fun a251 h251 => ?_; clear h227
      have hk252 := hk217.below hb224
      refine pk (v := .agg #[.int .i64 d.ec, .int .i64 d.er, ev, .int .u64 d.ets]) h251 rfl (rn_loadN rfl rfl Tryz.underlying52 rfl (by kernel_rfl) (blk_part hk252 7 (by rfl))) fun a253 h253 => ?_; clear h251
      refine pk0 (v := pt N11 7) h253 rfl fun a254 h254 => ?_; clear h253
      have hk255 := hk220.below hb224
      refine pk (v := .agg #[.int .i64 d2.ec, .int .i64 d2.er, ev2, .int .u64 d2.ets]) h254 rfl (rn_loadN rfl rfl Tryz.underlying52 rfl (by kernel_rfl) (blk_part hk255 7 (by rfl))) fun a256 h256 => ?_; clear h254
      refine pw h256 rfl (op_call (args := #[.agg #[.int .i64 d.ec, .int .i64 d.er, ev, .int .u64 d.ets], .agg #[.int .i64 d2.ec, .int .i64 d2.er, ev2, .int .u64 d2.ets]]) (R := fun res xw => res = .bool (sameE d.ec d.er d.el d.ets d2.ec d2.er d2.el d2.ets) ∧ Below w223.heap.size w223 xw) rfl rfl rfl (by kernel_rfl) (by kernel_rfl) (Tryz.call85 _ _) (ritemSame_any d.ec d.er ev d.el d.ets d2.ec d2.er ev2 d2.el d2.ets w223 (he.below hB229) (he2.below hB229)) (by rintro e x ⟨rfl, hb259⟩; exact ⟨_, rfl, ⟨rfl, hb259⟩⟩)) ?_; clear h256
      rintro _ w258 a257 ⟨rfl, hb259⟩ h257
      have hz260 := hb259.size
      refine pk0 (v := .bool (sameE d.ec d.er d.el d.ets d2.ec d2.er d2.el d2.ets)) h257 rfl fun a261 h261 => ?_; clear h257
      refine pk0 (v := .bool (sameE d.ec d.er d.el d.ets d2.ec d2.er d2.el d2.ets)) h261 rfl fun a262 h262 => ?_; clear h261
      have hB264 := hb_call hB229 hb259
      cases hc263 : (sameE d.ec d.er d.el d.ets d2.ec d2.er d2.el d2.ets)
      ·
       rw [hc263] at h262
       refine psk h262 rfl fun a265 h265 => ?_; clear h262
       refine psk h265 rfl fun a266 h266 => ?_; clear h265
       refine psk h266 rfl fun a267 h267 => ?_; clear h266
       refine psk h267 rfl fun a268 h268 => ?_; clear h267
       refine psk h268 rfl fun a269 h269 => ?_; clear h268
       refine pk0 (v := .bool false) h269 rfl fun a270 h270 => ?_; clear h269
       refine pk0 (v := .bool false) h270 rfl fun a271 h271 => ?_; clear h270
       refine psk h271 rfl fun a272 h272 => ?_; clear h271
       refine psk h272 rfl fun a273 h273 => ?_; clear h272
       refine psk h273 rfl fun a274 h274 => ?_; clear h273
       refine psk h274 rfl fun a275 h275 => ?_; clear h274
       refine psk h275 rfl fun a276 h276 => ?_; clear h275
       refine pk0 (v := .bool false) h276 rfl fun a277 h277 => ?_; clear h276
       refine pk0 (v := .bool false) h277 rfl fun a278 h278 => ?_; clear h277
       refine pl_nil ?_
       refine co_then ?_
       refine wp_ret ?_
       refine co_ret1 h278 rfl rfl ?_
       exact ⟨ret_bool (by rw [sameN_y (by omega)]; exact s_c (by assumption) (by assumption) (by assumption)), hB264⟩
      ·
       rw [hc263] at h262
       refine pk0 (v := pt N3 11) h262 rfl fun a279 h279 => ?_; clear h262
       have hk280 := hk252.below hb259
       refine pk (v := .agg #[.int .i64 d.pid, .int .u64 d.pat, .int .i64 d.plf]) h279 rfl (rn_loadN rfl rfl Tryz.underlying54 rfl (by kernel_rfl) (blk_part hk280 11 (by rfl))) fun a281 h281 => ?_; clear h279
       refine pk0 (v := pt N11 11) h281 rfl fun a282 h282 => ?_; clear h281
       have hk283 := hk255.below hb259
       refine pk (v := .agg #[.int .i64 d2.pid, .int .u64 d2.pat, .int .i64 d2.plf]) h282 rfl (rn_loadN rfl rfl Tryz.underlying54 rfl (by kernel_rfl) (blk_part hk283 11 (by rfl))) fun a284 h284 => ?_; clear h282
       refine pk (v := .bool (d.pid == d2.pid && d.pat == d2.pat && d.plf == d2.plf)) h284 rfl (rn_eqS rfl rfl rfl Tryz.eqGuardType54 (eq_pin _ _ _ _ _ _ _)) fun a285 h285 => ?_; clear h284
       refine pk0 (v := .bool (d.pid == d2.pid && d.pat == d2.pat && d.plf == d2.plf)) h285 rfl fun a286 h286 => ?_; clear h285
       refine pk0 (v := .bool (d.pid == d2.pid && d.pat == d2.pat && d.plf == d2.plf)) h286 rfl fun a287 h287 => ?_; clear h286
       cases hc288 : (d.pid == d2.pid && d.pat == d2.pat && d.plf == d2.plf)
       ·
        rw [hc288] at h287
        refine psk h287 rfl fun a289 h289 => ?_; clear h287
        refine psk h289 rfl fun a290 h290 => ?_; clear h289
        refine psk h290 rfl fun a291 h291 => ?_; clear h290
        refine psk h291 rfl fun a292 h292 => ?_; clear h291
        refine psk h292 rfl fun a293 h293 => ?_; clear h292
        refine pk0 (v := .bool false) h293 rfl fun a294 h294 => ?_; clear h293
        refine pk0 (v := .bool false) h294 rfl fun a295 h295 => ?_; clear h294
        refine pl_nil ?_
        refine co_then ?_
        refine wp_ret ?_
        refine co_ret1 h295 rfl rfl ?_
        exact ⟨ret_bool (by rw [sameN_y (by omega)]; exact s_d (by assumption) (by assumption) (by assumption) (by assumption)), hB264⟩
       ·
        rw [hc288] at h287
        refine pk0 (v := pt N3 14) h287 rfl fun a296 h296 => ?_; clear h287
        refine pk (v := .agg #[.int .i64 d.sc, .int .i64 d.sr, .int .i64 d.se, .int .i64 d.sp]) h296 rfl (rn_loadN rfl rfl Tryz.underlying56 rfl (by kernel_rfl) (blk_part hk280 14 (by rfl))) fun a297 h297 => ?_; clear h296
        refine pk0 (v := pt N11 14) h297 rfl fun a298 h298 => ?_; clear h297
        refine pk (v := .agg #[.int .i64 d2.sc, .int .i64 d2.sr, .int .i64 d2.se, .int .i64 d2.sp]) h298 rfl (rn_loadN rfl rfl Tryz.underlying56 rfl (by kernel_rfl) (blk_part hk283 14 (by rfl))) fun a299 h299 => ?_; clear h298
        refine pk (v := .bool (d.sc == d2.sc && d.sr == d2.sr && d.se == d2.se && d.sp == d2.sp)) h299 rfl (rn_eqS rfl rfl rfl Tryz.eqGuardType56 (eq_said _ _ _ _ _ _ _ _ _)) fun a300 h300 => ?_; clear h299
        refine pk0 (v := .bool (d.sc == d2.sc && d.sr == d2.sr && d.se == d2.se && d.sp == d2.sp)) h300 rfl fun a301 h301 => ?_; clear h300
        refine pk0 (v := .bool (d.sc == d2.sc && d.sr == d2.sr && d.se == d2.se && d.sp == d2.sp)) h301 rfl fun a302 h302 => ?_; clear h301
        refine pl_nil ?_
        refine co_then ?_
        refine wp_ret ?_
        refine co_ret1 h302 rfl rfl ?_
        exact ⟨ret_bool (by rw [sameN_y (by omega)]; exact s_e (by assumption) (by assumption) (by assumption) (by assumption)), hB264⟩
set_option maxRecDepth 100000 in
theorem awake10_any  (w : World)  :
    Calls Tryz.prog 19 #[] w fun e w' => e = .returned (.bool true) ∧ Below w.heap.size w w' := by
 have hB0 := Below.refl w.heap.size w
 refine co_enter (n := 35) Tryz.func19 rfl rfl rfl [] rfl (fun a h0 => ?_)
 refine co_seq ?_
 refine co_reg ?_
 refine pk0 (v := .bool false) h0 rfl fun a1 h1 => ?_; clear h0
 refine pl_nil ?_
 refine co_then ?_
 refine co_seq ?_
 refine co_reg ?_
 refine pk0 (v := .agg #[.int .i64 3, .int .i64 3, .int .u64 9, .int .i64 0, .slice none 0 0, .int .u64 0, .slice none 0 0, .int .i64 0, .int .i64 0, .slice none 0 0, .int .u64 0, .int .i64 0, .int .u64 0, .int .i64 0, .int .i64 0, .int .i64 0, .int .i64 0, .int .i64 0]) h1 rfl fun a2 h2 => ?_; clear h1
 refine pw h2 rfl (op_call (args := #[.agg #[.int .i64 3, .int .i64 3, .int .u64 9, .int .i64 0, .slice none 0 0, .int .u64 0, .slice none 0 0, .int .i64 0, .int .i64 0, .slice none 0 0, .int .u64 0, .int .i64 0, .int .u64 0, .int .i64 0, .int .i64 0, .int .i64 0, .int .i64 0, .int .i64 0]]) (R := fun res xw => res = .tuple #[.string (putN (NoteD.mk 3 3 9 0 ([]) 0 ([]) 0 0 ([]) 0 0 0 0 0 0 0 0)), .int .i64 (chkN (NoteD.mk 3 3 9 0 ([]) 0 ([]) 0 0 ([]) 0 0 0 0 0 0 0 0))] ∧ Below w.heap.size w xw) rfl rfl rfl (by kernel_rfl) (by kernel_rfl) (Tryz.call20 _ _) (nPut_any (NoteD.mk 3 3 9 0 ([]) 0 ([]) 0 0 ([]) 0 0 0 0 0 0 0 0) (.slice none 0 0) (.slice none 0 0) (.slice none 0 0) w (sl_nil _) (sl_nil _) (sl_nil _) aw10_R) (by rintro e x ⟨rfl, hb5⟩; exact ⟨_, rfl, ⟨rfl, hb5⟩⟩)) ?_; clear h2
 rintro _ w4 a3 ⟨rfl, hb5⟩ h3
 have hz6 := hb5.size
 refine pk0 (v := .tuple #[.string (putN (NoteD.mk 3 3 9 0 ([]) 0 ([]) 0 0 ([]) 0 0 0 0 0 0 0 0)), .int .i64 (chkN (NoteD.mk 3 3 9 0 ([]) 0 ([]) 0 0 ([]) 0 0 0 0 0 0 0 0))]) h3 rfl fun a7 h7 => ?_; clear h3
 refine pk0 (v := .string (putN (NoteD.mk 3 3 9 0 ([]) 0 ([]) 0 0 ([]) 0 0 0 0 0 0 0 0))) h7 rfl fun a8 h8 => ?_; clear h7
 refine pk0 (v := .int .i64 (chkN (NoteD.mk 3 3 9 0 ([]) 0 ([]) 0 0 ([]) 0 0 0 0 0 0 0 0))) h8 rfl fun a9 h9 => ?_; clear h8
 refine pk0 (v := .string (putN (NoteD.mk 3 3 9 0 ([]) 0 ([]) 0 0 ([]) 0 0 0 0 0 0 0 0))) h9 rfl fun a10 h10 => ?_; clear h9
 refine pk0 (v := .int .i64 (chkN (NoteD.mk 3 3 9 0 ([]) 0 ([]) 0 0 ([]) 0 0 0 0 0 0 0 0))) h10 rfl fun a11 h11 => ?_; clear h10
 refine pl_nil ?_
 refine co_then ?_
 refine co_seq ?_
 refine co_reg ?_
 refine pk0 (v := .string (putN (NoteD.mk 3 3 9 0 ([]) 0 ([]) 0 0 ([]) 0 0 0 0 0 0 0 0))) h11 rfl fun a12 h12 => ?_; clear h11
 refine pw h12 rfl (op_call (args := #[.string (putN (NoteD.mk 3 3 9 0 ([]) 0 ([]) 0 0 ([]) 0 0 0 0 0 0 0 0))]) (R := fun res xw => ∃ mv : Value, ∃ lv : Value, ∃ ev : Value, res = .tuple #[.agg #[.int .i64 (((noteOf (putN (NoteD.mk 3 3 9 0 ([]) 0 ([]) 0 0 ([]) 0 0 0 0 0 0 0 0))).1).k), .int .i64 (((noteOf (putN (NoteD.mk 3 3 9 0 ([]) 0 ([]) 0 0 ([]) 0 0 0 0 0 0 0 0))).1).n), .int .u64 (((noteOf (putN (NoteD.mk 3 3 9 0 ([]) 0 ([]) 0 0 ([]) 0 0 0 0 0 0 0 0))).1).t), .int .i64 (((noteOf (putN (NoteD.mk 3 3 9 0 ([]) 0 ([]) 0 0 ([]) 0 0 0 0 0 0 0 0))).1).ep), mv, .int .u64 (((noteOf (putN (NoteD.mk 3 3 9 0 ([]) 0 ([]) 0 0 ([]) 0 0 0 0 0 0 0 0))).1).fl), lv, .int .i64 (((noteOf (putN (NoteD.mk 3 3 9 0 ([]) 0 ([]) 0 0 ([]) 0 0 0 0 0 0 0 0))).1).ec), .int .i64 (((noteOf (putN (NoteD.mk 3 3 9 0 ([]) 0 ([]) 0 0 ([]) 0 0 0 0 0 0 0 0))).1).er), ev, .int .u64 (((noteOf (putN (NoteD.mk 3 3 9 0 ([]) 0 ([]) 0 0 ([]) 0 0 0 0 0 0 0 0))).1).ets), .int .i64 (((noteOf (putN (NoteD.mk 3 3 9 0 ([]) 0 ([]) 0 0 ([]) 0 0 0 0 0 0 0 0))).1).pid), .int .u64 (((noteOf (putN (NoteD.mk 3 3 9 0 ([]) 0 ([]) 0 0 ([]) 0 0 0 0 0 0 0 0))).1).pat), .int .i64 (((noteOf (putN (NoteD.mk 3 3 9 0 ([]) 0 ([]) 0 0 ([]) 0 0 0 0 0 0 0 0))).1).plf), .int .i64 (((noteOf (putN (NoteD.mk 3 3 9 0 ([]) 0 ([]) 0 0 ([]) 0 0 0 0 0 0 0 0))).1).sc), .int .i64 (((noteOf (putN (NoteD.mk 3 3 9 0 ([]) 0 ([]) 0 0 ([]) 0 0 0 0 0 0 0 0))).1).sr), .int .i64 (((noteOf (putN (NoteD.mk 3 3 9 0 ([]) 0 ([]) 0 0 ([]) 0 0 0 0 0 0 0 0))).1).se), .int .i64 (((noteOf (putN (NoteD.mk 3 3 9 0 ([]) 0 ([]) 0 0 ([]) 0 0 0 0 0 0 0 0))).1).sp)], .int .i64 ((noteOf (putN (NoteD.mk 3 3 9 0 ([]) 0 ([]) 0 0 ([]) 0 0 0 0 0 0 0 0))).2)] ∧ xw.ownsRow w4.heap.size 154 2 mv ((noteOf (putN (NoteD.mk 3 3 9 0 ([]) 0 ([]) 0 0 ([]) 0 0 0 0 0 0 0 0))).1).ms.length (((noteOf (putN (NoteD.mk 3 3 9 0 ([]) 0 ([]) 0 0 ([]) 0 0 0 0 0 0 0 0))).1).ms.flatMap memE) ∧ xw.ownsRow w4.heap.size 3 1 lv ((noteOf (putN (NoteD.mk 3 3 9 0 ([]) 0 ([]) 0 0 ([]) 0 0 0 0 0 0 0 0))).1).lg.length (((noteOf (putN (NoteD.mk 3 3 9 0 ([]) 0 ([]) 0 0 ([]) 0 0 0 0 0 0 0 0))).1).lg.flatMap (intE .i64)) ∧ xw.ownsRow w4.heap.size 159 3 ev ((noteOf (putN (NoteD.mk 3 3 9 0 ([]) 0 ([]) 0 0 ([]) 0 0 0 0 0 0 0 0))).1).el.length (((noteOf (putN (NoteD.mk 3 3 9 0 ([]) 0 ([]) 0 0 ([]) 0 0 0 0 0 0 0 0))).1).el.flatMap opE) ∧ Below w4.heap.size w4 xw) rfl rfl rfl (by kernel_rfl) (by kernel_rfl) (Tryz.call65 _ _) (nOf_any (putN (NoteD.mk 3 3 9 0 ([]) 0 ([]) 0 0 ([]) 0 0 0 0 0 0 0 0)) ((noteOf (putN (NoteD.mk 3 3 9 0 ([]) 0 ([]) 0 0 ([]) 0 0 0 0 0 0 0 0))).1) ((noteOf (putN (NoteD.mk 3 3 9 0 ([]) 0 ([]) 0 0 ([]) 0 0 0 0 0 0 0 0))).2) w4 aw10_sz rfl) (by rintro e x ⟨mv, lv, ev, rfl, hq18, hq19, hq20, hb21⟩; exact ⟨_, rfl, ⟨mv, lv, ev, rfl, hq18, hq19, hq20, hb21⟩⟩)) ?_; clear h12
 rintro _ w14 a13 ⟨mv15, lv16, ev17, rfl, hq18, hq19, hq20, hb21⟩ h13
 have hz22 := hb21.size
 have hl23 := sl_len (row_sl hq18 memE_len)
 have hl24 := sl_len (row_sl hq19 (intE_len .i64))
 have hl25 := sl_len (row_sl hq20 opE_len)
 refine pk0 (v := .tuple #[.agg #[.int .i64 (((noteOf (putN (NoteD.mk 3 3 9 0 ([]) 0 ([]) 0 0 ([]) 0 0 0 0 0 0 0 0))).1).k), .int .i64 (((noteOf (putN (NoteD.mk 3 3 9 0 ([]) 0 ([]) 0 0 ([]) 0 0 0 0 0 0 0 0))).1).n), .int .u64 (((noteOf (putN (NoteD.mk 3 3 9 0 ([]) 0 ([]) 0 0 ([]) 0 0 0 0 0 0 0 0))).1).t), .int .i64 (((noteOf (putN (NoteD.mk 3 3 9 0 ([]) 0 ([]) 0 0 ([]) 0 0 0 0 0 0 0 0))).1).ep), mv15, .int .u64 (((noteOf (putN (NoteD.mk 3 3 9 0 ([]) 0 ([]) 0 0 ([]) 0 0 0 0 0 0 0 0))).1).fl), lv16, .int .i64 (((noteOf (putN (NoteD.mk 3 3 9 0 ([]) 0 ([]) 0 0 ([]) 0 0 0 0 0 0 0 0))).1).ec), .int .i64 (((noteOf (putN (NoteD.mk 3 3 9 0 ([]) 0 ([]) 0 0 ([]) 0 0 0 0 0 0 0 0))).1).er), ev17, .int .u64 (((noteOf (putN (NoteD.mk 3 3 9 0 ([]) 0 ([]) 0 0 ([]) 0 0 0 0 0 0 0 0))).1).ets), .int .i64 (((noteOf (putN (NoteD.mk 3 3 9 0 ([]) 0 ([]) 0 0 ([]) 0 0 0 0 0 0 0 0))).1).pid), .int .u64 (((noteOf (putN (NoteD.mk 3 3 9 0 ([]) 0 ([]) 0 0 ([]) 0 0 0 0 0 0 0 0))).1).pat), .int .i64 (((noteOf (putN (NoteD.mk 3 3 9 0 ([]) 0 ([]) 0 0 ([]) 0 0 0 0 0 0 0 0))).1).plf), .int .i64 (((noteOf (putN (NoteD.mk 3 3 9 0 ([]) 0 ([]) 0 0 ([]) 0 0 0 0 0 0 0 0))).1).sc), .int .i64 (((noteOf (putN (NoteD.mk 3 3 9 0 ([]) 0 ([]) 0 0 ([]) 0 0 0 0 0 0 0 0))).1).sr), .int .i64 (((noteOf (putN (NoteD.mk 3 3 9 0 ([]) 0 ([]) 0 0 ([]) 0 0 0 0 0 0 0 0))).1).se), .int .i64 (((noteOf (putN (NoteD.mk 3 3 9 0 ([]) 0 ([]) 0 0 ([]) 0 0 0 0 0 0 0 0))).1).sp)], .int .i64 ((noteOf (putN (NoteD.mk 3 3 9 0 ([]) 0 ([]) 0 0 ([]) 0 0 0 0 0 0 0 0))).2)]) h13 rfl fun a26 h26 => ?_; clear h13
 refine pk0 (v := .agg #[.int .i64 (((noteOf (putN (NoteD.mk 3 3 9 0 ([]) 0 ([]) 0 0 ([]) 0 0 0 0 0 0 0 0))).1).k), .int .i64 (((noteOf (putN (NoteD.mk 3 3 9 0 ([]) 0 ([]) 0 0 ([]) 0 0 0 0 0 0 0 0))).1).n), .int .u64 (((noteOf (putN (NoteD.mk 3 3 9 0 ([]) 0 ([]) 0 0 ([]) 0 0 0 0 0 0 0 0))).1).t), .int .i64 (((noteOf (putN (NoteD.mk 3 3 9 0 ([]) 0 ([]) 0 0 ([]) 0 0 0 0 0 0 0 0))).1).ep), mv15, .int .u64 (((noteOf (putN (NoteD.mk 3 3 9 0 ([]) 0 ([]) 0 0 ([]) 0 0 0 0 0 0 0 0))).1).fl), lv16, .int .i64 (((noteOf (putN (NoteD.mk 3 3 9 0 ([]) 0 ([]) 0 0 ([]) 0 0 0 0 0 0 0 0))).1).ec), .int .i64 (((noteOf (putN (NoteD.mk 3 3 9 0 ([]) 0 ([]) 0 0 ([]) 0 0 0 0 0 0 0 0))).1).er), ev17, .int .u64 (((noteOf (putN (NoteD.mk 3 3 9 0 ([]) 0 ([]) 0 0 ([]) 0 0 0 0 0 0 0 0))).1).ets), .int .i64 (((noteOf (putN (NoteD.mk 3 3 9 0 ([]) 0 ([]) 0 0 ([]) 0 0 0 0 0 0 0 0))).1).pid), .int .u64 (((noteOf (putN (NoteD.mk 3 3 9 0 ([]) 0 ([]) 0 0 ([]) 0 0 0 0 0 0 0 0))).1).pat), .int .i64 (((noteOf (putN (NoteD.mk 3 3 9 0 ([]) 0 ([]) 0 0 ([]) 0 0 0 0 0 0 0 0))).1).plf), .int .i64 (((noteOf (putN (NoteD.mk 3 3 9 0 ([]) 0 ([]) 0 0 ([]) 0 0 0 0 0 0 0 0))).1).sc), .int .i64 (((noteOf (putN (NoteD.mk 3 3 9 0 ([]) 0 ([]) 0 0 ([]) 0 0 0 0 0 0 0 0))).1).sr), .int .i64 (((noteOf (putN (NoteD.mk 3 3 9 0 ([]) 0 ([]) 0 0 ([]) 0 0 0 0 0 0 0 0))).1).se), .int .i64 (((noteOf (putN (NoteD.mk 3 3 9 0 ([]) 0 ([]) 0 0 ([]) 0 0 0 0 0 0 0 0))).1).sp)]) h26 rfl fun a27 h27 => ?_; clear h26
 refine pk0 (v := .int .i64 ((noteOf (putN (NoteD.mk 3 3 9 0 ([]) 0 ([]) 0 0 ([]) 0 0 0 0 0 0 0 0))).2)) h27 rfl fun a28 h28 => ?_; clear h27
 refine pw h28 rfl (op_new (v := fun N => pt N 0) (T := 58) (cs := #[.int .i64 0, .int .i64 0, .int .u64 0, .int .i64 0, .slice none 0 0, .int .u64 0, .slice none 0 0, .int .i64 0, .int .i64 0, .slice none 0 0, .int .u64 0, .int .i64 0, .int .u64 0, .int .i64 0, .int .i64 0, .int .i64 0, .int .i64 0, .int .i64 0]) (by kernel_rfl) (by kernel_rfl) (by kernel_rfl)) ?_; clear h28
 rintro _ w30 a29 ⟨N31, rfl, hN34, hz35, hk33, hg32⟩ h29
 have ha36 := row_fresh hq18 hN34
 have ha37 := row_fresh hq19 hN34
 have ha38 := row_fresh hq20 hN34
 have hz39 := hg32.size
 try dsimp only at h29
 have hr45 := row_kept_new hq20 hg32
 have hr46 := row_kept_new hq19 hg32
 have hr47 := row_kept_new hq18 hg32
 refine pwD h29 rfl (op_storeN rfl rfl rfl (all_cons rfl (all_cons rfl (all_cons rfl (all_cons rfl (all_cons (row_one hr47) (all_cons rfl (all_cons (row_one hr46) (all_cons rfl (all_cons rfl (all_cons (row_one hr45) (all_cons rfl (all_cons rfl (all_cons rfl (all_cons rfl (all_cons rfl (all_cons rfl (all_cons rfl (all_cons rfl all_nil)))))))))))))))))) (by kernel_rfl) hk33 rfl) ?_; clear h29
 rintro _ w41 a40 ⟨hk42, hz43, hg44⟩ h40
 have hk42' : Blk w41 N31 58 #[.int .i64 (((noteOf (putN (NoteD.mk 3 3 9 0 ([]) 0 ([]) 0 0 ([]) 0 0 0 0 0 0 0 0))).1).k), .int .i64 (((noteOf (putN (NoteD.mk 3 3 9 0 ([]) 0 ([]) 0 0 ([]) 0 0 0 0 0 0 0 0))).1).n), .int .u64 (((noteOf (putN (NoteD.mk 3 3 9 0 ([]) 0 ([]) 0 0 ([]) 0 0 0 0 0 0 0 0))).1).t), .int .i64 (((noteOf (putN (NoteD.mk 3 3 9 0 ([]) 0 ([]) 0 0 ([]) 0 0 0 0 0 0 0 0))).1).ep), mv15, .int .u64 (((noteOf (putN (NoteD.mk 3 3 9 0 ([]) 0 ([]) 0 0 ([]) 0 0 0 0 0 0 0 0))).1).fl), lv16, .int .i64 (((noteOf (putN (NoteD.mk 3 3 9 0 ([]) 0 ([]) 0 0 ([]) 0 0 0 0 0 0 0 0))).1).ec), .int .i64 (((noteOf (putN (NoteD.mk 3 3 9 0 ([]) 0 ([]) 0 0 ([]) 0 0 0 0 0 0 0 0))).1).er), ev17, .int .u64 (((noteOf (putN (NoteD.mk 3 3 9 0 ([]) 0 ([]) 0 0 ([]) 0 0 0 0 0 0 0 0))).1).ets), .int .i64 (((noteOf (putN (NoteD.mk 3 3 9 0 ([]) 0 ([]) 0 0 ([]) 0 0 0 0 0 0 0 0))).1).pid), .int .u64 (((noteOf (putN (NoteD.mk 3 3 9 0 ([]) 0 ([]) 0 0 ([]) 0 0 0 0 0 0 0 0))).1).pat), .int .i64 (((noteOf (putN (NoteD.mk 3 3 9 0 ([]) 0 ([]) 0 0 ([]) 0 0 0 0 0 0 0 0))).1).plf), .int .i64 (((noteOf (putN (NoteD.mk 3 3 9 0 ([]) 0 ([]) 0 0 ([]) 0 0 0 0 0 0 0 0))).1).sc), .int .i64 (((noteOf (putN (NoteD.mk 3 3 9 0 ([]) 0 ([]) 0 0 ([]) 0 0 0 0 0 0 0 0))).1).sr), .int .i64 (((noteOf (putN (NoteD.mk 3 3 9 0 ([]) 0 ([]) 0 0 ([]) 0 0 0 0 0 0 0 0))).1).se), .int .i64 (((noteOf (putN (NoteD.mk 3 3 9 0 ([]) 0 ([]) 0 0 ([]) 0 0 0 0 0 0 0 0))).1).sp)] := hk42; clear hk42
 have hz48 := hg44.size
 refine pk0 (v := .int .i64 ((noteOf (putN (NoteD.mk 3 3 9 0 ([]) 0 ([]) 0 0 ([]) 0 0 0 0 0 0 0 0))).2)) h40 rfl fun a49 h49 => ?_; clear h40
 refine pl_nil ?_
 refine co_then ?_
 refine co_seq ?_
 refine co_reg ?_
 refine pk0 (v := .string (putN (NoteD.mk 3 3 9 0 ([]) 0 ([]) 0 0 ([]) 0 0 0 0 0 0 0 0))) h49 rfl fun a50 h50 => ?_; clear h49
 refine pk0 (v := .bool ((putN (NoteD.mk 3 3 9 0 ([]) 0 ([]) 0 0 ([]) 0 0 0 0 0 0 0 0) : ByteArray).toList == (⟨#[3, 3, 9]⟩ : ByteArray).toList)) h50 rfl fun a51 h51 => ?_; clear h50
 refine pk0 (v := .bool ((putN (NoteD.mk 3 3 9 0 ([]) 0 ([]) 0 0 ([]) 0 0 0 0 0 0 0 0) : ByteArray).toList == (⟨#[3, 3, 9]⟩ : ByteArray).toList)) h51 rfl fun a52 h52 => ?_; clear h51
 have hc53 : ((putN (NoteD.mk 3 3 9 0 ([]) 0 ([]) 0 0 ([]) 0 0 0 0 0 0 0 0) : ByteArray).toList == (⟨#[3, 3, 9]⟩ : ByteArray).toList) = true := by rw [aw10_put]; simp
 rw [hc53] at h52; clear hc53
 refine pk0 (v := .int .i64 (chkN (NoteD.mk 3 3 9 0 ([]) 0 ([]) 0 0 ([]) 0 0 0 0 0 0 0 0))) h52 rfl fun a54 h54 => ?_; clear h52
 refine pk0 (v := .bool (chkN (NoteD.mk 3 3 9 0 ([]) 0 ([]) 0 0 ([]) 0 0 0 0 0 0 0 0) == 0)) h54 rfl fun a55 h55 => ?_; clear h54
 refine pk0 (v := .bool (chkN (NoteD.mk 3 3 9 0 ([]) 0 ([]) 0 0 ([]) 0 0 0 0 0 0 0 0) == 0)) h55 rfl fun a56 h56 => ?_; clear h55
 refine pk0 (v := .bool (chkN (NoteD.mk 3 3 9 0 ([]) 0 ([]) 0 0 ([]) 0 0 0 0 0 0 0 0) == 0)) h56 rfl fun a57 h57 => ?_; clear h56
 have hc58 : (chkN (NoteD.mk 3 3 9 0 ([]) 0 ([]) 0 0 ([]) 0 0 0 0 0 0 0 0) == 0) = true := by simp [aw10_c]
 rw [hc58] at h57; clear hc58
 refine pk0 (v := .int .i64 ((noteOf (putN (NoteD.mk 3 3 9 0 ([]) 0 ([]) 0 0 ([]) 0 0 0 0 0 0 0 0))).2)) h57 rfl fun a59 h59 => ?_; clear h57
 refine pk0 (v := .bool (((noteOf (putN (NoteD.mk 3 3 9 0 ([]) 0 ([]) 0 0 ([]) 0 0 0 0 0 0 0 0))).2) == 0)) h59 rfl fun a60 h60 => ?_; clear h59
 refine pk0 (v := .bool (((noteOf (putN (NoteD.mk 3 3 9 0 ([]) 0 ([]) 0 0 ([]) 0 0 0 0 0 0 0 0))).2) == 0)) h60 rfl fun a61 h61 => ?_; clear h60
 refine pk0 (v := .bool (((noteOf (putN (NoteD.mk 3 3 9 0 ([]) 0 ([]) 0 0 ([]) 0 0 0 0 0 0 0 0))).2) == 0)) h61 rfl fun a62 h62 => ?_; clear h61
 have hc63 : (((noteOf (putN (NoteD.mk 3 3 9 0 ([]) 0 ([]) 0 0 ([]) 0 0 0 0 0 0 0 0))).2) == 0) = true := by simp [aw10_of.1, aw10_of.2.1, aw10_of.2.2]
 rw [hc63] at h62; clear hc63
 refine pk0 (v := pt N31 1) h62 rfl fun a64 h64 => ?_; clear h62
 refine pk (v := .int .i64 (((noteOf (putN (NoteD.mk 3 3 9 0 ([]) 0 ([]) 0 0 ([]) 0 0 0 0 0 0 0 0))).1).n)) h64 rfl (rn_load1 rfl rfl Tryz.isAgg3 (hk42'.cell rfl)) fun a65 h65 => ?_; clear h64
 refine pk0 (v := .bool (((noteOf (putN (NoteD.mk 3 3 9 0 ([]) 0 ([]) 0 0 ([]) 0 0 0 0 0 0 0 0))).1).n == 3)) h65 rfl fun a66 h66 => ?_; clear h65
 refine pk0 (v := .bool (((noteOf (putN (NoteD.mk 3 3 9 0 ([]) 0 ([]) 0 0 ([]) 0 0 0 0 0 0 0 0))).1).n == 3)) h66 rfl fun a67 h67 => ?_; clear h66
 refine pk0 (v := .bool (((noteOf (putN (NoteD.mk 3 3 9 0 ([]) 0 ([]) 0 0 ([]) 0 0 0 0 0 0 0 0))).1).n == 3)) h67 rfl fun a68 h68 => ?_; clear h67
 have hc69 : (((noteOf (putN (NoteD.mk 3 3 9 0 ([]) 0 ([]) 0 0 ([]) 0 0 0 0 0 0 0 0))).1).n == 3) = true := by simp [aw10_of.1, aw10_of.2.1, aw10_of.2.2]
 rw [hc69] at h68; clear hc69
 refine pk0 (v := pt N31 2) h68 rfl fun a70 h70 => ?_; clear h68
 refine pk (v := .int .u64 (((noteOf (putN (NoteD.mk 3 3 9 0 ([]) 0 ([]) 0 0 ([]) 0 0 0 0 0 0 0 0))).1).t)) h70 rfl (rn_load1 rfl rfl Tryz.isAgg22 (hk42'.cell rfl)) fun a71 h71 => ?_; clear h70
 refine pk0 (v := .bool (((noteOf (putN (NoteD.mk 3 3 9 0 ([]) 0 ([]) 0 0 ([]) 0 0 0 0 0 0 0 0))).1).t == 9)) h71 rfl fun a72 h72 => ?_; clear h71
 refine pk0 (v := .bool (((noteOf (putN (NoteD.mk 3 3 9 0 ([]) 0 ([]) 0 0 ([]) 0 0 0 0 0 0 0 0))).1).t == 9)) h72 rfl fun a73 h73 => ?_; clear h72
 refine pk0 (v := .bool (((noteOf (putN (NoteD.mk 3 3 9 0 ([]) 0 ([]) 0 0 ([]) 0 0 0 0 0 0 0 0))).1).t == 9)) h73 rfl fun a74 h74 => ?_; clear h73
 refine pl_nil ?_
 refine co_then ?_
 refine wp_ret ?_
 refine co_ret1 h74 rfl rfl ?_
 have hB75 := hb_call hB0 hb5
 have hB76 := hb_call hB75 hb21
 have hB77 := hb_new hB76 hg32
 have hB78 := hb_at hB77 hg44 (by omega)
 exact ⟨ret_bool (by simp [aw10_of.1, aw10_of.2.1, aw10_of.2.2]), hB78⟩
end Go.Proofs.YteioaaegooebpaaGreat
