/- catenalaw08: ItemReads. Conditions: none. -/
import Derived.Test.YteioaaegooebpaaItemC
import Derived.Test.YteioaaegooebpaaOpsD
namespace Go.Proofs.Yteioaaegooebpaa
open Go.RowKit Go.PlainAid
set_option linter.unusedVariables false


theorem ofE_of {c r ts : Int} {l : List OpT} (h : chkB c r l = 0) (h0 : 0 ≤ ts) (h1 : ts < 18446744073709551616) : ofE (putE c r l ts) = ((c, r, l, ts), 0) := by
  have hb := of_put h
  have hsm := putB_small (c := c) (r := r) (l := l)
  rw [putE_ok h]
  have hself := has_self (putEL c r l ts)
  have hsz : (⟨(putEL c r l ts).toArray⟩ : ByteArray).size = (putEL c r l ts).length := rfl
  generalize (⟨(putEL c r l ts).toArray⟩ : ByteArray) = T at hself hsz ⊢
  unfold putEL at hself hsz
  simp only [List.length_append] at hsz
  obtain ⟨k1, k2⟩ := has_app hself
  simp only [Nat.zero_add] at k2
  have q1 := bigR_of (m := ts) h0 h1 k1 (by omega)
  have q2 := textR_of (m := 65536) (by omega) (by omega) k2 (by simp only [List.length_append]; omega)
  have q3 : endV T ((((putL ts).length + (putL ((putB c r l).size : Int) ++ (putB c r l).data.toList).length : Nat) : Int)).toNat 0 = 0 := by
    unfold endV; rw [if_pos rfl, if_neg (by simp only [List.length_append]; omega)]
  rw [ofE_at (by simpa using q1) q2 q3, ofEndE_c (by simp) (by rw [hb]; simp), hb]
theorem ofEndE_ok {n x : Int} {t : ByteArray} (h : (ofEndE n t x).2 = 0) : x = 0 ∧ (ofB t).2 = 0 ∧ ofEndE n t x = (((ofB t).1.1, (ofB t).1.2.1, (ofB t).1.2.2, n), 0) := by
  by_cases h1 : x ≠ 0
  · rw [ofEndE_a h1] at h; exact absurd h h1
  by_cases h2 : (ofB t).2 ≠ 0
  · rw [ofEndE_b h1 h2] at h; exact absurd h h2
  · exact ⟨by omega, by omega, ofEndE_c h1 h2⟩
theorem ofE_ts (s : ByteArray) : 0 ≤ (ofE s).1.2.2.2 ∧ (ofE s).1.2.2.2 < 18446744073709551616 := by
  have hb := bigR_le (s := s) (a := 0) (x := 0)
  show 0 ≤ (ofEndE _ _ _).1.2.2.2 ∧ (ofEndE _ _ _).1.2.2.2 < _
  unfold ofEndE
  split
  · exact ⟨Int.le_refl _, by show (0 : Int) < _; decide⟩
  · split
    · exact ⟨Int.le_refl _, by show (0 : Int) < _; decide⟩
    · exact hb
theorem backE {s : ByteArray} (h : (ofE s).2 = 0) : putE (ofE s).1.1 (ofE s).1.2.1 (ofE s).1.2.2.1 (ofE s).1.2.2.2 = s ∧ chkB (ofE s).1.1 (ofE s).1.2.1 (ofE s).1.2.2.1 = 0 := by
  rcases q1 : bigR s 0 0 with ⟨n, a1, e1⟩
  rcases q2 : textR s a1 e1 65536 with ⟨t, a2, e2⟩
  have hE := ofE_at q1 q2 rfl
  rw [hE] at h ⊢
  obtain ⟨hx, hb, he⟩ := ofEndE_ok h
  rw [he]
  simp only
  have hb' : ofB t = (((ofB t).1.1, (ofB t).1.2.1, (ofB t).1.2.2), 0) := by rw [← hb]
  have hc := of_chk hb'
  have hp := of_back hb'
  refine ⟨?_, hc⟩
  rw [putE_ok hc]
  have e2' : e2 = 0 := by
    by_cases h1 : e2 = 0
    · exact h1
    · unfold endV at hx; rw [if_neg h1] at hx; exact hx
  subst e2'
  have h2 : (textR s a1 e1 65536).2.2 = 0 := by rw [q2]
  have e1' : e1 = 0 := by
    by_cases h1 : e1 = 0
    · exact h1
    · rw [textR_err h1] at h2; exact h2
  subst e1'
  have h1 : (bigR s ((0 : Nat) : Int) 0).2.2 = 0 := by
    have : (bigR s 0 0).2.2 = 0 := by rw [q1]
    simpa using this
  obtain ⟨_, b1, hb1, g1⟩ := bigR_eats h1
  have q1' : bigR s ((0 : Nat) : Int) 0 = (n, a1, 0) := by simpa using q1
  rw [q1'] at hb1 g1
  simp only at hb1 g1
  subst hb1
  obtain ⟨_, b2, hb2, g2⟩ := textR_eats h2
  rw [q2] at hb2 g2
  simp only at hb2 g2
  subst hb2
  have hend := (endV_eats (s := s) (a := b2) (x := 0) (fun _ => g2.2.1) (by simpa using hx)).2
  subst hend
  refine eats.whole ?_
  unfold putEL
  rw [hp]
  exact g1.app g2
theorem ofE_zero {s : ByteArray} (h : (ofE s).2 ≠ 0) : (ofE s).1 = (0, 0, [], 0) := by
  have e : ofE s = ofEndE _ _ _ := rfl
  rw [e] at h ⊢
  unfold ofEndE at h ⊢
  split
  · rfl
  · split
    · rfl
    · rename_i h1 h2
      rw [if_neg h1, if_neg h2] at h; exact absurd rfl h
theorem backE_put {c r ts : Int} {l : List OpT} (h : chkB c r l = 0) (h0 : 0 ≤ ts ∧ ts < 18446744073709551616) : sameE c r l ts (ofE (putE c r l ts)).1.1 (ofE (putE c r l ts)).1.2.1 (ofE (putE c r l ts)).1.2.2.1 (ofE (putE c r l ts)).1.2.2.2 = true := by
  rw [ofE_of h h0.1 h0.2]; exact sameE_refl _ _ _ _
theorem backE_put0 {c r ts : Int} {l : List OpT} (h : chkB c r l = 0) (h0 : 0 ≤ ts ∧ ts < 18446744073709551616) : (ofE (putE c r l ts)).2 = 0 := by rw [ofE_of h h0.1 h0.2]
theorem putE_szB {c r ts : Int} {l : List OpT} : (putE c r l ts).size ≤ 9223372036854775807 := Nat.le_trans putE_small (by decide)

set_option maxRecDepth 100000 in
theorem itemReads_law (c : Int) (r : Int) (v : Value) (l : List OpT) (ts : Int) (s : ByteArray) (w : World) (hs : SliceOf opE 3 w v l) (hts : 0 ≤ ts ∧ ts < 18446744073709551616) (hsz : s.size ≤ 140737488351232) :
    Calls Try.prog 5 #[.agg #[.int .i64 c, .int .i64 r, v, .int .u64 ts], .string s] w fun e w' => e = .returned (.bool true) ∧ Below w.heap.size w w' := by
  have hb1 : chkB c r l = 0 → (ofE (putE c r l ts)).2 = 0 := fun h => backE_put0 h hts
  have hb2 : (ofE s).2 = 0 → chkB (ofE s).1.1 (ofE s).1.2.1 (ofE s).1.2.2.1 = 0 := fun h => (backE h).2
  have hB0 := Below.refl w.heap.size w
  have hl_hs := sl_len hs
  refine co_enter (n := 84) Try.func5 rfl rfl rfl [(0, .agg #[.int .i64 c, .int .i64 r, v, .int .u64 ts]), (1, .string s)] rfl (fun a h0 => ?_)
  refine co_seq ?_
  refine co_reg ?_
  refine pl_want h0 rfl rfl rfl (op_new (v := fun N => .pointer (some ⟨N, 0, none⟩)) (T := 34) (cs := #[.int .i64 c, .int .i64 r, v, .int .u64 ts]) (by kernel_rfl) (by kernel_rfl) (by kernel_rfl)) ?_; clear h0
  rintro _ w2 a1 ⟨N3, rfl, hN6, hz7, hk5, hg4⟩ h1
  have hB8 := hb_new hB0 hg4
  have hz9 := hB8.size
  have hz10 := hg4.size
  try dsimp only at h1
  refine pl_val (v := .bool false) h1 rfl rfl rfl (by kernel_rfl) (by kernel_rfl) (by kernel_rfl) (fun a11 h11 => ?_); clear h1
  refine pl_nil ?_
  refine co_then ?_
  refine co_seq ?_
  refine co_seq ?_
  refine co_reg ?_
  refine pl_val (v := .pointer (some ⟨N3, 0, none⟩)) h11 rfl rfl rfl (by kernel_rfl) (by kernel_rfl) (by kernel_rfl) (fun a12 h12 => ?_); clear h11
  refine pl_val (v := .pointer (some ⟨N3, 2, none⟩)) h12 rfl rfl rfl (by kernel_rfl) (by kernel_rfl) (by kernel_rfl) (fun a13 h13 => ?_); clear h12
  refine pl_val (v := v) h13 rfl rfl rfl (by kernel_rfl) (by kernel_rfl) (rn_load1 rfl rfl Try.isAgg23 (hk5.cell rfl)) (fun a14 h14 => ?_); clear h13
  refine pl_val (v := .int .i64 ((l.length : Nat) : Int)) h14 rfl rfl rfl (by kernel_rfl) (by kernel_rfl) (rn_len rfl rfl Try.underlying23 (hs.below hB8)) (fun a15 h15 => ?_); clear h14
  refine pl_val (v := .bool (decide (((l.length : Nat) : Int) > 20))) h15 rfl rfl rfl (by kernel_rfl) (by kernel_rfl) (by kernel_rfl) (fun a16 h16 => ?_); clear h15
  refine pl_val (v := .bool (decide (((l.length : Nat) : Int) > 20))) h16 rfl rfl rfl (by kernel_rfl) (by kernel_rfl) (by kernel_rfl) (fun a17 h17 => ?_); clear h16
  cases hc18 : (decide (((l.length : Nat) : Int) > 20))
  ·
    rw [hc18] at h17
    have hp19 : ¬ (((l.length : Nat) : Int) > 20) := of_decide_eq_false hc18
    clear hc18
    refine pl_val (v := .string s) h17 rfl rfl rfl (by kernel_rfl) (by kernel_rfl) (by kernel_rfl) (fun a20 h20 => ?_); clear h17
    refine pl_val (v := .int .i64 ((s.size : Nat) : Int)) h20 rfl rfl rfl (by kernel_rfl) (by kernel_rfl) (rn_lenStr rfl rfl Try.underlying9) (fun a21 h21 => ?_); clear h20
    refine pl_val (v := .bool (decide (((s.size : Nat) : Int) > 2000))) h21 rfl rfl rfl (by kernel_rfl) (by kernel_rfl) (by kernel_rfl) (fun a22 h22 => ?_); clear h21
    refine pl_val (v := .bool (decide (((s.size : Nat) : Int) > 2000))) h22 rfl rfl rfl (by kernel_rfl) (by kernel_rfl) (by kernel_rfl) (fun a23 h23 => ?_); clear h22
    refine pl_nil ?_
    refine co_then ?_
    cases hc24 : (decide (((s.size : Nat) : Int) > 2000))
    ·
      rw [hc24] at h23
      have hp25 : ¬ (((s.size : Nat) : Int) > 2000) := of_decide_eq_false hc24
      clear hc24
      refine co_false h23 rfl ?_
      refine wp_skip ?_
      refine co_then ?_
      refine co_seq ?_
      refine co_reg ?_
      refine pl_val (v := .agg #[.int .i64 c, .int .i64 r, v, .int .u64 ts]) h23 rfl rfl rfl (by kernel_rfl) (by kernel_rfl) (rn_loadN rfl rfl Try.underlying34 rfl (by kernel_rfl) hk5.all) (fun a26 h26 => ?_); clear h23
      refine pl_want h26 rfl rfl rfl (op_call (args := #[.agg #[.int .i64 c, .int .i64 r, v, .int .u64 ts]]) (R := fun res xw => res = .tuple #[.string (putE c r l ts), .int .i64 (chkB c r l)] ∧ Below w2.heap.size w2 xw) rfl rfl rfl (by kernel_rfl) (by kernel_rfl) (Try.call19 _ _) (itemPut_any c r v l ts w2 (hs.below hB8) (by first | omega | (simp; done) | (simp; omega))) (by rintro e x ⟨rfl, hb29⟩; exact ⟨_, rfl, ⟨rfl, hb29⟩⟩)) ?_; clear h26
      rintro _ w28 a27 ⟨rfl, hb29⟩ h27
      have hB30 := hb_call hB8 hb29
      have hz31 := hB30.size
      have hz32 := hb29.size
      have hk33 := hk5.below hb29
      refine pl_val (v := .tuple #[.string (putE c r l ts), .int .i64 (chkB c r l)]) h27 rfl rfl rfl (by kernel_rfl) (by kernel_rfl) (by kernel_rfl) (fun a34 h34 => ?_); clear h27
      refine pl_val (v := .string (putE c r l ts)) h34 rfl rfl rfl (by kernel_rfl) (by kernel_rfl) (by kernel_rfl) (fun a35 h35 => ?_); clear h34
      refine pl_val (v := .int .i64 (chkB c r l)) h35 rfl rfl rfl (by kernel_rfl) (by kernel_rfl) (by kernel_rfl) (fun a36 h36 => ?_); clear h35
      refine pl_val (v := .string (putE c r l ts)) h36 rfl rfl rfl (by kernel_rfl) (by kernel_rfl) (by kernel_rfl) (fun a37 h37 => ?_); clear h36
      refine pl_val (v := .int .i64 (chkB c r l)) h37 rfl rfl rfl (by kernel_rfl) (by kernel_rfl) (by kernel_rfl) (fun a38 h38 => ?_); clear h37
      refine pl_nil ?_
      refine co_then ?_
      refine co_seq ?_
      refine co_seq ?_
      refine co_reg ?_
      refine pl_val (v := .int .i64 (chkB c r l)) h38 rfl rfl rfl (by kernel_rfl) (by kernel_rfl) (by kernel_rfl) (fun a39 h39 => ?_); clear h38
      refine pl_val (v := .bool (chkB c r l == 0)) h39 rfl rfl rfl (by kernel_rfl) (by kernel_rfl) (by kernel_rfl) (fun a40 h40 => ?_); clear h39
      refine pl_nil ?_
      refine co_then ?_
      cases hc41 : (chkB c r l == 0)
      ·
        rw [hc41] at h40
        have hp42 : ¬ (chkB c r l = 0) := by first | simpa using hc41 | simpa [and_assoc] using hc41
        clear hc41
        refine co_false h40 rfl ?_
        refine wp_skip ?_
        refine co_then ?_
        refine co_seq ?_
        refine co_reg ?_
        refine pl_val (v := .string s) h40 rfl rfl rfl (by kernel_rfl) (by kernel_rfl) (by kernel_rfl) (fun a43 h43 => ?_); clear h40
        refine pl_want h43 rfl rfl rfl (op_call (args := #[.string s]) (R := fun res xw => ∃ u : Value, res = .tuple #[.agg #[.int .i64 ((ofE s).1.1), .int .i64 ((ofE s).1.2.1), u, .int .u64 ((ofE s).1.2.2.2)], .int .i64 ((ofE s).2)] ∧ xw.ownsRow w28.heap.size 86 3 u ((ofE s).1.2.2.1).length (((ofE s).1.2.2.1).flatMap opE) ∧ Below w28.heap.size w28 xw) rfl rfl rfl (by kernel_rfl) (by kernel_rfl) (Try.call27 _ _) (itemOf_any s ((ofE s).1.1) ((ofE s).1.2.1) ((ofE s).1.2.2.1) ((ofE s).1.2.2.2) ((ofE s).2) w28 (by first | omega | (simp; done) | (simp; omega)) rfl) (by rintro e x ⟨u, rfl, hq47, hb48⟩; exact ⟨_, rfl, ⟨u, rfl, hq47, hb48⟩⟩)) ?_; clear h43
        rintro _ w45 a44 ⟨u46, rfl, hq47, hb48⟩ h44
        have hB49 := hb_call hB30 hb48
        have hz50 := hB49.size
        have hz51 := hb48.size
        have hk52 := hk33.below hb48
        have hl53 := sl_len (row_sl hq47 opE_len)
        refine pl_val (v := .tuple #[.agg #[.int .i64 ((ofE s).1.1), .int .i64 ((ofE s).1.2.1), u46, .int .u64 ((ofE s).1.2.2.2)], .int .i64 ((ofE s).2)]) h44 rfl rfl rfl (by kernel_rfl) (by kernel_rfl) (by kernel_rfl) (fun a54 h54 => ?_); clear h44
        refine pl_val (v := .agg #[.int .i64 ((ofE s).1.1), .int .i64 ((ofE s).1.2.1), u46, .int .u64 ((ofE s).1.2.2.2)]) h54 rfl rfl rfl (by kernel_rfl) (by kernel_rfl) (by kernel_rfl) (fun a55 h55 => ?_); clear h54
        refine pl_val (v := .int .i64 ((ofE s).2)) h55 rfl rfl rfl (by kernel_rfl) (by kernel_rfl) (by kernel_rfl) (fun a56 h56 => ?_); clear h55
        refine pl_want h56 rfl rfl rfl (op_new (v := fun N => .pointer (some ⟨N, 0, none⟩)) (T := 34) (cs := #[.int .i64 0, .int .i64 0, .slice none 0 0, .int .u64 0]) (by kernel_rfl) (by kernel_rfl) (by kernel_rfl)) ?_; clear h56
        rintro _ w58 a57 ⟨N59, rfl, hN62, hz63, hk61, hg60⟩ h57
        have ha64 := row_fresh hq47 hN62
        have hB65 := hb_new hB49 hg60
        have hz66 := hB65.size
        have hz67 := hg60.size
        have hk68 := hk52.kept hg60 (by simp)
        have hr69 := row_kept_new hq47 hg60
        try dsimp only at h57
        refine pl_doW h57 rfl rfl (op_storeN rfl rfl rfl (all_cons rfl (all_cons rfl (all_cons (row_one hr69) (all_cons rfl all_nil)))) (by kernel_rfl) hk61 rfl) ?_; clear h57
        rintro _ w71 a70 ⟨hk72, hz73, hg74⟩ h70
        have hk72' : Blk w71 N59 34 #[.int .i64 ((ofE s).1.1), .int .i64 ((ofE s).1.2.1), u46, .int .u64 ((ofE s).1.2.2.2)] := hk72; clear hk72
        have hB75 := hb_at hB65 hg74 (by omega)
        have hz76 := hB75.size
        have hz77 := hg74.size
        have hk78 := hk68.kept hg74 (by simp; omega)
        have hr79 := row_kept_at hr69 hg74 (ha64)
        refine pl_val (v := .int .i64 ((ofE s).2)) h70 rfl rfl rfl (by kernel_rfl) (by kernel_rfl) (by kernel_rfl) (fun a80 h80 => ?_); clear h70
        refine pl_nil ?_
        refine co_then ?_
        refine co_seq ?_
        refine co_reg ?_
        refine pl_val (v := .string s) h80 rfl rfl rfl (by kernel_rfl) (by kernel_rfl) (by kernel_rfl) (fun a81 h81 => ?_); clear h80
        refine pl_want h81 rfl rfl rfl (op_call (args := #[.string s]) (R := fun res xw => ∃ u : Value, res = .tuple #[.agg #[.int .i64 ((ofE s).1.1), .int .i64 ((ofE s).1.2.1), u, .int .u64 ((ofE s).1.2.2.2)], .int .i64 ((ofE s).2)] ∧ xw.ownsRow w71.heap.size 86 3 u ((ofE s).1.2.2.1).length (((ofE s).1.2.2.1).flatMap opE) ∧ Below w71.heap.size w71 xw) rfl rfl rfl (by kernel_rfl) (by kernel_rfl) (Try.call28 _ _) (ritemOf_any s ((ofE s).1.1) ((ofE s).1.2.1) ((ofE s).1.2.2.1) ((ofE s).1.2.2.2) ((ofE s).2) w71 (by first | omega | (simp; done) | (simp; omega)) rfl) (by rintro e x ⟨u, rfl, hq85, hb86⟩; exact ⟨_, rfl, ⟨u, rfl, hq85, hb86⟩⟩)) ?_; clear h81
        rintro _ w83 a82 ⟨u84, rfl, hq85, hb86⟩ h82
        have hB87 := hb_call hB75 hb86
        have hz88 := hB87.size
        have hz89 := hb86.size
        have hk90 := hk78.below hb86
        have hr91 := row_kept_new hr79 (below_grown hb86)
        have hk92 := hk72'.below hb86
        have hl93 := sl_len (row_sl hq85 opE_len)
        refine pl_val (v := .tuple #[.agg #[.int .i64 ((ofE s).1.1), .int .i64 ((ofE s).1.2.1), u84, .int .u64 ((ofE s).1.2.2.2)], .int .i64 ((ofE s).2)]) h82 rfl rfl rfl (by kernel_rfl) (by kernel_rfl) (by kernel_rfl) (fun a94 h94 => ?_); clear h82
        refine pl_val (v := .agg #[.int .i64 ((ofE s).1.1), .int .i64 ((ofE s).1.2.1), u84, .int .u64 ((ofE s).1.2.2.2)]) h94 rfl rfl rfl (by kernel_rfl) (by kernel_rfl) (by kernel_rfl) (fun a95 h95 => ?_); clear h94
        refine pl_val (v := .int .i64 ((ofE s).2)) h95 rfl rfl rfl (by kernel_rfl) (by kernel_rfl) (by kernel_rfl) (fun a96 h96 => ?_); clear h95
        refine pl_want h96 rfl rfl rfl (op_new (v := fun N => .pointer (some ⟨N, 0, none⟩)) (T := 34) (cs := #[.int .i64 0, .int .i64 0, .slice none 0 0, .int .u64 0]) (by kernel_rfl) (by kernel_rfl) (by kernel_rfl)) ?_; clear h96
        rintro _ w98 a97 ⟨N99, rfl, hN102, hz103, hk101, hg100⟩ h97
        have ha104 := row_fresh hr91 hN102
        have ha105 := row_fresh hq85 hN102
        have hB106 := hb_new hB87 hg100
        have hz107 := hB106.size
        have hz108 := hg100.size
        have hk109 := hk90.kept hg100 (by simp)
        have hr110 := row_kept_new hr91 hg100
        have hk111 := hk92.kept hg100 (by simp)
        have hr112 := row_kept_new hq85 hg100
        try dsimp only at h97
        refine pl_doW h97 rfl rfl (op_storeN rfl rfl rfl (all_cons rfl (all_cons rfl (all_cons (row_one hr112) (all_cons rfl all_nil)))) (by kernel_rfl) hk101 rfl) ?_; clear h97
        rintro _ w114 a113 ⟨hk115, hz116, hg117⟩ h113
        have hk115' : Blk w114 N99 34 #[.int .i64 ((ofE s).1.1), .int .i64 ((ofE s).1.2.1), u84, .int .u64 ((ofE s).1.2.2.2)] := hk115; clear hk115
        have hB118 := hb_at hB106 hg117 (by omega)
        have hz119 := hB118.size
        have hz120 := hg117.size
        have hk121 := hk109.kept hg117 (by simp; omega)
        have hr122 := row_kept_at hr110 hg117 (ha104)
        have hk123 := hk111.kept hg117 (by simp; omega)
        have hr124 := row_kept_at hr112 hg117 (ha105)
        refine pl_val (v := .int .i64 ((ofE s).2)) h113 rfl rfl rfl (by kernel_rfl) (by kernel_rfl) (by kernel_rfl) (fun a125 h125 => ?_); clear h113
        refine pl_nil ?_
        refine co_then ?_
        refine co_seq ?_
        refine co_seq ?_
        refine co_reg ?_
        refine pl_val (v := .agg #[.int .i64 ((ofE s).1.1), .int .i64 ((ofE s).1.2.1), u46, .int .u64 ((ofE s).1.2.2.2)]) h125 rfl rfl rfl (by kernel_rfl) (by kernel_rfl) (rn_loadN rfl rfl Try.underlying34 rfl (by kernel_rfl) hk123.all) (fun a126 h126 => ?_); clear h125
        refine pl_val (v := .agg #[.int .i64 ((ofE s).1.1), .int .i64 ((ofE s).1.2.1), u84, .int .u64 ((ofE s).1.2.2.2)]) h126 rfl rfl rfl (by kernel_rfl) (by kernel_rfl) (rn_loadN rfl rfl Try.underlying34 rfl (by kernel_rfl) hk115'.all) (fun a127 h127 => ?_); clear h126
        refine pl_want h127 rfl rfl rfl (op_call (args := #[.agg #[.int .i64 ((ofE s).1.1), .int .i64 ((ofE s).1.2.1), u46, .int .u64 ((ofE s).1.2.2.2)], .agg #[.int .i64 ((ofE s).1.1), .int .i64 ((ofE s).1.2.1), u84, .int .u64 ((ofE s).1.2.2.2)]]) (R := fun res xw => res = .bool (sameE ((ofE s).1.1) ((ofE s).1.2.1) ((ofE s).1.2.2.1) ((ofE s).1.2.2.2) ((ofE s).1.1) ((ofE s).1.2.1) ((ofE s).1.2.2.1) ((ofE s).1.2.2.2)) ∧ Below w114.heap.size w114 xw) rfl rfl rfl (by kernel_rfl) (by kernel_rfl) (Try.call24 _ _) (ritemSame_any ((ofE s).1.1) ((ofE s).1.2.1) u46 ((ofE s).1.2.2.1) ((ofE s).1.2.2.2) ((ofE s).1.1) ((ofE s).1.2.1) u84 ((ofE s).1.2.2.1) ((ofE s).1.2.2.2) w114 (row_sl hr122 opE_len) (row_sl hr124 opE_len)) (by rintro e x ⟨rfl, hb130⟩; exact ⟨_, rfl, ⟨rfl, hb130⟩⟩)) ?_; clear h127
        rintro _ w129 a128 ⟨rfl, hb130⟩ h128
        have hB131 := hb_call hB118 hb130
        have hz132 := hB131.size
        have hz133 := hb130.size
        have hk134 := hk121.below hb130
        have hr135 := row_kept_new hr122 (below_grown hb130)
        have hk136 := hk123.below hb130
        have hr137 := row_kept_new hr124 (below_grown hb130)
        have hk138 := hk115'.below hb130
        have hc139 : (sameE ((ofE s).1.1) ((ofE s).1.2.1) ((ofE s).1.2.2.1) ((ofE s).1.2.2.2) ((ofE s).1.1) ((ofE s).1.2.1) ((ofE s).1.2.2.1) ((ofE s).1.2.2.2)) = true := sameE_refl _ _ _ _
        rw [hc139] at h128; clear hc139
        refine pl_val (v := .bool false) h128 rfl rfl rfl (by kernel_rfl) (by kernel_rfl) (by kernel_rfl) (fun a140 h140 => ?_); clear h128
        refine pl_val (v := .bool false) h140 rfl rfl rfl (by kernel_rfl) (by kernel_rfl) (by kernel_rfl) (fun a141 h141 => ?_); clear h140
        refine pl_val (v := .int .i64 ((ofE s).2)) h141 rfl rfl rfl (by kernel_rfl) (by kernel_rfl) (by kernel_rfl) (fun a142 h142 => ?_); clear h141
        refine pl_val (v := .int .i64 ((ofE s).2)) h142 rfl rfl rfl (by kernel_rfl) (by kernel_rfl) (by kernel_rfl) (fun a143 h143 => ?_); clear h142
        refine pl_val (v := .bool (((ofE s).2) != ((ofE s).2))) h143 rfl rfl rfl (by kernel_rfl) (by kernel_rfl) (by kernel_rfl) (fun a144 h144 => ?_); clear h143
        refine pl_val (v := .bool (((ofE s).2) != ((ofE s).2))) h144 rfl rfl rfl (by kernel_rfl) (by kernel_rfl) (by kernel_rfl) (fun a145 h145 => ?_); clear h144
        refine pl_nil ?_
        refine co_then ?_
        have hc146 : (((ofE s).2) != ((ofE s).2)) = false := by first | (simp; done) | (simp; omega)
        rw [hc146] at h145; clear hc146
        refine co_false h145 rfl ?_
        refine wp_skip ?_
        refine co_then ?_
        refine co_seq ?_
        refine co_reg ?_
        refine pl_val (v := .agg #[.int .i64 ((ofE s).1.1), .int .i64 ((ofE s).1.2.1), u46, .int .u64 ((ofE s).1.2.2.2)]) h145 rfl rfl rfl (by kernel_rfl) (by kernel_rfl) (rn_loadN rfl rfl Try.underlying34 rfl (by kernel_rfl) hk136.all) (fun a147 h147 => ?_); clear h145
        refine pl_want h147 rfl rfl rfl (op_call (args := #[.agg #[.int .i64 ((ofE s).1.1), .int .i64 ((ofE s).1.2.1), u46, .int .u64 ((ofE s).1.2.2.2)]]) (R := fun res xw => res = .tuple #[.string (putE ((ofE s).1.1) ((ofE s).1.2.1) ((ofE s).1.2.2.1) ((ofE s).1.2.2.2)), .int .i64 (chkB ((ofE s).1.1) ((ofE s).1.2.1) ((ofE s).1.2.2.1))] ∧ Below w129.heap.size w129 xw) rfl rfl rfl (by kernel_rfl) (by kernel_rfl) (Try.call19 _ _) (itemPut_any ((ofE s).1.1) ((ofE s).1.2.1) u46 ((ofE s).1.2.2.1) ((ofE s).1.2.2.2) w129 (row_sl hr135 opE_len) (ofE_ts s)) (by rintro e x ⟨rfl, hb150⟩; exact ⟨_, rfl, ⟨rfl, hb150⟩⟩)) ?_; clear h147
        rintro _ w149 a148 ⟨rfl, hb150⟩ h148
        have hB151 := hb_call hB131 hb150
        have hz152 := hB151.size
        have hz153 := hb150.size
        have hk154 := hk134.below hb150
        have hr155 := row_kept_new hr135 (below_grown hb150)
        have hk156 := hk136.below hb150
        have hr157 := row_kept_new hr137 (below_grown hb150)
        have hk158 := hk138.below hb150
        refine pl_val (v := .tuple #[.string (putE ((ofE s).1.1) ((ofE s).1.2.1) ((ofE s).1.2.2.1) ((ofE s).1.2.2.2)), .int .i64 (chkB ((ofE s).1.1) ((ofE s).1.2.1) ((ofE s).1.2.2.1))]) h148 rfl rfl rfl (by kernel_rfl) (by kernel_rfl) (by kernel_rfl) (fun a159 h159 => ?_); clear h148
        refine pl_val (v := .string (putE ((ofE s).1.1) ((ofE s).1.2.1) ((ofE s).1.2.2.1) ((ofE s).1.2.2.2))) h159 rfl rfl rfl (by kernel_rfl) (by kernel_rfl) (by kernel_rfl) (fun a160 h160 => ?_); clear h159
        refine pl_val (v := .int .i64 (chkB ((ofE s).1.1) ((ofE s).1.2.1) ((ofE s).1.2.2.1))) h160 rfl rfl rfl (by kernel_rfl) (by kernel_rfl) (by kernel_rfl) (fun a161 h161 => ?_); clear h160
        refine pl_val (v := .string (putE ((ofE s).1.1) ((ofE s).1.2.1) ((ofE s).1.2.2.1) ((ofE s).1.2.2.2))) h161 rfl rfl rfl (by kernel_rfl) (by kernel_rfl) (by kernel_rfl) (fun a162 h162 => ?_); clear h161
        refine pl_val (v := .int .i64 (chkB ((ofE s).1.1) ((ofE s).1.2.1) ((ofE s).1.2.2.1))) h162 rfl rfl rfl (by kernel_rfl) (by kernel_rfl) (by kernel_rfl) (fun a163 h163 => ?_); clear h162
        refine pl_nil ?_
        refine co_then ?_
        refine co_seq ?_
        refine co_reg ?_
        refine pl_val (v := .int .i64 ((ofE s).2)) h163 rfl rfl rfl (by kernel_rfl) (by kernel_rfl) (by kernel_rfl) (fun a164 h164 => ?_); clear h163
        refine pl_val (v := .bool (((ofE s).2) != 0)) h164 rfl rfl rfl (by kernel_rfl) (by kernel_rfl) (by kernel_rfl) (fun a165 h165 => ?_); clear h164
        refine pl_val (v := .bool (((ofE s).2) != 0)) h165 rfl rfl rfl (by kernel_rfl) (by kernel_rfl) (by kernel_rfl) (fun a166 h166 => ?_); clear h165
        cases hc167 : (((ofE s).2) != 0)
        ·
          rw [hc167] at h166
          have hp168 : ¬ (((ofE s).2) ≠ 0) := by first | simpa using hc167 | simpa [and_assoc] using hc167
          clear hc167
          refine pl_val (v := .string (putE ((ofE s).1.1) ((ofE s).1.2.1) ((ofE s).1.2.2.1) ((ofE s).1.2.2.2))) h166 rfl rfl rfl (by kernel_rfl) (by kernel_rfl) (by kernel_rfl) (fun a169 h169 => ?_); clear h166
          refine pl_val (v := .string s) h169 rfl rfl rfl (by kernel_rfl) (by kernel_rfl) (by kernel_rfl) (fun a170 h170 => ?_); clear h169
          refine pl_val (v := .bool ((putE ((ofE s).1.1) ((ofE s).1.2.1) ((ofE s).1.2.2.1) ((ofE s).1.2.2.2) : ByteArray).toList == s.toList)) h170 rfl rfl rfl (by kernel_rfl) (by kernel_rfl) (by kernel_rfl) (fun a171 h171 => ?_); clear h170
          refine pl_val (v := .bool ((putE ((ofE s).1.1) ((ofE s).1.2.1) ((ofE s).1.2.2.1) ((ofE s).1.2.2.2) : ByteArray).toList == s.toList)) h171 rfl rfl rfl (by kernel_rfl) (by kernel_rfl) (by kernel_rfl) (fun a172 h172 => ?_); clear h171
          have hc173 : ((putE ((ofE s).1.1) ((ofE s).1.2.1) ((ofE s).1.2.2.1) ((ofE s).1.2.2.2) : ByteArray).toList == s.toList) = true := by rw [(backE (s := s) (by omega)).1]; simp
          rw [hc173] at h172; clear hc173
          refine pl_val (v := .int .i64 (chkB ((ofE s).1.1) ((ofE s).1.2.1) ((ofE s).1.2.2.1))) h172 rfl rfl rfl (by kernel_rfl) (by kernel_rfl) (by kernel_rfl) (fun a174 h174 => ?_); clear h172
          refine pl_val (v := .bool (chkB ((ofE s).1.1) ((ofE s).1.2.1) ((ofE s).1.2.2.1) == 0)) h174 rfl rfl rfl (by kernel_rfl) (by kernel_rfl) (by kernel_rfl) (fun a175 h175 => ?_); clear h174
          refine pl_val (v := .bool (chkB ((ofE s).1.1) ((ofE s).1.2.1) ((ofE s).1.2.2.1) == 0)) h175 rfl rfl rfl (by kernel_rfl) (by kernel_rfl) (by kernel_rfl) (fun a176 h176 => ?_); clear h175
          refine pl_val (v := .bool (chkB ((ofE s).1.1) ((ofE s).1.2.1) ((ofE s).1.2.2.1) == 0)) h176 rfl rfl rfl (by kernel_rfl) (by kernel_rfl) (by kernel_rfl) (fun a177 h177 => ?_); clear h176
          refine pl_val (v := .bool (chkB ((ofE s).1.1) ((ofE s).1.2.1) ((ofE s).1.2.2.1) == 0)) h177 rfl rfl rfl (by kernel_rfl) (by kernel_rfl) (by kernel_rfl) (fun a178 h178 => ?_); clear h177
          have hc179 : (chkB ((ofE s).1.1) ((ofE s).1.2.1) ((ofE s).1.2.2.1) == 0) = true := by first | (simp; done) | (simp; omega)
          rw [hc179] at h178; clear hc179
          refine pl_want h178 rfl rfl rfl (op_call (args := #[]) (R := fun res xw => res = .bool true ∧ Below w149.heap.size w149 xw) rfl rfl rfl (by kernel_rfl) (by kernel_rfl) (Try.call18 _ _) (awake08_any  w149 ) (by rintro e x ⟨rfl, hb182⟩; exact ⟨_, rfl, ⟨rfl, hb182⟩⟩)) ?_; clear h178
          rintro _ w181 a180 ⟨rfl, hb182⟩ h180
          have hB183 := hb_call hB151 hb182
          have hz184 := hB183.size
          have hz185 := hb182.size
          have hk186 := hk154.below hb182
          have hr187 := row_kept_new hr155 (below_grown hb182)
          have hk188 := hk156.below hb182
          have hr189 := row_kept_new hr157 (below_grown hb182)
          have hk190 := hk158.below hb182
          refine pl_val (v := .bool true) h180 rfl rfl rfl (by kernel_rfl) (by kernel_rfl) (by kernel_rfl) (fun a191 h191 => ?_); clear h180
          refine pl_val (v := .bool true) h191 rfl rfl rfl (by kernel_rfl) (by kernel_rfl) (by kernel_rfl) (fun a192 h192 => ?_); clear h191
          refine pl_nil ?_
          refine co_then ?_
          refine wp_ret ?_
          refine co_ret1 h192 rfl rfl ?_
          exact ⟨rfl, hB183⟩
        ·
          rw [hc167] at h166
          have hp193 : ((ofE s).2) ≠ 0 := by first | simpa using hc167 | simpa [and_assoc] using hc167
          clear hc167
          refine pl_skip h166 rfl rfl rfl (fun a194 h194 => ?_); clear h166
          refine pl_skip h194 rfl rfl rfl (fun a195 h195 => ?_); clear h194
          refine pl_skip h195 rfl rfl rfl (fun a196 h196 => ?_); clear h195
          refine pl_skip h196 rfl rfl rfl (fun a197 h197 => ?_); clear h196
          refine pl_skip h197 rfl rfl rfl (fun a198 h198 => ?_); clear h197
          refine pl_skip h198 rfl rfl rfl (fun a199 h199 => ?_); clear h198
          refine pl_skip h199 rfl rfl rfl (fun a200 h200 => ?_); clear h199
          refine pl_val (v := .bool true) h200 rfl rfl rfl (by kernel_rfl) (by kernel_rfl) (by kernel_rfl) (fun a201 h201 => ?_); clear h200
          refine pl_val (v := .bool true) h201 rfl rfl rfl (by kernel_rfl) (by kernel_rfl) (by kernel_rfl) (fun a202 h202 => ?_); clear h201
          refine pl_want h202 rfl rfl rfl (op_call (args := #[]) (R := fun res xw => res = .bool true ∧ Below w149.heap.size w149 xw) rfl rfl rfl (by kernel_rfl) (by kernel_rfl) (Try.call18 _ _) (awake08_any  w149 ) (by rintro e x ⟨rfl, hb205⟩; exact ⟨_, rfl, ⟨rfl, hb205⟩⟩)) ?_; clear h202
          rintro _ w204 a203 ⟨rfl, hb205⟩ h203
          have hB206 := hb_call hB151 hb205
          have hz207 := hB206.size
          have hz208 := hb205.size
          have hk209 := hk154.below hb205
          have hr210 := row_kept_new hr155 (below_grown hb205)
          have hk211 := hk156.below hb205
          have hr212 := row_kept_new hr157 (below_grown hb205)
          have hk213 := hk158.below hb205
          refine pl_val (v := .bool true) h203 rfl rfl rfl (by kernel_rfl) (by kernel_rfl) (by kernel_rfl) (fun a214 h214 => ?_); clear h203
          refine pl_val (v := .bool true) h214 rfl rfl rfl (by kernel_rfl) (by kernel_rfl) (by kernel_rfl) (fun a215 h215 => ?_); clear h214
          refine pl_nil ?_
          refine co_then ?_
          refine wp_ret ?_
          refine co_ret1 h215 rfl rfl ?_
          exact ⟨rfl, hB206⟩
      ·
        rw [hc41] at h40
        have hp216 : chkB c r l = 0 := by first | simpa using hc41 | simpa [and_assoc] using hc41
        clear hc41
        refine co_true h40 rfl ?_
        refine co_seq ?_
        refine co_reg ?_
        refine pl_val (v := .string (putE c r l ts)) h40 rfl rfl rfl (by kernel_rfl) (by kernel_rfl) (by kernel_rfl) (fun a217 h217 => ?_); clear h40
        refine pl_want h217 rfl rfl rfl (op_call (args := #[.string (putE c r l ts)]) (R := fun res xw => ∃ u : Value, res = .tuple #[.agg #[.int .i64 ((ofE (putE c r l ts)).1.1), .int .i64 ((ofE (putE c r l ts)).1.2.1), u, .int .u64 ((ofE (putE c r l ts)).1.2.2.2)], .int .i64 ((ofE (putE c r l ts)).2)] ∧ xw.ownsRow w28.heap.size 86 3 u ((ofE (putE c r l ts)).1.2.2.1).length (((ofE (putE c r l ts)).1.2.2.1).flatMap opE) ∧ Below w28.heap.size w28 xw) rfl rfl rfl (by kernel_rfl) (by kernel_rfl) (Try.call27 _ _) (itemOf_any (putE c r l ts) ((ofE (putE c r l ts)).1.1) ((ofE (putE c r l ts)).1.2.1) ((ofE (putE c r l ts)).1.2.2.1) ((ofE (putE c r l ts)).1.2.2.2) ((ofE (putE c r l ts)).2) w28 putE_szB rfl) (by rintro e x ⟨u, rfl, hq221, hb222⟩; exact ⟨_, rfl, ⟨u, rfl, hq221, hb222⟩⟩)) ?_; clear h217
        rintro _ w219 a218 ⟨u220, rfl, hq221, hb222⟩ h218
        have hB223 := hb_call hB30 hb222
        have hz224 := hB223.size
        have hz225 := hb222.size
        have hk226 := hk33.below hb222
        have hl227 := sl_len (row_sl hq221 opE_len)
        refine pl_val (v := .tuple #[.agg #[.int .i64 ((ofE (putE c r l ts)).1.1), .int .i64 ((ofE (putE c r l ts)).1.2.1), u220, .int .u64 ((ofE (putE c r l ts)).1.2.2.2)], .int .i64 ((ofE (putE c r l ts)).2)]) h218 rfl rfl rfl (by kernel_rfl) (by kernel_rfl) (by kernel_rfl) (fun a228 h228 => ?_); clear h218
        refine pl_val (v := .agg #[.int .i64 ((ofE (putE c r l ts)).1.1), .int .i64 ((ofE (putE c r l ts)).1.2.1), u220, .int .u64 ((ofE (putE c r l ts)).1.2.2.2)]) h228 rfl rfl rfl (by kernel_rfl) (by kernel_rfl) (by kernel_rfl) (fun a229 h229 => ?_); clear h228
        refine pl_val (v := .int .i64 ((ofE (putE c r l ts)).2)) h229 rfl rfl rfl (by kernel_rfl) (by kernel_rfl) (by kernel_rfl) (fun a230 h230 => ?_); clear h229
        refine pl_want h230 rfl rfl rfl (op_new (v := fun N => .pointer (some ⟨N, 0, none⟩)) (T := 34) (cs := #[.int .i64 0, .int .i64 0, .slice none 0 0, .int .u64 0]) (by kernel_rfl) (by kernel_rfl) (by kernel_rfl)) ?_; clear h230
        rintro _ w232 a231 ⟨N233, rfl, hN236, hz237, hk235, hg234⟩ h231
        have ha238 := row_fresh hq221 hN236
        have hB239 := hb_new hB223 hg234
        have hz240 := hB239.size
        have hz241 := hg234.size
        have hk242 := hk226.kept hg234 (by simp)
        have hr243 := row_kept_new hq221 hg234
        try dsimp only at h231
        refine pl_doW h231 rfl rfl (op_storeN rfl rfl rfl (all_cons rfl (all_cons rfl (all_cons (row_one hr243) (all_cons rfl all_nil)))) (by kernel_rfl) hk235 rfl) ?_; clear h231
        rintro _ w245 a244 ⟨hk246, hz247, hg248⟩ h244
        have hk246' : Blk w245 N233 34 #[.int .i64 ((ofE (putE c r l ts)).1.1), .int .i64 ((ofE (putE c r l ts)).1.2.1), u220, .int .u64 ((ofE (putE c r l ts)).1.2.2.2)] := hk246; clear hk246
        have hB249 := hb_at hB239 hg248 (by omega)
        have hz250 := hB249.size
        have hz251 := hg248.size
        have hk252 := hk242.kept hg248 (by simp; omega)
        have hr253 := row_kept_at hr243 hg248 (ha238)
        refine pl_val (v := .int .i64 ((ofE (putE c r l ts)).2)) h244 rfl rfl rfl (by kernel_rfl) (by kernel_rfl) (by kernel_rfl) (fun a254 h254 => ?_); clear h244
        refine pl_nil ?_
        refine co_then ?_
        refine co_seq ?_
        refine co_reg ?_
        refine pl_val (v := .int .i64 ((ofE (putE c r l ts)).2)) h254 rfl rfl rfl (by kernel_rfl) (by kernel_rfl) (by kernel_rfl) (fun a255 h255 => ?_); clear h254
        refine pl_val (v := .bool (((ofE (putE c r l ts)).2) != 0)) h255 rfl rfl rfl (by kernel_rfl) (by kernel_rfl) (by kernel_rfl) (fun a256 h256 => ?_); clear h255
        refine pl_val (v := .bool (((ofE (putE c r l ts)).2) != 0)) h256 rfl rfl rfl (by kernel_rfl) (by kernel_rfl) (by kernel_rfl) (fun a257 h257 => ?_); clear h256
        have hc258 : (((ofE (putE c r l ts)).2) != 0) = false := by first | (simp; done) | (simp; omega)
        rw [hc258] at h257; clear hc258
        refine pl_val (v := .agg #[.int .i64 c, .int .i64 r, v, .int .u64 ts]) h257 rfl rfl rfl (by kernel_rfl) (by kernel_rfl) (rn_loadN rfl rfl Try.underlying34 rfl (by kernel_rfl) hk252.all) (fun a259 h259 => ?_); clear h257
        refine pl_val (v := .agg #[.int .i64 ((ofE (putE c r l ts)).1.1), .int .i64 ((ofE (putE c r l ts)).1.2.1), u220, .int .u64 ((ofE (putE c r l ts)).1.2.2.2)]) h259 rfl rfl rfl (by kernel_rfl) (by kernel_rfl) (rn_loadN rfl rfl Try.underlying34 rfl (by kernel_rfl) hk246'.all) (fun a260 h260 => ?_); clear h259
        refine pl_want h260 rfl rfl rfl (op_call (args := #[.agg #[.int .i64 c, .int .i64 r, v, .int .u64 ts], .agg #[.int .i64 ((ofE (putE c r l ts)).1.1), .int .i64 ((ofE (putE c r l ts)).1.2.1), u220, .int .u64 ((ofE (putE c r l ts)).1.2.2.2)]]) (R := fun res xw => res = .bool (sameE c r l ts ((ofE (putE c r l ts)).1.1) ((ofE (putE c r l ts)).1.2.1) ((ofE (putE c r l ts)).1.2.2.1) ((ofE (putE c r l ts)).1.2.2.2)) ∧ Below w245.heap.size w245 xw) rfl rfl rfl (by kernel_rfl) (by kernel_rfl) (Try.call24 _ _) (ritemSame_any c r v l ts ((ofE (putE c r l ts)).1.1) ((ofE (putE c r l ts)).1.2.1) u220 ((ofE (putE c r l ts)).1.2.2.1) ((ofE (putE c r l ts)).1.2.2.2) w245 (hs.below hB249) (row_sl hr253 opE_len)) (by rintro e x ⟨rfl, hb263⟩; exact ⟨_, rfl, ⟨rfl, hb263⟩⟩)) ?_; clear h260
        rintro _ w262 a261 ⟨rfl, hb263⟩ h261
        have hB264 := hb_call hB249 hb263
        have hz265 := hB264.size
        have hz266 := hb263.size
        have hk267 := hk252.below hb263
        have hr268 := row_kept_new hr253 (below_grown hb263)
        have hk269 := hk246'.below hb263
        have hc270 : (sameE c r l ts ((ofE (putE c r l ts)).1.1) ((ofE (putE c r l ts)).1.2.1) ((ofE (putE c r l ts)).1.2.2.1) ((ofE (putE c r l ts)).1.2.2.2)) = true := backE_put (by omega) hts
        rw [hc270] at h261; clear hc270
        refine pl_val (v := .bool false) h261 rfl rfl rfl (by kernel_rfl) (by kernel_rfl) (by kernel_rfl) (fun a271 h271 => ?_); clear h261
        refine pl_val (v := .bool false) h271 rfl rfl rfl (by kernel_rfl) (by kernel_rfl) (by kernel_rfl) (fun a272 h272 => ?_); clear h271
        refine pl_nil ?_
        refine co_then ?_
        refine co_false h272 rfl ?_
        refine wp_skip ?_
        refine co_then ?_
        refine co_seq ?_
        refine co_reg ?_
        refine pl_val (v := .string s) h272 rfl rfl rfl (by kernel_rfl) (by kernel_rfl) (by kernel_rfl) (fun a273 h273 => ?_); clear h272
        refine pl_want h273 rfl rfl rfl (op_call (args := #[.string s]) (R := fun res xw => ∃ u : Value, res = .tuple #[.agg #[.int .i64 ((ofE s).1.1), .int .i64 ((ofE s).1.2.1), u, .int .u64 ((ofE s).1.2.2.2)], .int .i64 ((ofE s).2)] ∧ xw.ownsRow w262.heap.size 86 3 u ((ofE s).1.2.2.1).length (((ofE s).1.2.2.1).flatMap opE) ∧ Below w262.heap.size w262 xw) rfl rfl rfl (by kernel_rfl) (by kernel_rfl) (Try.call27 _ _) (itemOf_any s ((ofE s).1.1) ((ofE s).1.2.1) ((ofE s).1.2.2.1) ((ofE s).1.2.2.2) ((ofE s).2) w262 (by first | omega | (simp; done) | (simp; omega)) rfl) (by rintro e x ⟨u, rfl, hq277, hb278⟩; exact ⟨_, rfl, ⟨u, rfl, hq277, hb278⟩⟩)) ?_; clear h273
        rintro _ w275 a274 ⟨u276, rfl, hq277, hb278⟩ h274
        have hB279 := hb_call hB264 hb278
        have hz280 := hB279.size
        have hz281 := hb278.size
        have hk282 := hk267.below hb278
        have hr283 := row_kept_new hr268 (below_grown hb278)
        have hk284 := hk269.below hb278
        have hl285 := sl_len (row_sl hq277 opE_len)
        refine pl_val (v := .tuple #[.agg #[.int .i64 ((ofE s).1.1), .int .i64 ((ofE s).1.2.1), u276, .int .u64 ((ofE s).1.2.2.2)], .int .i64 ((ofE s).2)]) h274 rfl rfl rfl (by kernel_rfl) (by kernel_rfl) (by kernel_rfl) (fun a286 h286 => ?_); clear h274
        refine pl_val (v := .agg #[.int .i64 ((ofE s).1.1), .int .i64 ((ofE s).1.2.1), u276, .int .u64 ((ofE s).1.2.2.2)]) h286 rfl rfl rfl (by kernel_rfl) (by kernel_rfl) (by kernel_rfl) (fun a287 h287 => ?_); clear h286
        refine pl_val (v := .int .i64 ((ofE s).2)) h287 rfl rfl rfl (by kernel_rfl) (by kernel_rfl) (by kernel_rfl) (fun a288 h288 => ?_); clear h287
        refine pl_want h288 rfl rfl rfl (op_new (v := fun N => .pointer (some ⟨N, 0, none⟩)) (T := 34) (cs := #[.int .i64 0, .int .i64 0, .slice none 0 0, .int .u64 0]) (by kernel_rfl) (by kernel_rfl) (by kernel_rfl)) ?_; clear h288
        rintro _ w290 a289 ⟨N291, rfl, hN294, hz295, hk293, hg292⟩ h289
        have ha296 := row_fresh hr283 hN294
        have ha297 := row_fresh hq277 hN294
        have hB298 := hb_new hB279 hg292
        have hz299 := hB298.size
        have hz300 := hg292.size
        have hk301 := hk282.kept hg292 (by simp)
        have hr302 := row_kept_new hr283 hg292
        have hk303 := hk284.kept hg292 (by simp)
        have hr304 := row_kept_new hq277 hg292
        try dsimp only at h289
        refine pl_doW h289 rfl rfl (op_storeN rfl rfl rfl (all_cons rfl (all_cons rfl (all_cons (row_one hr304) (all_cons rfl all_nil)))) (by kernel_rfl) hk293 rfl) ?_; clear h289
        rintro _ w306 a305 ⟨hk307, hz308, hg309⟩ h305
        have hk307' : Blk w306 N291 34 #[.int .i64 ((ofE s).1.1), .int .i64 ((ofE s).1.2.1), u276, .int .u64 ((ofE s).1.2.2.2)] := hk307; clear hk307
        have hB310 := hb_at hB298 hg309 (by omega)
        have hz311 := hB310.size
        have hz312 := hg309.size
        have hk313 := hk301.kept hg309 (by simp; omega)
        have hr314 := row_kept_at hr302 hg309 (ha296)
        have hk315 := hk303.kept hg309 (by simp; omega)
        have hr316 := row_kept_at hr304 hg309 (ha297)
        refine pl_val (v := .int .i64 ((ofE s).2)) h305 rfl rfl rfl (by kernel_rfl) (by kernel_rfl) (by kernel_rfl) (fun a317 h317 => ?_); clear h305
        refine pl_nil ?_
        refine co_then ?_
        refine co_seq ?_
        refine co_reg ?_
        refine pl_val (v := .string s) h317 rfl rfl rfl (by kernel_rfl) (by kernel_rfl) (by kernel_rfl) (fun a318 h318 => ?_); clear h317
        refine pl_want h318 rfl rfl rfl (op_call (args := #[.string s]) (R := fun res xw => ∃ u : Value, res = .tuple #[.agg #[.int .i64 ((ofE s).1.1), .int .i64 ((ofE s).1.2.1), u, .int .u64 ((ofE s).1.2.2.2)], .int .i64 ((ofE s).2)] ∧ xw.ownsRow w306.heap.size 86 3 u ((ofE s).1.2.2.1).length (((ofE s).1.2.2.1).flatMap opE) ∧ Below w306.heap.size w306 xw) rfl rfl rfl (by kernel_rfl) (by kernel_rfl) (Try.call28 _ _) (ritemOf_any s ((ofE s).1.1) ((ofE s).1.2.1) ((ofE s).1.2.2.1) ((ofE s).1.2.2.2) ((ofE s).2) w306 (by first | omega | (simp; done) | (simp; omega)) rfl) (by rintro e x ⟨u, rfl, hq322, hb323⟩; exact ⟨_, rfl, ⟨u, rfl, hq322, hb323⟩⟩)) ?_; clear h318
        rintro _ w320 a319 ⟨u321, rfl, hq322, hb323⟩ h319
        have hB324 := hb_call hB310 hb323
        have hz325 := hB324.size
        have hz326 := hb323.size
        have hk327 := hk313.below hb323
        have hr328 := row_kept_new hr314 (below_grown hb323)
        have hk329 := hk315.below hb323
        have hr330 := row_kept_new hr316 (below_grown hb323)
        have hk331 := hk307'.below hb323
        have hl332 := sl_len (row_sl hq322 opE_len)
        refine pl_val (v := .tuple #[.agg #[.int .i64 ((ofE s).1.1), .int .i64 ((ofE s).1.2.1), u321, .int .u64 ((ofE s).1.2.2.2)], .int .i64 ((ofE s).2)]) h319 rfl rfl rfl (by kernel_rfl) (by kernel_rfl) (by kernel_rfl) (fun a333 h333 => ?_); clear h319
        refine pl_val (v := .agg #[.int .i64 ((ofE s).1.1), .int .i64 ((ofE s).1.2.1), u321, .int .u64 ((ofE s).1.2.2.2)]) h333 rfl rfl rfl (by kernel_rfl) (by kernel_rfl) (by kernel_rfl) (fun a334 h334 => ?_); clear h333
        refine pl_val (v := .int .i64 ((ofE s).2)) h334 rfl rfl rfl (by kernel_rfl) (by kernel_rfl) (by kernel_rfl) (fun a335 h335 => ?_); clear h334
        refine pl_want h335 rfl rfl rfl (op_new (v := fun N => .pointer (some ⟨N, 0, none⟩)) (T := 34) (cs := #[.int .i64 0, .int .i64 0, .slice none 0 0, .int .u64 0]) (by kernel_rfl) (by kernel_rfl) (by kernel_rfl)) ?_; clear h335
        rintro _ w337 a336 ⟨N338, rfl, hN341, hz342, hk340, hg339⟩ h336
        have ha343 := row_fresh hr328 hN341
        have ha344 := row_fresh hr330 hN341
        have ha345 := row_fresh hq322 hN341
        have hB346 := hb_new hB324 hg339
        have hz347 := hB346.size
        have hz348 := hg339.size
        have hk349 := hk327.kept hg339 (by simp)
        have hr350 := row_kept_new hr328 hg339
        have hk351 := hk329.kept hg339 (by simp)
        have hr352 := row_kept_new hr330 hg339
        have hk353 := hk331.kept hg339 (by simp)
        have hr354 := row_kept_new hq322 hg339
        try dsimp only at h336
        refine pl_doW h336 rfl rfl (op_storeN rfl rfl rfl (all_cons rfl (all_cons rfl (all_cons (row_one hr354) (all_cons rfl all_nil)))) (by kernel_rfl) hk340 rfl) ?_; clear h336
        rintro _ w356 a355 ⟨hk357, hz358, hg359⟩ h355
        have hk357' : Blk w356 N338 34 #[.int .i64 ((ofE s).1.1), .int .i64 ((ofE s).1.2.1), u321, .int .u64 ((ofE s).1.2.2.2)] := hk357; clear hk357
        have hB360 := hb_at hB346 hg359 (by omega)
        have hz361 := hB360.size
        have hz362 := hg359.size
        have hk363 := hk349.kept hg359 (by simp; omega)
        have hr364 := row_kept_at hr350 hg359 (ha343)
        have hk365 := hk351.kept hg359 (by simp; omega)
        have hr366 := row_kept_at hr352 hg359 (ha344)
        have hk367 := hk353.kept hg359 (by simp; omega)
        have hr368 := row_kept_at hr354 hg359 (ha345)
        refine pl_val (v := .int .i64 ((ofE s).2)) h355 rfl rfl rfl (by kernel_rfl) (by kernel_rfl) (by kernel_rfl) (fun a369 h369 => ?_); clear h355
        refine pl_nil ?_
        refine co_then ?_
        refine co_seq ?_
        refine co_seq ?_
        refine co_reg ?_
        refine pl_val (v := .agg #[.int .i64 ((ofE s).1.1), .int .i64 ((ofE s).1.2.1), u276, .int .u64 ((ofE s).1.2.2.2)]) h369 rfl rfl rfl (by kernel_rfl) (by kernel_rfl) (rn_loadN rfl rfl Try.underlying34 rfl (by kernel_rfl) hk367.all) (fun a370 h370 => ?_); clear h369
        refine pl_val (v := .agg #[.int .i64 ((ofE s).1.1), .int .i64 ((ofE s).1.2.1), u321, .int .u64 ((ofE s).1.2.2.2)]) h370 rfl rfl rfl (by kernel_rfl) (by kernel_rfl) (rn_loadN rfl rfl Try.underlying34 rfl (by kernel_rfl) hk357'.all) (fun a371 h371 => ?_); clear h370
        refine pl_want h371 rfl rfl rfl (op_call (args := #[.agg #[.int .i64 ((ofE s).1.1), .int .i64 ((ofE s).1.2.1), u276, .int .u64 ((ofE s).1.2.2.2)], .agg #[.int .i64 ((ofE s).1.1), .int .i64 ((ofE s).1.2.1), u321, .int .u64 ((ofE s).1.2.2.2)]]) (R := fun res xw => res = .bool (sameE ((ofE s).1.1) ((ofE s).1.2.1) ((ofE s).1.2.2.1) ((ofE s).1.2.2.2) ((ofE s).1.1) ((ofE s).1.2.1) ((ofE s).1.2.2.1) ((ofE s).1.2.2.2)) ∧ Below w356.heap.size w356 xw) rfl rfl rfl (by kernel_rfl) (by kernel_rfl) (Try.call24 _ _) (ritemSame_any ((ofE s).1.1) ((ofE s).1.2.1) u276 ((ofE s).1.2.2.1) ((ofE s).1.2.2.2) ((ofE s).1.1) ((ofE s).1.2.1) u321 ((ofE s).1.2.2.1) ((ofE s).1.2.2.2) w356 (row_sl hr366 opE_len) (row_sl hr368 opE_len)) (by rintro e x ⟨rfl, hb374⟩; exact ⟨_, rfl, ⟨rfl, hb374⟩⟩)) ?_; clear h371
        rintro _ w373 a372 ⟨rfl, hb374⟩ h372
        have hB375 := hb_call hB360 hb374
        have hz376 := hB375.size
        have hz377 := hb374.size
        have hk378 := hk363.below hb374
        have hr379 := row_kept_new hr364 (below_grown hb374)
        have hk380 := hk365.below hb374
        have hr381 := row_kept_new hr366 (below_grown hb374)
        have hk382 := hk367.below hb374
        have hr383 := row_kept_new hr368 (below_grown hb374)
        have hk384 := hk357'.below hb374
        have hc385 : (sameE ((ofE s).1.1) ((ofE s).1.2.1) ((ofE s).1.2.2.1) ((ofE s).1.2.2.2) ((ofE s).1.1) ((ofE s).1.2.1) ((ofE s).1.2.2.1) ((ofE s).1.2.2.2)) = true := sameE_refl _ _ _ _
        rw [hc385] at h372; clear hc385
        refine pl_val (v := .bool false) h372 rfl rfl rfl (by kernel_rfl) (by kernel_rfl) (by kernel_rfl) (fun a386 h386 => ?_); clear h372
        refine pl_val (v := .bool false) h386 rfl rfl rfl (by kernel_rfl) (by kernel_rfl) (by kernel_rfl) (fun a387 h387 => ?_); clear h386
        refine pl_val (v := .int .i64 ((ofE s).2)) h387 rfl rfl rfl (by kernel_rfl) (by kernel_rfl) (by kernel_rfl) (fun a388 h388 => ?_); clear h387
        refine pl_val (v := .int .i64 ((ofE s).2)) h388 rfl rfl rfl (by kernel_rfl) (by kernel_rfl) (by kernel_rfl) (fun a389 h389 => ?_); clear h388
        refine pl_val (v := .bool (((ofE s).2) != ((ofE s).2))) h389 rfl rfl rfl (by kernel_rfl) (by kernel_rfl) (by kernel_rfl) (fun a390 h390 => ?_); clear h389
        refine pl_val (v := .bool (((ofE s).2) != ((ofE s).2))) h390 rfl rfl rfl (by kernel_rfl) (by kernel_rfl) (by kernel_rfl) (fun a391 h391 => ?_); clear h390
        refine pl_nil ?_
        refine co_then ?_
        have hc392 : (((ofE s).2) != ((ofE s).2)) = false := by first | (simp; done) | (simp; omega)
        rw [hc392] at h391; clear hc392
        refine co_false h391 rfl ?_
        refine wp_skip ?_
        refine co_then ?_
        refine co_seq ?_
        refine co_reg ?_
        refine pl_val (v := .agg #[.int .i64 ((ofE s).1.1), .int .i64 ((ofE s).1.2.1), u276, .int .u64 ((ofE s).1.2.2.2)]) h391 rfl rfl rfl (by kernel_rfl) (by kernel_rfl) (rn_loadN rfl rfl Try.underlying34 rfl (by kernel_rfl) hk382.all) (fun a393 h393 => ?_); clear h391
        refine pl_want h393 rfl rfl rfl (op_call (args := #[.agg #[.int .i64 ((ofE s).1.1), .int .i64 ((ofE s).1.2.1), u276, .int .u64 ((ofE s).1.2.2.2)]]) (R := fun res xw => res = .tuple #[.string (putE ((ofE s).1.1) ((ofE s).1.2.1) ((ofE s).1.2.2.1) ((ofE s).1.2.2.2)), .int .i64 (chkB ((ofE s).1.1) ((ofE s).1.2.1) ((ofE s).1.2.2.1))] ∧ Below w373.heap.size w373 xw) rfl rfl rfl (by kernel_rfl) (by kernel_rfl) (Try.call19 _ _) (itemPut_any ((ofE s).1.1) ((ofE s).1.2.1) u276 ((ofE s).1.2.2.1) ((ofE s).1.2.2.2) w373 (row_sl hr381 opE_len) (ofE_ts s)) (by rintro e x ⟨rfl, hb396⟩; exact ⟨_, rfl, ⟨rfl, hb396⟩⟩)) ?_; clear h393
        rintro _ w395 a394 ⟨rfl, hb396⟩ h394
        have hB397 := hb_call hB375 hb396
        have hz398 := hB397.size
        have hz399 := hb396.size
        have hk400 := hk378.below hb396
        have hr401 := row_kept_new hr379 (below_grown hb396)
        have hk402 := hk380.below hb396
        have hr403 := row_kept_new hr381 (below_grown hb396)
        have hk404 := hk382.below hb396
        have hr405 := row_kept_new hr383 (below_grown hb396)
        have hk406 := hk384.below hb396
        refine pl_val (v := .tuple #[.string (putE ((ofE s).1.1) ((ofE s).1.2.1) ((ofE s).1.2.2.1) ((ofE s).1.2.2.2)), .int .i64 (chkB ((ofE s).1.1) ((ofE s).1.2.1) ((ofE s).1.2.2.1))]) h394 rfl rfl rfl (by kernel_rfl) (by kernel_rfl) (by kernel_rfl) (fun a407 h407 => ?_); clear h394
        refine pl_val (v := .string (putE ((ofE s).1.1) ((ofE s).1.2.1) ((ofE s).1.2.2.1) ((ofE s).1.2.2.2))) h407 rfl rfl rfl (by kernel_rfl) (by kernel_rfl) (by kernel_rfl) (fun a408 h408 => ?_); clear h407
        refine pl_val (v := .int .i64 (chkB ((ofE s).1.1) ((ofE s).1.2.1) ((ofE s).1.2.2.1))) h408 rfl rfl rfl (by kernel_rfl) (by kernel_rfl) (by kernel_rfl) (fun a409 h409 => ?_); clear h408
        refine pl_val (v := .string (putE ((ofE s).1.1) ((ofE s).1.2.1) ((ofE s).1.2.2.1) ((ofE s).1.2.2.2))) h409 rfl rfl rfl (by kernel_rfl) (by kernel_rfl) (by kernel_rfl) (fun a410 h410 => ?_); clear h409
        refine pl_val (v := .int .i64 (chkB ((ofE s).1.1) ((ofE s).1.2.1) ((ofE s).1.2.2.1))) h410 rfl rfl rfl (by kernel_rfl) (by kernel_rfl) (by kernel_rfl) (fun a411 h411 => ?_); clear h410
        refine pl_nil ?_
        refine co_then ?_
        refine co_seq ?_
        refine co_reg ?_
        refine pl_val (v := .int .i64 ((ofE s).2)) h411 rfl rfl rfl (by kernel_rfl) (by kernel_rfl) (by kernel_rfl) (fun a412 h412 => ?_); clear h411
        refine pl_val (v := .bool (((ofE s).2) != 0)) h412 rfl rfl rfl (by kernel_rfl) (by kernel_rfl) (by kernel_rfl) (fun a413 h413 => ?_); clear h412
        refine pl_val (v := .bool (((ofE s).2) != 0)) h413 rfl rfl rfl (by kernel_rfl) (by kernel_rfl) (by kernel_rfl) (fun a414 h414 => ?_); clear h413
        cases hc415 : (((ofE s).2) != 0)
        ·
          rw [hc415] at h414
          have hp416 : ¬ (((ofE s).2) ≠ 0) := by first | simpa using hc415 | simpa [and_assoc] using hc415
          clear hc415
          refine pl_val (v := .string (putE ((ofE s).1.1) ((ofE s).1.2.1) ((ofE s).1.2.2.1) ((ofE s).1.2.2.2))) h414 rfl rfl rfl (by kernel_rfl) (by kernel_rfl) (by kernel_rfl) (fun a417 h417 => ?_); clear h414
          refine pl_val (v := .string s) h417 rfl rfl rfl (by kernel_rfl) (by kernel_rfl) (by kernel_rfl) (fun a418 h418 => ?_); clear h417
          refine pl_val (v := .bool ((putE ((ofE s).1.1) ((ofE s).1.2.1) ((ofE s).1.2.2.1) ((ofE s).1.2.2.2) : ByteArray).toList == s.toList)) h418 rfl rfl rfl (by kernel_rfl) (by kernel_rfl) (by kernel_rfl) (fun a419 h419 => ?_); clear h418
          refine pl_val (v := .bool ((putE ((ofE s).1.1) ((ofE s).1.2.1) ((ofE s).1.2.2.1) ((ofE s).1.2.2.2) : ByteArray).toList == s.toList)) h419 rfl rfl rfl (by kernel_rfl) (by kernel_rfl) (by kernel_rfl) (fun a420 h420 => ?_); clear h419
          have hc421 : ((putE ((ofE s).1.1) ((ofE s).1.2.1) ((ofE s).1.2.2.1) ((ofE s).1.2.2.2) : ByteArray).toList == s.toList) = true := by rw [(backE (s := s) (by omega)).1]; simp
          rw [hc421] at h420; clear hc421
          refine pl_val (v := .int .i64 (chkB ((ofE s).1.1) ((ofE s).1.2.1) ((ofE s).1.2.2.1))) h420 rfl rfl rfl (by kernel_rfl) (by kernel_rfl) (by kernel_rfl) (fun a422 h422 => ?_); clear h420
          refine pl_val (v := .bool (chkB ((ofE s).1.1) ((ofE s).1.2.1) ((ofE s).1.2.2.1) == 0)) h422 rfl rfl rfl (by kernel_rfl) (by kernel_rfl) (by kernel_rfl) (fun a423 h423 => ?_); clear h422
          refine pl_val (v := .bool (chkB ((ofE s).1.1) ((ofE s).1.2.1) ((ofE s).1.2.2.1) == 0)) h423 rfl rfl rfl (by kernel_rfl) (by kernel_rfl) (by kernel_rfl) (fun a424 h424 => ?_); clear h423
          refine pl_val (v := .bool (chkB ((ofE s).1.1) ((ofE s).1.2.1) ((ofE s).1.2.2.1) == 0)) h424 rfl rfl rfl (by kernel_rfl) (by kernel_rfl) (by kernel_rfl) (fun a425 h425 => ?_); clear h424
          refine pl_val (v := .bool (chkB ((ofE s).1.1) ((ofE s).1.2.1) ((ofE s).1.2.2.1) == 0)) h425 rfl rfl rfl (by kernel_rfl) (by kernel_rfl) (by kernel_rfl) (fun a426 h426 => ?_); clear h425
          have hc427 : (chkB ((ofE s).1.1) ((ofE s).1.2.1) ((ofE s).1.2.2.1) == 0) = true := by first | (simp; done) | (simp; omega)
          rw [hc427] at h426; clear hc427
          refine pl_want h426 rfl rfl rfl (op_call (args := #[]) (R := fun res xw => res = .bool true ∧ Below w395.heap.size w395 xw) rfl rfl rfl (by kernel_rfl) (by kernel_rfl) (Try.call18 _ _) (awake08_any  w395 ) (by rintro e x ⟨rfl, hb430⟩; exact ⟨_, rfl, ⟨rfl, hb430⟩⟩)) ?_; clear h426
          rintro _ w429 a428 ⟨rfl, hb430⟩ h428
          have hB431 := hb_call hB397 hb430
          have hz432 := hB431.size
          have hz433 := hb430.size
          have hk434 := hk400.below hb430
          have hr435 := row_kept_new hr401 (below_grown hb430)
          have hk436 := hk402.below hb430
          have hr437 := row_kept_new hr403 (below_grown hb430)
          have hk438 := hk404.below hb430
          have hr439 := row_kept_new hr405 (below_grown hb430)
          have hk440 := hk406.below hb430
          refine pl_val (v := .bool true) h428 rfl rfl rfl (by kernel_rfl) (by kernel_rfl) (by kernel_rfl) (fun a441 h441 => ?_); clear h428
          refine pl_val (v := .bool true) h441 rfl rfl rfl (by kernel_rfl) (by kernel_rfl) (by kernel_rfl) (fun a442 h442 => ?_); clear h441
          refine pl_nil ?_
          refine co_then ?_
          refine wp_ret ?_
          refine co_ret1 h442 rfl rfl ?_
          exact ⟨rfl, hB431⟩
        ·
          rw [hc415] at h414
          have hp443 : ((ofE s).2) ≠ 0 := by first | simpa using hc415 | simpa [and_assoc] using hc415
          clear hc415
          refine pl_skip h414 rfl rfl rfl (fun a444 h444 => ?_); clear h414
          refine pl_skip h444 rfl rfl rfl (fun a445 h445 => ?_); clear h444
          refine pl_skip h445 rfl rfl rfl (fun a446 h446 => ?_); clear h445
          refine pl_skip h446 rfl rfl rfl (fun a447 h447 => ?_); clear h446
          refine pl_skip h447 rfl rfl rfl (fun a448 h448 => ?_); clear h447
          refine pl_skip h448 rfl rfl rfl (fun a449 h449 => ?_); clear h448
          refine pl_skip h449 rfl rfl rfl (fun a450 h450 => ?_); clear h449
          refine pl_val (v := .bool true) h450 rfl rfl rfl (by kernel_rfl) (by kernel_rfl) (by kernel_rfl) (fun a451 h451 => ?_); clear h450
          refine pl_val (v := .bool true) h451 rfl rfl rfl (by kernel_rfl) (by kernel_rfl) (by kernel_rfl) (fun a452 h452 => ?_); clear h451
          refine pl_want h452 rfl rfl rfl (op_call (args := #[]) (R := fun res xw => res = .bool true ∧ Below w395.heap.size w395 xw) rfl rfl rfl (by kernel_rfl) (by kernel_rfl) (Try.call18 _ _) (awake08_any  w395 ) (by rintro e x ⟨rfl, hb455⟩; exact ⟨_, rfl, ⟨rfl, hb455⟩⟩)) ?_; clear h452
          rintro _ w454 a453 ⟨rfl, hb455⟩ h453
          have hB456 := hb_call hB397 hb455
          have hz457 := hB456.size
          have hz458 := hb455.size
          have hk459 := hk400.below hb455
          have hr460 := row_kept_new hr401 (below_grown hb455)
          have hk461 := hk402.below hb455
          have hr462 := row_kept_new hr403 (below_grown hb455)
          have hk463 := hk404.below hb455
          have hr464 := row_kept_new hr405 (below_grown hb455)
          have hk465 := hk406.below hb455
          refine pl_val (v := .bool true) h453 rfl rfl rfl (by kernel_rfl) (by kernel_rfl) (by kernel_rfl) (fun a466 h466 => ?_); clear h453
          refine pl_val (v := .bool true) h466 rfl rfl rfl (by kernel_rfl) (by kernel_rfl) (by kernel_rfl) (fun a467 h467 => ?_); clear h466
          refine pl_nil ?_
          refine co_then ?_
          refine wp_ret ?_
          refine co_ret1 h467 rfl rfl ?_
          exact ⟨rfl, hB456⟩
    ·
      rw [hc24] at h23
      have hp468 : ((s.size : Nat) : Int) > 2000 := of_decide_eq_true hc24
      clear hc24
      refine co_true h23 rfl ?_
      refine co_seq ?_
      refine co_reg ?_
      refine pl_want h23 rfl rfl rfl (op_call (args := #[]) (R := fun res xw => res = .bool true ∧ Below w2.heap.size w2 xw) rfl rfl rfl (by kernel_rfl) (by kernel_rfl) (Try.call18 _ _) (awake08_any  w2 ) (by rintro e x ⟨rfl, hb471⟩; exact ⟨_, rfl, ⟨rfl, hb471⟩⟩)) ?_; clear h23
      rintro _ w470 a469 ⟨rfl, hb471⟩ h469
      have hB472 := hb_call hB8 hb471
      have hz473 := hB472.size
      have hz474 := hb471.size
      have hk475 := hk5.below hb471
      refine pl_val (v := .bool true) h469 rfl rfl rfl (by kernel_rfl) (by kernel_rfl) (by kernel_rfl) (fun a476 h476 => ?_); clear h469
      refine pl_nil ?_
      refine co_then ?_
      refine wp_ret ?_
      refine co_thenR ?_
      refine co_ret1 h476 rfl rfl ?_
      exact ⟨rfl, hB472⟩
  ·
    rw [hc18] at h17
    have hp477 : ((l.length : Nat) : Int) > 20 := of_decide_eq_true hc18
    clear hc18
    refine pl_skip h17 rfl rfl rfl (fun a478 h478 => ?_); clear h17
    refine pl_skip h478 rfl rfl rfl (fun a479 h479 => ?_); clear h478
    refine pl_skip h479 rfl rfl rfl (fun a480 h480 => ?_); clear h479
    refine pl_val (v := .bool true) h480 rfl rfl rfl (by kernel_rfl) (by kernel_rfl) (by kernel_rfl) (fun a481 h481 => ?_); clear h480
    refine pl_nil ?_
    refine co_then ?_
    refine co_true h481 rfl ?_
    refine co_seq ?_
    refine co_reg ?_
    refine pl_want h481 rfl rfl rfl (op_call (args := #[]) (R := fun res xw => res = .bool true ∧ Below w2.heap.size w2 xw) rfl rfl rfl (by kernel_rfl) (by kernel_rfl) (Try.call18 _ _) (awake08_any  w2 ) (by rintro e x ⟨rfl, hb484⟩; exact ⟨_, rfl, ⟨rfl, hb484⟩⟩)) ?_; clear h481
    rintro _ w483 a482 ⟨rfl, hb484⟩ h482
    have hB485 := hb_call hB8 hb484
    have hz486 := hB485.size
    have hz487 := hb484.size
    have hk488 := hk5.below hb484
    refine pl_val (v := .bool true) h482 rfl rfl rfl (by kernel_rfl) (by kernel_rfl) (by kernel_rfl) (fun a489 h489 => ?_); clear h482
    refine pl_nil ?_
    refine co_then ?_
    refine wp_ret ?_
    refine co_thenR ?_
    refine co_ret1 h489 rfl rfl ?_
    exact ⟨rfl, hB485⟩
end Go.Proofs.Yteioaaegooebpaa
