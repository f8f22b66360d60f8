/- catenalaw08: awake, ItemPuts. Conditions: none. -/
import Derived.Test.YteioaaegooebpaaItemB
namespace Go.Proofs.Yteioaaegooebpaa
open Go.RowKit Go.PlainAid
set_option linter.unusedVariables false


theorem EntOkS.below {w w' : World} {e : EntT} (h : EntOkS w e) (hb : Below w.heap.size w w') : EntOkS w' e := ⟨h.1.below hb, h.2⟩
theorem aw8_ok1 (w : World) : ∀ z ∈ ([(EntT.mk 0 1 (.slice none 0 0) [] 3)] : List EntT), EntOk w z := by
  intro z hz; simp at hz; subst hz; exact ⟨sl_nil _, by simp, by decide, by decide, rfl, rfl⟩
theorem aw8_ok2 (w : World) : ∀ z ∈ ([(EntT.mk 0 1 (.slice none 0 0) [] 3), (EntT.mk 0 1 (.slice none 0 0) [] 3)] : List EntT), EntOk w z := by
  intro z hz; simp at hz; subst hz; exact ⟨sl_nil _, by simp, by decide, by decide, rfl, rfl⟩
theorem aw8_put : putE 0 1 [] 3 = ⟨#[3, 3, 0, 1, 0]⟩ ∧ chkB 0 1 [] = 0 := by
  have h : chkB 0 1 [] = 0 := by decide
  exact ⟨by rw [putE_ok h]; unfold putEL; rw [putB_ok h]; decide, h⟩
theorem tw_no {l : List EntT} {k : Nat} {z : EntT} {c r : Int} (h : twN (l.take k) c r = 0) (hz : l[k]? = some z) (hn : ¬ (z.client = c ∧ z.req = r)) : twN (l.take (k + 1)) c r = 0 := by
  rw [takeE hz, twN_snoc, if_neg hn, h]; rfl
theorem tw_yes {l : List EntT} {k i : Nat} {z : EntT} {c r : Int} (hz : l[k]? = some z) (hk : k < i) (hy : z.client = c ∧ z.req = r) : 0 < twN (l.take i) c r := by
  have h1 : z ∈ l.take i := List.mem_of_getElem? (by rw [List.getElem?_take, if_pos hk]; exact hz)
  have h2 : 0 < (l.take i).countP (fun e => e.client == c && e.req == r) := List.countP_pos_iff.2 ⟨z, h1, by simp [hy.1, hy.2]⟩
  unfold twN; omega
theorem tw_end {l : List EntT} {k i : Nat} {c r : Int} (h : twN (l.take k) c r = 0) (hk : k = i) : ¬ 0 < twN (l.take i) c r := by subst hk; omega
/-- A beginning of a right list. -/
theorem rg_take : ∀ (l pre : List EntT) (k : Nat), rgF pre l = 0 → rgF pre (l.take k) = 0
  | [], _, _, _ => by simp [rgF]
  | e :: r, pre, 0, _ => by simp [rgF]
  | e :: r, pre, k + 1, h => by
    rw [List.take_succ_cons]
    unfold rgF at h ⊢
    split at h
    · rename_i h1; rw [if_pos h1]; exact h
    · rename_i h1
      rw [if_neg h1]
      split at h
      · omega
      · rename_i h2
        rw [if_neg h2]
        split at h
        · omega
        · rename_i h3
          rw [if_neg h3]; exact rg_take r (pre ++ [e]) k h
theorem right_take {l : List EntT} (k : Nat) (h : rightI l = 0) : rightI (l.take k) = 0 := rg_take l [] k h
theorem rg_bads : ∀ (l pre : List EntT), rgF pre l = 0 → ∀ (i : Nat) (y : EntT), l[i]? = some y → badT (pre ++ l.take i) y = false
  | [], _, _, i, y, hy => by simp at hy
  | e :: r, pre, h, i, y, hy => by
    unfold rgF at h
    split at h
    · rename_i h1; exact absurd h h1
    split at h
    · omega
    split at h
    · omega
    rename_i h3
    match i, hy with
    | 0, hy => simp at hy; subst hy; simpa using h3
    | i + 1, hy =>
      have := rg_bads r (pre ++ [e]) h i y (by simpa using hy)
      simpa using this
theorem stN_take (l : List EntT) (k : Nat) : stN (l.take k) = min k (stN l) := by
  induction l generalizing k with
  | nil => simp [stN]
  | cons e r ih =>
    cases k with
    | zero => simp [stN]
    | succ k =>
      have ih := ih k
      unfold stN at ih ⊢
      rw [List.take_succ_cons, List.takeWhile_cons, List.takeWhile_cons]
      split
      · simp only [List.length_cons]; omega
      · simp
theorem st_ne : ∀ (l : List EntT) (i : Nat) (y : EntT), i < stN l → l[i]? = some y → y.ts ≠ 0
  | [], i, y, h, hy => by simp at hy
  | e :: r, i, y, h, hy => by
    unfold stN at h
    rw [List.takeWhile_cons] at h
    split at h
    · rename_i he
      match i, hy with
      | 0, hy => simp at hy; subst hy; simpa using he
      | i + 1, hy => exact st_ne r i y (by unfold stN; simpa using h) (by simpa using hy)
    · simp at h
theorem right_up {l : List EntT} (h : rightI l = 0) : ∀ (d i : Nat) (y z : EntT), i + d < stN l → l[i]? = some y → l[i + d]? = some z → y.ts ≤ z.ts
  | 0, i, y, z, _, hy, hz => by rw [Nat.add_zero, hy] at hz; cases hz; exact Int.le_refl _
  | d + 1, i, y, z, hi, hy, hz => by
    have hlt : i + d < l.length := by have := stN_le l; omega
    have hm : l[i + d]? = some l[i + d] := List.getElem?_eq_getElem hlt
    have ih := right_up h d i y _ (by omega) hy hm
    have hb := rg_bads l [] h (i + (d + 1)) z hz
    rw [List.nil_append, bad_at (j := i + d) (by omega) (by omega) hm] at hb
    have hb := of_decide_eq_false hb
    have hne := st_ne l _ z hi hz
    omega
theorem last_take {l : List EntT} (k : Nat) (h : rightI l = 0) (h0 : ∀ z ∈ l, 0 ≤ z.ts) : lastT (l.take k) ≤ lastT l := by
  have hl0 : 0 ≤ lastT l := by
    unfold lastT
    split
    · exact Int.le_refl _
    · rename_i hne
      have := stN_le l
      have hm : l[stN l - 1]? = some l[stN l - 1] := List.getElem?_eq_getElem (by omega)
      rw [List.getD_eq_getElem?_getD, hm]; exact h0 _ (List.getElem_mem _)
  by_cases hk : stN (l.take k) = 0
  · have : lastT (l.take k) = 0 := by unfold lastT; rw [if_pos hk]
    omega
  · have hst := stN_take l k
    have := stN_le l
    have hm : l[stN l - 1]? = some l[stN l - 1] := List.getElem?_eq_getElem (by omega)
    have hn : l[stN (l.take k) - 1]? = some l[stN (l.take k) - 1] := List.getElem?_eq_getElem (by omega)
    have hn' : (l.take k)[stN (l.take k) - 1]? = some l[stN (l.take k) - 1] := by rw [List.getElem?_take, if_pos (by omega)]; exact hn
    have e1 := lastT_at (l := l) rfl (by omega) hm
    have e2 := lastT_at (l := l.take k) rfl (by omega) hn'
    rw [← e1, ← e2]
    obtain ⟨d, hd⟩ : ∃ d, stN l - 1 = stN (l.take k) - 1 + d := ⟨stN l - 1 - (stN (l.take k) - 1), by omega⟩
    exact right_up h d _ _ _ (by omega) hn (by rw [← hd]; exact hm)
theorem muchN_len {w : World} {l : List EntT} (h : ∀ z ∈ l, EntOkS w z) : (l.length : Int) ≤ muchN l := by
  have := sumN_takes h 200 (Nat.le_refl _); unfold muchN; omega

set_option maxRecDepth 100000 in
theorem awake08_any  (w : World)  :
    Calls Try.prog 18 #[] w fun e w' => e = .returned (.bool true) ∧ Below w.heap.size w w' := by
  have hB0 := Below.refl w.heap.size w
  refine co_enter (n := 36) Try.func18 rfl rfl rfl [] rfl (fun a h0 => ?_)
  refine co_seq ?_
  refine co_reg ?_
  refine pl_val (v := .bool false) h0 rfl rfl rfl (by kernel_rfl) (by kernel_rfl) (by kernel_rfl) (fun a1 h1 => ?_); clear h0
  refine pl_nil ?_
  refine co_then ?_
  refine co_seq ?_
  refine co_reg ?_
  refine pl_val (v := .agg #[.int .i64 0, .int .i64 1, .slice none 0 0]) h1 rfl rfl rfl (by kernel_rfl) (by kernel_rfl) (by kernel_rfl) (fun a2 h2 => ?_); clear h1
  refine pl_val (v := .agg #[.int .i64 0, .int .i64 1, .slice none 0 0, .int .u64 3]) h2 rfl rfl rfl (by kernel_rfl) (by kernel_rfl) (by kernel_rfl) (fun a3 h3 => ?_); clear h2
  refine pl_want h3 rfl rfl rfl (op_new (v := fun N => .pointer (some ⟨N, 0, none⟩)) (T := 34) (cs := #[.int .i64 0, .int .i64 0, .slice none 0 0, .int .u64 0]) (by kernel_rfl) (by kernel_rfl) (by kernel_rfl)) ?_; clear h3
  rintro _ w5 a4 ⟨N6, rfl, hN9, hz10, hk8, hg7⟩ h4
  have hB11 := hb_new hB0 hg7
  have hz12 := hB11.size
  have hz13 := hg7.size
  try dsimp only at h4
  refine pl_doW h4 rfl rfl (op_storeN rfl rfl rfl (all_cons rfl (all_cons rfl (all_cons rfl (all_cons rfl all_nil)))) (by kernel_rfl) hk8 rfl) ?_; clear h4
  rintro _ w15 a14 ⟨hk16, hz17, hg18⟩ h14
  have hk16' : Blk w15 N6 34 #[.int .i64 0, .int .i64 1, .slice none 0 0, .int .u64 3] := hk16; clear hk16
  have hB19 := hb_at hB11 hg18 (by omega)
  have hz20 := hB19.size
  have hz21 := hg18.size
  refine pl_nil ?_
  refine co_then ?_
  refine co_seq ?_
  refine co_reg ?_
  refine pl_val (v := .agg #[.int .i64 0, .int .i64 1, .slice none 0 0, .int .u64 3]) h14 rfl rfl rfl (by kernel_rfl) (by kernel_rfl) (rn_loadN rfl rfl Try.underlying34 rfl (by kernel_rfl) hk16'.all) (fun a22 h22 => ?_); clear h14
  refine pl_want h22 rfl rfl rfl (op_call (args := #[.agg #[.int .i64 0, .int .i64 1, .slice none 0 0, .int .u64 3]]) (R := fun res xw => res = .tuple #[.string (putE 0 1 ([]) 3), .int .i64 (chkB 0 1 ([]))] ∧ Below w15.heap.size w15 xw) rfl rfl rfl (by kernel_rfl) (by kernel_rfl) (Try.call19 _ _) (itemPut_any 0 1 (.slice none 0 0) ([]) 3 w15 (sl_nil _) (by first | omega | (simp; done) | (simp; omega))) (by rintro e x ⟨rfl, hb25⟩; exact ⟨_, rfl, ⟨rfl, hb25⟩⟩)) ?_; clear h22
  rintro _ w24 a23 ⟨rfl, hb25⟩ h23
  have hB26 := hb_call hB19 hb25
  have hz27 := hB26.size
  have hz28 := hb25.size
  have hk29 := hk16'.below hb25
  refine pl_val (v := .tuple #[.string (putE 0 1 ([]) 3), .int .i64 (chkB 0 1 ([]))]) h23 rfl rfl rfl (by kernel_rfl) (by kernel_rfl) (by kernel_rfl) (fun a30 h30 => ?_); clear h23
  refine pl_val (v := .string (putE 0 1 ([]) 3)) h30 rfl rfl rfl (by kernel_rfl) (by kernel_rfl) (by kernel_rfl) (fun a31 h31 => ?_); clear h30
  refine pl_val (v := .int .i64 (chkB 0 1 ([]))) h31 rfl rfl rfl (by kernel_rfl) (by kernel_rfl) (by kernel_rfl) (fun a32 h32 => ?_); clear h31
  refine pl_val (v := .string (putE 0 1 ([]) 3)) h32 rfl rfl rfl (by kernel_rfl) (by kernel_rfl) (by kernel_rfl) (fun a33 h33 => ?_); clear h32
  refine pl_val (v := .int .i64 (chkB 0 1 ([]))) h33 rfl rfl rfl (by kernel_rfl) (by kernel_rfl) (by kernel_rfl) (fun a34 h34 => ?_); clear h33
  refine pl_nil ?_
  refine co_then ?_
  refine co_seq ?_
  refine co_reg ?_
  refine pl_val (v := .string (putE 0 1 ([]) 3)) h34 rfl rfl rfl (by kernel_rfl) (by kernel_rfl) (by kernel_rfl) (fun a35 h35 => ?_); clear h34
  refine pl_val (v := .bool ((putE 0 1 ([]) 3 : ByteArray).toList == (⟨#[3, 3, 0, 1, 0]⟩ : ByteArray).toList)) h35 rfl rfl rfl (by kernel_rfl) (by kernel_rfl) (by kernel_rfl) (fun a36 h36 => ?_); clear h35
  refine pl_val (v := .bool ((putE 0 1 ([]) 3 : ByteArray).toList == (⟨#[3, 3, 0, 1, 0]⟩ : ByteArray).toList)) h36 rfl rfl rfl (by kernel_rfl) (by kernel_rfl) (by kernel_rfl) (fun a37 h37 => ?_); clear h36
  have hc38 : ((putE 0 1 ([]) 3 : ByteArray).toList == (⟨#[3, 3, 0, 1, 0]⟩ : ByteArray).toList) = true := by rw [aw8_put.1]; simp
  rw [hc38] at h37; clear hc38
  refine pl_val (v := .int .i64 (chkB 0 1 ([]))) h37 rfl rfl rfl (by kernel_rfl) (by kernel_rfl) (by kernel_rfl) (fun a39 h39 => ?_); clear h37
  refine pl_val (v := .bool (chkB 0 1 ([]) == 0)) h39 rfl rfl rfl (by kernel_rfl) (by kernel_rfl) (by kernel_rfl) (fun a40 h40 => ?_); clear h39
  refine pl_val (v := .bool (chkB 0 1 ([]) == 0)) h40 rfl rfl rfl (by kernel_rfl) (by kernel_rfl) (by kernel_rfl) (fun a41 h41 => ?_); clear h40
  refine pl_val (v := .bool (chkB 0 1 ([]) == 0)) h41 rfl rfl rfl (by kernel_rfl) (by kernel_rfl) (by kernel_rfl) (fun a42 h42 => ?_); clear h41
  have hc43 : (chkB 0 1 ([]) == 0) = true := by simp [aw8_put.2]
  rw [hc43] at h42; clear hc43
  refine pl_val (v := .agg #[.int .i64 0, .int .i64 1, .slice none 0 0, .int .u64 3]) h42 rfl rfl rfl (by kernel_rfl) (by kernel_rfl) (rn_loadN rfl rfl Try.underlying34 rfl (by kernel_rfl) hk29.all) (fun a44 h44 => ?_); clear h42
  refine pl_val (v := .agg #[.int .i64 0, .int .i64 1, .slice none 0 0]) h44 rfl rfl rfl (by kernel_rfl) (by kernel_rfl) (by kernel_rfl) (fun a45 h45 => ?_); clear h44
  refine pl_val (v := .agg #[.int .i64 0, .int .i64 1, .slice none 0 0, .int .u64 0]) h45 rfl rfl rfl (by kernel_rfl) (by kernel_rfl) (by kernel_rfl) (fun a46 h46 => ?_); clear h45
  refine pl_want h46 rfl rfl rfl (op_call (args := #[.agg #[.int .i64 0, .int .i64 1, .slice none 0 0, .int .u64 3], .agg #[.int .i64 0, .int .i64 1, .slice none 0 0, .int .u64 0]]) (R := fun res xw => res = .bool ((0 == (0 : Int)) && (1 == (1 : Int))) ∧ Below w24.heap.size w24 xw) rfl rfl rfl (by kernel_rfl) (by kernel_rfl) (Try.call25 _ _) (itemTwins_any 0 1 (.slice none 0 0) 3 0 1 (.slice none 0 0) 0 w24 ) (by rintro e x ⟨rfl, hb49⟩; exact ⟨_, rfl, ⟨rfl, hb49⟩⟩)) ?_; clear h46
  rintro _ w48 a47 ⟨rfl, hb49⟩ h47
  have hB50 := hb_call hB26 hb49
  have hz51 := hB50.size
  have hz52 := hb49.size
  have hk53 := hk29.below hb49
  refine pl_val (v := .bool ((0 == (0 : Int)) && (1 == (1 : Int)))) h47 rfl rfl rfl (by kernel_rfl) (by kernel_rfl) (by kernel_rfl) (fun a54 h54 => ?_); clear h47
  refine pl_val (v := .bool ((0 == (0 : Int)) && (1 == (1 : Int)))) h54 rfl rfl rfl (by kernel_rfl) (by kernel_rfl) (by kernel_rfl) (fun a55 h55 => ?_); clear h54
  have hc56 : (((0 == (0 : Int)) && (1 == (1 : Int)))) = true := by first | rfl | decide | simp
  rw [hc56] at h55; clear hc56
  refine pl_val (v := .agg #[.int .i64 0, .int .i64 1, .slice none 0 0, .int .u64 3]) h55 rfl rfl rfl (by kernel_rfl) (by kernel_rfl) (rn_loadN rfl rfl Try.underlying34 rfl (by kernel_rfl) hk53.all) (fun a57 h57 => ?_); clear h55
  refine pl_want h57 rfl rfl rfl (op_new (v := fun N => .slice (some ⟨N, 0, none⟩) 1 1) (T := 34) (cs := #[.int .i64 0, .int .i64 1, .slice none 0 0, .int .u64 3]) (by kernel_rfl) (by kernel_rfl) (by kernel_rfl)) ?_; clear h57
  rintro _ w59 a58 ⟨N60, rfl, hN63, hz64, hk62, hg61⟩ h58
  have hB65 := hb_new hB50 hg61
  have hz66 := hB65.size
  have hz67 := hg61.size
  have hk68 := hk53.kept hg61 (by simp)
  try dsimp only at h58
  have hr71 := row_of_cells (enc := entE) (sz := 4) ([(EntT.mk 0 1 (.slice none 0 0) [] 3)] : List EntT) hk62 (Nat.le_refl _) rfl rfl (by unfold maxLen; simp)
  refine pl_want h58 rfl rfl rfl (op_call (args := #[.slice (some ⟨N60, 0, none⟩) 1 1]) (R := fun res xw => res = .int .u64 (lastT ([(EntT.mk 0 1 (.slice none 0 0) [] 3)] : List EntT)) ∧ Below w59.heap.size w59 xw) rfl rfl rfl (by kernel_rfl) (by kernel_rfl) (Try.call34 _ _) (itemLast_any (.slice (some ⟨N60, 0, none⟩) 1 1) ([(EntT.mk 0 1 (.slice none 0 0) [] 3)] : List EntT) w59 (row_sl hr71 entE_len) (aw8_ok1 _)) (by rintro e x ⟨rfl, hb72⟩; exact ⟨_, rfl, ⟨rfl, hb72⟩⟩)) ?_; clear h58
  rintro _ w70 a69 ⟨rfl, hb72⟩ h69
  have hB73 := hb_call hB65 hb72
  have hz74 := hB73.size
  have hz75 := hb72.size
  have hk76 := hk68.below hb72
  have hr77 := row_kept_new hr71 (below_grown hb72)
  refine pl_val (v := .bool (lastT ([(EntT.mk 0 1 (.slice none 0 0) [] 3)] : List EntT) == 3)) h69 rfl rfl rfl (by kernel_rfl) (by kernel_rfl) (by kernel_rfl) (fun a78 h78 => ?_); clear h69
  refine pl_val (v := .bool (lastT ([(EntT.mk 0 1 (.slice none 0 0) [] 3)] : List EntT) == 3)) h78 rfl rfl rfl (by kernel_rfl) (by kernel_rfl) (by kernel_rfl) (fun a79 h79 => ?_); clear h78
  refine pl_val (v := .bool (lastT ([(EntT.mk 0 1 (.slice none 0 0) [] 3)] : List EntT) == 3)) h79 rfl rfl rfl (by kernel_rfl) (by kernel_rfl) (by kernel_rfl) (fun a80 h80 => ?_); clear h79
  have hc81 : (lastT ([(EntT.mk 0 1 (.slice none 0 0) [] 3)] : List EntT) == 3) = true := by first | rfl | decide | simp
  rw [hc81] at h80; clear hc81
  refine pl_val (v := .agg #[.int .i64 0, .int .i64 1, .slice none 0 0, .int .u64 3]) h80 rfl rfl rfl (by kernel_rfl) (by kernel_rfl) (rn_loadN rfl rfl Try.underlying34 rfl (by kernel_rfl) hk76.all) (fun a82 h82 => ?_); clear h80
  refine pl_val (v := .agg #[.int .i64 0, .int .i64 1, .slice none 0 0, .int .u64 3]) h82 rfl rfl rfl (by kernel_rfl) (by kernel_rfl) (rn_loadN rfl rfl Try.underlying34 rfl (by kernel_rfl) hk76.all) (fun a83 h83 => ?_); clear h82
  refine pl_want h83 rfl rfl rfl (op_new (v := fun N => .slice (some ⟨N, 0, none⟩) 2 2) (T := 34) (cs := #[.int .i64 0, .int .i64 1, .slice none 0 0, .int .u64 3, .int .i64 0, .int .i64 1, .slice none 0 0, .int .u64 3]) (by kernel_rfl) (by kernel_rfl) (by kernel_rfl)) ?_; clear h83
  rintro _ w85 a84 ⟨N86, rfl, hN89, hz90, hk88, hg87⟩ h84
  have ha91 := row_fresh hr77 hN89
  have hB92 := hb_new hB73 hg87
  have hz93 := hB92.size
  have hz94 := hg87.size
  have hk95 := hk76.kept hg87 (by simp)
  have hr96 := row_kept_new hr77 hg87
  try dsimp only at h84
  have hr99 := row_of_cells (enc := entE) (sz := 4) ([(EntT.mk 0 1 (.slice none 0 0) [] 3), (EntT.mk 0 1 (.slice none 0 0) [] 3)] : List EntT) hk88 (Nat.le_refl _) rfl rfl (by unfold maxLen; simp)
  refine pl_want h84 rfl rfl rfl (op_call (args := #[.slice (some ⟨N86, 0, none⟩) 2 2]) (R := fun res xw => res = .int .i64 (rightI ([(EntT.mk 0 1 (.slice none 0 0) [] 3), (EntT.mk 0 1 (.slice none 0 0) [] 3)] : List EntT)) ∧ Below w85.heap.size w85 xw) rfl rfl rfl (by kernel_rfl) (by kernel_rfl) (Try.call30 _ _) (itemRight_any (.slice (some ⟨N86, 0, none⟩) 2 2) ([(EntT.mk 0 1 (.slice none 0 0) [] 3), (EntT.mk 0 1 (.slice none 0 0) [] 3)] : List EntT) w85 (row_sl hr99 entE_len) (aw8_ok2 _)) (by rintro e x ⟨rfl, hb100⟩; exact ⟨_, rfl, ⟨rfl, hb100⟩⟩)) ?_; clear h84
  rintro _ w98 a97 ⟨rfl, hb100⟩ h97
  have hB101 := hb_call hB92 hb100
  have hz102 := hB101.size
  have hz103 := hb100.size
  have hk104 := hk95.below hb100
  have hr105 := row_kept_new hr96 (below_grown hb100)
  have hr106 := row_kept_new hr99 (below_grown hb100)
  refine pl_val (v := .bool (rightI ([(EntT.mk 0 1 (.slice none 0 0) [] 3), (EntT.mk 0 1 (.slice none 0 0) [] 3)] : List EntT) == 18)) h97 rfl rfl rfl (by kernel_rfl) (by kernel_rfl) (by kernel_rfl) (fun a107 h107 => ?_); clear h97
  refine pl_val (v := .bool (rightI ([(EntT.mk 0 1 (.slice none 0 0) [] 3), (EntT.mk 0 1 (.slice none 0 0) [] 3)] : List EntT) == 18)) h107 rfl rfl rfl (by kernel_rfl) (by kernel_rfl) (by kernel_rfl) (fun a108 h108 => ?_); clear h107
  refine pl_val (v := .bool (rightI ([(EntT.mk 0 1 (.slice none 0 0) [] 3), (EntT.mk 0 1 (.slice none 0 0) [] 3)] : List EntT) == 18)) h108 rfl rfl rfl (by kernel_rfl) (by kernel_rfl) (by kernel_rfl) (fun a109 h109 => ?_); clear h108
  refine pl_nil ?_
  refine co_then ?_
  refine wp_ret ?_
  refine co_ret1 h109 rfl rfl ?_
  exact ⟨ret_bool (by first | rfl | decide | simp), hB101⟩
set_option maxRecDepth 100000 in
theorem itemPuts_law (c : Int) (r : Int) (v : Value) (l : List OpT) (ts : Int) (c2 : Int) (r2 : Int) (v2 : Value) (l2 : List OpT) (ts2 : Int) (w : World) (hs : SliceOf opE 3 w v l) (hs2 : SliceOf opE 3 w v2 l2) (hts : 0 ≤ ts ∧ ts < 18446744073709551616) (hts2 : 0 ≤ ts2 ∧ ts2 < 18446744073709551616) :
    Calls Try.prog 4 #[.agg #[.int .i64 c, .int .i64 r, v, .int .u64 ts], .agg #[.int .i64 c2, .int .i64 r2, v2, .int .u64 ts2]] w fun e w' => e = .returned (.bool true) ∧ Below w.heap.size w w' := by
  have hB0 := Below.refl w.heap.size w
  have hl_hs := sl_len hs
  have hl_hs2 := sl_len hs2
  refine co_enter (n := 78) Try.func4 rfl rfl rfl [(0, .agg #[.int .i64 c, .int .i64 r, v, .int .u64 ts]), (1, .agg #[.int .i64 c2, .int .i64 r2, v2, .int .u64 ts2])] rfl (fun a h0 => ?_)
  refine co_seq ?_
  refine co_reg ?_
  refine pl_want h0 rfl rfl rfl (op_new (v := fun N => .pointer (some ⟨N, 0, none⟩)) (T := 34) (cs := #[.int .i64 c, .int .i64 r, v, .int .u64 ts]) (by kernel_rfl) (by kernel_rfl) (by kernel_rfl)) ?_; clear h0
  rintro _ w2 a1 ⟨N3, rfl, hN6, hz7, hk5, hg4⟩ h1
  have hB8 := hb_new hB0 hg4
  have hz9 := hB8.size
  have hz10 := hg4.size
  try dsimp only at h1
  refine pl_want h1 rfl rfl rfl (op_new (v := fun N => .pointer (some ⟨N, 0, none⟩)) (T := 34) (cs := #[.int .i64 c2, .int .i64 r2, v2, .int .u64 ts2]) (by kernel_rfl) (by kernel_rfl) (by kernel_rfl)) ?_; clear h1
  rintro _ w12 a11 ⟨N13, rfl, hN16, hz17, hk15, hg14⟩ h11
  have hB18 := hb_new hB8 hg14
  have hz19 := hB18.size
  have hz20 := hg14.size
  have hk21 := hk5.kept hg14 (by simp)
  try dsimp only at h11
  refine pl_val (v := .bool false) h11 rfl rfl rfl (by kernel_rfl) (by kernel_rfl) (by kernel_rfl) (fun a22 h22 => ?_); clear h11
  refine pl_nil ?_
  refine co_then ?_
  refine co_seq ?_
  refine co_seq ?_
  refine co_reg ?_
  refine pl_val (v := .pointer (some ⟨N3, 0, none⟩)) h22 rfl rfl rfl (by kernel_rfl) (by kernel_rfl) (by kernel_rfl) (fun a23 h23 => ?_); clear h22
  refine pl_val (v := .pointer (some ⟨N3, 2, none⟩)) h23 rfl rfl rfl (by kernel_rfl) (by kernel_rfl) (by kernel_rfl) (fun a24 h24 => ?_); clear h23
  refine pl_val (v := v) h24 rfl rfl rfl (by kernel_rfl) (by kernel_rfl) (rn_load1 rfl rfl Try.isAgg23 (hk21.cell rfl)) (fun a25 h25 => ?_); clear h24
  refine pl_val (v := .int .i64 ((l.length : Nat) : Int)) h25 rfl rfl rfl (by kernel_rfl) (by kernel_rfl) (rn_len rfl rfl Try.underlying23 (hs.below hB18)) (fun a26 h26 => ?_); clear h25
  refine pl_val (v := .bool (decide (((l.length : Nat) : Int) > 20))) h26 rfl rfl rfl (by kernel_rfl) (by kernel_rfl) (by kernel_rfl) (fun a27 h27 => ?_); clear h26
  refine pl_val (v := .bool (decide (((l.length : Nat) : Int) > 20))) h27 rfl rfl rfl (by kernel_rfl) (by kernel_rfl) (by kernel_rfl) (fun a28 h28 => ?_); clear h27
  cases hc29 : (decide (((l.length : Nat) : Int) > 20))
  ·
    rw [hc29] at h28
    have hp30 : ¬ (((l.length : Nat) : Int) > 20) := of_decide_eq_false hc29
    clear hc29
    refine pl_val (v := .pointer (some ⟨N13, 0, none⟩)) h28 rfl rfl rfl (by kernel_rfl) (by kernel_rfl) (by kernel_rfl) (fun a31 h31 => ?_); clear h28
    refine pl_val (v := .pointer (some ⟨N13, 2, none⟩)) h31 rfl rfl rfl (by kernel_rfl) (by kernel_rfl) (by kernel_rfl) (fun a32 h32 => ?_); clear h31
    refine pl_val (v := v2) h32 rfl rfl rfl (by kernel_rfl) (by kernel_rfl) (rn_load1 rfl rfl Try.isAgg23 (hk15.cell rfl)) (fun a33 h33 => ?_); clear h32
    refine pl_val (v := .int .i64 ((l2.length : Nat) : Int)) h33 rfl rfl rfl (by kernel_rfl) (by kernel_rfl) (rn_len rfl rfl Try.underlying23 (hs2.below hB18)) (fun a34 h34 => ?_); clear h33
    refine pl_val (v := .bool (decide (((l2.length : Nat) : Int) > 20))) h34 rfl rfl rfl (by kernel_rfl) (by kernel_rfl) (by kernel_rfl) (fun a35 h35 => ?_); clear h34
    refine pl_val (v := .bool (decide (((l2.length : Nat) : Int) > 20))) h35 rfl rfl rfl (by kernel_rfl) (by kernel_rfl) (by kernel_rfl) (fun a36 h36 => ?_); clear h35
    refine pl_nil ?_
    refine co_then ?_
    cases hc37 : (decide (((l2.length : Nat) : Int) > 20))
    ·
      rw [hc37] at h36
      have hp38 : ¬ (((l2.length : Nat) : Int) > 20) := of_decide_eq_false hc37
      clear hc37
      refine co_false h36 rfl ?_
      refine wp_skip ?_
      refine co_then ?_
      refine co_seq ?_
      refine co_reg ?_
      refine pl_val (v := .agg #[.int .i64 c, .int .i64 r, v, .int .u64 ts]) h36 rfl rfl rfl (by kernel_rfl) (by kernel_rfl) (rn_loadN rfl rfl Try.underlying34 rfl (by kernel_rfl) hk21.all) (fun a39 h39 => ?_); clear h36
      refine pl_want h39 rfl rfl rfl (op_call (args := #[.agg #[.int .i64 c, .int .i64 r, v, .int .u64 ts]]) (R := fun res xw => res = .tuple #[.string (putE c r l ts), .int .i64 (chkB c r l)] ∧ Below w12.heap.size w12 xw) rfl rfl rfl (by kernel_rfl) (by kernel_rfl) (Try.call19 _ _) (itemPut_any c r v l ts w12 (hs.below hB18) (by first | omega | (simp; done) | (simp; omega))) (by rintro e x ⟨rfl, hb42⟩; exact ⟨_, rfl, ⟨rfl, hb42⟩⟩)) ?_; clear h39
      rintro _ w41 a40 ⟨rfl, hb42⟩ h40
      have hB43 := hb_call hB18 hb42
      have hz44 := hB43.size
      have hz45 := hb42.size
      have hk46 := hk21.below hb42
      have hk47 := hk15.below hb42
      refine pl_val (v := .tuple #[.string (putE c r l ts), .int .i64 (chkB c r l)]) h40 rfl rfl rfl (by kernel_rfl) (by kernel_rfl) (by kernel_rfl) (fun a48 h48 => ?_); clear h40
      refine pl_val (v := .string (putE c r l ts)) h48 rfl rfl rfl (by kernel_rfl) (by kernel_rfl) (by kernel_rfl) (fun a49 h49 => ?_); clear h48
      refine pl_val (v := .int .i64 (chkB c r l)) h49 rfl rfl rfl (by kernel_rfl) (by kernel_rfl) (by kernel_rfl) (fun a50 h50 => ?_); clear h49
      refine pl_val (v := .string (putE c r l ts)) h50 rfl rfl rfl (by kernel_rfl) (by kernel_rfl) (by kernel_rfl) (fun a51 h51 => ?_); clear h50
      refine pl_val (v := .int .i64 (chkB c r l)) h51 rfl rfl rfl (by kernel_rfl) (by kernel_rfl) (by kernel_rfl) (fun a52 h52 => ?_); clear h51
      refine pl_nil ?_
      refine co_then ?_
      refine co_seq ?_
      refine co_reg ?_
      refine pl_val (v := .agg #[.int .i64 c, .int .i64 r, v, .int .u64 ts]) h52 rfl rfl rfl (by kernel_rfl) (by kernel_rfl) (rn_loadN rfl rfl Try.underlying34 rfl (by kernel_rfl) hk46.all) (fun a53 h53 => ?_); clear h52
      refine pl_want h53 rfl rfl rfl (op_call (args := #[.agg #[.int .i64 c, .int .i64 r, v, .int .u64 ts]]) (R := fun res xw => res = .tuple #[.string (putE c r l ts), .int .i64 (chkB c r l)] ∧ Below w41.heap.size w41 xw) rfl rfl rfl (by kernel_rfl) (by kernel_rfl) (Try.call20 _ _) (ritemPut_any c r v l ts w41 (hs.below hB43) (by first | omega | (simp; done) | (simp; omega))) (by rintro e x ⟨rfl, hb56⟩; exact ⟨_, rfl, ⟨rfl, hb56⟩⟩)) ?_; clear h53
      rintro _ w55 a54 ⟨rfl, hb56⟩ h54
      have hB57 := hb_call hB43 hb56
      have hz58 := hB57.size
      have hz59 := hb56.size
      have hk60 := hk46.below hb56
      have hk61 := hk47.below hb56
      refine pl_val (v := .tuple #[.string (putE c r l ts), .int .i64 (chkB c r l)]) h54 rfl rfl rfl (by kernel_rfl) (by kernel_rfl) (by kernel_rfl) (fun a62 h62 => ?_); clear h54
      refine pl_val (v := .string (putE c r l ts)) h62 rfl rfl rfl (by kernel_rfl) (by kernel_rfl) (by kernel_rfl) (fun a63 h63 => ?_); clear h62
      refine pl_val (v := .int .i64 (chkB c r l)) h63 rfl rfl rfl (by kernel_rfl) (by kernel_rfl) (by kernel_rfl) (fun a64 h64 => ?_); clear h63
      refine pl_val (v := .string (putE c r l ts)) h64 rfl rfl rfl (by kernel_rfl) (by kernel_rfl) (by kernel_rfl) (fun a65 h65 => ?_); clear h64
      refine pl_val (v := .int .i64 (chkB c r l)) h65 rfl rfl rfl (by kernel_rfl) (by kernel_rfl) (by kernel_rfl) (fun a66 h66 => ?_); clear h65
      refine pl_nil ?_
      refine co_then ?_
      refine co_seq ?_
      refine dr_gen (fun x => Below w.heap.size w x ∧ Blk x N3 34 #[.int .i64 c, .int .i64 r, v, .int .u64 ts] ∧ Blk x N13 34 #[.int .i64 c2, .int .i64 r2, v2, .int .u64 ts2]) (by kernel_rfl) (fun w67 hg68 => ?_) (fun w67 hg68 => ?_)
      ·
        have hB69 := hb_new hB57 hg68
        have hz70 := hB69.size
        have hz71 := hg68.size
        have hk72 := hk60.kept hg68 (by simp)
        have hk73 := hk61.kept hg68 (by simp)
        exact ⟨hB69, hk72, hk73⟩
      have hB74 := hb_new hB57 hg68
      have hz75 := hB74.size
      have hz76 := hg68.size
      have hk77 := hk60.kept hg68 (by simp)
      have hk78 := hk61.kept hg68 (by simp)
      refine dr_take (i := 0) (v := .string (putE c r l ts)) h66 rfl (by kernel_rfl) (by kernel_rfl) (by kernel_rfl) rfl rfl rfl ⟨hB74, hk77, hk78⟩ (by kernel_rfl) (fun _ _ => by kernel_rfl) (fun a79 h79 => ?_); clear h66
      refine dr_take (i := 1) (v := .string (putE c r l ts)) h79 rfl (by kernel_rfl) (by kernel_rfl) (by kernel_rfl) rfl rfl rfl ⟨hB74, hk77, hk78⟩ (by kernel_rfl) (fun _ _ => by kernel_rfl) (fun a80 h80 => ?_); clear h79
      refine dr_take (i := 2) (v := .bool ((putE c r l ts : ByteArray).toList == (putE c r l ts : ByteArray).toList)) h80 rfl (by kernel_rfl) (by kernel_rfl) (by kernel_rfl) rfl rfl rfl ⟨hB74, hk77, hk78⟩ (by kernel_rfl) (fun _ _ => by kernel_rfl) (fun a81 h81 => ?_); clear h80
      refine dr_take (i := 3) (v := .bool ((putE c r l ts : ByteArray).toList == (putE c r l ts : ByteArray).toList)) h81 rfl (by kernel_rfl) (by kernel_rfl) (by kernel_rfl) rfl rfl rfl ⟨hB74, hk77, hk78⟩ (by kernel_rfl) (fun _ _ => by kernel_rfl) (fun a82 h82 => ?_); clear h81
      have hc83 : ((putE c r l ts : ByteArray).toList == (putE c r l ts : ByteArray).toList) = true := by first | (simp; done) | (simp; omega)
      rw [hc83] at h82; clear hc83
      refine dr_take (i := 4) (v := .int .i64 (chkB c r l)) h82 rfl (by kernel_rfl) (by kernel_rfl) (by kernel_rfl) rfl rfl rfl ⟨hB74, hk77, hk78⟩ (by kernel_rfl) (fun _ _ => by kernel_rfl) (fun a84 h84 => ?_); clear h82
      refine dr_take (i := 5) (v := .int .i64 (chkB c r l)) h84 rfl (by kernel_rfl) (by kernel_rfl) (by kernel_rfl) rfl rfl rfl ⟨hB74, hk77, hk78⟩ (by kernel_rfl) (fun _ _ => by kernel_rfl) (fun a85 h85 => ?_); clear h84
      refine dr_take (i := 6) (v := .bool (chkB c r l == chkB c r l)) h85 rfl (by kernel_rfl) (by kernel_rfl) (by kernel_rfl) rfl rfl rfl ⟨hB74, hk77, hk78⟩ (by kernel_rfl) (fun _ _ => by kernel_rfl) (fun a86 h86 => ?_); clear h85
      refine dr_take (i := 7) (v := .bool (chkB c r l == chkB c r l)) h86 rfl (by kernel_rfl) (by kernel_rfl) (by kernel_rfl) rfl rfl rfl ⟨hB74, hk77, hk78⟩ (by kernel_rfl) (fun _ _ => by kernel_rfl) (fun a87 h87 => ?_); clear h86
      refine dr_take (i := 8) (v := .bool (chkB c r l == chkB c r l)) h87 rfl (by kernel_rfl) (by kernel_rfl) (by kernel_rfl) rfl rfl rfl ⟨hB74, hk77, hk78⟩ (by kernel_rfl) (fun _ _ => by kernel_rfl) (fun a88 h88 => ?_); clear h87
      have hc89 : (chkB c r l == chkB c r l) = true := by first | (simp; done) | (simp; omega)
      rw [hc89] at h88; clear hc89
      refine dr_take (i := 9) (v := .agg #[.int .i64 c, .int .i64 r, v, .int .u64 ts]) h88 rfl (by kernel_rfl) (by kernel_rfl) (by kernel_rfl) rfl rfl rfl ⟨hB74, hk77, hk78⟩ (by kernel_rfl) (fun x hx => (rn_loadN rfl rfl Try.underlying34 rfl (by kernel_rfl) hx.2.1.all)) (fun a90 h90 => ?_); clear h88
      refine dr_take (i := 11) (v := .agg #[.int .i64 c, .int .i64 r, v, .int .u64 ts]) h90 rfl (by kernel_rfl) (by kernel_rfl) (by kernel_rfl) rfl rfl rfl ⟨hB74, hk77, hk78⟩ (by kernel_rfl) (fun x hx => (rn_loadN rfl rfl Try.underlying34 rfl (by kernel_rfl) hx.2.1.all)) (fun a91 h91 => ?_); clear h90
      refine dr_one (i := 10) h91 rfl (by kernel_rfl) rfl rfl rfl (op_call (args := #[.agg #[.int .i64 c, .int .i64 r, v, .int .u64 ts]]) (R := fun res xw => res = .int .i64 (chkB c r l) ∧ Below w67.heap.size w67 xw) rfl rfl rfl (by kernel_rfl) (by kernel_rfl) (Try.call21 _ _) (itemCheck_any c r v l ts w67 (hs.below hB74)) (by rintro e x ⟨rfl, hb94⟩; exact ⟨_, rfl, ⟨rfl, hb94⟩⟩)) ?_ ?_; clear h91
      ·
        rintro _ w93 ⟨rfl, hb94⟩
        have hB95 := hb_call hB74 hb94
        have hz96 := hB95.size
        have hz97 := hb94.size
        have hk98 := hk77.below hb94
        have hk99 := hk78.below hb94
        exact ⟨hB95, hk98, hk99⟩
      rintro _ w93 a92 ⟨rfl, hb94⟩ h92
      have hB95 := hb_call hB74 hb94
      have hz96 := hB95.size
      have hz97 := hb94.size
      have hk98 := hk77.below hb94
      have hk99 := hk78.below hb94
      refine dr_one (i := 12) h92 rfl (by kernel_rfl) rfl rfl rfl (op_call (args := #[.agg #[.int .i64 c, .int .i64 r, v, .int .u64 ts]]) (R := fun res xw => res = .int .i64 (chkB c r l) ∧ Below w93.heap.size w93 xw) rfl rfl rfl (by kernel_rfl) (by kernel_rfl) (Try.call22 _ _) (ritemCheck_any c r v l ts w93 (hs.below hB95)) (by rintro e x ⟨rfl, hb102⟩; exact ⟨_, rfl, ⟨rfl, hb102⟩⟩)) ?_ ?_; clear h92
      ·
        rintro _ w101 ⟨rfl, hb102⟩
        have hB103 := hb_call hB95 hb102
        have hz104 := hB103.size
        have hz105 := hb102.size
        have hk106 := hk98.below hb102
        have hk107 := hk99.below hb102
        exact ⟨hB103, hk106, hk107⟩
      rintro _ w101 a100 ⟨rfl, hb102⟩ h100
      have hB103 := hb_call hB95 hb102
      have hz104 := hB103.size
      have hz105 := hb102.size
      have hk106 := hk98.below hb102
      have hk107 := hk99.below hb102
      refine dr_take (i := 13) (v := .bool (chkB c r l == chkB c r l)) h100 rfl (by kernel_rfl) (by kernel_rfl) (by kernel_rfl) rfl rfl rfl ⟨hB103, hk106, hk107⟩ (by kernel_rfl) (fun _ _ => by kernel_rfl) (fun a108 h108 => ?_); clear h100
      refine dr_take (i := 14) (v := .bool (chkB c r l == chkB c r l)) h108 rfl (by kernel_rfl) (by kernel_rfl) (by kernel_rfl) rfl rfl rfl ⟨hB103, hk106, hk107⟩ (by kernel_rfl) (fun _ _ => by kernel_rfl) (fun a109 h109 => ?_); clear h108
      refine dr_take (i := 15) (v := .bool (chkB c r l == chkB c r l)) h109 rfl (by kernel_rfl) (by kernel_rfl) (by kernel_rfl) rfl rfl rfl ⟨hB103, hk106, hk107⟩ (by kernel_rfl) (fun _ _ => by kernel_rfl) (fun a110 h110 => ?_); clear h109
      have hc111 : (chkB c r l == chkB c r l) = true := by first | (simp; done) | (simp; omega)
      rw [hc111] at h110; clear hc111
      refine dr_take (i := 16) (v := .agg #[.int .i64 c, .int .i64 r, v, .int .u64 ts]) h110 rfl (by kernel_rfl) (by kernel_rfl) (by kernel_rfl) rfl rfl rfl ⟨hB103, hk106, hk107⟩ (by kernel_rfl) (fun x hx => (rn_loadN rfl rfl Try.underlying34 rfl (by kernel_rfl) hx.2.1.all)) (fun a112 h112 => ?_); clear h110
      refine dr_take (i := 17) (v := .agg #[.int .i64 c2, .int .i64 r2, v2, .int .u64 ts2]) h112 rfl (by kernel_rfl) (by kernel_rfl) (by kernel_rfl) rfl rfl rfl ⟨hB103, hk106, hk107⟩ (by kernel_rfl) (fun x hx => (rn_loadN rfl rfl Try.underlying34 rfl (by kernel_rfl) hx.2.2.all)) (fun a113 h113 => ?_); clear h112
      refine dr_take (i := 19) (v := .agg #[.int .i64 c, .int .i64 r, v, .int .u64 ts]) h113 rfl (by kernel_rfl) (by kernel_rfl) (by kernel_rfl) rfl rfl rfl ⟨hB103, hk106, hk107⟩ (by kernel_rfl) (fun x hx => (rn_loadN rfl rfl Try.underlying34 rfl (by kernel_rfl) hx.2.1.all)) (fun a114 h114 => ?_); clear h113
      refine dr_take (i := 20) (v := .agg #[.int .i64 c2, .int .i64 r2, v2, .int .u64 ts2]) h114 rfl (by kernel_rfl) (by kernel_rfl) (by kernel_rfl) rfl rfl rfl ⟨hB103, hk106, hk107⟩ (by kernel_rfl) (fun x hx => (rn_loadN rfl rfl Try.underlying34 rfl (by kernel_rfl) hx.2.2.all)) (fun a115 h115 => ?_); clear h114
      refine dr_one (i := 18) h115 rfl (by kernel_rfl) rfl rfl rfl (op_call (args := #[.agg #[.int .i64 c, .int .i64 r, v, .int .u64 ts], .agg #[.int .i64 c2, .int .i64 r2, v2, .int .u64 ts2]]) (R := fun res xw => res = .bool (sameE c r l ts c2 r2 l2 ts2) ∧ Below w101.heap.size w101 xw) rfl rfl rfl (by kernel_rfl) (by kernel_rfl) (Try.call23 _ _) (itemSame_any c r v l ts c2 r2 v2 l2 ts2 w101 (hs.below hB103) (hs2.below hB103)) (by rintro e x ⟨rfl, hb118⟩; exact ⟨_, rfl, ⟨rfl, hb118⟩⟩)) ?_ ?_; clear h115
      ·
        rintro _ w117 ⟨rfl, hb118⟩
        have hB119 := hb_call hB103 hb118
        have hz120 := hB119.size
        have hz121 := hb118.size
        have hk122 := hk106.below hb118
        have hk123 := hk107.below hb118
        exact ⟨hB119, hk122, hk123⟩
      rintro _ w117 a116 ⟨rfl, hb118⟩ h116
      have hB119 := hb_call hB103 hb118
      have hz120 := hB119.size
      have hz121 := hb118.size
      have hk122 := hk106.below hb118
      have hk123 := hk107.below hb118
      refine dr_one (i := 21) h116 rfl (by kernel_rfl) rfl rfl rfl (op_call (args := #[.agg #[.int .i64 c, .int .i64 r, v, .int .u64 ts], .agg #[.int .i64 c2, .int .i64 r2, v2, .int .u64 ts2]]) (R := fun res xw => res = .bool (sameE c r l ts c2 r2 l2 ts2) ∧ Below w117.heap.size w117 xw) rfl rfl rfl (by kernel_rfl) (by kernel_rfl) (Try.call24 _ _) (ritemSame_any c r v l ts c2 r2 v2 l2 ts2 w117 (hs.below hB119) (hs2.below hB119)) (by rintro e x ⟨rfl, hb126⟩; exact ⟨_, rfl, ⟨rfl, hb126⟩⟩)) ?_ ?_; clear h116
      ·
        rintro _ w125 ⟨rfl, hb126⟩
        have hB127 := hb_call hB119 hb126
        have hz128 := hB127.size
        have hz129 := hb126.size
        have hk130 := hk122.below hb126
        have hk131 := hk123.below hb126
        exact ⟨hB127, hk130, hk131⟩
      rintro _ w125 a124 ⟨rfl, hb126⟩ h124
      have hB127 := hb_call hB119 hb126
      have hz128 := hB127.size
      have hz129 := hb126.size
      have hk130 := hk122.below hb126
      have hk131 := hk123.below hb126
      refine dr_take (i := 22) (v := .bool ((sameE c r l ts c2 r2 l2 ts2) == (sameE c r l ts c2 r2 l2 ts2))) h124 rfl (by kernel_rfl) (by kernel_rfl) (by kernel_rfl) rfl rfl rfl ⟨hB127, hk130, hk131⟩ (by kernel_rfl) (fun _ _ => by kernel_rfl) (fun a132 h132 => ?_); clear h124
      refine dr_take (i := 23) (v := .bool ((sameE c r l ts c2 r2 l2 ts2) == (sameE c r l ts c2 r2 l2 ts2))) h132 rfl (by kernel_rfl) (by kernel_rfl) (by kernel_rfl) rfl rfl rfl ⟨hB127, hk130, hk131⟩ (by kernel_rfl) (fun _ _ => by kernel_rfl) (fun a133 h133 => ?_); clear h132
      refine dr_take (i := 24) (v := .bool ((sameE c r l ts c2 r2 l2 ts2) == (sameE c r l ts c2 r2 l2 ts2))) h133 rfl (by kernel_rfl) (by kernel_rfl) (by kernel_rfl) rfl rfl rfl ⟨hB127, hk130, hk131⟩ (by kernel_rfl) (fun _ _ => by kernel_rfl) (fun a134 h134 => ?_); clear h133
      have hc135 : ((sameE c r l ts c2 r2 l2 ts2) == (sameE c r l ts c2 r2 l2 ts2)) = true := by first | (simp; done) | (simp; omega)
      rw [hc135] at h134; clear hc135
      refine dr_take (i := 25) (v := .agg #[.int .i64 c, .int .i64 r, v, .int .u64 ts]) h134 rfl (by kernel_rfl) (by kernel_rfl) (by kernel_rfl) rfl rfl rfl ⟨hB127, hk130, hk131⟩ (by kernel_rfl) (fun x hx => (rn_loadN rfl rfl Try.underlying34 rfl (by kernel_rfl) hx.2.1.all)) (fun a136 h136 => ?_); clear h134
      refine dr_take (i := 26) (v := .agg #[.int .i64 c2, .int .i64 r2, v2, .int .u64 ts2]) h136 rfl (by kernel_rfl) (by kernel_rfl) (by kernel_rfl) rfl rfl rfl ⟨hB127, hk130, hk131⟩ (by kernel_rfl) (fun x hx => (rn_loadN rfl rfl Try.underlying34 rfl (by kernel_rfl) hx.2.2.all)) (fun a137 h137 => ?_); clear h136
      refine dr_take (i := 28) (v := .agg #[.int .i64 c, .int .i64 r, v, .int .u64 ts]) h137 rfl (by kernel_rfl) (by kernel_rfl) (by kernel_rfl) rfl rfl rfl ⟨hB127, hk130, hk131⟩ (by kernel_rfl) (fun x hx => (rn_loadN rfl rfl Try.underlying34 rfl (by kernel_rfl) hx.2.1.all)) (fun a138 h138 => ?_); clear h137
      refine dr_take (i := 29) (v := .agg #[.int .i64 c2, .int .i64 r2, v2, .int .u64 ts2]) h138 rfl (by kernel_rfl) (by kernel_rfl) (by kernel_rfl) rfl rfl rfl ⟨hB127, hk130, hk131⟩ (by kernel_rfl) (fun x hx => (rn_loadN rfl rfl Try.underlying34 rfl (by kernel_rfl) hx.2.2.all)) (fun a139 h139 => ?_); clear h138
      refine dr_one (i := 27) h139 rfl (by kernel_rfl) rfl rfl rfl (op_call (args := #[.agg #[.int .i64 c, .int .i64 r, v, .int .u64 ts], .agg #[.int .i64 c2, .int .i64 r2, v2, .int .u64 ts2]]) (R := fun res xw => res = .bool ((c == (c2 : Int)) && (r == (r2 : Int))) ∧ Below w125.heap.size w125 xw) rfl rfl rfl (by kernel_rfl) (by kernel_rfl) (Try.call25 _ _) (itemTwins_any c r v ts c2 r2 v2 ts2 w125 ) (by rintro e x ⟨rfl, hb142⟩; exact ⟨_, rfl, ⟨rfl, hb142⟩⟩)) ?_ ?_; clear h139
      ·
        rintro _ w141 ⟨rfl, hb142⟩
        have hB143 := hb_call hB127 hb142
        have hz144 := hB143.size
        have hz145 := hb142.size
        have hk146 := hk130.below hb142
        have hk147 := hk131.below hb142
        exact ⟨hB143, hk146, hk147⟩
      rintro _ w141 a140 ⟨rfl, hb142⟩ h140
      have hB143 := hb_call hB127 hb142
      have hz144 := hB143.size
      have hz145 := hb142.size
      have hk146 := hk130.below hb142
      have hk147 := hk131.below hb142
      refine dr_one (i := 30) h140 rfl (by kernel_rfl) rfl rfl rfl (op_call (args := #[.agg #[.int .i64 c, .int .i64 r, v, .int .u64 ts], .agg #[.int .i64 c2, .int .i64 r2, v2, .int .u64 ts2]]) (R := fun res xw => res = .bool ((c == (c2 : Int)) && (r == (r2 : Int))) ∧ Below w141.heap.size w141 xw) rfl rfl rfl (by kernel_rfl) (by kernel_rfl) (Try.call26 _ _) (ritemTwins_any c r v ts c2 r2 v2 ts2 w141 ) (by rintro e x ⟨rfl, hb150⟩; exact ⟨_, rfl, ⟨rfl, hb150⟩⟩)) ?_ ?_; clear h140
      ·
        rintro _ w149 ⟨rfl, hb150⟩
        have hB151 := hb_call hB143 hb150
        have hz152 := hB151.size
        have hz153 := hb150.size
        have hk154 := hk146.below hb150
        have hk155 := hk147.below hb150
        exact ⟨hB151, hk154, hk155⟩
      rintro _ w149 a148 ⟨rfl, hb150⟩ h148
      have hB151 := hb_call hB143 hb150
      have hz152 := hB151.size
      have hz153 := hb150.size
      have hk154 := hk146.below hb150
      have hk155 := hk147.below hb150
      refine dr_take (i := 31) (v := .bool (((c == (c2 : Int)) && (r == (r2 : Int))) == ((c == (c2 : Int)) && (r == (r2 : Int))))) h148 rfl (by kernel_rfl) (by kernel_rfl) (by kernel_rfl) rfl rfl rfl ⟨hB151, hk154, hk155⟩ (by kernel_rfl) (fun _ _ => by kernel_rfl) (fun a156 h156 => ?_); clear h148
      refine dr_take (i := 32) (v := .bool (((c == (c2 : Int)) && (r == (r2 : Int))) == ((c == (c2 : Int)) && (r == (r2 : Int))))) h156 rfl (by kernel_rfl) (by kernel_rfl) (by kernel_rfl) rfl rfl rfl ⟨hB151, hk154, hk155⟩ (by kernel_rfl) (fun _ _ => by kernel_rfl) (fun a157 h157 => ?_); clear h156
      refine dr_take (i := 33) (v := .bool (((c == (c2 : Int)) && (r == (r2 : Int))) == ((c == (c2 : Int)) && (r == (r2 : Int))))) h157 rfl (by kernel_rfl) (by kernel_rfl) (by kernel_rfl) rfl rfl rfl ⟨hB151, hk154, hk155⟩ (by kernel_rfl) (fun _ _ => by kernel_rfl) (fun a158 h158 => ?_); clear h157
      have hc159 : (((c == (c2 : Int)) && (r == (r2 : Int))) == ((c == (c2 : Int)) && (r == (r2 : Int)))) = true := by first | (simp; done) | (simp; omega)
      rw [hc159] at h158; clear hc159
      refine dr_take (i := 34) (v := .agg #[.int .i64 c, .int .i64 r, v, .int .u64 ts]) h158 rfl (by kernel_rfl) (by kernel_rfl) (by kernel_rfl) rfl rfl rfl ⟨hB151, hk154, hk155⟩ (by kernel_rfl) (fun x hx => (rn_loadN rfl rfl Try.underlying34 rfl (by kernel_rfl) hx.2.1.all)) (fun a160 h160 => ?_); clear h158
      refine dr_take (i := 35) (v := .agg #[.int .i64 c, .int .i64 r, v, .int .u64 ts]) h160 rfl (by kernel_rfl) (by kernel_rfl) (by kernel_rfl) rfl rfl rfl ⟨hB151, hk154, hk155⟩ (by kernel_rfl) (fun x hx => (rn_loadN rfl rfl Try.underlying34 rfl (by kernel_rfl) hx.2.1.all)) (fun a161 h161 => ?_); clear h160
      refine dr_one (i := 36) h161 rfl (by kernel_rfl) rfl rfl rfl (op_call (args := #[.agg #[.int .i64 c, .int .i64 r, v, .int .u64 ts], .agg #[.int .i64 c, .int .i64 r, v, .int .u64 ts]]) (R := fun res xw => res = .bool (sameE c r l ts c r l ts) ∧ Below w149.heap.size w149 xw) rfl rfl rfl (by kernel_rfl) (by kernel_rfl) (Try.call23 _ _) (itemSame_any c r v l ts c r v l ts w149 (hs.below hB151) (hs.below hB151)) (by rintro e x ⟨rfl, hb164⟩; exact ⟨_, rfl, ⟨rfl, hb164⟩⟩)) ?_ ?_; clear h161
      ·
        rintro _ w163 ⟨rfl, hb164⟩
        have hB165 := hb_call hB151 hb164
        have hz166 := hB165.size
        have hz167 := hb164.size
        have hk168 := hk154.below hb164
        have hk169 := hk155.below hb164
        exact ⟨hB165, hk168, hk169⟩
      rintro _ w163 a162 ⟨rfl, hb164⟩ h162
      have hB165 := hb_call hB151 hb164
      have hz166 := hB165.size
      have hz167 := hb164.size
      have hk168 := hk154.below hb164
      have hk169 := hk155.below hb164
      refine dr_take (i := 37) (v := .bool (sameE c r l ts c r l ts)) h162 rfl (by kernel_rfl) (by kernel_rfl) (by kernel_rfl) rfl rfl rfl ⟨hB165, hk168, hk169⟩ (by kernel_rfl) (fun _ _ => by kernel_rfl) (fun a170 h170 => ?_); clear h162
      refine dr_take (i := 38) (v := .bool (sameE c r l ts c r l ts)) h170 rfl (by kernel_rfl) (by kernel_rfl) (by kernel_rfl) rfl rfl rfl ⟨hB165, hk168, hk169⟩ (by kernel_rfl) (fun _ _ => by kernel_rfl) (fun a171 h171 => ?_); clear h170
      have hc172 : (sameE c r l ts c r l ts) = true := sameE_refl _ _ _ _
      rw [hc172] at h171; clear hc172
      refine dr_take (i := 39) (v := .agg #[.int .i64 c, .int .i64 r, v, .int .u64 ts]) h171 rfl (by kernel_rfl) (by kernel_rfl) (by kernel_rfl) rfl rfl rfl ⟨hB165, hk168, hk169⟩ (by kernel_rfl) (fun x hx => (rn_loadN rfl rfl Try.underlying34 rfl (by kernel_rfl) hx.2.1.all)) (fun a173 h173 => ?_); clear h171
      refine dr_take (i := 40) (v := .agg #[.int .i64 c, .int .i64 r, v, .int .u64 ts]) h173 rfl (by kernel_rfl) (by kernel_rfl) (by kernel_rfl) rfl rfl rfl ⟨hB165, hk168, hk169⟩ (by kernel_rfl) (fun x hx => (rn_loadN rfl rfl Try.underlying34 rfl (by kernel_rfl) hx.2.1.all)) (fun a174 h174 => ?_); clear h173
      refine dr_one (i := 41) h174 rfl (by kernel_rfl) rfl rfl rfl (op_call (args := #[.agg #[.int .i64 c, .int .i64 r, v, .int .u64 ts], .agg #[.int .i64 c, .int .i64 r, v, .int .u64 ts]]) (R := fun res xw => res = .bool ((c == (c : Int)) && (r == (r : Int))) ∧ Below w163.heap.size w163 xw) rfl rfl rfl (by kernel_rfl) (by kernel_rfl) (Try.call25 _ _) (itemTwins_any c r v ts c r v ts w163 ) (by rintro e x ⟨rfl, hb177⟩; exact ⟨_, rfl, ⟨rfl, hb177⟩⟩)) ?_ ?_; clear h174
      ·
        rintro _ w176 ⟨rfl, hb177⟩
        have hB178 := hb_call hB165 hb177
        have hz179 := hB178.size
        have hz180 := hb177.size
        have hk181 := hk168.below hb177
        have hk182 := hk169.below hb177
        exact ⟨hB178, hk181, hk182⟩
      rintro _ w176 a175 ⟨rfl, hb177⟩ h175
      have hB178 := hb_call hB165 hb177
      have hz179 := hB178.size
      have hz180 := hb177.size
      have hk181 := hk168.below hb177
      have hk182 := hk169.below hb177
      refine dr_take (i := 42) (v := .bool ((c == (c : Int)) && (r == (r : Int)))) h175 rfl (by kernel_rfl) (by kernel_rfl) (by kernel_rfl) rfl rfl rfl ⟨hB178, hk181, hk182⟩ (by kernel_rfl) (fun _ _ => by kernel_rfl) (fun a183 h183 => ?_); clear h175
      refine dr_take (i := 43) (v := .bool ((c == (c : Int)) && (r == (r : Int)))) h183 rfl (by kernel_rfl) (by kernel_rfl) (by kernel_rfl) rfl rfl rfl ⟨hB178, hk181, hk182⟩ (by kernel_rfl) (fun _ _ => by kernel_rfl) (fun a184 h184 => ?_); clear h183
      have hc185 : (((c == (c : Int)) && (r == (r : Int)))) = true := by first | (simp; done) | (simp; omega)
      rw [hc185] at h184; clear hc185
      refine dr_one (i := 44) h184 rfl (by kernel_rfl) rfl rfl rfl (op_call (args := #[]) (R := fun res xw => res = .bool true ∧ Below w176.heap.size w176 xw) rfl rfl rfl (by kernel_rfl) (by kernel_rfl) (Try.call18 _ _) (awake08_any  w176 ) (by rintro e x ⟨rfl, hb188⟩; exact ⟨_, rfl, ⟨rfl, hb188⟩⟩)) ?_ ?_; clear h184
      ·
        rintro _ w187 ⟨rfl, hb188⟩
        have hB189 := hb_call hB178 hb188
        have hz190 := hB189.size
        have hz191 := hb188.size
        have hk192 := hk181.below hb188
        have hk193 := hk182.below hb188
        exact ⟨hB189, hk192, hk193⟩
      rintro _ w187 a186 ⟨rfl, hb188⟩ h186
      have hB189 := hb_call hB178 hb188
      have hz190 := hB189.size
      have hz191 := hb188.size
      have hk192 := hk181.below hb188
      have hk193 := hk182.below hb188
      refine dr_take (i := 45) (v := .bool true) h186 rfl (by kernel_rfl) (by kernel_rfl) (by kernel_rfl) rfl rfl rfl ⟨hB189, hk192, hk193⟩ (by kernel_rfl) (fun _ _ => by kernel_rfl) (fun a194 h194 => ?_); clear h186
      refine dr_take (i := 46) (v := .bool true) h194 rfl (by kernel_rfl) (by kernel_rfl) (by kernel_rfl) rfl rfl rfl ⟨hB189, hk192, hk193⟩ (by kernel_rfl) (fun _ _ => by kernel_rfl) (fun a195 h195 => ?_); clear h194
      refine dr_done (by kernel_rfl) ?_
      refine co_then ?_
      refine wp_ret ?_
      refine co_ret1 h195 rfl rfl ?_
      exact ⟨rfl, hB189⟩
    ·
      rw [hc37] at h36
      have hp196 : ((l2.length : Nat) : Int) > 20 := of_decide_eq_true hc37
      clear hc37
      refine co_true h36 rfl ?_
      refine co_seq ?_
      refine co_reg ?_
      refine pl_want h36 rfl rfl rfl (op_call (args := #[]) (R := fun res xw => res = .bool true ∧ Below w12.heap.size w12 xw) rfl rfl rfl (by kernel_rfl) (by kernel_rfl) (Try.call18 _ _) (awake08_any  w12 ) (by rintro e x ⟨rfl, hb199⟩; exact ⟨_, rfl, ⟨rfl, hb199⟩⟩)) ?_; clear h36
      rintro _ w198 a197 ⟨rfl, hb199⟩ h197
      have hB200 := hb_call hB18 hb199
      have hz201 := hB200.size
      have hz202 := hb199.size
      have hk203 := hk21.below hb199
      have hk204 := hk15.below hb199
      refine pl_val (v := .bool true) h197 rfl rfl rfl (by kernel_rfl) (by kernel_rfl) (by kernel_rfl) (fun a205 h205 => ?_); clear h197
      refine pl_nil ?_
      refine co_then ?_
      refine wp_ret ?_
      refine co_thenR ?_
      refine co_ret1 h205 rfl rfl ?_
      exact ⟨rfl, hB200⟩
  ·
    rw [hc29] at h28
    have hp206 : ((l.length : Nat) : Int) > 20 := of_decide_eq_true hc29
    clear hc29
    refine pl_skip h28 rfl rfl rfl (fun a207 h207 => ?_); clear h28
    refine pl_skip h207 rfl rfl rfl (fun a208 h208 => ?_); clear h207
    refine pl_skip h208 rfl rfl rfl (fun a209 h209 => ?_); clear h208
    refine pl_skip h209 rfl rfl rfl (fun a210 h210 => ?_); clear h209
    refine pl_skip h210 rfl rfl rfl (fun a211 h211 => ?_); clear h210
    refine pl_val (v := .bool true) h211 rfl rfl rfl (by kernel_rfl) (by kernel_rfl) (by kernel_rfl) (fun a212 h212 => ?_); clear h211
    refine pl_nil ?_
    refine co_then ?_
    refine co_true h212 rfl ?_
    refine co_seq ?_
    refine co_reg ?_
    refine pl_want h212 rfl rfl rfl (op_call (args := #[]) (R := fun res xw => res = .bool true ∧ Below w12.heap.size w12 xw) rfl rfl rfl (by kernel_rfl) (by kernel_rfl) (Try.call18 _ _) (awake08_any  w12 ) (by rintro e x ⟨rfl, hb215⟩; exact ⟨_, rfl, ⟨rfl, hb215⟩⟩)) ?_; clear h212
    rintro _ w214 a213 ⟨rfl, hb215⟩ h213
    have hB216 := hb_call hB18 hb215
    have hz217 := hB216.size
    have hz218 := hb215.size
    have hk219 := hk21.below hb215
    have hk220 := hk15.below hb215
    refine pl_val (v := .bool true) h213 rfl rfl rfl (by kernel_rfl) (by kernel_rfl) (by kernel_rfl) (fun a221 h221 => ?_); clear h213
    refine pl_nil ?_
    refine co_then ?_
    refine wp_ret ?_
    refine co_thenR ?_
    refine co_ret1 h221 rfl rfl ?_
    exact ⟨rfl, hB216⟩
end Go.Proofs.Yteioaaegooebpaa
