/- Package item: Right, Stamped, Last; how much a list holds. Conditions: none. -/
import Derived.Test.YteioaaegooebpaaItemA
import Derived.Test.YteioaaegooebpaaEntB
namespace Go.Proofs.Yteioaaegooebpaa
open Go.RowKit Go.PlainAid
set_option linter.unusedVariables false


theorem entE_len (e : EntT) : (entE e).length = 4 := rfl
def twN (l : List EntT) (c r : Int) : Int := ((l.countP fun e => e.client == c && e.req == r : Nat) : Int)
theorem twN_snoc (l : List EntT) (y : EntT) (c r : Int) : twN (l ++ [y]) c r = twN l c r + (if y.client = c ∧ y.req = r then 1 else 0) := by
  unfold twN
  rw [List.countP_append]
  by_cases h : y.client = c ∧ y.req = r
  · simp [h.1, h.2]
  · rw [if_neg h]
    have : (y.client == c && y.req == r) = false := by simpa using h
    simp [List.countP_cons, this]
theorem twN_pos (l : List EntT) (c r : Int) : 0 ≤ twN l c r ∧ twN l c r ≤ l.length := by
  unfold twN; have := List.countP_le_length (p := fun e : EntT => e.client == c && e.req == r) (l := l); omega
theorem takeE {α : Type} {l : List α} {i : Nat} {y : α} (h : l[i]? = some y) : l.take (i + 1) = l.take i ++ [y] := by
  rw [List.take_add_one, h]; rfl
theorem dropE {α : Type} {l : List α} {i : Nat} {y : α} (h : l[i]? = some y) : l.drop i = y :: l.drop (i + 1) := by
  obtain ⟨hi, rfl⟩ := List.getElem?_eq_some_iff.1 h
  exact List.drop_eq_getElem_cons hi
theorem tw_step {l : List EntT} {i : Nat} {y : EntT} (h : l[i]? = some y) : (fun b : Int × Int => if b = (y.client, y.req) then twN (l.take i) y.client y.req + 1 else (fun k : Int × Int => twN (l.take i) k.1 k.2) b) = fun k => twN (l.take (i + 1)) k.1 k.2 := by
  funext b
  obtain ⟨b1, b2⟩ := b
  rw [takeE h, twN_snoc]
  by_cases e : (b1, b2) = (y.client, y.req)
  · rw [if_pos e]
    have e1 : b1 = y.client := (Prod.mk.inj e).1
    have e2 : b2 = y.req := (Prod.mk.inj e).2
    subst e1 e2; simp
  · rw [if_neg e, if_neg (fun h => e (Prod.ext h.1.symm h.2.symm))]; simp
def badT (pre : List EntT) (e : EntT) : Bool := match pre.getLast? with
  | none => false
  | some p => decide (e.ts ≠ 0 ∧ (p.ts = 0 ∨ e.ts ≤ p.ts))
def rgF : List EntT → List EntT → Int
  | _, [] => 0
  | pre, e :: r => if chkB e.client e.req e.opl ≠ 0 then chkB e.client e.req e.opl else if 0 < twN pre e.client e.req then 18 else if badT pre e = true then 18 else rgF (pre ++ [e]) r
def rightI (l : List EntT) : Int := rgF [] l
theorem rg_chk {l : List EntT} {i : Nat} {y : EntT} {z : Int} (h : rgF (l.take i) (l.drop i) = z) (hy : l[i]? = some y) (hc : chkB y.client y.req y.opl ≠ 0) : chkB y.client y.req y.opl = z := by
  rw [dropE hy] at h; unfold rgF at h; rwa [if_pos hc] at h
theorem rg_tw {l : List EntT} {i : Nat} {y : EntT} {z : Int} (h : rgF (l.take i) (l.drop i) = z) (hy : l[i]? = some y) (hc : ¬ chkB y.client y.req y.opl ≠ 0) (ht : 0 < twN (l.take i) y.client y.req) : 18 = z := by
  rw [dropE hy] at h; unfold rgF at h; rwa [if_neg hc, if_pos ht] at h
theorem rg_bad {l : List EntT} {i : Nat} {y : EntT} {z : Int} (h : rgF (l.take i) (l.drop i) = z) (hy : l[i]? = some y) (hc : ¬ chkB y.client y.req y.opl ≠ 0) (ht : ¬ 0 < twN (l.take i) y.client y.req) (hb : badT (l.take i) y = true) : 18 = z := by
  rw [dropE hy] at h; unfold rgF at h; rwa [if_neg hc, if_neg ht, if_pos hb] at h
theorem rg_step {l : List EntT} {i : Nat} {y : EntT} {z : Int} (h : rgF (l.take i) (l.drop i) = z) (hy : l[i]? = some y) (hc : ¬ chkB y.client y.req y.opl ≠ 0) (ht : ¬ 0 < twN (l.take i) y.client y.req) (hb : badT (l.take i) y = false) : rgF (l.take (i + 1)) (l.drop (i + 1)) = z := by
  rw [dropE hy] at h; unfold rgF at h; rw [if_neg hc, if_neg ht, if_neg (by simp [hb]), ← takeE hy] at h; exact h
theorem rg_end {l : List EntT} {i : Nat} {z : Int} (h : rgF (l.take i) (l.drop i) = z) (hi : l.length ≤ i) : 0 = z := by
  rw [List.drop_eq_nil_of_le hi] at h; simpa [rgF] using h
theorem bad_0 {l : List EntT} {i : Nat} {y : EntT} (h : ¬ (0 : Int) < i) : badT (l.take i) y = false := by
  obtain rfl : i = 0 := by omega
  simp [badT]
theorem bad_ts {pre : List EntT} {y : EntT} (h : y.ts = 0) : badT pre y = false := by
  unfold badT
  split
  · rfl
  · simp [h]
theorem bad_at {l : List EntT} {i j : Nat} {y p : EntT} (hj : j = i - 1) (h0 : 0 < i) (h : l[j]? = some p) : badT (l.take i) y = decide (y.ts ≠ 0 ∧ (p.ts = 0 ∨ y.ts ≤ p.ts)) := by
  have hl : (l.take i).getLast? = some p := by
    obtain ⟨i, rfl⟩ : ∃ k, i = k + 1 := ⟨i - 1, by omega⟩
    have : j = i := by omega
    subst this
    rw [takeE h]; simp
  unfold badT; rw [hl]
/-- How many have timestamps, the last of these. -/
def stN (l : List EntT) : Nat := (l.takeWhile fun e => decide (e.ts ≠ 0)).length
theorem stN_le (l : List EntT) : stN l ≤ l.length := by
  unfold stN; exact (List.takeWhile_sublist _).length_le
theorem stN_stop : ∀ {l : List EntT} {i : Nat} {y : EntT}, (∀ j, j < i → ∀ z, l[j]? = some z → z.ts ≠ 0) → l[i]? = some y → y.ts = 0 → stN l = i
  | [], i, y, _, h, _ => by simp at h
  | e :: l, 0, y, _, h, h0 => by simp at h; subst h; simp [stN, h0]
  | e :: l, i + 1, y, hb, h, h0 => by
    have he : e.ts ≠ 0 := hb 0 (by omega) e (by simp)
    have ih := stN_stop (l := l) (i := i) (fun j hj z hz => hb (j + 1) (by omega) z (by simpa using hz)) (by simpa using h) h0
    unfold stN at ih ⊢
    rw [List.takeWhile_cons, if_pos (by simpa using he), List.length_cons, ih]
theorem stN_end : ∀ {l : List EntT} {i : Nat}, (∀ j, j < i → ∀ z, l[j]? = some z → z.ts ≠ 0) → l.length = i → stN l = i
  | [], i, _, h => by simp at h; subst h; rfl
  | e :: l, 0, _, h => by simp at h
  | e :: l, i + 1, hb, h => by
    have he : e.ts ≠ 0 := hb 0 (by omega) e (by simp)
    have ih := stN_end (l := l) (i := i) (fun j hj z hz => hb (j + 1) (by omega) z (by simpa using hz)) (by simpa using h)
    unfold stN at ih ⊢
    rw [List.takeWhile_cons, if_pos (by simpa using he), List.length_cons, ih]
theorem st_next {l : List EntT} {i : Nat} {y : EntT} (hb : ∀ j, j < i → ∀ z, l[j]? = some z → z.ts ≠ 0) (h : l[i]? = some y) (h0 : ¬ y.ts = 0) : ∀ j, j < i + 1 → ∀ z, l[j]? = some z → z.ts ≠ 0 := by
  intro j hj z hz
  by_cases e : j = i
  · subst e; rw [h] at hz; cases hz; exact h0
  · exact hb j (by omega) z hz
def lastT (l : List EntT) : Int := if stN l = 0 then 0 else (l.getD (stN l - 1) default).ts
theorem lastT_0 {l : List EntT} (h : ((stN l : Nat) : Int) = 0) : 0 = lastT l := by unfold lastT; rw [if_pos (by omega)]
theorem lastT_at {l : List EntT} {y : EntT} {j : Nat} (hj : j = stN l - 1) (h : ¬ ((stN l : Nat) : Int) = 0) (hy : l[j]? = some y) : y.ts = lastT l := by
  subst hj
  unfold lastT; rw [if_neg (by omega), List.getD_eq_getElem?_getD, hy]; rfl
def sumN (l : List EntT) : Int := l.foldl (fun n e => n + (e.opl.length : Int)) 0
theorem sumN_snoc (l : List EntT) (y : EntT) : sumN (l ++ [y]) = sumN l + (y.opl.length : Int) := by unfold sumN; rw [List.foldl_append]; rfl
theorem sumN_step {l : List EntT} {i : Nat} {y : EntT} (h : l[i]? = some y) : sumN (l.take (i + 1)) = sumN (l.take i) + (y.opl.length : Int) := by rw [takeE h, sumN_snoc]
theorem sumN_le {w : World} : ∀ (l : List EntT), (∀ z ∈ l, EntOkS w z) → 0 ≤ sumN l ∧ sumN l ≤ 3518437208883 * (l.length : Int) := by
  intro l
  have key : ∀ (l : List EntT) (m : Int), (∀ z ∈ l, EntOkS w z) → m ≤ l.foldl (fun n e => n + (e.opl.length : Int)) m ∧ l.foldl (fun n e => n + (e.opl.length : Int)) m ≤ m + 3518437208883 * (l.length : Int) := by
    intro l
    induction l with
    | nil => intro m _; simp
    | cons e r ih =>
      intro m h
      have h1 := ih (m + (e.opl.length : Int)) (fun z hz => h z (by simp [hz]))
      have h2 := (h e (by simp)).2
      simp only [List.foldl_cons, List.length_cons]
      omega
  intro h
  have := key l 0 h
  unfold sumN; omega
theorem sumN_takes {w : World} {l : List EntT} (h : ∀ z ∈ l, EntOkS w z) (i : Nat) (hi : i ≤ 200) : 0 ≤ sumN (l.take i) ∧ sumN (l.take i) ≤ 703687441776600 := by
  have := sumN_le (l.take i) (fun z hz => h z (List.mem_of_mem_take hz))
  have h2 : (l.take i).length ≤ 200 := by rw [List.length_take]; omega
  omega
def muchN (l : List EntT) : Int := (l.length : Int) + sumN (l.take 200)

set_option maxRecDepth 100000 in
theorem itemRight_any (v : Value) (l : List EntT) (w : World) (hs : SliceOf entE 4 w v l) (hok : ∀ z ∈ l, EntOk w z) :
    Calls Try.prog 30 #[v] w fun e w' => e = .returned (.int .i64 (rightI l)) ∧ Below w.heap.size w w' := by
  have hB0 := Below.refl w.heap.size w
  have hl_hs := sl_len hs
  refine co_enter (n := 60) Try.func30 rfl rfl rfl [(0, v)] rfl (fun a h0 => ?_)
  refine co_seq ?_
  refine co_reg ?_
  refine pl_val (v := .int .i64 0) h0 rfl rfl rfl (by kernel_rfl) (by kernel_rfl) (by kernel_rfl) (fun a1 h1 => ?_); clear h0
  refine pl_nil ?_
  refine co_then ?_
  refine co_seq ?_
  refine co_reg ?_
  refine pl_want h1 rfl rfl rfl (op_makeG arr2K intK 0 (by kernel_rfl) (by kernel_rfl) rfl) ?_; clear h1
  rintro _ w3 a2 ⟨B4, rfl, hN5, hz6, hm7, hg8⟩ h2
  have hB9 := hb_new hB0 hg8
  have hz10 := hB9.size
  have hz11 := hg8.size
  have hl12 := hm7.lt
  refine pl_val (v := .map (some B4)) h2 rfl rfl rfl (by kernel_rfl) (by kernel_rfl) (by kernel_rfl) (fun a13 h13 => ?_); clear h2
  refine pl_nil ?_
  refine co_then ?_
  refine co_seq ?_
  refine co_seq ?_
  refine co_reg ?_
  refine pl_val (v := v) h13 rfl rfl rfl (by kernel_rfl) (by kernel_rfl) (by kernel_rfl) (fun a14 h14 => ?_); clear h13
  refine pl_val (v := .int .i64 ((l.length : Nat) : Int)) h14 rfl rfl rfl (by kernel_rfl) (by kernel_rfl) (rn_len rfl rfl Try.underlying48 (hs.below hB9)) (fun a15 h15 => ?_); clear h14
  refine pl_val (v := .int .i64 0) h15 rfl rfl rfl (by kernel_rfl) (by kernel_rfl) (by kernel_rfl) (fun a16 h16 => ?_); clear h15
  refine pl_nil ?_
  refine co_then ?_
  refine wp_block ?_
  have h17 : Slots 60 [(0, v), (3, .map (some B4)), (8, v), (9, .int .i64 ((l.length : Nat) : Int)), (10, .int .i64 0)] _ := h16.sub ⟨rfl, rfl, rfl, rfl, rfl, trivial⟩; clear h16
  refine co_loop (fun mm a x => ∃ (i : Nat), Slots 60 [(0, v), (3, .map (some B4)), (8, v), (9, .int .i64 ((l.length : Nat) : Int)), (10, .int .i64 ((i : Nat) : Int))] a ∧ mm = l.length - i ∧ (i ≤ l.length) ∧ (rgF (l.take i) (l.drop i) = rightI l) ∧ MapG arr2K intK 0 x B4 (fun k : Int × Int => twN (l.take i) k.1 k.2) ∧ Below w.heap.size w x) (l.length - 0) ?_ ?_
  · exact ⟨0, h17.sub ⟨rfl, rfl, rfl, rfl, (slot_eq rfl (congrArg (Value.int .i64) (by first | rfl | omega))), trivial⟩, rfl, by omega, by first | rfl | exact hL', (hm7.eq (funext fun k => by simp [twN])), hB9⟩
  · rintro k18 a19 w20 ⟨i, h19, rfl, hi21, hi22, hf23, hB24⟩
    have hz25 := hB24.size
    have hl26 := hf23.lt
    have hL : rgF (l.take i) (l.drop i) = rightI l := by assumption
    refine co_seq ?_
    refine co_reg ?_
    refine pl_val (v := .bool (decide (((i : Nat) : Int) < ((l.length : Nat) : Int)))) h19 rfl rfl rfl (by kernel_rfl) (by kernel_rfl) (by kernel_rfl) (fun a27 h27 => ?_); clear h19
    refine pl_nil ?_
    refine co_then ?_
    refine co_seq ?_
    cases hc28 : (decide (((i : Nat) : Int) < ((l.length : Nat) : Int)))
    ·
      rw [hc28] at h27
      have hp29 : ¬ (((i : Nat) : Int) < ((l.length : Nat) : Int)) := of_decide_eq_false hc28
      clear hc28
      refine co_false h27 rfl ?_
      refine wp_exit ?_
      refine co_thenX ?_
      refine co_thenX ?_
      refine co_blockX ?_
      refine co_then ?_
      refine co_seq ?_
      refine co_reg ?_
      refine pl_val (v := .int .i64 0) h27 rfl rfl rfl (by kernel_rfl) (by kernel_rfl) (by kernel_rfl) (fun a30 h30 => ?_); clear h27
      refine pl_nil ?_
      refine co_then ?_
      refine wp_ret ?_
      refine co_ret1 h30 rfl rfl ?_
      exact ⟨ret_int (rg_end (i := i) hL (by omega)), hB24⟩
    ·
      rw [hc28] at h27
      have hp31 : ((i : Nat) : Int) < ((l.length : Nat) : Int) := of_decide_eq_true hc28
      clear hc28
      refine co_true h27 rfl ?_
      refine wp_skip ?_
      refine co_then ?_
      refine co_seq ?_
      refine wp_block ?_
      refine co_seq ?_
      refine co_reg ?_
      refine pl_val (v := .int .i64 ((i : Nat) : Int)) h27 rfl rfl rfl (by kernel_rfl) (by kernel_rfl) (by kernel_rfl) (fun a32 h32 => ?_); clear h27
      obtain ⟨y33, hy33⟩ : ∃ z, l[i]? = some z := ⟨_, List.getElem?_eq_getElem (by first | omega | (simp; done) | (simp; omega))⟩
      have oky33 := hok _ (List.mem_of_getElem? hy33)
      have k34 : 0 ≤ y33.ts := oky33.ts0
      have k35 : y33.ts < 18446744073709551616 := oky33.ts1
      refine pl_val (v := .pointer (some ⟨(blkOf v), offOf v + i * 4, none⟩)) h32 rfl rfl rfl (by kernel_rfl) (by kernel_rfl) (rn_index rfl rfl rfl Try.underlying48 Try.sizeOf34 (hs.below hB24) (by omega) (by first | omega | (simp; done) | (simp; omega))) (fun a36 h36 => ?_); clear h32
      refine pl_val (v := .agg #[.int .i64 y33.client, .int .i64 y33.req, y33.ops, .int .u64 y33.ts]) h36 rfl rfl rfl (by kernel_rfl) (by kernel_rfl) (rn_loadN rfl rfl Try.underlying34 rfl (by kernel_rfl) (sl_at (hs.below hB24) hy33)) (fun a37 h37 => ?_); clear h36
      refine pl_want h37 rfl rfl rfl (op_new (v := fun N => .pointer (some ⟨N, 0, none⟩)) (T := 34) (cs := #[.int .i64 0, .int .i64 0, .slice none 0 0, .int .u64 0]) (by kernel_rfl) (by kernel_rfl) (by kernel_rfl)) ?_; clear h37
      rintro _ w39 a38 ⟨N40, rfl, hN43, hz44, hk42, hg41⟩ h38
      have hB45 := hb_new hB24 hg41
      have hz46 := hB45.size
      have hz47 := hg41.size
      have hI48 := hf23.kept hg41 (by simp)
      try dsimp only at h38
      refine pl_val (v := .int .i64 ((i : Nat) : Int)) h38 rfl rfl rfl (by kernel_rfl) (by kernel_rfl) (by kernel_rfl) (fun a49 h49 => ?_); clear h38
      refine pl_doW h49 rfl rfl (op_storeN rfl rfl rfl (all_cons rfl (all_cons rfl (all_cons (sl_one (oky33.ops.below hB45)) (all_cons rfl all_nil)))) (by kernel_rfl) hk42 rfl) ?_; clear h49
      rintro _ w51 a50 ⟨hk52, hz53, hg54⟩ h50
      have hk52' : Blk w51 N40 34 #[.int .i64 y33.client, .int .i64 y33.req, y33.ops, .int .u64 y33.ts] := hk52; clear hk52
      have hB55 := hb_at hB45 hg54 (by omega)
      have hz56 := hB55.size
      have hz57 := hg54.size
      have hI58 := hI48.kept hg54 (by simp; omega)
      refine pl_nil ?_
      refine co_then ?_
      refine co_seq ?_
      refine co_seq ?_
      refine co_reg ?_
      refine pl_val (v := .agg #[.int .i64 y33.client, .int .i64 y33.req, y33.ops, .int .u64 y33.ts]) h50 rfl rfl rfl (by kernel_rfl) (by kernel_rfl) (rn_loadN rfl rfl Try.underlying34 rfl (by kernel_rfl) hk52'.all) (fun a59 h59 => ?_); clear h50
      refine pl_want h59 rfl rfl rfl (op_call (args := #[.agg #[.int .i64 y33.client, .int .i64 y33.req, y33.ops, .int .u64 y33.ts]]) (R := fun res xw => res = .int .i64 (chkB y33.client y33.req y33.opl) ∧ Below w51.heap.size w51 xw) rfl rfl rfl (by kernel_rfl) (by kernel_rfl) (Try.call21 _ _) (itemCheck_any y33.client y33.req y33.ops y33.opl y33.ts w51 (oky33.ops.below hB55)) (by rintro e x ⟨rfl, hb62⟩; exact ⟨_, rfl, ⟨rfl, hb62⟩⟩)) ?_; clear h59
      rintro _ w61 a60 ⟨rfl, hb62⟩ h60
      have hB63 := hb_call hB55 hb62
      have hz64 := hB63.size
      have hz65 := hb62.size
      have hI66 := hI58.kept (below_grown hb62) (by simp)
      have hk67 := hk52'.below hb62
      refine pl_val (v := .int .i64 (chkB y33.client y33.req y33.opl)) h60 rfl rfl rfl (by kernel_rfl) (by kernel_rfl) (by kernel_rfl) (fun a68 h68 => ?_); clear h60
      refine pl_nil ?_
      refine co_then ?_
      refine co_seq ?_
      refine co_reg ?_
      refine pl_val (v := .int .i64 (chkB y33.client y33.req y33.opl)) h68 rfl rfl rfl (by kernel_rfl) (by kernel_rfl) (by kernel_rfl) (fun a69 h69 => ?_); clear h68
      refine pl_val (v := .bool (chkB y33.client y33.req y33.opl != 0)) h69 rfl rfl rfl (by kernel_rfl) (by kernel_rfl) (by kernel_rfl) (fun a70 h70 => ?_); clear h69
      refine pl_nil ?_
      refine co_then ?_
      cases hc71 : (chkB y33.client y33.req y33.opl != 0)
      ·
        rw [hc71] at h70
        have hp72 : ¬ (chkB y33.client y33.req y33.opl ≠ 0) := by first | simpa using hc71 | simpa [and_assoc] using hc71
        clear hc71
        refine co_false h70 rfl ?_
        refine wp_skip ?_
        refine co_then ?_
        refine co_seq ?_
        refine co_seq ?_
        refine co_reg ?_
        refine pl_val (v := .map (some B4)) h70 rfl rfl rfl (by kernel_rfl) (by kernel_rfl) (by kernel_rfl) (fun a73 h73 => ?_); clear h70
        refine pl_val (v := .agg #[.int .i64 y33.client, .int .i64 y33.req, y33.ops, .int .u64 y33.ts]) h73 rfl rfl rfl (by kernel_rfl) (by kernel_rfl) (rn_loadN rfl rfl Try.underlying34 rfl (by kernel_rfl) hk67.all) (fun a74 h74 => ?_); clear h73
        refine pl_want h74 rfl rfl rfl (op_call (args := #[.agg #[.int .i64 y33.client, .int .i64 y33.req, y33.ops, .int .u64 y33.ts]]) (R := fun res xw => res = .agg #[.int .i64 y33.client, .int .i64 y33.req] ∧ Below w61.heap.size w61 xw) rfl rfl rfl (by kernel_rfl) (by kernel_rfl) (Try.call67 _ _) (itemWho_any y33.client y33.req y33.ops y33.ts w61 ) (by rintro e x ⟨rfl, hb77⟩; exact ⟨_, rfl, ⟨rfl, hb77⟩⟩)) ?_; clear h74
        rintro _ w76 a75 ⟨rfl, hb77⟩ h75
        have hB78 := hb_call hB63 hb77
        have hz79 := hB78.size
        have hz80 := hb77.size
        have hI81 := hI66.kept (below_grown hb77) (by simp)
        have hk82 := hk67.below hb77
        have k83 : 0 ≤ twN (l.take i) y33.client y33.req ∧ twN (l.take i) y33.client y33.req ≤ i := by have := twN_pos (l.take i) y33.client y33.req; rw [List.length_take] at this; omega
        refine pl_val (v := .int .i64 (twN (l.take i) y33.client y33.req)) h75 rfl rfl rfl (by kernel_rfl) (by kernel_rfl) (rn_lookG (a := (y33.client, y33.req)) arr2_kl rfl rfl rfl Try.underlying133 int_z hI81) (fun a84 h84 => ?_); clear h75
        refine pl_val (v := .bool (decide (twN (l.take i) y33.client y33.req > 0))) h84 rfl rfl rfl (by kernel_rfl) (by kernel_rfl) (by kernel_rfl) (fun a85 h85 => ?_); clear h84
        refine pl_nil ?_
        refine co_then ?_
        cases hc86 : (decide (twN (l.take i) y33.client y33.req > 0))
        ·
          rw [hc86] at h85
          have hp87 : ¬ (twN (l.take i) y33.client y33.req > 0) := of_decide_eq_false hc86
          clear hc86
          refine co_false h85 rfl ?_
          refine wp_skip ?_
          refine co_then ?_
          refine co_seq ?_
          refine dr_gen (fun x => Below w.heap.size w x ∧ Blk x N40 34 #[.int .i64 y33.client, .int .i64 y33.req, y33.ops, .int .u64 y33.ts]) (by kernel_rfl) (fun w88 hg89 => ?_) (fun w88 hg89 => ?_)
          ·
            have hB90 := hb_new hB78 hg89
            have hz91 := hB90.size
            have hz92 := hg89.size
            have hI93 := hI81.kept hg89 (by simp)
            have hk94 := hk82.kept hg89 (by simp)
            exact ⟨hB90, hk94⟩
          have hB95 := hb_new hB78 hg89
          have hz96 := hB95.size
          have hz97 := hg89.size
          have hI98 := hI81.kept hg89 (by simp)
          have hk99 := hk82.kept hg89 (by simp)
          refine dr_take (i := 0) (v := .map (some B4)) h85 rfl (by kernel_rfl) (by kernel_rfl) (by kernel_rfl) rfl rfl rfl ⟨hB95, hk99⟩ (by kernel_rfl) (fun _ _ => by kernel_rfl) (fun a100 h100 => ?_); clear h85
          refine dr_take (i := 1) (v := .agg #[.int .i64 y33.client, .int .i64 y33.req, y33.ops, .int .u64 y33.ts]) h100 rfl (by kernel_rfl) (by kernel_rfl) (by kernel_rfl) rfl rfl rfl ⟨hB95, hk99⟩ (by kernel_rfl) (fun x hx => (rn_loadN rfl rfl Try.underlying34 rfl (by kernel_rfl) hx.2.all)) (fun a101 h101 => ?_); clear h100
          refine dr_one (i := 2) h101 rfl (by kernel_rfl) rfl rfl rfl (op_call (args := #[.agg #[.int .i64 y33.client, .int .i64 y33.req, y33.ops, .int .u64 y33.ts]]) (R := fun res xw => res = .agg #[.int .i64 y33.client, .int .i64 y33.req] ∧ Below w88.heap.size w88 xw) rfl rfl rfl (by kernel_rfl) (by kernel_rfl) (Try.call67 _ _) (itemWho_any y33.client y33.req y33.ops y33.ts w88 ) (by rintro e x ⟨rfl, hb104⟩; exact ⟨_, rfl, ⟨rfl, hb104⟩⟩)) ?_ ?_; clear h101
          ·
            rintro _ w103 ⟨rfl, hb104⟩
            have hB105 := hb_call hB95 hb104
            have hz106 := hB105.size
            have hz107 := hb104.size
            have hI108 := hI98.kept (below_grown hb104) (by simp)
            have hk109 := hk99.below hb104
            exact ⟨hB105, hk109⟩
          rintro _ w103 a102 ⟨rfl, hb104⟩ h102
          have hB105 := hb_call hB95 hb104
          have hz106 := hB105.size
          have hz107 := hb104.size
          have hI108 := hI98.kept (below_grown hb104) (by simp)
          have hk109 := hk99.below hb104
          refine dr_many [3, 5] (by kernel_rfl) (by simp) ⟨?_, ?_, trivial⟩
          ·
            have k110 : 0 ≤ twN (l.take i) y33.client y33.req ∧ twN (l.take i) y33.client y33.req ≤ i := by have := twN_pos (l.take i) y33.client y33.req; rw [List.length_take] at this; omega
            refine dr_opVal (i := 3) (v := .int .i64 (twN (l.take i) y33.client y33.req)) h102 rfl rfl rfl rfl (by kernel_rfl) rfl (rn_lookG (a := (y33.client, y33.req)) arr2_kl rfl rfl rfl Try.underlying133 int_z hI108) ⟨hB105, hk109⟩ (fun a111 h111 => ?_); clear h102
            refine dr_take (i := 4) (v := .int .i64 ((twN (l.take i) y33.client y33.req) + 1)) h111 rfl (by kernel_rfl) (by kernel_rfl) (by kernel_rfl) rfl rfl rfl ⟨hB105, hk109⟩ (by kernel_rfl) (fun x hx => (rn_arith rfl rfl rfl rfl rfl rfl (IntWalk.i64_in _ (by omega)))) (fun a112 h112 => ?_); clear h111
            refine dr_one (i := 5) h112 rfl (by kernel_rfl) rfl rfl rfl (op_entryG (a := (y33.client, y33.req)) arr2_kl rfl rfl rfl Try.underlying133 int_z hI108) ?_ ?_; clear h112
            ·
              rintro _ w114 ⟨s115, rfl, hm116, hS117, hz118, hg119⟩
              have hB120 := hb_at hB105 hg119 (by omega)
              have hz121 := hB120.size
              have hz122 := hg119.size
              have hk123 := hk109.kept hg119 (by simp; omega)
              have hl124 := hm116.lt
              exact ⟨hB120, hk123⟩
            rintro _ w114 a113 ⟨s115, rfl, hm116, hS117, hz118, hg119⟩ h113
            have hB120 := hb_at hB105 hg119 (by omega)
            have hz121 := hB120.size
            have hz122 := hg119.size
            have hk123 := hk109.kept hg119 (by simp; omega)
            have hl124 := hm116.lt
            refine dr_take (i := 6) (v := .int .i64 ((s115 : Nat) : Int)) h113 rfl (by kernel_rfl) (by kernel_rfl) (by kernel_rfl) rfl rfl rfl ⟨hB120, hk123⟩ (by kernel_rfl) (fun _ _ => by kernel_rfl) (fun a125 h125 => ?_); clear h113
            refine dr_oneDo (i := 7) h125 rfl (by kernel_rfl) rfl rfl (op_entryStoreG (a := (y33.client, y33.req)) (v := ((twN (l.take i) y33.client y33.req) + 1)) (st := s115) arr2K_inj rfl rfl rfl rfl hm116 hS117) ?_ ?_; clear h125
            ·
              rintro _ w127 ⟨hm128, hz129, hg130⟩
              have hB131 := hb_at hB120 hg130 (by omega)
              have hz132 := hB131.size
              have hz133 := hg130.size
              have hk134 := hk123.kept hg130 (by simp; omega)
              have hl135 := hm128.lt
              exact ⟨hB131, hk134⟩
            rintro _ w127 a126 ⟨hm128, hz129, hg130⟩ h126
            have hB131 := hb_at hB120 hg130 (by omega)
            have hz132 := hB131.size
            have hz133 := hg130.size
            have hk134 := hk123.kept hg130 (by simp; omega)
            have hl135 := hm128.lt
            refine dr_done (by kernel_rfl) ?_
            refine co_then ?_
            refine co_seq ?_
            refine dr_eq (by kernel_rfl) (fun w136 hg137 => ?_)
            have hB138 := hb_new hB131 hg137
            have hz139 := hB138.size
            have hz140 := hg137.size
            have hk141 := hk134.kept hg137 (by simp)
            have hI142 := hm128.kept hg137 (by simp)
            refine dr_take (i := 0) (v := .pointer (some ⟨N40, 3, none⟩)) h126 rfl (by kernel_rfl) (by kernel_rfl) (by kernel_rfl) rfl rfl rfl rfl (by kernel_rfl) (fun _ _ => by kernel_rfl) (fun a143 h143 => ?_); clear h126
            refine dr_take (i := 1) (v := .int .u64 y33.ts) h143 rfl (by kernel_rfl) (by kernel_rfl) (by kernel_rfl) rfl rfl rfl rfl (by kernel_rfl) (fun x hx => by subst hx; exact (rn_load1 rfl rfl Try.isAgg32 (hk141.cell rfl))) (fun a144 h144 => ?_); clear h143
            refine dr_take (i := 2) (v := .bool (y33.ts != 0)) h144 rfl (by kernel_rfl) (by kernel_rfl) (by kernel_rfl) rfl rfl rfl rfl (by kernel_rfl) (fun _ _ => by kernel_rfl) (fun a145 h145 => ?_); clear h144
            refine dr_take (i := 3) (v := .bool (y33.ts != 0)) h145 rfl (by kernel_rfl) (by kernel_rfl) (by kernel_rfl) rfl rfl rfl rfl (by kernel_rfl) (fun _ _ => by kernel_rfl) (fun a146 h146 => ?_); clear h145
            cases hc147 : (y33.ts != 0)
            ·
              rw [hc147] at h146
              have hp148 : ¬ (y33.ts ≠ 0) := by first | simpa using hc147 | simpa [and_assoc] using hc147
              clear hc147
              refine dr_skip (i := 4) h146 rfl (by kernel_rfl) (by kernel_rfl) (by kernel_rfl) rfl rfl rfl rfl (fun a149 h149 => ?_); clear h146
              refine dr_skip (i := 5) h149 rfl (by kernel_rfl) (by kernel_rfl) (by kernel_rfl) rfl rfl rfl rfl (fun a150 h150 => ?_); clear h149
              refine dr_take (i := 6) (v := .bool false) h150 rfl (by kernel_rfl) (by kernel_rfl) (by kernel_rfl) rfl rfl rfl rfl (by kernel_rfl) (fun _ _ => by kernel_rfl) (fun a151 h151 => ?_); clear h150
              refine dr_take (i := 7) (v := .bool false) h151 rfl (by kernel_rfl) (by kernel_rfl) (by kernel_rfl) rfl rfl rfl rfl (by kernel_rfl) (fun _ _ => by kernel_rfl) (fun a152 h152 => ?_); clear h151
              refine dr_skip (i := 8) h152 rfl (by kernel_rfl) (by kernel_rfl) (by kernel_rfl) rfl rfl rfl rfl (fun a153 h153 => ?_); clear h152
              refine dr_skip (i := 9) h153 rfl (by kernel_rfl) (by kernel_rfl) (by kernel_rfl) rfl rfl rfl rfl (fun a154 h154 => ?_); clear h153
              refine dr_skip (i := 10) h154 rfl (by kernel_rfl) (by kernel_rfl) (by kernel_rfl) rfl rfl rfl rfl (fun a155 h155 => ?_); clear h154
              refine dr_skip (i := 11) h155 rfl (by kernel_rfl) (by kernel_rfl) (by kernel_rfl) rfl rfl rfl rfl (fun a156 h156 => ?_); clear h155
              refine dr_skip (i := 12) h156 rfl (by kernel_rfl) (by kernel_rfl) (by kernel_rfl) rfl rfl rfl rfl (fun a157 h157 => ?_); clear h156
              refine dr_skip (i := 13) h157 rfl (by kernel_rfl) (by kernel_rfl) (by kernel_rfl) rfl rfl rfl rfl (fun a158 h158 => ?_); clear h157
              refine dr_skip (i := 14) h158 rfl (by kernel_rfl) (by kernel_rfl) (by kernel_rfl) rfl rfl rfl rfl (fun a159 h159 => ?_); clear h158
              refine dr_skip (i := 15) h159 rfl (by kernel_rfl) (by kernel_rfl) (by kernel_rfl) rfl rfl rfl rfl (fun a160 h160 => ?_); clear h159
              refine dr_skip (i := 16) h160 rfl (by kernel_rfl) (by kernel_rfl) (by kernel_rfl) rfl rfl rfl rfl (fun a161 h161 => ?_); clear h160
              refine dr_skip (i := 17) h161 rfl (by kernel_rfl) (by kernel_rfl) (by kernel_rfl) rfl rfl rfl rfl (fun a162 h162 => ?_); clear h161
              refine dr_skip (i := 18) h162 rfl (by kernel_rfl) (by kernel_rfl) (by kernel_rfl) rfl rfl rfl rfl (fun a163 h163 => ?_); clear h162
              refine dr_skip (i := 19) h163 rfl (by kernel_rfl) (by kernel_rfl) (by kernel_rfl) rfl rfl rfl rfl (fun a164 h164 => ?_); clear h163
              refine dr_skip (i := 20) h164 rfl (by kernel_rfl) (by kernel_rfl) (by kernel_rfl) rfl rfl rfl rfl (fun a165 h165 => ?_); clear h164
              refine dr_skip (i := 21) h165 rfl (by kernel_rfl) (by kernel_rfl) (by kernel_rfl) rfl rfl rfl rfl (fun a166 h166 => ?_); clear h165
              refine dr_skip (i := 22) h166 rfl (by kernel_rfl) (by kernel_rfl) (by kernel_rfl) rfl rfl rfl rfl (fun a167 h167 => ?_); clear h166
              refine dr_skip (i := 23) h167 rfl (by kernel_rfl) (by kernel_rfl) (by kernel_rfl) rfl rfl rfl rfl (fun a168 h168 => ?_); clear h167
              refine dr_skip (i := 24) h168 rfl (by kernel_rfl) (by kernel_rfl) (by kernel_rfl) rfl rfl rfl rfl (fun a169 h169 => ?_); clear h168
              refine dr_skip (i := 25) h169 rfl (by kernel_rfl) (by kernel_rfl) (by kernel_rfl) rfl rfl rfl rfl (fun a170 h170 => ?_); clear h169
              refine dr_take (i := 26) (v := .bool false) h170 rfl (by kernel_rfl) (by kernel_rfl) (by kernel_rfl) rfl rfl rfl rfl (by kernel_rfl) (fun _ _ => by kernel_rfl) (fun a171 h171 => ?_); clear h170
              refine dr_done (by kernel_rfl) ?_
              refine co_then ?_
              refine co_false h171 rfl ?_
              refine wp_skip ?_
              refine co_blockN ?_
              refine co_then ?_
              refine co_reg ?_
              refine pl_val (v := .int .i64 ((i + 1 : Nat) : Int)) h171 rfl rfl rfl (by kernel_rfl) (by kernel_rfl) (rn_arith' rfl rfl rfl rfl rfl rfl (IntWalk.i64_in _ (by omega)) (by omega)) (fun a172 h172 => ?_); clear h171
              refine pl_val (v := .int .i64 ((i + 1 : Nat) : Int)) h172 rfl rfl rfl (by kernel_rfl) (by kernel_rfl) (by kernel_rfl) (fun a173 h173 => ?_); clear h172
              refine pl_nil ?_
              refine co_then ?_
              refine ⟨(l.length - (i + 1)), by omega, ?_⟩
              have hbd : badT (l.take i) y33 = false := by first | exact bad_ts (by omega) | exact bad_0 (by omega)
              have hL' := rg_step (i := i) hL hy33 (by omega) (by omega) hbd
              exact ⟨i + 1, h173.sub ⟨rfl, rfl, rfl, rfl, rfl, trivial⟩, rfl, by omega, by first | rfl | exact hL', (hI142.eq (tw_step hy33)), hB138⟩
            ·
              rw [hc147] at h146
              have hp174 : y33.ts ≠ 0 := by first | simpa using hc147 | simpa [and_assoc] using hc147
              clear hc147
              refine dr_take (i := 4) (v := .int .i64 ((i : Nat) : Int)) h146 rfl (by kernel_rfl) (by kernel_rfl) (by kernel_rfl) rfl rfl rfl rfl (by kernel_rfl) (fun _ _ => by kernel_rfl) (fun a175 h175 => ?_); clear h146
              refine dr_take (i := 5) (v := .bool (decide (((i : Nat) : Int) > 0))) h175 rfl (by kernel_rfl) (by kernel_rfl) (by kernel_rfl) rfl rfl rfl rfl (by kernel_rfl) (fun _ _ => by kernel_rfl) (fun a176 h176 => ?_); clear h175
              refine dr_take (i := 6) (v := .bool (decide (((i : Nat) : Int) > 0))) h176 rfl (by kernel_rfl) (by kernel_rfl) (by kernel_rfl) rfl rfl rfl rfl (by kernel_rfl) (fun _ _ => by kernel_rfl) (fun a177 h177 => ?_); clear h176
              refine dr_take (i := 7) (v := .bool (decide (((i : Nat) : Int) > 0))) h177 rfl (by kernel_rfl) (by kernel_rfl) (by kernel_rfl) rfl rfl rfl rfl (by kernel_rfl) (fun _ _ => by kernel_rfl) (fun a178 h178 => ?_); clear h177
              cases hc179 : (decide (((i : Nat) : Int) > 0))
              ·
                rw [hc179] at h178
                have hp180 : ¬ (((i : Nat) : Int) > 0) := of_decide_eq_false hc179
                clear hc179
                refine dr_skip (i := 8) h178 rfl (by kernel_rfl) (by kernel_rfl) (by kernel_rfl) rfl rfl rfl rfl (fun a181 h181 => ?_); clear h178
                refine dr_skip (i := 9) h181 rfl (by kernel_rfl) (by kernel_rfl) (by kernel_rfl) rfl rfl rfl rfl (fun a182 h182 => ?_); clear h181
                refine dr_skip (i := 10) h182 rfl (by kernel_rfl) (by kernel_rfl) (by kernel_rfl) rfl rfl rfl rfl (fun a183 h183 => ?_); clear h182
                refine dr_skip (i := 11) h183 rfl (by kernel_rfl) (by kernel_rfl) (by kernel_rfl) rfl rfl rfl rfl (fun a184 h184 => ?_); clear h183
                refine dr_skip (i := 12) h184 rfl (by kernel_rfl) (by kernel_rfl) (by kernel_rfl) rfl rfl rfl rfl (fun a185 h185 => ?_); clear h184
                refine dr_skip (i := 13) h185 rfl (by kernel_rfl) (by kernel_rfl) (by kernel_rfl) rfl rfl rfl rfl (fun a186 h186 => ?_); clear h185
                refine dr_skip (i := 14) h186 rfl (by kernel_rfl) (by kernel_rfl) (by kernel_rfl) rfl rfl rfl rfl (fun a187 h187 => ?_); clear h186
                refine dr_skip (i := 15) h187 rfl (by kernel_rfl) (by kernel_rfl) (by kernel_rfl) rfl rfl rfl rfl (fun a188 h188 => ?_); clear h187
                refine dr_skip (i := 16) h188 rfl (by kernel_rfl) (by kernel_rfl) (by kernel_rfl) rfl rfl rfl rfl (fun a189 h189 => ?_); clear h188
                refine dr_skip (i := 17) h189 rfl (by kernel_rfl) (by kernel_rfl) (by kernel_rfl) rfl rfl rfl rfl (fun a190 h190 => ?_); clear h189
                refine dr_skip (i := 18) h190 rfl (by kernel_rfl) (by kernel_rfl) (by kernel_rfl) rfl rfl rfl rfl (fun a191 h191 => ?_); clear h190
                refine dr_skip (i := 19) h191 rfl (by kernel_rfl) (by kernel_rfl) (by kernel_rfl) rfl rfl rfl rfl (fun a192 h192 => ?_); clear h191
                refine dr_skip (i := 20) h192 rfl (by kernel_rfl) (by kernel_rfl) (by kernel_rfl) rfl rfl rfl rfl (fun a193 h193 => ?_); clear h192
                refine dr_skip (i := 21) h193 rfl (by kernel_rfl) (by kernel_rfl) (by kernel_rfl) rfl rfl rfl rfl (fun a194 h194 => ?_); clear h193
                refine dr_skip (i := 22) h194 rfl (by kernel_rfl) (by kernel_rfl) (by kernel_rfl) rfl rfl rfl rfl (fun a195 h195 => ?_); clear h194
                refine dr_skip (i := 23) h195 rfl (by kernel_rfl) (by kernel_rfl) (by kernel_rfl) rfl rfl rfl rfl (fun a196 h196 => ?_); clear h195
                refine dr_skip (i := 24) h196 rfl (by kernel_rfl) (by kernel_rfl) (by kernel_rfl) rfl rfl rfl rfl (fun a197 h197 => ?_); clear h196
                refine dr_skip (i := 25) h197 rfl (by kernel_rfl) (by kernel_rfl) (by kernel_rfl) rfl rfl rfl rfl (fun a198 h198 => ?_); clear h197
                refine dr_take (i := 26) (v := .bool false) h198 rfl (by kernel_rfl) (by kernel_rfl) (by kernel_rfl) rfl rfl rfl rfl (by kernel_rfl) (fun _ _ => by kernel_rfl) (fun a199 h199 => ?_); clear h198
                refine dr_done (by kernel_rfl) ?_
                refine co_then ?_
                refine co_false h199 rfl ?_
                refine wp_skip ?_
                refine co_blockN ?_
                refine co_then ?_
                refine co_reg ?_
                refine pl_val (v := .int .i64 ((i + 1 : Nat) : Int)) h199 rfl rfl rfl (by kernel_rfl) (by kernel_rfl) (rn_arith' rfl rfl rfl rfl rfl rfl (IntWalk.i64_in _ (by omega)) (by omega)) (fun a200 h200 => ?_); clear h199
                refine pl_val (v := .int .i64 ((i + 1 : Nat) : Int)) h200 rfl rfl rfl (by kernel_rfl) (by kernel_rfl) (by kernel_rfl) (fun a201 h201 => ?_); clear h200
                refine pl_nil ?_
                refine co_then ?_
                refine ⟨(l.length - (i + 1)), by omega, ?_⟩
                have hbd : badT (l.take i) y33 = false := by first | exact bad_ts (by omega) | exact bad_0 (by omega)
                have hL' := rg_step (i := i) hL hy33 (by omega) (by omega) hbd
                exact ⟨i + 1, h201.sub ⟨rfl, rfl, rfl, rfl, rfl, trivial⟩, rfl, by omega, by first | rfl | exact hL', (hI142.eq (tw_step hy33)), hB138⟩
              ·
                rw [hc179] at h178
                have hp202 : ((i : Nat) : Int) > 0 := of_decide_eq_true hc179
                clear hc179
                refine dr_take (i := 8) (v := v) h178 rfl (by kernel_rfl) (by kernel_rfl) (by kernel_rfl) rfl rfl rfl rfl (by kernel_rfl) (fun _ _ => by kernel_rfl) (fun a203 h203 => ?_); clear h178
                refine dr_take (i := 9) (v := .int .i64 ((i : Nat) : Int)) h203 rfl (by kernel_rfl) (by kernel_rfl) (by kernel_rfl) rfl rfl rfl rfl (by kernel_rfl) (fun _ _ => by kernel_rfl) (fun a204 h204 => ?_); clear h203
                refine dr_take (i := 10) (v := .int .i64 (((i : Nat) : Int) - 1)) h204 rfl (by kernel_rfl) (by kernel_rfl) (by kernel_rfl) rfl rfl rfl rfl (by kernel_rfl) (fun x hx => by subst hx; exact (rn_arith rfl rfl rfl rfl rfl rfl (IntWalk.i64_in _ (by omega)))) (fun a205 h205 => ?_); clear h204
                obtain ⟨y206, hy206⟩ : ∃ z, l[(((i : Nat) : Int) - 1).toNat]? = some z := ⟨_, List.getElem?_eq_getElem (by first | omega | (simp; done) | (simp; omega))⟩
                have oky206 := hok _ (List.mem_of_getElem? hy206)
                have k207 : 0 ≤ y206.ts := oky206.ts0
                have k208 : y206.ts < 18446744073709551616 := oky206.ts1
                refine dr_take (i := 11) (v := .pointer (some ⟨(blkOf v), offOf v + ((((i : Nat) : Int) - 1).toNat) * 4, none⟩)) h205 rfl (by kernel_rfl) (by kernel_rfl) (by kernel_rfl) rfl rfl rfl rfl (by kernel_rfl) (fun x hx => by subst hx; exact (rn_index rfl rfl rfl Try.underlying48 Try.sizeOf34 (hs.below hB138) (by omega) (by first | omega | (simp; done) | (simp; omega)))) (fun a209 h209 => ?_); clear h205
                refine dr_take (i := 12) (v := .pointer (some ⟨(blkOf v), offOf v + ((((i : Nat) : Int) - 1).toNat) * 4 + 3, none⟩)) h209 rfl (by kernel_rfl) (by kernel_rfl) (by kernel_rfl) rfl rfl rfl rfl (by kernel_rfl) (fun _ _ => by kernel_rfl) (fun a210 h210 => ?_); clear h209
                refine dr_take (i := 13) (v := .int .u64 y206.ts) h210 rfl (by kernel_rfl) (by kernel_rfl) (by kernel_rfl) rfl rfl rfl rfl (by kernel_rfl) (fun x hx => by subst hx; exact (rn_load1 rfl rfl Try.isAgg32 ((sl_at (hs.below hB138) hy206) 3 _ rfl))) (fun a211 h211 => ?_); clear h210
                refine dr_take (i := 14) (v := .bool (y206.ts == 0)) h211 rfl (by kernel_rfl) (by kernel_rfl) (by kernel_rfl) rfl rfl rfl rfl (by kernel_rfl) (fun _ _ => by kernel_rfl) (fun a212 h212 => ?_); clear h211
                refine dr_take (i := 15) (v := .bool (y206.ts == 0)) h212 rfl (by kernel_rfl) (by kernel_rfl) (by kernel_rfl) rfl rfl rfl rfl (by kernel_rfl) (fun _ _ => by kernel_rfl) (fun a213 h213 => ?_); clear h212
                cases hc214 : (y206.ts == 0)
                ·
                  rw [hc214] at h213
                  have hp215 : ¬ (y206.ts = 0) := by first | simpa using hc214 | simpa [and_assoc] using hc214
                  clear hc214
                  refine dr_take (i := 16) (v := v) h213 rfl (by kernel_rfl) (by kernel_rfl) (by kernel_rfl) rfl rfl rfl rfl (by kernel_rfl) (fun _ _ => by kernel_rfl) (fun a216 h216 => ?_); clear h213
                  refine dr_take (i := 17) (v := .int .i64 ((i : Nat) : Int)) h216 rfl (by kernel_rfl) (by kernel_rfl) (by kernel_rfl) rfl rfl rfl rfl (by kernel_rfl) (fun _ _ => by kernel_rfl) (fun a217 h217 => ?_); clear h216
                  refine dr_take (i := 18) (v := .int .i64 (((i : Nat) : Int) - 1)) h217 rfl (by kernel_rfl) (by kernel_rfl) (by kernel_rfl) rfl rfl rfl rfl (by kernel_rfl) (fun x hx => by subst hx; exact (rn_arith rfl rfl rfl rfl rfl rfl (IntWalk.i64_in _ (by omega)))) (fun a218 h218 => ?_); clear h217
                  refine dr_take (i := 19) (v := .pointer (some ⟨(blkOf v), offOf v + ((((i : Nat) : Int) - 1).toNat) * 4, none⟩)) h218 rfl (by kernel_rfl) (by kernel_rfl) (by kernel_rfl) rfl rfl rfl rfl (by kernel_rfl) (fun x hx => by subst hx; exact (rn_index rfl rfl rfl Try.underlying48 Try.sizeOf34 (hs.below hB138) (by omega) (by first | omega | (simp; done) | (simp; omega)))) (fun a219 h219 => ?_); clear h218
                  refine dr_take (i := 20) (v := .pointer (some ⟨(blkOf v), offOf v + ((((i : Nat) : Int) - 1).toNat) * 4 + 3, none⟩)) h219 rfl (by kernel_rfl) (by kernel_rfl) (by kernel_rfl) rfl rfl rfl rfl (by kernel_rfl) (fun _ _ => by kernel_rfl) (fun a220 h220 => ?_); clear h219
                  refine dr_take (i := 21) (v := .int .u64 y206.ts) h220 rfl (by kernel_rfl) (by kernel_rfl) (by kernel_rfl) rfl rfl rfl rfl (by kernel_rfl) (fun x hx => by subst hx; exact (rn_load1 rfl rfl Try.isAgg32 ((sl_at (hs.below hB138) hy206) 3 _ rfl))) (fun a221 h221 => ?_); clear h220
                  refine dr_take (i := 22) (v := .pointer (some ⟨N40, 3, none⟩)) h221 rfl (by kernel_rfl) (by kernel_rfl) (by kernel_rfl) rfl rfl rfl rfl (by kernel_rfl) (fun _ _ => by kernel_rfl) (fun a222 h222 => ?_); clear h221
                  refine dr_take (i := 23) (v := .int .u64 y33.ts) h222 rfl (by kernel_rfl) (by kernel_rfl) (by kernel_rfl) rfl rfl rfl rfl (by kernel_rfl) (fun x hx => by subst hx; exact (rn_load1 rfl rfl Try.isAgg32 (hk141.cell rfl))) (fun a223 h223 => ?_); clear h222
                  refine dr_take (i := 24) (v := .bool (decide (y206.ts ≥ y33.ts))) h223 rfl (by kernel_rfl) (by kernel_rfl) (by kernel_rfl) rfl rfl rfl rfl (by kernel_rfl) (fun _ _ => by kernel_rfl) (fun a224 h224 => ?_); clear h223
                  refine dr_take (i := 25) (v := .bool (decide (y206.ts ≥ y33.ts))) h224 rfl (by kernel_rfl) (by kernel_rfl) (by kernel_rfl) rfl rfl rfl rfl (by kernel_rfl) (fun _ _ => by kernel_rfl) (fun a225 h225 => ?_); clear h224
                  refine dr_take (i := 26) (v := .bool (decide (y206.ts ≥ y33.ts))) h225 rfl (by kernel_rfl) (by kernel_rfl) (by kernel_rfl) rfl rfl rfl rfl (by kernel_rfl) (fun _ _ => by kernel_rfl) (fun a226 h226 => ?_); clear h225
                  refine dr_done (by kernel_rfl) ?_
                  refine co_then ?_
                  cases hc227 : (decide (y206.ts ≥ y33.ts))
                  ·
                    rw [hc227] at h226
                    have hp228 : ¬ (y206.ts ≥ y33.ts) := of_decide_eq_false hc227
                    clear hc227
                    refine co_false h226 rfl ?_
                    refine wp_skip ?_
                    refine co_blockN ?_
                    refine co_then ?_
                    refine co_reg ?_
                    refine pl_val (v := .int .i64 ((i + 1 : Nat) : Int)) h226 rfl rfl rfl (by kernel_rfl) (by kernel_rfl) (rn_arith' rfl rfl rfl rfl rfl rfl (IntWalk.i64_in _ (by omega)) (by omega)) (fun a229 h229 => ?_); clear h226
                    refine pl_val (v := .int .i64 ((i + 1 : Nat) : Int)) h229 rfl rfl rfl (by kernel_rfl) (by kernel_rfl) (by kernel_rfl) (fun a230 h230 => ?_); clear h229
                    refine pl_nil ?_
                    refine co_then ?_
                    refine ⟨(l.length - (i + 1)), by omega, ?_⟩
                    have hbd : badT (l.take i) y33 = false := by rw [bad_at (j := (((i : Nat) : Int) - 1).toNat) (by omega) (by omega) hy206]; exact decide_eq_false (by omega)
                    have hL' := rg_step (i := i) hL hy33 (by omega) (by omega) hbd
                    exact ⟨i + 1, h230.sub ⟨rfl, rfl, rfl, rfl, rfl, trivial⟩, rfl, by omega, by first | rfl | exact hL', (hI142.eq (tw_step hy33)), hB138⟩
                  ·
                    rw [hc227] at h226
                    have hp231 : y206.ts ≥ y33.ts := of_decide_eq_true hc227
                    clear hc227
                    refine co_true h226 rfl ?_
                    refine co_seq ?_
                    refine co_reg ?_
                    refine pl_val (v := .int .i64 18) h226 rfl rfl rfl (by kernel_rfl) (by kernel_rfl) (by kernel_rfl) (fun a232 h232 => ?_); clear h226
                    refine pl_nil ?_
                    refine co_then ?_
                    refine wp_ret ?_
                    refine co_blockR ?_
                    refine co_thenR ?_
                    refine co_thenR ?_
                    refine co_blockR ?_
                    refine co_thenR ?_
                    refine co_ret1 h232 rfl rfl ?_
                    have hbd : badT (l.take i) y33 = true := by rw [bad_at (j := (((i : Nat) : Int) - 1).toNat) (by omega) (by omega) hy206]; exact decide_eq_true (by omega)
                    exact ⟨ret_int (rg_bad (i := i) hL hy33 (by omega) (by omega) hbd), hB138⟩
                ·
                  rw [hc214] at h213
                  have hp233 : y206.ts = 0 := by first | simpa using hc214 | simpa [and_assoc] using hc214
                  clear hc214
                  refine dr_skip (i := 16) h213 rfl (by kernel_rfl) (by kernel_rfl) (by kernel_rfl) rfl rfl rfl rfl (fun a234 h234 => ?_); clear h213
                  refine dr_skip (i := 17) h234 rfl (by kernel_rfl) (by kernel_rfl) (by kernel_rfl) rfl rfl rfl rfl (fun a235 h235 => ?_); clear h234
                  refine dr_skip (i := 18) h235 rfl (by kernel_rfl) (by kernel_rfl) (by kernel_rfl) rfl rfl rfl rfl (fun a236 h236 => ?_); clear h235
                  refine dr_skip (i := 19) h236 rfl (by kernel_rfl) (by kernel_rfl) (by kernel_rfl) rfl rfl rfl rfl (fun a237 h237 => ?_); clear h236
                  refine dr_skip (i := 20) h237 rfl (by kernel_rfl) (by kernel_rfl) (by kernel_rfl) rfl rfl rfl rfl (fun a238 h238 => ?_); clear h237
                  refine dr_skip (i := 21) h238 rfl (by kernel_rfl) (by kernel_rfl) (by kernel_rfl) rfl rfl rfl rfl (fun a239 h239 => ?_); clear h238
                  refine dr_skip (i := 22) h239 rfl (by kernel_rfl) (by kernel_rfl) (by kernel_rfl) rfl rfl rfl rfl (fun a240 h240 => ?_); clear h239
                  refine dr_skip (i := 23) h240 rfl (by kernel_rfl) (by kernel_rfl) (by kernel_rfl) rfl rfl rfl rfl (fun a241 h241 => ?_); clear h240
                  refine dr_skip (i := 24) h241 rfl (by kernel_rfl) (by kernel_rfl) (by kernel_rfl) rfl rfl rfl rfl (fun a242 h242 => ?_); clear h241
                  refine dr_take (i := 25) (v := .bool true) h242 rfl (by kernel_rfl) (by kernel_rfl) (by kernel_rfl) rfl rfl rfl rfl (by kernel_rfl) (fun _ _ => by kernel_rfl) (fun a243 h243 => ?_); clear h242
                  refine dr_take (i := 26) (v := .bool true) h243 rfl (by kernel_rfl) (by kernel_rfl) (by kernel_rfl) rfl rfl rfl rfl (by kernel_rfl) (fun _ _ => by kernel_rfl) (fun a244 h244 => ?_); clear h243
                  refine dr_done (by kernel_rfl) ?_
                  refine co_then ?_
                  refine co_true h244 rfl ?_
                  refine co_seq ?_
                  refine co_reg ?_
                  refine pl_val (v := .int .i64 18) h244 rfl rfl rfl (by kernel_rfl) (by kernel_rfl) (by kernel_rfl) (fun a245 h245 => ?_); clear h244
                  refine pl_nil ?_
                  refine co_then ?_
                  refine wp_ret ?_
                  refine co_blockR ?_
                  refine co_thenR ?_
                  refine co_thenR ?_
                  refine co_blockR ?_
                  refine co_thenR ?_
                  refine co_ret1 h245 rfl rfl ?_
                  have hbd : badT (l.take i) y33 = true := by rw [bad_at (j := (((i : Nat) : Int) - 1).toNat) (by omega) (by omega) hy206]; exact decide_eq_true (by omega)
                  exact ⟨ret_int (rg_bad (i := i) hL hy33 (by omega) (by omega) hbd), hB138⟩
          ·
            refine dr_op (i := 5) h102 rfl rfl rfl rfl (op_entryG (a := (y33.client, y33.req)) arr2_kl rfl rfl rfl Try.underlying133 int_z hI108) ?_ ?_; clear h102
            ·
              rintro _ w247 ⟨s248, rfl, hm249, hS250, hz251, hg252⟩
              have hB253 := hb_at hB105 hg252 (by omega)
              have hz254 := hB253.size
              have hz255 := hg252.size
              have hk256 := hk109.kept hg252 (by simp; omega)
              have hl257 := hm249.lt
              exact ⟨hB253, hk256⟩
            rintro _ w247 a246 ⟨s248, rfl, hm249, hS250, hz251, hg252⟩ h246
            have hB253 := hb_at hB105 hg252 (by omega)
            have hz254 := hB253.size
            have hz255 := hg252.size
            have hk256 := hk109.kept hg252 (by simp; omega)
            have hl257 := hm249.lt
            refine dr_take (i := 6) (v := .int .i64 ((s248 : Nat) : Int)) h246 rfl (by kernel_rfl) (by kernel_rfl) (by kernel_rfl) rfl rfl rfl ⟨hB253, hk256⟩ (by kernel_rfl) (fun _ _ => by kernel_rfl) (fun a258 h258 => ?_); clear h246
            refine dr_many [3] (by kernel_rfl) (by simp) ⟨?_, trivial⟩
            ·
              have k259 : 0 ≤ twN (l.take i) y33.client y33.req ∧ twN (l.take i) y33.client y33.req ≤ i := by have := twN_pos (l.take i) y33.client y33.req; rw [List.length_take] at this; omega
              refine dr_opVal (i := 3) (v := .int .i64 (twN (l.take i) y33.client y33.req)) h258 rfl rfl rfl rfl (by kernel_rfl) rfl (rn_lookG (a := (y33.client, y33.req)) arr2_kl rfl rfl rfl Try.underlying133 int_z hm249) ⟨hB253, hk256⟩ (fun a260 h260 => ?_); clear h258
              refine dr_take (i := 4) (v := .int .i64 ((twN (l.take i) y33.client y33.req) + 1)) h260 rfl (by kernel_rfl) (by kernel_rfl) (by kernel_rfl) rfl rfl rfl ⟨hB253, hk256⟩ (by kernel_rfl) (fun x hx => (rn_arith rfl rfl rfl rfl rfl rfl (IntWalk.i64_in _ (by omega)))) (fun a261 h261 => ?_); clear h260
              refine dr_oneDo (i := 7) h261 rfl (by kernel_rfl) rfl rfl (op_entryStoreG (a := (y33.client, y33.req)) (v := ((twN (l.take i) y33.client y33.req) + 1)) (st := s248) arr2K_inj rfl rfl rfl rfl hm249 hS250) ?_ ?_; clear h261
              ·
                rintro _ w263 ⟨hm264, hz265, hg266⟩
                have hB267 := hb_at hB253 hg266 (by omega)
                have hz268 := hB267.size
                have hz269 := hg266.size
                have hk270 := hk256.kept hg266 (by simp; omega)
                have hl271 := hm264.lt
                exact ⟨hB267, hk270⟩
              rintro _ w263 a262 ⟨hm264, hz265, hg266⟩ h262
              have hB267 := hb_at hB253 hg266 (by omega)
              have hz268 := hB267.size
              have hz269 := hg266.size
              have hk270 := hk256.kept hg266 (by simp; omega)
              have hl271 := hm264.lt
              refine dr_done (by kernel_rfl) ?_
              refine co_then ?_
              refine co_seq ?_
              refine dr_eq (by kernel_rfl) (fun w272 hg273 => ?_)
              have hB274 := hb_new hB267 hg273
              have hz275 := hB274.size
              have hz276 := hg273.size
              have hk277 := hk270.kept hg273 (by simp)
              have hI278 := hm264.kept hg273 (by simp)
              refine dr_take (i := 0) (v := .pointer (some ⟨N40, 3, none⟩)) h262 rfl (by kernel_rfl) (by kernel_rfl) (by kernel_rfl) rfl rfl rfl rfl (by kernel_rfl) (fun _ _ => by kernel_rfl) (fun a279 h279 => ?_); clear h262
              refine dr_take (i := 1) (v := .int .u64 y33.ts) h279 rfl (by kernel_rfl) (by kernel_rfl) (by kernel_rfl) rfl rfl rfl rfl (by kernel_rfl) (fun x hx => by subst hx; exact (rn_load1 rfl rfl Try.isAgg32 (hk277.cell rfl))) (fun a280 h280 => ?_); clear h279
              refine dr_take (i := 2) (v := .bool (y33.ts != 0)) h280 rfl (by kernel_rfl) (by kernel_rfl) (by kernel_rfl) rfl rfl rfl rfl (by kernel_rfl) (fun _ _ => by kernel_rfl) (fun a281 h281 => ?_); clear h280
              refine dr_take (i := 3) (v := .bool (y33.ts != 0)) h281 rfl (by kernel_rfl) (by kernel_rfl) (by kernel_rfl) rfl rfl rfl rfl (by kernel_rfl) (fun _ _ => by kernel_rfl) (fun a282 h282 => ?_); clear h281
              cases hc283 : (y33.ts != 0)
              ·
                rw [hc283] at h282
                have hp284 : ¬ (y33.ts ≠ 0) := by first | simpa using hc283 | simpa [and_assoc] using hc283
                clear hc283
                refine dr_skip (i := 4) h282 rfl (by kernel_rfl) (by kernel_rfl) (by kernel_rfl) rfl rfl rfl rfl (fun a285 h285 => ?_); clear h282
                refine dr_skip (i := 5) h285 rfl (by kernel_rfl) (by kernel_rfl) (by kernel_rfl) rfl rfl rfl rfl (fun a286 h286 => ?_); clear h285
                refine dr_take (i := 6) (v := .bool false) h286 rfl (by kernel_rfl) (by kernel_rfl) (by kernel_rfl) rfl rfl rfl rfl (by kernel_rfl) (fun _ _ => by kernel_rfl) (fun a287 h287 => ?_); clear h286
                refine dr_take (i := 7) (v := .bool false) h287 rfl (by kernel_rfl) (by kernel_rfl) (by kernel_rfl) rfl rfl rfl rfl (by kernel_rfl) (fun _ _ => by kernel_rfl) (fun a288 h288 => ?_); clear h287
                refine dr_skip (i := 8) h288 rfl (by kernel_rfl) (by kernel_rfl) (by kernel_rfl) rfl rfl rfl rfl (fun a289 h289 => ?_); clear h288
                refine dr_skip (i := 9) h289 rfl (by kernel_rfl) (by kernel_rfl) (by kernel_rfl) rfl rfl rfl rfl (fun a290 h290 => ?_); clear h289
                refine dr_skip (i := 10) h290 rfl (by kernel_rfl) (by kernel_rfl) (by kernel_rfl) rfl rfl rfl rfl (fun a291 h291 => ?_); clear h290
                refine dr_skip (i := 11) h291 rfl (by kernel_rfl) (by kernel_rfl) (by kernel_rfl) rfl rfl rfl rfl (fun a292 h292 => ?_); clear h291
                refine dr_skip (i := 12) h292 rfl (by kernel_rfl) (by kernel_rfl) (by kernel_rfl) rfl rfl rfl rfl (fun a293 h293 => ?_); clear h292
                refine dr_skip (i := 13) h293 rfl (by kernel_rfl) (by kernel_rfl) (by kernel_rfl) rfl rfl rfl rfl (fun a294 h294 => ?_); clear h293
                refine dr_skip (i := 14) h294 rfl (by kernel_rfl) (by kernel_rfl) (by kernel_rfl) rfl rfl rfl rfl (fun a295 h295 => ?_); clear h294
                refine dr_skip (i := 15) h295 rfl (by kernel_rfl) (by kernel_rfl) (by kernel_rfl) rfl rfl rfl rfl (fun a296 h296 => ?_); clear h295
                refine dr_skip (i := 16) h296 rfl (by kernel_rfl) (by kernel_rfl) (by kernel_rfl) rfl rfl rfl rfl (fun a297 h297 => ?_); clear h296
                refine dr_skip (i := 17) h297 rfl (by kernel_rfl) (by kernel_rfl) (by kernel_rfl) rfl rfl rfl rfl (fun a298 h298 => ?_); clear h297
                refine dr_skip (i := 18) h298 rfl (by kernel_rfl) (by kernel_rfl) (by kernel_rfl) rfl rfl rfl rfl (fun a299 h299 => ?_); clear h298
                refine dr_skip (i := 19) h299 rfl (by kernel_rfl) (by kernel_rfl) (by kernel_rfl) rfl rfl rfl rfl (fun a300 h300 => ?_); clear h299
                refine dr_skip (i := 20) h300 rfl (by kernel_rfl) (by kernel_rfl) (by kernel_rfl) rfl rfl rfl rfl (fun a301 h301 => ?_); clear h300
                refine dr_skip (i := 21) h301 rfl (by kernel_rfl) (by kernel_rfl) (by kernel_rfl) rfl rfl rfl rfl (fun a302 h302 => ?_); clear h301
                refine dr_skip (i := 22) h302 rfl (by kernel_rfl) (by kernel_rfl) (by kernel_rfl) rfl rfl rfl rfl (fun a303 h303 => ?_); clear h302
                refine dr_skip (i := 23) h303 rfl (by kernel_rfl) (by kernel_rfl) (by kernel_rfl) rfl rfl rfl rfl (fun a304 h304 => ?_); clear h303
                refine dr_skip (i := 24) h304 rfl (by kernel_rfl) (by kernel_rfl) (by kernel_rfl) rfl rfl rfl rfl (fun a305 h305 => ?_); clear h304
                refine dr_skip (i := 25) h305 rfl (by kernel_rfl) (by kernel_rfl) (by kernel_rfl) rfl rfl rfl rfl (fun a306 h306 => ?_); clear h305
                refine dr_take (i := 26) (v := .bool false) h306 rfl (by kernel_rfl) (by kernel_rfl) (by kernel_rfl) rfl rfl rfl rfl (by kernel_rfl) (fun _ _ => by kernel_rfl) (fun a307 h307 => ?_); clear h306
                refine dr_done (by kernel_rfl) ?_
                refine co_then ?_
                refine co_false h307 rfl ?_
                refine wp_skip ?_
                refine co_blockN ?_
                refine co_then ?_
                refine co_reg ?_
                refine pl_val (v := .int .i64 ((i + 1 : Nat) : Int)) h307 rfl rfl rfl (by kernel_rfl) (by kernel_rfl) (rn_arith' rfl rfl rfl rfl rfl rfl (IntWalk.i64_in _ (by omega)) (by omega)) (fun a308 h308 => ?_); clear h307
                refine pl_val (v := .int .i64 ((i + 1 : Nat) : Int)) h308 rfl rfl rfl (by kernel_rfl) (by kernel_rfl) (by kernel_rfl) (fun a309 h309 => ?_); clear h308
                refine pl_nil ?_
                refine co_then ?_
                refine ⟨(l.length - (i + 1)), by omega, ?_⟩
                have hbd : badT (l.take i) y33 = false := by first | exact bad_ts (by omega) | exact bad_0 (by omega)
                have hL' := rg_step (i := i) hL hy33 (by omega) (by omega) hbd
                exact ⟨i + 1, h309.sub ⟨rfl, rfl, rfl, rfl, rfl, trivial⟩, rfl, by omega, by first | rfl | exact hL', (hI278.eq (tw_step hy33)), hB274⟩
              ·
                rw [hc283] at h282
                have hp310 : y33.ts ≠ 0 := by first | simpa using hc283 | simpa [and_assoc] using hc283
                clear hc283
                refine dr_take (i := 4) (v := .int .i64 ((i : Nat) : Int)) h282 rfl (by kernel_rfl) (by kernel_rfl) (by kernel_rfl) rfl rfl rfl rfl (by kernel_rfl) (fun _ _ => by kernel_rfl) (fun a311 h311 => ?_); clear h282
                refine dr_take (i := 5) (v := .bool (decide (((i : Nat) : Int) > 0))) h311 rfl (by kernel_rfl) (by kernel_rfl) (by kernel_rfl) rfl rfl rfl rfl (by kernel_rfl) (fun _ _ => by kernel_rfl) (fun a312 h312 => ?_); clear h311
                refine dr_take (i := 6) (v := .bool (decide (((i : Nat) : Int) > 0))) h312 rfl (by kernel_rfl) (by kernel_rfl) (by kernel_rfl) rfl rfl rfl rfl (by kernel_rfl) (fun _ _ => by kernel_rfl) (fun a313 h313 => ?_); clear h312
                refine dr_take (i := 7) (v := .bool (decide (((i : Nat) : Int) > 0))) h313 rfl (by kernel_rfl) (by kernel_rfl) (by kernel_rfl) rfl rfl rfl rfl (by kernel_rfl) (fun _ _ => by kernel_rfl) (fun a314 h314 => ?_); clear h313
                cases hc315 : (decide (((i : Nat) : Int) > 0))
                ·
                  rw [hc315] at h314
                  have hp316 : ¬ (((i : Nat) : Int) > 0) := of_decide_eq_false hc315
                  clear hc315
                  refine dr_skip (i := 8) h314 rfl (by kernel_rfl) (by kernel_rfl) (by kernel_rfl) rfl rfl rfl rfl (fun a317 h317 => ?_); clear h314
                  refine dr_skip (i := 9) h317 rfl (by kernel_rfl) (by kernel_rfl) (by kernel_rfl) rfl rfl rfl rfl (fun a318 h318 => ?_); clear h317
                  refine dr_skip (i := 10) h318 rfl (by kernel_rfl) (by kernel_rfl) (by kernel_rfl) rfl rfl rfl rfl (fun a319 h319 => ?_); clear h318
                  refine dr_skip (i := 11) h319 rfl (by kernel_rfl) (by kernel_rfl) (by kernel_rfl) rfl rfl rfl rfl (fun a320 h320 => ?_); clear h319
                  refine dr_skip (i := 12) h320 rfl (by kernel_rfl) (by kernel_rfl) (by kernel_rfl) rfl rfl rfl rfl (fun a321 h321 => ?_); clear h320
                  refine dr_skip (i := 13) h321 rfl (by kernel_rfl) (by kernel_rfl) (by kernel_rfl) rfl rfl rfl rfl (fun a322 h322 => ?_); clear h321
                  refine dr_skip (i := 14) h322 rfl (by kernel_rfl) (by kernel_rfl) (by kernel_rfl) rfl rfl rfl rfl (fun a323 h323 => ?_); clear h322
                  refine dr_skip (i := 15) h323 rfl (by kernel_rfl) (by kernel_rfl) (by kernel_rfl) rfl rfl rfl rfl (fun a324 h324 => ?_); clear h323
                  refine dr_skip (i := 16) h324 rfl (by kernel_rfl) (by kernel_rfl) (by kernel_rfl) rfl rfl rfl rfl (fun a325 h325 => ?_); clear h324
                  refine dr_skip (i := 17) h325 rfl (by kernel_rfl) (by kernel_rfl) (by kernel_rfl) rfl rfl rfl rfl (fun a326 h326 => ?_); clear h325
                  refine dr_skip (i := 18) h326 rfl (by kernel_rfl) (by kernel_rfl) (by kernel_rfl) rfl rfl rfl rfl (fun a327 h327 => ?_); clear h326
                  refine dr_skip (i := 19) h327 rfl (by kernel_rfl) (by kernel_rfl) (by kernel_rfl) rfl rfl rfl rfl (fun a328 h328 => ?_); clear h327
                  refine dr_skip (i := 20) h328 rfl (by kernel_rfl) (by kernel_rfl) (by kernel_rfl) rfl rfl rfl rfl (fun a329 h329 => ?_); clear h328
                  refine dr_skip (i := 21) h329 rfl (by kernel_rfl) (by kernel_rfl) (by kernel_rfl) rfl rfl rfl rfl (fun a330 h330 => ?_); clear h329
                  refine dr_skip (i := 22) h330 rfl (by kernel_rfl) (by kernel_rfl) (by kernel_rfl) rfl rfl rfl rfl (fun a331 h331 => ?_); clear h330
                  refine dr_skip (i := 23) h331 rfl (by kernel_rfl) (by kernel_rfl) (by kernel_rfl) rfl rfl rfl rfl (fun a332 h332 => ?_); clear h331
                  refine dr_skip (i := 24) h332 rfl (by kernel_rfl) (by kernel_rfl) (by kernel_rfl) rfl rfl rfl rfl (fun a333 h333 => ?_); clear h332
                  refine dr_skip (i := 25) h333 rfl (by kernel_rfl) (by kernel_rfl) (by kernel_rfl) rfl rfl rfl rfl (fun a334 h334 => ?_); clear h333
                  refine dr_take (i := 26) (v := .bool false) h334 rfl (by kernel_rfl) (by kernel_rfl) (by kernel_rfl) rfl rfl rfl rfl (by kernel_rfl) (fun _ _ => by kernel_rfl) (fun a335 h335 => ?_); clear h334
                  refine dr_done (by kernel_rfl) ?_
                  refine co_then ?_
                  refine co_false h335 rfl ?_
                  refine wp_skip ?_
                  refine co_blockN ?_
                  refine co_then ?_
                  refine co_reg ?_
                  refine pl_val (v := .int .i64 ((i + 1 : Nat) : Int)) h335 rfl rfl rfl (by kernel_rfl) (by kernel_rfl) (rn_arith' rfl rfl rfl rfl rfl rfl (IntWalk.i64_in _ (by omega)) (by omega)) (fun a336 h336 => ?_); clear h335
                  refine pl_val (v := .int .i64 ((i + 1 : Nat) : Int)) h336 rfl rfl rfl (by kernel_rfl) (by kernel_rfl) (by kernel_rfl) (fun a337 h337 => ?_); clear h336
                  refine pl_nil ?_
                  refine co_then ?_
                  refine ⟨(l.length - (i + 1)), by omega, ?_⟩
                  have hbd : badT (l.take i) y33 = false := by first | exact bad_ts (by omega) | exact bad_0 (by omega)
                  have hL' := rg_step (i := i) hL hy33 (by omega) (by omega) hbd
                  exact ⟨i + 1, h337.sub ⟨rfl, rfl, rfl, rfl, rfl, trivial⟩, rfl, by omega, by first | rfl | exact hL', (hI278.eq (tw_step hy33)), hB274⟩
                ·
                  rw [hc315] at h314
                  have hp338 : ((i : Nat) : Int) > 0 := of_decide_eq_true hc315
                  clear hc315
                  refine dr_take (i := 8) (v := v) h314 rfl (by kernel_rfl) (by kernel_rfl) (by kernel_rfl) rfl rfl rfl rfl (by kernel_rfl) (fun _ _ => by kernel_rfl) (fun a339 h339 => ?_); clear h314
                  refine dr_take (i := 9) (v := .int .i64 ((i : Nat) : Int)) h339 rfl (by kernel_rfl) (by kernel_rfl) (by kernel_rfl) rfl rfl rfl rfl (by kernel_rfl) (fun _ _ => by kernel_rfl) (fun a340 h340 => ?_); clear h339
                  refine dr_take (i := 10) (v := .int .i64 (((i : Nat) : Int) - 1)) h340 rfl (by kernel_rfl) (by kernel_rfl) (by kernel_rfl) rfl rfl rfl rfl (by kernel_rfl) (fun x hx => by subst hx; exact (rn_arith rfl rfl rfl rfl rfl rfl (IntWalk.i64_in _ (by omega)))) (fun a341 h341 => ?_); clear h340
                  obtain ⟨y342, hy342⟩ : ∃ z, l[(((i : Nat) : Int) - 1).toNat]? = some z := ⟨_, List.getElem?_eq_getElem (by first | omega | (simp; done) | (simp; omega))⟩
                  have oky342 := hok _ (List.mem_of_getElem? hy342)
                  have k343 : 0 ≤ y342.ts := oky342.ts0
                  have k344 : y342.ts < 18446744073709551616 := oky342.ts1
                  refine dr_take (i := 11) (v := .pointer (some ⟨(blkOf v), offOf v + ((((i : Nat) : Int) - 1).toNat) * 4, none⟩)) h341 rfl (by kernel_rfl) (by kernel_rfl) (by kernel_rfl) rfl rfl rfl rfl (by kernel_rfl) (fun x hx => by subst hx; exact (rn_index rfl rfl rfl Try.underlying48 Try.sizeOf34 (hs.below hB274) (by omega) (by first | omega | (simp; done) | (simp; omega)))) (fun a345 h345 => ?_); clear h341
                  refine dr_take (i := 12) (v := .pointer (some ⟨(blkOf v), offOf v + ((((i : Nat) : Int) - 1).toNat) * 4 + 3, none⟩)) h345 rfl (by kernel_rfl) (by kernel_rfl) (by kernel_rfl) rfl rfl rfl rfl (by kernel_rfl) (fun _ _ => by kernel_rfl) (fun a346 h346 => ?_); clear h345
                  refine dr_take (i := 13) (v := .int .u64 y342.ts) h346 rfl (by kernel_rfl) (by kernel_rfl) (by kernel_rfl) rfl rfl rfl rfl (by kernel_rfl) (fun x hx => by subst hx; exact (rn_load1 rfl rfl Try.isAgg32 ((sl_at (hs.below hB274) hy342) 3 _ rfl))) (fun a347 h347 => ?_); clear h346
                  refine dr_take (i := 14) (v := .bool (y342.ts == 0)) h347 rfl (by kernel_rfl) (by kernel_rfl) (by kernel_rfl) rfl rfl rfl rfl (by kernel_rfl) (fun _ _ => by kernel_rfl) (fun a348 h348 => ?_); clear h347
                  refine dr_take (i := 15) (v := .bool (y342.ts == 0)) h348 rfl (by kernel_rfl) (by kernel_rfl) (by kernel_rfl) rfl rfl rfl rfl (by kernel_rfl) (fun _ _ => by kernel_rfl) (fun a349 h349 => ?_); clear h348
                  cases hc350 : (y342.ts == 0)
                  ·
                    rw [hc350] at h349
                    have hp351 : ¬ (y342.ts = 0) := by first | simpa using hc350 | simpa [and_assoc] using hc350
                    clear hc350
                    refine dr_take (i := 16) (v := v) h349 rfl (by kernel_rfl) (by kernel_rfl) (by kernel_rfl) rfl rfl rfl rfl (by kernel_rfl) (fun _ _ => by kernel_rfl) (fun a352 h352 => ?_); clear h349
                    refine dr_take (i := 17) (v := .int .i64 ((i : Nat) : Int)) h352 rfl (by kernel_rfl) (by kernel_rfl) (by kernel_rfl) rfl rfl rfl rfl (by kernel_rfl) (fun _ _ => by kernel_rfl) (fun a353 h353 => ?_); clear h352
                    refine dr_take (i := 18) (v := .int .i64 (((i : Nat) : Int) - 1)) h353 rfl (by kernel_rfl) (by kernel_rfl) (by kernel_rfl) rfl rfl rfl rfl (by kernel_rfl) (fun x hx => by subst hx; exact (rn_arith rfl rfl rfl rfl rfl rfl (IntWalk.i64_in _ (by omega)))) (fun a354 h354 => ?_); clear h353
                    refine dr_take (i := 19) (v := .pointer (some ⟨(blkOf v), offOf v + ((((i : Nat) : Int) - 1).toNat) * 4, none⟩)) h354 rfl (by kernel_rfl) (by kernel_rfl) (by kernel_rfl) rfl rfl rfl rfl (by kernel_rfl) (fun x hx => by subst hx; exact (rn_index rfl rfl rfl Try.underlying48 Try.sizeOf34 (hs.below hB274) (by omega) (by first | omega | (simp; done) | (simp; omega)))) (fun a355 h355 => ?_); clear h354
                    refine dr_take (i := 20) (v := .pointer (some ⟨(blkOf v), offOf v + ((((i : Nat) : Int) - 1).toNat) * 4 + 3, none⟩)) h355 rfl (by kernel_rfl) (by kernel_rfl) (by kernel_rfl) rfl rfl rfl rfl (by kernel_rfl) (fun _ _ => by kernel_rfl) (fun a356 h356 => ?_); clear h355
                    refine dr_take (i := 21) (v := .int .u64 y342.ts) h356 rfl (by kernel_rfl) (by kernel_rfl) (by kernel_rfl) rfl rfl rfl rfl (by kernel_rfl) (fun x hx => by subst hx; exact (rn_load1 rfl rfl Try.isAgg32 ((sl_at (hs.below hB274) hy342) 3 _ rfl))) (fun a357 h357 => ?_); clear h356
                    refine dr_take (i := 22) (v := .pointer (some ⟨N40, 3, none⟩)) h357 rfl (by kernel_rfl) (by kernel_rfl) (by kernel_rfl) rfl rfl rfl rfl (by kernel_rfl) (fun _ _ => by kernel_rfl) (fun a358 h358 => ?_); clear h357
                    refine dr_take (i := 23) (v := .int .u64 y33.ts) h358 rfl (by kernel_rfl) (by kernel_rfl) (by kernel_rfl) rfl rfl rfl rfl (by kernel_rfl) (fun x hx => by subst hx; exact (rn_load1 rfl rfl Try.isAgg32 (hk277.cell rfl))) (fun a359 h359 => ?_); clear h358
                    refine dr_take (i := 24) (v := .bool (decide (y342.ts ≥ y33.ts))) h359 rfl (by kernel_rfl) (by kernel_rfl) (by kernel_rfl) rfl rfl rfl rfl (by kernel_rfl) (fun _ _ => by kernel_rfl) (fun a360 h360 => ?_); clear h359
                    refine dr_take (i := 25) (v := .bool (decide (y342.ts ≥ y33.ts))) h360 rfl (by kernel_rfl) (by kernel_rfl) (by kernel_rfl) rfl rfl rfl rfl (by kernel_rfl) (fun _ _ => by kernel_rfl) (fun a361 h361 => ?_); clear h360
                    refine dr_take (i := 26) (v := .bool (decide (y342.ts ≥ y33.ts))) h361 rfl (by kernel_rfl) (by kernel_rfl) (by kernel_rfl) rfl rfl rfl rfl (by kernel_rfl) (fun _ _ => by kernel_rfl) (fun a362 h362 => ?_); clear h361
                    refine dr_done (by kernel_rfl) ?_
                    refine co_then ?_
                    cases hc363 : (decide (y342.ts ≥ y33.ts))
                    ·
                      rw [hc363] at h362
                      have hp364 : ¬ (y342.ts ≥ y33.ts) := of_decide_eq_false hc363
                      clear hc363
                      refine co_false h362 rfl ?_
                      refine wp_skip ?_
                      refine co_blockN ?_
                      refine co_then ?_
                      refine co_reg ?_
                      refine pl_val (v := .int .i64 ((i + 1 : Nat) : Int)) h362 rfl rfl rfl (by kernel_rfl) (by kernel_rfl) (rn_arith' rfl rfl rfl rfl rfl rfl (IntWalk.i64_in _ (by omega)) (by omega)) (fun a365 h365 => ?_); clear h362
                      refine pl_val (v := .int .i64 ((i + 1 : Nat) : Int)) h365 rfl rfl rfl (by kernel_rfl) (by kernel_rfl) (by kernel_rfl) (fun a366 h366 => ?_); clear h365
                      refine pl_nil ?_
                      refine co_then ?_
                      refine ⟨(l.length - (i + 1)), by omega, ?_⟩
                      have hbd : badT (l.take i) y33 = false := by rw [bad_at (j := (((i : Nat) : Int) - 1).toNat) (by omega) (by omega) hy342]; exact decide_eq_false (by omega)
                      have hL' := rg_step (i := i) hL hy33 (by omega) (by omega) hbd
                      exact ⟨i + 1, h366.sub ⟨rfl, rfl, rfl, rfl, rfl, trivial⟩, rfl, by omega, by first | rfl | exact hL', (hI278.eq (tw_step hy33)), hB274⟩
                    ·
                      rw [hc363] at h362
                      have hp367 : y342.ts ≥ y33.ts := of_decide_eq_true hc363
                      clear hc363
                      refine co_true h362 rfl ?_
                      refine co_seq ?_
                      refine co_reg ?_
                      refine pl_val (v := .int .i64 18) h362 rfl rfl rfl (by kernel_rfl) (by kernel_rfl) (by kernel_rfl) (fun a368 h368 => ?_); clear h362
                      refine pl_nil ?_
                      refine co_then ?_
                      refine wp_ret ?_
                      refine co_blockR ?_
                      refine co_thenR ?_
                      refine co_thenR ?_
                      refine co_blockR ?_
                      refine co_thenR ?_
                      refine co_ret1 h368 rfl rfl ?_
                      have hbd : badT (l.take i) y33 = true := by rw [bad_at (j := (((i : Nat) : Int) - 1).toNat) (by omega) (by omega) hy342]; exact decide_eq_true (by omega)
                      exact ⟨ret_int (rg_bad (i := i) hL hy33 (by omega) (by omega) hbd), hB274⟩
                  ·
                    rw [hc350] at h349
                    have hp369 : y342.ts = 0 := by first | simpa using hc350 | simpa [and_assoc] using hc350
                    clear hc350
                    refine dr_skip (i := 16) h349 rfl (by kernel_rfl) (by kernel_rfl) (by kernel_rfl) rfl rfl rfl rfl (fun a370 h370 => ?_); clear h349
                    refine dr_skip (i := 17) h370 rfl (by kernel_rfl) (by kernel_rfl) (by kernel_rfl) rfl rfl rfl rfl (fun a371 h371 => ?_); clear h370
                    refine dr_skip (i := 18) h371 rfl (by kernel_rfl) (by kernel_rfl) (by kernel_rfl) rfl rfl rfl rfl (fun a372 h372 => ?_); clear h371
                    refine dr_skip (i := 19) h372 rfl (by kernel_rfl) (by kernel_rfl) (by kernel_rfl) rfl rfl rfl rfl (fun a373 h373 => ?_); clear h372
                    refine dr_skip (i := 20) h373 rfl (by kernel_rfl) (by kernel_rfl) (by kernel_rfl) rfl rfl rfl rfl (fun a374 h374 => ?_); clear h373
                    refine dr_skip (i := 21) h374 rfl (by kernel_rfl) (by kernel_rfl) (by kernel_rfl) rfl rfl rfl rfl (fun a375 h375 => ?_); clear h374
                    refine dr_skip (i := 22) h375 rfl (by kernel_rfl) (by kernel_rfl) (by kernel_rfl) rfl rfl rfl rfl (fun a376 h376 => ?_); clear h375
                    refine dr_skip (i := 23) h376 rfl (by kernel_rfl) (by kernel_rfl) (by kernel_rfl) rfl rfl rfl rfl (fun a377 h377 => ?_); clear h376
                    refine dr_skip (i := 24) h377 rfl (by kernel_rfl) (by kernel_rfl) (by kernel_rfl) rfl rfl rfl rfl (fun a378 h378 => ?_); clear h377
                    refine dr_take (i := 25) (v := .bool true) h378 rfl (by kernel_rfl) (by kernel_rfl) (by kernel_rfl) rfl rfl rfl rfl (by kernel_rfl) (fun _ _ => by kernel_rfl) (fun a379 h379 => ?_); clear h378
                    refine dr_take (i := 26) (v := .bool true) h379 rfl (by kernel_rfl) (by kernel_rfl) (by kernel_rfl) rfl rfl rfl rfl (by kernel_rfl) (fun _ _ => by kernel_rfl) (fun a380 h380 => ?_); clear h379
                    refine dr_done (by kernel_rfl) ?_
                    refine co_then ?_
                    refine co_true h380 rfl ?_
                    refine co_seq ?_
                    refine co_reg ?_
                    refine pl_val (v := .int .i64 18) h380 rfl rfl rfl (by kernel_rfl) (by kernel_rfl) (by kernel_rfl) (fun a381 h381 => ?_); clear h380
                    refine pl_nil ?_
                    refine co_then ?_
                    refine wp_ret ?_
                    refine co_blockR ?_
                    refine co_thenR ?_
                    refine co_thenR ?_
                    refine co_blockR ?_
                    refine co_thenR ?_
                    refine co_ret1 h381 rfl rfl ?_
                    have hbd : badT (l.take i) y33 = true := by rw [bad_at (j := (((i : Nat) : Int) - 1).toNat) (by omega) (by omega) hy342]; exact decide_eq_true (by omega)
                    exact ⟨ret_int (rg_bad (i := i) hL hy33 (by omega) (by omega) hbd), hB274⟩
        ·
          rw [hc86] at h85
          have hp382 : twN (l.take i) y33.client y33.req > 0 := of_decide_eq_true hc86
          clear hc86
          refine co_true h85 rfl ?_
          refine co_seq ?_
          refine co_reg ?_
          refine pl_val (v := .int .i64 18) h85 rfl rfl rfl (by kernel_rfl) (by kernel_rfl) (by kernel_rfl) (fun a383 h383 => ?_); clear h85
          refine pl_nil ?_
          refine co_then ?_
          refine wp_ret ?_
          refine co_thenR ?_
          refine co_blockR ?_
          refine co_thenR ?_
          refine co_thenR ?_
          refine co_blockR ?_
          refine co_thenR ?_
          refine co_ret1 h383 rfl rfl ?_
          exact ⟨ret_int (rg_tw (i := i) hL hy33 (by omega) (by omega)), hB78⟩
      ·
        rw [hc71] at h70
        have hp384 : chkB y33.client y33.req y33.opl ≠ 0 := by first | simpa using hc71 | simpa [and_assoc] using hc71
        clear hc71
        refine co_true h70 rfl ?_
        refine co_seq ?_
        refine co_reg ?_
        refine pl_val (v := .int .i64 (chkB y33.client y33.req y33.opl)) h70 rfl rfl rfl (by kernel_rfl) (by kernel_rfl) (by kernel_rfl) (fun a385 h385 => ?_); clear h70
        refine pl_val (v := .int .i64 (chkB y33.client y33.req y33.opl)) h385 rfl rfl rfl (by kernel_rfl) (by kernel_rfl) (by kernel_rfl) (fun a386 h386 => ?_); clear h385
        refine pl_nil ?_
        refine co_then ?_
        refine wp_ret ?_
        refine co_thenR ?_
        refine co_blockR ?_
        refine co_thenR ?_
        refine co_thenR ?_
        refine co_blockR ?_
        refine co_thenR ?_
        refine co_ret1 h386 rfl rfl ?_
        exact ⟨ret_int (rg_chk (i := i) hL hy33 (by omega)), hB63⟩
set_option maxRecDepth 100000 in
theorem itemStamped_any (v : Value) (l : List EntT) (w : World) (hs : SliceOf entE 4 w v l) (hok : ∀ z ∈ l, EntOk w z) :
    Calls Try.prog 32 #[v] w fun e w' => e = .returned (.int .i64 ((stN l : Nat) : Int)) ∧ Below w.heap.size w w' := by
  have hB0 := Below.refl w.heap.size w
  have hl_hs := sl_len hs
  refine co_enter (n := 19) Try.func32 rfl rfl rfl [(0, v)] rfl (fun a h0 => ?_)
  refine co_seq ?_
  refine co_reg ?_
  refine pl_val (v := .int .i64 0) h0 rfl rfl rfl (by kernel_rfl) (by kernel_rfl) (by kernel_rfl) (fun a1 h1 => ?_); clear h0
  refine pl_nil ?_
  refine co_then ?_
  refine co_seq ?_
  refine co_reg ?_
  refine pl_val (v := .int .i64 0) h1 rfl rfl rfl (by kernel_rfl) (by kernel_rfl) (by kernel_rfl) (fun a2 h2 => ?_); clear h1
  refine pl_nil ?_
  refine co_then ?_
  refine co_seq ?_
  refine wp_block ?_
  have h3 : Slots 19 [(0, v), (3, .int .i64 0)] _ := h2.sub ⟨rfl, rfl, trivial⟩; clear h2
  refine co_loop (fun mm a x => ∃ (i : Nat), Slots 19 [(0, v), (3, .int .i64 ((i : Nat) : Int))] a ∧ mm = l.length - i ∧ (i ≤ l.length) ∧ (∀ j, j < i → ∀ z, l[j]? = some z → z.ts ≠ 0) ∧ Below w.heap.size w x) (l.length - 0) ?_ ?_
  · exact ⟨0, h3.sub ⟨rfl, (slot_eq rfl (congrArg (Value.int .i64) (by first | rfl | omega))), trivial⟩, rfl, by omega, by first | (intro j hj; omega) | exact st_next (by assumption) (by assumption) (by omega), hB0⟩
  · rintro k4 a5 w6 ⟨i, h5, rfl, hi7, hi8, hB9⟩
    have hz10 := hB9.size
    refine co_seq ?_
    refine co_seq ?_
    refine co_reg ?_
    refine pl_val (v := .int .i64 ((i : Nat) : Int)) h5 rfl rfl rfl (by kernel_rfl) (by kernel_rfl) (by kernel_rfl) (fun a11 h11 => ?_); clear h5
    refine pl_val (v := v) h11 rfl rfl rfl (by kernel_rfl) (by kernel_rfl) (by kernel_rfl) (fun a12 h12 => ?_); clear h11
    refine pl_val (v := .int .i64 ((l.length : Nat) : Int)) h12 rfl rfl rfl (by kernel_rfl) (by kernel_rfl) (rn_len rfl rfl Try.underlying48 (hs.below hB9)) (fun a13 h13 => ?_); clear h12
    refine pl_val (v := .bool (decide (((i : Nat) : Int) < ((l.length : Nat) : Int)))) h13 rfl rfl rfl (by kernel_rfl) (by kernel_rfl) (by kernel_rfl) (fun a14 h14 => ?_); clear h13
    refine pl_val (v := .bool (decide (((i : Nat) : Int) < ((l.length : Nat) : Int)))) h14 rfl rfl rfl (by kernel_rfl) (by kernel_rfl) (by kernel_rfl) (fun a15 h15 => ?_); clear h14
    cases hc16 : (decide (((i : Nat) : Int) < ((l.length : Nat) : Int)))
    ·
      rw [hc16] at h15
      have hp17 : ¬ (((i : Nat) : Int) < ((l.length : Nat) : Int)) := of_decide_eq_false hc16
      clear hc16
      refine pl_skip h15 rfl rfl rfl (fun a18 h18 => ?_); clear h15
      refine pl_skip h18 rfl rfl rfl (fun a19 h19 => ?_); clear h18
      refine pl_skip h19 rfl rfl rfl (fun a20 h20 => ?_); clear h19
      refine pl_skip h20 rfl rfl rfl (fun a21 h21 => ?_); clear h20
      refine pl_skip h21 rfl rfl rfl (fun a22 h22 => ?_); clear h21
      refine pl_skip h22 rfl rfl rfl (fun a23 h23 => ?_); clear h22
      refine pl_val (v := .bool false) h23 rfl rfl rfl (by kernel_rfl) (by kernel_rfl) (by kernel_rfl) (fun a24 h24 => ?_); clear h23
      refine pl_nil ?_
      refine co_then ?_
      refine co_false h24 rfl ?_
      refine wp_exit ?_
      refine co_thenX ?_
      refine co_thenX ?_
      refine co_blockX ?_
      refine co_then ?_
      refine co_seq ?_
      refine co_reg ?_
      refine pl_val (v := .int .i64 ((i : Nat) : Int)) h24 rfl rfl rfl (by kernel_rfl) (by kernel_rfl) (by kernel_rfl) (fun a25 h25 => ?_); clear h24
      refine pl_val (v := .int .i64 ((i : Nat) : Int)) h25 rfl rfl rfl (by kernel_rfl) (by kernel_rfl) (by kernel_rfl) (fun a26 h26 => ?_); clear h25
      refine pl_nil ?_
      refine co_then ?_
      refine wp_ret ?_
      refine co_ret1 h26 rfl rfl ?_
      exact ⟨ret_int (by rw [stN_end (l := l) (i := i) (by assumption) (by omega)]), hB9⟩
    ·
      rw [hc16] at h15
      have hp27 : ((i : Nat) : Int) < ((l.length : Nat) : Int) := of_decide_eq_true hc16
      clear hc16
      refine pl_val (v := v) h15 rfl rfl rfl (by kernel_rfl) (by kernel_rfl) (by kernel_rfl) (fun a28 h28 => ?_); clear h15
      refine pl_val (v := .int .i64 ((i : Nat) : Int)) h28 rfl rfl rfl (by kernel_rfl) (by kernel_rfl) (by kernel_rfl) (fun a29 h29 => ?_); clear h28
      obtain ⟨y30, hy30⟩ : ∃ z, l[i]? = some z := ⟨_, List.getElem?_eq_getElem (by first | omega | (simp; done) | (simp; omega))⟩
      have oky30 := hok _ (List.mem_of_getElem? hy30)
      have k31 : 0 ≤ y30.ts := oky30.ts0
      have k32 : y30.ts < 18446744073709551616 := oky30.ts1
      refine pl_val (v := .pointer (some ⟨(blkOf v), offOf v + i * 4, none⟩)) h29 rfl rfl rfl (by kernel_rfl) (by kernel_rfl) (rn_index rfl rfl rfl Try.underlying48 Try.sizeOf34 (hs.below hB9) (by omega) (by first | omega | (simp; done) | (simp; omega))) (fun a33 h33 => ?_); clear h29
      refine pl_val (v := .pointer (some ⟨(blkOf v), offOf v + i * 4 + 3, none⟩)) h33 rfl rfl rfl (by kernel_rfl) (by kernel_rfl) (by kernel_rfl) (fun a34 h34 => ?_); clear h33
      refine pl_val (v := .int .u64 y30.ts) h34 rfl rfl rfl (by kernel_rfl) (by kernel_rfl) (rn_load1 rfl rfl Try.isAgg32 ((sl_at (hs.below hB9) hy30) 3 _ rfl)) (fun a35 h35 => ?_); clear h34
      refine pl_val (v := .bool (y30.ts != 0)) h35 rfl rfl rfl (by kernel_rfl) (by kernel_rfl) (by kernel_rfl) (fun a36 h36 => ?_); clear h35
      refine pl_val (v := .bool (y30.ts != 0)) h36 rfl rfl rfl (by kernel_rfl) (by kernel_rfl) (by kernel_rfl) (fun a37 h37 => ?_); clear h36
      refine pl_nil ?_
      refine co_then ?_
      cases hc38 : (y30.ts != 0)
      ·
        rw [hc38] at h37
        have hp39 : ¬ (y30.ts ≠ 0) := by first | simpa using hc38 | simpa [and_assoc] using hc38
        clear hc38
        refine co_false h37 rfl ?_
        refine wp_exit ?_
        refine co_thenX ?_
        refine co_thenX ?_
        refine co_blockX ?_
        refine co_then ?_
        refine co_seq ?_
        refine co_reg ?_
        refine pl_val (v := .int .i64 ((i : Nat) : Int)) h37 rfl rfl rfl (by kernel_rfl) (by kernel_rfl) (by kernel_rfl) (fun a40 h40 => ?_); clear h37
        refine pl_val (v := .int .i64 ((i : Nat) : Int)) h40 rfl rfl rfl (by kernel_rfl) (by kernel_rfl) (by kernel_rfl) (fun a41 h41 => ?_); clear h40
        refine pl_nil ?_
        refine co_then ?_
        refine wp_ret ?_
        refine co_ret1 h41 rfl rfl ?_
        exact ⟨ret_int (by rw [stN_stop (l := l) (i := i) (by assumption) hy30 (by omega)]), hB9⟩
      ·
        rw [hc38] at h37
        have hp42 : y30.ts ≠ 0 := by first | simpa using hc38 | simpa [and_assoc] using hc38
        clear hc38
        refine co_true h37 rfl ?_
        refine wp_skip ?_
        refine co_then ?_
        refine wp_block ?_
        refine co_reg ?_
        refine pl_val (v := .int .i64 ((i : Nat) : Int)) h37 rfl rfl rfl (by kernel_rfl) (by kernel_rfl) (by kernel_rfl) (fun a43 h43 => ?_); clear h37
        refine pl_val (v := .int .i64 ((i + 1 : Nat) : Int)) h43 rfl rfl rfl (by kernel_rfl) (by kernel_rfl) (rn_arith' rfl rfl rfl rfl rfl rfl (IntWalk.i64_in _ (by omega)) (by omega)) (fun a44 h44 => ?_); clear h43
        refine pl_val (v := .int .i64 ((i + 1 : Nat) : Int)) h44 rfl rfl rfl (by kernel_rfl) (by kernel_rfl) (by kernel_rfl) (fun a45 h45 => ?_); clear h44
        refine pl_nil ?_
        refine co_blockN ?_
        refine co_then ?_
        refine ⟨(l.length - (i + 1)), by omega, ?_⟩
        exact ⟨i + 1, h45.sub ⟨rfl, rfl, trivial⟩, rfl, by omega, by first | (intro j hj; omega) | exact st_next (by assumption) (by assumption) (by omega), hB9⟩
set_option maxRecDepth 100000 in
theorem itemLast_any (v : Value) (l : List EntT) (w : World) (hs : SliceOf entE 4 w v l) (hok : ∀ z ∈ l, EntOk w z) :
    Calls Try.prog 34 #[v] w fun e w' => e = .returned (.int .u64 (lastT l)) ∧ Below w.heap.size w w' := by
  have hst := stN_le l
  have hB0 := Below.refl w.heap.size w
  have hl_hs := sl_len hs
  refine co_enter (n := 14) Try.func34 rfl rfl rfl [(0, v)] rfl (fun a h0 => ?_)
  refine co_seq ?_
  refine co_reg ?_
  refine pl_val (v := .int .u64 0) h0 rfl rfl rfl (by kernel_rfl) (by kernel_rfl) (by kernel_rfl) (fun a1 h1 => ?_); clear h0
  refine pl_nil ?_
  refine co_then ?_
  refine co_seq ?_
  refine co_reg ?_
  refine pl_val (v := v) h1 rfl rfl rfl (by kernel_rfl) (by kernel_rfl) (by kernel_rfl) (fun a2 h2 => ?_); clear h1
  refine pl_want h2 rfl rfl rfl (op_call (args := #[v]) (R := fun res xw => res = .int .i64 ((stN l : Nat) : Int) ∧ Below w.heap.size w xw) rfl rfl rfl (by kernel_rfl) (by kernel_rfl) (Try.call32 _ _) (itemStamped_any v l w hs hok) (by rintro e x ⟨rfl, hb5⟩; exact ⟨_, rfl, ⟨rfl, hb5⟩⟩)) ?_; clear h2
  rintro _ w4 a3 ⟨rfl, hb5⟩ h3
  have hB6 := hb_call hB0 hb5
  have hz7 := hB6.size
  have hz8 := hb5.size
  refine pl_val (v := .int .i64 ((stN l : Nat) : Int)) h3 rfl rfl rfl (by kernel_rfl) (by kernel_rfl) (by kernel_rfl) (fun a9 h9 => ?_); clear h3
  refine pl_nil ?_
  refine co_then ?_
  refine co_seq ?_
  refine co_seq ?_
  refine co_reg ?_
  refine pl_val (v := .int .i64 ((stN l : Nat) : Int)) h9 rfl rfl rfl (by kernel_rfl) (by kernel_rfl) (by kernel_rfl) (fun a10 h10 => ?_); clear h9
  refine pl_val (v := .bool (((stN l : Nat) : Int) == 0)) h10 rfl rfl rfl (by kernel_rfl) (by kernel_rfl) (by kernel_rfl) (fun a11 h11 => ?_); clear h10
  refine pl_nil ?_
  refine co_then ?_
  cases hc12 : (((stN l : Nat) : Int) == 0)
  ·
    rw [hc12] at h11
    have hp13 : ¬ (((stN l : Nat) : Int) = 0) := by first | simpa using hc12 | simpa [and_assoc] using hc12
    clear hc12
    refine co_false h11 rfl ?_
    refine wp_skip ?_
    refine co_then ?_
    refine co_seq ?_
    refine co_reg ?_
    refine pl_val (v := v) h11 rfl rfl rfl (by kernel_rfl) (by kernel_rfl) (by kernel_rfl) (fun a14 h14 => ?_); clear h11
    refine pl_val (v := .int .i64 ((stN l : Nat) : Int)) h14 rfl rfl rfl (by kernel_rfl) (by kernel_rfl) (by kernel_rfl) (fun a15 h15 => ?_); clear h14
    refine pl_val (v := .int .i64 (((stN l : Nat) : Int) - 1)) h15 rfl rfl rfl (by kernel_rfl) (by kernel_rfl) (rn_arith rfl rfl rfl rfl rfl rfl (IntWalk.i64_in _ (by omega))) (fun a16 h16 => ?_); clear h15
    obtain ⟨y17, hy17⟩ : ∃ z, l[(((stN l : Nat) : Int) - 1).toNat]? = some z := ⟨_, List.getElem?_eq_getElem (by first | omega | (simp; done) | (simp; omega))⟩
    have oky17 := hok _ (List.mem_of_getElem? hy17)
    have k18 : 0 ≤ y17.ts := oky17.ts0
    have k19 : y17.ts < 18446744073709551616 := oky17.ts1
    refine pl_val (v := .pointer (some ⟨(blkOf v), offOf v + ((((stN l : Nat) : Int) - 1).toNat) * 4, none⟩)) h16 rfl rfl rfl (by kernel_rfl) (by kernel_rfl) (rn_index rfl rfl rfl Try.underlying48 Try.sizeOf34 (hs.below hB6) (by omega) (by first | omega | (simp; done) | (simp; omega))) (fun a20 h20 => ?_); clear h16
    refine pl_val (v := .pointer (some ⟨(blkOf v), offOf v + ((((stN l : Nat) : Int) - 1).toNat) * 4 + 3, none⟩)) h20 rfl rfl rfl (by kernel_rfl) (by kernel_rfl) (by kernel_rfl) (fun a21 h21 => ?_); clear h20
    refine pl_val (v := .int .u64 y17.ts) h21 rfl rfl rfl (by kernel_rfl) (by kernel_rfl) (rn_load1 rfl rfl Try.isAgg32 ((sl_at (hs.below hB6) hy17) 3 _ rfl)) (fun a22 h22 => ?_); clear h21
    refine pl_val (v := .int .u64 y17.ts) h22 rfl rfl rfl (by kernel_rfl) (by kernel_rfl) (by kernel_rfl) (fun a23 h23 => ?_); clear h22
    refine pl_nil ?_
    refine co_then ?_
    refine wp_ret ?_
    refine co_ret1 h23 rfl rfl ?_
    exact ⟨ret_int (lastT_at (j := (((stN l : Nat) : Int) - 1).toNat) (by omega) (by omega) hy17), hB6⟩
  ·
    rw [hc12] at h11
    have hp24 : ((stN l : Nat) : Int) = 0 := by first | simpa using hc12 | simpa [and_assoc] using hc12
    clear hc12
    refine co_true h11 rfl ?_
    refine co_seq ?_
    refine co_reg ?_
    refine pl_val (v := .int .u64 0) h11 rfl rfl rfl (by kernel_rfl) (by kernel_rfl) (by kernel_rfl) (fun a25 h25 => ?_); clear h11
    refine pl_nil ?_
    refine co_then ?_
    refine wp_ret ?_
    refine co_thenR ?_
    refine co_ret1 h25 rfl rfl ?_
    exact ⟨ret_int (lastT_0 (by omega)), hB6⟩
set_option maxRecDepth 100000 in
theorem much_any (v : Value) (l : List EntT) (w : World) (hs : SliceOf entE 4 w v l) (hok : ∀ z ∈ l, EntOkS w z) (hl : l.length ≤ 2932031007403) :
    Calls Try.prog 29 #[v] w fun e w' => e = .returned (.int .i64 (muchN l)) ∧ Below w.heap.size w w' := by
  have hB0 := Below.refl w.heap.size w
  have hl_hs := sl_len hs
  refine co_enter (n := 27) Try.func29 rfl rfl rfl [(0, v)] rfl (fun a h0 => ?_)
  refine co_seq ?_
  refine co_reg ?_
  refine pl_val (v := .int .i64 0) h0 rfl rfl rfl (by kernel_rfl) (by kernel_rfl) (by kernel_rfl) (fun a1 h1 => ?_); clear h0
  refine pl_nil ?_
  refine co_then ?_
  refine co_seq ?_
  refine co_reg ?_
  refine pl_val (v := v) h1 rfl rfl rfl (by kernel_rfl) (by kernel_rfl) (by kernel_rfl) (fun a2 h2 => ?_); clear h1
  refine pl_val (v := .int .i64 ((l.length : Nat) : Int)) h2 rfl rfl rfl (by kernel_rfl) (by kernel_rfl) (rn_len rfl rfl Try.underlying48 hs) (fun a3 h3 => ?_); clear h2
  refine pl_val (v := .int .i64 ((l.length : Nat) : Int)) h3 rfl rfl rfl (by kernel_rfl) (by kernel_rfl) (by kernel_rfl) (fun a4 h4 => ?_); clear h3
  refine pl_nil ?_
  refine co_then ?_
  refine co_seq ?_
  refine co_seq ?_
  refine co_reg ?_
  refine pl_val (v := .int .i64 0) h4 rfl rfl rfl (by kernel_rfl) (by kernel_rfl) (by kernel_rfl) (fun a5 h5 => ?_); clear h4
  refine pl_nil ?_
  refine co_then ?_
  refine wp_block ?_
  have h6 : Slots 27 [(0, v), (3, .int .i64 ((l.length : Nat) : Int)), (4, .int .i64 0)] _ := h5.sub ⟨rfl, rfl, rfl, trivial⟩; clear h5
  refine co_loop (fun mm a x => ∃ (i : Nat), Slots 27 [(0, v), (3, .int .i64 ((l.length : Int) + sumN (l.take i))), (4, .int .i64 ((i : Nat) : Int))] a ∧ mm = l.length - i ∧ (i ≤ l.length) ∧ (i ≤ 200) ∧ Below w.heap.size w x) (l.length - 0) ?_ ?_
  · exact ⟨0, h6.sub ⟨rfl, (slot_eq rfl (congrArg (Value.int .i64) (by first | (simp [sumN]; done) | (rw [hst]; omega)))), (slot_eq rfl (congrArg (Value.int .i64) (by first | rfl | omega))), trivial⟩, rfl, by omega, by omega, hB0⟩
  · rintro k7 a8 w9 ⟨i, h8, rfl, hi10, hi11, hB12⟩
    have hz13 := hB12.size
    have hsm := sumN_takes (l := l) hok i (by omega)
    refine co_seq ?_
    refine co_seq ?_
    refine co_reg ?_
    refine pl_val (v := .int .i64 ((i : Nat) : Int)) h8 rfl rfl rfl (by kernel_rfl) (by kernel_rfl) (by kernel_rfl) (fun a14 h14 => ?_); clear h8
    refine pl_val (v := v) h14 rfl rfl rfl (by kernel_rfl) (by kernel_rfl) (by kernel_rfl) (fun a15 h15 => ?_); clear h14
    refine pl_val (v := .int .i64 ((l.length : Nat) : Int)) h15 rfl rfl rfl (by kernel_rfl) (by kernel_rfl) (rn_len rfl rfl Try.underlying48 (hs.below hB12)) (fun a16 h16 => ?_); clear h15
    refine pl_val (v := .bool (decide (((i : Nat) : Int) < ((l.length : Nat) : Int)))) h16 rfl rfl rfl (by kernel_rfl) (by kernel_rfl) (by kernel_rfl) (fun a17 h17 => ?_); clear h16
    refine pl_val (v := .bool (decide (((i : Nat) : Int) < ((l.length : Nat) : Int)))) h17 rfl rfl rfl (by kernel_rfl) (by kernel_rfl) (by kernel_rfl) (fun a18 h18 => ?_); clear h17
    cases hc19 : (decide (((i : Nat) : Int) < ((l.length : Nat) : Int)))
    ·
      rw [hc19] at h18
      have hp20 : ¬ (((i : Nat) : Int) < ((l.length : Nat) : Int)) := of_decide_eq_false hc19
      clear hc19
      refine pl_skip h18 rfl rfl rfl (fun a21 h21 => ?_); clear h18
      refine pl_skip h21 rfl rfl rfl (fun a22 h22 => ?_); clear h21
      refine pl_val (v := .bool false) h22 rfl rfl rfl (by kernel_rfl) (by kernel_rfl) (by kernel_rfl) (fun a23 h23 => ?_); clear h22
      refine pl_nil ?_
      refine co_then ?_
      refine co_false h23 rfl ?_
      refine wp_exit ?_
      refine co_thenX ?_
      refine co_thenX ?_
      refine co_blockX ?_
      refine co_then ?_
      refine co_seq ?_
      refine co_reg ?_
      refine pl_val (v := .int .i64 ((l.length : Int) + sumN (l.take i))) h23 rfl rfl rfl (by kernel_rfl) (by kernel_rfl) (by kernel_rfl) (fun a24 h24 => ?_); clear h23
      refine pl_val (v := .int .i64 ((l.length : Int) + sumN (l.take i))) h24 rfl rfl rfl (by kernel_rfl) (by kernel_rfl) (by kernel_rfl) (fun a25 h25 => ?_); clear h24
      refine pl_nil ?_
      refine co_then ?_
      refine wp_ret ?_
      refine co_ret1 h25 rfl rfl ?_
      have htk : l.take i = l.take 200 := by rcases Nat.lt_or_ge i l.length with hq | hq; (have : i = 200 := by omega); (subst this; rfl); (rw [List.take_of_length_le hq, List.take_of_length_le (by omega)])
      exact ⟨ret_int (by unfold muchN; rw [htk]), hB12⟩
    ·
      rw [hc19] at h18
      have hp26 : ((i : Nat) : Int) < ((l.length : Nat) : Int) := of_decide_eq_true hc19
      clear hc19
      refine pl_val (v := .int .i64 ((i : Nat) : Int)) h18 rfl rfl rfl (by kernel_rfl) (by kernel_rfl) (by kernel_rfl) (fun a27 h27 => ?_); clear h18
      refine pl_val (v := .bool (decide (((i : Nat) : Int) < 200))) h27 rfl rfl rfl (by kernel_rfl) (by kernel_rfl) (by kernel_rfl) (fun a28 h28 => ?_); clear h27
      refine pl_val (v := .bool (decide (((i : Nat) : Int) < 200))) h28 rfl rfl rfl (by kernel_rfl) (by kernel_rfl) (by kernel_rfl) (fun a29 h29 => ?_); clear h28
      refine pl_nil ?_
      refine co_then ?_
      cases hc30 : (decide (((i : Nat) : Int) < 200))
      ·
        rw [hc30] at h29
        have hp31 : ¬ (((i : Nat) : Int) < 200) := of_decide_eq_false hc30
        clear hc30
        refine co_false h29 rfl ?_
        refine wp_exit ?_
        refine co_thenX ?_
        refine co_thenX ?_
        refine co_blockX ?_
        refine co_then ?_
        refine co_seq ?_
        refine co_reg ?_
        refine pl_val (v := .int .i64 ((l.length : Int) + sumN (l.take i))) h29 rfl rfl rfl (by kernel_rfl) (by kernel_rfl) (by kernel_rfl) (fun a32 h32 => ?_); clear h29
        refine pl_val (v := .int .i64 ((l.length : Int) + sumN (l.take i))) h32 rfl rfl rfl (by kernel_rfl) (by kernel_rfl) (by kernel_rfl) (fun a33 h33 => ?_); clear h32
        refine pl_nil ?_
        refine co_then ?_
        refine wp_ret ?_
        refine co_ret1 h33 rfl rfl ?_
        have htk : l.take i = l.take 200 := by rcases Nat.lt_or_ge i l.length with hq | hq; (have : i = 200 := by omega); (subst this; rfl); (rw [List.take_of_length_le hq, List.take_of_length_le (by omega)])
        exact ⟨ret_int (by unfold muchN; rw [htk]), hB12⟩
      ·
        rw [hc30] at h29
        have hp34 : ((i : Nat) : Int) < 200 := of_decide_eq_true hc30
        clear hc30
        refine co_true h29 rfl ?_
        refine wp_skip ?_
        refine co_then ?_
        refine co_seq ?_
        refine wp_block ?_
        refine co_reg ?_
        refine pl_val (v := .int .i64 ((l.length : Int) + sumN (l.take i))) h29 rfl rfl rfl (by kernel_rfl) (by kernel_rfl) (by kernel_rfl) (fun a35 h35 => ?_); clear h29
        refine pl_val (v := v) h35 rfl rfl rfl (by kernel_rfl) (by kernel_rfl) (by kernel_rfl) (fun a36 h36 => ?_); clear h35
        refine pl_val (v := .int .i64 ((i : Nat) : Int)) h36 rfl rfl rfl (by kernel_rfl) (by kernel_rfl) (by kernel_rfl) (fun a37 h37 => ?_); clear h36
        obtain ⟨y38, hy38⟩ : ∃ z, l[i]? = some z := ⟨_, List.getElem?_eq_getElem (by first | omega | (simp; done) | (simp; omega))⟩
        have oky38 := hok _ (List.mem_of_getElem? hy38)
        have k39 : 0 ≤ y38.ts := oky38.1.ts0
        have k40 : y38.ts < 18446744073709551616 := oky38.1.ts1
        have k41 : y38.opl.length ≤ 3518437208883 := oky38.2
        refine pl_val (v := .pointer (some ⟨(blkOf v), offOf v + i * 4, none⟩)) h37 rfl rfl rfl (by kernel_rfl) (by kernel_rfl) (rn_index rfl rfl rfl Try.underlying48 Try.sizeOf34 (hs.below hB12) (by omega) (by first | omega | (simp; done) | (simp; omega))) (fun a42 h42 => ?_); clear h37
        refine pl_val (v := .pointer (some ⟨(blkOf v), offOf v + i * 4, none⟩)) h42 rfl rfl rfl (by kernel_rfl) (by kernel_rfl) (by kernel_rfl) (fun a43 h43 => ?_); clear h42
        refine pl_val (v := .pointer (some ⟨(blkOf v), offOf v + i * 4 + 2, none⟩)) h43 rfl rfl rfl (by kernel_rfl) (by kernel_rfl) (by kernel_rfl) (fun a44 h44 => ?_); clear h43
        refine pl_val (v := y38.ops) h44 rfl rfl rfl (by kernel_rfl) (by kernel_rfl) (rn_load1 rfl rfl Try.isAgg23 ((sl_at (hs.below hB12) hy38) 2 _ rfl)) (fun a45 h45 => ?_); clear h44
        refine pl_val (v := .int .i64 ((y38.opl.length : Nat) : Int)) h45 rfl rfl rfl (by kernel_rfl) (by kernel_rfl) (rn_len rfl rfl Try.underlying23 (oky38.1.ops.below hB12)) (fun a46 h46 => ?_); clear h45
        refine pl_val (v := .int .i64 (((l.length : Int) + sumN (l.take i)) + ((y38.opl.length : Nat) : Int))) h46 rfl rfl rfl (by kernel_rfl) (by kernel_rfl) (rn_arith rfl rfl rfl rfl rfl rfl (IntWalk.i64_in _ (by omega))) (fun a47 h47 => ?_); clear h46
        refine pl_val (v := .int .i64 (((l.length : Int) + sumN (l.take i)) + ((y38.opl.length : Nat) : Int))) h47 rfl rfl rfl (by kernel_rfl) (by kernel_rfl) (by kernel_rfl) (fun a48 h48 => ?_); clear h47
        refine pl_nil ?_
        refine co_blockN ?_
        refine co_then ?_
        refine co_reg ?_
        refine pl_val (v := .int .i64 ((i : Nat) : Int)) h48 rfl rfl rfl (by kernel_rfl) (by kernel_rfl) (by kernel_rfl) (fun a49 h49 => ?_); clear h48
        refine pl_val (v := .int .i64 ((i + 1 : Nat) : Int)) h49 rfl rfl rfl (by kernel_rfl) (by kernel_rfl) (rn_arith' rfl rfl rfl rfl rfl rfl (IntWalk.i64_in _ (by omega)) (by omega)) (fun a50 h50 => ?_); clear h49
        refine pl_val (v := .int .i64 ((i + 1 : Nat) : Int)) h50 rfl rfl rfl (by kernel_rfl) (by kernel_rfl) (by kernel_rfl) (fun a51 h51 => ?_); clear h50
        refine pl_nil ?_
        refine co_then ?_
        refine ⟨(l.length - (i + 1)), by omega, ?_⟩
        have hst := sumN_step hy38
        exact ⟨i + 1, h51.sub ⟨rfl, (slot_eq rfl (congrArg (Value.int .i64) (by first | (simp [sumN]; done) | (rw [hst]; omega)))), rfl, trivial⟩, rfl, by omega, by omega, hB12⟩
end Go.Proofs.Yteioaaegooebpaa
