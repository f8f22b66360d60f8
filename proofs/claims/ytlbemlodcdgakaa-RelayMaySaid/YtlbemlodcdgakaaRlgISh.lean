/- Package item: Check, Stamped, Last of both; Twins of the document's; how much a list holds. Conditions: none. -/
import Derived.Test.YtlbemlodcdgakaaEntRSh
import Derived.Test.YtlbemlodcdgakaaMapOSh
import Derived.Laws.StructEq
import Derived.Test.YtlbemlodcdgakaaPexVSh
namespace Go.Proofs.Ytlbemlodcdgakaa
open Go.RowKit Go.PlainAid
set_option linter.unusedVariables false


theorem entE_len (e : EntT) : (entE e).length = 4 := rfl
def twN (l : List EntT) (c r : Int) : Int := ((l.countP fun e => e.client == c && e.req == r : Nat) : Int)
theorem twN_snoc (l : List EntT) (y : EntT) (c r : Int) : twN (l ++ [y]) c r = twN l c r + (if y.client = c ∧ y.req = r then 1 else 0) := by
  unfold twN
  rw [List.countP_append]
  by_cases h : y.client = c ∧ y.req = r
  · simp [h.1, h.2]
  · rw [if_neg h]
    have : (y.client == c && y.req == r) = false := by simpa using h
    simp [List.countP_cons, this]
theorem twN_pos (l : List EntT) (c r : Int) : 0 ≤ twN l c r ∧ twN l c r ≤ l.length := by
  unfold twN; have := List.countP_le_length (p := fun e : EntT => e.client == c && e.req == r) (l := l); omega
theorem takeE {α : Type} {l : List α} {i : Nat} {y : α} (h : l[i]? = some y) : l.take (i + 1) = l.take i ++ [y] := by
  rw [List.take_add_one, h]; rfl
theorem dropE {α : Type} {l : List α} {i : Nat} {y : α} (h : l[i]? = some y) : l.drop i = y :: l.drop (i + 1) := by
  obtain ⟨hi, rfl⟩ := List.getElem?_eq_some_iff.1 h
  exact List.drop_eq_getElem_cons hi
def badT (pre : List EntT) (e : EntT) : Bool := match pre.getLast? with
  | none => false
  | some p => decide (e.ts ≠ 0 ∧ (p.ts = 0 ∨ e.ts ≤ p.ts))
def rgF : List EntT → List EntT → Int
  | _, [] => 0
  | pre, e :: r => if chkB e.client e.req e.opl ≠ 0 then chkB e.client e.req e.opl else if 0 < twN pre e.client e.req then 18 else if badT pre e = true then 18 else rgF (pre ++ [e]) r
def rightI (l : List EntT) : Int := rgF [] l
theorem rg_chk {l : List EntT} {i : Nat} {y : EntT} {z : Int} (h : rgF (l.take i) (l.drop i) = z) (hy : l[i]? = some y) (hc : chkB y.client y.req y.opl ≠ 0) : chkB y.client y.req y.opl = z := by
  rw [dropE hy] at h; unfold rgF at h; rwa [if_pos hc] at h
theorem rg_tw {l : List EntT} {i : Nat} {y : EntT} {z : Int} (h : rgF (l.take i) (l.drop i) = z) (hy : l[i]? = some y) (hc : ¬ chkB y.client y.req y.opl ≠ 0) (ht : 0 < twN (l.take i) y.client y.req) : 18 = z := by
  rw [dropE hy] at h; unfold rgF at h; rwa [if_neg hc, if_pos ht] at h
theorem rg_bad {l : List EntT} {i : Nat} {y : EntT} {z : Int} (h : rgF (l.take i) (l.drop i) = z) (hy : l[i]? = some y) (hc : ¬ chkB y.client y.req y.opl ≠ 0) (ht : ¬ 0 < twN (l.take i) y.client y.req) (hb : badT (l.take i) y = true) : 18 = z := by
  rw [dropE hy] at h; unfold rgF at h; rwa [if_neg hc, if_neg ht, if_pos hb] at h
theorem rg_step {l : List EntT} {i : Nat} {y : EntT} {z : Int} (h : rgF (l.take i) (l.drop i) = z) (hy : l[i]? = some y) (hc : ¬ chkB y.client y.req y.opl ≠ 0) (ht : ¬ 0 < twN (l.take i) y.client y.req) (hb : badT (l.take i) y = false) : rgF (l.take (i + 1)) (l.drop (i + 1)) = z := by
  rw [dropE hy] at h; unfold rgF at h; rw [if_neg hc, if_neg ht, if_neg (by simp [hb]), ← takeE hy] at h; exact h
theorem rg_end {l : List EntT} {i : Nat} {z : Int} (h : rgF (l.take i) (l.drop i) = z) (hi : l.length ≤ i) : 0 = z := by
  rw [List.drop_eq_nil_of_le hi] at h; simpa [rgF] using h
theorem bad_0 {l : List EntT} {i : Nat} {y : EntT} (h : ¬ (0 : Int) < i) : badT (l.take i) y = false := by
  obtain rfl : i = 0 := by omega
  simp [badT]
theorem bad_ts {pre : List EntT} {y : EntT} (h : y.ts = 0) : badT pre y = false := by
  unfold badT
  split
  · rfl
  · simp [h]
theorem bad_at {l : List EntT} {i j : Nat} {y p : EntT} (hj : j = i - 1) (h0 : 0 < i) (h : l[j]? = some p) : badT (l.take i) y = decide (y.ts ≠ 0 ∧ (p.ts = 0 ∨ y.ts ≤ p.ts)) := by
  have hl : (l.take i).getLast? = some p := by
    obtain ⟨i, rfl⟩ : ∃ k, i = k + 1 := ⟨i - 1, by omega⟩
    have : j = i := by omega
    subst this
    rw [takeE h]; simp
  unfold badT; rw [hl]
/-- How many have timestamps, the last of these. -/
def stN (l : List EntT) : Nat := (l.takeWhile fun e => decide (e.ts ≠ 0)).length
theorem stN_le (l : List EntT) : stN l ≤ l.length := by
  unfold stN; exact (List.takeWhile_sublist _).length_le
theorem stN_stop : ∀ {l : List EntT} {i : Nat} {y : EntT}, (∀ j, j < i → ∀ z, l[j]? = some z → z.ts ≠ 0) → l[i]? = some y → y.ts = 0 → stN l = i
  | [], i, y, _, h, _ => by simp at h
  | e :: l, 0, y, _, h, h0 => by simp at h; subst h; simp [stN, h0]
  | e :: l, i + 1, y, hb, h, h0 => by
    have he : e.ts ≠ 0 := hb 0 (by omega) e (by simp)
    have ih := stN_stop (l := l) (i := i) (fun j hj z hz => hb (j + 1) (by omega) z (by simpa using hz)) (by simpa using h) h0
    unfold stN at ih ⊢
    rw [List.takeWhile_cons, if_pos (by simpa using he), List.length_cons, ih]
theorem stN_end : ∀ {l : List EntT} {i : Nat}, (∀ j, j < i → ∀ z, l[j]? = some z → z.ts ≠ 0) → l.length = i → stN l = i
  | [], i, _, h => by simp at h; subst h; rfl
  | e :: l, 0, _, h => by simp at h
  | e :: l, i + 1, hb, h => by
    have he : e.ts ≠ 0 := hb 0 (by omega) e (by simp)
    have ih := stN_end (l := l) (i := i) (fun j hj z hz => hb (j + 1) (by omega) z (by simpa using hz)) (by simpa using h)
    unfold stN at ih ⊢
    rw [List.takeWhile_cons, if_pos (by simpa using he), List.length_cons, ih]
theorem st_next {l : List EntT} {i : Nat} {y : EntT} (hb : ∀ j, j < i → ∀ z, l[j]? = some z → z.ts ≠ 0) (h : l[i]? = some y) (h0 : ¬ y.ts = 0) : ∀ j, j < i + 1 → ∀ z, l[j]? = some z → z.ts ≠ 0 := by
  intro j hj z hz
  by_cases e : j = i
  · subst e; rw [h] at hz; cases hz; exact h0
  · exact hb j (by omega) z hz
def lastT (l : List EntT) : Int := if stN l = 0 then 0 else (l.getD (stN l - 1) default).ts
theorem lastT_at {l : List EntT} {y : EntT} {j : Nat} (hj : j = stN l - 1) (h : ¬ ((stN l : Nat) : Int) = 0) (hy : l[j]? = some y) : y.ts = lastT l := by
  subst hj
  unfold lastT; rw [if_neg (by omega), List.getD_eq_getElem?_getD, hy]; rfl
def sumN (l : List EntT) : Int := l.foldl (fun n e => n + (e.opl.length : Int)) 0
theorem sumN_snoc (l : List EntT) (y : EntT) : sumN (l ++ [y]) = sumN l + (y.opl.length : Int) := by unfold sumN; rw [List.foldl_append]; rfl
theorem sumN_step {l : List EntT} {i : Nat} {y : EntT} (h : l[i]? = some y) : sumN (l.take (i + 1)) = sumN (l.take i) + (y.opl.length : Int) := by rw [takeE h, sumN_snoc]
theorem sumN_le {w : World} : ∀ (l : List EntT), (∀ z ∈ l, EntOkS w z) → 0 ≤ sumN l ∧ sumN l ≤ 3518437208883 * (l.length : Int) := by
  intro l
  have key : ∀ (l : List EntT) (m : Int), (∀ z ∈ l, EntOkS w z) → m ≤ l.foldl (fun n e => n + (e.opl.length : Int)) m ∧ l.foldl (fun n e => n + (e.opl.length : Int)) m ≤ m + 3518437208883 * (l.length : Int) := by
    intro l
    induction l with
    | nil => intro m _; simp
    | cons e r ih =>
      intro m h
      have h1 := ih (m + (e.opl.length : Int)) (fun z hz => h z (by simp [hz]))
      have h2 := (h e (by simp)).2
      simp only [List.foldl_cons, List.length_cons]
      omega
  intro h
  have := key l 0 h
  unfold sumN; omega
theorem sumN_takes {w : World} {l : List EntT} (h : ∀ z ∈ l, EntOkS w z) (i : Nat) (hi : i ≤ 200) : 0 ≤ sumN (l.take i) ∧ sumN (l.take i) ≤ 703687441776600 := by
  have := sumN_le (l.take i) (fun z hz => h z (List.mem_of_mem_take hz))
  have h2 : (l.take i).length ≤ 200 := by rw [List.length_take]; omega
  omega
def muchN (l : List EntT) : Int := (l.length : Int) + sumN (l.take 200)

set_option maxRecDepth 100000 in
theorem ritemCheck_any (c : Int) (r : Int) (v : Value) (l : List OpT) (ts : Int) (w : World) (hs : SliceOf opE 3 w v l) :
    Calls Try.prog 81 #[.agg #[.int .i64 c, .int .i64 r, v, .int .u64 ts]] w fun e w' => e = .returned (.int .i64 (chkB c r l)) ∧ Below w.heap.size w w' := by
 have hB0 := Below.refl w.heap.size w
 have hl_hs := sl_len hs
 refine co_enter (n := 6) Try.func81 rfl rfl rfl [(0, .agg #[.int .i64 c, .int .i64 r, v, .int .u64 ts])] rfl (fun a h0 => ?_)
 refine co_seq ?_
 refine co_reg ?_
 refine pw h0 rfl (op_new (v := fun N => pt N 0) (T := 38) (cs := #[.int .i64 c, .int .i64 r, v, .int .u64 ts]) (by kernel_rfl) (by kernel_rfl) (by kernel_rfl)) ?_; clear h0
 rintro _ w2 a1 ⟨N3, rfl, hN6, hz7, hk5, hg4⟩ h1
 have hz8 := hg4.size
 try dsimp only at h1
 refine pk0 (v := .int .i64 0) h1 rfl fun a9 h9 => ?_; clear h1
 refine pl_nil ?_
 refine co_then ?_
 refine co_seq ?_
 refine co_reg ?_
 refine pk0 (v := pt N3 0) h9 rfl fun a10 h10 => ?_; clear h9
 refine pk (v := .agg #[.int .i64 c, .int .i64 r, v]) h10 rfl (rn_loadN rfl rfl Try.underlying36 rfl (by kernel_rfl) (blk_part hk5 0 (by rfl))) fun a11 h11 => ?_; clear h10
 have hB14 := hb_new hB0 hg4
 refine pw h11 rfl (op_call (args := #[.agg #[.int .i64 c, .int .i64 r, v]]) (R := fun res xw => res = .int .i64 (chkB c r l) ∧ Below w2.heap.size w2 xw) rfl rfl rfl (by kernel_rfl) (by kernel_rfl) (Try.call125 _ _) (ropsCheck_any c r v l w2 (hs.below hB14)) (by rintro e x ⟨rfl, hb15⟩; exact ⟨_, rfl, ⟨rfl, hb15⟩⟩)) ?_; clear h11
 rintro _ w13 a12 ⟨rfl, hb15⟩ h12
 have hz16 := hb15.size
 refine pk0 (v := .int .i64 (chkB c r l)) h12 rfl fun a17 h17 => ?_; clear h12
 refine pl_nil ?_
 refine co_then ?_
 refine wp_ret ?_
 refine co_ret1 h17 rfl rfl ?_
 have hB18 := hb_call hB14 hb15
 exact ⟨rfl, hB18⟩
set_option maxRecDepth 100000 in
theorem ritemTwins_any (c : Int) (r : Int) (v : Value) (ts : Int) (c2 : Int) (r2 : Int) (v2 : Value) (ts2 : Int) (w : World)  :
    Calls Try.prog 43 #[.agg #[.int .i64 c, .int .i64 r, v, .int .u64 ts], .agg #[.int .i64 c2, .int .i64 r2, v2, .int .u64 ts2]] w fun e w' => e = .returned (.bool ((c == (c2 : Int)) && (r == (r2 : Int)))) ∧ Below w.heap.size w w' := by
 have hB0 := Below.refl w.heap.size w
 refine co_enter (n := 21) Try.func43 rfl rfl rfl [(0, .agg #[.int .i64 c, .int .i64 r, v, .int .u64 ts]), (1, .agg #[.int .i64 c2, .int .i64 r2, v2, .int .u64 ts2])] rfl (fun a h0 => ?_)
 refine co_seq ?_
 refine co_reg ?_
 refine pw h0 rfl (op_new (v := fun N => pt N 0) (T := 38) (cs := #[.int .i64 c, .int .i64 r, v, .int .u64 ts]) (by kernel_rfl) (by kernel_rfl) (by kernel_rfl)) ?_; clear h0
 rintro _ w2 a1 ⟨N3, rfl, hN6, hz7, hk5, hg4⟩ h1
 have hz8 := hg4.size
 try dsimp only at h1
 refine pw h1 rfl (op_new (v := fun N => pt N 0) (T := 38) (cs := #[.int .i64 c2, .int .i64 r2, v2, .int .u64 ts2]) (by kernel_rfl) (by kernel_rfl) (by kernel_rfl)) ?_; clear h1
 rintro _ w10 a9 ⟨N11, rfl, hN14, hz15, hk13, hg12⟩ h9
 have hz16 := hg12.size
 try dsimp only at h9
 refine pk0 (v := .bool false) h9 rfl fun a17 h17 => ?_; clear h9
 refine pl_nil ?_
 refine co_then ?_
 refine co_seq ?_
 refine co_reg ?_
 refine pk0 (v := pt N3 0) h17 rfl fun a18 h18 => ?_; clear h17
 refine pk0 (v := pt N3 0) h18 rfl fun a19 h19 => ?_; clear h18
 have hk20 := hk5.kept hg12 (by simp)
 refine pk (v := .int .i64 c) h19 rfl (rn_load1 rfl rfl Try.isAgg3 (hk20.cell rfl)) fun a21 h21 => ?_; clear h19
 refine pk0 (v := pt N11 0) h21 rfl fun a22 h22 => ?_; clear h21
 refine pk0 (v := pt N11 0) h22 rfl fun a23 h23 => ?_; clear h22
 refine pk (v := .int .i64 c2) h23 rfl (rn_load1 rfl rfl Try.isAgg3 (hk13.cell rfl)) fun a24 h24 => ?_; clear h23
 refine pk0 (v := .bool (c == c2)) h24 rfl fun a25 h25 => ?_; clear h24
 refine pk0 (v := .bool (c == c2)) h25 rfl fun a26 h26 => ?_; clear h25
 have hB28 := hb_new hB0 hg4
 have hB29 := hb_new hB28 hg12
 cases hc27 : (c == c2)
 ·
  rw [hc27] at h26
  have hp30 : ¬ (c = c2) := by first | simpa using hc27 | simpa [and_assoc] using hc27
  clear hc27
  refine psk h26 rfl fun a31 h31 => ?_; clear h26
  refine psk h31 rfl fun a32 h32 => ?_; clear h31
  refine psk h32 rfl fun a33 h33 => ?_; clear h32
  refine psk h33 rfl fun a34 h34 => ?_; clear h33
  refine psk h34 rfl fun a35 h35 => ?_; clear h34
  refine psk h35 rfl fun a36 h36 => ?_; clear h35
  refine psk h36 rfl fun a37 h37 => ?_; clear h36
  refine pk0 (v := .bool false) h37 rfl fun a38 h38 => ?_; clear h37
  refine pk0 (v := .bool false) h38 rfl fun a39 h39 => ?_; clear h38
  refine pl_nil ?_
  refine co_then ?_
  refine wp_ret ?_
  refine co_ret1 h39 rfl rfl ?_
  exact ⟨ret_bool (by first | rfl | simp_all), hB29⟩
 ·
  rw [hc27] at h26
  have hp40 : c = c2 := by first | simpa using hc27 | simpa [and_assoc] using hc27
  clear hc27
  refine pk0 (v := pt N3 0) h26 rfl fun a41 h41 => ?_; clear h26
  refine pk0 (v := pt N3 1) h41 rfl fun a42 h42 => ?_; clear h41
  refine pk (v := .int .i64 r) h42 rfl (rn_load1 rfl rfl Try.isAgg3 (hk20.cell rfl)) fun a43 h43 => ?_; clear h42
  refine pk0 (v := pt N11 0) h43 rfl fun a44 h44 => ?_; clear h43
  refine pk0 (v := pt N11 1) h44 rfl fun a45 h45 => ?_; clear h44
  refine pk (v := .int .i64 r2) h45 rfl (rn_load1 rfl rfl Try.isAgg3 (hk13.cell rfl)) fun a46 h46 => ?_; clear h45
  refine pk0 (v := .bool (r == r2)) h46 rfl fun a47 h47 => ?_; clear h46
  refine pk0 (v := .bool (r == r2)) h47 rfl fun a48 h48 => ?_; clear h47
  refine pk0 (v := .bool (r == r2)) h48 rfl fun a49 h49 => ?_; clear h48
  refine pl_nil ?_
  refine co_then ?_
  refine wp_ret ?_
  refine co_ret1 h49 rfl rfl ?_
  exact ⟨ret_bool (by first | rfl | simp_all), hB29⟩
set_option maxRecDepth 100000 in
theorem itemStamped_any (v : Value) (l : List EntT) (w : World) (hs : SliceOf entE 4 w v l) (hok : ∀ z ∈ l, EntOk w z) :
    Calls Try.prog 70 #[v] w fun e w' => e = .returned (.int .i64 ((stN l : Nat) : Int)) ∧ Below w.heap.size w w' := by
 have hB0 := Below.refl w.heap.size w
 have hl_hs := sl_len hs
 refine co_enter (n := 19) Try.func70 rfl rfl rfl [(0, v)] rfl (fun a h0 => ?_)
 refine co_seq ?_
 refine co_reg ?_
 refine pk0 (v := .int .i64 0) h0 rfl fun a1 h1 => ?_; clear h0
 refine pl_nil ?_
 refine co_then ?_
 refine co_seq ?_
 refine co_reg ?_
 refine pk0 (v := .int .i64 0) h1 rfl fun a2 h2 => ?_; clear h1
 refine pl_nil ?_
 refine co_then ?_
 refine co_seq ?_
 refine wp_block ?_
 have h3 : Slots 19 [(0, v), (3, .int .i64 0)] _ := h2.sub ⟨rfl, rfl, trivial⟩; clear h2
 refine co_loop (fun mm a x => ∃ (i : Nat), Slots 19 [(0, v), (3, .int .i64 ((i : Nat) : Int))] a ∧ mm = l.length - i ∧ (i ≤ l.length) ∧ (∀ j, j < i → ∀ z, l[j]? = some z → z.ts ≠ 0) ∧ Below w.heap.size w x) (l.length - 0) ?_ ?_
 · exact ⟨0, h3.sub ⟨rfl, (slot_eq rfl (congrArg (Value.int .i64) (by first | rfl | omega))), trivial⟩, rfl, by omega, by first | (intro j hj; omega) | exact st_next (by assumption) (by assumption) (by omega), hB0⟩
 · rintro k4 a5 w6 ⟨i, h5, rfl, hi7, hi8, hB9⟩
   have hz10 := hB9.size
   refine co_seq ?_
   refine co_seq ?_
   refine co_reg ?_
   refine pk0 (v := .int .i64 ((i : Nat) : Int)) h5 rfl fun a11 h11 => ?_; clear h5
   refine pk0 (v := v) h11 rfl fun a12 h12 => ?_; clear h11
   refine pk (v := .int .i64 ((l.length : Nat) : Int)) h12 rfl (rn_len rfl rfl Try.underlying69 (hs.below hB9)) fun a13 h13 => ?_; clear h12
   refine pk0 (v := .bool (decide (((i : Nat) : Int) < ((l.length : Nat) : Int)))) h13 rfl fun a14 h14 => ?_; clear h13
   refine pk0 (v := .bool (decide (((i : Nat) : Int) < ((l.length : Nat) : Int)))) h14 rfl fun a15 h15 => ?_; clear h14
   cases hc16 : (decide (((i : Nat) : Int) < ((l.length : Nat) : Int)))
   ·
    rw [hc16] at h15
    have hp17 : ¬ (((i : Nat) : Int) < ((l.length : Nat) : Int)) := of_decide_eq_false hc16
    clear hc16
    refine psk h15 rfl fun a18 h18 => ?_; clear h15
    refine psk h18 rfl fun a19 h19 => ?_; clear h18
    refine psk h19 rfl fun a20 h20 => ?_; clear h19
    refine psk h20 rfl fun a21 h21 => ?_; clear h20
    refine psk h21 rfl fun a22 h22 => ?_; clear h21
    refine psk h22 rfl fun a23 h23 => ?_; clear h22
    refine pk0 (v := .bool false) h23 rfl fun a24 h24 => ?_; clear h23
    refine pl_nil ?_
    refine co_then ?_
    refine co_false h24 rfl ?_
    refine wp_exit ?_
    refine co_thenX ?_
    refine co_thenX ?_
    refine co_blockX ?_
    refine co_then ?_
    refine co_seq ?_
    refine co_reg ?_
    refine pk0 (v := .int .i64 ((i : Nat) : Int)) h24 rfl fun a25 h25 => ?_; clear h24
    refine pk0 (v := .int .i64 ((i : Nat) : Int)) h25 rfl fun a26 h26 => ?_; clear h25
    refine pl_nil ?_
    refine co_then ?_
    refine wp_ret ?_
    refine co_ret1 h26 rfl rfl ?_
    exact ⟨ret_int (by rw [stN_end (l := l) (i := i) (by assumption) (by omega)]), hB9⟩
   ·
    rw [hc16] at h15
    have hp27 : ((i : Nat) : Int) < ((l.length : Nat) : Int) := of_decide_eq_true hc16
    clear hc16
    refine pk0 (v := v) h15 rfl fun a28 h28 => ?_; clear h15
    refine pk0 (v := .int .i64 ((i : Nat) : Int)) h28 rfl fun a29 h29 => ?_; clear h28
    obtain ⟨y30, hy30⟩ : ∃ z, l[i]? = some z := ⟨_, List.getElem?_eq_getElem (by first | omega | (simp; done) | (simp; omega))⟩
    have oky30 := hok _ (List.mem_of_getElem? hy30)
    have k31 : 0 ≤ y30.ts := oky30.ts0
    have k32 : y30.ts < 18446744073709551616 := oky30.ts1
    refine pk (v := pt (blkOf v) (offOf v + i * 4)) h29 rfl (rn_index rfl rfl rfl Try.underlying69 Try.sizeOf38 (hs.below hB9) (by omega) (by first | omega | (simp; done) | (simp; omega))) fun a33 h33 => ?_; clear h29
    refine pk0 (v := pt (blkOf v) (offOf v + i * 4 + 3)) h33 rfl fun a34 h34 => ?_; clear h33
    refine pk (v := .int .u64 y30.ts) h34 rfl (rn_load1 rfl rfl Try.isAgg29 ((sl_at (hs.below hB9) hy30) 3 _ rfl)) fun a35 h35 => ?_; clear h34
    refine pk0 (v := .bool (y30.ts != 0)) h35 rfl fun a36 h36 => ?_; clear h35
    refine pk0 (v := .bool (y30.ts != 0)) h36 rfl fun a37 h37 => ?_; clear h36
    refine pl_nil ?_
    refine co_then ?_
    cases hc38 : (y30.ts != 0)
    ·
     rw [hc38] at h37
     have hp39 : ¬ (y30.ts ≠ 0) := by first | simpa using hc38 | simpa [and_assoc] using hc38
     clear hc38
     refine co_false h37 rfl ?_
     refine wp_exit ?_
     refine co_thenX ?_
     refine co_thenX ?_
     refine co_blockX ?_
     refine co_then ?_
     refine co_seq ?_
     refine co_reg ?_
     refine pk0 (v := .int .i64 ((i : Nat) : Int)) h37 rfl fun a40 h40 => ?_; clear h37
     refine pk0 (v := .int .i64 ((i : Nat) : Int)) h40 rfl fun a41 h41 => ?_; clear h40
     refine pl_nil ?_
     refine co_then ?_
     refine wp_ret ?_
     refine co_ret1 h41 rfl rfl ?_
     exact ⟨ret_int (by rw [stN_stop (l := l) (i := i) (by assumption) hy30 (by omega)]), hB9⟩
    ·
     rw [hc38] at h37
     have hp42 : y30.ts ≠ 0 := by first | simpa using hc38 | simpa [and_assoc] using hc38
     clear hc38
     refine co_true h37 rfl ?_
     refine wp_skip ?_
     refine co_then ?_
     refine wp_block ?_
     refine co_reg ?_
     refine pk0 (v := .int .i64 ((i : Nat) : Int)) h37 rfl fun a43 h43 => ?_; clear h37
     refine pk (v := .int .i64 ((i + 1 : Nat) : Int)) h43 rfl (rn_arith' rfl rfl rfl rfl rfl rfl (IntWalk.i64_in _ (by omega)) (by omega)) fun a44 h44 => ?_; clear h43
     refine pk0 (v := .int .i64 ((i + 1 : Nat) : Int)) h44 rfl fun a45 h45 => ?_; clear h44
     refine pl_nil ?_
     refine co_blockN ?_
     refine co_then ?_
     refine ⟨(l.length - (i + 1)), by omega, ?_⟩
     exact ⟨i + 1, h45.sub ⟨rfl, rfl, trivial⟩, rfl, by omega, by first | (intro j hj; omega) | exact st_next (by assumption) (by assumption) (by omega), hB9⟩
set_option maxRecDepth 100000 in
theorem much_any (v : Value) (l : List EntT) (w : World) (hs : SliceOf entE 4 w v l) (hok : ∀ z ∈ l, EntOkS w z) (hl : l.length ≤ 2932031007403) :
    Calls Try.prog 24 #[v] w fun e w' => e = .returned (.int .i64 (muchN l)) ∧ Below w.heap.size w w' := by
 have hB0 := Below.refl w.heap.size w
 have hl_hs := sl_len hs
 refine co_enter (n := 27) Try.func24 rfl rfl rfl [(0, v)] rfl (fun a h0 => ?_)
 refine co_seq ?_
 refine co_reg ?_
 refine pk0 (v := .int .i64 0) h0 rfl fun a1 h1 => ?_; clear h0
 refine pl_nil ?_
 refine co_then ?_
 refine co_seq ?_
 refine co_reg ?_
 refine pk0 (v := v) h1 rfl fun a2 h2 => ?_; clear h1
 refine pk (v := .int .i64 ((l.length : Nat) : Int)) h2 rfl (rn_len rfl rfl Try.underlying69 hs) fun a3 h3 => ?_; clear h2
 refine pk0 (v := .int .i64 ((l.length : Nat) : Int)) h3 rfl fun a4 h4 => ?_; clear h3
 refine pl_nil ?_
 refine co_then ?_
 refine co_seq ?_
 refine co_seq ?_
 refine co_reg ?_
 refine pk0 (v := .int .i64 0) h4 rfl fun a5 h5 => ?_; clear h4
 refine pl_nil ?_
 refine co_then ?_
 refine wp_block ?_
 have h6 : Slots 27 [(0, v), (3, .int .i64 ((l.length : Nat) : Int)), (4, .int .i64 0)] _ := h5.sub ⟨rfl, rfl, rfl, trivial⟩; clear h5
 refine co_loop (fun mm a x => ∃ (i : Nat), Slots 27 [(0, v), (3, .int .i64 ((l.length : Int) + sumN (l.take i))), (4, .int .i64 ((i : Nat) : Int))] a ∧ mm = l.length - i ∧ (i ≤ l.length) ∧ (i ≤ 200) ∧ Below w.heap.size w x) (l.length - 0) ?_ ?_
 · exact ⟨0, h6.sub ⟨rfl, (slot_eq rfl (congrArg (Value.int .i64) (by first | (simp [sumN]; done) | (rw [hst]; omega)))), (slot_eq rfl (congrArg (Value.int .i64) (by first | rfl | omega))), trivial⟩, rfl, by omega, by omega, hB0⟩
 · rintro k7 a8 w9 ⟨i, h8, rfl, hi10, hi11, hB12⟩
   have hz13 := hB12.size
   have hsm := sumN_takes (l := l) hok i (by omega)
   refine co_seq ?_
   refine co_seq ?_
   refine co_reg ?_
   refine pk0 (v := .int .i64 ((i : Nat) : Int)) h8 rfl fun a14 h14 => ?_; clear h8
   refine pk0 (v := v) h14 rfl fun a15 h15 => ?_; clear h14
   refine pk (v := .int .i64 ((l.length : Nat) : Int)) h15 rfl (rn_len rfl rfl Try.underlying69 (hs.below hB12)) fun a16 h16 => ?_; clear h15
   refine pk0 (v := .bool (decide (((i : Nat) : Int) < ((l.length : Nat) : Int)))) h16 rfl fun a17 h17 => ?_; clear h16
   refine pk0 (v := .bool (decide (((i : Nat) : Int) < ((l.length : Nat) : Int)))) h17 rfl fun a18 h18 => ?_; clear h17
   cases hc19 : (decide (((i : Nat) : Int) < ((l.length : Nat) : Int)))
   ·
    rw [hc19] at h18
    have hp20 : ¬ (((i : Nat) : Int) < ((l.length : Nat) : Int)) := of_decide_eq_false hc19
    clear hc19
    refine psk h18 rfl fun a21 h21 => ?_; clear h18
    refine psk h21 rfl fun a22 h22 => ?_; clear h21
    refine pk0 (v := .bool false) h22 rfl fun a23 h23 => ?_; clear h22
    refine pl_nil ?_
    refine co_then ?_
    refine co_false h23 rfl ?_
    refine wp_exit ?_
    refine co_thenX ?_
    refine co_thenX ?_
    refine co_blockX ?_
    refine co_then ?_
    refine co_seq ?_
    refine co_reg ?_
    refine pk0 (v := .int .i64 ((l.length : Int) + sumN (l.take i))) h23 rfl fun a24 h24 => ?_; clear h23
    refine pk0 (v := .int .i64 ((l.length : Int) + sumN (l.take i))) h24 rfl fun a25 h25 => ?_; clear h24
    refine pl_nil ?_
    refine co_then ?_
    refine wp_ret ?_
    refine co_ret1 h25 rfl rfl ?_
    have htk : l.take i = l.take 200 := by rcases Nat.lt_or_ge i l.length with hq | hq; (have : i = 200 := by omega); (subst this; rfl); (rw [List.take_of_length_le hq, List.take_of_length_le (by omega)])
    exact ⟨ret_int (by unfold muchN; rw [htk]), hB12⟩
   ·
    rw [hc19] at h18
    have hp26 : ((i : Nat) : Int) < ((l.length : Nat) : Int) := of_decide_eq_true hc19
    clear hc19
    refine pk0 (v := .int .i64 ((i : Nat) : Int)) h18 rfl fun a27 h27 => ?_; clear h18
    refine pk0 (v := .bool (decide (((i : Nat) : Int) < 200))) h27 rfl fun a28 h28 => ?_; clear h27
    refine pk0 (v := .bool (decide (((i : Nat) : Int) < 200))) h28 rfl fun a29 h29 => ?_; clear h28
    refine pl_nil ?_
    refine co_then ?_
    cases hc30 : (decide (((i : Nat) : Int) < 200))
    ·
     rw [hc30] at h29
     have hp31 : ¬ (((i : Nat) : Int) < 200) := of_decide_eq_false hc30
     clear hc30
     refine co_false h29 rfl ?_
     refine wp_exit ?_
     refine co_thenX ?_
     refine co_thenX ?_
     refine co_blockX ?_
     refine co_then ?_
     refine co_seq ?_
     refine co_reg ?_
     refine pk0 (v := .int .i64 ((l.length : Int) + sumN (l.take i))) h29 rfl fun a32 h32 => ?_; clear h29
     refine pk0 (v := .int .i64 ((l.length : Int) + sumN (l.take i))) h32 rfl fun a33 h33 => ?_; clear h32
     refine pl_nil ?_
     refine co_then ?_
     refine wp_ret ?_
     refine co_ret1 h33 rfl rfl ?_
     have htk : l.take i = l.take 200 := by rcases Nat.lt_or_ge i l.length with hq | hq; (have : i = 200 := by omega); (subst this; rfl); (rw [List.take_of_length_le hq, List.take_of_length_le (by omega)])
     exact ⟨ret_int (by unfold muchN; rw [htk]), hB12⟩
    ·
     rw [hc30] at h29
     have hp34 : ((i : Nat) : Int) < 200 := of_decide_eq_true hc30
     clear hc30
     refine co_true h29 rfl ?_
     refine wp_skip ?_
     refine co_then ?_
     refine co_seq ?_
     refine wp_block ?_
     refine co_reg ?_
     refine pk0 (v := .int .i64 ((l.length : Int) + sumN (l.take i))) h29 rfl fun a35 h35 => ?_; clear h29
     refine pk0 (v := v) h35 rfl fun a36 h36 => ?_; clear h35
     refine pk0 (v := .int .i64 ((i : Nat) : Int)) h36 rfl fun a37 h37 => ?_; clear h36
     obtain ⟨y38, hy38⟩ : ∃ z, l[i]? = some z := ⟨_, List.getElem?_eq_getElem (by first | omega | (simp; done) | (simp; omega))⟩
     have oky38 := hok _ (List.mem_of_getElem? hy38)
     have k39 : 0 ≤ y38.ts := oky38.1.ts0
     have k40 : y38.ts < 18446744073709551616 := oky38.1.ts1
     have k41 : y38.opl.length ≤ 3518437208883 := oky38.2
     refine pk (v := pt (blkOf v) (offOf v + i * 4)) h37 rfl (rn_index rfl rfl rfl Try.underlying69 Try.sizeOf38 (hs.below hB12) (by omega) (by first | omega | (simp; done) | (simp; omega))) fun a42 h42 => ?_; clear h37
     refine pk0 (v := pt (blkOf v) (offOf v + i * 4)) h42 rfl fun a43 h43 => ?_; clear h42
     refine pk0 (v := pt (blkOf v) (offOf v + i * 4 + 2)) h43 rfl fun a44 h44 => ?_; clear h43
     refine pk (v := y38.ops) h44 rfl (rn_load1 rfl rfl Try.isAgg34 ((sl_at (hs.below hB12) hy38) 2 _ rfl)) fun a45 h45 => ?_; clear h44
     refine pk (v := .int .i64 ((y38.opl.length : Nat) : Int)) h45 rfl (rn_len rfl rfl Try.underlying34 (oky38.1.ops.below hB12)) fun a46 h46 => ?_; clear h45
     refine pk (v := .int .i64 (((l.length : Int) + sumN (l.take i)) + ((y38.opl.length : Nat) : Int))) h46 rfl (rn_arith rfl rfl rfl rfl rfl rfl (IntWalk.i64_in _ (by omega))) fun a47 h47 => ?_; clear h46
     refine pk0 (v := .int .i64 (((l.length : Int) + sumN (l.take i)) + ((y38.opl.length : Nat) : Int))) h47 rfl fun a48 h48 => ?_; clear h47
     refine pl_nil ?_
     refine co_blockN ?_
     refine co_then ?_
     refine co_reg ?_
     refine pk0 (v := .int .i64 ((i : Nat) : Int)) h48 rfl fun a49 h49 => ?_; clear h48
     refine pk (v := .int .i64 ((i + 1 : Nat) : Int)) h49 rfl (rn_arith' rfl rfl rfl rfl rfl rfl (IntWalk.i64_in _ (by omega)) (by omega)) fun a50 h50 => ?_; clear h49
     refine pk0 (v := .int .i64 ((i + 1 : Nat) : Int)) h50 rfl fun a51 h51 => ?_; clear h50
     refine pl_nil ?_
     refine co_then ?_
     refine ⟨(l.length - (i + 1)), by omega, ?_⟩
     have hst := sumN_step hy38
     exact ⟨i + 1, h51.sub ⟨rfl, (slot_eq rfl (congrArg (Value.int .i64) (by first | (simp [sumN]; done) | (rw [hst]; omega)))), rfl, trivial⟩, rfl, by omega, by omega, hB12⟩
end Go.Proofs.Ytlbemlodcdgakaa
