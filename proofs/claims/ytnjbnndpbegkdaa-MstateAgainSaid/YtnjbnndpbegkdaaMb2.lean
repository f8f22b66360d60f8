/- Put together: NoAMa, LeaBMa, LeaCMa, LeaDMa, LeaEMa, FootMa, GoMa, MstAMa, MstBMa. Conditions: as each says. -/
import Derived.Test.YtnjbnndpbegkdaaMb1
import Derived.LoopN
/- Package note: Check of both. Conditions: none. -/
namespace Go.Proofs.Ytnjbnndpbegkdaa
open Go.RowKit Go.PlainAid
set_option linter.unusedVariables false


/-- A note, without where its lists lie. -/
structure NoteD where
  k : Int
  n : Int
  t : Int
  ep : Int
  ms : List MemT
  fl : Int
  lg : List Int
  ec : Int
  er : Int
  el : List OpT
  ets : Int
  pid : Int
  pat : Int
  plf : Int
  sc : Int
  sr : Int
  se : Int
  sp : Int
def zN (k : Int) : NoteD := ⟨k, 0, 0, 0, [], 0, [], 0, 0, [], 0, 0, 0, 0, 0, 0, 0, 0⟩
/-- What is known of a note that may be. -/
structure NoteR (d : NoteD) : Prop where
  mem : ∀ m ∈ d.ms, memOk m
  rng : (-9223372036854775808 ≤ d.ep ∧ d.ep ≤ 9223372036854775807) ∧ (0 ≤ d.fl ∧ d.fl < 18446744073709551616) ∧ (0 ≤ d.t ∧ d.t < 18446744073709551616) ∧ (0 ≤ d.ets ∧ d.ets < 18446744073709551616) ∧ (0 ≤ d.pat ∧ d.pat < 18446744073709551616)
def badI (p : Option Int) (x : Int) : Bool := match p with | some q => decide (x ≤ q) | none => false
def chkLgF : Option Int → List Int → Int
  | _, [] => 0
  | p, x :: r => if x < 0 ∨ 3 < x then 1 else if badI p x = true then 18 else chkLgF (some x) r
def prevI (l : List Int) (i : Nat) : Option Int := if i = 0 then none else l[i - 1]?
def chkLg (l : List Int) : Int := if 4 < l.length then 6 else chkLgF none l
theorem prevI_succ {l : List Int} {i : Nat} {y : Int} (h : l[i]? = some y) : prevI l (i + 1) = some y := by simp [prevI, h]
theorem dropI {α : Type} {l : List α} {i : Nat} {y : α} (h : l[i]? = some y) : l.drop i = y :: l.drop (i + 1) := by
  obtain ⟨hi, rfl⟩ := List.getElem?_eq_some_iff.1 h
  exact List.drop_eq_getElem_cons hi
/-- What the closure tells of the place i. -/
def lgAt (l : List Int) (i : Nat) (x : Int) : Int := if x < 0 ∨ 3 < x then 1 else if badI (prevI l i) x = true then 18 else 0
theorem lgAt_1 {l : List Int} {i : Nat} {x : Int} (h : x < 0 ∨ x > 3) : 1 = lgAt l i x := by unfold lgAt; rw [if_pos (by omega)]
theorem lgAt_18 {l : List Int} {i j : Nat} {x q : Int} (h : ¬ (x < 0 ∨ x > 3)) (hj : j = i - 1) (h0 : 0 < i) (hq : l[j]? = some q) (hx : x ≤ q) : 18 = lgAt l i x := by
  subst hj
  have e : prevI l i = some q := by unfold prevI; rw [if_neg (by omega), hq]
  unfold lgAt badI; rw [if_neg (by omega), e]; simp [hx]
theorem lgAt_0 {l : List Int} {i j : Nat} {x q : Int} (h : ¬ (x < 0 ∨ x > 3)) (hj : j = i - 1) (h0 : 0 < i) (hq : l[j]? = some q) (hx : ¬ x ≤ q) : 0 = lgAt l i x := by
  subst hj
  have e : prevI l i = some q := by unfold prevI; rw [if_neg (by omega), hq]
  unfold lgAt badI; rw [if_neg (by omega), e]; simp [hx]
theorem lgAt_0' {l : List Int} {i : Nat} {x : Int} (h : ¬ (x < 0 ∨ x > 3)) (h0 : ¬ (0 : Int) < i) : 0 = lgAt l i x := by
  obtain rfl : i = 0 := by omega
  unfold lgAt prevI badI; rw [if_neg (by omega)]; simp
theorem lg_bad {l : List Int} {i : Nat} {y z : Int} (h : chkLgF (prevI l i) (l.drop i) = z) (hy : l[i]? = some y) (hc : lgAt l i y ≠ 0) : lgAt l i y = z := by
  rw [dropI hy] at h; unfold chkLgF at h; unfold lgAt at hc ⊢
  split
  · rename_i h1; rwa [if_pos h1] at h
  · rename_i h1
    rw [if_neg h1] at h
    split
    · rename_i h2; rwa [if_pos h2] at h
    · rename_i h2; rw [if_neg h1, if_neg h2] at hc; exact absurd rfl hc
theorem lg_step {l : List Int} {i : Nat} {y z : Int} (h : chkLgF (prevI l i) (l.drop i) = z) (hy : l[i]? = some y) (hc : lgAt l i y = 0) : chkLgF (prevI l (i + 1)) (l.drop (i + 1)) = z := by
  rw [dropI hy] at h; unfold chkLgF at h; unfold lgAt at hc
  split at hc
  · omega
  · rename_i h1
    rw [if_neg h1] at h
    split at hc
    · omega
    · rename_i h2; rw [if_neg h2] at h; rw [prevI_succ hy]; exact h
theorem lg_end {l : List Int} {i : Nat} {z : Int} (h : chkLgF (prevI l i) (l.drop i) = z) (hi : l.length ≤ i) : 0 = z := by
  rw [List.drop_eq_nil_of_le hi] at h; simpa [chkLgF] using h
theorem lgF_ok : ∀ (p : Option Int) (l : List Int), chkLgF p l = 0 → ∀ x ∈ l, 0 ≤ x ∧ x ≤ 3
  | _, [], _, _, h => by cases h
  | p, y :: r, h, x, hx => by
    unfold chkLgF at h
    split at h
    · omega
    rename_i h1
    split at h
    · omega
    rcases List.mem_cons.1 hx with rfl | hx
    · omega
    · exact lgF_ok _ r h x hx
theorem chkLg_ok {l : List Int} (h : chkLg l = 0) : l.length ≤ 4 ∧ ∀ x ∈ l, 0 ≤ x ∧ x ≤ 3 := by
  unfold chkLg at h
  split at h
  · omega
  exact ⟨by omega, lgF_ok _ _ h⟩
def may (n : Int) : Prop := 0 ≤ n ∧ n ≤ 1073741824
instance (n : Int) : Decidable (may n) := by unfold may; infer_instance
def chkSd (sc sr se sp : Int) : Int := if sc < 0 ∨ 2 < sc then 1 else if ¬ may sr ∨ ¬ may sp then 5 else if se < 0 ∨ 21 < se then 1 else 0
def chkN (d : NoteD) : Int :=
  if d.k = 1 then (if chkC d.ep d.ms ≠ 0 then chkC d.ep d.ms else chkLg d.lg)
  else if d.k = 2 then (if ¬ may d.n then 5 else chkB d.ec d.er d.el)
  else if d.k = 3 ∨ d.k = 4 ∨ d.k = 5 ∨ d.k = 7 then (if ¬ may d.n then 5 else 0)
  else if d.k = 6 then (if ¬ may d.pid ∨ ¬ may d.plf then 5 else 0)
  else if d.k = 8 then chkSd d.sc d.sr d.se d.sp else 11
theorem chkN_1 {d : NoteD} (h : d.k = 1) : chkN d = if chkC d.ep d.ms ≠ 0 then chkC d.ep d.ms else chkLg d.lg := by unfold chkN; rw [if_pos h]
theorem chkN_2 {d : NoteD} (h : d.k = 2) : chkN d = if ¬ may d.n then 5 else chkB d.ec d.er d.el := by unfold chkN; rw [if_neg (by omega), if_pos h]
theorem chkN_3 {d : NoteD} (h : d.k = 3 ∨ d.k = 4 ∨ d.k = 5 ∨ d.k = 7) : chkN d = if ¬ may d.n then 5 else 0 := by unfold chkN; rw [if_neg (by omega), if_neg (by omega), if_pos h]
theorem chkN_6 {d : NoteD} (h : d.k = 6) : chkN d = if ¬ may d.pid ∨ ¬ may d.plf then 5 else 0 := by unfold chkN; rw [if_neg (by omega), if_neg (by omega), if_neg (by omega), if_pos h]
theorem chkN_8 {d : NoteD} (h : d.k = 8) : chkN d = chkSd d.sc d.sr d.se d.sp := by unfold chkN; rw [if_neg (by omega), if_neg (by omega), if_neg (by omega), if_neg (by omega), if_pos h]
theorem chkN_0 {d : NoteD} (h : ¬ (1 ≤ d.k ∧ d.k ≤ 8)) : chkN d = 11 := by unfold chkN; rw [if_neg (by omega), if_neg (by omega), if_neg (by omega), if_neg (by omega), if_neg (by omega)]
/-- What follows of a note that may be written. -/
theorem chkN_ok {d : NoteD} (h : chkN d = 0) : (1 ≤ d.k ∧ d.k ≤ 8) ∧ (d.k = 1 → chkC d.ep d.ms = 0 ∧ chkLg d.lg = 0 ∧ d.lg.length ≤ 4) ∧ (d.k = 2 → (0 ≤ d.n ∧ d.n ≤ 1073741824) ∧ chkB d.ec d.er d.el = 0) ∧ (d.k = 3 ∨ d.k = 4 ∨ d.k = 5 ∨ d.k = 7 → 0 ≤ d.n ∧ d.n ≤ 1073741824) ∧ (d.k = 6 → (0 ≤ d.pid ∧ d.pid ≤ 1073741824) ∧ (0 ≤ d.plf ∧ d.plf ≤ 1073741824)) ∧ (d.k = 8 → (0 ≤ d.sc ∧ d.sc ≤ 2) ∧ (0 ≤ d.sr ∧ d.sr ≤ 1073741824) ∧ (0 ≤ d.se ∧ d.se ≤ 21) ∧ (0 ≤ d.sp ∧ d.sp ≤ 1073741824)) := by
  have hk : 1 ≤ d.k ∧ d.k ≤ 8 := by
    by_cases hk : 1 ≤ d.k ∧ d.k ≤ 8
    · exact hk
    · rw [chkN_0 hk] at h; omega
  refine ⟨hk, fun e => ?_, fun e => ?_, fun e => ?_, fun e => ?_, fun e => ?_⟩
  · rw [chkN_1 e] at h
    split at h
    · rename_i h1; exact absurd h h1
    · rename_i h1; exact ⟨by omega, h, (chkLg_ok h).1⟩
  · rw [chkN_2 e] at h
    split at h
    · omega
    · rename_i h1; exact ⟨Decidable.not_not.1 h1, h⟩
  · rw [chkN_3 e] at h
    split at h
    · omega
    · rename_i h1; exact Decidable.not_not.1 h1
  · rw [chkN_6 e] at h
    split at h
    · omega
    · rename_i h1
      exact ⟨Decidable.not_not.1 (fun q => h1 (.inl q)), Decidable.not_not.1 (fun q => h1 (.inr q))⟩
  · rw [chkN_8 e] at h
    unfold chkSd at h
    split at h
    · omega
    split at h
    · omega
    rename_i h1 h2
    split at h
    · omega
    exact ⟨by omega, Decidable.not_not.1 (fun q => h2 (.inl q)), by omega, Decidable.not_not.1 (fun q => h2 (.inr q))⟩

set_option maxRecDepth 100000 in
theorem nOutside_any (n : Int) (m : Int) (w : World)  :
    Calls Try.prog 43 #[.int .i64 n, .int .i64 m] w fun e w' => e = .returned (.bool (decide (n < 0 ∨ n > m))) ∧ Below w.heap.size w w' := by
 have hB0 := Below.refl w.heap.size w
 refine co_enter (n := 12) Try.func43 rfl rfl rfl [(0, .int .i64 n), (1, .int .i64 m)] rfl (fun a h0 => ?_)
 refine co_seq ?_
 refine co_reg ?_
 refine pk0 (v := .bool false) h0 rfl fun a1 h1 => ?_; clear h0
 refine pl_nil ?_
 refine co_then ?_
 refine co_seq ?_
 refine co_reg ?_
 refine pk0 (v := .int .i64 n) h1 rfl fun a2 h2 => ?_; clear h1
 refine pk0 (v := .bool (decide (n < 0))) h2 rfl fun a3 h3 => ?_; clear h2
 refine pk0 (v := .bool (decide (n < 0))) h3 rfl fun a4 h4 => ?_; clear h3
 cases hc5 : (decide (n < 0))
 ·
  rw [hc5] at h4
  have hp6 : ¬ (n < 0) := of_decide_eq_false hc5
  clear hc5
  refine pk0 (v := .int .i64 n) h4 rfl fun a7 h7 => ?_; clear h4
  refine pk0 (v := .int .i64 m) h7 rfl fun a8 h8 => ?_; clear h7
  refine pk0 (v := .bool (decide (n > m))) h8 rfl fun a9 h9 => ?_; clear h8
  refine pk0 (v := .bool (decide (n > m))) h9 rfl fun a10 h10 => ?_; clear h9
  refine pk0 (v := .bool (decide (n > m))) h10 rfl fun a11 h11 => ?_; clear h10
  refine pl_nil ?_
  refine co_then ?_
  refine wp_ret ?_
  refine co_ret1 h11 rfl rfl ?_
  exact ⟨ret_bool (by first | rfl | exact (decide_eq_true (by omega)).symm | exact (decide_eq_false (by omega)).symm | (rw [Bool.eq_iff_iff]; simp; omega)), hB0⟩
 ·
  rw [hc5] at h4
  have hp12 : n < 0 := of_decide_eq_true hc5
  clear hc5
  refine psk h4 rfl fun a13 h13 => ?_; clear h4
  refine psk h13 rfl fun a14 h14 => ?_; clear h13
  refine psk h14 rfl fun a15 h15 => ?_; clear h14
  refine pk0 (v := .bool true) h15 rfl fun a16 h16 => ?_; clear h15
  refine pk0 (v := .bool true) h16 rfl fun a17 h17 => ?_; clear h16
  refine pl_nil ?_
  refine co_then ?_
  refine wp_ret ?_
  refine co_ret1 h17 rfl rfl ?_
  exact ⟨ret_bool (by first | rfl | exact (decide_eq_true (by omega)).symm | exact (decide_eq_false (by omega)).symm | (rw [Bool.eq_iff_iff]; simp; omega)), hB0⟩
set_option maxRecDepth 100000 in
theorem rnMay_any (n : Int) (w : World)  :
    Calls Try.prog 59 #[.int .i64 n] w fun e w' => e = .returned (.bool (decide (0 ≤ n ∧ n ≤ 1073741824))) ∧ Below w.heap.size w w' := by
 have hB0 := Below.refl w.heap.size w
 refine co_enter (n := 9) Try.func59 rfl rfl rfl [(0, .int .i64 n)] rfl (fun a h0 => ?_)
 refine co_seq ?_
 refine co_reg ?_
 refine pk0 (v := .bool false) h0 rfl fun a1 h1 => ?_; clear h0
 refine pl_nil ?_
 refine co_then ?_
 refine co_seq ?_
 refine co_reg ?_
 refine pk0 (v := .int .i64 n) h1 rfl fun a2 h2 => ?_; clear h1
 refine pk0 (v := .bool (decide (n ≥ 0))) h2 rfl fun a3 h3 => ?_; clear h2
 refine pk0 (v := .bool (decide (n ≥ 0))) h3 rfl fun a4 h4 => ?_; clear h3
 cases hc5 : (decide (n ≥ 0))
 ·
  rw [hc5] at h4
  have hp6 : ¬ (n ≥ 0) := of_decide_eq_false hc5
  clear hc5
  refine psk h4 rfl fun a7 h7 => ?_; clear h4
  refine psk h7 rfl fun a8 h8 => ?_; clear h7
  refine pk0 (v := .bool false) h8 rfl fun a9 h9 => ?_; clear h8
  refine pk0 (v := .bool false) h9 rfl fun a10 h10 => ?_; clear h9
  refine pl_nil ?_
  refine co_then ?_
  refine wp_ret ?_
  refine co_ret1 h10 rfl rfl ?_
  exact ⟨ret_bool (by first | rfl | exact (decide_eq_true (by omega)).symm | exact (decide_eq_false (by omega)).symm | (rw [Bool.eq_iff_iff]; simp; omega)), hB0⟩
 ·
  rw [hc5] at h4
  have hp11 : n ≥ 0 := of_decide_eq_true hc5
  clear hc5
  refine pk0 (v := .int .i64 n) h4 rfl fun a12 h12 => ?_; clear h4
  refine pk0 (v := .bool (decide (n ≤ 1073741824))) h12 rfl fun a13 h13 => ?_; clear h12
  refine pk0 (v := .bool (decide (n ≤ 1073741824))) h13 rfl fun a14 h14 => ?_; clear h13
  refine pk0 (v := .bool (decide (n ≤ 1073741824))) h14 rfl fun a15 h15 => ?_; clear h14
  refine pl_nil ?_
  refine co_then ?_
  refine wp_ret ?_
  refine co_ret1 h15 rfl rfl ?_
  exact ⟨ret_bool (by first | rfl | exact (decide_eq_true (by omega)).symm | exact (decide_eq_false (by omega)).symm | (rw [Bool.eq_iff_iff]; simp; omega)), hB0⟩
set_option maxRecDepth 100000 in
theorem nLegit1_any (i : Nat) (x : Int) (bx : Nat) (v : Value) (l : List Int) (w : World) (hs : SliceOf (intE .i64) 1 w v l) (hbx : w.rangeAt bx 0 [v]) (hi : i < l.length) :
    Calls Try.prog 68 #[.int .i64 ((i : Nat) : Int), .int .i64 x, pt bx 0] w fun e w' => e = .returned (.int .i64 (lgAt l i x)) ∧ Below w.heap.size w w' := by
 have hB0 := Below.refl w.heap.size w
 have hl_hs := sl_len hs
 refine co_enter (n := 19) Try.func68 rfl rfl rfl [(0, .int .i64 ((i : Nat) : Int)), (1, .int .i64 x), (2, pt bx 0)] rfl (fun a h0 => ?_)
 refine co_seq ?_
 refine co_reg ?_
 refine pk0 (v := .int .i64 0) h0 rfl fun a1 h1 => ?_; clear h0
 refine pl_nil ?_
 refine co_then ?_
 refine co_seq ?_
 refine co_seq ?_
 refine co_reg ?_
 refine pk0 (v := .int .i64 x) h1 rfl fun a2 h2 => ?_; clear h1
 refine pw h2 rfl (op_call (args := #[.int .i64 x, .int .i64 3]) (R := fun res xw => res = .bool (decide (x < 0 ∨ x > 3)) ∧ Below w.heap.size w xw) rfl rfl rfl (by kernel_rfl) (by kernel_rfl) (Try.call43 _ _) (nOutside_any x 3 w ) (by rintro e x ⟨rfl, hb5⟩; exact ⟨_, rfl, ⟨rfl, hb5⟩⟩)) ?_; clear h2
 rintro _ w4 a3 ⟨rfl, hb5⟩ h3
 have hz6 := hb5.size
 refine pl_nil ?_
 refine co_then ?_
 have hB8 := hb_call hB0 hb5
 cases hc7 : (decide (x < 0 ∨ x > 3))
 ·
  rw [hc7] at h3
  have hp9 : ¬ (x < 0 ∨ x > 3) := of_decide_eq_false hc7
  clear hc7
  refine co_false h3 rfl ?_
  refine wp_skip ?_
  refine co_then ?_
  refine co_seq ?_
  refine co_seq ?_
  refine co_reg ?_
  refine pk0 (v := .int .i64 ((i : Nat) : Int)) h3 rfl fun a10 h10 => ?_; clear h3
  refine pk0 (v := .bool (decide (((i : Nat) : Int) > 0))) h10 rfl fun a11 h11 => ?_; clear h10
  refine pk0 (v := .bool (decide (((i : Nat) : Int) > 0))) h11 rfl fun a12 h12 => ?_; clear h11
  cases hc13 : (decide (((i : Nat) : Int) > 0))
  ·
   rw [hc13] at h12
   have hp14 : ¬ (((i : Nat) : Int) > 0) := of_decide_eq_false hc13
   clear hc13
   refine psk h12 rfl fun a15 h15 => ?_; clear h12
   refine psk h15 rfl fun a16 h16 => ?_; clear h15
   refine psk h16 rfl fun a17 h17 => ?_; clear h16
   refine psk h17 rfl fun a18 h18 => ?_; clear h17
   refine psk h18 rfl fun a19 h19 => ?_; clear h18
   refine psk h19 rfl fun a20 h20 => ?_; clear h19
   refine psk h20 rfl fun a21 h21 => ?_; clear h20
   refine pk0 (v := .bool false) h21 rfl fun a22 h22 => ?_; clear h21
   refine pl_nil ?_
   refine co_then ?_
   refine co_false h22 rfl ?_
   refine wp_skip ?_
   refine co_then ?_
   refine co_seq ?_
   refine co_reg ?_
   refine pk0 (v := .int .i64 0) h22 rfl fun a23 h23 => ?_; clear h22
   refine pl_nil ?_
   refine co_then ?_
   refine wp_ret ?_
   refine co_ret1 h23 rfl rfl ?_
   exact ⟨ret_int (lgAt_0' (by omega) (by omega)), hB8⟩
  ·
   rw [hc13] at h12
   have hp24 : ((i : Nat) : Int) > 0 := of_decide_eq_true hc13
   clear hc13
   refine pk0 (v := .int .i64 x) h12 rfl fun a25 h25 => ?_; clear h12
   refine pk (v := v) h25 rfl (rn_load1 rfl rfl Try.isAgg33 ((range_below hbx hB8) 0 _ rfl)) fun a26 h26 => ?_; clear h25
   refine pk0 (v := .int .i64 ((i : Nat) : Int)) h26 rfl fun a27 h27 => ?_; clear h26
   refine pk (v := .int .i64 (((i : Nat) : Int) - 1)) h27 rfl (rn_arith rfl rfl rfl rfl rfl rfl (IntWalk.i64_in _ (by omega))) fun a28 h28 => ?_; clear h27
   obtain ⟨y29, hy29⟩ : ∃ z, l[(((i : Nat) : Int) - 1).toNat]? = some z := ⟨_, List.getElem?_eq_getElem (by first | omega | (simp; done) | (simp; omega))⟩
   refine pk (v := pt (blkOf v) (offOf v + ((((i : Nat) : Int) - 1).toNat) * 1)) h28 rfl (rn_index rfl rfl rfl Try.underlying33 Try.sizeOf3 (hs.below hB8) (by omega) (by first | omega | (simp; done) | (simp; omega))) fun a30 h30 => ?_; clear h28
   refine pk (v := .int .i64 y29) h30 rfl (rn_load1 rfl rfl Try.isAgg3 ((sl_at (hs.below hB8) hy29) 0 _ rfl)) fun a31 h31 => ?_; clear h30
   refine pk0 (v := .bool (decide (x ≤ y29))) h31 rfl fun a32 h32 => ?_; clear h31
   refine pk0 (v := .bool (decide (x ≤ y29))) h32 rfl fun a33 h33 => ?_; clear h32
   refine pl_nil ?_
   refine co_then ?_
   cases hc34 : (decide (x ≤ y29))
   ·
    rw [hc34] at h33
    have hp35 : ¬ (x ≤ y29) := of_decide_eq_false hc34
    clear hc34
    refine co_false h33 rfl ?_
    refine wp_skip ?_
    refine co_then ?_
    refine co_seq ?_
    refine co_reg ?_
    refine pk0 (v := .int .i64 0) h33 rfl fun a36 h36 => ?_; clear h33
    refine pl_nil ?_
    refine co_then ?_
    refine wp_ret ?_
    refine co_ret1 h36 rfl rfl ?_
    exact ⟨ret_int (lgAt_0 (j := (((i : Nat) : Int) - 1).toNat) (by omega) (by omega) (by omega) hy29 (by omega)), hB8⟩
   ·
    rw [hc34] at h33
    have hp37 : x ≤ y29 := of_decide_eq_true hc34
    clear hc34
    refine co_true h33 rfl ?_
    refine co_seq ?_
    refine co_reg ?_
    refine pk0 (v := .int .i64 18) h33 rfl fun a38 h38 => ?_; clear h33
    refine pl_nil ?_
    refine co_then ?_
    refine wp_ret ?_
    refine co_thenR ?_
    refine co_ret1 h38 rfl rfl ?_
    exact ⟨ret_int (lgAt_18 (j := (((i : Nat) : Int) - 1).toNat) (by omega) (by omega) (by omega) hy29 (by omega)), hB8⟩
 ·
  rw [hc7] at h3
  have hp39 : x < 0 ∨ x > 3 := of_decide_eq_true hc7
  clear hc7
  refine co_true h3 rfl ?_
  refine co_seq ?_
  refine co_reg ?_
  refine pk0 (v := .int .i64 1) h3 rfl fun a40 h40 => ?_; clear h3
  refine pl_nil ?_
  refine co_then ?_
  refine wp_ret ?_
  refine co_thenR ?_
  refine co_ret1 h40 rfl rfl ?_
  exact ⟨ret_int (lgAt_1 (by omega)), hB8⟩
set_option maxRecDepth 100000 in
theorem nFirst_any (v : Value) (l : List Int) (bx : Nat) (w : World) (hs : SliceOf (intE .i64) 1 w v l) (hbx : w.rangeAt bx 0 [v]) :
    Calls Try.prog 67 #[v, .func (.func 68) #[] #[pt bx 0]] w fun e w' => e = .returned (.int .i64 (chkLgF none l)) ∧ Below w.heap.size w w' := by
 have hB0 := Below.refl w.heap.size w
 have hl_hs := sl_len hs
 refine co_enter (n := 23) Try.func67 rfl rfl rfl [(0, v), (1, .func (.func 68) #[] #[pt bx 0])] rfl (fun a h0 => ?_)
 refine co_seq ?_
 refine co_reg ?_
 refine pk0 (v := .int .i64 0) h0 rfl fun a1 h1 => ?_; clear h0
 refine pl_nil ?_
 refine co_then ?_
 refine co_seq ?_
 refine co_seq ?_
 refine co_reg ?_
 refine pk0 (v := v) h1 rfl fun a2 h2 => ?_; clear h1
 refine pk (v := .int .i64 ((l.length : Nat) : Int)) h2 rfl (rn_len rfl rfl Try.underlying33 hs) fun a3 h3 => ?_; clear h2
 refine pk0 (v := .int .i64 0) h3 rfl fun a4 h4 => ?_; clear h3
 refine pl_nil ?_
 refine co_then ?_
 refine wp_block ?_
 have h5 : Slots 23 [(1, .func (.func 68) #[] #[pt bx 0]), (8, v), (9, .int .i64 ((l.length : Nat) : Int)), (10, .int .i64 0)] _ := h4.sub ⟨rfl, rfl, rfl, rfl, trivial⟩; clear h4
 refine co_loop (fun mm a x => ∃ (i : Nat), Slots 23 [(1, .func (.func 68) #[] #[pt bx 0]), (8, v), (9, .int .i64 ((l.length : Nat) : Int)), (10, .int .i64 ((i : Nat) : Int))] a ∧ mm = l.length - i ∧ (i ≤ l.length) ∧ (chkLgF (prevI l i) (l.drop i) = chkLgF none l) ∧ Below w.heap.size w x) (l.length - 0) ?_ ?_
 · exact ⟨0, h5.sub ⟨rfl, rfl, rfl, (slot_eq rfl (congrArg (Value.int .i64) (by first | rfl | omega))), trivial⟩, rfl, by omega, by first | rfl | exact lg_step hL (by assumption) (by omega), hB0⟩
 · rintro k6 a7 w8 ⟨i, h7, rfl, hi9, hi10, hB11⟩
   have hz12 := hB11.size
   have hL : chkLgF (prevI l i) (l.drop i) = chkLgF none l := by assumption
   refine co_seq ?_
   refine co_reg ?_
   refine pk0 (v := .bool (decide (((i : Nat) : Int) < ((l.length : Nat) : Int)))) h7 rfl fun a13 h13 => ?_; clear h7
   refine pl_nil ?_
   refine co_then ?_
   refine co_seq ?_
   cases hc14 : (decide (((i : Nat) : Int) < ((l.length : Nat) : Int)))
   ·
    rw [hc14] at h13
    have hp15 : ¬ (((i : Nat) : Int) < ((l.length : Nat) : Int)) := of_decide_eq_false hc14
    clear hc14
    refine co_false h13 rfl ?_
    refine wp_exit ?_
    refine co_thenX ?_
    refine co_thenX ?_
    refine co_blockX ?_
    refine co_then ?_
    refine co_seq ?_
    refine co_reg ?_
    refine pk0 (v := .int .i64 0) h13 rfl fun a16 h16 => ?_; clear h13
    refine pl_nil ?_
    refine co_then ?_
    refine wp_ret ?_
    refine co_ret1 h16 rfl rfl ?_
    exact ⟨ret_int (lg_end (i := i) hL (by omega)), hB11⟩
   ·
    rw [hc14] at h13
    have hp17 : ((i : Nat) : Int) < ((l.length : Nat) : Int) := of_decide_eq_true hc14
    clear hc14
    refine co_true h13 rfl ?_
    refine wp_skip ?_
    refine co_then ?_
    refine co_seq ?_
    refine wp_block ?_
    refine co_seq ?_
    refine co_reg ?_
    refine pk0 (v := .int .i64 ((i : Nat) : Int)) h13 rfl fun a18 h18 => ?_; clear h13
    obtain ⟨y19, hy19⟩ : ∃ z, l[i]? = some z := ⟨_, List.getElem?_eq_getElem (by first | omega | (simp; done) | (simp; omega))⟩
    refine pk (v := pt (blkOf v) (offOf v + i * 1)) h18 rfl (rn_index rfl rfl rfl Try.underlying33 Try.sizeOf3 (hs.below hB11) (by omega) (by first | omega | (simp; done) | (simp; omega))) fun a20 h20 => ?_; clear h18
    refine pk (v := .int .i64 y19) h20 rfl (rn_load1 rfl rfl Try.isAgg3 ((sl_at (hs.below hB11) hy19) 0 _ rfl)) fun a21 h21 => ?_; clear h20
    refine pk0 (v := .int .i64 ((i : Nat) : Int)) h21 rfl fun a22 h22 => ?_; clear h21
    refine pk0 (v := .int .i64 y19) h22 rfl fun a23 h23 => ?_; clear h22
    refine pl_nil ?_
    refine co_then ?_
    refine co_seq ?_
    refine co_reg ?_
    refine pk0 (v := .func (.func 68) #[] #[pt bx 0]) h23 rfl fun a24 h24 => ?_; clear h23
    refine pk0 (v := .int .i64 ((i : Nat) : Int)) h24 rfl fun a25 h25 => ?_; clear h24
    refine pk0 (v := .int .i64 y19) h25 rfl fun a26 h26 => ?_; clear h25
    refine pw h26 rfl (op_callV (args := #[.int .i64 ((i : Nat) : Int), .int .i64 y19, pt bx 0]) (R := fun res xw => res = .int .i64 (lgAt l i y19) ∧ Below w8.heap.size w8 xw) rfl rfl rfl (by kernel_rfl) (by kernel_rfl) (Try.call68 _ _) (nLegit1_any i y19 bx v l w8 (hs.below hB11) (range_below hbx hB11) (by first | omega | (simp; done) | (simp; omega))) (by rintro e x ⟨rfl, hb29⟩; exact ⟨_, rfl, ⟨rfl, hb29⟩⟩)) ?_; clear h26
    rintro _ w28 a27 ⟨rfl, hb29⟩ h27
    have hz30 := hb29.size
    refine pk0 (v := .int .i64 (lgAt l i y19)) h27 rfl fun a31 h31 => ?_; clear h27
    refine pl_nil ?_
    refine co_then ?_
    refine co_seq ?_
    refine co_reg ?_
    refine pk0 (v := .int .i64 (lgAt l i y19)) h31 rfl fun a32 h32 => ?_; clear h31
    refine pk0 (v := .bool (lgAt l i y19 != 0)) h32 rfl fun a33 h33 => ?_; clear h32
    refine pl_nil ?_
    refine co_then ?_
    have hB35 := hb_call hB11 hb29
    cases hc34 : (lgAt l i y19 != 0)
    ·
     rw [hc34] at h33
     have hp36 : ¬ (lgAt l i y19 ≠ 0) := by first | simpa using hc34 | simpa [and_assoc] using hc34
     clear hc34
     refine co_false h33 rfl ?_
     refine wp_skip ?_
     refine co_blockN ?_
     refine co_then ?_
     refine co_reg ?_
     refine pk (v := .int .i64 ((i + 1 : Nat) : Int)) h33 rfl (rn_arith' rfl rfl rfl rfl rfl rfl (IntWalk.i64_in _ (by omega)) (by omega)) fun a37 h37 => ?_; clear h33
     refine pk0 (v := .int .i64 ((i + 1 : Nat) : Int)) h37 rfl fun a38 h38 => ?_; clear h37
     refine pl_nil ?_
     refine co_then ?_
     refine ⟨(l.length - (i + 1)), by omega, ?_⟩
     exact ⟨i + 1, h38.sub ⟨rfl, rfl, rfl, rfl, trivial⟩, rfl, by omega, by first | rfl | exact lg_step hL (by assumption) (by omega), hB35⟩
    ·
     rw [hc34] at h33
     have hp39 : lgAt l i y19 ≠ 0 := by first | simpa using hc34 | simpa [and_assoc] using hc34
     clear hc34
     refine co_true h33 rfl ?_
     refine co_seq ?_
     refine co_reg ?_
     refine pk0 (v := .int .i64 (lgAt l i y19)) h33 rfl fun a40 h40 => ?_; clear h33
     refine pk0 (v := .int .i64 (lgAt l i y19)) h40 rfl fun a41 h41 => ?_; clear h40
     refine pl_nil ?_
     refine co_then ?_
     refine wp_ret ?_
     refine co_blockR ?_
     refine co_thenR ?_
     refine co_thenR ?_
     refine co_blockR ?_
     refine co_thenR ?_
     refine co_ret1 h41 rfl rfl ?_
     exact ⟨ret_int (lg_bad (i := i) hL hy19 (by omega)), hB35⟩
set_option maxRecDepth 100000 in
theorem nLegit_any (v : Value) (l : List Int) (w : World) (hs : SliceOf (intE .i64) 1 w v l) :
    Calls Try.prog 42 #[v] w fun e w' => e = .returned (.int .i64 (chkLg l)) ∧ Below w.heap.size w w' := by
 have hB0 := Below.refl w.heap.size w
 have hl_hs := sl_len hs
 refine co_enter (n := 9) Try.func42 rfl rfl rfl [(0, v)] rfl (fun a h0 => ?_)
 refine co_seq ?_
 refine co_reg ?_
 refine pw h0 rfl (op_new (v := fun N => pt N 0) (T := 33) (cs := #[v]) (by kernel_rfl) (by kernel_rfl) (box_run rfl rfl (sl_one hs))) ?_; clear h0
 rintro _ w2 a1 ⟨N3, rfl, hN6, hz7, hk5, hg4⟩ h1
 have hz8 := hg4.size
 try dsimp only at h1
 refine pk0 (v := .int .i64 0) h1 rfl fun a9 h9 => ?_; clear h1
 refine pl_nil ?_
 refine co_then ?_
 refine co_seq ?_
 refine co_seq ?_
 refine co_reg ?_
 refine pk (v := v) h9 rfl (rn_load1 rfl rfl Try.isAgg33 (hk5.cell rfl)) fun a10 h10 => ?_; clear h9
 have hB11 := hb_new hB0 hg4
 refine pk (v := .int .i64 ((l.length : Nat) : Int)) h10 rfl (rn_len rfl rfl Try.underlying33 (hs.below hB11)) fun a12 h12 => ?_; clear h10
 refine pk0 (v := .bool (decide (((l.length : Nat) : Int) > 4))) h12 rfl fun a13 h13 => ?_; clear h12
 refine pl_nil ?_
 refine co_then ?_
 cases hc14 : (decide (((l.length : Nat) : Int) > 4))
 ·
  rw [hc14] at h13
  have hp15 : ¬ (((l.length : Nat) : Int) > 4) := of_decide_eq_false hc14
  clear hc14
  refine co_false h13 rfl ?_
  refine wp_skip ?_
  refine co_then ?_
  refine co_seq ?_
  refine co_reg ?_
  refine pk (v := v) h13 rfl (rn_load1 rfl rfl Try.isAgg33 (hk5.cell rfl)) fun a16 h16 => ?_; clear h13
  refine pk0 (v := .func (.func 68) #[] #[pt N3 0]) h16 rfl fun a17 h17 => ?_; clear h16
  refine pw h17 rfl (op_call (args := #[v, .func (.func 68) #[] #[pt N3 0]]) (R := fun res xw => res = .int .i64 (chkLgF none l) ∧ Below w2.heap.size w2 xw) rfl rfl rfl (by kernel_rfl) (by kernel_rfl) (Try.call67 _ _) (nFirst_any v l N3 w2 (hs.below hB11) (blk_part hk5 0 rfl)) (by rintro e x ⟨rfl, hb20⟩; exact ⟨_, rfl, ⟨rfl, hb20⟩⟩)) ?_; clear h17
  rintro _ w19 a18 ⟨rfl, hb20⟩ h18
  have hz21 := hb20.size
  refine pk0 (v := .int .i64 (chkLgF none l)) h18 rfl fun a22 h22 => ?_; clear h18
  refine pl_nil ?_
  refine co_then ?_
  refine wp_ret ?_
  refine co_ret1 h22 rfl rfl ?_
  have hB23 := hb_call hB11 hb20
  exact ⟨ret_int (by unfold chkLg; first | rw [if_pos (by omega)] | rw [if_neg (by omega)]), hB23⟩
 ·
  rw [hc14] at h13
  have hp24 : ((l.length : Nat) : Int) > 4 := of_decide_eq_true hc14
  clear hc14
  refine co_true h13 rfl ?_
  refine co_seq ?_
  refine co_reg ?_
  refine pk0 (v := .int .i64 6) h13 rfl fun a25 h25 => ?_; clear h13
  refine pl_nil ?_
  refine co_then ?_
  refine wp_ret ?_
  refine co_thenR ?_
  refine co_ret1 h25 rfl rfl ?_
  exact ⟨ret_int (by unfold chkLg; first | rw [if_pos (by omega)] | rw [if_neg (by omega)]), hB11⟩
set_option maxRecDepth 100000 in
theorem rnLegit_any (v : Value) (l : List Int) (w : World) (hs : SliceOf (intE .i64) 1 w v l) :
    Calls Try.prog 58 #[v] w fun e w' => e = .returned (.int .i64 (chkLg l)) ∧ Below w.heap.size w w' := by
 have hB0 := Below.refl w.heap.size w
 have hl_hs := sl_len hs
 refine co_enter (n := 39) Try.func58 rfl rfl rfl [(0, v)] rfl (fun a h0 => ?_)
 refine co_seq ?_
 refine co_reg ?_
 refine pk0 (v := .int .i64 0) h0 rfl fun a1 h1 => ?_; clear h0
 refine pl_nil ?_
 refine co_then ?_
 refine co_seq ?_
 refine co_seq ?_
 refine co_reg ?_
 refine pk0 (v := v) h1 rfl fun a2 h2 => ?_; clear h1
 refine pk (v := .int .i64 ((l.length : Nat) : Int)) h2 rfl (rn_len rfl rfl Try.underlying33 hs) fun a3 h3 => ?_; clear h2
 refine pk0 (v := .bool (decide (((l.length : Nat) : Int) > 4))) h3 rfl fun a4 h4 => ?_; clear h3
 refine pl_nil ?_
 refine co_then ?_
 cases hc5 : (decide (((l.length : Nat) : Int) > 4))
 ·
  rw [hc5] at h4
  have hp6 : ¬ (((l.length : Nat) : Int) > 4) := of_decide_eq_false hc5
  clear hc5
  refine co_false h4 rfl ?_
  refine wp_skip ?_
  refine co_then ?_
  refine co_seq ?_
  refine co_seq ?_
  refine co_reg ?_
  refine pk0 (v := .int .i64 0) h4 rfl fun a7 h7 => ?_; clear h4
  refine pl_nil ?_
  refine co_then ?_
  refine wp_block ?_
  have h8 : Slots 39 [(0, v), (3, .int .i64 0)] _ := h7.sub ⟨rfl, rfl, trivial⟩; clear h7
  refine co_loop (fun mm a x => ∃ (i : Nat), Slots 39 [(0, v), (3, .int .i64 ((i : Nat) : Int))] a ∧ mm = l.length - i ∧ (i ≤ l.length) ∧ (chkLgF (prevI l i) (l.drop i) = chkLgF none l) ∧ Below w.heap.size w x) (l.length - 0) ?_ ?_
  · exact ⟨0, h8.sub ⟨rfl, (slot_eq rfl (congrArg (Value.int .i64) (by first | rfl | omega))), trivial⟩, rfl, by omega, by first | rfl | exact hL', hB0⟩
  · rintro k9 a10 w11 ⟨i, h10, rfl, hi12, hi13, hB14⟩
    have hz15 := hB14.size
    have hL : chkLgF (prevI l i) (l.drop i) = chkLgF none l := by assumption
    refine co_seq ?_
    refine co_seq ?_
    refine co_reg ?_
    refine pk0 (v := .int .i64 ((i : Nat) : Int)) h10 rfl fun a16 h16 => ?_; clear h10
    refine pk0 (v := v) h16 rfl fun a17 h17 => ?_; clear h16
    refine pk (v := .int .i64 ((l.length : Nat) : Int)) h17 rfl (rn_len rfl rfl Try.underlying33 (hs.below hB14)) fun a18 h18 => ?_; clear h17
    refine pk0 (v := .bool (decide (((i : Nat) : Int) < ((l.length : Nat) : Int)))) h18 rfl fun a19 h19 => ?_; clear h18
    refine pl_nil ?_
    refine co_then ?_
    cases hc20 : (decide (((i : Nat) : Int) < ((l.length : Nat) : Int)))
    ·
     rw [hc20] at h19
     have hp21 : ¬ (((i : Nat) : Int) < ((l.length : Nat) : Int)) := of_decide_eq_false hc20
     clear hc20
     refine co_false h19 rfl ?_
     refine wp_exit ?_
     refine co_thenX ?_
     refine co_thenX ?_
     refine co_blockX ?_
     refine co_then ?_
     refine co_seq ?_
     refine co_reg ?_
     refine pk0 (v := .int .i64 0) h19 rfl fun a22 h22 => ?_; clear h19
     refine pl_nil ?_
     refine co_then ?_
     refine wp_ret ?_
     refine co_ret1 h22 rfl rfl ?_
     exact ⟨ret_int (by unfold chkLg; rw [if_neg (by omega)]; exact lg_end (i := i) hL (by omega)), hB14⟩
    ·
     rw [hc20] at h19
     have hp23 : ((i : Nat) : Int) < ((l.length : Nat) : Int) := of_decide_eq_true hc20
     clear hc20
     refine co_true h19 rfl ?_
     refine wp_skip ?_
     refine co_then ?_
     refine co_seq ?_
     refine wp_block ?_
     refine co_seq ?_
     refine co_seq ?_
     refine co_reg ?_
     refine pk0 (v := v) h19 rfl fun a24 h24 => ?_; clear h19
     refine pk0 (v := .int .i64 ((i : Nat) : Int)) h24 rfl fun a25 h25 => ?_; clear h24
     obtain ⟨y26, hy26⟩ : ∃ z, l[i]? = some z := ⟨_, List.getElem?_eq_getElem (by first | omega | (simp; done) | (simp; omega))⟩
     refine pk (v := pt (blkOf v) (offOf v + i * 1)) h25 rfl (rn_index rfl rfl rfl Try.underlying33 Try.sizeOf3 (hs.below hB14) (by omega) (by first | omega | (simp; done) | (simp; omega))) fun a27 h27 => ?_; clear h25
     refine pk (v := .int .i64 y26) h27 rfl (rn_load1 rfl rfl Try.isAgg3 ((sl_at (hs.below hB14) hy26) 0 _ rfl)) fun a28 h28 => ?_; clear h27
     refine pk0 (v := .bool (decide (y26 < 0))) h28 rfl fun a29 h29 => ?_; clear h28
     refine pk0 (v := .bool (decide (y26 < 0))) h29 rfl fun a30 h30 => ?_; clear h29
     cases hc31 : (decide (y26 < 0))
     ·
      rw [hc31] at h30
      have hp32 : ¬ (y26 < 0) := of_decide_eq_false hc31
      clear hc31
      refine pk0 (v := v) h30 rfl fun a33 h33 => ?_; clear h30
      refine pk0 (v := .int .i64 ((i : Nat) : Int)) h33 rfl fun a34 h34 => ?_; clear h33
      refine pk (v := pt (blkOf v) (offOf v + i * 1)) h34 rfl (rn_index rfl rfl rfl Try.underlying33 Try.sizeOf3 (hs.below hB14) (by omega) (by first | omega | (simp; done) | (simp; omega))) fun a35 h35 => ?_; clear h34
      refine pk (v := .int .i64 y26) h35 rfl (rn_load1 rfl rfl Try.isAgg3 ((sl_at (hs.below hB14) hy26) 0 _ rfl)) fun a36 h36 => ?_; clear h35
      refine pk0 (v := .bool (decide (y26 ≥ 4))) h36 rfl fun a37 h37 => ?_; clear h36
      refine pk0 (v := .bool (decide (y26 ≥ 4))) h37 rfl fun a38 h38 => ?_; clear h37
      refine pl_nil ?_
      refine co_then ?_
      cases hc39 : (decide (y26 ≥ 4))
      ·
       rw [hc39] at h38
       have hp40 : ¬ (y26 ≥ 4) := of_decide_eq_false hc39
       clear hc39
       refine co_false h38 rfl ?_
       refine wp_skip ?_
       refine co_then ?_
       refine co_seq ?_
       refine dr_eq (by kernel_rfl) (fun w41 hg42 => ?_)
       have hz43 := hg42.size
       refine dk0 0 (v := .int .i64 ((i : Nat) : Int)) h38 rfl rfl rfl fun a44 h44 => ?_; clear h38
       refine dk0 1 (v := .bool (decide (((i : Nat) : Int) > 0))) h44 rfl rfl rfl fun a45 h45 => ?_; clear h44
       refine dk0 2 (v := .bool (decide (((i : Nat) : Int) > 0))) h45 rfl rfl rfl fun a46 h46 => ?_; clear h45
       have hB48 := hb_new hB14 hg42
       cases hc47 : (decide (((i : Nat) : Int) > 0))
       ·
        rw [hc47] at h46
        have hp49 : ¬ (((i : Nat) : Int) > 0) := of_decide_eq_false hc47
        clear hc47
        refine dsk 3 h46 rfl rfl rfl fun a50 h50 => ?_; clear h46
        refine dsk 4 h50 rfl rfl rfl fun a51 h51 => ?_; clear h50
        refine dsk 5 h51 rfl rfl rfl fun a52 h52 => ?_; clear h51
        refine dsk 6 h52 rfl rfl rfl fun a53 h53 => ?_; clear h52
        refine dsk 7 h53 rfl rfl rfl fun a54 h54 => ?_; clear h53
        refine dsk 8 h54 rfl rfl rfl fun a55 h55 => ?_; clear h54
        refine dsk 9 h55 rfl rfl rfl fun a56 h56 => ?_; clear h55
        refine dsk 10 h56 rfl rfl rfl fun a57 h57 => ?_; clear h56
        refine dsk 11 h57 rfl rfl rfl fun a58 h58 => ?_; clear h57
        refine dsk 12 h58 rfl rfl rfl fun a59 h59 => ?_; clear h58
        refine dk0 13 (v := .bool false) h59 rfl rfl rfl fun a60 h60 => ?_; clear h59
        refine dr_done (by kernel_rfl) ?_
        refine co_then ?_
        refine co_false h60 rfl ?_
        refine wp_skip ?_
        refine co_blockN ?_
        refine co_then ?_
        refine co_reg ?_
        refine pk0 (v := .int .i64 ((i : Nat) : Int)) h60 rfl fun a61 h61 => ?_; clear h60
        refine pk (v := .int .i64 ((i + 1 : Nat) : Int)) h61 rfl (rn_arith' rfl rfl rfl rfl rfl rfl (IntWalk.i64_in _ (by omega)) (by omega)) fun a62 h62 => ?_; clear h61
        refine pk0 (v := .int .i64 ((i + 1 : Nat) : Int)) h62 rfl fun a63 h63 => ?_; clear h62
        refine pl_nil ?_
        refine co_then ?_
        refine ⟨(l.length - (i + 1)), by omega, ?_⟩
        have hA : 0 = lgAt l i y26 := lgAt_0' (by omega) (by omega)
        have hL' := lg_step hL hy26 hA.symm
        exact ⟨i + 1, h63.sub ⟨rfl, rfl, trivial⟩, rfl, by omega, by first | rfl | exact hL', hB48⟩
       ·
        rw [hc47] at h46
        have hp64 : ((i : Nat) : Int) > 0 := of_decide_eq_true hc47
        clear hc47
        refine dk0 3 (v := v) h46 rfl rfl rfl fun a65 h65 => ?_; clear h46
        refine dk0 4 (v := .int .i64 ((i : Nat) : Int)) h65 rfl rfl rfl fun a66 h66 => ?_; clear h65
        refine dk 5 (v := .int .i64 (((i : Nat) : Int) - 1)) h66 rfl rfl rfl (fun x hx => by subst hx; exact (rn_arith rfl rfl rfl rfl rfl rfl (IntWalk.i64_in _ (by omega)))) fun a67 h67 => ?_; clear h66
        obtain ⟨y68, hy68⟩ : ∃ z, l[(((i : Nat) : Int) - 1).toNat]? = some z := ⟨_, List.getElem?_eq_getElem (by first | omega | (simp; done) | (simp; omega))⟩
        refine dk 6 (v := pt (blkOf v) (offOf v + ((((i : Nat) : Int) - 1).toNat) * 1)) h67 rfl rfl rfl (fun x hx => by subst hx; exact (rn_index rfl rfl rfl Try.underlying33 Try.sizeOf3 (hs.below hB48) (by omega) (by first | omega | (simp; done) | (simp; omega)))) fun a69 h69 => ?_; clear h67
        refine dk 7 (v := .int .i64 y68) h69 rfl rfl rfl (fun x hx => by subst hx; exact (rn_load1 rfl rfl Try.isAgg3 ((sl_at (hs.below hB48) hy68) 0 _ rfl))) fun a70 h70 => ?_; clear h69
        refine dk0 8 (v := v) h70 rfl rfl rfl fun a71 h71 => ?_; clear h70
        refine dk0 9 (v := .int .i64 ((i : Nat) : Int)) h71 rfl rfl rfl fun a72 h72 => ?_; clear h71
        refine dk 10 (v := pt (blkOf v) (offOf v + i * 1)) h72 rfl rfl rfl (fun x hx => by subst hx; exact (rn_index rfl rfl rfl Try.underlying33 Try.sizeOf3 (hs.below hB48) (by omega) (by first | omega | (simp; done) | (simp; omega)))) fun a73 h73 => ?_; clear h72
        refine dk 11 (v := .int .i64 y26) h73 rfl rfl rfl (fun x hx => by subst hx; exact (rn_load1 rfl rfl Try.isAgg3 ((sl_at (hs.below hB48) hy26) 0 _ rfl))) fun a74 h74 => ?_; clear h73
        refine dk0 12 (v := .bool (decide (y68 ≥ y26))) h74 rfl rfl rfl fun a75 h75 => ?_; clear h74
        refine dk0 13 (v := .bool (decide (y68 ≥ y26))) h75 rfl rfl rfl fun a76 h76 => ?_; clear h75
        refine dr_done (by kernel_rfl) ?_
        refine co_then ?_
        cases hc77 : (decide (y68 ≥ y26))
        ·
         rw [hc77] at h76
         have hp78 : ¬ (y68 ≥ y26) := of_decide_eq_false hc77
         clear hc77
         refine co_false h76 rfl ?_
         refine wp_skip ?_
         refine co_blockN ?_
         refine co_then ?_
         refine co_reg ?_
         refine pk0 (v := .int .i64 ((i : Nat) : Int)) h76 rfl fun a79 h79 => ?_; clear h76
         refine pk (v := .int .i64 ((i + 1 : Nat) : Int)) h79 rfl (rn_arith' rfl rfl rfl rfl rfl rfl (IntWalk.i64_in _ (by omega)) (by omega)) fun a80 h80 => ?_; clear h79
         refine pk0 (v := .int .i64 ((i + 1 : Nat) : Int)) h80 rfl fun a81 h81 => ?_; clear h80
         refine pl_nil ?_
         refine co_then ?_
         refine ⟨(l.length - (i + 1)), by omega, ?_⟩
         have hA : 0 = lgAt l i y26 := lgAt_0 (j := (((i : Nat) : Int) - 1).toNat) (by omega) (by omega) (by omega) hy68 (by omega)
         have hL' := lg_step hL hy26 hA.symm
         exact ⟨i + 1, h81.sub ⟨rfl, rfl, trivial⟩, rfl, by omega, by first | rfl | exact hL', hB48⟩
        ·
         rw [hc77] at h76
         have hp82 : y68 ≥ y26 := of_decide_eq_true hc77
         clear hc77
         refine co_true h76 rfl ?_
         refine co_seq ?_
         refine co_reg ?_
         refine pk0 (v := .int .i64 18) h76 rfl fun a83 h83 => ?_; clear h76
         refine pl_nil ?_
         refine co_then ?_
         refine wp_ret ?_
         refine co_blockR ?_
         refine co_thenR ?_
         refine co_thenR ?_
         refine co_blockR ?_
         refine co_thenR ?_
         refine co_ret1 h83 rfl rfl ?_
         have hA : 18 = lgAt l i y26 := lgAt_18 (j := (((i : Nat) : Int) - 1).toNat) (by omega) (by omega) (by omega) hy68 (by omega)
         exact ⟨ret_int (by unfold chkLg; rw [if_neg (by omega), hA]; exact lg_bad hL hy26 (by omega)), hB48⟩
      ·
       rw [hc39] at h38
       have hp84 : y26 ≥ 4 := of_decide_eq_true hc39
       clear hc39
       refine co_true h38 rfl ?_
       refine co_seq ?_
       refine co_reg ?_
       refine pk0 (v := .int .i64 1) h38 rfl fun a85 h85 => ?_; clear h38
       refine pl_nil ?_
       refine co_then ?_
       refine wp_ret ?_
       refine co_thenR ?_
       refine co_blockR ?_
       refine co_thenR ?_
       refine co_thenR ?_
       refine co_blockR ?_
       refine co_thenR ?_
       refine co_ret1 h85 rfl rfl ?_
       have hA : 1 = lgAt l i y26 := lgAt_1 (by omega)
       exact ⟨ret_int (by unfold chkLg; rw [if_neg (by omega), hA]; exact lg_bad hL hy26 (by omega)), hB14⟩
     ·
      rw [hc31] at h30
      have hp86 : y26 < 0 := of_decide_eq_true hc31
      clear hc31
      refine psk h30 rfl fun a87 h87 => ?_; clear h30
      refine psk h87 rfl fun a88 h88 => ?_; clear h87
      refine psk h88 rfl fun a89 h89 => ?_; clear h88
      refine psk h89 rfl fun a90 h90 => ?_; clear h89
      refine psk h90 rfl fun a91 h91 => ?_; clear h90
      refine pk0 (v := .bool true) h91 rfl fun a92 h92 => ?_; clear h91
      refine pl_nil ?_
      refine co_then ?_
      refine co_true h92 rfl ?_
      refine co_seq ?_
      refine co_reg ?_
      refine pk0 (v := .int .i64 1) h92 rfl fun a93 h93 => ?_; clear h92
      refine pl_nil ?_
      refine co_then ?_
      refine wp_ret ?_
      refine co_thenR ?_
      refine co_blockR ?_
      refine co_thenR ?_
      refine co_thenR ?_
      refine co_blockR ?_
      refine co_thenR ?_
      refine co_ret1 h93 rfl rfl ?_
      have hA : 1 = lgAt l i y26 := lgAt_1 (by omega)
      exact ⟨ret_int (by unfold chkLg; rw [if_neg (by omega), hA]; exact lg_bad hL hy26 (by omega)), hB14⟩
 ·
  rw [hc5] at h4
  have hp94 : ((l.length : Nat) : Int) > 4 := of_decide_eq_true hc5
  clear hc5
  refine co_true h4 rfl ?_
  refine co_seq ?_
  refine co_reg ?_
  refine pk0 (v := .int .i64 6) h4 rfl fun a95 h95 => ?_; clear h4
  refine pl_nil ?_
  refine co_then ?_
  refine wp_ret ?_
  refine co_thenR ?_
  refine co_ret1 h95 rfl rfl ?_
  exact ⟨ret_int (by unfold chkLg; rw [if_pos (by omega)]), hB0⟩
set_option maxRecDepth 100000 in
theorem nSaid_any (sc : Int) (sr : Int) (se : Int) (sp : Int) (w : World)  :
    Calls Try.prog 45 #[.agg #[.int .i64 sc, .int .i64 sr, .int .i64 se, .int .i64 sp]] w fun e w' => e = .returned (.int .i64 (chkSd sc sr se sp)) ∧ Below w.heap.size w w' := by
 have hB0 := Below.refl w.heap.size w
 refine co_enter (n := 17) Try.func45 rfl rfl rfl [(0, .agg #[.int .i64 sc, .int .i64 sr, .int .i64 se, .int .i64 sp])] rfl (fun a h0 => ?_)
 refine co_seq ?_
 refine co_reg ?_
 refine pw h0 rfl (op_new (v := fun N => pt N 0) (T := 42) (cs := #[.int .i64 sc, .int .i64 sr, .int .i64 se, .int .i64 sp]) (by kernel_rfl) (by kernel_rfl) (by kernel_rfl)) ?_; clear h0
 rintro _ w2 a1 ⟨N3, rfl, hN6, hz7, hk5, hg4⟩ h1
 have hz8 := hg4.size
 try dsimp only at h1
 refine pk0 (v := .int .i64 0) h1 rfl fun a9 h9 => ?_; clear h1
 refine pl_nil ?_
 refine co_then ?_
 refine co_seq ?_
 refine co_seq ?_
 refine co_reg ?_
 refine pk0 (v := pt N3 0) h9 rfl fun a10 h10 => ?_; clear h9
 refine pk (v := .int .i64 sc) h10 rfl (rn_load1 rfl rfl Try.isAgg3 (hk5.cell rfl)) fun a11 h11 => ?_; clear h10
 refine pw h11 rfl (op_call (args := #[.int .i64 sc, .int .i64 2]) (R := fun res xw => res = .bool (decide (sc < 0 ∨ sc > 2)) ∧ Below w2.heap.size w2 xw) rfl rfl rfl (by kernel_rfl) (by kernel_rfl) (Try.call43 _ _) (nOutside_any sc 2 w2 ) (by rintro e x ⟨rfl, hb14⟩; exact ⟨_, rfl, ⟨rfl, hb14⟩⟩)) ?_; clear h11
 rintro _ w13 a12 ⟨rfl, hb14⟩ h12
 have hz15 := hb14.size
 refine pl_nil ?_
 refine co_then ?_
 have hB17 := hb_new hB0 hg4
 have hB18 := hb_call hB17 hb14
 cases hc16 : (decide (sc < 0 ∨ sc > 2))
 ·
  rw [hc16] at h12
  have hp19 : ¬ (sc < 0 ∨ sc > 2) := of_decide_eq_false hc16
  clear hc16
  refine co_false h12 rfl ?_
  refine wp_skip ?_
  refine co_then ?_
  refine co_seq ?_
  refine co_seq ?_
  refine co_reg ?_
  refine pk0 (v := pt N3 1) h12 rfl fun a20 h20 => ?_; clear h12
  have hk21 := hk5.below hb14
  refine pk (v := .int .i64 sr) h20 rfl (rn_load1 rfl rfl Try.isAgg3 (hk21.cell rfl)) fun a22 h22 => ?_; clear h20
  refine pw h22 rfl (op_call (args := #[.int .i64 sr, .int .i64 1073741824]) (R := fun res xw => res = .bool (decide (sr < 0 ∨ sr > 1073741824)) ∧ Below w13.heap.size w13 xw) rfl rfl rfl (by kernel_rfl) (by kernel_rfl) (Try.call43 _ _) (nOutside_any sr 1073741824 w13 ) (by rintro e x ⟨rfl, hb25⟩; exact ⟨_, rfl, ⟨rfl, hb25⟩⟩)) ?_; clear h22
  rintro _ w24 a23 ⟨rfl, hb25⟩ h23
  have hz26 := hb25.size
  refine pk0 (v := .bool (decide (sr < 0 ∨ sr > 1073741824))) h23 rfl fun a27 h27 => ?_; clear h23
  have hB29 := hb_call hB18 hb25
  cases hc28 : (decide (sr < 0 ∨ sr > 1073741824))
  ·
   rw [hc28] at h27
   have hp30 : ¬ (sr < 0 ∨ sr > 1073741824) := of_decide_eq_false hc28
   clear hc28
   refine pk0 (v := pt N3 3) h27 rfl fun a31 h31 => ?_; clear h27
   have hk32 := hk21.below hb25
   refine pk (v := .int .i64 sp) h31 rfl (rn_load1 rfl rfl Try.isAgg3 (hk32.cell rfl)) fun a33 h33 => ?_; clear h31
   refine pw h33 rfl (op_call (args := #[.int .i64 sp, .int .i64 1073741824]) (R := fun res xw => res = .bool (decide (sp < 0 ∨ sp > 1073741824)) ∧ Below w24.heap.size w24 xw) rfl rfl rfl (by kernel_rfl) (by kernel_rfl) (Try.call43 _ _) (nOutside_any sp 1073741824 w24 ) (by rintro e x ⟨rfl, hb36⟩; exact ⟨_, rfl, ⟨rfl, hb36⟩⟩)) ?_; clear h33
   rintro _ w35 a34 ⟨rfl, hb36⟩ h34
   have hz37 := hb36.size
   refine pk0 (v := .bool (decide (sp < 0 ∨ sp > 1073741824))) h34 rfl fun a38 h38 => ?_; clear h34
   refine pl_nil ?_
   refine co_then ?_
   have hB40 := hb_call hB29 hb36
   cases hc39 : (decide (sp < 0 ∨ sp > 1073741824))
   ·
    rw [hc39] at h38
    have hp41 : ¬ (sp < 0 ∨ sp > 1073741824) := of_decide_eq_false hc39
    clear hc39
    refine co_false h38 rfl ?_
    refine wp_skip ?_
    refine co_then ?_
    refine co_seq ?_
    refine co_seq ?_
    refine co_reg ?_
    refine pk0 (v := pt N3 2) h38 rfl fun a42 h42 => ?_; clear h38
    have hk43 := hk32.below hb36
    refine pk (v := .int .i64 se) h42 rfl (rn_load1 rfl rfl Try.isAgg27 (hk43.cell rfl)) fun a44 h44 => ?_; clear h42
    refine pw h44 rfl (op_call (args := #[.int .i64 se, .int .i64 21]) (R := fun res xw => res = .bool (decide (se < 0 ∨ se > 21)) ∧ Below w35.heap.size w35 xw) rfl rfl rfl (by kernel_rfl) (by kernel_rfl) (Try.call43 _ _) (nOutside_any se 21 w35 ) (by rintro e x ⟨rfl, hb47⟩; exact ⟨_, rfl, ⟨rfl, hb47⟩⟩)) ?_; clear h44
    rintro _ w46 a45 ⟨rfl, hb47⟩ h45
    have hz48 := hb47.size
    refine pl_nil ?_
    refine co_then ?_
    have hB50 := hb_call hB40 hb47
    cases hc49 : (decide (se < 0 ∨ se > 21))
    ·
     rw [hc49] at h45
     have hp51 : ¬ (se < 0 ∨ se > 21) := of_decide_eq_false hc49
     clear hc49
     refine co_false h45 rfl ?_
     refine wp_skip ?_
     refine co_then ?_
     refine co_seq ?_
     refine co_reg ?_
     refine pk0 (v := .int .i64 0) h45 rfl fun a52 h52 => ?_; clear h45
     refine pl_nil ?_
     refine co_then ?_
     refine wp_ret ?_
     refine co_ret1 h52 rfl rfl ?_
     exact ⟨ret_int (by unfold chkSd may; first | rw [if_pos (by omega)] | rw [if_neg (by omega), if_pos (by omega)] | rw [if_neg (by omega), if_neg (by omega), if_pos (by omega)] | rw [if_neg (by omega), if_neg (by omega), if_neg (by omega)]), hB50⟩
    ·
     rw [hc49] at h45
     have hp53 : se < 0 ∨ se > 21 := of_decide_eq_true hc49
     clear hc49
     refine co_true h45 rfl ?_
     refine co_seq ?_
     refine co_reg ?_
     refine pk0 (v := .int .i64 1) h45 rfl fun a54 h54 => ?_; clear h45
     refine pl_nil ?_
     refine co_then ?_
     refine wp_ret ?_
     refine co_thenR ?_
     refine co_ret1 h54 rfl rfl ?_
     exact ⟨ret_int (by unfold chkSd may; first | rw [if_pos (by omega)] | rw [if_neg (by omega), if_pos (by omega)] | rw [if_neg (by omega), if_neg (by omega), if_pos (by omega)] | rw [if_neg (by omega), if_neg (by omega), if_neg (by omega)]), hB50⟩
   ·
    rw [hc39] at h38
    have hp55 : sp < 0 ∨ sp > 1073741824 := of_decide_eq_true hc39
    clear hc39
    refine co_true h38 rfl ?_
    refine co_seq ?_
    refine co_reg ?_
    refine pk0 (v := .int .i64 5) h38 rfl fun a56 h56 => ?_; clear h38
    refine pl_nil ?_
    refine co_then ?_
    refine wp_ret ?_
    refine co_thenR ?_
    refine co_ret1 h56 rfl rfl ?_
    exact ⟨ret_int (by unfold chkSd may; first | rw [if_pos (by omega)] | rw [if_neg (by omega), if_pos (by omega)] | rw [if_neg (by omega), if_neg (by omega), if_pos (by omega)] | rw [if_neg (by omega), if_neg (by omega), if_neg (by omega)]), hB40⟩
  ·
   rw [hc28] at h27
   have hp57 : sr < 0 ∨ sr > 1073741824 := of_decide_eq_true hc28
   clear hc28
   refine psk h27 rfl fun a58 h58 => ?_; clear h27
   refine psk h58 rfl fun a59 h59 => ?_; clear h58
   refine psk h59 rfl fun a60 h60 => ?_; clear h59
   refine pk0 (v := .bool true) h60 rfl fun a61 h61 => ?_; clear h60
   refine pl_nil ?_
   refine co_then ?_
   refine co_true h61 rfl ?_
   refine co_seq ?_
   refine co_reg ?_
   refine pk0 (v := .int .i64 5) h61 rfl fun a62 h62 => ?_; clear h61
   refine pl_nil ?_
   refine co_then ?_
   refine wp_ret ?_
   refine co_thenR ?_
   refine co_ret1 h62 rfl rfl ?_
   exact ⟨ret_int (by unfold chkSd may; first | rw [if_pos (by omega)] | rw [if_neg (by omega), if_pos (by omega)] | rw [if_neg (by omega), if_neg (by omega), if_pos (by omega)] | rw [if_neg (by omega), if_neg (by omega), if_neg (by omega)]), hB29⟩
 ·
  rw [hc16] at h12
  have hp63 : sc < 0 ∨ sc > 2 := of_decide_eq_true hc16
  clear hc16
  refine co_true h12 rfl ?_
  refine co_seq ?_
  refine co_reg ?_
  refine pk0 (v := .int .i64 1) h12 rfl fun a64 h64 => ?_; clear h12
  refine pl_nil ?_
  refine co_then ?_
  refine wp_ret ?_
  refine co_thenR ?_
  refine co_ret1 h64 rfl rfl ?_
  exact ⟨ret_int (by unfold chkSd may; first | rw [if_pos (by omega)] | rw [if_neg (by omega), if_pos (by omega)] | rw [if_neg (by omega), if_neg (by omega), if_pos (by omega)] | rw [if_neg (by omega), if_neg (by omega), if_neg (by omega)]), hB18⟩
set_option maxRecDepth 100000 in
theorem rnSaid_any (sc : Int) (sr : Int) (se : Int) (sp : Int) (w : World)  :
    Calls Try.prog 61 #[.agg #[.int .i64 sc, .int .i64 sr, .int .i64 se, .int .i64 sp]] w fun e w' => e = .returned (.int .i64 (chkSd sc sr se sp)) ∧ Below w.heap.size w w' := by
 have hB0 := Below.refl w.heap.size w
 refine co_enter (n := 29) Try.func61 rfl rfl rfl [(0, .agg #[.int .i64 sc, .int .i64 sr, .int .i64 se, .int .i64 sp])] rfl (fun a h0 => ?_)
 refine co_seq ?_
 refine co_reg ?_
 refine pw h0 rfl (op_new (v := fun N => pt N 0) (T := 42) (cs := #[.int .i64 sc, .int .i64 sr, .int .i64 se, .int .i64 sp]) (by kernel_rfl) (by kernel_rfl) (by kernel_rfl)) ?_; clear h0
 rintro _ w2 a1 ⟨N3, rfl, hN6, hz7, hk5, hg4⟩ h1
 have hz8 := hg4.size
 try dsimp only at h1
 refine pk0 (v := .int .i64 0) h1 rfl fun a9 h9 => ?_; clear h1
 refine pl_nil ?_
 refine co_then ?_
 refine co_seq ?_
 refine co_seq ?_
 refine co_reg ?_
 refine pk0 (v := pt N3 0) h9 rfl fun a10 h10 => ?_; clear h9
 refine pk (v := .int .i64 sc) h10 rfl (rn_load1 rfl rfl Try.isAgg3 (hk5.cell rfl)) fun a11 h11 => ?_; clear h10
 refine pk0 (v := .bool (decide (sc < 0))) h11 rfl fun a12 h12 => ?_; clear h11
 refine pk0 (v := .bool (decide (sc < 0))) h12 rfl fun a13 h13 => ?_; clear h12
 have hB15 := hb_new hB0 hg4
 cases hc14 : (decide (sc < 0))
 ·
  rw [hc14] at h13
  have hp16 : ¬ (sc < 0) := of_decide_eq_false hc14
  clear hc14
  refine pk0 (v := pt N3 0) h13 rfl fun a17 h17 => ?_; clear h13
  refine pk (v := .int .i64 sc) h17 rfl (rn_load1 rfl rfl Try.isAgg3 (hk5.cell rfl)) fun a18 h18 => ?_; clear h17
  refine pk0 (v := .bool (decide (sc ≥ 3))) h18 rfl fun a19 h19 => ?_; clear h18
  refine pk0 (v := .bool (decide (sc ≥ 3))) h19 rfl fun a20 h20 => ?_; clear h19
  refine pl_nil ?_
  refine co_then ?_
  cases hc21 : (decide (sc ≥ 3))
  ·
   rw [hc21] at h20
   have hp22 : ¬ (sc ≥ 3) := of_decide_eq_false hc21
   clear hc21
   refine co_false h20 rfl ?_
   refine wp_skip ?_
   refine co_then ?_
   refine co_seq ?_
   refine co_seq ?_
   refine co_reg ?_
   refine pk0 (v := pt N3 1) h20 rfl fun a23 h23 => ?_; clear h20
   refine pk (v := .int .i64 sr) h23 rfl (rn_load1 rfl rfl Try.isAgg3 (hk5.cell rfl)) fun a24 h24 => ?_; clear h23
   refine pw h24 rfl (op_call (args := #[.int .i64 sr]) (R := fun res xw => res = .bool (decide (0 ≤ sr ∧ sr ≤ 1073741824)) ∧ Below w2.heap.size w2 xw) rfl rfl rfl (by kernel_rfl) (by kernel_rfl) (Try.call59 _ _) (rnMay_any sr w2 ) (by rintro e x ⟨rfl, hb27⟩; exact ⟨_, rfl, ⟨rfl, hb27⟩⟩)) ?_; clear h24
   rintro _ w26 a25 ⟨rfl, hb27⟩ h25
   have hz28 := hb27.size
   have hB30 := hb_call hB15 hb27
   cases hc29 : (decide (0 ≤ sr ∧ sr ≤ 1073741824))
   ·
    rw [hc29] at h25
    have hp31 : ¬ (0 ≤ sr ∧ sr ≤ 1073741824) := of_decide_eq_false hc29
    clear hc29
    refine pk0 (v := .bool true) h25 rfl fun a32 h32 => ?_; clear h25
    refine pk0 (v := .bool true) h32 rfl fun a33 h33 => ?_; clear h32
    refine psk h33 rfl fun a34 h34 => ?_; clear h33
    refine psk h34 rfl fun a35 h35 => ?_; clear h34
    refine psk h35 rfl fun a36 h36 => ?_; clear h35
    refine psk h36 rfl fun a37 h37 => ?_; clear h36
    refine pk0 (v := .bool true) h37 rfl fun a38 h38 => ?_; clear h37
    refine pl_nil ?_
    refine co_then ?_
    refine co_true h38 rfl ?_
    refine co_seq ?_
    refine co_reg ?_
    refine pk0 (v := .int .i64 5) h38 rfl fun a39 h39 => ?_; clear h38
    refine pl_nil ?_
    refine co_then ?_
    refine wp_ret ?_
    refine co_thenR ?_
    refine co_ret1 h39 rfl rfl ?_
    exact ⟨ret_int (by unfold chkSd may; first | rw [if_pos (by omega)] | rw [if_neg (by omega), if_pos (by omega)] | rw [if_neg (by omega), if_neg (by omega), if_pos (by omega)] | rw [if_neg (by omega), if_neg (by omega), if_neg (by omega)]), hB30⟩
   ·
    rw [hc29] at h25
    have hp40 : 0 ≤ sr ∧ sr ≤ 1073741824 := of_decide_eq_true hc29
    clear hc29
    refine pk0 (v := .bool false) h25 rfl fun a41 h41 => ?_; clear h25
    refine pk0 (v := .bool false) h41 rfl fun a42 h42 => ?_; clear h41
    refine pk0 (v := pt N3 3) h42 rfl fun a43 h43 => ?_; clear h42
    have hk44 := hk5.below hb27
    refine pk (v := .int .i64 sp) h43 rfl (rn_load1 rfl rfl Try.isAgg3 (hk44.cell rfl)) fun a45 h45 => ?_; clear h43
    refine pw h45 rfl (op_call (args := #[.int .i64 sp]) (R := fun res xw => res = .bool (decide (0 ≤ sp ∧ sp ≤ 1073741824)) ∧ Below w26.heap.size w26 xw) rfl rfl rfl (by kernel_rfl) (by kernel_rfl) (Try.call59 _ _) (rnMay_any sp w26 ) (by rintro e x ⟨rfl, hb48⟩; exact ⟨_, rfl, ⟨rfl, hb48⟩⟩)) ?_; clear h45
    rintro _ w47 a46 ⟨rfl, hb48⟩ h46
    have hz49 := hb48.size
    have hB51 := hb_call hB30 hb48
    cases hc50 : (decide (0 ≤ sp ∧ sp ≤ 1073741824))
    ·
     rw [hc50] at h46
     have hp52 : ¬ (0 ≤ sp ∧ sp ≤ 1073741824) := of_decide_eq_false hc50
     clear hc50
     refine pk0 (v := .bool true) h46 rfl fun a53 h53 => ?_; clear h46
     refine pk0 (v := .bool true) h53 rfl fun a54 h54 => ?_; clear h53
     refine pl_nil ?_
     refine co_then ?_
     refine co_true h54 rfl ?_
     refine co_seq ?_
     refine co_reg ?_
     refine pk0 (v := .int .i64 5) h54 rfl fun a55 h55 => ?_; clear h54
     refine pl_nil ?_
     refine co_then ?_
     refine wp_ret ?_
     refine co_thenR ?_
     refine co_ret1 h55 rfl rfl ?_
     exact ⟨ret_int (by unfold chkSd may; first | rw [if_pos (by omega)] | rw [if_neg (by omega), if_pos (by omega)] | rw [if_neg (by omega), if_neg (by omega), if_pos (by omega)] | rw [if_neg (by omega), if_neg (by omega), if_neg (by omega)]), hB51⟩
    ·
     rw [hc50] at h46
     have hp56 : 0 ≤ sp ∧ sp ≤ 1073741824 := of_decide_eq_true hc50
     clear hc50
     refine pk0 (v := .bool false) h46 rfl fun a57 h57 => ?_; clear h46
     refine pk0 (v := .bool false) h57 rfl fun a58 h58 => ?_; clear h57
     refine pl_nil ?_
     refine co_then ?_
     refine co_false h58 rfl ?_
     refine wp_skip ?_
     refine co_then ?_
     refine co_seq ?_
     refine co_seq ?_
     refine co_reg ?_
     refine pk0 (v := pt N3 2) h58 rfl fun a59 h59 => ?_; clear h58
     have hk60 := hk44.below hb48
     refine pk (v := .int .i64 se) h59 rfl (rn_load1 rfl rfl Try.isAgg27 (hk60.cell rfl)) fun a61 h61 => ?_; clear h59
     refine pk0 (v := .bool (decide (se < 0))) h61 rfl fun a62 h62 => ?_; clear h61
     refine pk0 (v := .bool (decide (se < 0))) h62 rfl fun a63 h63 => ?_; clear h62
     cases hc64 : (decide (se < 0))
     ·
      rw [hc64] at h63
      have hp65 : ¬ (se < 0) := of_decide_eq_false hc64
      clear hc64
      refine pk0 (v := pt N3 2) h63 rfl fun a66 h66 => ?_; clear h63
      refine pk (v := .int .i64 se) h66 rfl (rn_load1 rfl rfl Try.isAgg27 (hk60.cell rfl)) fun a67 h67 => ?_; clear h66
      refine pk0 (v := .bool (decide (se > 21))) h67 rfl fun a68 h68 => ?_; clear h67
      refine pk0 (v := .bool (decide (se > 21))) h68 rfl fun a69 h69 => ?_; clear h68
      refine pl_nil ?_
      refine co_then ?_
      cases hc70 : (decide (se > 21))
      ·
       rw [hc70] at h69
       have hp71 : ¬ (se > 21) := of_decide_eq_false hc70
       clear hc70
       refine co_false h69 rfl ?_
       refine wp_skip ?_
       refine co_then ?_
       refine co_seq ?_
       refine co_reg ?_
       refine pk0 (v := .int .i64 0) h69 rfl fun a72 h72 => ?_; clear h69
       refine pl_nil ?_
       refine co_then ?_
       refine wp_ret ?_
       refine co_ret1 h72 rfl rfl ?_
       exact ⟨ret_int (by unfold chkSd may; first | rw [if_pos (by omega)] | rw [if_neg (by omega), if_pos (by omega)] | rw [if_neg (by omega), if_neg (by omega), if_pos (by omega)] | rw [if_neg (by omega), if_neg (by omega), if_neg (by omega)]), hB51⟩
      ·
       rw [hc70] at h69
       have hp73 : se > 21 := of_decide_eq_true hc70
       clear hc70
       refine co_true h69 rfl ?_
       refine co_seq ?_
       refine co_reg ?_
       refine pk0 (v := .int .i64 1) h69 rfl fun a74 h74 => ?_; clear h69
       refine pl_nil ?_
       refine co_then ?_
       refine wp_ret ?_
       refine co_thenR ?_
       refine co_ret1 h74 rfl rfl ?_
       exact ⟨ret_int (by unfold chkSd may; first | rw [if_pos (by omega)] | rw [if_neg (by omega), if_pos (by omega)] | rw [if_neg (by omega), if_neg (by omega), if_pos (by omega)] | rw [if_neg (by omega), if_neg (by omega), if_neg (by omega)]), hB51⟩
     ·
      rw [hc64] at h63
      have hp75 : se < 0 := of_decide_eq_true hc64
      clear hc64
      refine psk h63 rfl fun a76 h76 => ?_; clear h63
      refine psk h76 rfl fun a77 h77 => ?_; clear h76
      refine psk h77 rfl fun a78 h78 => ?_; clear h77
      refine pk0 (v := .bool true) h78 rfl fun a79 h79 => ?_; clear h78
      refine pl_nil ?_
      refine co_then ?_
      refine co_true h79 rfl ?_
      refine co_seq ?_
      refine co_reg ?_
      refine pk0 (v := .int .i64 1) h79 rfl fun a80 h80 => ?_; clear h79
      refine pl_nil ?_
      refine co_then ?_
      refine wp_ret ?_
      refine co_thenR ?_
      refine co_ret1 h80 rfl rfl ?_
      exact ⟨ret_int (by unfold chkSd may; first | rw [if_pos (by omega)] | rw [if_neg (by omega), if_pos (by omega)] | rw [if_neg (by omega), if_neg (by omega), if_pos (by omega)] | rw [if_neg (by omega), if_neg (by omega), if_neg (by omega)]), hB51⟩
  ·
   rw [hc21] at h20
   have hp81 : sc ≥ 3 := of_decide_eq_true hc21
   clear hc21
   refine co_true h20 rfl ?_
   refine co_seq ?_
   refine co_reg ?_
   refine pk0 (v := .int .i64 1) h20 rfl fun a82 h82 => ?_; clear h20
   refine pl_nil ?_
   refine co_then ?_
   refine wp_ret ?_
   refine co_thenR ?_
   refine co_ret1 h82 rfl rfl ?_
   exact ⟨ret_int (by unfold chkSd may; first | rw [if_pos (by omega)] | rw [if_neg (by omega), if_pos (by omega)] | rw [if_neg (by omega), if_neg (by omega), if_pos (by omega)] | rw [if_neg (by omega), if_neg (by omega), if_neg (by omega)]), hB15⟩
 ·
  rw [hc14] at h13
  have hp83 : sc < 0 := of_decide_eq_true hc14
  clear hc14
  refine psk h13 rfl fun a84 h84 => ?_; clear h13
  refine psk h84 rfl fun a85 h85 => ?_; clear h84
  refine psk h85 rfl fun a86 h86 => ?_; clear h85
  refine pk0 (v := .bool true) h86 rfl fun a87 h87 => ?_; clear h86
  refine pl_nil ?_
  refine co_then ?_
  refine co_true h87 rfl ?_
  refine co_seq ?_
  refine co_reg ?_
  refine pk0 (v := .int .i64 1) h87 rfl fun a88 h88 => ?_; clear h87
  refine pl_nil ?_
  refine co_then ?_
  refine wp_ret ?_
  refine co_thenR ?_
  refine co_ret1 h88 rfl rfl ?_
  exact ⟨ret_int (by unfold chkSd may; first | rw [if_pos (by omega)] | rw [if_neg (by omega), if_pos (by omega)] | rw [if_neg (by omega), if_neg (by omega), if_pos (by omega)] | rw [if_neg (by omega), if_neg (by omega), if_neg (by omega)]), hB15⟩
set_option maxRecDepth 100000 in
theorem nCheck_any (d : NoteD) (mv : Value) (lv : Value) (ev : Value) (w : World) (hm : SliceOf memE 2 w mv d.ms) (hg : SliceOf (intE .i64) 1 w lv d.lg) (he : SliceOf opE 3 w ev d.el) (hR : NoteR d) :
    Calls Try.prog 20 #[.agg #[.int .i64 d.k, .int .i64 d.n, .int .u64 d.t, .int .i64 d.ep, mv, .int .u64 d.fl, lv, .int .i64 d.ec, .int .i64 d.er, ev, .int .u64 d.ets, .int .i64 d.pid, .int .u64 d.pat, .int .i64 d.plf, .int .i64 d.sc, .int .i64 d.sr, .int .i64 d.se, .int .i64 d.sp]] w fun e w' => e = .returned (.int .i64 (chkN d)) ∧ Below w.heap.size w w' := by
 have hrng := hR.rng
 have hB0 := Below.refl w.heap.size w
 have hl_hm := sl_len hm
 have hl_hg := sl_len hg
 have hl_he := sl_len he
 refine co_enter (n := 50) Try.func20 rfl rfl rfl [(0, .agg #[.int .i64 d.k, .int .i64 d.n, .int .u64 d.t, .int .i64 d.ep, mv, .int .u64 d.fl, lv, .int .i64 d.ec, .int .i64 d.er, ev, .int .u64 d.ets, .int .i64 d.pid, .int .u64 d.pat, .int .i64 d.plf, .int .i64 d.sc, .int .i64 d.sr, .int .i64 d.se, .int .i64 d.sp])] rfl (fun a h0 => ?_)
 refine co_seq ?_
 refine co_reg ?_
 refine pw h0 rfl (op_new (v := fun N => pt N 0) (T := 44) (cs := #[.int .i64 d.k, .int .i64 d.n, .int .u64 d.t, .int .i64 d.ep, mv, .int .u64 d.fl, lv, .int .i64 d.ec, .int .i64 d.er, ev, .int .u64 d.ets, .int .i64 d.pid, .int .u64 d.pat, .int .i64 d.plf, .int .i64 d.sc, .int .i64 d.sr, .int .i64 d.se, .int .i64 d.sp]) (by kernel_rfl) (by kernel_rfl) (by kernel_rfl)) ?_; clear h0
 rintro _ w2 a1 ⟨N3, rfl, hN6, hz7, hk5, hg4⟩ h1
 have hz8 := hg4.size
 try dsimp only at h1
 refine pk0 (v := .int .i64 0) h1 rfl fun a9 h9 => ?_; clear h1
 refine pl_nil ?_
 refine co_then ?_
 refine co_seq ?_
 refine co_seq ?_
 refine co_reg ?_
 refine pk0 (v := pt N3 0) h9 rfl fun a10 h10 => ?_; clear h9
 refine pk (v := .int .i64 d.k) h10 rfl (rn_load1 rfl rfl Try.isAgg3 (hk5.cell rfl)) fun a11 h11 => ?_; clear h10
 refine pl_nil ?_
 refine co_then ?_
 refine wp_block ?_
 refine co_seq ?_
 refine co_reg ?_
 refine pk0 (v := .bool (d.k == 1)) h11 rfl fun a12 h12 => ?_; clear h11
 refine pk0 (v := .bool (d.k == 1)) h12 rfl fun a13 h13 => ?_; clear h12
 refine pl_nil ?_
 refine co_then ?_
 have hB15 := hb_new hB0 hg4
 cases hc14 : (d.k == 1)
 ·
  rw [hc14] at h13
  have hp16 : ¬ (d.k = 1) := by first | simpa using hc14 | simpa [and_assoc] using hc14
  clear hc14
  refine co_false h13 rfl ?_
  refine co_seq ?_
  refine co_reg ?_
  refine pk0 (v := .bool (d.k == 2)) h13 rfl fun a17 h17 => ?_; clear h13
  refine pk0 (v := .bool (d.k == 2)) h17 rfl fun a18 h18 => ?_; clear h17
  refine pl_nil ?_
  refine co_then ?_
  cases hc19 : (d.k == 2)
  ·
   rw [hc19] at h18
   have hp20 : ¬ (d.k = 2) := by first | simpa using hc19 | simpa [and_assoc] using hc19
   clear hc19
   refine co_false h18 rfl ?_
   refine co_seq ?_
   refine co_seq ?_
   refine co_reg ?_
   refine pk0 (v := .bool (d.k == 3)) h18 rfl fun a21 h21 => ?_; clear h18
   refine pk0 (v := .bool (d.k == 3)) h21 rfl fun a22 h22 => ?_; clear h21
   refine pl_nil ?_
   refine co_then ?_
   cases hc23 : (d.k == 3)
   ·
    rw [hc23] at h22
    have hp24 : ¬ (d.k = 3) := by first | simpa using hc23 | simpa [and_assoc] using hc23
    clear hc23
    refine co_false h22 rfl ?_
    refine co_seq ?_
    refine co_reg ?_
    refine pk0 (v := .bool (d.k == 4)) h22 rfl fun a25 h25 => ?_; clear h22
    refine pk0 (v := .bool (d.k == 4)) h25 rfl fun a26 h26 => ?_; clear h25
    refine pl_nil ?_
    refine co_then ?_
    cases hc27 : (d.k == 4)
    ·
     rw [hc27] at h26
     have hp28 : ¬ (d.k = 4) := by first | simpa using hc27 | simpa [and_assoc] using hc27
     clear hc27
     refine co_false h26 rfl ?_
     refine co_seq ?_
     refine co_reg ?_
     refine pk0 (v := .bool (d.k == 5)) h26 rfl fun a29 h29 => ?_; clear h26
     refine pk0 (v := .bool (d.k == 5)) h29 rfl fun a30 h30 => ?_; clear h29
     refine pl_nil ?_
     refine co_then ?_
     cases hc31 : (d.k == 5)
     ·
      rw [hc31] at h30
      have hp32 : ¬ (d.k = 5) := by first | simpa using hc31 | simpa [and_assoc] using hc31
      clear hc31
      refine co_false h30 rfl ?_
      refine co_reg ?_
      refine pk0 (v := .bool (d.k == 7)) h30 rfl fun a33 h33 => ?_; clear h30
      refine pk0 (v := .bool (d.k == 7)) h33 rfl fun a34 h34 => ?_; clear h33
      refine pl_nil ?_
      refine co_then ?_
      cases hc35 : (d.k == 7)
      ·
       rw [hc35] at h34
       have hp36 : ¬ (d.k = 7) := by first | simpa using hc35 | simpa [and_assoc] using hc35
       clear hc35
       refine co_false h34 rfl ?_
       refine co_seq ?_
       refine co_reg ?_
       refine pk0 (v := .bool (d.k == 6)) h34 rfl fun a37 h37 => ?_; clear h34
       refine pk0 (v := .bool (d.k == 6)) h37 rfl fun a38 h38 => ?_; clear h37
       refine pl_nil ?_
       refine co_then ?_
       cases hc39 : (d.k == 6)
       ·
        rw [hc39] at h38
        have hp40 : ¬ (d.k = 6) := by first | simpa using hc39 | simpa [and_assoc] using hc39
        clear hc39
        refine co_false h38 rfl ?_
        refine co_seq ?_
        refine co_reg ?_
        refine pk0 (v := .bool (d.k == 8)) h38 rfl fun a41 h41 => ?_; clear h38
        refine pk0 (v := .bool (d.k == 8)) h41 rfl fun a42 h42 => ?_; clear h41
        refine pl_nil ?_
        refine co_then ?_
        cases hc43 : (d.k == 8)
        ·
         rw [hc43] at h42
         have hp44 : ¬ (d.k = 8) := by first | simpa using hc43 | simpa [and_assoc] using hc43
         clear hc43
         refine co_false h42 rfl ?_
         refine wp_skip ?_
         refine co_blockN ?_
         refine co_then ?_
         refine co_seq ?_
         refine co_reg ?_
         refine pk0 (v := .int .i64 11) h42 rfl fun a45 h45 => ?_; clear h42
         refine pl_nil ?_
         refine co_then ?_
         refine wp_ret ?_
         refine co_ret1 h45 rfl rfl ?_
         exact ⟨ret_int (by rw [chkN_0 (by omega)]), hB15⟩
        ·
         rw [hc43] at h42
         have hp46 : d.k = 8 := by first | simpa using hc43 | simpa [and_assoc] using hc43
         clear hc43
         refine co_true h42 rfl ?_
         refine co_seq ?_
         refine co_reg ?_
         refine pk0 (v := pt N3 14) h42 rfl fun a47 h47 => ?_; clear h42
         refine pk (v := .agg #[.int .i64 d.sc, .int .i64 d.sr, .int .i64 d.se, .int .i64 d.sp]) h47 rfl (rn_loadN rfl rfl Try.underlying42 rfl (by kernel_rfl) (blk_part hk5 14 (by rfl))) fun a48 h48 => ?_; clear h47
         refine pw h48 rfl (op_call (args := #[.agg #[.int .i64 d.sc, .int .i64 d.sr, .int .i64 d.se, .int .i64 d.sp]]) (R := fun res xw => res = .int .i64 (chkSd d.sc d.sr d.se d.sp) ∧ Below w2.heap.size w2 xw) rfl rfl rfl (by kernel_rfl) (by kernel_rfl) (Try.call45 _ _) (nSaid_any d.sc d.sr d.se d.sp w2 ) (by rintro e x ⟨rfl, hb51⟩; exact ⟨_, rfl, ⟨rfl, hb51⟩⟩)) ?_; clear h48
         rintro _ w50 a49 ⟨rfl, hb51⟩ h49
         have hz52 := hb51.size
         refine pk0 (v := .int .i64 (chkSd d.sc d.sr d.se d.sp)) h49 rfl fun a53 h53 => ?_; clear h49
         refine pl_nil ?_
         refine co_then ?_
         refine wp_ret ?_
         refine co_blockR ?_
         refine co_thenR ?_
         refine co_ret1 h53 rfl rfl ?_
         have hB54 := hb_call hB15 hb51
         exact ⟨ret_int (by rw [chkN_8 (by omega)]), hB54⟩
       ·
        rw [hc39] at h38
        have hp55 : d.k = 6 := by first | simpa using hc39 | simpa [and_assoc] using hc39
        clear hc39
        refine co_true h38 rfl ?_
        refine co_seq ?_
        refine co_seq ?_
        refine co_reg ?_
        refine pk0 (v := pt N3 11) h38 rfl fun a56 h56 => ?_; clear h38
        refine pk0 (v := pt N3 11) h56 rfl fun a57 h57 => ?_; clear h56
        refine pk (v := .int .i64 d.pid) h57 rfl (rn_load1 rfl rfl Try.isAgg3 (hk5.cell rfl)) fun a58 h58 => ?_; clear h57
        refine pw h58 rfl (op_call (args := #[.int .i64 d.pid, .int .i64 1073741824]) (R := fun res xw => res = .bool (decide (d.pid < 0 ∨ d.pid > 1073741824)) ∧ Below w2.heap.size w2 xw) rfl rfl rfl (by kernel_rfl) (by kernel_rfl) (Try.call43 _ _) (nOutside_any d.pid 1073741824 w2 ) (by rintro e x ⟨rfl, hb61⟩; exact ⟨_, rfl, ⟨rfl, hb61⟩⟩)) ?_; clear h58
        rintro _ w60 a59 ⟨rfl, hb61⟩ h59
        have hz62 := hb61.size
        refine pk0 (v := .bool (decide (d.pid < 0 ∨ d.pid > 1073741824))) h59 rfl fun a63 h63 => ?_; clear h59
        have hB65 := hb_call hB15 hb61
        cases hc64 : (decide (d.pid < 0 ∨ d.pid > 1073741824))
        ·
         rw [hc64] at h63
         have hp66 : ¬ (d.pid < 0 ∨ d.pid > 1073741824) := of_decide_eq_false hc64
         clear hc64
         refine pk0 (v := pt N3 11) h63 rfl fun a67 h67 => ?_; clear h63
         refine pk0 (v := pt N3 13) h67 rfl fun a68 h68 => ?_; clear h67
         have hk69 := hk5.below hb61
         refine pk (v := .int .i64 d.plf) h68 rfl (rn_load1 rfl rfl Try.isAgg3 (hk69.cell rfl)) fun a70 h70 => ?_; clear h68
         refine pw h70 rfl (op_call (args := #[.int .i64 d.plf, .int .i64 1073741824]) (R := fun res xw => res = .bool (decide (d.plf < 0 ∨ d.plf > 1073741824)) ∧ Below w60.heap.size w60 xw) rfl rfl rfl (by kernel_rfl) (by kernel_rfl) (Try.call43 _ _) (nOutside_any d.plf 1073741824 w60 ) (by rintro e x ⟨rfl, hb73⟩; exact ⟨_, rfl, ⟨rfl, hb73⟩⟩)) ?_; clear h70
         rintro _ w72 a71 ⟨rfl, hb73⟩ h71
         have hz74 := hb73.size
         refine pk0 (v := .bool (decide (d.plf < 0 ∨ d.plf > 1073741824))) h71 rfl fun a75 h75 => ?_; clear h71
         refine pl_nil ?_
         refine co_then ?_
         have hB77 := hb_call hB65 hb73
         cases hc76 : (decide (d.plf < 0 ∨ d.plf > 1073741824))
         ·
          rw [hc76] at h75
          have hp78 : ¬ (d.plf < 0 ∨ d.plf > 1073741824) := of_decide_eq_false hc76
          clear hc76
          refine co_false h75 rfl ?_
          refine wp_skip ?_
          refine co_then ?_
          refine co_seq ?_
          refine co_reg ?_
          refine pk0 (v := .int .i64 0) h75 rfl fun a79 h79 => ?_; clear h75
          refine pl_nil ?_
          refine co_then ?_
          refine wp_ret ?_
          refine co_blockR ?_
          refine co_thenR ?_
          refine co_ret1 h79 rfl rfl ?_
          exact ⟨ret_int (by rw [chkN_6 (by omega)]; unfold may; first | rw [if_pos (by omega)] | rw [if_neg (by omega)]), hB77⟩
         ·
          rw [hc76] at h75
          have hp80 : d.plf < 0 ∨ d.plf > 1073741824 := of_decide_eq_true hc76
          clear hc76
          refine co_true h75 rfl ?_
          refine co_seq ?_
          refine co_reg ?_
          refine pk0 (v := .int .i64 5) h75 rfl fun a81 h81 => ?_; clear h75
          refine pl_nil ?_
          refine co_then ?_
          refine wp_ret ?_
          refine co_thenR ?_
          refine co_blockR ?_
          refine co_thenR ?_
          refine co_ret1 h81 rfl rfl ?_
          exact ⟨ret_int (by rw [chkN_6 (by omega)]; unfold may; first | rw [if_pos (by omega)] | rw [if_neg (by omega)]), hB77⟩
        ·
         rw [hc64] at h63
         have hp82 : d.pid < 0 ∨ d.pid > 1073741824 := of_decide_eq_true hc64
         clear hc64
         refine psk h63 rfl fun a83 h83 => ?_; clear h63
         refine psk h83 rfl fun a84 h84 => ?_; clear h83
         refine psk h84 rfl fun a85 h85 => ?_; clear h84
         refine psk h85 rfl fun a86 h86 => ?_; clear h85
         refine pk0 (v := .bool true) h86 rfl fun a87 h87 => ?_; clear h86
         refine pl_nil ?_
         refine co_then ?_
         refine co_true h87 rfl ?_
         refine co_seq ?_
         refine co_reg ?_
         refine pk0 (v := .int .i64 5) h87 rfl fun a88 h88 => ?_; clear h87
         refine pl_nil ?_
         refine co_then ?_
         refine wp_ret ?_
         refine co_thenR ?_
         refine co_blockR ?_
         refine co_thenR ?_
         refine co_ret1 h88 rfl rfl ?_
         exact ⟨ret_int (by rw [chkN_6 (by omega)]; unfold may; first | rw [if_pos (by omega)] | rw [if_neg (by omega)]), hB65⟩
      ·
       rw [hc35] at h34
       have hp89 : d.k = 7 := by first | simpa using hc35 | simpa [and_assoc] using hc35
       clear hc35
       refine co_true h34 rfl ?_
       refine co_seq ?_
       refine co_seq ?_
       refine co_reg ?_
       refine pk0 (v := pt N3 1) h34 rfl fun a90 h90 => ?_; clear h34
       refine pk (v := .int .i64 d.n) h90 rfl (rn_load1 rfl rfl Try.isAgg3 (hk5.cell rfl)) fun a91 h91 => ?_; clear h90
       refine pw h91 rfl (op_call (args := #[.int .i64 d.n, .int .i64 1073741824]) (R := fun res xw => res = .bool (decide (d.n < 0 ∨ d.n > 1073741824)) ∧ Below w2.heap.size w2 xw) rfl rfl rfl (by kernel_rfl) (by kernel_rfl) (Try.call43 _ _) (nOutside_any d.n 1073741824 w2 ) (by rintro e x ⟨rfl, hb94⟩; exact ⟨_, rfl, ⟨rfl, hb94⟩⟩)) ?_; clear h91
       rintro _ w93 a92 ⟨rfl, hb94⟩ h92
       have hz95 := hb94.size
       refine pl_nil ?_
       refine co_then ?_
       have hB97 := hb_call hB15 hb94
       cases hc96 : (decide (d.n < 0 ∨ d.n > 1073741824))
       ·
        rw [hc96] at h92
        have hp98 : ¬ (d.n < 0 ∨ d.n > 1073741824) := of_decide_eq_false hc96
        clear hc96
        refine co_false h92 rfl ?_
        refine wp_skip ?_
        refine co_then ?_
        refine co_seq ?_
        refine co_reg ?_
        refine pk0 (v := .int .i64 0) h92 rfl fun a99 h99 => ?_; clear h92
        refine pl_nil ?_
        refine co_then ?_
        refine wp_ret ?_
        refine co_blockR ?_
        refine co_thenR ?_
        refine co_ret1 h99 rfl rfl ?_
        exact ⟨ret_int (by rw [chkN_3 (by omega)]; unfold may; first | rw [if_pos (by omega)] | rw [if_neg (by omega)]), hB97⟩
       ·
        rw [hc96] at h92
        have hp100 : d.n < 0 ∨ d.n > 1073741824 := of_decide_eq_true hc96
        clear hc96
        refine co_true h92 rfl ?_
        refine co_seq ?_
        refine co_reg ?_
        refine pk0 (v := .int .i64 5) h92 rfl fun a101 h101 => ?_; clear h92
        refine pl_nil ?_
        refine co_then ?_
        refine wp_ret ?_
        refine co_thenR ?_
        refine co_blockR ?_
        refine co_thenR ?_
        refine co_ret1 h101 rfl rfl ?_
        exact ⟨ret_int (by rw [chkN_3 (by omega)]; unfold may; first | rw [if_pos (by omega)] | rw [if_neg (by omega)]), hB97⟩
     ·
      rw [hc31] at h30
      have hp102 : d.k = 5 := by first | simpa using hc31 | simpa [and_assoc] using hc31
      clear hc31
      refine co_true h30 rfl ?_
      refine wp_skip ?_
      refine co_then ?_
      refine co_true h30 rfl ?_
      refine co_seq ?_
      refine co_seq ?_
      refine co_reg ?_
      refine pk0 (v := pt N3 1) h30 rfl fun a103 h103 => ?_; clear h30
      refine pk (v := .int .i64 d.n) h103 rfl (rn_load1 rfl rfl Try.isAgg3 (hk5.cell rfl)) fun a104 h104 => ?_; clear h103
      refine pw h104 rfl (op_call (args := #[.int .i64 d.n, .int .i64 1073741824]) (R := fun res xw => res = .bool (decide (d.n < 0 ∨ d.n > 1073741824)) ∧ Below w2.heap.size w2 xw) rfl rfl rfl (by kernel_rfl) (by kernel_rfl) (Try.call43 _ _) (nOutside_any d.n 1073741824 w2 ) (by rintro e x ⟨rfl, hb107⟩; exact ⟨_, rfl, ⟨rfl, hb107⟩⟩)) ?_; clear h104
      rintro _ w106 a105 ⟨rfl, hb107⟩ h105
      have hz108 := hb107.size
      refine pl_nil ?_
      refine co_then ?_
      have hB110 := hb_call hB15 hb107
      cases hc109 : (decide (d.n < 0 ∨ d.n > 1073741824))
      ·
       rw [hc109] at h105
       have hp111 : ¬ (d.n < 0 ∨ d.n > 1073741824) := of_decide_eq_false hc109
       clear hc109
       refine co_false h105 rfl ?_
       refine wp_skip ?_
       refine co_then ?_
       refine co_seq ?_
       refine co_reg ?_
       refine pk0 (v := .int .i64 0) h105 rfl fun a112 h112 => ?_; clear h105
       refine pl_nil ?_
       refine co_then ?_
       refine wp_ret ?_
       refine co_blockR ?_
       refine co_thenR ?_
       refine co_ret1 h112 rfl rfl ?_
       exact ⟨ret_int (by rw [chkN_3 (by omega)]; unfold may; first | rw [if_pos (by omega)] | rw [if_neg (by omega)]), hB110⟩
      ·
       rw [hc109] at h105
       have hp113 : d.n < 0 ∨ d.n > 1073741824 := of_decide_eq_true hc109
       clear hc109
       refine co_true h105 rfl ?_
       refine co_seq ?_
       refine co_reg ?_
       refine pk0 (v := .int .i64 5) h105 rfl fun a114 h114 => ?_; clear h105
       refine pl_nil ?_
       refine co_then ?_
       refine wp_ret ?_
       refine co_thenR ?_
       refine co_blockR ?_
       refine co_thenR ?_
       refine co_ret1 h114 rfl rfl ?_
       exact ⟨ret_int (by rw [chkN_3 (by omega)]; unfold may; first | rw [if_pos (by omega)] | rw [if_neg (by omega)]), hB110⟩
    ·
     rw [hc27] at h26
     have hp115 : d.k = 4 := by first | simpa using hc27 | simpa [and_assoc] using hc27
     clear hc27
     refine co_true h26 rfl ?_
     refine wp_skip ?_
     refine co_then ?_
     refine co_true h26 rfl ?_
     refine co_seq ?_
     refine co_seq ?_
     refine co_reg ?_
     refine pk0 (v := pt N3 1) h26 rfl fun a116 h116 => ?_; clear h26
     refine pk (v := .int .i64 d.n) h116 rfl (rn_load1 rfl rfl Try.isAgg3 (hk5.cell rfl)) fun a117 h117 => ?_; clear h116
     refine pw h117 rfl (op_call (args := #[.int .i64 d.n, .int .i64 1073741824]) (R := fun res xw => res = .bool (decide (d.n < 0 ∨ d.n > 1073741824)) ∧ Below w2.heap.size w2 xw) rfl rfl rfl (by kernel_rfl) (by kernel_rfl) (Try.call43 _ _) (nOutside_any d.n 1073741824 w2 ) (by rintro e x ⟨rfl, hb120⟩; exact ⟨_, rfl, ⟨rfl, hb120⟩⟩)) ?_; clear h117
     rintro _ w119 a118 ⟨rfl, hb120⟩ h118
     have hz121 := hb120.size
     refine pl_nil ?_
     refine co_then ?_
     have hB123 := hb_call hB15 hb120
     cases hc122 : (decide (d.n < 0 ∨ d.n > 1073741824))
     ·
      rw [hc122] at h118
      have hp124 : ¬ (d.n < 0 ∨ d.n > 1073741824) := of_decide_eq_false hc122
      clear hc122
      refine co_false h118 rfl ?_
      refine wp_skip ?_
      refine co_then ?_
      refine co_seq ?_
      refine co_reg ?_
      refine pk0 (v := .int .i64 0) h118 rfl fun a125 h125 => ?_; clear h118
      refine pl_nil ?_
      refine co_then ?_
      refine wp_ret ?_
      refine co_blockR ?_
      refine co_thenR ?_
      refine co_ret1 h125 rfl rfl ?_
      exact ⟨ret_int (by rw [chkN_3 (by omega)]; unfold may; first | rw [if_pos (by omega)] | rw [if_neg (by omega)]), hB123⟩
     ·
      rw [hc122] at h118
      have hp126 : d.n < 0 ∨ d.n > 1073741824 := of_decide_eq_true hc122
      clear hc122
      refine co_true h118 rfl ?_
      refine co_seq ?_
      refine co_reg ?_
      refine pk0 (v := .int .i64 5) h118 rfl fun a127 h127 => ?_; clear h118
      refine pl_nil ?_
      refine co_then ?_
      refine wp_ret ?_
      refine co_thenR ?_
      refine co_blockR ?_
      refine co_thenR ?_
      refine co_ret1 h127 rfl rfl ?_
      exact ⟨ret_int (by rw [chkN_3 (by omega)]; unfold may; first | rw [if_pos (by omega)] | rw [if_neg (by omega)]), hB123⟩
   ·
    rw [hc23] at h22
    have hp128 : d.k = 3 := by first | simpa using hc23 | simpa [and_assoc] using hc23
    clear hc23
    refine co_true h22 rfl ?_
    refine wp_skip ?_
    refine co_then ?_
    refine co_true h22 rfl ?_
    refine co_seq ?_
    refine co_seq ?_
    refine co_reg ?_
    refine pk0 (v := pt N3 1) h22 rfl fun a129 h129 => ?_; clear h22
    refine pk (v := .int .i64 d.n) h129 rfl (rn_load1 rfl rfl Try.isAgg3 (hk5.cell rfl)) fun a130 h130 => ?_; clear h129
    refine pw h130 rfl (op_call (args := #[.int .i64 d.n, .int .i64 1073741824]) (R := fun res xw => res = .bool (decide (d.n < 0 ∨ d.n > 1073741824)) ∧ Below w2.heap.size w2 xw) rfl rfl rfl (by kernel_rfl) (by kernel_rfl) (Try.call43 _ _) (nOutside_any d.n 1073741824 w2 ) (by rintro e x ⟨rfl, hb133⟩; exact ⟨_, rfl, ⟨rfl, hb133⟩⟩)) ?_; clear h130
    rintro _ w132 a131 ⟨rfl, hb133⟩ h131
    have hz134 := hb133.size
    refine pl_nil ?_
    refine co_then ?_
    have hB136 := hb_call hB15 hb133
    cases hc135 : (decide (d.n < 0 ∨ d.n > 1073741824))
    ·
     rw [hc135] at h131
     have hp137 : ¬ (d.n < 0 ∨ d.n > 1073741824) := of_decide_eq_false hc135
     clear hc135
     refine co_false h131 rfl ?_
     refine wp_skip ?_
     refine co_then ?_
     refine co_seq ?_
     refine co_reg ?_
     refine pk0 (v := .int .i64 0) h131 rfl fun a138 h138 => ?_; clear h131
     refine pl_nil ?_
     refine co_then ?_
     refine wp_ret ?_
     refine co_blockR ?_
     refine co_thenR ?_
     refine co_ret1 h138 rfl rfl ?_
     exact ⟨ret_int (by rw [chkN_3 (by omega)]; unfold may; first | rw [if_pos (by omega)] | rw [if_neg (by omega)]), hB136⟩
    ·
     rw [hc135] at h131
     have hp139 : d.n < 0 ∨ d.n > 1073741824 := of_decide_eq_true hc135
     clear hc135
     refine co_true h131 rfl ?_
     refine co_seq ?_
     refine co_reg ?_
     refine pk0 (v := .int .i64 5) h131 rfl fun a140 h140 => ?_; clear h131
     refine pl_nil ?_
     refine co_then ?_
     refine wp_ret ?_
     refine co_thenR ?_
     refine co_blockR ?_
     refine co_thenR ?_
     refine co_ret1 h140 rfl rfl ?_
     exact ⟨ret_int (by rw [chkN_3 (by omega)]; unfold may; first | rw [if_pos (by omega)] | rw [if_neg (by omega)]), hB136⟩
  ·
   rw [hc19] at h18
   have hp141 : d.k = 2 := by first | simpa using hc19 | simpa [and_assoc] using hc19
   clear hc19
   refine co_true h18 rfl ?_
   refine co_seq ?_
   refine co_seq ?_
   refine co_reg ?_
   refine pk0 (v := pt N3 1) h18 rfl fun a142 h142 => ?_; clear h18
   refine pk (v := .int .i64 d.n) h142 rfl (rn_load1 rfl rfl Try.isAgg3 (hk5.cell rfl)) fun a143 h143 => ?_; clear h142
   refine pw h143 rfl (op_call (args := #[.int .i64 d.n, .int .i64 1073741824]) (R := fun res xw => res = .bool (decide (d.n < 0 ∨ d.n > 1073741824)) ∧ Below w2.heap.size w2 xw) rfl rfl rfl (by kernel_rfl) (by kernel_rfl) (Try.call43 _ _) (nOutside_any d.n 1073741824 w2 ) (by rintro e x ⟨rfl, hb146⟩; exact ⟨_, rfl, ⟨rfl, hb146⟩⟩)) ?_; clear h143
   rintro _ w145 a144 ⟨rfl, hb146⟩ h144
   have hz147 := hb146.size
   refine pl_nil ?_
   refine co_then ?_
   have hB149 := hb_call hB15 hb146
   cases hc148 : (decide (d.n < 0 ∨ d.n > 1073741824))
   ·
    rw [hc148] at h144
    have hp150 : ¬ (d.n < 0 ∨ d.n > 1073741824) := of_decide_eq_false hc148
    clear hc148
    refine co_false h144 rfl ?_
    refine wp_skip ?_
    refine co_then ?_
    refine co_seq ?_
    refine co_reg ?_
    refine pk0 (v := pt N3 7) h144 rfl fun a151 h151 => ?_; clear h144
    have hk152 := hk5.below hb146
    refine pk (v := .agg #[.int .i64 d.ec, .int .i64 d.er, ev, .int .u64 d.ets]) h151 rfl (rn_loadN rfl rfl Try.underlying38 rfl (by kernel_rfl) (blk_part hk152 7 (by rfl))) fun a153 h153 => ?_; clear h151
    refine pw h153 rfl (op_call (args := #[.agg #[.int .i64 d.ec, .int .i64 d.er, ev, .int .u64 d.ets]]) (R := fun res xw => res = .int .i64 (chkB d.ec d.er d.el) ∧ Below w145.heap.size w145 xw) rfl rfl rfl (by kernel_rfl) (by kernel_rfl) (Try.call44 _ _) (itemCheck_any d.ec d.er ev d.el d.ets w145 (he.below hB149)) (by rintro e x ⟨rfl, hb156⟩; exact ⟨_, rfl, ⟨rfl, hb156⟩⟩)) ?_; clear h153
    rintro _ w155 a154 ⟨rfl, hb156⟩ h154
    have hz157 := hb156.size
    refine pk0 (v := .int .i64 (chkB d.ec d.er d.el)) h154 rfl fun a158 h158 => ?_; clear h154
    refine pl_nil ?_
    refine co_then ?_
    refine wp_ret ?_
    refine co_blockR ?_
    refine co_thenR ?_
    refine co_ret1 h158 rfl rfl ?_
    have hB159 := hb_call hB149 hb156
    exact ⟨ret_int (by rw [chkN_2 (by omega)]; unfold may; first | rw [if_pos (by omega)] | rw [if_neg (by omega)]), hB159⟩
   ·
    rw [hc148] at h144
    have hp160 : d.n < 0 ∨ d.n > 1073741824 := of_decide_eq_true hc148
    clear hc148
    refine co_true h144 rfl ?_
    refine co_seq ?_
    refine co_reg ?_
    refine pk0 (v := .int .i64 5) h144 rfl fun a161 h161 => ?_; clear h144
    refine pl_nil ?_
    refine co_then ?_
    refine wp_ret ?_
    refine co_thenR ?_
    refine co_blockR ?_
    refine co_thenR ?_
    refine co_ret1 h161 rfl rfl ?_
    exact ⟨ret_int (by rw [chkN_2 (by omega)]; unfold may; first | rw [if_pos (by omega)] | rw [if_neg (by omega)]), hB149⟩
 ·
  rw [hc14] at h13
  have hp162 : d.k = 1 := by first | simpa using hc14 | simpa [and_assoc] using hc14
  clear hc14
  refine co_true h13 rfl ?_
  refine co_seq ?_
  refine co_seq ?_
  refine co_reg ?_
  refine pk0 (v := pt N3 3) h13 rfl fun a163 h163 => ?_; clear h13
  refine pk (v := .agg #[.int .i64 d.ep, mv, .int .u64 d.fl]) h163 rfl (rn_loadN rfl rfl Try.underlying32 rfl (by kernel_rfl) (blk_part hk5 3 (by rfl))) fun a164 h164 => ?_; clear h163
  refine pw h164 rfl (op_call (args := #[.agg #[.int .i64 d.ep, mv, .int .u64 d.fl]]) (R := fun res xw => res = .int .i64 (chkC d.ep d.ms) ∧ Below w2.heap.size w2 xw) rfl rfl rfl (by kernel_rfl) (by kernel_rfl) (Try.call41 _ _) (wcheck_any d.ep mv d.ms d.fl w2 (hm.below hB15) hR.mem (by omega) (by omega)) (by rintro e x ⟨rfl, hb167⟩; exact ⟨_, rfl, ⟨rfl, hb167⟩⟩)) ?_; clear h164
  rintro _ w166 a165 ⟨rfl, hb167⟩ h165
  have hz168 := hb167.size
  refine pk0 (v := .int .i64 (chkC d.ep d.ms)) h165 rfl fun a169 h169 => ?_; clear h165
  refine pl_nil ?_
  refine co_then ?_
  refine co_seq ?_
  refine co_reg ?_
  refine pk0 (v := .int .i64 (chkC d.ep d.ms)) h169 rfl fun a170 h170 => ?_; clear h169
  refine pk0 (v := .bool (chkC d.ep d.ms != 0)) h170 rfl fun a171 h171 => ?_; clear h170
  refine pl_nil ?_
  refine co_then ?_
  have hB173 := hb_call hB15 hb167
  cases hc172 : (chkC d.ep d.ms != 0)
  ·
   rw [hc172] at h171
   have hp174 : ¬ (chkC d.ep d.ms ≠ 0) := by first | simpa using hc172 | simpa [and_assoc] using hc172
   clear hc172
   refine co_false h171 rfl ?_
   refine wp_skip ?_
   refine co_then ?_
   refine co_seq ?_
   refine co_reg ?_
   refine pk0 (v := pt N3 6) h171 rfl fun a175 h175 => ?_; clear h171
   have hk176 := hk5.below hb167
   refine pk (v := lv) h175 rfl (rn_load1 rfl rfl Try.isAgg33 (hk176.cell rfl)) fun a177 h177 => ?_; clear h175
   refine pw h177 rfl (op_call (args := #[lv]) (R := fun res xw => res = .int .i64 (chkLg d.lg) ∧ Below w166.heap.size w166 xw) rfl rfl rfl (by kernel_rfl) (by kernel_rfl) (Try.call42 _ _) (nLegit_any lv d.lg w166 (hg.below hB173)) (by rintro e x ⟨rfl, hb180⟩; exact ⟨_, rfl, ⟨rfl, hb180⟩⟩)) ?_; clear h177
   rintro _ w179 a178 ⟨rfl, hb180⟩ h178
   have hz181 := hb180.size
   refine pk0 (v := .int .i64 (chkLg d.lg)) h178 rfl fun a182 h182 => ?_; clear h178
   refine pl_nil ?_
   refine co_then ?_
   refine wp_ret ?_
   refine co_blockR ?_
   refine co_thenR ?_
   refine co_ret1 h182 rfl rfl ?_
   have hB183 := hb_call hB173 hb180
   exact ⟨ret_int (by rw [chkN_1 (by omega)]; first | rw [if_pos (by omega)] | rw [if_neg (by omega)]), hB183⟩
  ·
   rw [hc172] at h171
   have hp184 : chkC d.ep d.ms ≠ 0 := by first | simpa using hc172 | simpa [and_assoc] using hc172
   clear hc172
   refine co_true h171 rfl ?_
   refine co_seq ?_
   refine co_reg ?_
   refine pk0 (v := .int .i64 (chkC d.ep d.ms)) h171 rfl fun a185 h185 => ?_; clear h171
   refine pk0 (v := .int .i64 (chkC d.ep d.ms)) h185 rfl fun a186 h186 => ?_; clear h185
   refine pl_nil ?_
   refine co_then ?_
   refine wp_ret ?_
   refine co_thenR ?_
   refine co_blockR ?_
   refine co_thenR ?_
   refine co_ret1 h186 rfl rfl ?_
   exact ⟨ret_int (by rw [chkN_1 (by omega)]; first | rw [if_pos (by omega)] | rw [if_neg (by omega)]), hB173⟩
set_option maxRecDepth 100000 in
theorem rnCheck_any (d : NoteD) (mv : Value) (lv : Value) (ev : Value) (w : World) (hm : SliceOf memE 2 w mv d.ms) (hg : SliceOf (intE .i64) 1 w lv d.lg) (he : SliceOf opE 3 w ev d.el) (hR : NoteR d) :
    Calls Try.prog 27 #[.agg #[.int .i64 d.k, .int .i64 d.n, .int .u64 d.t, .int .i64 d.ep, mv, .int .u64 d.fl, lv, .int .i64 d.ec, .int .i64 d.er, ev, .int .u64 d.ets, .int .i64 d.pid, .int .u64 d.pat, .int .i64 d.plf, .int .i64 d.sc, .int .i64 d.sr, .int .i64 d.se, .int .i64 d.sp]] w fun e w' => e = .returned (.int .i64 (chkN d)) ∧ Below w.heap.size w w' := by
 have hrng := hR.rng
 have hB0 := Below.refl w.heap.size w
 have hl_hm := sl_len hm
 have hl_hg := sl_len hg
 have hl_he := sl_len he
 refine co_enter (n := 54) Try.func27 rfl rfl rfl [(0, .agg #[.int .i64 d.k, .int .i64 d.n, .int .u64 d.t, .int .i64 d.ep, mv, .int .u64 d.fl, lv, .int .i64 d.ec, .int .i64 d.er, ev, .int .u64 d.ets, .int .i64 d.pid, .int .u64 d.pat, .int .i64 d.plf, .int .i64 d.sc, .int .i64 d.sr, .int .i64 d.se, .int .i64 d.sp])] rfl (fun a h0 => ?_)
 refine co_seq ?_
 refine co_reg ?_
 refine pw h0 rfl (op_new (v := fun N => pt N 0) (T := 44) (cs := #[.int .i64 d.k, .int .i64 d.n, .int .u64 d.t, .int .i64 d.ep, mv, .int .u64 d.fl, lv, .int .i64 d.ec, .int .i64 d.er, ev, .int .u64 d.ets, .int .i64 d.pid, .int .u64 d.pat, .int .i64 d.plf, .int .i64 d.sc, .int .i64 d.sr, .int .i64 d.se, .int .i64 d.sp]) (by kernel_rfl) (by kernel_rfl) (by kernel_rfl)) ?_; clear h0
 rintro _ w2 a1 ⟨N3, rfl, hN6, hz7, hk5, hg4⟩ h1
 have hz8 := hg4.size
 try dsimp only at h1
 refine pk0 (v := .int .i64 0) h1 rfl fun a9 h9 => ?_; clear h1
 refine pl_nil ?_
 refine co_then ?_
 refine co_seq ?_
 refine co_seq ?_
 refine co_reg ?_
 refine pk0 (v := pt N3 0) h9 rfl fun a10 h10 => ?_; clear h9
 refine pk (v := .int .i64 d.k) h10 rfl (rn_load1 rfl rfl Try.isAgg3 (hk5.cell rfl)) fun a11 h11 => ?_; clear h10
 refine pl_nil ?_
 refine co_then ?_
 refine wp_block ?_
 refine co_seq ?_
 refine co_reg ?_
 refine pk0 (v := .bool (d.k == 1)) h11 rfl fun a12 h12 => ?_; clear h11
 refine pk0 (v := .bool (d.k == 1)) h12 rfl fun a13 h13 => ?_; clear h12
 refine pl_nil ?_
 refine co_then ?_
 have hB15 := hb_new hB0 hg4
 cases hc14 : (d.k == 1)
 ·
  rw [hc14] at h13
  have hp16 : ¬ (d.k = 1) := by first | simpa using hc14 | simpa [and_assoc] using hc14
  clear hc14
  refine co_false h13 rfl ?_
  refine co_seq ?_
  refine co_reg ?_
  refine pk0 (v := .bool (d.k == 2)) h13 rfl fun a17 h17 => ?_; clear h13
  refine pk0 (v := .bool (d.k == 2)) h17 rfl fun a18 h18 => ?_; clear h17
  refine pl_nil ?_
  refine co_then ?_
  cases hc19 : (d.k == 2)
  ·
   rw [hc19] at h18
   have hp20 : ¬ (d.k = 2) := by first | simpa using hc19 | simpa [and_assoc] using hc19
   clear hc19
   refine co_false h18 rfl ?_
   refine co_seq ?_
   refine co_seq ?_
   refine co_reg ?_
   refine pk0 (v := .bool (d.k == 3)) h18 rfl fun a21 h21 => ?_; clear h18
   refine pk0 (v := .bool (d.k == 3)) h21 rfl fun a22 h22 => ?_; clear h21
   refine pl_nil ?_
   refine co_then ?_
   cases hc23 : (d.k == 3)
   ·
    rw [hc23] at h22
    have hp24 : ¬ (d.k = 3) := by first | simpa using hc23 | simpa [and_assoc] using hc23
    clear hc23
    refine co_false h22 rfl ?_
    refine co_seq ?_
    refine co_reg ?_
    refine pk0 (v := .bool (d.k == 4)) h22 rfl fun a25 h25 => ?_; clear h22
    refine pk0 (v := .bool (d.k == 4)) h25 rfl fun a26 h26 => ?_; clear h25
    refine pl_nil ?_
    refine co_then ?_
    cases hc27 : (d.k == 4)
    ·
     rw [hc27] at h26
     have hp28 : ¬ (d.k = 4) := by first | simpa using hc27 | simpa [and_assoc] using hc27
     clear hc27
     refine co_false h26 rfl ?_
     refine co_seq ?_
     refine co_reg ?_
     refine pk0 (v := .bool (d.k == 5)) h26 rfl fun a29 h29 => ?_; clear h26
     refine pk0 (v := .bool (d.k == 5)) h29 rfl fun a30 h30 => ?_; clear h29
     refine pl_nil ?_
     refine co_then ?_
     cases hc31 : (d.k == 5)
     ·
      rw [hc31] at h30
      have hp32 : ¬ (d.k = 5) := by first | simpa using hc31 | simpa [and_assoc] using hc31
      clear hc31
      refine co_false h30 rfl ?_
      refine co_reg ?_
      refine pk0 (v := .bool (d.k == 7)) h30 rfl fun a33 h33 => ?_; clear h30
      refine pk0 (v := .bool (d.k == 7)) h33 rfl fun a34 h34 => ?_; clear h33
      refine pl_nil ?_
      refine co_then ?_
      cases hc35 : (d.k == 7)
      ·
       rw [hc35] at h34
       have hp36 : ¬ (d.k = 7) := by first | simpa using hc35 | simpa [and_assoc] using hc35
       clear hc35
       refine co_false h34 rfl ?_
       refine co_seq ?_
       refine co_reg ?_
       refine pk0 (v := .bool (d.k == 6)) h34 rfl fun a37 h37 => ?_; clear h34
       refine pk0 (v := .bool (d.k == 6)) h37 rfl fun a38 h38 => ?_; clear h37
       refine pl_nil ?_
       refine co_then ?_
       cases hc39 : (d.k == 6)
       ·
        rw [hc39] at h38
        have hp40 : ¬ (d.k = 6) := by first | simpa using hc39 | simpa [and_assoc] using hc39
        clear hc39
        refine co_false h38 rfl ?_
        refine co_seq ?_
        refine co_reg ?_
        refine pk0 (v := .bool (d.k == 8)) h38 rfl fun a41 h41 => ?_; clear h38
        refine pk0 (v := .bool (d.k == 8)) h41 rfl fun a42 h42 => ?_; clear h41
        refine pl_nil ?_
        refine co_then ?_
        cases hc43 : (d.k == 8)
        ·
         rw [hc43] at h42
         have hp44 : ¬ (d.k = 8) := by first | simpa using hc43 | simpa [and_assoc] using hc43
         clear hc43
         refine co_false h42 rfl ?_
         refine wp_skip ?_
         refine co_blockN ?_
         refine co_then ?_
         refine co_seq ?_
         refine co_reg ?_
         refine pk0 (v := .int .i64 11) h42 rfl fun a45 h45 => ?_; clear h42
         refine pl_nil ?_
         refine co_then ?_
         refine wp_ret ?_
         refine co_ret1 h45 rfl rfl ?_
         exact ⟨ret_int (by rw [chkN_0 (by omega)]), hB15⟩
        ·
         rw [hc43] at h42
         have hp46 : d.k = 8 := by first | simpa using hc43 | simpa [and_assoc] using hc43
         clear hc43
         refine co_true h42 rfl ?_
         refine co_seq ?_
         refine co_reg ?_
         refine pk0 (v := pt N3 14) h42 rfl fun a47 h47 => ?_; clear h42
         refine pk (v := .agg #[.int .i64 d.sc, .int .i64 d.sr, .int .i64 d.se, .int .i64 d.sp]) h47 rfl (rn_loadN rfl rfl Try.underlying42 rfl (by kernel_rfl) (blk_part hk5 14 (by rfl))) fun a48 h48 => ?_; clear h47
         refine pw h48 rfl (op_call (args := #[.agg #[.int .i64 d.sc, .int .i64 d.sr, .int .i64 d.se, .int .i64 d.sp]]) (R := fun res xw => res = .int .i64 (chkSd d.sc d.sr d.se d.sp) ∧ Below w2.heap.size w2 xw) rfl rfl rfl (by kernel_rfl) (by kernel_rfl) (Try.call61 _ _) (rnSaid_any d.sc d.sr d.se d.sp w2 ) (by rintro e x ⟨rfl, hb51⟩; exact ⟨_, rfl, ⟨rfl, hb51⟩⟩)) ?_; clear h48
         rintro _ w50 a49 ⟨rfl, hb51⟩ h49
         have hz52 := hb51.size
         refine pk0 (v := .int .i64 (chkSd d.sc d.sr d.se d.sp)) h49 rfl fun a53 h53 => ?_; clear h49
         refine pl_nil ?_
         refine co_then ?_
         refine wp_ret ?_
         refine co_blockR ?_
         refine co_thenR ?_
         refine co_ret1 h53 rfl rfl ?_
         have hB54 := hb_call hB15 hb51
         exact ⟨ret_int (by rw [chkN_8 (by omega)]), hB54⟩
       ·
        rw [hc39] at h38
        have hp55 : d.k = 6 := by first | simpa using hc39 | simpa [and_assoc] using hc39
        clear hc39
        refine co_true h38 rfl ?_
        refine co_seq ?_
        refine co_seq ?_
        refine co_reg ?_
        refine pk0 (v := pt N3 11) h38 rfl fun a56 h56 => ?_; clear h38
        refine pk0 (v := pt N3 11) h56 rfl fun a57 h57 => ?_; clear h56
        refine pk (v := .int .i64 d.pid) h57 rfl (rn_load1 rfl rfl Try.isAgg3 (hk5.cell rfl)) fun a58 h58 => ?_; clear h57
        refine pw h58 rfl (op_call (args := #[.int .i64 d.pid]) (R := fun res xw => res = .bool (decide (0 ≤ d.pid ∧ d.pid ≤ 1073741824)) ∧ Below w2.heap.size w2 xw) rfl rfl rfl (by kernel_rfl) (by kernel_rfl) (Try.call59 _ _) (rnMay_any d.pid w2 ) (by rintro e x ⟨rfl, hb61⟩; exact ⟨_, rfl, ⟨rfl, hb61⟩⟩)) ?_; clear h58
        rintro _ w60 a59 ⟨rfl, hb61⟩ h59
        have hz62 := hb61.size
        have hB64 := hb_call hB15 hb61
        cases hc63 : (decide (0 ≤ d.pid ∧ d.pid ≤ 1073741824))
        ·
         rw [hc63] at h59
         have hp65 : ¬ (0 ≤ d.pid ∧ d.pid ≤ 1073741824) := of_decide_eq_false hc63
         clear hc63
         refine pk0 (v := .bool true) h59 rfl fun a66 h66 => ?_; clear h59
         refine pk0 (v := .bool true) h66 rfl fun a67 h67 => ?_; clear h66
         refine psk h67 rfl fun a68 h68 => ?_; clear h67
         refine psk h68 rfl fun a69 h69 => ?_; clear h68
         refine psk h69 rfl fun a70 h70 => ?_; clear h69
         refine psk h70 rfl fun a71 h71 => ?_; clear h70
         refine psk h71 rfl fun a72 h72 => ?_; clear h71
         refine pk0 (v := .bool true) h72 rfl fun a73 h73 => ?_; clear h72
         refine pl_nil ?_
         refine co_then ?_
         refine co_true h73 rfl ?_
         refine co_seq ?_
         refine co_reg ?_
         refine pk0 (v := .int .i64 5) h73 rfl fun a74 h74 => ?_; clear h73
         refine pl_nil ?_
         refine co_then ?_
         refine wp_ret ?_
         refine co_thenR ?_
         refine co_blockR ?_
         refine co_thenR ?_
         refine co_ret1 h74 rfl rfl ?_
         exact ⟨ret_int (by rw [chkN_6 (by omega)]; unfold may; first | rw [if_pos (by omega)] | rw [if_neg (by omega)]), hB64⟩
        ·
         rw [hc63] at h59
         have hp75 : 0 ≤ d.pid ∧ d.pid ≤ 1073741824 := of_decide_eq_true hc63
         clear hc63
         refine pk0 (v := .bool false) h59 rfl fun a76 h76 => ?_; clear h59
         refine pk0 (v := .bool false) h76 rfl fun a77 h77 => ?_; clear h76
         refine pk0 (v := pt N3 11) h77 rfl fun a78 h78 => ?_; clear h77
         refine pk0 (v := pt N3 13) h78 rfl fun a79 h79 => ?_; clear h78
         have hk80 := hk5.below hb61
         refine pk (v := .int .i64 d.plf) h79 rfl (rn_load1 rfl rfl Try.isAgg3 (hk80.cell rfl)) fun a81 h81 => ?_; clear h79
         refine pw h81 rfl (op_call (args := #[.int .i64 d.plf]) (R := fun res xw => res = .bool (decide (0 ≤ d.plf ∧ d.plf ≤ 1073741824)) ∧ Below w60.heap.size w60 xw) rfl rfl rfl (by kernel_rfl) (by kernel_rfl) (Try.call59 _ _) (rnMay_any d.plf w60 ) (by rintro e x ⟨rfl, hb84⟩; exact ⟨_, rfl, ⟨rfl, hb84⟩⟩)) ?_; clear h81
         rintro _ w83 a82 ⟨rfl, hb84⟩ h82
         have hz85 := hb84.size
         have hB87 := hb_call hB64 hb84
         cases hc86 : (decide (0 ≤ d.plf ∧ d.plf ≤ 1073741824))
         ·
          rw [hc86] at h82
          have hp88 : ¬ (0 ≤ d.plf ∧ d.plf ≤ 1073741824) := of_decide_eq_false hc86
          clear hc86
          refine pk0 (v := .bool true) h82 rfl fun a89 h89 => ?_; clear h82
          refine pk0 (v := .bool true) h89 rfl fun a90 h90 => ?_; clear h89
          refine pl_nil ?_
          refine co_then ?_
          refine co_true h90 rfl ?_
          refine co_seq ?_
          refine co_reg ?_
          refine pk0 (v := .int .i64 5) h90 rfl fun a91 h91 => ?_; clear h90
          refine pl_nil ?_
          refine co_then ?_
          refine wp_ret ?_
          refine co_thenR ?_
          refine co_blockR ?_
          refine co_thenR ?_
          refine co_ret1 h91 rfl rfl ?_
          exact ⟨ret_int (by rw [chkN_6 (by omega)]; unfold may; first | rw [if_pos (by omega)] | rw [if_neg (by omega)]), hB87⟩
         ·
          rw [hc86] at h82
          have hp92 : 0 ≤ d.plf ∧ d.plf ≤ 1073741824 := of_decide_eq_true hc86
          clear hc86
          refine pk0 (v := .bool false) h82 rfl fun a93 h93 => ?_; clear h82
          refine pk0 (v := .bool false) h93 rfl fun a94 h94 => ?_; clear h93
          refine pl_nil ?_
          refine co_then ?_
          refine co_false h94 rfl ?_
          refine wp_skip ?_
          refine co_then ?_
          refine co_seq ?_
          refine co_reg ?_
          refine pk0 (v := .int .i64 0) h94 rfl fun a95 h95 => ?_; clear h94
          refine pl_nil ?_
          refine co_then ?_
          refine wp_ret ?_
          refine co_blockR ?_
          refine co_thenR ?_
          refine co_ret1 h95 rfl rfl ?_
          exact ⟨ret_int (by rw [chkN_6 (by omega)]; unfold may; first | rw [if_pos (by omega)] | rw [if_neg (by omega)]), hB87⟩
      ·
       rw [hc35] at h34
       have hp96 : d.k = 7 := by first | simpa using hc35 | simpa [and_assoc] using hc35
       clear hc35
       refine co_true h34 rfl ?_
       refine co_seq ?_
       refine co_seq ?_
       refine co_reg ?_
       refine pk0 (v := pt N3 1) h34 rfl fun a97 h97 => ?_; clear h34
       refine pk (v := .int .i64 d.n) h97 rfl (rn_load1 rfl rfl Try.isAgg3 (hk5.cell rfl)) fun a98 h98 => ?_; clear h97
       refine pw h98 rfl (op_call (args := #[.int .i64 d.n]) (R := fun res xw => res = .bool (decide (0 ≤ d.n ∧ d.n ≤ 1073741824)) ∧ Below w2.heap.size w2 xw) rfl rfl rfl (by kernel_rfl) (by kernel_rfl) (Try.call59 _ _) (rnMay_any d.n w2 ) (by rintro e x ⟨rfl, hb101⟩; exact ⟨_, rfl, ⟨rfl, hb101⟩⟩)) ?_; clear h98
       rintro _ w100 a99 ⟨rfl, hb101⟩ h99
       have hz102 := hb101.size
       have hB104 := hb_call hB15 hb101
       cases hc103 : (decide (0 ≤ d.n ∧ d.n ≤ 1073741824))
       ·
        rw [hc103] at h99
        have hp105 : ¬ (0 ≤ d.n ∧ d.n ≤ 1073741824) := of_decide_eq_false hc103
        clear hc103
        refine pk0 (v := .bool true) h99 rfl fun a106 h106 => ?_; clear h99
        refine pl_nil ?_
        refine co_then ?_
        refine co_true h106 rfl ?_
        refine co_seq ?_
        refine co_reg ?_
        refine pk0 (v := .int .i64 5) h106 rfl fun a107 h107 => ?_; clear h106
        refine pl_nil ?_
        refine co_then ?_
        refine wp_ret ?_
        refine co_thenR ?_
        refine co_blockR ?_
        refine co_thenR ?_
        refine co_ret1 h107 rfl rfl ?_
        exact ⟨ret_int (by rw [chkN_3 (by omega)]; unfold may; first | rw [if_pos (by omega)] | rw [if_neg (by omega)]), hB104⟩
       ·
        rw [hc103] at h99
        have hp108 : 0 ≤ d.n ∧ d.n ≤ 1073741824 := of_decide_eq_true hc103
        clear hc103
        refine pk0 (v := .bool false) h99 rfl fun a109 h109 => ?_; clear h99
        refine pl_nil ?_
        refine co_then ?_
        refine co_false h109 rfl ?_
        refine wp_skip ?_
        refine co_then ?_
        refine co_seq ?_
        refine co_reg ?_
        refine pk0 (v := .int .i64 0) h109 rfl fun a110 h110 => ?_; clear h109
        refine pl_nil ?_
        refine co_then ?_
        refine wp_ret ?_
        refine co_blockR ?_
        refine co_thenR ?_
        refine co_ret1 h110 rfl rfl ?_
        exact ⟨ret_int (by rw [chkN_3 (by omega)]; unfold may; first | rw [if_pos (by omega)] | rw [if_neg (by omega)]), hB104⟩
     ·
      rw [hc31] at h30
      have hp111 : d.k = 5 := by first | simpa using hc31 | simpa [and_assoc] using hc31
      clear hc31
      refine co_true h30 rfl ?_
      refine wp_skip ?_
      refine co_then ?_
      refine co_true h30 rfl ?_
      refine co_seq ?_
      refine co_seq ?_
      refine co_reg ?_
      refine pk0 (v := pt N3 1) h30 rfl fun a112 h112 => ?_; clear h30
      refine pk (v := .int .i64 d.n) h112 rfl (rn_load1 rfl rfl Try.isAgg3 (hk5.cell rfl)) fun a113 h113 => ?_; clear h112
      refine pw h113 rfl (op_call (args := #[.int .i64 d.n]) (R := fun res xw => res = .bool (decide (0 ≤ d.n ∧ d.n ≤ 1073741824)) ∧ Below w2.heap.size w2 xw) rfl rfl rfl (by kernel_rfl) (by kernel_rfl) (Try.call59 _ _) (rnMay_any d.n w2 ) (by rintro e x ⟨rfl, hb116⟩; exact ⟨_, rfl, ⟨rfl, hb116⟩⟩)) ?_; clear h113
      rintro _ w115 a114 ⟨rfl, hb116⟩ h114
      have hz117 := hb116.size
      have hB119 := hb_call hB15 hb116
      cases hc118 : (decide (0 ≤ d.n ∧ d.n ≤ 1073741824))
      ·
       rw [hc118] at h114
       have hp120 : ¬ (0 ≤ d.n ∧ d.n ≤ 1073741824) := of_decide_eq_false hc118
       clear hc118
       refine pk0 (v := .bool true) h114 rfl fun a121 h121 => ?_; clear h114
       refine pl_nil ?_
       refine co_then ?_
       refine co_true h121 rfl ?_
       refine co_seq ?_
       refine co_reg ?_
       refine pk0 (v := .int .i64 5) h121 rfl fun a122 h122 => ?_; clear h121
       refine pl_nil ?_
       refine co_then ?_
       refine wp_ret ?_
       refine co_thenR ?_
       refine co_blockR ?_
       refine co_thenR ?_
       refine co_ret1 h122 rfl rfl ?_
       exact ⟨ret_int (by rw [chkN_3 (by omega)]; unfold may; first | rw [if_pos (by omega)] | rw [if_neg (by omega)]), hB119⟩
      ·
       rw [hc118] at h114
       have hp123 : 0 ≤ d.n ∧ d.n ≤ 1073741824 := of_decide_eq_true hc118
       clear hc118
       refine pk0 (v := .bool false) h114 rfl fun a124 h124 => ?_; clear h114
       refine pl_nil ?_
       refine co_then ?_
       refine co_false h124 rfl ?_
       refine wp_skip ?_
       refine co_then ?_
       refine co_seq ?_
       refine co_reg ?_
       refine pk0 (v := .int .i64 0) h124 rfl fun a125 h125 => ?_; clear h124
       refine pl_nil ?_
       refine co_then ?_
       refine wp_ret ?_
       refine co_blockR ?_
       refine co_thenR ?_
       refine co_ret1 h125 rfl rfl ?_
       exact ⟨ret_int (by rw [chkN_3 (by omega)]; unfold may; first | rw [if_pos (by omega)] | rw [if_neg (by omega)]), hB119⟩
    ·
     rw [hc27] at h26
     have hp126 : d.k = 4 := by first | simpa using hc27 | simpa [and_assoc] using hc27
     clear hc27
     refine co_true h26 rfl ?_
     refine wp_skip ?_
     refine co_then ?_
     refine co_true h26 rfl ?_
     refine co_seq ?_
     refine co_seq ?_
     refine co_reg ?_
     refine pk0 (v := pt N3 1) h26 rfl fun a127 h127 => ?_; clear h26
     refine pk (v := .int .i64 d.n) h127 rfl (rn_load1 rfl rfl Try.isAgg3 (hk5.cell rfl)) fun a128 h128 => ?_; clear h127
     refine pw h128 rfl (op_call (args := #[.int .i64 d.n]) (R := fun res xw => res = .bool (decide (0 ≤ d.n ∧ d.n ≤ 1073741824)) ∧ Below w2.heap.size w2 xw) rfl rfl rfl (by kernel_rfl) (by kernel_rfl) (Try.call59 _ _) (rnMay_any d.n w2 ) (by rintro e x ⟨rfl, hb131⟩; exact ⟨_, rfl, ⟨rfl, hb131⟩⟩)) ?_; clear h128
     rintro _ w130 a129 ⟨rfl, hb131⟩ h129
     have hz132 := hb131.size
     have hB134 := hb_call hB15 hb131
     cases hc133 : (decide (0 ≤ d.n ∧ d.n ≤ 1073741824))
     ·
      rw [hc133] at h129
      have hp135 : ¬ (0 ≤ d.n ∧ d.n ≤ 1073741824) := of_decide_eq_false hc133
      clear hc133
      refine pk0 (v := .bool true) h129 rfl fun a136 h136 => ?_; clear h129
      refine pl_nil ?_
      refine co_then ?_
      refine co_true h136 rfl ?_
      refine co_seq ?_
      refine co_reg ?_
      refine pk0 (v := .int .i64 5) h136 rfl fun a137 h137 => ?_; clear h136
      refine pl_nil ?_
      refine co_then ?_
      refine wp_ret ?_
      refine co_thenR ?_
      refine co_blockR ?_
      refine co_thenR ?_
      refine co_ret1 h137 rfl rfl ?_
      exact ⟨ret_int (by rw [chkN_3 (by omega)]; unfold may; first | rw [if_pos (by omega)] | rw [if_neg (by omega)]), hB134⟩
     ·
      rw [hc133] at h129
      have hp138 : 0 ≤ d.n ∧ d.n ≤ 1073741824 := of_decide_eq_true hc133
      clear hc133
      refine pk0 (v := .bool false) h129 rfl fun a139 h139 => ?_; clear h129
      refine pl_nil ?_
      refine co_then ?_
      refine co_false h139 rfl ?_
      refine wp_skip ?_
      refine co_then ?_
      refine co_seq ?_
      refine co_reg ?_
      refine pk0 (v := .int .i64 0) h139 rfl fun a140 h140 => ?_; clear h139
      refine pl_nil ?_
      refine co_then ?_
      refine wp_ret ?_
      refine co_blockR ?_
      refine co_thenR ?_
      refine co_ret1 h140 rfl rfl ?_
      exact ⟨ret_int (by rw [chkN_3 (by omega)]; unfold may; first | rw [if_pos (by omega)] | rw [if_neg (by omega)]), hB134⟩
   ·
    rw [hc23] at h22
    have hp141 : d.k = 3 := by first | simpa using hc23 | simpa [and_assoc] using hc23
    clear hc23
    refine co_true h22 rfl ?_
    refine wp_skip ?_
    refine co_then ?_
    refine co_true h22 rfl ?_
    refine co_seq ?_
    refine co_seq ?_
    refine co_reg ?_
    refine pk0 (v := pt N3 1) h22 rfl fun a142 h142 => ?_; clear h22
    refine pk (v := .int .i64 d.n) h142 rfl (rn_load1 rfl rfl Try.isAgg3 (hk5.cell rfl)) fun a143 h143 => ?_; clear h142
    refine pw h143 rfl (op_call (args := #[.int .i64 d.n]) (R := fun res xw => res = .bool (decide (0 ≤ d.n ∧ d.n ≤ 1073741824)) ∧ Below w2.heap.size w2 xw) rfl rfl rfl (by kernel_rfl) (by kernel_rfl) (Try.call59 _ _) (rnMay_any d.n w2 ) (by rintro e x ⟨rfl, hb146⟩; exact ⟨_, rfl, ⟨rfl, hb146⟩⟩)) ?_; clear h143
    rintro _ w145 a144 ⟨rfl, hb146⟩ h144
    have hz147 := hb146.size
    have hB149 := hb_call hB15 hb146
    cases hc148 : (decide (0 ≤ d.n ∧ d.n ≤ 1073741824))
    ·
     rw [hc148] at h144
     have hp150 : ¬ (0 ≤ d.n ∧ d.n ≤ 1073741824) := of_decide_eq_false hc148
     clear hc148
     refine pk0 (v := .bool true) h144 rfl fun a151 h151 => ?_; clear h144
     refine pl_nil ?_
     refine co_then ?_
     refine co_true h151 rfl ?_
     refine co_seq ?_
     refine co_reg ?_
     refine pk0 (v := .int .i64 5) h151 rfl fun a152 h152 => ?_; clear h151
     refine pl_nil ?_
     refine co_then ?_
     refine wp_ret ?_
     refine co_thenR ?_
     refine co_blockR ?_
     refine co_thenR ?_
     refine co_ret1 h152 rfl rfl ?_
     exact ⟨ret_int (by rw [chkN_3 (by omega)]; unfold may; first | rw [if_pos (by omega)] | rw [if_neg (by omega)]), hB149⟩
    ·
     rw [hc148] at h144
     have hp153 : 0 ≤ d.n ∧ d.n ≤ 1073741824 := of_decide_eq_true hc148
     clear hc148
     refine pk0 (v := .bool false) h144 rfl fun a154 h154 => ?_; clear h144
     refine pl_nil ?_
     refine co_then ?_
     refine co_false h154 rfl ?_
     refine wp_skip ?_
     refine co_then ?_
     refine co_seq ?_
     refine co_reg ?_
     refine pk0 (v := .int .i64 0) h154 rfl fun a155 h155 => ?_; clear h154
     refine pl_nil ?_
     refine co_then ?_
     refine wp_ret ?_
     refine co_blockR ?_
     refine co_thenR ?_
     refine co_ret1 h155 rfl rfl ?_
     exact ⟨ret_int (by rw [chkN_3 (by omega)]; unfold may; first | rw [if_pos (by omega)] | rw [if_neg (by omega)]), hB149⟩
  ·
   rw [hc19] at h18
   have hp156 : d.k = 2 := by first | simpa using hc19 | simpa [and_assoc] using hc19
   clear hc19
   refine co_true h18 rfl ?_
   refine co_seq ?_
   refine co_seq ?_
   refine co_reg ?_
   refine pk0 (v := pt N3 1) h18 rfl fun a157 h157 => ?_; clear h18
   refine pk (v := .int .i64 d.n) h157 rfl (rn_load1 rfl rfl Try.isAgg3 (hk5.cell rfl)) fun a158 h158 => ?_; clear h157
   refine pw h158 rfl (op_call (args := #[.int .i64 d.n]) (R := fun res xw => res = .bool (decide (0 ≤ d.n ∧ d.n ≤ 1073741824)) ∧ Below w2.heap.size w2 xw) rfl rfl rfl (by kernel_rfl) (by kernel_rfl) (Try.call59 _ _) (rnMay_any d.n w2 ) (by rintro e x ⟨rfl, hb161⟩; exact ⟨_, rfl, ⟨rfl, hb161⟩⟩)) ?_; clear h158
   rintro _ w160 a159 ⟨rfl, hb161⟩ h159
   have hz162 := hb161.size
   have hB164 := hb_call hB15 hb161
   cases hc163 : (decide (0 ≤ d.n ∧ d.n ≤ 1073741824))
   ·
    rw [hc163] at h159
    have hp165 : ¬ (0 ≤ d.n ∧ d.n ≤ 1073741824) := of_decide_eq_false hc163
    clear hc163
    refine pk0 (v := .bool true) h159 rfl fun a166 h166 => ?_; clear h159
    refine pl_nil ?_
    refine co_then ?_
    refine co_true h166 rfl ?_
    refine co_seq ?_
    refine co_reg ?_
    refine pk0 (v := .int .i64 5) h166 rfl fun a167 h167 => ?_; clear h166
    refine pl_nil ?_
    refine co_then ?_
    refine wp_ret ?_
    refine co_thenR ?_
    refine co_blockR ?_
    refine co_thenR ?_
    refine co_ret1 h167 rfl rfl ?_
    exact ⟨ret_int (by rw [chkN_2 (by omega)]; unfold may; first | rw [if_pos (by omega)] | rw [if_neg (by omega)]), hB164⟩
   ·
    rw [hc163] at h159
    have hp168 : 0 ≤ d.n ∧ d.n ≤ 1073741824 := of_decide_eq_true hc163
    clear hc163
    refine pk0 (v := .bool false) h159 rfl fun a169 h169 => ?_; clear h159
    refine pl_nil ?_
    refine co_then ?_
    refine co_false h169 rfl ?_
    refine wp_skip ?_
    refine co_then ?_
    refine co_seq ?_
    refine co_reg ?_
    refine pk0 (v := pt N3 7) h169 rfl fun a170 h170 => ?_; clear h169
    have hk171 := hk5.below hb161
    refine pk (v := .agg #[.int .i64 d.ec, .int .i64 d.er, ev, .int .u64 d.ets]) h170 rfl (rn_loadN rfl rfl Try.underlying38 rfl (by kernel_rfl) (blk_part hk171 7 (by rfl))) fun a172 h172 => ?_; clear h170
    refine pw h172 rfl (op_call (args := #[.agg #[.int .i64 d.ec, .int .i64 d.er, ev, .int .u64 d.ets]]) (R := fun res xw => res = .int .i64 (chkB d.ec d.er d.el) ∧ Below w160.heap.size w160 xw) rfl rfl rfl (by kernel_rfl) (by kernel_rfl) (Try.call60 _ _) (ritemCheck_any d.ec d.er ev d.el d.ets w160 (he.below hB164)) (by rintro e x ⟨rfl, hb175⟩; exact ⟨_, rfl, ⟨rfl, hb175⟩⟩)) ?_; clear h172
    rintro _ w174 a173 ⟨rfl, hb175⟩ h173
    have hz176 := hb175.size
    refine pk0 (v := .int .i64 (chkB d.ec d.er d.el)) h173 rfl fun a177 h177 => ?_; clear h173
    refine pl_nil ?_
    refine co_then ?_
    refine wp_ret ?_
    refine co_blockR ?_
    refine co_thenR ?_
    refine co_ret1 h177 rfl rfl ?_
    have hB178 := hb_call hB164 hb175
    exact ⟨ret_int (by rw [chkN_2 (by omega)]; unfold may; first | rw [if_pos (by omega)] | rw [if_neg (by omega)]), hB178⟩
 ·
  rw [hc14] at h13
  have hp179 : d.k = 1 := by first | simpa using hc14 | simpa [and_assoc] using hc14
  clear hc14
  refine co_true h13 rfl ?_
  refine co_seq ?_
  refine co_seq ?_
  refine co_reg ?_
  refine pk0 (v := pt N3 3) h13 rfl fun a180 h180 => ?_; clear h13
  refine pk (v := .agg #[.int .i64 d.ep, mv, .int .u64 d.fl]) h180 rfl (rn_loadN rfl rfl Try.underlying32 rfl (by kernel_rfl) (blk_part hk5 3 (by rfl))) fun a181 h181 => ?_; clear h180
  refine pw h181 rfl (op_call (args := #[.agg #[.int .i64 d.ep, mv, .int .u64 d.fl]]) (R := fun res xw => res = .int .i64 (chkC d.ep d.ms) ∧ Below w2.heap.size w2 xw) rfl rfl rfl (by kernel_rfl) (by kernel_rfl) (Try.call57 _ _) (wrcheck_any d.ep mv d.ms d.fl w2 (hm.below hB15) hR.mem (by omega) (by omega)) (by rintro e x ⟨rfl, hb184⟩; exact ⟨_, rfl, ⟨rfl, hb184⟩⟩)) ?_; clear h181
  rintro _ w183 a182 ⟨rfl, hb184⟩ h182
  have hz185 := hb184.size
  refine pk0 (v := .int .i64 (chkC d.ep d.ms)) h182 rfl fun a186 h186 => ?_; clear h182
  refine pl_nil ?_
  refine co_then ?_
  refine co_seq ?_
  refine co_reg ?_
  refine pk0 (v := .int .i64 (chkC d.ep d.ms)) h186 rfl fun a187 h187 => ?_; clear h186
  refine pk0 (v := .bool (chkC d.ep d.ms != 0)) h187 rfl fun a188 h188 => ?_; clear h187
  refine pl_nil ?_
  refine co_then ?_
  have hB190 := hb_call hB15 hb184
  cases hc189 : (chkC d.ep d.ms != 0)
  ·
   rw [hc189] at h188
   have hp191 : ¬ (chkC d.ep d.ms ≠ 0) := by first | simpa using hc189 | simpa [and_assoc] using hc189
   clear hc189
   refine co_false h188 rfl ?_
   refine wp_skip ?_
   refine co_then ?_
   refine co_seq ?_
   refine co_reg ?_
   refine pk0 (v := pt N3 6) h188 rfl fun a192 h192 => ?_; clear h188
   have hk193 := hk5.below hb184
   refine pk (v := lv) h192 rfl (rn_load1 rfl rfl Try.isAgg33 (hk193.cell rfl)) fun a194 h194 => ?_; clear h192
   refine pw h194 rfl (op_call (args := #[lv]) (R := fun res xw => res = .int .i64 (chkLg d.lg) ∧ Below w183.heap.size w183 xw) rfl rfl rfl (by kernel_rfl) (by kernel_rfl) (Try.call58 _ _) (rnLegit_any lv d.lg w183 (hg.below hB190)) (by rintro e x ⟨rfl, hb197⟩; exact ⟨_, rfl, ⟨rfl, hb197⟩⟩)) ?_; clear h194
   rintro _ w196 a195 ⟨rfl, hb197⟩ h195
   have hz198 := hb197.size
   refine pk0 (v := .int .i64 (chkLg d.lg)) h195 rfl fun a199 h199 => ?_; clear h195
   refine pl_nil ?_
   refine co_then ?_
   refine wp_ret ?_
   refine co_blockR ?_
   refine co_thenR ?_
   refine co_ret1 h199 rfl rfl ?_
   have hB200 := hb_call hB190 hb197
   exact ⟨ret_int (by rw [chkN_1 (by omega)]; first | rw [if_pos (by omega)] | rw [if_neg (by omega)]), hB200⟩
  ·
   rw [hc189] at h188
   have hp201 : chkC d.ep d.ms ≠ 0 := by first | simpa using hc189 | simpa [and_assoc] using hc189
   clear hc189
   refine co_true h188 rfl ?_
   refine co_seq ?_
   refine co_reg ?_
   refine pk0 (v := .int .i64 (chkC d.ep d.ms)) h188 rfl fun a202 h202 => ?_; clear h188
   refine pk0 (v := .int .i64 (chkC d.ep d.ms)) h202 rfl fun a203 h203 => ?_; clear h202
   refine pl_nil ?_
   refine co_then ?_
   refine wp_ret ?_
   refine co_thenR ?_
   refine co_blockR ?_
   refine co_thenR ?_
   refine co_ret1 h203 rfl rfl ?_
   exact ⟨ret_int (by rw [chkN_1 (by omega)]; first | rw [if_pos (by omega)] | rw [if_neg (by omega)]), hB190⟩
end Go.Proofs.Ytnjbnndpbegkdaa

/- Package lease: Tick, slices.Clone, slices.Index of pins, the closure of place. Conditions: at most 1000 pins. -/
namespace Go.Proofs.Ytnjbnndpbegkdaa
open Go.RowKit Go.PlainAid
set_option linter.unusedVariables false


theorem idx_next {l : List PinT} {i k : Nat} {p y : PinT} (hi : l[i]? = some p) (hk : k ≤ i) (hy : l[k]? = some y) (hne : ¬ (p.1 = y.1 ∧ p.2.1 = y.2.1 ∧ p.2.2 = y.2.2)) : k + 1 ≤ i := by
  by_cases h : k = i
  · subst h; rw [hi] at hy; cases hy; exact absurd ⟨rfl, rfl, rfl⟩ hne
  · omega
theorem idx_eq {l : List PinT} {i k : Nat} {p y : PinT} (hn : ∀ j, j < i → ∀ z, l[j]? = some z → z.1 ≠ p.1) (hk : k ≤ i) (hy : l[k]? = some y) (he : p.1 = y.1 ∧ p.2.1 = y.2.1 ∧ p.2.2 = y.2.2) : k = i := by
  by_cases h : k < i
  · exact absurd he.1.symm (hn k h y hy)
  · omega

set_option maxRecDepth 100000 in
theorem clonePin_any (v : Value) (l : List PinT) (w : World) (hs : SliceOf pinE 3 w v l) (hlen : l.length ≤ 1000) :
    Calls Try.prog 38 #[v] w fun e w' => ∃ (u : Value), e = .returned (u) ∧ w'.ownsRow w.heap.size 40 3 u l.length (l.flatMap pinE) ∧ Below w.heap.size w w' := by
  have hB0 := Below.refl w.heap.size w
  have hl_hs := sl_len hs
  have hs' := hs; obtain ⟨ao, cap, hv, _, _, h3, _⟩ := hs'; subst hv; rcases ao with _ | ad
  · obtain ⟨hl0, hc0⟩ := h3 rfl; obtain rfl : l = [] := List.eq_nil_of_length_eq_zero hl0; subst hc0
    refine co_enter (n := 8) Try.func38 rfl rfl rfl [(0, .slice none 0 0)] rfl (fun a h0 => ?_)
    refine co_seq ?_
    refine co_reg ?_
    refine pl_val (v := .slice none 0 0) h0 rfl rfl rfl (by kernel_rfl) (by kernel_rfl) (by kernel_rfl) (fun a1 h1 => ?_); clear h0
    refine pl_nil ?_
    refine co_then ?_
    refine co_seq ?_
    refine co_seq ?_
    refine co_reg ?_
    refine pl_val (v := .slice none 0 0) h1 rfl rfl rfl (by kernel_rfl) (by kernel_rfl) (by kernel_rfl) (fun a2 h2 => ?_); clear h1
    refine pl_val (v := .bool true) h2 rfl rfl rfl (by kernel_rfl) (by kernel_rfl) (by kernel_rfl) (fun a3 h3 => ?_); clear h2
    refine pl_nil ?_
    refine co_then ?_
    refine co_true h3 rfl ?_
    refine co_seq ?_
    refine co_reg ?_
    refine pl_val (v := .slice none 0 0) h3 rfl rfl rfl (by kernel_rfl) (by kernel_rfl) (by kernel_rfl) (fun a4 h4 => ?_); clear h3
    refine pl_nil ?_
    refine co_then ?_
    refine wp_ret ?_
    refine co_thenR ?_
    refine co_ret1 h4 rfl rfl ?_
    exact ⟨_, rfl, (row_nilL _ _ _ _ _), hB0⟩
  · skip
    refine co_enter (n := 8) Try.func38 rfl rfl rfl [(0, .slice (some ad) l.length cap)] rfl (fun a h0 => ?_)
    refine co_seq ?_
    refine co_reg ?_
    refine pl_val (v := .slice none 0 0) h0 rfl rfl rfl (by kernel_rfl) (by kernel_rfl) (by kernel_rfl) (fun a5 h5 => ?_); clear h0
    refine pl_nil ?_
    refine co_then ?_
    refine co_seq ?_
    refine co_seq ?_
    refine co_reg ?_
    refine pl_val (v := .slice (some ad) l.length cap) h5 rfl rfl rfl (by kernel_rfl) (by kernel_rfl) (by kernel_rfl) (fun a6 h6 => ?_); clear h5
    refine pl_val (v := .bool false) h6 rfl rfl rfl (by kernel_rfl) (by kernel_rfl) (by kernel_rfl) (fun a7 h7 => ?_); clear h6
    refine pl_nil ?_
    refine co_then ?_
    refine co_false h7 rfl ?_
    refine wp_skip ?_
    refine co_then ?_
    refine co_seq ?_
    refine co_reg ?_
    refine pl_want h7 rfl rfl rfl (op_new (v := fun N => .slice (some ⟨N, 0, none⟩) 0 0) (T := 40) (cs := #[]) (by kernel_rfl) (by kernel_rfl) (by kernel_rfl)) ?_; clear h7
    rintro _ w9 a8 ⟨N10, rfl, hN13, hz14, hk12, hg11⟩ h8
    have hB15 := hb_new hB0 hg11
    have hz16 := hB15.size
    have hz17 := hg11.size
    try dsimp only at h8
    refine pl_val (v := .slice (some ad) l.length cap) h8 rfl rfl rfl (by kernel_rfl) (by kernel_rfl) (by kernel_rfl) (fun a18 h18 => ?_); clear h8
    have hr21 := row_of_blkL hk12 (Nat.le_refl _) 3 pinE
    refine pl_want h18 rfl rfl rfl (op_appendSrc rfl N10 40 (z := .agg #[.int .i64 0, .int .u64 0, .int .i64 0]) (size := 3) (bytes := 24) Try.underlying47 (by kernel_rfl) rfl rfl rfl hr21 rfl (hs.below hB15) (fun y _ => ⟨pinE_len y, pinE_one y⟩) (by first | omega | (simp only [List.length_nil, List.length_append, List.length_cons, List.length_take, List.length_drop]; omega)) (by first | omega | (simp only [List.length_nil, List.length_append, List.length_cons, List.length_take, List.length_drop]; omega)) (by omega)) ?_; clear h18
    rintro v22 w20 a19 ⟨hr23, hg24⟩ h19
    have hr23' : w20.ownsRow N10 40 3 v22 l.length (l.flatMap pinE) := row_app (l := []) hr23; clear hr23
    have hB25 := hb_row hB15 hr21 (by omega) hg24
    have hz26 := hB25.size
    have hz27 := hg24.size
    refine pl_val (v := v22) h19 rfl rfl rfl (by kernel_rfl) (by kernel_rfl) (by kernel_rfl) (fun a28 h28 => ?_); clear h19
    refine pl_nil ?_
    refine co_then ?_
    refine wp_ret ?_
    refine co_ret1 h28 rfl rfl ?_
    exact ⟨_, rfl, (row_lows hr23' (by omega)), hB25⟩
set_option maxRecDepth 100000 in
theorem placeC_any (p : PinT) (id : Int) (B : Nat) (w : World) (hr : w.rangeAt B 0 [.int .i64 id]) :
    Calls Try.prog 78 #[.agg #[.int .i64 p.1, .int .u64 p.2.1, .int .i64 p.2.2], .pointer (some ⟨B, 0, none⟩)] w fun e w' => e = .returned (.bool (p.1 == id)) ∧ Below w.heap.size w w' := by
  have hB0 := Below.refl w.heap.size w
  refine co_enter (n := 8) Try.func78 rfl rfl rfl [(0, .agg #[.int .i64 p.1, .int .u64 p.2.1, .int .i64 p.2.2]), (1, .pointer (some ⟨B, 0, none⟩))] rfl (fun a h0 => ?_)
  refine co_seq ?_
  refine co_reg ?_
  refine pl_want h0 rfl rfl rfl (op_new (v := fun N => .pointer (some ⟨N, 0, none⟩)) (T := 40) (cs := #[.int .i64 p.1, .int .u64 p.2.1, .int .i64 p.2.2]) (by kernel_rfl) (by kernel_rfl) (by kernel_rfl)) ?_; clear h0
  rintro _ w2 a1 ⟨N3, rfl, hN6, hz7, hk5, hg4⟩ h1
  have hB8 := hb_new hB0 hg4
  have hz9 := hB8.size
  have hz10 := hg4.size
  try dsimp only at h1
  refine pl_val (v := .bool false) h1 rfl rfl rfl (by kernel_rfl) (by kernel_rfl) (by kernel_rfl) (fun a11 h11 => ?_); clear h1
  refine pl_nil ?_
  refine co_then ?_
  refine co_seq ?_
  refine co_reg ?_
  refine pl_val (v := .pointer (some ⟨N3, 0, none⟩)) h11 rfl rfl rfl (by kernel_rfl) (by kernel_rfl) (by kernel_rfl) (fun a12 h12 => ?_); clear h11
  refine pl_val (v := .int .i64 p.1) h12 rfl rfl rfl (by kernel_rfl) (by kernel_rfl) (rn_load1 rfl rfl Try.isAgg3 (hk5.cell rfl)) (fun a13 h13 => ?_); clear h12
  refine pl_val (v := .int .i64 id) h13 rfl rfl rfl (by kernel_rfl) (by kernel_rfl) (rn_load1 rfl rfl Try.isAgg3 ((range_below hr hB8) 0 _ rfl)) (fun a14 h14 => ?_); clear h13
  refine pl_val (v := .bool (p.1 == id)) h14 rfl rfl rfl (by kernel_rfl) (by kernel_rfl) (by kernel_rfl) (fun a15 h15 => ?_); clear h14
  refine pl_val (v := .bool (p.1 == id)) h15 rfl rfl rfl (by kernel_rfl) (by kernel_rfl) (by kernel_rfl) (fun a16 h16 => ?_); clear h15
  refine pl_nil ?_
  refine co_then ?_
  refine wp_ret ?_
  refine co_ret1 h16 rfl rfl ?_
  exact ⟨rfl, hB8⟩
set_option maxRecDepth 100000 in
theorem indexPin_any (v : Value) (l : List PinT) (p : PinT) (i : Nat) (w : World) (hs : SliceOf pinE 3 w v l) (hi : l[i]? = some p) (hn : ∀ j, j < i → ∀ z, l[j]? = some z → z.1 ≠ p.1) :
    Calls Try.prog 79 #[v, .agg #[.int .i64 p.1, .int .u64 p.2.1, .int .i64 p.2.2]] w fun e w' => e = .returned (.int .i64 ((i : Nat) : Int)) ∧ Below w.heap.size w w' := by
  have hil := (List.getElem?_eq_some_iff.1 hi).1
  have hB0 := Below.refl w.heap.size w
  have hl_hs := sl_len hs
  refine co_enter (n := 19) Try.func79 rfl rfl rfl [(0, v), (1, .agg #[.int .i64 p.1, .int .u64 p.2.1, .int .i64 p.2.2])] rfl (fun a h0 => ?_)
  refine co_seq ?_
  refine co_reg ?_
  refine pl_want h0 rfl rfl rfl (op_new (v := fun N => .pointer (some ⟨N, 0, none⟩)) (T := 40) (cs := #[.int .i64 p.1, .int .u64 p.2.1, .int .i64 p.2.2]) (by kernel_rfl) (by kernel_rfl) (by kernel_rfl)) ?_; clear h0
  rintro _ w2 a1 ⟨N3, rfl, hN6, hz7, hk5, hg4⟩ h1
  have hB8 := hb_new hB0 hg4
  have hz9 := hB8.size
  have hz10 := hg4.size
  try dsimp only at h1
  refine pl_val (v := .int .i64 0) h1 rfl rfl rfl (by kernel_rfl) (by kernel_rfl) (by kernel_rfl) (fun a11 h11 => ?_); clear h1
  refine pl_nil ?_
  refine co_then ?_
  refine co_seq ?_
  refine co_seq ?_
  refine co_reg ?_
  refine pl_val (v := v) h11 rfl rfl rfl (by kernel_rfl) (by kernel_rfl) (by kernel_rfl) (fun a12 h12 => ?_); clear h11
  refine pl_val (v := .int .i64 ((l.length : Nat) : Int)) h12 rfl rfl rfl (by kernel_rfl) (by kernel_rfl) (rn_len rfl rfl Try.underlying47 (hs.below hB8)) (fun a13 h13 => ?_); clear h12
  refine pl_val (v := .int .i64 0) h13 rfl rfl rfl (by kernel_rfl) (by kernel_rfl) (by kernel_rfl) (fun a14 h14 => ?_); clear h13
  refine pl_nil ?_
  refine co_then ?_
  refine wp_block ?_
  have h15 : Slots 19 [(0, v), (3, .pointer (some ⟨N3, 0, none⟩)), (4, .int .i64 0), (6, v), (7, .int .i64 ((l.length : Nat) : Int)), (8, .int .i64 0)] _ := h14.sub ⟨rfl, rfl, rfl, rfl, rfl, rfl, trivial⟩; clear h14
  refine co_loop (fun mm a x => ∃ (k : Nat), Slots 19 [(0, v), (3, .pointer (some ⟨N3, 0, none⟩)), (4, .int .i64 0), (6, v), (7, .int .i64 ((l.length : Nat) : Int)), (8, .int .i64 ((k : Nat) : Int))] a ∧ mm = i + 1 - k ∧ (k ≤ i) ∧ Below w.heap.size w x ∧ Blk x N3 40 #[.int .i64 p.1, .int .u64 p.2.1, .int .i64 p.2.2]) (i + 1 - 0) ?_ ?_
  · exact ⟨0, h15.sub ⟨rfl, rfl, rfl, rfl, rfl, (slot_eq rfl (congrArg (Value.int .i64) (by first | rfl | omega))), trivial⟩, rfl, by first | omega | exact idx_next hi (by assumption) (by assumption) (by omega), hB8, hk5⟩
  · rintro k16 a17 w18 ⟨k, h17, rfl, hi19, hB20, hk21⟩
    have hz22 := hB20.size
    have hl23 := hk21.lt
    refine co_seq ?_
    refine co_reg ?_
    refine pl_val (v := .bool (decide (((k : Nat) : Int) < ((l.length : Nat) : Int)))) h17 rfl rfl rfl (by kernel_rfl) (by kernel_rfl) (by kernel_rfl) (fun a24 h24 => ?_); clear h17
    refine pl_nil ?_
    refine co_then ?_
    refine co_seq ?_
    have hc25 : (decide (((k : Nat) : Int) < ((l.length : Nat) : Int))) = true := decide_eq_true (by omega)
    rw [hc25] at h24; clear hc25
    refine co_true h24 rfl ?_
    refine wp_skip ?_
    refine co_then ?_
    refine co_seq ?_
    refine wp_block ?_
    refine co_seq ?_
    refine co_reg ?_
    refine pl_val (v := .int .i64 ((k : Nat) : Int)) h24 rfl rfl rfl (by kernel_rfl) (by kernel_rfl) (by kernel_rfl) (fun a26 h26 => ?_); clear h24
    refine pl_val (v := .int .i64 ((k : Nat) : Int)) h26 rfl rfl rfl (by kernel_rfl) (by kernel_rfl) (by kernel_rfl) (fun a27 h27 => ?_); clear h26
    refine pl_nil ?_
    refine co_then ?_
    refine co_seq ?_
    refine dr_eq (by kernel_rfl) (fun w28 hg29 => ?_)
    have hB30 := hb_new hB20 hg29
    have hz31 := hB30.size
    have hz32 := hg29.size
    have hk33 := hk21.kept hg29 (by simp)
    refine dr_take (i := 0) (v := .agg #[.int .i64 p.1, .int .u64 p.2.1, .int .i64 p.2.2]) h27 rfl (by kernel_rfl) (by kernel_rfl) (by kernel_rfl) rfl rfl rfl rfl (by kernel_rfl) (fun x hx => by subst hx; exact (rn_loadN rfl rfl Try.underlying40 rfl (by kernel_rfl) hk33.all)) (fun a34 h34 => ?_); clear h27
    refine dr_take (i := 1) (v := v) h34 rfl (by kernel_rfl) (by kernel_rfl) (by kernel_rfl) rfl rfl rfl rfl (by kernel_rfl) (fun _ _ => by kernel_rfl) (fun a35 h35 => ?_); clear h34
    refine dr_take (i := 2) (v := .int .i64 ((k : Nat) : Int)) h35 rfl (by kernel_rfl) (by kernel_rfl) (by kernel_rfl) rfl rfl rfl rfl (by kernel_rfl) (fun _ _ => by kernel_rfl) (fun a36 h36 => ?_); clear h35
    obtain ⟨y37, hy37⟩ : ∃ z, l[k]? = some z := ⟨_, List.getElem?_eq_getElem (by first | omega | (simp; done) | (simp; omega))⟩
    refine dr_take (i := 3) (v := .pointer (some ⟨(blkOf v), offOf v + k * 3, none⟩)) h36 rfl (by kernel_rfl) (by kernel_rfl) (by kernel_rfl) rfl rfl rfl rfl (by kernel_rfl) (fun x hx => by subst hx; exact (rn_index rfl rfl rfl Try.underlying47 Try.sizeOf40 (hs.below hB30) (by omega) (by first | omega | (simp; done) | (simp; omega)))) (fun a38 h38 => ?_); clear h36
    refine dr_take (i := 4) (v := .agg #[.int .i64 y37.1, .int .u64 y37.2.1, .int .i64 y37.2.2]) h38 rfl (by kernel_rfl) (by kernel_rfl) (by kernel_rfl) rfl rfl rfl rfl (by kernel_rfl) (fun x hx => by subst hx; exact (rn_loadN rfl rfl Try.underlying40 rfl (by kernel_rfl) (sl_at (hs.below hB30) hy37))) (fun a39 h39 => ?_); clear h38
    refine dr_take (i := 5) (v := .bool (p.1 == y37.1 && p.2.1 == y37.2.1 && p.2.2 == y37.2.2)) h39 rfl (by kernel_rfl) (by kernel_rfl) (by kernel_rfl) rfl rfl rfl rfl (by kernel_rfl) (fun x hx => by subst hx; exact (rn_eqS rfl rfl rfl Try.eqGuardType40 (eq_pin _ _ _ _ _ _ _))) (fun a40 h40 => ?_); clear h39
    refine dr_done (by kernel_rfl) ?_
    refine co_then ?_
    cases hc41 : (p.1 == y37.1 && p.2.1 == y37.2.1 && p.2.2 == y37.2.2)
    ·
      rw [hc41] at h40
      have hp42 : ¬ (p.1 = y37.1 ∧ p.2.1 = y37.2.1 ∧ p.2.2 = y37.2.2) := by first | simpa using hc41 | simpa [and_assoc] using hc41
      clear hc41
      refine co_false h40 rfl ?_
      refine wp_skip ?_
      refine co_blockN ?_
      refine co_then ?_
      refine co_reg ?_
      refine pl_val (v := .int .i64 ((k + 1 : Nat) : Int)) h40 rfl rfl rfl (by kernel_rfl) (by kernel_rfl) (rn_arith' rfl rfl rfl rfl rfl rfl (IntWalk.i64_in _ (by omega)) (by omega)) (fun a43 h43 => ?_); clear h40
      refine pl_val (v := .int .i64 ((k + 1 : Nat) : Int)) h43 rfl rfl rfl (by kernel_rfl) (by kernel_rfl) (by kernel_rfl) (fun a44 h44 => ?_); clear h43
      refine pl_nil ?_
      refine co_then ?_
      refine ⟨(i + 1 - (k + 1)), by omega, ?_⟩
      exact ⟨k + 1, h44.sub ⟨rfl, rfl, rfl, rfl, rfl, rfl, trivial⟩, rfl, by first | omega | exact idx_next hi (by assumption) (by assumption) (by omega), hB30, hk33⟩
    ·
      rw [hc41] at h40
      have hp45 : p.1 = y37.1 ∧ p.2.1 = y37.2.1 ∧ p.2.2 = y37.2.2 := by first | simpa using hc41 | simpa [and_assoc] using hc41
      clear hc41
      refine co_true h40 rfl ?_
      refine co_seq ?_
      refine co_reg ?_
      refine pl_val (v := .int .i64 ((k : Nat) : Int)) h40 rfl rfl rfl (by kernel_rfl) (by kernel_rfl) (by kernel_rfl) (fun a46 h46 => ?_); clear h40
      refine pl_val (v := .int .i64 ((k : Nat) : Int)) h46 rfl rfl rfl (by kernel_rfl) (by kernel_rfl) (by kernel_rfl) (fun a47 h47 => ?_); clear h46
      refine pl_nil ?_
      refine co_then ?_
      refine wp_ret ?_
      refine co_blockR ?_
      refine co_thenR ?_
      refine co_thenR ?_
      refine co_blockR ?_
      refine co_thenR ?_
      refine co_ret1 h47 rfl rfl ?_
      obtain rfl := idx_eq (k := k) hn (by assumption) (by assumption) (by omega)
      exact ⟨rfl, hB30⟩
end Go.Proofs.Ytnjbnndpbegkdaa

/- Package lease: first, place. Conditions: none. -/
namespace Go.Proofs.Ytnjbnndpbegkdaa
open Go.RowKit Go.PlainAid
set_option linter.unusedVariables false


/-- What first tells: a pin with the Id, ahead of which there is none; or that there is none. -/
def FirstP (l : List PinT) (id : Int) (p : PinT) (b : Bool) : Prop :=
  (b = true ∧ ∃ i : Nat, l[i]? = some p ∧ p.1 = id ∧ (∀ j, j < i → ∀ z, l[j]? = some z → z.1 ≠ id)) ∨ (b = false ∧ p = (0, 0, 0) ∧ findP l id = -1)

set_option maxRecDepth 100000 in
theorem firstPin_any (v : Value) (l : List PinT) (id : Int) (N : Nat) (w : World) (hs : SliceOf pinE 3 w v l) (hr : w.rangeAt N 0 [.int .i64 id]) :
    Calls Try.prog 77 #[v, .func (.func 78) #[] #[.pointer (some ⟨N, 0, none⟩)]] w fun e w' => ∃ (p : PinT) (b : Bool), e = .returned (.tuple #[.agg #[.int .i64 p.1, .int .u64 p.2.1, .int .i64 p.2.2], .bool b]) ∧ FirstP l id p b ∧ Below w.heap.size w w' := by
  have hB0 := Below.refl w.heap.size w
  have hl_hs := sl_len hs
  refine co_enter (n := 21) Try.func77 rfl rfl rfl [(0, v), (1, .func (.func 78) #[] #[.pointer (some ⟨N, 0, none⟩)])] rfl (fun a h0 => ?_)
  refine co_seq ?_
  refine co_reg ?_
  refine pl_want h0 rfl rfl rfl (op_new (v := fun N => .pointer (some ⟨N, 0, none⟩)) (T := 40) (cs := #[.int .i64 0, .int .u64 0, .int .i64 0]) (by kernel_rfl) (by kernel_rfl) (by kernel_rfl)) ?_; clear h0
  rintro _ w2 a1 ⟨N3, rfl, hN6, hz7, hk5, hg4⟩ h1
  have hB8 := hb_new hB0 hg4
  have hz9 := hB8.size
  have hz10 := hg4.size
  try dsimp only at h1
  refine pl_val (v := .bool false) h1 rfl rfl rfl (by kernel_rfl) (by kernel_rfl) (by kernel_rfl) (fun a11 h11 => ?_); clear h1
  refine pl_nil ?_
  refine co_then ?_
  refine co_seq ?_
  refine co_seq ?_
  refine co_reg ?_
  refine pl_val (v := v) h11 rfl rfl rfl (by kernel_rfl) (by kernel_rfl) (by kernel_rfl) (fun a12 h12 => ?_); clear h11
  refine pl_val (v := .int .i64 ((l.length : Nat) : Int)) h12 rfl rfl rfl (by kernel_rfl) (by kernel_rfl) (rn_len rfl rfl Try.underlying47 (hs.below hB8)) (fun a13 h13 => ?_); clear h12
  refine pl_val (v := .int .i64 0) h13 rfl rfl rfl (by kernel_rfl) (by kernel_rfl) (by kernel_rfl) (fun a14 h14 => ?_); clear h13
  refine pl_nil ?_
  refine co_then ?_
  refine wp_block ?_
  have h15 : Slots 21 [(0, v), (1, .func (.func 78) #[] #[.pointer (some ⟨N, 0, none⟩)]), (4, .pointer (some ⟨N3, 0, none⟩)), (5, .bool false), (9, v), (10, .int .i64 ((l.length : Nat) : Int)), (11, .int .i64 0)] _ := h14.sub ⟨rfl, rfl, rfl, rfl, rfl, rfl, rfl, trivial⟩; clear h14
  refine co_loop (fun mm a x => ∃ (i : Nat), Slots 21 [(0, v), (1, .func (.func 78) #[] #[.pointer (some ⟨N, 0, none⟩)]), (4, .pointer (some ⟨N3, 0, none⟩)), (5, .bool false), (9, v), (10, .int .i64 ((l.length : Nat) : Int)), (11, .int .i64 ((i : Nat) : Int))] a ∧ mm = l.length - i ∧ (i ≤ l.length) ∧ (∀ j, j < i → ∀ z, l[j]? = some z → z.1 ≠ id) ∧ Below w.heap.size w x ∧ Blk x N3 40 #[.int .i64 0, .int .u64 0, .int .i64 0]) (l.length - 0) ?_ ?_
  · exact ⟨0, h15.sub ⟨rfl, rfl, rfl, rfl, rfl, rfl, (slot_eq rfl (congrArg (Value.int .i64) (by first | rfl | omega))), trivial⟩, rfl, by omega, by first | (intro j hj; omega) | exact none_step (by assumption) (by assumption) (by omega), hB8, hk5⟩
  · rintro k16 a17 w18 ⟨i, h17, rfl, hi19, hi20, hB21, hk22⟩
    have hz23 := hB21.size
    have hl24 := hk22.lt
    refine co_seq ?_
    refine co_reg ?_
    refine pl_val (v := .bool (decide (((i : Nat) : Int) < ((l.length : Nat) : Int)))) h17 rfl rfl rfl (by kernel_rfl) (by kernel_rfl) (by kernel_rfl) (fun a25 h25 => ?_); clear h17
    refine pl_nil ?_
    refine co_then ?_
    refine co_seq ?_
    cases hc26 : (decide (((i : Nat) : Int) < ((l.length : Nat) : Int)))
    ·
      rw [hc26] at h25
      have hp27 : ¬ (((i : Nat) : Int) < ((l.length : Nat) : Int)) := of_decide_eq_false hc26
      clear hc26
      refine co_false h25 rfl ?_
      refine wp_exit ?_
      refine co_thenX ?_
      refine co_thenX ?_
      refine co_blockX ?_
      refine co_then ?_
      refine co_seq ?_
      refine co_reg ?_
      refine pl_want h25 rfl rfl rfl (op_new (v := fun N => .pointer (some ⟨N, 0, none⟩)) (T := 40) (cs := #[.int .i64 0, .int .u64 0, .int .i64 0]) (by kernel_rfl) (by kernel_rfl) (by kernel_rfl)) ?_; clear h25
      rintro _ w29 a28 ⟨N30, rfl, hN33, hz34, hk32, hg31⟩ h28
      have hB35 := hb_new hB21 hg31
      have hz36 := hB35.size
      have hz37 := hg31.size
      have hk38 := hk22.kept hg31 (by simp)
      try dsimp only at h28
      refine pl_nil ?_
      refine co_then ?_
      refine co_seq ?_
      refine co_reg ?_
      refine pl_val (v := .agg #[.int .i64 0, .int .u64 0, .int .i64 0]) h28 rfl rfl rfl (by kernel_rfl) (by kernel_rfl) (rn_loadN rfl rfl Try.underlying40 rfl (by kernel_rfl) hk32.all) (fun a39 h39 => ?_); clear h28
      refine pl_doW h39 rfl rfl (op_storeN rfl rfl rfl (by kernel_rfl) (by kernel_rfl) hk38 rfl) ?_; clear h39
      rintro _ w41 a40 ⟨hk42, hz43, hg44⟩ h40
      have hk42' : Blk w41 N3 40 #[.int .i64 0, .int .u64 0, .int .i64 0] := hk42; clear hk42
      have hB45 := hb_at hB35 hg44 (by omega)
      have hz46 := hB45.size
      have hz47 := hg44.size
      have hk48 := hk32.kept hg44 (by simp; omega)
      refine pl_val (v := .bool false) h40 rfl rfl rfl (by kernel_rfl) (by kernel_rfl) (by kernel_rfl) (fun a49 h49 => ?_); clear h40
      refine pl_nil ?_
      refine co_then ?_
      refine wp_ret ?_
      refine co_retC1 (Q := fun _ _ _ => True) h49 rfl rfl rfl hk42' Try.underlying40 rfl (by kernel_rfl) ?_
      exact ⟨(0, 0, 0), false, rfl, .inr ⟨rfl, rfl, findP_none (i := i) (by assumption) (by omega)⟩, hB45⟩
    ·
      rw [hc26] at h25
      have hp50 : ((i : Nat) : Int) < ((l.length : Nat) : Int) := of_decide_eq_true hc26
      clear hc26
      refine co_true h25 rfl ?_
      refine wp_skip ?_
      refine co_then ?_
      refine co_seq ?_
      refine wp_block ?_
      refine co_seq ?_
      refine co_reg ?_
      obtain ⟨y51, hy51⟩ : ∃ z, l[i]? = some z := ⟨_, List.getElem?_eq_getElem (by first | omega | (simp; done) | (simp; omega))⟩
      refine pl_val (v := .pointer (some ⟨(blkOf v), offOf v + i * 3, none⟩)) h25 rfl rfl rfl (by kernel_rfl) (by kernel_rfl) (rn_index rfl rfl rfl Try.underlying47 Try.sizeOf40 (hs.below hB21) (by omega) (by first | omega | (simp; done) | (simp; omega))) (fun a52 h52 => ?_); clear h25
      refine pl_val (v := .agg #[.int .i64 y51.1, .int .u64 y51.2.1, .int .i64 y51.2.2]) h52 rfl rfl rfl (by kernel_rfl) (by kernel_rfl) (rn_loadN rfl rfl Try.underlying40 rfl (by kernel_rfl) (sl_at (hs.below hB21) hy51)) (fun a53 h53 => ?_); clear h52
      refine pl_want h53 rfl rfl rfl (op_new (v := fun N => .pointer (some ⟨N, 0, none⟩)) (T := 40) (cs := #[.int .i64 0, .int .u64 0, .int .i64 0]) (by kernel_rfl) (by kernel_rfl) (by kernel_rfl)) ?_; clear h53
      rintro _ w55 a54 ⟨N56, rfl, hN59, hz60, hk58, hg57⟩ h54
      have hB61 := hb_new hB21 hg57
      have hz62 := hB61.size
      have hz63 := hg57.size
      have hk64 := hk22.kept hg57 (by simp)
      try dsimp only at h54
      refine pl_doW h54 rfl rfl (op_storeN rfl rfl rfl (by kernel_rfl) (by kernel_rfl) hk58 rfl) ?_; clear h54
      rintro _ w66 a65 ⟨hk67, hz68, hg69⟩ h65
      have hk67' : Blk w66 N56 40 #[.int .i64 y51.1, .int .u64 y51.2.1, .int .i64 y51.2.2] := hk67; clear hk67
      have hB70 := hb_at hB61 hg69 (by omega)
      have hz71 := hB70.size
      have hz72 := hg69.size
      have hk73 := hk64.kept hg69 (by simp; omega)
      refine pl_nil ?_
      refine co_then ?_
      refine co_seq ?_
      refine co_reg ?_
      refine pl_val (v := .func (.func 78) #[] #[.pointer (some ⟨N, 0, none⟩)]) h65 rfl rfl rfl (by kernel_rfl) (by kernel_rfl) (by kernel_rfl) (fun a74 h74 => ?_); clear h65
      refine pl_val (v := .agg #[.int .i64 y51.1, .int .u64 y51.2.1, .int .i64 y51.2.2]) h74 rfl rfl rfl (by kernel_rfl) (by kernel_rfl) (rn_loadN rfl rfl Try.underlying40 rfl (by kernel_rfl) hk67'.all) (fun a75 h75 => ?_); clear h74
      refine pl_want h75 rfl rfl rfl (op_callV (args := #[.agg #[.int .i64 y51.1, .int .u64 y51.2.1, .int .i64 y51.2.2], .pointer (some ⟨N, 0, none⟩)]) (R := fun res xw => res = .bool (y51.1 == id) ∧ Below w66.heap.size w66 xw) rfl rfl rfl (by kernel_rfl) (by kernel_rfl) (Try.call78 _ _) (placeC_any y51 id N w66 (range_below hr hB70)) (by rintro e x ⟨rfl, hb78⟩; exact ⟨_, rfl, ⟨rfl, hb78⟩⟩)) ?_; clear h75
      rintro _ w77 a76 ⟨rfl, hb78⟩ h76
      have hB79 := hb_call hB70 hb78
      have hz80 := hB79.size
      have hz81 := hb78.size
      have hk82 := hk73.below hb78
      have hk83 := hk67'.below hb78
      refine pl_nil ?_
      refine co_then ?_
      cases hc84 : (y51.1 == id)
      ·
        rw [hc84] at h76
        have hp85 : ¬ (y51.1 = id) := by first | simpa using hc84 | simpa [and_assoc] using hc84
        clear hc84
        refine co_false h76 rfl ?_
        refine wp_skip ?_
        refine co_blockN ?_
        refine co_then ?_
        refine co_reg ?_
        refine pl_val (v := .int .i64 ((i + 1 : Nat) : Int)) h76 rfl rfl rfl (by kernel_rfl) (by kernel_rfl) (rn_arith' rfl rfl rfl rfl rfl rfl (IntWalk.i64_in _ (by omega)) (by omega)) (fun a86 h86 => ?_); clear h76
        refine pl_val (v := .int .i64 ((i + 1 : Nat) : Int)) h86 rfl rfl rfl (by kernel_rfl) (by kernel_rfl) (by kernel_rfl) (fun a87 h87 => ?_); clear h86
        refine pl_nil ?_
        refine co_then ?_
        refine ⟨(l.length - (i + 1)), by omega, ?_⟩
        exact ⟨i + 1, h87.sub ⟨rfl, rfl, rfl, rfl, rfl, rfl, rfl, trivial⟩, rfl, by omega, by first | (intro j hj; omega) | exact none_step (by assumption) (by assumption) (by omega), hB79, hk82⟩
      ·
        rw [hc84] at h76
        have hp88 : y51.1 = id := by first | simpa using hc84 | simpa [and_assoc] using hc84
        clear hc84
        refine co_true h76 rfl ?_
        refine co_seq ?_
        refine co_reg ?_
        refine pl_val (v := .agg #[.int .i64 y51.1, .int .u64 y51.2.1, .int .i64 y51.2.2]) h76 rfl rfl rfl (by kernel_rfl) (by kernel_rfl) (rn_loadN rfl rfl Try.underlying40 rfl (by kernel_rfl) hk83.all) (fun a89 h89 => ?_); clear h76
        refine pl_doW h89 rfl rfl (op_storeN rfl rfl rfl (by kernel_rfl) (by kernel_rfl) hk82 rfl) ?_; clear h89
        rintro _ w91 a90 ⟨hk92, hz93, hg94⟩ h90
        have hk92' : Blk w91 N3 40 #[.int .i64 y51.1, .int .u64 y51.2.1, .int .i64 y51.2.2] := hk92; clear hk92
        have hB95 := hb_at hB79 hg94 (by omega)
        have hz96 := hB95.size
        have hz97 := hg94.size
        have hk98 := hk83.kept hg94 (by simp; omega)
        refine pl_val (v := .bool true) h90 rfl rfl rfl (by kernel_rfl) (by kernel_rfl) (by kernel_rfl) (fun a99 h99 => ?_); clear h90
        refine pl_nil ?_
        refine co_then ?_
        refine wp_ret ?_
        refine co_blockR ?_
        refine co_thenR ?_
        refine co_thenR ?_
        refine co_blockR ?_
        refine co_thenR ?_
        refine co_retC1 (Q := fun _ _ _ => True) h99 rfl rfl rfl hk92' Try.underlying40 rfl (by kernel_rfl) ?_
        exact ⟨y51, true, rfl, .inl ⟨rfl, i, by assumption, by assumption, by assumption⟩, hB95⟩
set_option maxRecDepth 100000 in
theorem place_any (v : Value) (l : List PinT) (id : Int) (w : World) (hs : SliceOf pinE 3 w v l) :
    Calls Try.prog 54 #[v, .int .i64 id] w fun e w' => e = .returned (.int .i64 (findP l id)) ∧ Below w.heap.size w w' := by
  have hB0 := Below.refl w.heap.size w
  have hl_hs := sl_len hs
  refine co_enter (n := 18) Try.func54 rfl rfl rfl [(0, v), (1, .int .i64 id)] rfl (fun a h0 => ?_)
  refine co_seq ?_
  refine co_reg ?_
  refine pl_want h0 rfl rfl rfl (op_new (v := fun N => .pointer (some ⟨N, 0, none⟩)) (T := 3) (cs := #[.int .i64 id]) (by kernel_rfl) (by kernel_rfl) (by kernel_rfl)) ?_; clear h0
  rintro _ w2 a1 ⟨N3, rfl, hN6, hz7, hk5, hg4⟩ h1
  have hB8 := hb_new hB0 hg4
  have hz9 := hB8.size
  have hz10 := hg4.size
  try dsimp only at h1
  refine pl_val (v := .int .i64 0) h1 rfl rfl rfl (by kernel_rfl) (by kernel_rfl) (by kernel_rfl) (fun a11 h11 => ?_); clear h1
  refine pl_nil ?_
  refine co_then ?_
  refine co_seq ?_
  refine co_reg ?_
  refine pl_val (v := v) h11 rfl rfl rfl (by kernel_rfl) (by kernel_rfl) (by kernel_rfl) (fun a12 h12 => ?_); clear h11
  refine pl_val (v := .func (.func 78) #[] #[.pointer (some ⟨N3, 0, none⟩)]) h12 rfl rfl rfl (by kernel_rfl) (by kernel_rfl) (by kernel_rfl) (fun a13 h13 => ?_); clear h12
  refine pl_want h13 rfl rfl rfl (op_call (args := #[v, .func (.func 78) #[] #[.pointer (some ⟨N3, 0, none⟩)]]) (R := fun res xw => ∃ p : PinT, ∃ b : Bool, res = .tuple #[.agg #[.int .i64 p.1, .int .u64 p.2.1, .int .i64 p.2.2], .bool b] ∧ FirstP l id p b ∧ Below w2.heap.size w2 xw) rfl rfl rfl (by kernel_rfl) (by kernel_rfl) (Try.call77 _ _) (firstPin_any v l id N3 w2 (hs.below hB8) (blk_part hk5 0 rfl)) (by rintro e x ⟨p, b, rfl, hq18, hb19⟩; exact ⟨_, rfl, ⟨p, b, rfl, hq18, hb19⟩⟩)) ?_; clear h13
  rintro _ w15 a14 ⟨p16, b17, rfl, hq18, hb19⟩ h14
  have hB20 := hb_call hB8 hb19
  have hz21 := hB20.size
  have hz22 := hb19.size
  have hk23 := hk5.below hb19
  refine pl_val (v := .tuple #[.agg #[.int .i64 p16.1, .int .u64 p16.2.1, .int .i64 p16.2.2], .bool b17]) h14 rfl rfl rfl (by kernel_rfl) (by kernel_rfl) (by kernel_rfl) (fun a24 h24 => ?_); clear h14
  refine pl_val (v := .agg #[.int .i64 p16.1, .int .u64 p16.2.1, .int .i64 p16.2.2]) h24 rfl rfl rfl (by kernel_rfl) (by kernel_rfl) (by kernel_rfl) (fun a25 h25 => ?_); clear h24
  refine pl_val (v := .bool b17) h25 rfl rfl rfl (by kernel_rfl) (by kernel_rfl) (by kernel_rfl) (fun a26 h26 => ?_); clear h25
  refine pl_want h26 rfl rfl rfl (op_new (v := fun N => .pointer (some ⟨N, 0, none⟩)) (T := 40) (cs := #[.int .i64 0, .int .u64 0, .int .i64 0]) (by kernel_rfl) (by kernel_rfl) (by kernel_rfl)) ?_; clear h26
  rintro _ w28 a27 ⟨N29, rfl, hN32, hz33, hk31, hg30⟩ h27
  have hB34 := hb_new hB20 hg30
  have hz35 := hB34.size
  have hz36 := hg30.size
  have hk37 := hk23.kept hg30 (by simp)
  try dsimp only at h27
  refine pl_doW h27 rfl rfl (op_storeN rfl rfl rfl (by kernel_rfl) (by kernel_rfl) hk31 rfl) ?_; clear h27
  rintro _ w39 a38 ⟨hk40, hz41, hg42⟩ h38
  have hk40' : Blk w39 N29 40 #[.int .i64 p16.1, .int .u64 p16.2.1, .int .i64 p16.2.2] := hk40; clear hk40
  have hB43 := hb_at hB34 hg42 (by omega)
  have hz44 := hB43.size
  have hz45 := hg42.size
  have hk46 := hk37.kept hg42 (by simp; omega)
  refine pl_val (v := .bool b17) h38 rfl rfl rfl (by kernel_rfl) (by kernel_rfl) (by kernel_rfl) (fun a47 h47 => ?_); clear h38
  refine pl_nil ?_
  refine co_then ?_
  refine co_seq ?_
  refine co_seq ?_
  refine co_reg ?_
  refine pl_val (v := .bool b17) h47 rfl rfl rfl (by kernel_rfl) (by kernel_rfl) (by kernel_rfl) (fun a48 h48 => ?_); clear h47
  cases hc49 : (b17)
  ·
    rw [hc49] at h48
    refine pl_val (v := .bool true) h48 rfl rfl rfl (by kernel_rfl) (by kernel_rfl) (by kernel_rfl) (fun a50 h50 => ?_); clear h48
    refine pl_nil ?_
    refine co_then ?_
    refine co_true h50 rfl ?_
    refine co_seq ?_
    refine co_reg ?_
    refine pl_val (v := .int .i64 (-1)) h50 rfl rfl rfl (by kernel_rfl) (by kernel_rfl) (by kernel_rfl) (fun a51 h51 => ?_); clear h50
    refine pl_nil ?_
    refine co_then ?_
    refine wp_ret ?_
    refine co_thenR ?_
    refine co_ret1 h51 rfl rfl ?_
    rcases hq18 with ⟨hb0, _⟩ | ⟨_, _, hf0⟩
    · rw [hb0] at hc49; cases hc49
    · exact ⟨ret_int hf0.symm, hB43⟩
  ·
    rw [hc49] at h48
    refine pl_val (v := .bool false) h48 rfl rfl rfl (by kernel_rfl) (by kernel_rfl) (by kernel_rfl) (fun a52 h52 => ?_); clear h48
    refine pl_nil ?_
    refine co_then ?_
    refine co_false h52 rfl ?_
    refine wp_skip ?_
    refine co_then ?_
    refine co_seq ?_
    refine co_reg ?_
    refine pl_val (v := v) h52 rfl rfl rfl (by kernel_rfl) (by kernel_rfl) (by kernel_rfl) (fun a53 h53 => ?_); clear h52
    refine pl_val (v := .agg #[.int .i64 p16.1, .int .u64 p16.2.1, .int .i64 p16.2.2]) h53 rfl rfl rfl (by kernel_rfl) (by kernel_rfl) (rn_loadN rfl rfl Try.underlying40 rfl (by kernel_rfl) hk40'.all) (fun a54 h54 => ?_); clear h53
    rcases hq18 with ⟨_, i0, hi0, hp0, hn0⟩ | ⟨hb0, _⟩
    rotate_left
    · rw [hb0] at hc49; cases hc49
    refine pl_want h54 rfl rfl rfl (op_call (args := #[v, .agg #[.int .i64 p16.1, .int .u64 p16.2.1, .int .i64 p16.2.2]]) (R := fun res xw => res = .int .i64 ((i0 : Nat) : Int) ∧ Below w39.heap.size w39 xw) rfl rfl rfl (by kernel_rfl) (by kernel_rfl) (Try.call79 _ _) (indexPin_any v l p16 i0 w39 (hs.below hB43) hi0 (by rw [hp0]; exact hn0)) (by rintro e x ⟨rfl, hb57⟩; exact ⟨_, rfl, ⟨rfl, hb57⟩⟩)) ?_; clear h54
    rintro _ w56 a55 ⟨rfl, hb57⟩ h55
    have hB58 := hb_call hB43 hb57
    have hz59 := hB58.size
    have hz60 := hb57.size
    have hk61 := hk46.below hb57
    have hk62 := hk40'.below hb57
    refine pl_val (v := .int .i64 ((i0 : Nat) : Int)) h55 rfl rfl rfl (by kernel_rfl) (by kernel_rfl) (by kernel_rfl) (fun a63 h63 => ?_); clear h55
    refine pl_nil ?_
    refine co_then ?_
    refine wp_ret ?_
    refine co_ret1 h63 rfl rfl ?_
    exact ⟨ret_int (by rw [findP_at hn0 hi0 hp0]), hB58⟩
end Go.Proofs.Ytnjbnndpbegkdaa

/- Package lease: Grant, Renew. Conditions: at most 1000 pins. -/
namespace Go.Proofs.Ytnjbnndpbegkdaa
open Go.RowKit Go.PlainAid
set_option linter.unusedVariables false


theorem grant_full {l : List PinT} {id ts : Int} (h : (l.length : Int) ≥ 3) : grantP l id ts = ([], 17) := by unfold grantP; rw [if_pos h]
theorem grant_arg {l : List PinT} {id ts : Int} (h : ¬ (l.length : Int) ≥ 3) (h1 : id < 1 ∨ id > 1073741824) : grantP l id ts = ([], 1) := by unfold grantP; rw [if_neg h, if_pos h1]
theorem grant_ord {l : List PinT} {id ts : Int} {j : Nat} {y : PinT} (h : ¬ (l.length : Int) ≥ 3) (h1 : ¬ (id < 1 ∨ id > 1073741824)) (hy : l[j]? = some y) (hj : j = l.length - 1) (h2 : id ≤ y.1) : grantP l id ts = ([], 18) := by
  subst hj
  have := (List.getElem?_eq_some_iff.1 hy).1
  unfold grantP; rw [if_neg h, if_neg h1, if_pos ⟨by omega, by rw [getD_of hy]; exact h2⟩]
theorem grant_ok {l : List PinT} {id ts : Int} {j : Nat} {y : PinT} (h : ¬ (l.length : Int) ≥ 3) (h1 : ¬ (id < 1 ∨ id > 1073741824)) (hy : l[j]? = some y) (hj : j = l.length - 1) (h2 : ¬ id ≤ y.1) : grantP l id ts = (l ++ [(id, ts, 8)], 0) := by
  subst hj
  unfold grantP; rw [if_neg h, if_neg h1, if_neg (fun q => h2 (by rw [← getD_of hy]; exact q.2))]
theorem grant_ok0 {l : List PinT} {id ts : Int} (h : ¬ (l.length : Int) ≥ 3) (h1 : ¬ (id < 1 ∨ id > 1073741824)) (h0 : l.length = 0) : grantP l id ts = (l ++ [(id, ts, 8)], 0) := by
  unfold grantP; rw [if_neg h, if_neg h1, if_neg (by omega)]
theorem renew_no {l : List PinT} {id : Int} (h : findP l id < 0) : renewP l id = ([], 7) := by unfold renewP; rw [if_pos h]
theorem renew_ok {l : List PinT} {id : Int} {j : Nat} {y : PinT} (h : ¬ findP l id < 0) (hj : j = (findP l id).toNat) (hy : l[j]? = some y) : renewP l id = (l.set j (y.1, y.2.1, 8), 0) := by
  subst hj; unfold renewP; rw [if_neg h, getD_of hy]
theorem free_no {l : List PinT} {id : Int} (h : findP l id < 0) : freeP l id = ([], 7) := by unfold freeP; rw [if_pos h]
theorem free_ok {l : List PinT} {id : Int} {j : Nat} (h : ¬ findP l id < 0) (hj : j = (findP l id).toNat) : freeP l id = (l.take j ++ l.drop (j + 1), 0) := by subst hj; unfold freeP; rw [if_neg h]
set_option maxRecDepth 100000 in
theorem leaseGrant_any (v : Value) (l : List PinT) (id : Int) (ts : Int) (l2 : List PinT) (r : Int) (w : World) (hs : SliceOf pinE 3 w v l) (hlen : l.length ≤ 1000) (hg : grantP l id ts = (l2, r)) :
    Calls Try.prog 53 #[v, .int .i64 id, .int .u64 ts] w fun e w' => ∃ (u : Value), e = .returned (.tuple #[u, .int .i64 r]) ∧ w'.ownsRow w.heap.size 40 3 u l2.length (l2.flatMap pinE) ∧ Below w.heap.size w w' := by
  have hB0 := Below.refl w.heap.size w
  have hl_hs := sl_len hs
  refine co_enter (n := 38) Try.func53 rfl rfl rfl [(0, v), (1, .int .i64 id), (2, .int .u64 ts)] rfl (fun a h0 => ?_)
  refine co_seq ?_
  refine co_reg ?_
  refine pl_val (v := .slice none 0 0) h0 rfl rfl rfl (by kernel_rfl) (by kernel_rfl) (by kernel_rfl) (fun a1 h1 => ?_); clear h0
  refine pl_val (v := .int .i64 0) h1 rfl rfl rfl (by kernel_rfl) (by kernel_rfl) (by kernel_rfl) (fun a2 h2 => ?_); clear h1
  refine pl_nil ?_
  refine co_then ?_
  refine co_seq ?_
  refine co_seq ?_
  refine co_reg ?_
  refine pl_val (v := v) h2 rfl rfl rfl (by kernel_rfl) (by kernel_rfl) (by kernel_rfl) (fun a3 h3 => ?_); clear h2
  refine pl_val (v := .int .i64 ((l.length : Nat) : Int)) h3 rfl rfl rfl (by kernel_rfl) (by kernel_rfl) (rn_len rfl rfl Try.underlying47 hs) (fun a4 h4 => ?_); clear h3
  refine pl_val (v := .bool (decide (((l.length : Nat) : Int) ≥ 3))) h4 rfl rfl rfl (by kernel_rfl) (by kernel_rfl) (by kernel_rfl) (fun a5 h5 => ?_); clear h4
  refine pl_nil ?_
  refine co_then ?_
  cases hc6 : (decide (((l.length : Nat) : Int) ≥ 3))
  ·
    rw [hc6] at h5
    have hp7 : ¬ (((l.length : Nat) : Int) ≥ 3) := of_decide_eq_false hc6
    clear hc6
    refine co_false h5 rfl ?_
    refine wp_skip ?_
    refine co_then ?_
    refine co_seq ?_
    refine co_seq ?_
    refine co_reg ?_
    refine pl_val (v := .int .i64 id) h5 rfl rfl rfl (by kernel_rfl) (by kernel_rfl) (by kernel_rfl) (fun a8 h8 => ?_); clear h5
    refine pl_val (v := .bool (decide (id < 1))) h8 rfl rfl rfl (by kernel_rfl) (by kernel_rfl) (by kernel_rfl) (fun a9 h9 => ?_); clear h8
    refine pl_val (v := .bool (decide (id < 1))) h9 rfl rfl rfl (by kernel_rfl) (by kernel_rfl) (by kernel_rfl) (fun a10 h10 => ?_); clear h9
    cases hc11 : (decide (id < 1))
    ·
      rw [hc11] at h10
      have hp12 : ¬ (id < 1) := of_decide_eq_false hc11
      clear hc11
      refine pl_val (v := .int .i64 id) h10 rfl rfl rfl (by kernel_rfl) (by kernel_rfl) (by kernel_rfl) (fun a13 h13 => ?_); clear h10
      refine pl_val (v := .bool (decide (id > 1073741824))) h13 rfl rfl rfl (by kernel_rfl) (by kernel_rfl) (by kernel_rfl) (fun a14 h14 => ?_); clear h13
      refine pl_val (v := .bool (decide (id > 1073741824))) h14 rfl rfl rfl (by kernel_rfl) (by kernel_rfl) (by kernel_rfl) (fun a15 h15 => ?_); clear h14
      refine pl_nil ?_
      refine co_then ?_
      cases hc16 : (decide (id > 1073741824))
      ·
        rw [hc16] at h15
        have hp17 : ¬ (id > 1073741824) := of_decide_eq_false hc16
        clear hc16
        refine co_false h15 rfl ?_
        refine wp_skip ?_
        refine co_then ?_
        refine co_seq ?_
        refine co_seq ?_
        refine co_reg ?_
        refine pl_val (v := v) h15 rfl rfl rfl (by kernel_rfl) (by kernel_rfl) (by kernel_rfl) (fun a18 h18 => ?_); clear h15
        refine pl_val (v := .int .i64 ((l.length : Nat) : Int)) h18 rfl rfl rfl (by kernel_rfl) (by kernel_rfl) (rn_len rfl rfl Try.underlying47 hs) (fun a19 h19 => ?_); clear h18
        refine pl_val (v := .bool (decide (((l.length : Nat) : Int) > 0))) h19 rfl rfl rfl (by kernel_rfl) (by kernel_rfl) (by kernel_rfl) (fun a20 h20 => ?_); clear h19
        refine pl_val (v := .bool (decide (((l.length : Nat) : Int) > 0))) h20 rfl rfl rfl (by kernel_rfl) (by kernel_rfl) (by kernel_rfl) (fun a21 h21 => ?_); clear h20
        cases hc22 : (decide (((l.length : Nat) : Int) > 0))
        ·
          rw [hc22] at h21
          have hp23 : ¬ (((l.length : Nat) : Int) > 0) := of_decide_eq_false hc22
          clear hc22
          refine pl_skip h21 rfl rfl rfl (fun a24 h24 => ?_); clear h21
          refine pl_skip h24 rfl rfl rfl (fun a25 h25 => ?_); clear h24
          refine pl_skip h25 rfl rfl rfl (fun a26 h26 => ?_); clear h25
          refine pl_skip h26 rfl rfl rfl (fun a27 h27 => ?_); clear h26
          refine pl_skip h27 rfl rfl rfl (fun a28 h28 => ?_); clear h27
          refine pl_skip h28 rfl rfl rfl (fun a29 h29 => ?_); clear h28
          refine pl_skip h29 rfl rfl rfl (fun a30 h30 => ?_); clear h29
          refine pl_skip h30 rfl rfl rfl (fun a31 h31 => ?_); clear h30
          refine pl_skip h31 rfl rfl rfl (fun a32 h32 => ?_); clear h31
          refine pl_val (v := .bool false) h32 rfl rfl rfl (by kernel_rfl) (by kernel_rfl) (by kernel_rfl) (fun a33 h33 => ?_); clear h32
          refine pl_nil ?_
          refine co_then ?_
          refine co_false h33 rfl ?_
          refine wp_skip ?_
          refine co_then ?_
          refine co_seq ?_
          refine co_reg ?_
          refine pl_val (v := v) h33 rfl rfl rfl (by kernel_rfl) (by kernel_rfl) (by kernel_rfl) (fun a34 h34 => ?_); clear h33
          refine pl_want h34 rfl rfl rfl (op_call (args := #[v]) (R := fun res xw => ∃ u : Value, res = u ∧ xw.ownsRow w.heap.size 40 3 u l.length (l.flatMap pinE) ∧ Below w.heap.size w xw) rfl rfl rfl (by kernel_rfl) (by kernel_rfl) (Try.call38 _ _) (clonePin_any v l w hs (by first | omega | (simp; done) | (simp; omega))) (by rintro e x ⟨u, rfl, hq38, hb39⟩; exact ⟨_, rfl, ⟨u, rfl, hq38, hb39⟩⟩)) ?_; clear h34
          rintro u37 w36 a35 ⟨_, rfl, hq38, hb39⟩ h35
          have hB40 := hb_call hB0 hb39
          have hz41 := hB40.size
          have hz42 := hb39.size
          have hl43 := sl_len (row_sl hq38 pinE_len)
          refine pl_val (v := .int .i64 id) h35 rfl rfl rfl (by kernel_rfl) (by kernel_rfl) (by kernel_rfl) (fun a44 h44 => ?_); clear h35
          refine pl_val (v := .int .u64 ts) h44 rfl rfl rfl (by kernel_rfl) (by kernel_rfl) (by kernel_rfl) (fun a45 h45 => ?_); clear h44
          refine pl_val (v := .agg #[.int .i64 id, .int .u64 ts, .int .i64 8]) h45 rfl rfl rfl (by kernel_rfl) (by kernel_rfl) (by kernel_rfl) (fun a46 h46 => ?_); clear h45
          refine pl_want h46 rfl rfl rfl (op_new (v := fun N => .slice (some ⟨N, 0, none⟩) 1 1) (T := 40) (cs := #[.int .i64 id, .int .u64 ts, .int .i64 8]) (by kernel_rfl) (by kernel_rfl) (by kernel_rfl)) ?_; clear h46
          rintro _ w48 a47 ⟨N49, rfl, hN52, hz53, hk51, hg50⟩ h47
          have ha54 := row_fresh hq38 hN52
          have hB55 := hb_new hB40 hg50
          have hz56 := hB55.size
          have hz57 := hg50.size
          have hr58 := row_kept_new hq38 hg50
          try dsimp only at h47
          refine pl_want h47 rfl rfl rfl (op_append rfl w.heap.size 40 (z := .agg #[.int .i64 0, .int .u64 0, .int .i64 0]) (size := 3) (bytes := 24) Try.underlying47 (by kernel_rfl) rfl rfl rfl hr58 rfl hk51 rfl (by kernel_rfl) (by first | omega | (simp only [List.length_nil, List.length_append, List.length_cons, List.length_take, List.length_drop]; omega)) (by first | omega | (simp only [List.length_nil, List.length_append, List.length_cons, List.length_take, List.length_drop]; omega)) (by omega)) ?_; clear h47
          rintro v61 w60 a59 ⟨hr62, hg63⟩ h59
          have hr62' : w60.ownsRow w.heap.size 40 3 v61 ((l ++ [(id, ts, 8)]).length) ((l ++ [(id, ts, 8)]).flatMap pinE) := row_push (y := (id, ts, 8)) hr62 rfl rfl; clear hr62
          have hB64 := hb_row hB55 hr58 (by omega) hg63
          have hz65 := hB64.size
          have hz66 := hg63.size
          have hk67 := hk51.kept hg63 (ha54)
          refine pl_val (v := v61) h59 rfl rfl rfl (by kernel_rfl) (by kernel_rfl) (by kernel_rfl) (fun a68 h68 => ?_); clear h59
          refine pl_val (v := .int .i64 0) h68 rfl rfl rfl (by kernel_rfl) (by kernel_rfl) (by kernel_rfl) (fun a69 h69 => ?_); clear h68
          refine pl_nil ?_
          refine co_then ?_
          refine wp_ret ?_
          refine co_ret2 h69 rfl rfl rfl ?_
          cases hg.symm.trans (grant_ok0 (by omega) (by omega) (by omega))
          exact ⟨_, rfl, (row_lows hr62' (by omega)), hB64⟩
        ·
          rw [hc22] at h21
          have hp70 : ((l.length : Nat) : Int) > 0 := of_decide_eq_true hc22
          clear hc22
          refine pl_val (v := v) h21 rfl rfl rfl (by kernel_rfl) (by kernel_rfl) (by kernel_rfl) (fun a71 h71 => ?_); clear h21
          refine pl_val (v := v) h71 rfl rfl rfl (by kernel_rfl) (by kernel_rfl) (by kernel_rfl) (fun a72 h72 => ?_); clear h71
          refine pl_val (v := .int .i64 ((l.length : Nat) : Int)) h72 rfl rfl rfl (by kernel_rfl) (by kernel_rfl) (rn_len rfl rfl Try.underlying47 hs) (fun a73 h73 => ?_); clear h72
          refine pl_val (v := .int .i64 (((l.length : Nat) : Int) - 1)) h73 rfl rfl rfl (by kernel_rfl) (by kernel_rfl) (rn_arith rfl rfl rfl rfl rfl rfl (IntWalk.i64_in _ (by omega))) (fun a74 h74 => ?_); clear h73
          obtain ⟨y75, hy75⟩ : ∃ z, l[(((l.length : Nat) : Int) - 1).toNat]? = some z := ⟨_, List.getElem?_eq_getElem (by first | omega | (simp; done) | (simp; omega))⟩
          refine pl_val (v := .pointer (some ⟨(blkOf v), offOf v + ((((l.length : Nat) : Int) - 1).toNat) * 3, none⟩)) h74 rfl rfl rfl (by kernel_rfl) (by kernel_rfl) (rn_index rfl rfl rfl Try.underlying47 Try.sizeOf40 hs (by omega) (by first | omega | (simp; done) | (simp; omega))) (fun a76 h76 => ?_); clear h74
          refine pl_val (v := .pointer (some ⟨(blkOf v), offOf v + ((((l.length : Nat) : Int) - 1).toNat) * 3, none⟩)) h76 rfl rfl rfl (by kernel_rfl) (by kernel_rfl) (by kernel_rfl) (fun a77 h77 => ?_); clear h76
          refine pl_val (v := .int .i64 y75.1) h77 rfl rfl rfl (by kernel_rfl) (by kernel_rfl) (rn_load1 rfl rfl Try.isAgg3 ((sl_at hs hy75) 0 _ rfl)) (fun a78 h78 => ?_); clear h77
          refine pl_val (v := .int .i64 id) h78 rfl rfl rfl (by kernel_rfl) (by kernel_rfl) (by kernel_rfl) (fun a79 h79 => ?_); clear h78
          refine pl_val (v := .bool (decide (y75.1 ≥ id))) h79 rfl rfl rfl (by kernel_rfl) (by kernel_rfl) (by kernel_rfl) (fun a80 h80 => ?_); clear h79
          refine pl_val (v := .bool (decide (y75.1 ≥ id))) h80 rfl rfl rfl (by kernel_rfl) (by kernel_rfl) (by kernel_rfl) (fun a81 h81 => ?_); clear h80
          refine pl_nil ?_
          refine co_then ?_
          cases hc82 : (decide (y75.1 ≥ id))
          ·
            rw [hc82] at h81
            have hp83 : ¬ (y75.1 ≥ id) := of_decide_eq_false hc82
            clear hc82
            refine co_false h81 rfl ?_
            refine wp_skip ?_
            refine co_then ?_
            refine co_seq ?_
            refine co_reg ?_
            refine pl_val (v := v) h81 rfl rfl rfl (by kernel_rfl) (by kernel_rfl) (by kernel_rfl) (fun a84 h84 => ?_); clear h81
            refine pl_want h84 rfl rfl rfl (op_call (args := #[v]) (R := fun res xw => ∃ u : Value, res = u ∧ xw.ownsRow w.heap.size 40 3 u l.length (l.flatMap pinE) ∧ Below w.heap.size w xw) rfl rfl rfl (by kernel_rfl) (by kernel_rfl) (Try.call38 _ _) (clonePin_any v l w hs (by first | omega | (simp; done) | (simp; omega))) (by rintro e x ⟨u, rfl, hq88, hb89⟩; exact ⟨_, rfl, ⟨u, rfl, hq88, hb89⟩⟩)) ?_; clear h84
            rintro u87 w86 a85 ⟨_, rfl, hq88, hb89⟩ h85
            have hB90 := hb_call hB0 hb89
            have hz91 := hB90.size
            have hz92 := hb89.size
            have hl93 := sl_len (row_sl hq88 pinE_len)
            refine pl_val (v := .int .i64 id) h85 rfl rfl rfl (by kernel_rfl) (by kernel_rfl) (by kernel_rfl) (fun a94 h94 => ?_); clear h85
            refine pl_val (v := .int .u64 ts) h94 rfl rfl rfl (by kernel_rfl) (by kernel_rfl) (by kernel_rfl) (fun a95 h95 => ?_); clear h94
            refine pl_val (v := .agg #[.int .i64 id, .int .u64 ts, .int .i64 8]) h95 rfl rfl rfl (by kernel_rfl) (by kernel_rfl) (by kernel_rfl) (fun a96 h96 => ?_); clear h95
            refine pl_want h96 rfl rfl rfl (op_new (v := fun N => .slice (some ⟨N, 0, none⟩) 1 1) (T := 40) (cs := #[.int .i64 id, .int .u64 ts, .int .i64 8]) (by kernel_rfl) (by kernel_rfl) (by kernel_rfl)) ?_; clear h96
            rintro _ w98 a97 ⟨N99, rfl, hN102, hz103, hk101, hg100⟩ h97
            have ha104 := row_fresh hq88 hN102
            have hB105 := hb_new hB90 hg100
            have hz106 := hB105.size
            have hz107 := hg100.size
            have hr108 := row_kept_new hq88 hg100
            try dsimp only at h97
            refine pl_want h97 rfl rfl rfl (op_append rfl w.heap.size 40 (z := .agg #[.int .i64 0, .int .u64 0, .int .i64 0]) (size := 3) (bytes := 24) Try.underlying47 (by kernel_rfl) rfl rfl rfl hr108 rfl hk101 rfl (by kernel_rfl) (by first | omega | (simp only [List.length_nil, List.length_append, List.length_cons, List.length_take, List.length_drop]; omega)) (by first | omega | (simp only [List.length_nil, List.length_append, List.length_cons, List.length_take, List.length_drop]; omega)) (by omega)) ?_; clear h97
            rintro v111 w110 a109 ⟨hr112, hg113⟩ h109
            have hr112' : w110.ownsRow w.heap.size 40 3 v111 ((l ++ [(id, ts, 8)]).length) ((l ++ [(id, ts, 8)]).flatMap pinE) := row_push (y := (id, ts, 8)) hr112 rfl rfl; clear hr112
            have hB114 := hb_row hB105 hr108 (by omega) hg113
            have hz115 := hB114.size
            have hz116 := hg113.size
            have hk117 := hk101.kept hg113 (ha104)
            refine pl_val (v := v111) h109 rfl rfl rfl (by kernel_rfl) (by kernel_rfl) (by kernel_rfl) (fun a118 h118 => ?_); clear h109
            refine pl_val (v := .int .i64 0) h118 rfl rfl rfl (by kernel_rfl) (by kernel_rfl) (by kernel_rfl) (fun a119 h119 => ?_); clear h118
            refine pl_nil ?_
            refine co_then ?_
            refine wp_ret ?_
            refine co_ret2 h119 rfl rfl rfl ?_
            cases hg.symm.trans (grant_ok (by omega) (by omega) hy75 (by omega) (by omega))
            exact ⟨_, rfl, (row_lows hr112' (by omega)), hB114⟩
          ·
            rw [hc82] at h81
            have hp120 : y75.1 ≥ id := of_decide_eq_true hc82
            clear hc82
            refine co_true h81 rfl ?_
            refine co_seq ?_
            refine co_reg ?_
            refine pl_val (v := .slice none 0 0) h81 rfl rfl rfl (by kernel_rfl) (by kernel_rfl) (by kernel_rfl) (fun a121 h121 => ?_); clear h81
            refine pl_val (v := .int .i64 18) h121 rfl rfl rfl (by kernel_rfl) (by kernel_rfl) (by kernel_rfl) (fun a122 h122 => ?_); clear h121
            refine pl_nil ?_
            refine co_then ?_
            refine wp_ret ?_
            refine co_thenR ?_
            refine co_ret2 h122 rfl rfl rfl ?_
            cases hg.symm.trans (grant_ord (by omega) (by omega) hy75 (by omega) (by omega))
            exact ⟨_, rfl, (row_nilL _ _ _ _ _), hB0⟩
      ·
        rw [hc16] at h15
        have hp123 : id > 1073741824 := of_decide_eq_true hc16
        clear hc16
        refine co_true h15 rfl ?_
        refine co_seq ?_
        refine co_reg ?_
        refine pl_val (v := .slice none 0 0) h15 rfl rfl rfl (by kernel_rfl) (by kernel_rfl) (by kernel_rfl) (fun a124 h124 => ?_); clear h15
        refine pl_val (v := .int .i64 1) h124 rfl rfl rfl (by kernel_rfl) (by kernel_rfl) (by kernel_rfl) (fun a125 h125 => ?_); clear h124
        refine pl_nil ?_
        refine co_then ?_
        refine wp_ret ?_
        refine co_thenR ?_
        refine co_ret2 h125 rfl rfl rfl ?_
        cases hg.symm.trans (grant_arg (by omega) (by omega))
        exact ⟨_, rfl, (row_nilL _ _ _ _ _), hB0⟩
    ·
      rw [hc11] at h10
      have hp126 : id < 1 := of_decide_eq_true hc11
      clear hc11
      refine pl_skip h10 rfl rfl rfl (fun a127 h127 => ?_); clear h10
      refine pl_skip h127 rfl rfl rfl (fun a128 h128 => ?_); clear h127
      refine pl_val (v := .bool true) h128 rfl rfl rfl (by kernel_rfl) (by kernel_rfl) (by kernel_rfl) (fun a129 h129 => ?_); clear h128
      refine pl_nil ?_
      refine co_then ?_
      refine co_true h129 rfl ?_
      refine co_seq ?_
      refine co_reg ?_
      refine pl_val (v := .slice none 0 0) h129 rfl rfl rfl (by kernel_rfl) (by kernel_rfl) (by kernel_rfl) (fun a130 h130 => ?_); clear h129
      refine pl_val (v := .int .i64 1) h130 rfl rfl rfl (by kernel_rfl) (by kernel_rfl) (by kernel_rfl) (fun a131 h131 => ?_); clear h130
      refine pl_nil ?_
      refine co_then ?_
      refine wp_ret ?_
      refine co_thenR ?_
      refine co_ret2 h131 rfl rfl rfl ?_
      cases hg.symm.trans (grant_arg (by omega) (by omega))
      exact ⟨_, rfl, (row_nilL _ _ _ _ _), hB0⟩
  ·
    rw [hc6] at h5
    have hp132 : ((l.length : Nat) : Int) ≥ 3 := of_decide_eq_true hc6
    clear hc6
    refine co_true h5 rfl ?_
    refine co_seq ?_
    refine co_reg ?_
    refine pl_val (v := .slice none 0 0) h5 rfl rfl rfl (by kernel_rfl) (by kernel_rfl) (by kernel_rfl) (fun a133 h133 => ?_); clear h5
    refine pl_val (v := .int .i64 17) h133 rfl rfl rfl (by kernel_rfl) (by kernel_rfl) (by kernel_rfl) (fun a134 h134 => ?_); clear h133
    refine pl_nil ?_
    refine co_then ?_
    refine wp_ret ?_
    refine co_thenR ?_
    refine co_ret2 h134 rfl rfl rfl ?_
    cases hg.symm.trans (grant_full (by omega))
    exact ⟨_, rfl, (row_nilL _ _ _ _ _), hB0⟩
set_option maxRecDepth 100000 in
theorem leaseRenew_any (v : Value) (l : List PinT) (id : Int) (l2 : List PinT) (r : Int) (w : World) (hs : SliceOf pinE 3 w v l) (hlen : l.length ≤ 1000) (hg : renewP l id = (l2, r)) :
    Calls Try.prog 52 #[v, .int .i64 id] w fun e w' => ∃ (u : Value), e = .returned (.tuple #[u, .int .i64 r]) ∧ w'.ownsRow w.heap.size 40 3 u l2.length (l2.flatMap pinE) ∧ Below w.heap.size w w' := by
  have hfl := findP_lt l id
  have hB0 := Below.refl w.heap.size w
  have hl_hs := sl_len hs
  refine co_enter (n := 20) Try.func52 rfl rfl rfl [(0, v), (1, .int .i64 id)] rfl (fun a h0 => ?_)
  refine co_seq ?_
  refine co_reg ?_
  refine pl_val (v := .slice none 0 0) h0 rfl rfl rfl (by kernel_rfl) (by kernel_rfl) (by kernel_rfl) (fun a1 h1 => ?_); clear h0
  refine pl_val (v := .int .i64 0) h1 rfl rfl rfl (by kernel_rfl) (by kernel_rfl) (by kernel_rfl) (fun a2 h2 => ?_); clear h1
  refine pl_nil ?_
  refine co_then ?_
  refine co_seq ?_
  refine co_reg ?_
  refine pl_val (v := v) h2 rfl rfl rfl (by kernel_rfl) (by kernel_rfl) (by kernel_rfl) (fun a3 h3 => ?_); clear h2
  refine pl_val (v := .int .i64 id) h3 rfl rfl rfl (by kernel_rfl) (by kernel_rfl) (by kernel_rfl) (fun a4 h4 => ?_); clear h3
  refine pl_want h4 rfl rfl rfl (op_call (args := #[v, .int .i64 id]) (R := fun res xw => res = .int .i64 (findP l id) ∧ Below w.heap.size w xw) rfl rfl rfl (by kernel_rfl) (by kernel_rfl) (Try.call54 _ _) (place_any v l id w hs) (by rintro e x ⟨rfl, hb7⟩; exact ⟨_, rfl, ⟨rfl, hb7⟩⟩)) ?_; clear h4
  rintro _ w6 a5 ⟨rfl, hb7⟩ h5
  have hB8 := hb_call hB0 hb7
  have hz9 := hB8.size
  have hz10 := hb7.size
  refine pl_val (v := .int .i64 (findP l id)) h5 rfl rfl rfl (by kernel_rfl) (by kernel_rfl) (by kernel_rfl) (fun a11 h11 => ?_); clear h5
  refine pl_nil ?_
  refine co_then ?_
  refine co_seq ?_
  refine co_seq ?_
  refine co_reg ?_
  refine pl_val (v := .int .i64 (findP l id)) h11 rfl rfl rfl (by kernel_rfl) (by kernel_rfl) (by kernel_rfl) (fun a12 h12 => ?_); clear h11
  refine pl_val (v := .bool (decide (findP l id < 0))) h12 rfl rfl rfl (by kernel_rfl) (by kernel_rfl) (by kernel_rfl) (fun a13 h13 => ?_); clear h12
  refine pl_nil ?_
  refine co_then ?_
  cases hc14 : (decide (findP l id < 0))
  ·
    rw [hc14] at h13
    have hp15 : ¬ (findP l id < 0) := of_decide_eq_false hc14
    clear hc14
    refine co_false h13 rfl ?_
    refine wp_skip ?_
    refine co_then ?_
    refine co_seq ?_
    refine co_reg ?_
    refine pl_val (v := v) h13 rfl rfl rfl (by kernel_rfl) (by kernel_rfl) (by kernel_rfl) (fun a16 h16 => ?_); clear h13
    refine pl_want h16 rfl rfl rfl (op_call (args := #[v]) (R := fun res xw => ∃ u : Value, res = u ∧ xw.ownsRow w6.heap.size 40 3 u l.length (l.flatMap pinE) ∧ Below w6.heap.size w6 xw) rfl rfl rfl (by kernel_rfl) (by kernel_rfl) (Try.call38 _ _) (clonePin_any v l w6 (hs.below hB8) (by first | omega | (simp; done) | (simp; omega))) (by rintro e x ⟨u, rfl, hq20, hb21⟩; exact ⟨_, rfl, ⟨u, rfl, hq20, hb21⟩⟩)) ?_; clear h16
    rintro u19 w18 a17 ⟨_, rfl, hq20, hb21⟩ h17
    have hB22 := hb_call hB8 hb21
    have hz23 := hB22.size
    have hz24 := hb21.size
    have hl25 := sl_len (row_sl hq20 pinE_len)
    refine pl_val (v := u19) h17 rfl rfl rfl (by kernel_rfl) (by kernel_rfl) (by kernel_rfl) (fun a26 h26 => ?_); clear h17
    refine pl_nil ?_
    refine co_then ?_
    refine co_seq ?_
    refine co_reg ?_
    refine pl_val (v := u19) h26 rfl rfl rfl (by kernel_rfl) (by kernel_rfl) (by kernel_rfl) (fun a27 h27 => ?_); clear h26
    refine pl_val (v := .int .i64 (findP l id)) h27 rfl rfl rfl (by kernel_rfl) (by kernel_rfl) (by kernel_rfl) (fun a28 h28 => ?_); clear h27
    obtain ⟨y29, hy29⟩ : ∃ z, l[(findP l id).toNat]? = some z := ⟨_, List.getElem?_eq_getElem (by first | omega | (simp; done) | (simp; omega))⟩
    refine pl_val (v := .pointer (some ⟨(blkOf u19), offOf u19 + ((findP l id).toNat) * 3, none⟩)) h28 rfl rfl rfl (by kernel_rfl) (by kernel_rfl) (rn_index rfl rfl rfl Try.underlying47 Try.sizeOf40 (row_sl hq20 pinE_len) (by omega) (by first | omega | (simp; done) | (simp; omega))) (fun a30 h30 => ?_); clear h28
    refine pl_val (v := .pointer (some ⟨(blkOf u19), offOf u19 + ((findP l id).toNat) * 3 + 2, none⟩)) h30 rfl rfl rfl (by kernel_rfl) (by kernel_rfl) (by kernel_rfl) (fun a31 h31 => ?_); clear h30
    refine pl_doW h31 rfl rfl (op_storeRow (c := ((findP l id).toNat) * 3 + 2) rfl rfl rfl rfl Try.sizeOf3 hq20 (flat_lt pinE_len (by omega) (by omega)) (by first | rfl | omega)) ?_; clear h31
    rintro _ w33 a32 ⟨hr34, hz35, hg36⟩ h32
    have hr34' := row_set (y' := (y29.1, y29.2.1, 8)) hr34 pinE_len hy29 (by omega) rfl; clear hr34
    have hB37 := hb_row hB22 hq20 (by omega) hg36
    have hz38 := hB37.size
    have hz39 := hg36.size
    refine pl_nil ?_
    refine co_then ?_
    refine co_seq ?_
    refine co_reg ?_
    refine pl_val (v := u19) h32 rfl rfl rfl (by kernel_rfl) (by kernel_rfl) (by kernel_rfl) (fun a40 h40 => ?_); clear h32
    refine pl_val (v := u19) h40 rfl rfl rfl (by kernel_rfl) (by kernel_rfl) (by kernel_rfl) (fun a41 h41 => ?_); clear h40
    refine pl_val (v := .int .i64 0) h41 rfl rfl rfl (by kernel_rfl) (by kernel_rfl) (by kernel_rfl) (fun a42 h42 => ?_); clear h41
    refine pl_nil ?_
    refine co_then ?_
    refine wp_ret ?_
    refine co_ret2 h42 rfl rfl rfl ?_
    cases hg.symm.trans (renew_ok (by omega) rfl hy29)
    exact ⟨_, rfl, (row_lows hr34' (by omega)), hB37⟩
  ·
    rw [hc14] at h13
    have hp43 : findP l id < 0 := of_decide_eq_true hc14
    clear hc14
    refine co_true h13 rfl ?_
    refine co_seq ?_
    refine co_reg ?_
    refine pl_val (v := .slice none 0 0) h13 rfl rfl rfl (by kernel_rfl) (by kernel_rfl) (by kernel_rfl) (fun a44 h44 => ?_); clear h13
    refine pl_val (v := .int .i64 7) h44 rfl rfl rfl (by kernel_rfl) (by kernel_rfl) (by kernel_rfl) (fun a45 h45 => ?_); clear h44
    refine pl_nil ?_
    refine co_then ?_
    refine wp_ret ?_
    refine co_thenR ?_
    refine co_ret2 h45 rfl rfl rfl ?_
    cases hg.symm.trans (renew_no (by omega))
    exact ⟨_, rfl, (row_nilL _ _ _ _ _), hB8⟩
set_option maxRecDepth 100000 in
theorem rleaseRenew_any (v : Value) (l : List PinT) (id : Int) (l2 : List PinT) (r : Int) (w : World) (hs : SliceOf pinE 3 w v l) (hlen : l.length ≤ 1000) (hg : renewP l id = (l2, r)) :
    Calls Try.prog 62 #[v, .int .i64 id] w fun e w' => ∃ (u : Value), e = .returned (.tuple #[u, .int .i64 r]) ∧ w'.ownsRow w.heap.size 40 3 u l2.length (l2.flatMap pinE) ∧ Below w.heap.size w w' := by
  have hfl := findP_lt l id
  have hB0 := Below.refl w.heap.size w
  have hl_hs := sl_len hs
  refine co_enter (n := 21) Try.func62 rfl rfl rfl [(0, v), (1, .int .i64 id)] rfl (fun a h0 => ?_)
  refine co_seq ?_
  refine co_reg ?_
  refine pl_val (v := .slice none 0 0) h0 rfl rfl rfl (by kernel_rfl) (by kernel_rfl) (by kernel_rfl) (fun a1 h1 => ?_); clear h0
  refine pl_val (v := .int .i64 0) h1 rfl rfl rfl (by kernel_rfl) (by kernel_rfl) (by kernel_rfl) (fun a2 h2 => ?_); clear h1
  refine pl_nil ?_
  refine co_then ?_
  refine co_seq ?_
  refine co_reg ?_
  refine pl_val (v := v) h2 rfl rfl rfl (by kernel_rfl) (by kernel_rfl) (by kernel_rfl) (fun a3 h3 => ?_); clear h2
  refine pl_val (v := .int .i64 id) h3 rfl rfl rfl (by kernel_rfl) (by kernel_rfl) (by kernel_rfl) (fun a4 h4 => ?_); clear h3
  refine pl_want h4 rfl rfl rfl (op_call (args := #[v, .int .i64 id]) (R := fun res xw => res = .int .i64 (findP l id) ∧ Below w.heap.size w xw) rfl rfl rfl (by kernel_rfl) (by kernel_rfl) (Try.call63 _ _) (rfind_any v l id w hs) (by rintro e x ⟨rfl, hb7⟩; exact ⟨_, rfl, ⟨rfl, hb7⟩⟩)) ?_; clear h4
  rintro _ w6 a5 ⟨rfl, hb7⟩ h5
  have hB8 := hb_call hB0 hb7
  have hz9 := hB8.size
  have hz10 := hb7.size
  refine pl_val (v := .int .i64 (findP l id)) h5 rfl rfl rfl (by kernel_rfl) (by kernel_rfl) (by kernel_rfl) (fun a11 h11 => ?_); clear h5
  refine pl_nil ?_
  refine co_then ?_
  refine co_seq ?_
  refine co_seq ?_
  refine co_reg ?_
  refine pl_val (v := .int .i64 (findP l id)) h11 rfl rfl rfl (by kernel_rfl) (by kernel_rfl) (by kernel_rfl) (fun a12 h12 => ?_); clear h11
  refine pl_val (v := .bool (decide (findP l id < 0))) h12 rfl rfl rfl (by kernel_rfl) (by kernel_rfl) (by kernel_rfl) (fun a13 h13 => ?_); clear h12
  refine pl_nil ?_
  refine co_then ?_
  cases hc14 : (decide (findP l id < 0))
  ·
    rw [hc14] at h13
    have hp15 : ¬ (findP l id < 0) := of_decide_eq_false hc14
    clear hc14
    refine co_false h13 rfl ?_
    refine wp_skip ?_
    refine co_then ?_
    refine co_seq ?_
    refine co_reg ?_
    refine pl_want h13 rfl rfl rfl (op_new (v := fun N => .slice (some ⟨N, 0, none⟩) 0 0) (T := 40) (cs := #[]) (by kernel_rfl) (by kernel_rfl) (by kernel_rfl)) ?_; clear h13
    rintro _ w17 a16 ⟨N18, rfl, hN21, hz22, hk20, hg19⟩ h16
    have hB23 := hb_new hB8 hg19
    have hz24 := hB23.size
    have hz25 := hg19.size
    try dsimp only at h16
    refine pl_val (v := v) h16 rfl rfl rfl (by kernel_rfl) (by kernel_rfl) (by kernel_rfl) (fun a26 h26 => ?_); clear h16
    have hr29 := row_of_blkL hk20 (Nat.le_refl _) 3 pinE
    refine pl_want h26 rfl rfl rfl (op_appendSrc rfl N18 40 (z := .agg #[.int .i64 0, .int .u64 0, .int .i64 0]) (size := 3) (bytes := 24) Try.underlying47 (by kernel_rfl) rfl rfl rfl hr29 rfl (hs.below hB23) (fun y _ => ⟨pinE_len y, pinE_one y⟩) (by first | omega | (simp only [List.length_nil, List.length_append, List.length_cons, List.length_take, List.length_drop]; omega)) (by first | omega | (simp only [List.length_nil, List.length_append, List.length_cons, List.length_take, List.length_drop]; omega)) (by omega)) ?_; clear h26
    rintro v30 w28 a27 ⟨hr31, hg32⟩ h27
    have hr31' : w28.ownsRow N18 40 3 v30 l.length (l.flatMap pinE) := row_app (l := []) hr31; clear hr31
    have hB33 := hb_row hB23 hr29 (by omega) hg32
    have hz34 := hB33.size
    have hz35 := hg32.size
    refine pl_val (v := v30) h27 rfl rfl rfl (by kernel_rfl) (by kernel_rfl) (by kernel_rfl) (fun a36 h36 => ?_); clear h27
    refine pl_nil ?_
    refine co_then ?_
    refine co_seq ?_
    refine co_reg ?_
    refine pl_val (v := v30) h36 rfl rfl rfl (by kernel_rfl) (by kernel_rfl) (by kernel_rfl) (fun a37 h37 => ?_); clear h36
    refine pl_val (v := .int .i64 (findP l id)) h37 rfl rfl rfl (by kernel_rfl) (by kernel_rfl) (by kernel_rfl) (fun a38 h38 => ?_); clear h37
    obtain ⟨y39, hy39⟩ : ∃ z, l[(findP l id).toNat]? = some z := ⟨_, List.getElem?_eq_getElem (by first | omega | (simp; done) | (simp; omega))⟩
    refine pl_val (v := .pointer (some ⟨(blkOf v30), offOf v30 + ((findP l id).toNat) * 3, none⟩)) h38 rfl rfl rfl (by kernel_rfl) (by kernel_rfl) (rn_index rfl rfl rfl Try.underlying47 Try.sizeOf40 (row_sl hr31' pinE_len) (by omega) (by first | omega | (simp; done) | (simp; omega))) (fun a40 h40 => ?_); clear h38
    refine pl_val (v := .pointer (some ⟨(blkOf v30), offOf v30 + ((findP l id).toNat) * 3 + 2, none⟩)) h40 rfl rfl rfl (by kernel_rfl) (by kernel_rfl) (by kernel_rfl) (fun a41 h41 => ?_); clear h40
    refine pl_doW h41 rfl rfl (op_storeRow (c := ((findP l id).toNat) * 3 + 2) rfl rfl rfl rfl Try.sizeOf3 hr31' (flat_lt pinE_len (by omega) (by omega)) (by first | rfl | omega)) ?_; clear h41
    rintro _ w43 a42 ⟨hr44, hz45, hg46⟩ h42
    have hr44' := row_set (y' := (y39.1, y39.2.1, 8)) hr44 pinE_len hy39 (by omega) rfl; clear hr44
    have hB47 := hb_row hB33 hr31' (by omega) hg46
    have hz48 := hB47.size
    have hz49 := hg46.size
    refine pl_nil ?_
    refine co_then ?_
    refine co_seq ?_
    refine co_reg ?_
    refine pl_val (v := v30) h42 rfl rfl rfl (by kernel_rfl) (by kernel_rfl) (by kernel_rfl) (fun a50 h50 => ?_); clear h42
    refine pl_val (v := v30) h50 rfl rfl rfl (by kernel_rfl) (by kernel_rfl) (by kernel_rfl) (fun a51 h51 => ?_); clear h50
    refine pl_val (v := .int .i64 0) h51 rfl rfl rfl (by kernel_rfl) (by kernel_rfl) (by kernel_rfl) (fun a52 h52 => ?_); clear h51
    refine pl_nil ?_
    refine co_then ?_
    refine wp_ret ?_
    refine co_ret2 h52 rfl rfl rfl ?_
    cases hg.symm.trans (renew_ok (by omega) rfl hy39)
    exact ⟨_, rfl, (row_lows hr44' (by omega)), hB47⟩
  ·
    rw [hc14] at h13
    have hp53 : findP l id < 0 := of_decide_eq_true hc14
    clear hc14
    refine co_true h13 rfl ?_
    refine co_seq ?_
    refine co_reg ?_
    refine pl_val (v := .slice none 0 0) h13 rfl rfl rfl (by kernel_rfl) (by kernel_rfl) (by kernel_rfl) (fun a54 h54 => ?_); clear h13
    refine pl_val (v := .int .i64 7) h54 rfl rfl rfl (by kernel_rfl) (by kernel_rfl) (by kernel_rfl) (fun a55 h55 => ?_); clear h54
    refine pl_nil ?_
    refine co_then ?_
    refine wp_ret ?_
    refine co_thenR ?_
    refine co_ret2 h55 rfl rfl rfl ?_
    cases hg.symm.trans (renew_no (by omega))
    exact ⟨_, rfl, (row_nilL _ _ _ _ _), hB8⟩
end Go.Proofs.Ytnjbnndpbegkdaa

/- Package lease: Free, the document's Same. Conditions: at most 1000 pins. -/
namespace Go.Proofs.Ytnjbnndpbegkdaa
open Go.RowKit Go.PlainAid
set_option linter.unusedVariables false


theorem del_any (v : Value) (l : List PinT) (i base : Nat) (w : World) (hown : w.ownsRow base 40 3 v l.length (l.flatMap pinE)) (hi : i < l.length) :
    Calls Try.prog 55 #[v, .int .i64 i, .int .i64 ((i : Int) + 1)] w fun e w' => ∃ u, e = .returned u ∧ w'.ownsRow base 40 3 u (l.take i ++ l.drop (i + 1)).length ((l.take i ++ l.drop (i + 1)).flatMap pinE) ∧ w.grownBy w' v.ownBlock := by
  rcases hown.2 with ⟨_, h0⟩ | ⟨g, cap, cur, rfl, _⟩
  · omega
  · refine (del_pin g l.length (l.length - 1) cap i base l w hown rfl hi (by omega)).mono ?_
    rintro e w' ⟨rfl, h1, h2⟩
    refine ⟨_, rfl, ?_, by simpa [Value.ownBlock] using h2⟩
    have e1 : (l.take i ++ l.drop (i + 1)).length = l.length - 1 := by simp; omega
    rw [e1]; exact h1

set_option maxRecDepth 100000 in
theorem leaseFree_any (v : Value) (l : List PinT) (id : Int) (l2 : List PinT) (r : Int) (w : World) (hs : SliceOf pinE 3 w v l) (hlen : l.length ≤ 1000) (hg : freeP l id = (l2, r)) :
    Calls Try.prog 24 #[v, .int .i64 id] w fun e w' => ∃ (u : Value), e = .returned (.tuple #[u, .int .i64 r]) ∧ w'.ownsRow w.heap.size 40 3 u l2.length (l2.flatMap pinE) ∧ Below w.heap.size w w' := by
  have hfl := findP_lt l id
  have hB0 := Below.refl w.heap.size w
  have hl_hs := sl_len hs
  refine co_enter (n := 18) Try.func24 rfl rfl rfl [(0, v), (1, .int .i64 id)] rfl (fun a h0 => ?_)
  refine co_seq ?_
  refine co_reg ?_
  refine pl_val (v := .slice none 0 0) h0 rfl rfl rfl (by kernel_rfl) (by kernel_rfl) (by kernel_rfl) (fun a1 h1 => ?_); clear h0
  refine pl_val (v := .int .i64 0) h1 rfl rfl rfl (by kernel_rfl) (by kernel_rfl) (by kernel_rfl) (fun a2 h2 => ?_); clear h1
  refine pl_nil ?_
  refine co_then ?_
  refine co_seq ?_
  refine co_reg ?_
  refine pl_val (v := v) h2 rfl rfl rfl (by kernel_rfl) (by kernel_rfl) (by kernel_rfl) (fun a3 h3 => ?_); clear h2
  refine pl_val (v := .int .i64 id) h3 rfl rfl rfl (by kernel_rfl) (by kernel_rfl) (by kernel_rfl) (fun a4 h4 => ?_); clear h3
  refine pl_want h4 rfl rfl rfl (op_call (args := #[v, .int .i64 id]) (R := fun res xw => res = .int .i64 (findP l id) ∧ Below w.heap.size w xw) rfl rfl rfl (by kernel_rfl) (by kernel_rfl) (Try.call54 _ _) (place_any v l id w hs) (by rintro e x ⟨rfl, hb7⟩; exact ⟨_, rfl, ⟨rfl, hb7⟩⟩)) ?_; clear h4
  rintro _ w6 a5 ⟨rfl, hb7⟩ h5
  have hB8 := hb_call hB0 hb7
  have hz9 := hB8.size
  have hz10 := hb7.size
  refine pl_val (v := .int .i64 (findP l id)) h5 rfl rfl rfl (by kernel_rfl) (by kernel_rfl) (by kernel_rfl) (fun a11 h11 => ?_); clear h5
  refine pl_nil ?_
  refine co_then ?_
  refine co_seq ?_
  refine co_seq ?_
  refine co_reg ?_
  refine pl_val (v := .int .i64 (findP l id)) h11 rfl rfl rfl (by kernel_rfl) (by kernel_rfl) (by kernel_rfl) (fun a12 h12 => ?_); clear h11
  refine pl_val (v := .bool (decide (findP l id < 0))) h12 rfl rfl rfl (by kernel_rfl) (by kernel_rfl) (by kernel_rfl) (fun a13 h13 => ?_); clear h12
  refine pl_nil ?_
  refine co_then ?_
  cases hc14 : (decide (findP l id < 0))
  ·
    rw [hc14] at h13
    have hp15 : ¬ (findP l id < 0) := of_decide_eq_false hc14
    clear hc14
    refine co_false h13 rfl ?_
    refine wp_skip ?_
    refine co_then ?_
    refine co_seq ?_
    refine co_reg ?_
    refine pl_val (v := v) h13 rfl rfl rfl (by kernel_rfl) (by kernel_rfl) (by kernel_rfl) (fun a16 h16 => ?_); clear h13
    refine pl_want h16 rfl rfl rfl (op_call (args := #[v]) (R := fun res xw => ∃ u : Value, res = u ∧ xw.ownsRow w6.heap.size 40 3 u l.length (l.flatMap pinE) ∧ Below w6.heap.size w6 xw) rfl rfl rfl (by kernel_rfl) (by kernel_rfl) (Try.call38 _ _) (clonePin_any v l w6 (hs.below hB8) (by first | omega | (simp; done) | (simp; omega))) (by rintro e x ⟨u, rfl, hq20, hb21⟩; exact ⟨_, rfl, ⟨u, rfl, hq20, hb21⟩⟩)) ?_; clear h16
    rintro u19 w18 a17 ⟨_, rfl, hq20, hb21⟩ h17
    have hB22 := hb_call hB8 hb21
    have hz23 := hB22.size
    have hz24 := hb21.size
    have hl25 := sl_len (row_sl hq20 pinE_len)
    refine pl_val (v := .int .i64 (findP l id)) h17 rfl rfl rfl (by kernel_rfl) (by kernel_rfl) (by kernel_rfl) (fun a26 h26 => ?_); clear h17
    refine pl_val (v := .int .i64 (findP l id)) h26 rfl rfl rfl (by kernel_rfl) (by kernel_rfl) (by kernel_rfl) (fun a27 h27 => ?_); clear h26
    refine pl_val (v := .int .i64 ((findP l id) + 1)) h27 rfl rfl rfl (by kernel_rfl) (by kernel_rfl) (rn_arith rfl rfl rfl rfl rfl rfl (IntWalk.i64_in _ (by omega))) (fun a28 h28 => ?_); clear h27
    have hj0 : findP l id = (((findP l id).toNat : Nat) : Int) := by omega
    refine pl_want h28 rfl rfl rfl (op_call (args := #[u19, .int .i64 (findP l id), .int .i64 ((findP l id) + 1)]) (R := fun res xw => xw.ownsRow w6.heap.size 40 3 res (l.take (findP l id).toNat ++ l.drop ((findP l id).toNat + 1)).length ((l.take (findP l id).toNat ++ l.drop ((findP l id).toNat + 1)).flatMap pinE) ∧ w18.grownBy xw u19.ownBlock) rfl rfl rfl (by kernel_rfl) (by kernel_rfl) (Try.call55 _ _) (by have := del_any u19 l ((findP l id).toNat) (w6.heap.size) w18 hq20 (by omega); rw [← hj0] at this; exact this) (by rintro e x ⟨u, rfl, h1, h2⟩; exact ⟨_, rfl, h1, h2⟩)) ?_; clear h28
    rintro u33 w30 a29 ⟨hr31, hg32⟩ h29
    have hB34 := hb_row hB22 hq20 (by omega) hg32
    have hz35 := hB34.size
    have hz36 := hg32.size
    refine pl_val (v := u33) h29 rfl rfl rfl (by kernel_rfl) (by kernel_rfl) (by kernel_rfl) (fun a37 h37 => ?_); clear h29
    refine pl_val (v := .int .i64 0) h37 rfl rfl rfl (by kernel_rfl) (by kernel_rfl) (by kernel_rfl) (fun a38 h38 => ?_); clear h37
    refine pl_nil ?_
    refine co_then ?_
    refine wp_ret ?_
    refine co_ret2 h38 rfl rfl rfl ?_
    cases hg.symm.trans (free_ok (by omega) rfl)
    exact ⟨_, rfl, (row_lows hr31 (by omega)), hB34⟩
  ·
    rw [hc14] at h13
    have hp39 : findP l id < 0 := of_decide_eq_true hc14
    clear hc14
    refine co_true h13 rfl ?_
    refine co_seq ?_
    refine co_reg ?_
    refine pl_val (v := .slice none 0 0) h13 rfl rfl rfl (by kernel_rfl) (by kernel_rfl) (by kernel_rfl) (fun a40 h40 => ?_); clear h13
    refine pl_val (v := .int .i64 7) h40 rfl rfl rfl (by kernel_rfl) (by kernel_rfl) (by kernel_rfl) (fun a41 h41 => ?_); clear h40
    refine pl_nil ?_
    refine co_then ?_
    refine wp_ret ?_
    refine co_thenR ?_
    refine co_ret2 h41 rfl rfl rfl ?_
    cases hg.symm.trans (free_no (by omega))
    exact ⟨_, rfl, (row_nilL _ _ _ _ _), hB8⟩
set_option maxRecDepth 100000 in
theorem rleaseFree_any (v : Value) (l : List PinT) (id : Int) (l2 : List PinT) (r : Int) (w : World) (hs : SliceOf pinE 3 w v l) (hlen : l.length ≤ 1000) (hg : freeP l id = (l2, r)) :
    Calls Try.prog 31 #[v, .int .i64 id] w fun e w' => ∃ (u : Value), e = .returned (.tuple #[u, .int .i64 r]) ∧ w'.ownsRow w.heap.size 40 3 u l2.length (l2.flatMap pinE) ∧ Below w.heap.size w w' := by
  have hfl := findP_lt l id
  have hB0 := Below.refl w.heap.size w
  have hl_hs := sl_len hs
  refine co_enter (n := 22) Try.func31 rfl rfl rfl [(0, v), (1, .int .i64 id)] rfl (fun a h0 => ?_)
  refine co_seq ?_
  refine co_reg ?_
  refine pl_val (v := .slice none 0 0) h0 rfl rfl rfl (by kernel_rfl) (by kernel_rfl) (by kernel_rfl) (fun a1 h1 => ?_); clear h0
  refine pl_val (v := .int .i64 0) h1 rfl rfl rfl (by kernel_rfl) (by kernel_rfl) (by kernel_rfl) (fun a2 h2 => ?_); clear h1
  refine pl_nil ?_
  refine co_then ?_
  refine co_seq ?_
  refine co_reg ?_
  refine pl_val (v := v) h2 rfl rfl rfl (by kernel_rfl) (by kernel_rfl) (by kernel_rfl) (fun a3 h3 => ?_); clear h2
  refine pl_val (v := .int .i64 id) h3 rfl rfl rfl (by kernel_rfl) (by kernel_rfl) (by kernel_rfl) (fun a4 h4 => ?_); clear h3
  refine pl_want h4 rfl rfl rfl (op_call (args := #[v, .int .i64 id]) (R := fun res xw => res = .int .i64 (findP l id) ∧ Below w.heap.size w xw) rfl rfl rfl (by kernel_rfl) (by kernel_rfl) (Try.call63 _ _) (rfind_any v l id w hs) (by rintro e x ⟨rfl, hb7⟩; exact ⟨_, rfl, ⟨rfl, hb7⟩⟩)) ?_; clear h4
  rintro _ w6 a5 ⟨rfl, hb7⟩ h5
  have hB8 := hb_call hB0 hb7
  have hz9 := hB8.size
  have hz10 := hb7.size
  refine pl_val (v := .int .i64 (findP l id)) h5 rfl rfl rfl (by kernel_rfl) (by kernel_rfl) (by kernel_rfl) (fun a11 h11 => ?_); clear h5
  refine pl_nil ?_
  refine co_then ?_
  refine co_seq ?_
  refine co_seq ?_
  refine co_reg ?_
  refine pl_val (v := .int .i64 (findP l id)) h11 rfl rfl rfl (by kernel_rfl) (by kernel_rfl) (by kernel_rfl) (fun a12 h12 => ?_); clear h11
  refine pl_val (v := .bool (decide (findP l id < 0))) h12 rfl rfl rfl (by kernel_rfl) (by kernel_rfl) (by kernel_rfl) (fun a13 h13 => ?_); clear h12
  refine pl_nil ?_
  refine co_then ?_
  cases hc14 : (decide (findP l id < 0))
  ·
    rw [hc14] at h13
    have hp15 : ¬ (findP l id < 0) := of_decide_eq_false hc14
    clear hc14
    refine co_false h13 rfl ?_
    refine wp_skip ?_
    refine co_then ?_
    refine co_seq ?_
    refine dr_gen (fun x => Below w.heap.size w x) (by kernel_rfl) (fun w16 hg17 => ?_) (fun w16 hg17 => ?_)
    ·
      have hB18 := hb_new hB8 hg17
      have hz19 := hB18.size
      have hz20 := hg17.size
      exact hB18
    have hB21 := hb_new hB8 hg17
    have hz22 := hB21.size
    have hz23 := hg17.size
    refine dr_take (i := 1) (v := v) h13 rfl (by kernel_rfl) (by kernel_rfl) (by kernel_rfl) rfl rfl rfl hB21 (by kernel_rfl) (fun _ _ => by kernel_rfl) (fun a24 h24 => ?_); clear h13
    refine dr_take (i := 2) (v := .int .i64 (findP l id)) h24 rfl (by kernel_rfl) (by kernel_rfl) (by kernel_rfl) rfl rfl rfl hB21 (by kernel_rfl) (fun _ _ => by kernel_rfl) (fun a25 h25 => ?_); clear h24
    refine dr_take (i := 3) (v := subV v 0 ((findP l id).toNat) 3) h25 rfl (by kernel_rfl) (by kernel_rfl) (by kernel_rfl) rfl rfl rfl hB21 (by kernel_rfl) (fun x hx => (rn_sliceTo rfl rfl rfl Try.underlying47 Try.sizeOf40 (hs.below hx) (by omega) (by omega))) (fun a26 h26 => ?_); clear h25
    refine dr_take (i := 5) (v := v) h26 rfl (by kernel_rfl) (by kernel_rfl) (by kernel_rfl) rfl rfl rfl hB21 (by kernel_rfl) (fun _ _ => by kernel_rfl) (fun a27 h27 => ?_); clear h26
    refine dr_take (i := 6) (v := .int .i64 (findP l id)) h27 rfl (by kernel_rfl) (by kernel_rfl) (by kernel_rfl) rfl rfl rfl hB21 (by kernel_rfl) (fun _ _ => by kernel_rfl) (fun a28 h28 => ?_); clear h27
    refine dr_take (i := 7) (v := .int .i64 ((findP l id) + 1)) h28 rfl (by kernel_rfl) (by kernel_rfl) (by kernel_rfl) rfl rfl rfl hB21 (by kernel_rfl) (fun x hx => (rn_arith rfl rfl rfl rfl rfl rfl (IntWalk.i64_in _ (by omega)))) (fun a29 h29 => ?_); clear h28
    refine dr_take (i := 8) (v := subV v ((findP l id).toNat + 1) l.length 3) h29 rfl (by kernel_rfl) (by kernel_rfl) (by kernel_rfl) rfl rfl rfl hB21 (by kernel_rfl) (fun x hx => (rn_sliceFrom rfl rfl rfl Try.underlying47 Try.sizeOf40 (hs.below hx) (by omega) (by omega))) (fun a30 h30 => ?_); clear h29
    refine dr_one (i := 0) h30 rfl (by kernel_rfl) rfl rfl rfl (op_new (v := fun N => .slice (some ⟨N, 0, none⟩) 0 0) (T := 40) (cs := #[]) (by kernel_rfl) (by kernel_rfl) (by kernel_rfl)) ?_ ?_; clear h30
    ·
      rintro _ w32 ⟨N33, rfl, hN36, hz37, hk35, hg34⟩
      have hB38 := hb_new hB21 hg34
      have hz39 := hB38.size
      have hz40 := hg34.size
      exact hB38
    rintro _ w32 a31 ⟨N33, rfl, hN36, hz37, hk35, hg34⟩ h31
    have hB38 := hb_new hB21 hg34
    have hz39 := hB38.size
    have hz40 := hg34.size
    try dsimp only at h31
    have hr43 := row_of_blkL hk35 (Nat.le_refl _) 3 pinE
    refine dr_one (i := 4) h31 rfl (by kernel_rfl) rfl rfl rfl (op_appendSrc rfl N33 40 (z := .agg #[.int .i64 0, .int .u64 0, .int .i64 0]) (size := 3) (bytes := 24) Try.underlying47 (by kernel_rfl) rfl rfl rfl hr43 rfl (sl_take (hs.below hB38) _ (by omega)) (fun y _ => ⟨pinE_len y, pinE_one y⟩) (by first | omega | (simp only [List.length_nil, List.length_append, List.length_cons, List.length_take, List.length_drop]; omega)) (by first | omega | (simp only [List.length_nil, List.length_append, List.length_cons, List.length_take, List.length_drop]; omega)) (by omega)) ?_ ?_; clear h31
    ·
      rintro v44 w42 ⟨hr45, hg46⟩
      have hr45' : w42.ownsRow N33 40 3 v44 ((l.take ((findP l id).toNat)).length) ((l.take ((findP l id).toNat)).flatMap pinE) := row_app (l := []) hr45; clear hr45
      have hB47 := hb_row hB38 hr43 (by omega) hg46
      have hz48 := hB47.size
      have hz49 := hg46.size
      exact hB47
    rintro v44 w42 a41 ⟨hr45, hg46⟩ h41
    have hr45' : w42.ownsRow N33 40 3 v44 ((l.take ((findP l id).toNat)).length) ((l.take ((findP l id).toNat)).flatMap pinE) := row_app (l := []) hr45; clear hr45
    have hB47 := hb_row hB38 hr43 (by omega) hg46
    have hz48 := hB47.size
    have hz49 := hg46.size
    refine dr_one (i := 9) h41 rfl (by kernel_rfl) rfl rfl rfl (op_appendSrc rfl N33 40 (z := .agg #[.int .i64 0, .int .u64 0, .int .i64 0]) (size := 3) (bytes := 24) Try.underlying47 (by kernel_rfl) rfl rfl rfl hr45' rfl (sl_drop (hs.below hB47) _ (by omega)) (fun y _ => ⟨pinE_len y, pinE_one y⟩) (by first | omega | (simp only [List.length_nil, List.length_append, List.length_cons, List.length_take, List.length_drop]; omega)) (by first | omega | (simp only [List.length_nil, List.length_append, List.length_cons, List.length_take, List.length_drop]; omega)) (by omega)) ?_ ?_; clear h41
    ·
      rintro v52 w51 ⟨hr53, hg54⟩
      have hr53' : w51.ownsRow N33 40 3 v52 ((l.take ((findP l id).toNat) ++ (l.drop ((findP l id).toNat + 1))).length) ((l.take ((findP l id).toNat) ++ (l.drop ((findP l id).toNat + 1))).flatMap pinE) := row_app hr53; clear hr53
      have hB55 := hb_row hB47 hr45' (by omega) hg54
      have hz56 := hB55.size
      have hz57 := hg54.size
      exact hB55
    rintro v52 w51 a50 ⟨hr53, hg54⟩ h50
    have hr53' : w51.ownsRow N33 40 3 v52 ((l.take ((findP l id).toNat) ++ (l.drop ((findP l id).toNat + 1))).length) ((l.take ((findP l id).toNat) ++ (l.drop ((findP l id).toNat + 1))).flatMap pinE) := row_app hr53; clear hr53
    have hB55 := hb_row hB47 hr45' (by omega) hg54
    have hz56 := hB55.size
    have hz57 := hg54.size
    refine dr_take (i := 10) (v := v52) h50 rfl (by kernel_rfl) (by kernel_rfl) (by kernel_rfl) rfl rfl rfl hB55 (by kernel_rfl) (fun _ _ => by kernel_rfl) (fun a58 h58 => ?_); clear h50
    refine dr_take (i := 11) (v := .int .i64 0) h58 rfl (by kernel_rfl) (by kernel_rfl) (by kernel_rfl) rfl rfl rfl hB55 (by kernel_rfl) (fun _ _ => by kernel_rfl) (fun a59 h59 => ?_); clear h58
    refine dr_done (by kernel_rfl) ?_
    refine co_then ?_
    refine wp_ret ?_
    refine co_ret2 h59 rfl rfl rfl ?_
    cases hg.symm.trans (free_ok (by omega) rfl)
    exact ⟨_, rfl, (row_lows hr53' (by omega)), hB55⟩
  ·
    rw [hc14] at h13
    have hp60 : findP l id < 0 := of_decide_eq_true hc14
    clear hc14
    refine co_true h13 rfl ?_
    refine co_seq ?_
    refine co_reg ?_
    refine pl_val (v := .slice none 0 0) h13 rfl rfl rfl (by kernel_rfl) (by kernel_rfl) (by kernel_rfl) (fun a61 h61 => ?_); clear h13
    refine pl_val (v := .int .i64 7) h61 rfl rfl rfl (by kernel_rfl) (by kernel_rfl) (by kernel_rfl) (fun a62 h62 => ?_); clear h61
    refine pl_nil ?_
    refine co_then ?_
    refine wp_ret ?_
    refine co_thenR ?_
    refine co_ret2 h62 rfl rfl rfl ?_
    cases hg.symm.trans (free_no (by omega))
    exact ⟨_, rfl, (row_nilL _ _ _ _ _), hB8⟩
set_option maxRecDepth 100000 in
theorem samePins_any (v : Value) (u : Value) (l : List PinT) (w : World) (hs : SliceOf pinE 3 w v l) (hs2 : SliceOf pinE 3 w u l) :
    Calls Try.prog 34 #[v, u] w fun e w' => e = .returned (.bool true) ∧ Below w.heap.size w w' := by
  have hB0 := Below.refl w.heap.size w
  have hl_hs := sl_len hs
  have hl_hs2 := sl_len hs2
  refine co_enter (n := 32) Try.func34 rfl rfl rfl [(0, v), (1, u)] rfl (fun a h0 => ?_)
  refine co_seq ?_
  refine co_reg ?_
  refine pl_val (v := .bool false) h0 rfl rfl rfl (by kernel_rfl) (by kernel_rfl) (by kernel_rfl) (fun a1 h1 => ?_); clear h0
  refine pl_nil ?_
  refine co_then ?_
  refine co_seq ?_
  refine co_seq ?_
  refine co_reg ?_
  refine pl_val (v := v) h1 rfl rfl rfl (by kernel_rfl) (by kernel_rfl) (by kernel_rfl) (fun a2 h2 => ?_); clear h1
  refine pl_val (v := .int .i64 ((l.length : Nat) : Int)) h2 rfl rfl rfl (by kernel_rfl) (by kernel_rfl) (rn_len rfl rfl Try.underlying47 hs) (fun a3 h3 => ?_); clear h2
  refine pl_val (v := u) h3 rfl rfl rfl (by kernel_rfl) (by kernel_rfl) (by kernel_rfl) (fun a4 h4 => ?_); clear h3
  refine pl_val (v := .int .i64 ((l.length : Nat) : Int)) h4 rfl rfl rfl (by kernel_rfl) (by kernel_rfl) (rn_len rfl rfl Try.underlying47 hs2) (fun a5 h5 => ?_); clear h4
  refine pl_val (v := .bool (((l.length : Nat) : Int) != ((l.length : Nat) : Int))) h5 rfl rfl rfl (by kernel_rfl) (by kernel_rfl) (by kernel_rfl) (fun a6 h6 => ?_); clear h5
  refine pl_nil ?_
  refine co_then ?_
  have hc7 : (((l.length : Nat) : Int) != ((l.length : Nat) : Int)) = false := by first | (simp; done) | (simp; omega)
  rw [hc7] at h6; clear hc7
  refine co_false h6 rfl ?_
  refine wp_skip ?_
  refine co_then ?_
  refine co_seq ?_
  refine co_seq ?_
  refine co_reg ?_
  refine pl_val (v := .int .i64 0) h6 rfl rfl rfl (by kernel_rfl) (by kernel_rfl) (by kernel_rfl) (fun a8 h8 => ?_); clear h6
  refine pl_nil ?_
  refine co_then ?_
  refine wp_block ?_
  have h9 : Slots 32 [(0, v), (1, u), (4, .bool false), (5, .int .i64 0)] _ := h8.sub ⟨rfl, rfl, rfl, rfl, trivial⟩; clear h8
  refine co_loop (fun mm a x => ∃ (i : Nat), Slots 32 [(0, v), (1, u), (4, .bool false), (5, .int .i64 ((i : Nat) : Int))] a ∧ mm = l.length - i ∧ (i ≤ l.length) ∧ Below w.heap.size w x) (l.length - 0) ?_ ?_
  · exact ⟨0, h9.sub ⟨rfl, rfl, rfl, (slot_eq rfl (congrArg (Value.int .i64) (by first | rfl | omega))), trivial⟩, rfl, by omega, hB0⟩
  · rintro k10 a11 w12 ⟨i, h11, rfl, hi13, hB14⟩
    have hz15 := hB14.size
    refine co_seq ?_
    refine co_seq ?_
    refine co_reg ?_
    refine pl_val (v := .int .i64 ((i : Nat) : Int)) h11 rfl rfl rfl (by kernel_rfl) (by kernel_rfl) (by kernel_rfl) (fun a16 h16 => ?_); clear h11
    refine pl_val (v := v) h16 rfl rfl rfl (by kernel_rfl) (by kernel_rfl) (by kernel_rfl) (fun a17 h17 => ?_); clear h16
    refine pl_val (v := .int .i64 ((l.length : Nat) : Int)) h17 rfl rfl rfl (by kernel_rfl) (by kernel_rfl) (rn_len rfl rfl Try.underlying47 (hs.below hB14)) (fun a18 h18 => ?_); clear h17
    refine pl_val (v := .bool (decide (((i : Nat) : Int) < ((l.length : Nat) : Int)))) h18 rfl rfl rfl (by kernel_rfl) (by kernel_rfl) (by kernel_rfl) (fun a19 h19 => ?_); clear h18
    refine pl_val (v := .bool (decide (((i : Nat) : Int) < ((l.length : Nat) : Int)))) h19 rfl rfl rfl (by kernel_rfl) (by kernel_rfl) (by kernel_rfl) (fun a20 h20 => ?_); clear h19
    cases hc21 : (decide (((i : Nat) : Int) < ((l.length : Nat) : Int)))
    ·
      rw [hc21] at h20
      have hp22 : ¬ (((i : Nat) : Int) < ((l.length : Nat) : Int)) := of_decide_eq_false hc21
      clear hc21
      refine pl_skip h20 rfl rfl rfl (fun a23 h23 => ?_); clear h20
      refine pl_skip h23 rfl rfl rfl (fun a24 h24 => ?_); clear h23
      refine pl_skip h24 rfl rfl rfl (fun a25 h25 => ?_); clear h24
      refine pl_skip h25 rfl rfl rfl (fun a26 h26 => ?_); clear h25
      refine pl_val (v := .bool false) h26 rfl rfl rfl (by kernel_rfl) (by kernel_rfl) (by kernel_rfl) (fun a27 h27 => ?_); clear h26
      refine pl_nil ?_
      refine co_then ?_
      refine co_false h27 rfl ?_
      refine wp_exit ?_
      refine co_thenX ?_
      refine co_thenX ?_
      refine co_blockX ?_
      refine co_then ?_
      refine co_seq ?_
      refine co_reg ?_
      refine pl_val (v := .bool true) h27 rfl rfl rfl (by kernel_rfl) (by kernel_rfl) (by kernel_rfl) (fun a28 h28 => ?_); clear h27
      refine pl_nil ?_
      refine co_then ?_
      refine wp_ret ?_
      refine co_ret1 h28 rfl rfl ?_
      exact ⟨rfl, hB14⟩
    ·
      rw [hc21] at h20
      have hp29 : ((i : Nat) : Int) < ((l.length : Nat) : Int) := of_decide_eq_true hc21
      clear hc21
      refine pl_val (v := .int .i64 ((i : Nat) : Int)) h20 rfl rfl rfl (by kernel_rfl) (by kernel_rfl) (by kernel_rfl) (fun a30 h30 => ?_); clear h20
      refine pl_val (v := u) h30 rfl rfl rfl (by kernel_rfl) (by kernel_rfl) (by kernel_rfl) (fun a31 h31 => ?_); clear h30
      refine pl_val (v := .int .i64 ((l.length : Nat) : Int)) h31 rfl rfl rfl (by kernel_rfl) (by kernel_rfl) (rn_len rfl rfl Try.underlying47 (hs2.below hB14)) (fun a32 h32 => ?_); clear h31
      refine pl_val (v := .bool (decide (((i : Nat) : Int) < ((l.length : Nat) : Int)))) h32 rfl rfl rfl (by kernel_rfl) (by kernel_rfl) (by kernel_rfl) (fun a33 h33 => ?_); clear h32
      refine pl_val (v := .bool (decide (((i : Nat) : Int) < ((l.length : Nat) : Int)))) h33 rfl rfl rfl (by kernel_rfl) (by kernel_rfl) (by kernel_rfl) (fun a34 h34 => ?_); clear h33
      refine pl_nil ?_
      refine co_then ?_
      have hc35 : (decide (((i : Nat) : Int) < ((l.length : Nat) : Int))) = true := decide_eq_true (by omega)
      rw [hc35] at h34; clear hc35
      refine co_true h34 rfl ?_
      refine wp_skip ?_
      refine co_then ?_
      refine co_seq ?_
      refine wp_block ?_
      refine co_seq ?_
      refine dr_eq (by kernel_rfl) (fun w36 hg37 => ?_)
      have hB38 := hb_new hB14 hg37
      have hz39 := hB38.size
      have hz40 := hg37.size
      refine dr_take (i := 0) (v := v) h34 rfl (by kernel_rfl) (by kernel_rfl) (by kernel_rfl) rfl rfl rfl rfl (by kernel_rfl) (fun _ _ => by kernel_rfl) (fun a41 h41 => ?_); clear h34
      refine dr_take (i := 1) (v := .int .i64 ((i : Nat) : Int)) h41 rfl (by kernel_rfl) (by kernel_rfl) (by kernel_rfl) rfl rfl rfl rfl (by kernel_rfl) (fun _ _ => by kernel_rfl) (fun a42 h42 => ?_); clear h41
      obtain ⟨y43, hy43⟩ : ∃ z, l[i]? = some z := ⟨_, List.getElem?_eq_getElem (by first | omega | (simp; done) | (simp; omega))⟩
      refine dr_take (i := 2) (v := .pointer (some ⟨(blkOf v), offOf v + i * 3, none⟩)) h42 rfl (by kernel_rfl) (by kernel_rfl) (by kernel_rfl) rfl rfl rfl rfl (by kernel_rfl) (fun x hx => by subst hx; exact (rn_index rfl rfl rfl Try.underlying47 Try.sizeOf40 (hs.below hB38) (by omega) (by first | omega | (simp; done) | (simp; omega)))) (fun a44 h44 => ?_); clear h42
      refine dr_take (i := 3) (v := .agg #[.int .i64 y43.1, .int .u64 y43.2.1, .int .i64 y43.2.2]) h44 rfl (by kernel_rfl) (by kernel_rfl) (by kernel_rfl) rfl rfl rfl rfl (by kernel_rfl) (fun x hx => by subst hx; exact (rn_loadN rfl rfl Try.underlying40 rfl (by kernel_rfl) (sl_at (hs.below hB38) hy43))) (fun a45 h45 => ?_); clear h44
      refine dr_take (i := 4) (v := u) h45 rfl (by kernel_rfl) (by kernel_rfl) (by kernel_rfl) rfl rfl rfl rfl (by kernel_rfl) (fun _ _ => by kernel_rfl) (fun a46 h46 => ?_); clear h45
      refine dr_take (i := 5) (v := .int .i64 ((i : Nat) : Int)) h46 rfl (by kernel_rfl) (by kernel_rfl) (by kernel_rfl) rfl rfl rfl rfl (by kernel_rfl) (fun _ _ => by kernel_rfl) (fun a47 h47 => ?_); clear h46
      refine dr_take (i := 6) (v := .pointer (some ⟨(blkOf u), offOf u + i * 3, none⟩)) h47 rfl (by kernel_rfl) (by kernel_rfl) (by kernel_rfl) rfl rfl rfl rfl (by kernel_rfl) (fun x hx => by subst hx; exact (rn_index rfl rfl rfl Try.underlying47 Try.sizeOf40 (hs2.below hB38) (by omega) (by first | omega | (simp; done) | (simp; omega)))) (fun a48 h48 => ?_); clear h47
      refine dr_take (i := 7) (v := .agg #[.int .i64 y43.1, .int .u64 y43.2.1, .int .i64 y43.2.2]) h48 rfl (by kernel_rfl) (by kernel_rfl) (by kernel_rfl) rfl rfl rfl rfl (by kernel_rfl) (fun x hx => by subst hx; exact (rn_loadN rfl rfl Try.underlying40 rfl (by kernel_rfl) (sl_at (hs2.below hB38) hy43))) (fun a49 h49 => ?_); clear h48
      refine dr_take (i := 8) (v := .bool (!(y43.1 == y43.1 && y43.2.1 == y43.2.1 && y43.2.2 == y43.2.2))) h49 rfl (by kernel_rfl) (by kernel_rfl) (by kernel_rfl) rfl rfl rfl rfl (by kernel_rfl) (fun x hx => by subst hx; exact (rn_neS rfl rfl rfl Try.eqGuardType40 (eq_pin _ _ _ _ _ _ _))) (fun a50 h50 => ?_); clear h49
      refine dr_done (by kernel_rfl) ?_
      refine co_then ?_
      have hc51 : (!(y43.1 == y43.1 && y43.2.1 == y43.2.1 && y43.2.2 == y43.2.2)) = false := by simp
      rw [hc51] at h50; clear hc51
      refine co_false h50 rfl ?_
      refine wp_skip ?_
      refine co_blockN ?_
      refine co_then ?_
      refine co_reg ?_
      refine pl_val (v := .int .i64 ((i : Nat) : Int)) h50 rfl rfl rfl (by kernel_rfl) (by kernel_rfl) (by kernel_rfl) (fun a52 h52 => ?_); clear h50
      refine pl_val (v := .int .i64 ((i + 1 : Nat) : Int)) h52 rfl rfl rfl (by kernel_rfl) (by kernel_rfl) (rn_arith' rfl rfl rfl rfl rfl rfl (IntWalk.i64_in _ (by omega)) (by omega)) (fun a53 h53 => ?_); clear h52
      refine pl_val (v := .int .i64 ((i + 1 : Nat) : Int)) h53 rfl rfl rfl (by kernel_rfl) (by kernel_rfl) (by kernel_rfl) (fun a54 h54 => ?_); clear h53
      refine pl_nil ?_
      refine co_then ?_
      refine ⟨(l.length - (i + 1)), by omega, ?_⟩
      exact ⟨i + 1, h54.sub ⟨rfl, rfl, rfl, rfl, trivial⟩, rfl, by omega, hB38⟩
end Go.Proofs.Ytnjbnndpbegkdaa

/- Walks that may turn some blocks that were there (S). Conditions: none. -/
namespace Go.Proofs.Ytnjbnndpbegkdaa
open Go.RowKit
set_option linter.unusedVariables false

section
variable {P : Program} {n : Nat} {m : List (Nat × Value)} {w x w0 : World} {o : Oper} {N : Nat} {T : TypeId} {cs : Array Value} {S : Nat → Prop}
theorem fb_new (h : But S w0 w) (hg : w.grownBy x none) : But S w0 x := h.trans (But.of_below (grown_below hg))
theorem fb_call (h : But S w0 w) (hb : Below w.heap.size w x) : But S w0 x := h.trans (But.of_below hb)
theorem fb_at (h : But S w0 w) (hg : w.grownBy x (some N)) (hN : N < w0.heap.size → S N) : But S w0 x :=
  h.trans' (S' := fun k => some N = some k) (grown_butU hg) (fun i hi e => by cases e; exact hN hi)
theorem fb_row {B sz k : Nat} {e : TypeId} {v : Value} {xs : List Value} (h : But S w0 w) (hr : w.ownsRow B e sz v k xs) (hB : w0.heap.size ≤ B) (hg : w.grownBy x v.ownBlock) : But S w0 x :=
  h.trans' (S' := fun k => v.ownBlock = some k) (grown_butU hg) (fun i hi e => by have := (hr.lt i e).1; omega)
theorem fb_foot {S' : Nat → Prop} (h : But S w0 w) (hb : But S' w x) (hs : ∀ i, i < w0.heap.size → S' i → S i) : But S w0 x := h.trans' hb hs
theorem hb_foot {S' : Nat → Prop} (h : Below w0.heap.size w0 w) (hb : But S' w x) (hs : ∀ i, i < w.heap.size → S' i → w0.heap.size ≤ i) : Below w0.heap.size w0 x := below_but h hb h.size hs
theorem Blk.but (h : Blk w N T cs) (hb : But S w x) (hn : ¬ S N) : Blk x N T cs := by
  have hl := h.lt
  unfold Blk at h ⊢
  rw [hb.block N hl hn]; exact h
theorem own_but {B sz k : Nat} {e : TypeId} {v : Value} {xs : List Value} (h : w.ownsRow B e sz v k xs) (hb : But S w x) (hn : ∀ i, v.ownBlock = some i → ¬ S i) : x.ownsRow B e sz v k xs := by
  obtain ⟨h1, h2⟩ := h
  refine ⟨h1, ?_⟩
  rcases h2 with h2 | ⟨g, cap, cur, hv, hg, hh, r⟩
  · exact Or.inl h2
  · exact Or.inr ⟨g, cap, cur, hv, hg, by rw [hb.block g (Array.getElem?_eq_some_iff.1 hh).1 (hn g (by rw [hv]; rfl))]; exact hh, r⟩
end
end Go.Proofs.Ytnjbnndpbegkdaa

/- Objects with a footprint: what holds of them depends on the blocks in S alone; a call turns S, and what it makes joins it. Conditions: none. -/
namespace Go.Proofs.Ytnjbnndpbegkdaa
open Go.RowKit Go.PlainAid
set_option linter.unusedVariables false

/-- S' holds what S held, and what was made since; nothing but S was turned. -/
structure Grew (S S' : Nat → Prop) (w x : World) : Prop where
  sub : ∀ q, S' q → S q ∨ w.heap.size ≤ q
  but : But S w x
section
variable {S S' D : Nat → Prop} {n N : Nat} {w x : World} {v u : Value} {T e : TypeId} {cs : Array Value} {B sz k : Nat} {xs : List Value}
theorem Grew.lo {n0 : Nat} (h : Grew S S' w x) (hlo : ∀ q, S q → n0 ≤ q) (hn : n0 ≤ w.heap.size) : ∀ q, S' q → n0 ≤ q := fun q hq => by
  rcases h.sub q hq with k | k
  · exact hlo q k
  · omega
theorem Grew.off (h : Grew S S' w x) (hN : ¬ S N) (hl : N < w.heap.size) : ¬ S' N := fun hq => by
  rcases h.sub N hq with k | k
  · exact hN k
  · omega
/-- Two objects that have no block in common go on so, where one is turned. -/
theorem Grew.ap (h : Grew S S' w x) (ha : ∀ q, S q → D q → False) (hD : ∀ q, D q → q < w.heap.size) : ∀ q, S' q → D q → False := fun q h1 h2 => by
  rcases h.sub q h1 with k | k
  · exact ha q k h2
  · have := hD q h2; omega
theorem row_sameL (h : w.ownsRow B e sz v k xs) (hk : ∀ i, v.ownBlock = some i → x.heap[i]? = w.heap[i]?) : x.ownsRow B e sz v k xs := by
  refine ⟨h.1, ?_⟩
  rcases h.2 with h1 | ⟨g, c, cur, rfl, hg, hh, h3⟩
  · exact .inl h1
  · exact .inr ⟨g, c, cur, rfl, hg, by rw [hk g rfl]; exact hh, h3⟩
end
end Go.Proofs.Ytnjbnndpbegkdaa

/- Package mstate: one that nobody made. Conditions: none. -/
namespace Go.Proofs.Ytnjbnndpbegkdaa
open Go.RowKit Go.PlainAid
set_option linter.unusedVariables false
set_option linter.unusedSimpArgs false


def mxI (a b : Int) : Int := if a < b then b else a
theorem mxI_p (a b : Int) : mxI a b ≥ a ∧ mxI a b ≥ b ∧ (mxI a b = a ∨ mxI a b = b) := by unfold mxI; split <;> omega
theorem sl_butS {α : Type} {enc : α → List Value} {sz : Nat} {w x : World} {v : Value} {l : List α} {S : Nat → Prop} (h : SliceOf enc sz w v l) (hb : But S w x) (hv : l ≠ [] → ∀ k, v.ownBlock = some k → ¬ S k) : SliceOf enc sz x v l := by
  obtain ⟨ao, cap, rfl, h1, h2, h3, h4⟩ := h
  refine ⟨ao, cap, rfl, h1, h2, h3, fun j hj => ?_⟩
  obtain ⟨b, off, rfl, hr⟩ := h4 j hj
  exact ⟨b, off, rfl, fun i u hu => hb.cell (hv (fun e => by rw [e] at hj; exact absurd hj (by simp)) b rfl) (hr i u hu)⟩
theorem co_unroll {P : Program} {c : Code} {Q : Exit → Act → World → Prop} {n : Nat} {a : Act} {w : World} (h : c.wp P (Exit.then (Code.rounds P c Q n) Q) a w) : Code.rounds P c Q (n + 1) a w := h

end Go.Proofs.Ytnjbnndpbegkdaa

/- Package mstate: New, pin. Conditions: at most three pins. -/
namespace Go.Proofs.Ytnjbnndpbegkdaa
open Go.RowKit Go.PlainAid
set_option linter.unusedVariables false
set_option linter.unusedSimpArgs false


abbrev SdT := Bool × Int × Int × Int × Int
theorem renewP_le (l : List PinT) (id : Int) : (renewP l id).1.length ≤ 3 ∨ ¬ l.length ≤ 3 := by
  by_cases h : l.length ≤ 3
  · left; unfold renewP; split
    · simp
    · simp; exact h
  · exact .inr h
theorem grantP_le (l : List PinT) (id ts : Int) : (grantP l id ts).1.length ≤ 3 ∨ ¬ l.length ≤ 3 := by
  left; unfold grantP
  split
  · simp
  · split
    · simp
    · split
      · simp
      · rw [List.length_append]; simp; omega
theorem freeP_le (l : List PinT) (id : Int) : (freeP l id).1.length ≤ 3 ∨ ¬ l.length ≤ 3 := by
  by_cases h : l.length ≤ 3
  · left; unfold freeP; split
    · simp
    · rw [List.length_append, List.length_take, List.length_drop]; have := findP_lt l id; omega
  · exact .inr h
/-- What a pin comes to: the answer, the pins, the greatest Id. -/
def pnF (pn : List PinT) (hz tp id at_ : Int) : Int × List PinT × Int :=
  if (renewP pn id).2 = 0 then (0, (renewP pn id).1, tp) else if (pn.length : Int) ≥ 3 then (17, pn, tp) else if id ≤ tp then (18, pn, tp) else if at_ < hz then (13, pn, tp)
  else if (grantP pn id at_).2 ≠ 0 then ((grantP pn id at_).2, pn, tp) else (0, (grantP pn id at_).1, id)
/-- What a note comes to, that is of no configuration, member or client. -/
def apF (pn : List PinT) (hz tp : Int) (d : NoteD) : Int × Int × List PinT × Int :=
  if chkN d ≠ 0 then (chkN d, hz, pn, tp) else if d.k = 4 then (if d.t < hz then (18, hz, pn, tp) else (0, d.t, pn, tp))
  else if d.k = 6 then ((pnF pn hz tp d.pid d.pat).1, hz, (pnF pn hz tp d.pid d.pat).2.1, (pnF pn hz tp d.pid d.pat).2.2)
  else if d.k = 7 then (0, hz, if (freeP pn d.n).2 = 0 then (freeP pn d.n).1 else pn, mxI tp d.n) else (11, hz, pn, tp)

set_option maxRecDepth 100000 in
theorem mszeroT (b : Nat) (ep : Int) (cv : Value) (fl : Int) (lgv : Value) (hz : Int) (pv : Value) (tp : Int) (x0 : SdT) (x1 : SdT) (x2 : SdT) (w : World) (hb : Blk w b 66 #[.bool true, .int .i64 ep, cv, .int .u64 fl, lgv, .int .u64 hz, pv, .int .i64 tp, .bool x0.1, .int .i64 x0.2.1, .int .i64 x0.2.2.1, .int .i64 x0.2.2.2.1, .int .i64 x0.2.2.2.2, .bool x1.1, .int .i64 x1.2.1, .int .i64 x1.2.2.1, .int .i64 x1.2.2.2.1, .int .i64 x1.2.2.2.2, .bool x2.1, .int .i64 x2.2.1, .int .i64 x2.2.2.1, .int .i64 x2.2.2.2.1, .int .i64 x2.2.2.2.2]) :
    Calls Try.prog 19 #[pt b 0] w fun e w' => e = .returned (.bool false) ∧ Below w.heap.size w w' := by
 have hB0 := Below.refl w.heap.size w
 have hl_hb := hb.lt
 refine co_enter (n := 12) Try.func19 rfl rfl rfl [(0, pt b 0)] rfl (fun a h0 => ?_)
 refine co_seq ?_
 refine co_reg ?_
 refine pk0 (v := .bool false) h0 rfl fun a1 h1 => ?_; clear h0
 refine pl_nil ?_
 refine co_then ?_
 refine co_seq ?_
 refine co_reg ?_
 refine pk0 (v := pt b 0) h1 rfl fun a2 h2 => ?_; clear h1
 refine pk0 (v := .bool false) h2 rfl fun a3 h3 => ?_; clear h2
 refine pk0 (v := .bool false) h3 rfl fun a4 h4 => ?_; clear h3
 refine pk0 (v := pt b 0) h4 rfl fun a5 h5 => ?_; clear h4
 refine pk0 (v := pt b 0) h5 rfl fun a6 h6 => ?_; clear h5
 refine pk0 (v := pt b 0) h6 rfl fun a7 h7 => ?_; clear h6
 refine pk (v := .bool true) h7 rfl (rn_load1 rfl rfl Try.isAgg4 (hb.cell rfl)) fun a8 h8 => ?_; clear h7
 refine pk0 (v := .bool false) h8 rfl fun a9 h9 => ?_; clear h8
 refine pk0 (v := .bool false) h9 rfl fun a10 h10 => ?_; clear h9
 refine pk0 (v := .bool false) h10 rfl fun a11 h11 => ?_; clear h10
 refine pl_nil ?_
 refine co_then ?_
 refine wp_ret ?_
 refine co_ret1 h11 rfl rfl ?_
 exact ⟨rfl, hB0⟩
set_option maxRecDepth 100000 in
theorem msNew_any  (w : World)  :
    Calls Try.prog 7 #[] w fun e w' => ∃ (N : Nat), e = .returned (pt N 0) ∧ Blk w' N 66 #[.bool true, .int .i64 0, .slice none 0 0, .int .u64 0, .slice none 0 0, .int .u64 0, .slice none 0 0, .int .i64 0, .bool false, .int .i64 0, .int .i64 0, .int .i64 0, .int .i64 0, .bool false, .int .i64 0, .int .i64 0, .int .i64 0, .int .i64 0, .bool false, .int .i64 0, .int .i64 0, .int .i64 0, .int .i64 0] ∧ w.heap.size ≤ N ∧ Below w.heap.size w w' := by
 have hB0 := Below.refl w.heap.size w
 refine co_enter (n := 3) Try.func7 rfl rfl rfl [] rfl (fun a h0 => ?_)
 refine co_seq ?_
 refine co_reg ?_
 refine pk0 (v := .pointer none) h0 rfl fun a1 h1 => ?_; clear h0
 refine pl_nil ?_
 refine co_then ?_
 refine co_seq ?_
 refine co_reg ?_
 refine pk0 (v := .agg #[.bool true, .int .i64 0, .slice none 0 0, .int .u64 0, .slice none 0 0, .int .u64 0, .slice none 0 0, .int .i64 0, .bool false, .int .i64 0, .int .i64 0, .int .i64 0, .int .i64 0, .bool false, .int .i64 0, .int .i64 0, .int .i64 0, .int .i64 0, .bool false, .int .i64 0, .int .i64 0, .int .i64 0, .int .i64 0]) h1 rfl fun a2 h2 => ?_; clear h1
 refine pw h2 rfl (op_new (v := fun N => pt N 0) (T := 66) (cs := #[.bool true, .int .i64 0, .slice none 0 0, .int .u64 0, .slice none 0 0, .int .u64 0, .slice none 0 0, .int .i64 0, .bool false, .int .i64 0, .int .i64 0, .int .i64 0, .int .i64 0, .bool false, .int .i64 0, .int .i64 0, .int .i64 0, .int .i64 0, .bool false, .int .i64 0, .int .i64 0, .int .i64 0, .int .i64 0]) (by kernel_rfl) (by kernel_rfl) (by kernel_rfl)) ?_; clear h2
 rintro _ w4 a3 ⟨N5, rfl, hN8, hz9, hk7, hg6⟩ h3
 have hz10 := hg6.size
 try dsimp only at h3
 refine pk0 (v := pt N5 0) h3 rfl fun a11 h11 => ?_; clear h3
 refine pl_nil ?_
 refine co_then ?_
 refine wp_ret ?_
 refine co_ret1 h11 rfl rfl ?_
 have hB12 := hb_new hB0 hg6
 exact ⟨_, rfl, hk7, by omega, hB12⟩
set_option maxRecDepth 100000 in
theorem msPin_any (b : Nat) (ep : Int) (cv : Value) (fl : Int) (lgv : Value) (hz : Int) (pv : Value) (pn : List PinT) (tp : Int) (x0 : SdT) (x1 : SdT) (x2 : SdT) (id : Int) (at_ : Int) (lf : Int) (w : World) (hb : Blk w b 66 #[.bool true, .int .i64 ep, cv, .int .u64 fl, lgv, .int .u64 hz, pv, .int .i64 tp, .bool x0.1, .int .i64 x0.2.1, .int .i64 x0.2.2.1, .int .i64 x0.2.2.2.1, .int .i64 x0.2.2.2.2, .bool x1.1, .int .i64 x1.2.1, .int .i64 x1.2.2.1, .int .i64 x1.2.2.2.1, .int .i64 x1.2.2.2.2, .bool x2.1, .int .i64 x2.2.1, .int .i64 x2.2.2.1, .int .i64 x2.2.2.2.1, .int .i64 x2.2.2.2.2]) (hpn : w.ownsRow 0 40 3 pv pn.length (pn.flatMap pinE)) (hp3 : pn.length ≤ 3) :
    Calls Try.prog 23 #[pt b 0, .agg #[.int .i64 id, .int .u64 at_, .int .i64 lf]] w fun e w' => ∃ (pv2 : Value), e = .returned (.int .i64 ((pnF pn hz tp id at_).1)) ∧ Blk w' b 66 #[.bool true, .int .i64 ep, cv, .int .u64 fl, lgv, .int .u64 hz, pv2, .int .i64 ((pnF pn hz tp id at_).2.2), .bool x0.1, .int .i64 x0.2.1, .int .i64 x0.2.2.1, .int .i64 x0.2.2.2.1, .int .i64 x0.2.2.2.2, .bool x1.1, .int .i64 x1.2.1, .int .i64 x1.2.2.1, .int .i64 x1.2.2.2.1, .int .i64 x1.2.2.2.2, .bool x2.1, .int .i64 x2.2.1, .int .i64 x2.2.2.1, .int .i64 x2.2.2.2.1, .int .i64 x2.2.2.2.2] ∧ w'.ownsRow 0 40 3 pv2 ((pnF pn hz tp id at_).2.1).length (((pnF pn hz tp id at_).2.1).flatMap pinE) ∧ ((pnF pn hz tp id at_).2.1).length ≤ 3 ∧ But (fun q => q = b) w w' := by
 have hB0 := But.refl (fun q => q = b) w
 have hl_hb := hb.lt
 refine co_enter (n := 69) Try.func23 rfl rfl rfl [(0, pt b 0), (1, .agg #[.int .i64 id, .int .u64 at_, .int .i64 lf])] rfl (fun a h0 => ?_)
 refine co_seq ?_
 refine co_reg ?_
 refine pw h0 rfl (op_new (v := fun N => pt N 0) (T := 40) (cs := #[.int .i64 id, .int .u64 at_, .int .i64 lf]) (by kernel_rfl) (by kernel_rfl) (by kernel_rfl)) ?_; clear h0
 rintro _ w2 a1 ⟨N3, rfl, hN6, hz7, hk5, hg4⟩ h1
 have ha8 := row_fresh hpn hN6
 have hz9 := hg4.size
 try dsimp only at h1
 refine pk0 (v := .int .i64 0) h1 rfl fun a10 h10 => ?_; clear h1
 refine pl_nil ?_
 refine co_then ?_
 refine co_seq ?_
 refine co_seq ?_
 refine dr_gen (fun x => But (fun q => q = b) w x ∧ Blk x b 66 #[.bool true, .int .i64 ep, cv, .int .u64 fl, lgv, .int .u64 hz, pv, .int .i64 tp, .bool x0.1, .int .i64 x0.2.1, .int .i64 x0.2.2.1, .int .i64 x0.2.2.2.1, .int .i64 x0.2.2.2.2, .bool x1.1, .int .i64 x1.2.1, .int .i64 x1.2.2.1, .int .i64 x1.2.2.2.1, .int .i64 x1.2.2.2.2, .bool x2.1, .int .i64 x2.2.1, .int .i64 x2.2.2.1, .int .i64 x2.2.2.2.1, .int .i64 x2.2.2.2.2] ∧ Blk x N3 40 #[.int .i64 id, .int .u64 at_, .int .i64 lf]) (by kernel_rfl) (fun w11 hg12 => ?_) (fun w11 hg12 => ?_)
 ·
  have hz13 := hg12.size
  have hB14 := fb_new hB0 hg4
  have hB15 := fb_new hB14 hg12
  have hk16 := hb.kept hg4 (by simp)
  have hk17 := hk16.kept hg12 (by simp)
  have hk18 := hk5.kept hg12 (by simp)
  exact ⟨hB15, hk17, hk18⟩
 have hz19 := hg12.size
 have hB20 := fb_new hB0 hg4
 have hB21 := fb_new hB20 hg12
 have hk22 := hb.kept hg4 (by simp)
 have hk23 := hk22.kept hg12 (by simp)
 have hk24 := hk5.kept hg12 (by simp)
 refine dk0 0 (v := pt b 0) h10 rfl rfl ⟨hB21, hk23, hk24⟩ fun a25 h25 => ?_; clear h10
 refine dk0 1 (v := pt b 0) h25 rfl rfl ⟨hB21, hk23, hk24⟩ fun a26 h26 => ?_; clear h25
 refine dk0 2 (v := pt b 6) h26 rfl rfl ⟨hB21, hk23, hk24⟩ fun a27 h27 => ?_; clear h26
 refine dk 3 (v := pv) h27 rfl rfl ⟨hB21, hk23, hk24⟩ (fun x hx => (rn_load1 rfl rfl Try.isAgg47 (hx.2.1.cell rfl))) fun a28 h28 => ?_; clear h27
 refine dk0 4 (v := pt N3 0) h28 rfl rfl ⟨hB21, hk23, hk24⟩ fun a29 h29 => ?_; clear h28
 refine dk 5 (v := .int .i64 id) h29 rfl rfl ⟨hB21, hk23, hk24⟩ (fun x hx => (rn_load1 rfl rfl Try.isAgg3 (hx.2.2.cell rfl))) fun a30 h30 => ?_; clear h29
 have hr33 := row_kept_new hpn hg4
 have hr34 := row_kept_new hr33 hg12
 refine d1 6 h30 rfl rfl (op_call (args := #[pv, .int .i64 id]) (R := fun res xw => ∃ u : Value, res = .tuple #[u, .int .i64 ((renewP pn id).2)] ∧ xw.ownsRow w11.heap.size 40 3 u ((renewP pn id).1).length (((renewP pn id).1).flatMap pinE) ∧ Below w11.heap.size w11 xw) rfl rfl rfl (by kernel_rfl) (by kernel_rfl) (Try.call52 _ _) (leaseRenew_any pv pn id (renewP pn id).1 (renewP pn id).2 w11 (row_sl hr34 pinE_len) (by omega) rfl) (by rintro e x ⟨u, rfl, h⟩; exact ⟨_, rfl, u, rfl, h⟩)) ?_ ?_; clear h30
 ·
  rintro _ w32 ⟨u35, rfl, hr36, hb37⟩
  have hz41 := hb37.size
  have hle42 := renewP_le pn id
  have hB43 := fb_call hB21 hb37
  have hk44 := hk23.below hb37
  have hk45 := hk24.below hb37
  exact ⟨hB43, hk44, hk45⟩
 rintro _ w32 a31 ⟨u35, rfl, hr36, hb37⟩ h31
 have hz41 := hb37.size
 have hle42 := renewP_le pn id
 have hB43 := fb_call hB21 hb37
 have hk44 := hk23.below hb37
 have hk45 := hk24.below hb37
 refine dk0 7 (v := .tuple #[u35, .int .i64 ((renewP pn id).2)]) h31 rfl rfl ⟨hB43, hk44, hk45⟩ fun a46 h46 => ?_; clear h31
 refine dk0 8 (v := u35) h46 rfl rfl ⟨hB43, hk44, hk45⟩ fun a47 h47 => ?_; clear h46
 refine dk0 9 (v := .int .i64 ((renewP pn id).2)) h47 rfl rfl ⟨hB43, hk44, hk45⟩ fun a48 h48 => ?_; clear h47
 refine dk0 10 (v := u35) h48 rfl rfl ⟨hB43, hk44, hk45⟩ fun a49 h49 => ?_; clear h48
 refine dk0 11 (v := .int .i64 ((renewP pn id).2)) h49 rfl rfl ⟨hB43, hk44, hk45⟩ fun a50 h50 => ?_; clear h49
 refine dr_done (by kernel_rfl) ?_
 refine co_then ?_
 refine co_seq ?_
 refine co_reg ?_
 refine pk0 (v := .int .i64 ((renewP pn id).2)) h50 rfl fun a51 h51 => ?_; clear h50
 refine pk0 (v := .bool ((renewP pn id).2 == 0)) h51 rfl fun a52 h52 => ?_; clear h51
 refine pl_nil ?_
 refine co_then ?_
 cases hc53 : ((renewP pn id).2 == 0)
 ·
  rw [hc53] at h52
  have hp54 : ¬ ((renewP pn id).2 = 0) := by first | simpa using hc53 | simpa [and_assoc] using hc53
  clear hc53
  refine co_false h52 rfl ?_
  refine wp_skip ?_
  refine co_then ?_
  refine co_seq ?_
  refine co_seq ?_
  refine co_reg ?_
  refine pk0 (v := pt b 0) h52 rfl fun a55 h55 => ?_; clear h52
  refine pk0 (v := pt b 0) h55 rfl fun a56 h56 => ?_; clear h55
  refine pk0 (v := pt b 6) h56 rfl fun a57 h57 => ?_; clear h56
  refine pk (v := pv) h57 rfl (rn_load1 rfl rfl Try.isAgg47 (hk44.cell rfl)) fun a58 h58 => ?_; clear h57
  have hr59 := row_kept_new hr34 (below_grown hb37)
  refine pk (v := .int .i64 ((pn.length : Nat) : Int)) h58 rfl (rn_lenOwn rfl rfl Try.underlying47 hr59) fun a60 h60 => ?_; clear h58
  refine pk0 (v := .bool (decide (((pn.length : Nat) : Int) ≥ 3))) h60 rfl fun a61 h61 => ?_; clear h60
  refine pl_nil ?_
  refine co_then ?_
  cases hc62 : (decide (((pn.length : Nat) : Int) ≥ 3))
  ·
   rw [hc62] at h61
   have hp63 : ¬ (((pn.length : Nat) : Int) ≥ 3) := of_decide_eq_false hc62
   clear hc62
   refine co_false h61 rfl ?_
   refine wp_skip ?_
   refine co_then ?_
   refine co_seq ?_
   refine co_seq ?_
   refine dr_eq (by kernel_rfl) (fun w64 hg65 => ?_)
   have hz66 := hg65.size
   refine dk0 0 (v := pt N3 0) h61 rfl rfl rfl fun a67 h67 => ?_; clear h61
   have hk68 := hk45.kept hg65 (by simp)
   refine dk 1 (v := .int .i64 id) h67 rfl rfl rfl (fun x hx => by subst hx; exact (rn_load1 rfl rfl Try.isAgg3 (hk68.cell rfl))) fun a69 h69 => ?_; clear h67
   refine dk0 2 (v := pt b 0) h69 rfl rfl rfl fun a70 h70 => ?_; clear h69
   refine dk0 3 (v := pt b 0) h70 rfl rfl rfl fun a71 h71 => ?_; clear h70
   refine dk0 4 (v := pt b 7) h71 rfl rfl rfl fun a72 h72 => ?_; clear h71
   have hk73 := hk44.kept hg65 (by simp)
   refine dk 5 (v := .int .i64 tp) h72 rfl rfl rfl (fun x hx => by subst hx; exact (rn_load1 rfl rfl Try.isAgg3 (hk73.cell rfl))) fun a74 h74 => ?_; clear h72
   refine dk0 6 (v := .bool (decide (id ≤ tp))) h74 rfl rfl rfl fun a75 h75 => ?_; clear h74
   refine dr_done (by kernel_rfl) ?_
   refine co_then ?_
   have hB77 := fb_new hB43 hg65
   cases hc76 : (decide (id ≤ tp))
   ·
    rw [hc76] at h75
    have hp78 : ¬ (id ≤ tp) := of_decide_eq_false hc76
    clear hc76
    refine co_false h75 rfl ?_
    refine wp_skip ?_
    refine co_then ?_
    refine co_seq ?_
    refine co_seq ?_
    refine dr_eq (by kernel_rfl) (fun w79 hg80 => ?_)
    have hz81 := hg80.size
    refine dk0 0 (v := pt N3 1) h75 rfl rfl rfl fun a82 h82 => ?_; clear h75
    have hk83 := hk68.kept hg80 (by simp)
    refine dk 1 (v := .int .u64 at_) h82 rfl rfl rfl (fun x hx => by subst hx; exact (rn_load1 rfl rfl Try.isAgg29 (hk83.cell rfl))) fun a84 h84 => ?_; clear h82
    refine dk0 2 (v := pt b 0) h84 rfl rfl rfl fun a85 h85 => ?_; clear h84
    refine dk0 3 (v := pt b 0) h85 rfl rfl rfl fun a86 h86 => ?_; clear h85
    refine dk0 4 (v := pt b 5) h86 rfl rfl rfl fun a87 h87 => ?_; clear h86
    have hk88 := hk73.kept hg80 (by simp)
    refine dk 5 (v := .int .u64 hz) h87 rfl rfl rfl (fun x hx => by subst hx; exact (rn_load1 rfl rfl Try.isAgg29 (hk88.cell rfl))) fun a89 h89 => ?_; clear h87
    refine dk0 6 (v := .bool (decide (at_ < hz))) h89 rfl rfl rfl fun a90 h90 => ?_; clear h89
    refine dr_done (by kernel_rfl) ?_
    refine co_then ?_
    have hB92 := fb_new hB77 hg80
    have hr93 := row_kept_new hr59 hg65
    have hr94 := row_kept_new hr93 hg80
    have hr95 := row_kept_new hr36 hg65
    have hr96 := row_kept_new hr95 hg80
    cases hc91 : (decide (at_ < hz))
    ·
     rw [hc91] at h90
     have hp97 : ¬ (at_ < hz) := of_decide_eq_false hc91
     clear hc91
     refine co_false h90 rfl ?_
     refine wp_skip ?_
     refine co_then ?_
     refine co_seq ?_
     refine dr_gen (fun x => But (fun q => q = b) w x ∧ Blk x b 66 #[.bool true, .int .i64 ep, cv, .int .u64 fl, lgv, .int .u64 hz, pv, .int .i64 tp, .bool x0.1, .int .i64 x0.2.1, .int .i64 x0.2.2.1, .int .i64 x0.2.2.2.1, .int .i64 x0.2.2.2.2, .bool x1.1, .int .i64 x1.2.1, .int .i64 x1.2.2.1, .int .i64 x1.2.2.2.1, .int .i64 x1.2.2.2.2, .bool x2.1, .int .i64 x2.2.1, .int .i64 x2.2.2.1, .int .i64 x2.2.2.2.1, .int .i64 x2.2.2.2.2] ∧ Blk x N3 40 #[.int .i64 id, .int .u64 at_, .int .i64 lf]) (by kernel_rfl) (fun w98 hg99 => ?_) (fun w98 hg99 => ?_)
     ·
      have hz100 := hg99.size
      have hB101 := fb_new hB92 hg99
      have hk102 := hk88.kept hg99 (by simp)
      have hk103 := hk83.kept hg99 (by simp)
      exact ⟨hB101, hk102, hk103⟩
     have hz104 := hg99.size
     have hB105 := fb_new hB92 hg99
     have hk106 := hk88.kept hg99 (by simp)
     have hk107 := hk83.kept hg99 (by simp)
     refine dk0 0 (v := pt b 0) h90 rfl rfl ⟨hB105, hk106, hk107⟩ fun a108 h108 => ?_; clear h90
     refine dk0 1 (v := pt b 0) h108 rfl rfl ⟨hB105, hk106, hk107⟩ fun a109 h109 => ?_; clear h108
     refine dk0 2 (v := pt b 6) h109 rfl rfl ⟨hB105, hk106, hk107⟩ fun a110 h110 => ?_; clear h109
     refine dk 3 (v := pv) h110 rfl rfl ⟨hB105, hk106, hk107⟩ (fun x hx => (rn_load1 rfl rfl Try.isAgg47 (hx.2.1.cell rfl))) fun a111 h111 => ?_; clear h110
     refine dk0 4 (v := pt N3 0) h111 rfl rfl ⟨hB105, hk106, hk107⟩ fun a112 h112 => ?_; clear h111
     refine dk 5 (v := .int .i64 id) h112 rfl rfl ⟨hB105, hk106, hk107⟩ (fun x hx => (rn_load1 rfl rfl Try.isAgg3 (hx.2.2.cell rfl))) fun a113 h113 => ?_; clear h112
     refine dk0 6 (v := pt N3 1) h113 rfl rfl ⟨hB105, hk106, hk107⟩ fun a114 h114 => ?_; clear h113
     refine dk 7 (v := .int .u64 at_) h114 rfl rfl ⟨hB105, hk106, hk107⟩ (fun x hx => (rn_load1 rfl rfl Try.isAgg29 (hx.2.2.cell rfl))) fun a115 h115 => ?_; clear h114
     have hr124 := row_kept_new hr94 hg99
     refine d1 8 h115 rfl rfl (op_call (args := #[pv, .int .i64 id, .int .u64 at_]) (R := fun res xw => ∃ u : Value, res = .tuple #[u, .int .i64 ((grantP pn id at_).2)] ∧ xw.ownsRow w98.heap.size 40 3 u ((grantP pn id at_).1).length (((grantP pn id at_).1).flatMap pinE) ∧ Below w98.heap.size w98 xw) rfl rfl rfl (by kernel_rfl) (by kernel_rfl) (Try.call53 _ _) (leaseGrant_any pv pn id at_ (grantP pn id at_).1 (grantP pn id at_).2 w98 (row_sl hr124 pinE_len) (by omega) rfl) (by rintro e x ⟨u, rfl, h⟩; exact ⟨_, rfl, u, rfl, h⟩)) ?_ ?_; clear h115
     ·
      rintro _ w117 ⟨u118, rfl, hr119, hb120⟩
      have hz125 := hb120.size
      have hle126 := grantP_le pn id at_
      have hB127 := fb_call hB105 hb120
      have hk128 := hk106.below hb120
      have hk129 := hk107.below hb120
      exact ⟨hB127, hk128, hk129⟩
     rintro _ w117 a116 ⟨u118, rfl, hr119, hb120⟩ h116
     have hz125 := hb120.size
     have hle126 := grantP_le pn id at_
     have hB127 := fb_call hB105 hb120
     have hk128 := hk106.below hb120
     have hk129 := hk107.below hb120
     refine dk0 9 (v := .tuple #[u118, .int .i64 ((grantP pn id at_).2)]) h116 rfl rfl ⟨hB127, hk128, hk129⟩ fun a130 h130 => ?_; clear h116
     refine dk0 10 (v := u118) h130 rfl rfl ⟨hB127, hk128, hk129⟩ fun a131 h131 => ?_; clear h130
     refine dk0 11 (v := .int .i64 ((grantP pn id at_).2)) h131 rfl rfl ⟨hB127, hk128, hk129⟩ fun a132 h132 => ?_; clear h131
     refine dk0 12 (v := u118) h132 rfl rfl ⟨hB127, hk128, hk129⟩ fun a133 h133 => ?_; clear h132
     refine dk0 13 (v := .int .i64 ((grantP pn id at_).2)) h133 rfl rfl ⟨hB127, hk128, hk129⟩ fun a134 h134 => ?_; clear h133
     refine dr_done (by kernel_rfl) ?_
     refine co_then ?_
     refine co_seq ?_
     refine co_seq ?_
     refine co_reg ?_
     refine pk0 (v := .int .i64 ((grantP pn id at_).2)) h134 rfl fun a135 h135 => ?_; clear h134
     refine pk0 (v := .bool ((grantP pn id at_).2 != 0)) h135 rfl fun a136 h136 => ?_; clear h135
     refine pl_nil ?_
     refine co_then ?_
     have hr138 := row_kept_new hr96 hg99
     have hr139 := row_kept_new hr138 (below_grown hb120)
     cases hc137 : ((grantP pn id at_).2 != 0)
     ·
      rw [hc137] at h136
      have hp140 : ¬ ((grantP pn id at_).2 ≠ 0) := by first | simpa using hc137 | simpa [and_assoc] using hc137
      clear hc137
      refine co_false h136 rfl ?_
      refine wp_skip ?_
      refine co_then ?_
      refine co_seq ?_
      refine dr_gen (fun x => But (fun q => q = b) w x ∧ Blk x N3 40 #[.int .i64 id, .int .u64 at_, .int .i64 lf]) (by kernel_rfl) (fun w141 hg142 => ?_) (fun w141 hg142 => ?_)
      ·
       have hz143 := hg142.size
       have hB144 := fb_new hB127 hg142
       have hk145 := hk129.kept hg142 (by simp)
       exact ⟨hB144, hk145⟩
      have hz146 := hg142.size
      have hB147 := fb_new hB127 hg142
      have hk148 := hk129.kept hg142 (by simp)
      refine dk0 0 (v := pt b 0) h136 rfl rfl ⟨hB147, hk148⟩ fun a149 h149 => ?_; clear h136
      refine dk0 1 (v := pt b 0) h149 rfl rfl ⟨hB147, hk148⟩ fun a150 h150 => ?_; clear h149
      refine dk0 2 (v := u118) h150 rfl rfl ⟨hB147, hk148⟩ fun a151 h151 => ?_; clear h150
      refine dk0 3 (v := pt N3 0) h151 rfl rfl ⟨hB147, hk148⟩ fun a152 h152 => ?_; clear h151
      refine dk 4 (v := .int .i64 id) h152 rfl rfl ⟨hB147, hk148⟩ (fun x hx => (rn_load1 rfl rfl Try.isAgg3 (hx.2.cell rfl))) fun a153 h153 => ?_; clear h152
      refine dk0 5 (v := pt b 0) h153 rfl rfl ⟨hB147, hk148⟩ fun a154 h154 => ?_; clear h153
      refine dk0 6 (v := pt b 6) h154 rfl rfl ⟨hB147, hk148⟩ fun a155 h155 => ?_; clear h154
      have hr161 := row_kept_new hr119 hg142
      have hk162 := hk128.kept hg142 (by simp)
      refine d1D 7 h155 rfl rfl (op_store1 rfl rfl rfl (row_one hr161) Try.sizeOf47 hk162 rfl) ?_ ?_; clear h155
      ·
       rintro _ w157 ⟨hk158, hz159, hg160⟩
       have hk158' : Blk w157 b 66 #[.bool true, .int .i64 ep, cv, .int .u64 fl, lgv, .int .u64 hz, u118, .int .i64 tp, .bool x0.1, .int .i64 x0.2.1, .int .i64 x0.2.2.1, .int .i64 x0.2.2.2.1, .int .i64 x0.2.2.2.2, .bool x1.1, .int .i64 x1.2.1, .int .i64 x1.2.2.1, .int .i64 x1.2.2.2.1, .int .i64 x1.2.2.2.2, .bool x2.1, .int .i64 x2.2.1, .int .i64 x2.2.2.1, .int .i64 x2.2.2.2.1, .int .i64 x2.2.2.2.2] := hk158; clear hk158
       have hz163 := hg160.size
       have hB164 := fb_at hB147 hg160 (fun hlt => by first | (exfalso; omega) | (simp; done) | simp_all)
       have hk165 := hk148.kept hg160 (by simp; omega)
       exact ⟨hB164, hk165⟩
      rintro _ w157 a156 ⟨hk158, hz159, hg160⟩ h156
      have hk158' : Blk w157 b 66 #[.bool true, .int .i64 ep, cv, .int .u64 fl, lgv, .int .u64 hz, u118, .int .i64 tp, .bool x0.1, .int .i64 x0.2.1, .int .i64 x0.2.2.1, .int .i64 x0.2.2.2.1, .int .i64 x0.2.2.2.2, .bool x1.1, .int .i64 x1.2.1, .int .i64 x1.2.2.1, .int .i64 x1.2.2.2.1, .int .i64 x1.2.2.2.2, .bool x2.1, .int .i64 x2.2.1, .int .i64 x2.2.2.1, .int .i64 x2.2.2.2.1, .int .i64 x2.2.2.2.2] := hk158; clear hk158
      have hz163 := hg160.size
      have hB164 := fb_at hB147 hg160 (fun hlt => by first | (exfalso; omega) | (simp; done) | simp_all)
      have hk165 := hk148.kept hg160 (by simp; omega)
      refine dk0 8 (v := pt b 0) h156 rfl rfl ⟨hB164, hk165⟩ fun a166 h166 => ?_; clear h156
      refine dk0 9 (v := pt b 7) h166 rfl rfl ⟨hB164, hk165⟩ fun a167 h167 => ?_; clear h166
      refine d1D 10 h167 rfl rfl (op_store1 rfl rfl rfl rfl Try.sizeOf3 hk158' rfl) ?_ ?_; clear h167
      ·
       rintro _ w169 ⟨hk170, hz171, hg172⟩
       have hk170' : Blk w169 b 66 #[.bool true, .int .i64 ep, cv, .int .u64 fl, lgv, .int .u64 hz, u118, .int .i64 id, .bool x0.1, .int .i64 x0.2.1, .int .i64 x0.2.2.1, .int .i64 x0.2.2.2.1, .int .i64 x0.2.2.2.2, .bool x1.1, .int .i64 x1.2.1, .int .i64 x1.2.2.1, .int .i64 x1.2.2.2.1, .int .i64 x1.2.2.2.2, .bool x2.1, .int .i64 x2.2.1, .int .i64 x2.2.2.1, .int .i64 x2.2.2.2.1, .int .i64 x2.2.2.2.2] := hk170; clear hk170
       have hz173 := hg172.size
       have hB174 := fb_at hB164 hg172 (fun hlt => by first | (exfalso; omega) | (simp; done) | simp_all)
       have hk175 := hk165.kept hg172 (by simp; omega)
       exact ⟨hB174, hk175⟩
      rintro _ w169 a168 ⟨hk170, hz171, hg172⟩ h168
      have hk170' : Blk w169 b 66 #[.bool true, .int .i64 ep, cv, .int .u64 fl, lgv, .int .u64 hz, u118, .int .i64 id, .bool x0.1, .int .i64 x0.2.1, .int .i64 x0.2.2.1, .int .i64 x0.2.2.2.1, .int .i64 x0.2.2.2.2, .bool x1.1, .int .i64 x1.2.1, .int .i64 x1.2.2.1, .int .i64 x1.2.2.2.1, .int .i64 x1.2.2.2.2, .bool x2.1, .int .i64 x2.2.1, .int .i64 x2.2.2.1, .int .i64 x2.2.2.2.1, .int .i64 x2.2.2.2.2] := hk170; clear hk170
      have hz173 := hg172.size
      refine dr_done (by kernel_rfl) ?_
      refine co_then ?_
      refine co_seq ?_
      refine co_reg ?_
      refine pk0 (v := .int .i64 0) h168 rfl fun a174 h174 => ?_; clear h168
      refine pl_nil ?_
      refine co_then ?_
      refine wp_ret ?_
      refine co_ret1 h174 rfl rfl ?_
      have hr175 := row_kept_at hr161 hg160 (own_neT hr161 hk162 (by decide))
      have hr176 := row_kept_at hr175 hg172 (own_neT hr175 hk158' (by decide))
      have hB177 := fb_at hB164 hg172 (fun hlt => by first | (exfalso; omega) | (simp; done) | simp_all)
      have hA : pnF pn hz tp id at_ = (0, (grantP pn id at_).1, id) := by unfold pnF; (repeat (first | rw [if_pos (by omega)] | rw [if_neg (by omega)]))
      exact ⟨u118, by rw [hA], by rw [hA]; exact hk170', by rw [hA]; exact row_lows hr176 (Nat.zero_le _), by rw [hA]; show ((grantP pn id at_).1).length ≤ 3; omega, hB177⟩
     ·
      rw [hc137] at h136
      have hp178 : (grantP pn id at_).2 ≠ 0 := by first | simpa using hc137 | simpa [and_assoc] using hc137
      clear hc137
      refine co_true h136 rfl ?_
      refine co_seq ?_
      refine co_reg ?_
      refine pk0 (v := .int .i64 ((grantP pn id at_).2)) h136 rfl fun a179 h179 => ?_; clear h136
      refine pk0 (v := .int .i64 ((grantP pn id at_).2)) h179 rfl fun a180 h180 => ?_; clear h179
      refine pl_nil ?_
      refine co_then ?_
      refine wp_ret ?_
      refine co_thenR ?_
      refine co_ret1 h180 rfl rfl ?_
      have hr181 := row_kept_new hr124 (below_grown hb120)
      have hA : pnF pn hz tp id at_ = ((grantP pn id at_).2, pn, tp) := by unfold pnF; (repeat (first | rw [if_pos (by omega)] | rw [if_neg (by omega)]))
      exact ⟨pv, by rw [hA], by rw [hA]; exact hk128, by rw [hA]; exact row_lows hr181 (Nat.zero_le _), by rw [hA]; show pn.length ≤ 3; omega, hB127⟩
    ·
     rw [hc91] at h90
     have hp182 : at_ < hz := of_decide_eq_true hc91
     clear hc91
     refine co_true h90 rfl ?_
     refine co_seq ?_
     refine co_reg ?_
     refine pk0 (v := .int .i64 13) h90 rfl fun a183 h183 => ?_; clear h90
     refine pl_nil ?_
     refine co_then ?_
     refine wp_ret ?_
     refine co_thenR ?_
     refine co_ret1 h183 rfl rfl ?_
     have hA : pnF pn hz tp id at_ = (13, pn, tp) := by unfold pnF; (repeat (first | rw [if_pos (by omega)] | rw [if_neg (by omega)]))
     exact ⟨pv, by rw [hA], by rw [hA]; exact hk88, by rw [hA]; exact row_lows hr94 (Nat.zero_le _), by rw [hA]; show pn.length ≤ 3; omega, hB92⟩
   ·
    rw [hc76] at h75
    have hp184 : id ≤ tp := of_decide_eq_true hc76
    clear hc76
    refine co_true h75 rfl ?_
    refine co_seq ?_
    refine co_reg ?_
    refine pk0 (v := .int .i64 18) h75 rfl fun a185 h185 => ?_; clear h75
    refine pl_nil ?_
    refine co_then ?_
    refine wp_ret ?_
    refine co_thenR ?_
    refine co_ret1 h185 rfl rfl ?_
    have hr186 := row_kept_new hr59 hg65
    have hA : pnF pn hz tp id at_ = (18, pn, tp) := by unfold pnF; (repeat (first | rw [if_pos (by omega)] | rw [if_neg (by omega)]))
    exact ⟨pv, by rw [hA], by rw [hA]; exact hk73, by rw [hA]; exact row_lows hr186 (Nat.zero_le _), by rw [hA]; show pn.length ≤ 3; omega, hB77⟩
  ·
   rw [hc62] at h61
   have hp187 : ((pn.length : Nat) : Int) ≥ 3 := of_decide_eq_true hc62
   clear hc62
   refine co_true h61 rfl ?_
   refine co_seq ?_
   refine co_reg ?_
   refine pk0 (v := .int .i64 17) h61 rfl fun a188 h188 => ?_; clear h61
   refine pl_nil ?_
   refine co_then ?_
   refine wp_ret ?_
   refine co_thenR ?_
   refine co_ret1 h188 rfl rfl ?_
   have hA : pnF pn hz tp id at_ = (17, pn, tp) := by unfold pnF; (repeat (first | rw [if_pos (by omega)] | rw [if_neg (by omega)]))
   exact ⟨pv, by rw [hA], by rw [hA]; exact hk44, by rw [hA]; exact row_lows hr59 (Nat.zero_le _), by rw [hA]; show pn.length ≤ 3; omega, hB43⟩
 ·
  rw [hc53] at h52
  have hp189 : (renewP pn id).2 = 0 := by first | simpa using hc53 | simpa [and_assoc] using hc53
  clear hc53
  refine co_true h52 rfl ?_
  refine co_seq ?_
  refine co_reg ?_
  refine pk0 (v := pt b 0) h52 rfl fun a190 h190 => ?_; clear h52
  refine pk0 (v := u35) h190 rfl fun a191 h191 => ?_; clear h190
  refine pk0 (v := pt b 0) h191 rfl fun a192 h192 => ?_; clear h191
  refine pk0 (v := pt b 6) h192 rfl fun a193 h193 => ?_; clear h192
  refine pwD h193 rfl (op_store1 rfl rfl rfl (row_one hr36) Try.sizeOf47 hk44 rfl) ?_; clear h193
  rintro _ w195 a194 ⟨hk196, hz197, hg198⟩ h194
  have hk196' : Blk w195 b 66 #[.bool true, .int .i64 ep, cv, .int .u64 fl, lgv, .int .u64 hz, u35, .int .i64 tp, .bool x0.1, .int .i64 x0.2.1, .int .i64 x0.2.2.1, .int .i64 x0.2.2.2.1, .int .i64 x0.2.2.2.2, .bool x1.1, .int .i64 x1.2.1, .int .i64 x1.2.2.1, .int .i64 x1.2.2.2.1, .int .i64 x1.2.2.2.2, .bool x2.1, .int .i64 x2.2.1, .int .i64 x2.2.2.1, .int .i64 x2.2.2.2.1, .int .i64 x2.2.2.2.2] := hk196; clear hk196
  have hz199 := hg198.size
  refine pl_nil ?_
  refine co_then ?_
  refine co_seq ?_
  refine co_reg ?_
  refine pk0 (v := .int .i64 0) h194 rfl fun a200 h200 => ?_; clear h194
  refine pl_nil ?_
  refine co_then ?_
  refine wp_ret ?_
  refine co_thenR ?_
  refine co_ret1 h200 rfl rfl ?_
  have hr201 := row_kept_at hr36 hg198 (own_neT hr36 hk44 (by decide))
  have hB202 := fb_at hB43 hg198 (fun hlt => by first | (exfalso; omega) | (simp; done) | simp_all)
  have hA : pnF pn hz tp id at_ = (0, (renewP pn id).1, tp) := by unfold pnF; (repeat (first | rw [if_pos (by omega)] | rw [if_neg (by omega)]))
  exact ⟨u35, by rw [hA], by rw [hA]; exact hk196', by rw [hA]; exact row_lows hr201 (Nat.zero_le _), by rw [hA]; show ((renewP pn id).1).length ≤ 3; omega, hB202⟩
end Go.Proofs.Ytnjbnndpbegkdaa
