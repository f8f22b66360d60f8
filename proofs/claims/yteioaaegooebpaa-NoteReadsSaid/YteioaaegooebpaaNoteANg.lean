/- Package note: Check of both. Conditions: none. -/
import Derived.Test.YteioaaegooebpaaNg2
import Derived.Test.YteioaaegooebpaaNg1
namespace Go.Proofs.Yteioaaegooebpaa
open Go.RowKit Go.PlainAid
set_option linter.unusedVariables false


theorem intE_len (k : IntKind) (y : Int) : (intE k y).length = 1 := rfl
theorem intE_one (k : IntKind) (y : Int) : ∀ u ∈ intE k y, u.oneCell' = true := by intro u hu; simp [intE] at hu; subst hu; rfl
/-- A note, without where its lists lie. -/
structure NoteD where
  k : Int
  n : Int
  t : Int
  ep : Int
  ms : List MemT
  fl : Int
  lg : List Int
  ec : Int
  er : Int
  el : List OpT
  ets : Int
  pid : Int
  pat : Int
  plf : Int
  sc : Int
  sr : Int
  se : Int
  sp : Int
def zN (k : Int) : NoteD := ⟨k, 0, 0, 0, [], 0, [], 0, 0, [], 0, 0, 0, 0, 0, 0, 0, 0⟩
/-- What is known of a note that may be. -/
structure NoteR (d : NoteD) : Prop where
  mem : ∀ m ∈ d.ms, memOk m
  rng : (-9223372036854775808 ≤ d.ep ∧ d.ep ≤ 9223372036854775807) ∧ (0 ≤ d.fl ∧ d.fl < 18446744073709551616) ∧ (0 ≤ d.t ∧ d.t < 18446744073709551616) ∧ (0 ≤ d.ets ∧ d.ets < 18446744073709551616) ∧ (0 ≤ d.pat ∧ d.pat < 18446744073709551616)
theorem zN_R (k : Int) : NoteR (zN k) := ⟨by simp [zN], by simp [zN]⟩
def badI (p : Option Int) (x : Int) : Bool := match p with | some q => decide (x ≤ q) | none => false
def chkLgF : Option Int → List Int → Int
  | _, [] => 0
  | p, x :: r => if x < 0 ∨ 3 < x then 1 else if badI p x = true then 18 else chkLgF (some x) r
def prevI (l : List Int) (i : Nat) : Option Int := if i = 0 then none else l[i - 1]?
def chkLg (l : List Int) : Int := if 4 < l.length then 6 else chkLgF none l
theorem prevI_succ {l : List Int} {i : Nat} {y : Int} (h : l[i]? = some y) : prevI l (i + 1) = some y := by simp [prevI, h]
theorem dropI {α : Type} {l : List α} {i : Nat} {y : α} (h : l[i]? = some y) : l.drop i = y :: l.drop (i + 1) := by
  obtain ⟨hi, rfl⟩ := List.getElem?_eq_some_iff.1 h
  exact List.drop_eq_getElem_cons hi
/-- What the closure tells of the place i. -/
def lgAt (l : List Int) (i : Nat) (x : Int) : Int := if x < 0 ∨ 3 < x then 1 else if badI (prevI l i) x = true then 18 else 0
theorem lgAt_1 {l : List Int} {i : Nat} {x : Int} (h : x < 0 ∨ x > 3) : 1 = lgAt l i x := by unfold lgAt; rw [if_pos (by omega)]
theorem lgAt_18 {l : List Int} {i j : Nat} {x q : Int} (h : ¬ (x < 0 ∨ x > 3)) (hj : j = i - 1) (h0 : 0 < i) (hq : l[j]? = some q) (hx : x ≤ q) : 18 = lgAt l i x := by
  subst hj
  have e : prevI l i = some q := by unfold prevI; rw [if_neg (by omega), hq]
  unfold lgAt badI; rw [if_neg (by omega), e]; simp [hx]
theorem lgAt_0 {l : List Int} {i j : Nat} {x q : Int} (h : ¬ (x < 0 ∨ x > 3)) (hj : j = i - 1) (h0 : 0 < i) (hq : l[j]? = some q) (hx : ¬ x ≤ q) : 0 = lgAt l i x := by
  subst hj
  have e : prevI l i = some q := by unfold prevI; rw [if_neg (by omega), hq]
  unfold lgAt badI; rw [if_neg (by omega), e]; simp [hx]
theorem lgAt_0' {l : List Int} {i : Nat} {x : Int} (h : ¬ (x < 0 ∨ x > 3)) (h0 : ¬ (0 : Int) < i) : 0 = lgAt l i x := by
  obtain rfl : i = 0 := by omega
  unfold lgAt prevI badI; rw [if_neg (by omega)]; simp
theorem lg_bad {l : List Int} {i : Nat} {y z : Int} (h : chkLgF (prevI l i) (l.drop i) = z) (hy : l[i]? = some y) (hc : lgAt l i y ≠ 0) : lgAt l i y = z := by
  rw [dropI hy] at h; unfold chkLgF at h; unfold lgAt at hc ⊢
  split
  · rename_i h1; rwa [if_pos h1] at h
  · rename_i h1
    rw [if_neg h1] at h
    split
    · rename_i h2; rwa [if_pos h2] at h
    · rename_i h2; rw [if_neg h1, if_neg h2] at hc; exact absurd rfl hc
theorem lg_step {l : List Int} {i : Nat} {y z : Int} (h : chkLgF (prevI l i) (l.drop i) = z) (hy : l[i]? = some y) (hc : lgAt l i y = 0) : chkLgF (prevI l (i + 1)) (l.drop (i + 1)) = z := by
  rw [dropI hy] at h; unfold chkLgF at h; unfold lgAt at hc
  split at hc
  · omega
  · rename_i h1
    rw [if_neg h1] at h
    split at hc
    · omega
    · rename_i h2; rw [if_neg h2] at h; rw [prevI_succ hy]; exact h
theorem lg_end {l : List Int} {i : Nat} {z : Int} (h : chkLgF (prevI l i) (l.drop i) = z) (hi : l.length ≤ i) : 0 = z := by
  rw [List.drop_eq_nil_of_le hi] at h; simpa [chkLgF] using h
theorem lgF_ok : ∀ (p : Option Int) (l : List Int), chkLgF p l = 0 → ∀ x ∈ l, 0 ≤ x ∧ x ≤ 3
  | _, [], _, _, h => by cases h
  | p, y :: r, h, x, hx => by
    unfold chkLgF at h
    split at h
    · omega
    rename_i h1
    split at h
    · omega
    rcases List.mem_cons.1 hx with rfl | hx
    · omega
    · exact lgF_ok _ r h x hx
theorem chkLg_ok {l : List Int} (h : chkLg l = 0) : l.length ≤ 4 ∧ ∀ x ∈ l, 0 ≤ x ∧ x ≤ 3 := by
  unfold chkLg at h
  split at h
  · omega
  exact ⟨by omega, lgF_ok _ _ h⟩
def may (n : Int) : Prop := 0 ≤ n ∧ n ≤ 1073741824
instance (n : Int) : Decidable (may n) := by unfold may; infer_instance
def chkSd (sc sr se sp : Int) : Int := if sc < 0 ∨ 2 < sc then 1 else if ¬ may sr ∨ ¬ may sp then 5 else if se < 0 ∨ 21 < se then 1 else 0
def chkN (d : NoteD) : Int :=
  if d.k = 1 then (if chkC d.ep d.ms ≠ 0 then chkC d.ep d.ms else chkLg d.lg)
  else if d.k = 2 then (if ¬ may d.n then 5 else chkB d.ec d.er d.el)
  else if d.k = 3 ∨ d.k = 4 ∨ d.k = 5 ∨ d.k = 7 then (if ¬ may d.n then 5 else 0)
  else if d.k = 6 then (if ¬ may d.pid ∨ ¬ may d.plf then 5 else 0)
  else if d.k = 8 then chkSd d.sc d.sr d.se d.sp else 11
theorem chkN_1 {d : NoteD} (h : d.k = 1) : chkN d = if chkC d.ep d.ms ≠ 0 then chkC d.ep d.ms else chkLg d.lg := by unfold chkN; rw [if_pos h]
theorem chkN_2 {d : NoteD} (h : d.k = 2) : chkN d = if ¬ may d.n then 5 else chkB d.ec d.er d.el := by unfold chkN; rw [if_neg (by omega), if_pos h]
theorem chkN_3 {d : NoteD} (h : d.k = 3 ∨ d.k = 4 ∨ d.k = 5 ∨ d.k = 7) : chkN d = if ¬ may d.n then 5 else 0 := by unfold chkN; rw [if_neg (by omega), if_neg (by omega), if_pos h]
theorem chkN_6 {d : NoteD} (h : d.k = 6) : chkN d = if ¬ may d.pid ∨ ¬ may d.plf then 5 else 0 := by unfold chkN; rw [if_neg (by omega), if_neg (by omega), if_neg (by omega), if_pos h]
theorem chkN_8 {d : NoteD} (h : d.k = 8) : chkN d = chkSd d.sc d.sr d.se d.sp := by unfold chkN; rw [if_neg (by omega), if_neg (by omega), if_neg (by omega), if_neg (by omega), if_pos h]
theorem chkN_0 {d : NoteD} (h : ¬ (1 ≤ d.k ∧ d.k ≤ 8)) : chkN d = 11 := by unfold chkN; rw [if_neg (by omega), if_neg (by omega), if_neg (by omega), if_neg (by omega), if_neg (by omega)]
theorem may_y {n : Int} (h : 0 ≤ n ∧ n ≤ 1073741824) : ¬ ¬ may n := fun hn => hn h
theorem may_n {n : Int} (h : ¬ (0 ≤ n ∧ n ≤ 1073741824)) : ¬ may n := h
/-- What follows of a note that may be written. -/
theorem chkN_ok {d : NoteD} (h : chkN d = 0) : (1 ≤ d.k ∧ d.k ≤ 8) ∧ (d.k = 1 → chkC d.ep d.ms = 0 ∧ chkLg d.lg = 0 ∧ d.lg.length ≤ 4) ∧ (d.k = 2 → (0 ≤ d.n ∧ d.n ≤ 1073741824) ∧ chkB d.ec d.er d.el = 0) ∧ (d.k = 3 ∨ d.k = 4 ∨ d.k = 5 ∨ d.k = 7 → 0 ≤ d.n ∧ d.n ≤ 1073741824) ∧ (d.k = 6 → (0 ≤ d.pid ∧ d.pid ≤ 1073741824) ∧ (0 ≤ d.plf ∧ d.plf ≤ 1073741824)) ∧ (d.k = 8 → (0 ≤ d.sc ∧ d.sc ≤ 2) ∧ (0 ≤ d.sr ∧ d.sr ≤ 1073741824) ∧ (0 ≤ d.se ∧ d.se ≤ 21) ∧ (0 ≤ d.sp ∧ d.sp ≤ 1073741824)) := by
  have hk : 1 ≤ d.k ∧ d.k ≤ 8 := by
    by_cases hk : 1 ≤ d.k ∧ d.k ≤ 8
    · exact hk
    · rw [chkN_0 hk] at h; omega
  refine ⟨hk, fun e => ?_, fun e => ?_, fun e => ?_, fun e => ?_, fun e => ?_⟩
  · rw [chkN_1 e] at h
    split at h
    · rename_i h1; exact absurd h h1
    · rename_i h1; exact ⟨by omega, h, (chkLg_ok h).1⟩
  · rw [chkN_2 e] at h
    split at h
    · omega
    · rename_i h1; exact ⟨Decidable.not_not.1 h1, h⟩
  · rw [chkN_3 e] at h
    split at h
    · omega
    · rename_i h1; exact Decidable.not_not.1 h1
  · rw [chkN_6 e] at h
    split at h
    · omega
    · rename_i h1
      exact ⟨Decidable.not_not.1 (fun q => h1 (.inl q)), Decidable.not_not.1 (fun q => h1 (.inr q))⟩
  · rw [chkN_8 e] at h
    unfold chkSd at h
    split at h
    · omega
    split at h
    · omega
    rename_i h1 h2
    split at h
    · omega
    exact ⟨by omega, Decidable.not_not.1 (fun q => h2 (.inl q)), by omega, Decidable.not_not.1 (fun q => h2 (.inr q))⟩

set_option maxRecDepth 100000 in
theorem nOutside_any (n : Int) (m : Int) (w : World)  :
    Calls Try.prog 136 #[.int .i64 n, .int .i64 m] w fun e w' => e = .returned (.bool (decide (n < 0 ∨ n > m))) ∧ Below w.heap.size w w' := by
 have hB0 := Below.refl w.heap.size w
 refine co_enter (n := 12) Try.func136 rfl rfl rfl [(0, .int .i64 n), (1, .int .i64 m)] rfl (fun a h0 => ?_)
 refine co_seq ?_
 refine co_reg ?_
 refine pk0 (v := .bool false) h0 rfl fun a1 h1 => ?_; clear h0
 refine pl_nil ?_
 refine co_then ?_
 refine co_seq ?_
 refine co_reg ?_
 refine pk0 (v := .int .i64 n) h1 rfl fun a2 h2 => ?_; clear h1
 refine pk0 (v := .bool (decide (n < 0))) h2 rfl fun a3 h3 => ?_; clear h2
 refine pk0 (v := .bool (decide (n < 0))) h3 rfl fun a4 h4 => ?_; clear h3
 cases hc5 : (decide (n < 0))
 ·
  rw [hc5] at h4
  have hp6 : ¬ (n < 0) := of_decide_eq_false hc5
  clear hc5
  refine pk0 (v := .int .i64 n) h4 rfl fun a7 h7 => ?_; clear h4
  refine pk0 (v := .int .i64 m) h7 rfl fun a8 h8 => ?_; clear h7
  refine pk0 (v := .bool (decide (n > m))) h8 rfl fun a9 h9 => ?_; clear h8
  refine pk0 (v := .bool (decide (n > m))) h9 rfl fun a10 h10 => ?_; clear h9
  refine pk0 (v := .bool (decide (n > m))) h10 rfl fun a11 h11 => ?_; clear h10
  refine pl_nil ?_
  refine co_then ?_
  refine wp_ret ?_
  refine co_ret1 h11 rfl rfl ?_
  exact ⟨ret_bool (by first | rfl | exact (decide_eq_true (by omega)).symm | exact (decide_eq_false (by omega)).symm | (rw [Bool.eq_iff_iff]; simp; omega)), hB0⟩
 ·
  rw [hc5] at h4
  have hp12 : n < 0 := of_decide_eq_true hc5
  clear hc5
  refine psk h4 rfl fun a13 h13 => ?_; clear h4
  refine psk h13 rfl fun a14 h14 => ?_; clear h13
  refine psk h14 rfl fun a15 h15 => ?_; clear h14
  refine pk0 (v := .bool true) h15 rfl fun a16 h16 => ?_; clear h15
  refine pk0 (v := .bool true) h16 rfl fun a17 h17 => ?_; clear h16
  refine pl_nil ?_
  refine co_then ?_
  refine wp_ret ?_
  refine co_ret1 h17 rfl rfl ?_
  exact ⟨ret_bool (by first | rfl | exact (decide_eq_true (by omega)).symm | exact (decide_eq_false (by omega)).symm | (rw [Bool.eq_iff_iff]; simp; omega)), hB0⟩
set_option maxRecDepth 100000 in
theorem rnMay_any (n : Int) (w : World)  :
    Calls Try.prog 141 #[.int .i64 n] w fun e w' => e = .returned (.bool (decide (0 ≤ n ∧ n ≤ 1073741824))) ∧ Below w.heap.size w w' := by
 have hB0 := Below.refl w.heap.size w
 refine co_enter (n := 9) Try.func141 rfl rfl rfl [(0, .int .i64 n)] rfl (fun a h0 => ?_)
 refine co_seq ?_
 refine co_reg ?_
 refine pk0 (v := .bool false) h0 rfl fun a1 h1 => ?_; clear h0
 refine pl_nil ?_
 refine co_then ?_
 refine co_seq ?_
 refine co_reg ?_
 refine pk0 (v := .int .i64 n) h1 rfl fun a2 h2 => ?_; clear h1
 refine pk0 (v := .bool (decide (n ≥ 0))) h2 rfl fun a3 h3 => ?_; clear h2
 refine pk0 (v := .bool (decide (n ≥ 0))) h3 rfl fun a4 h4 => ?_; clear h3
 cases hc5 : (decide (n ≥ 0))
 ·
  rw [hc5] at h4
  have hp6 : ¬ (n ≥ 0) := of_decide_eq_false hc5
  clear hc5
  refine psk h4 rfl fun a7 h7 => ?_; clear h4
  refine psk h7 rfl fun a8 h8 => ?_; clear h7
  refine pk0 (v := .bool false) h8 rfl fun a9 h9 => ?_; clear h8
  refine pk0 (v := .bool false) h9 rfl fun a10 h10 => ?_; clear h9
  refine pl_nil ?_
  refine co_then ?_
  refine wp_ret ?_
  refine co_ret1 h10 rfl rfl ?_
  exact ⟨ret_bool (by first | rfl | exact (decide_eq_true (by omega)).symm | exact (decide_eq_false (by omega)).symm | (rw [Bool.eq_iff_iff]; simp; omega)), hB0⟩
 ·
  rw [hc5] at h4
  have hp11 : n ≥ 0 := of_decide_eq_true hc5
  clear hc5
  refine pk0 (v := .int .i64 n) h4 rfl fun a12 h12 => ?_; clear h4
  refine pk0 (v := .bool (decide (n ≤ 1073741824))) h12 rfl fun a13 h13 => ?_; clear h12
  refine pk0 (v := .bool (decide (n ≤ 1073741824))) h13 rfl fun a14 h14 => ?_; clear h13
  refine pk0 (v := .bool (decide (n ≤ 1073741824))) h14 rfl fun a15 h15 => ?_; clear h14
  refine pl_nil ?_
  refine co_then ?_
  refine wp_ret ?_
  refine co_ret1 h15 rfl rfl ?_
  exact ⟨ret_bool (by first | rfl | exact (decide_eq_true (by omega)).symm | exact (decide_eq_false (by omega)).symm | (rw [Bool.eq_iff_iff]; simp; omega)), hB0⟩
set_option maxRecDepth 100000 in
theorem nKnown_any (k : Int) (w : World)  :
    Calls Try.prog 90 #[.int .i64 k] w fun e w' => e = .returned (.bool (decide (1 ≤ k ∧ k ≤ 8))) ∧ Below w.heap.size w w' := by
 have hB0 := Below.refl w.heap.size w
 refine co_enter (n := 9) Try.func90 rfl rfl rfl [(0, .int .i64 k)] rfl (fun a h0 => ?_)
 refine co_seq ?_
 refine co_reg ?_
 refine pk0 (v := .bool false) h0 rfl fun a1 h1 => ?_; clear h0
 refine pl_nil ?_
 refine co_then ?_
 refine co_seq ?_
 refine co_reg ?_
 refine pk0 (v := .int .i64 k) h1 rfl fun a2 h2 => ?_; clear h1
 refine pk0 (v := .bool (decide (k ≥ 1))) h2 rfl fun a3 h3 => ?_; clear h2
 refine pk0 (v := .bool (decide (k ≥ 1))) h3 rfl fun a4 h4 => ?_; clear h3
 cases hc5 : (decide (k ≥ 1))
 ·
  rw [hc5] at h4
  have hp6 : ¬ (k ≥ 1) := of_decide_eq_false hc5
  clear hc5
  refine psk h4 rfl fun a7 h7 => ?_; clear h4
  refine psk h7 rfl fun a8 h8 => ?_; clear h7
  refine pk0 (v := .bool false) h8 rfl fun a9 h9 => ?_; clear h8
  refine pk0 (v := .bool false) h9 rfl fun a10 h10 => ?_; clear h9
  refine pl_nil ?_
  refine co_then ?_
  refine wp_ret ?_
  refine co_ret1 h10 rfl rfl ?_
  exact ⟨ret_bool (by first | rfl | exact (decide_eq_true (by omega)).symm | exact (decide_eq_false (by omega)).symm | (rw [Bool.eq_iff_iff]; simp; omega)), hB0⟩
 ·
  rw [hc5] at h4
  have hp11 : k ≥ 1 := of_decide_eq_true hc5
  clear hc5
  refine pk0 (v := .int .i64 k) h4 rfl fun a12 h12 => ?_; clear h4
  refine pk0 (v := .bool (decide (k ≤ 8))) h12 rfl fun a13 h13 => ?_; clear h12
  refine pk0 (v := .bool (decide (k ≤ 8))) h13 rfl fun a14 h14 => ?_; clear h13
  refine pk0 (v := .bool (decide (k ≤ 8))) h14 rfl fun a15 h15 => ?_; clear h14
  refine pl_nil ?_
  refine co_then ?_
  refine wp_ret ?_
  refine co_ret1 h15 rfl rfl ?_
  exact ⟨ret_bool (by first | rfl | exact (decide_eq_true (by omega)).symm | exact (decide_eq_false (by omega)).symm | (rw [Bool.eq_iff_iff]; simp; omega)), hB0⟩
set_option maxRecDepth 100000 in
theorem nLegit1_any (i : Nat) (x : Int) (bx : Nat) (v : Value) (l : List Int) (w : World) (hs : SliceOf (intE .i64) 1 w v l) (hbx : w.rangeAt bx 0 [v]) (hi : i < l.length) :
    Calls Try.prog 164 #[.int .i64 ((i : Nat) : Int), .int .i64 x, pt bx 0] w fun e w' => e = .returned (.int .i64 (lgAt l i x)) ∧ Below w.heap.size w w' := by
 have hB0 := Below.refl w.heap.size w
 have hl_hs := sl_len hs
 refine co_enter (n := 19) Try.func164 rfl rfl rfl [(0, .int .i64 ((i : Nat) : Int)), (1, .int .i64 x), (2, pt bx 0)] rfl (fun a h0 => ?_)
 refine co_seq ?_
 refine co_reg ?_
 refine pk0 (v := .int .i64 0) h0 rfl fun a1 h1 => ?_; clear h0
 refine pl_nil ?_
 refine co_then ?_
 refine co_seq ?_
 refine co_seq ?_
 refine co_reg ?_
 refine pk0 (v := .int .i64 x) h1 rfl fun a2 h2 => ?_; clear h1
 refine pw h2 rfl (op_call (args := #[.int .i64 x, .int .i64 3]) (R := fun res xw => res = .bool (decide (x < 0 ∨ x > 3)) ∧ Below w.heap.size w xw) rfl rfl rfl (by kernel_rfl) (by kernel_rfl) (Try.call136 _ _) (nOutside_any x 3 w ) (by rintro e x ⟨rfl, hb5⟩; exact ⟨_, rfl, ⟨rfl, hb5⟩⟩)) ?_; clear h2
 rintro _ w4 a3 ⟨rfl, hb5⟩ h3
 have hz6 := hb5.size
 refine pl_nil ?_
 refine co_then ?_
 have hB8 := hb_call hB0 hb5
 cases hc7 : (decide (x < 0 ∨ x > 3))
 ·
  rw [hc7] at h3
  have hp9 : ¬ (x < 0 ∨ x > 3) := of_decide_eq_false hc7
  clear hc7
  refine co_false h3 rfl ?_
  refine wp_skip ?_
  refine co_then ?_
  refine co_seq ?_
  refine co_seq ?_
  refine co_reg ?_
  refine pk0 (v := .int .i64 ((i : Nat) : Int)) h3 rfl fun a10 h10 => ?_; clear h3
  refine pk0 (v := .bool (decide (((i : Nat) : Int) > 0))) h10 rfl fun a11 h11 => ?_; clear h10
  refine pk0 (v := .bool (decide (((i : Nat) : Int) > 0))) h11 rfl fun a12 h12 => ?_; clear h11
  cases hc13 : (decide (((i : Nat) : Int) > 0))
  ·
   rw [hc13] at h12
   have hp14 : ¬ (((i : Nat) : Int) > 0) := of_decide_eq_false hc13
   clear hc13
   refine psk h12 rfl fun a15 h15 => ?_; clear h12
   refine psk h15 rfl fun a16 h16 => ?_; clear h15
   refine psk h16 rfl fun a17 h17 => ?_; clear h16
   refine psk h17 rfl fun a18 h18 => ?_; clear h17
   refine psk h18 rfl fun a19 h19 => ?_; clear h18
   refine psk h19 rfl fun a20 h20 => ?_; clear h19
   refine psk h20 rfl fun a21 h21 => ?_; clear h20
   refine pk0 (v := .bool false) h21 rfl fun a22 h22 => ?_; clear h21
   refine pl_nil ?_
   refine co_then ?_
   refine co_false h22 rfl ?_
   refine wp_skip ?_
   refine co_then ?_
   refine co_seq ?_
   refine co_reg ?_
   refine pk0 (v := .int .i64 0) h22 rfl fun a23 h23 => ?_; clear h22
   refine pl_nil ?_
   refine co_then ?_
   refine wp_ret ?_
   refine co_ret1 h23 rfl rfl ?_
   exact ⟨ret_int (lgAt_0' (by omega) (by omega)), hB8⟩
  ·
   rw [hc13] at h12
   have hp24 : ((i : Nat) : Int) > 0 := of_decide_eq_true hc13
   clear hc13
   refine pk0 (v := .int .i64 x) h12 rfl fun a25 h25 => ?_; clear h12
   refine pk (v := v) h25 rfl (rn_load1 rfl rfl Try.isAgg67 ((range_below hbx hB8) 0 _ rfl)) fun a26 h26 => ?_; clear h25
   refine pk0 (v := .int .i64 ((i : Nat) : Int)) h26 rfl fun a27 h27 => ?_; clear h26
   refine pk (v := .int .i64 (((i : Nat) : Int) - 1)) h27 rfl (rn_arith rfl rfl rfl rfl rfl rfl (IntWalk.i64_in _ (by omega))) fun a28 h28 => ?_; clear h27
   obtain ⟨y29, hy29⟩ : ∃ z, l[(((i : Nat) : Int) - 1).toNat]? = some z := ⟨_, List.getElem?_eq_getElem (by first | omega | (simp; done) | (simp; omega))⟩
   refine pk (v := pt (blkOf v) (offOf v + ((((i : Nat) : Int) - 1).toNat) * 1)) h28 rfl (rn_index rfl rfl rfl Try.underlying67 Try.sizeOf3 (hs.below hB8) (by omega) (by first | omega | (simp; done) | (simp; omega))) fun a30 h30 => ?_; clear h28
   refine pk (v := .int .i64 y29) h30 rfl (rn_load1 rfl rfl Try.isAgg3 ((sl_at (hs.below hB8) hy29) 0 _ rfl)) fun a31 h31 => ?_; clear h30
   refine pk0 (v := .bool (decide (x ≤ y29))) h31 rfl fun a32 h32 => ?_; clear h31
   refine pk0 (v := .bool (decide (x ≤ y29))) h32 rfl fun a33 h33 => ?_; clear h32
   refine pl_nil ?_
   refine co_then ?_
   cases hc34 : (decide (x ≤ y29))
   ·
    rw [hc34] at h33
    have hp35 : ¬ (x ≤ y29) := of_decide_eq_false hc34
    clear hc34
    refine co_false h33 rfl ?_
    refine wp_skip ?_
    refine co_then ?_
    refine co_seq ?_
    refine co_reg ?_
    refine pk0 (v := .int .i64 0) h33 rfl fun a36 h36 => ?_; clear h33
    refine pl_nil ?_
    refine co_then ?_
    refine wp_ret ?_
    refine co_ret1 h36 rfl rfl ?_
    exact ⟨ret_int (lgAt_0 (j := (((i : Nat) : Int) - 1).toNat) (by omega) (by omega) (by omega) hy29 (by omega)), hB8⟩
   ·
    rw [hc34] at h33
    have hp37 : x ≤ y29 := of_decide_eq_true hc34
    clear hc34
    refine co_true h33 rfl ?_
    refine co_seq ?_
    refine co_reg ?_
    refine pk0 (v := .int .i64 18) h33 rfl fun a38 h38 => ?_; clear h33
    refine pl_nil ?_
    refine co_then ?_
    refine wp_ret ?_
    refine co_thenR ?_
    refine co_ret1 h38 rfl rfl ?_
    exact ⟨ret_int (lgAt_18 (j := (((i : Nat) : Int) - 1).toNat) (by omega) (by omega) (by omega) hy29 (by omega)), hB8⟩
 ·
  rw [hc7] at h3
  have hp39 : x < 0 ∨ x > 3 := of_decide_eq_true hc7
  clear hc7
  refine co_true h3 rfl ?_
  refine co_seq ?_
  refine co_reg ?_
  refine pk0 (v := .int .i64 1) h3 rfl fun a40 h40 => ?_; clear h3
  refine pl_nil ?_
  refine co_then ?_
  refine wp_ret ?_
  refine co_thenR ?_
  refine co_ret1 h40 rfl rfl ?_
  exact ⟨ret_int (lgAt_1 (by omega)), hB8⟩
set_option maxRecDepth 100000 in
theorem nFirst_any (v : Value) (l : List Int) (bx : Nat) (w : World) (hs : SliceOf (intE .i64) 1 w v l) (hbx : w.rangeAt bx 0 [v]) :
    Calls Try.prog 163 #[v, .func (.func 164) #[] #[pt bx 0]] w fun e w' => e = .returned (.int .i64 (chkLgF none l)) ∧ Below w.heap.size w w' := by
 have hB0 := Below.refl w.heap.size w
 have hl_hs := sl_len hs
 refine co_enter (n := 23) Try.func163 rfl rfl rfl [(0, v), (1, .func (.func 164) #[] #[pt bx 0])] rfl (fun a h0 => ?_)
 refine co_seq ?_
 refine co_reg ?_
 refine pk0 (v := .int .i64 0) h0 rfl fun a1 h1 => ?_; clear h0
 refine pl_nil ?_
 refine co_then ?_
 refine co_seq ?_
 refine co_seq ?_
 refine co_reg ?_
 refine pk0 (v := v) h1 rfl fun a2 h2 => ?_; clear h1
 refine pk (v := .int .i64 ((l.length : Nat) : Int)) h2 rfl (rn_len rfl rfl Try.underlying67 hs) fun a3 h3 => ?_; clear h2
 refine pk0 (v := .int .i64 0) h3 rfl fun a4 h4 => ?_; clear h3
 refine pl_nil ?_
 refine co_then ?_
 refine wp_block ?_
 have h5 : Slots 23 [(1, .func (.func 164) #[] #[pt bx 0]), (8, v), (9, .int .i64 ((l.length : Nat) : Int)), (10, .int .i64 0)] _ := h4.sub ⟨rfl, rfl, rfl, rfl, trivial⟩; clear h4
 refine co_loop (fun mm a x => ∃ (i : Nat), Slots 23 [(1, .func (.func 164) #[] #[pt bx 0]), (8, v), (9, .int .i64 ((l.length : Nat) : Int)), (10, .int .i64 ((i : Nat) : Int))] a ∧ mm = l.length - i ∧ (i ≤ l.length) ∧ (chkLgF (prevI l i) (l.drop i) = chkLgF none l) ∧ Below w.heap.size w x) (l.length - 0) ?_ ?_
 · exact ⟨0, h5.sub ⟨rfl, rfl, rfl, (slot_eq rfl (congrArg (Value.int .i64) (by first | rfl | omega))), trivial⟩, rfl, by omega, by first | rfl | exact lg_step hL (by assumption) (by omega), hB0⟩
 · rintro k6 a7 w8 ⟨i, h7, rfl, hi9, hi10, hB11⟩
   have hz12 := hB11.size
   have hL : chkLgF (prevI l i) (l.drop i) = chkLgF none l := by assumption
   refine co_seq ?_
   refine co_reg ?_
   refine pk0 (v := .bool (decide (((i : Nat) : Int) < ((l.length : Nat) : Int)))) h7 rfl fun a13 h13 => ?_; clear h7
   refine pl_nil ?_
   refine co_then ?_
   refine co_seq ?_
   cases hc14 : (decide (((i : Nat) : Int) < ((l.length : Nat) : Int)))
   ·
    rw [hc14] at h13
    have hp15 : ¬ (((i : Nat) : Int) < ((l.length : Nat) : Int)) := of_decide_eq_false hc14
    clear hc14
    refine co_false h13 rfl ?_
    refine wp_exit ?_
    refine co_thenX ?_
    refine co_thenX ?_
    refine co_blockX ?_
    refine co_then ?_
    refine co_seq ?_
    refine co_reg ?_
    refine pk0 (v := .int .i64 0) h13 rfl fun a16 h16 => ?_; clear h13
    refine pl_nil ?_
    refine co_then ?_
    refine wp_ret ?_
    refine co_ret1 h16 rfl rfl ?_
    exact ⟨ret_int (lg_end (i := i) hL (by omega)), hB11⟩
   ·
    rw [hc14] at h13
    have hp17 : ((i : Nat) : Int) < ((l.length : Nat) : Int) := of_decide_eq_true hc14
    clear hc14
    refine co_true h13 rfl ?_
    refine wp_skip ?_
    refine co_then ?_
    refine co_seq ?_
    refine wp_block ?_
    refine co_seq ?_
    refine co_reg ?_
    refine pk0 (v := .int .i64 ((i : Nat) : Int)) h13 rfl fun a18 h18 => ?_; clear h13
    obtain ⟨y19, hy19⟩ : ∃ z, l[i]? = some z := ⟨_, List.getElem?_eq_getElem (by first | omega | (simp; done) | (simp; omega))⟩
    refine pk (v := pt (blkOf v) (offOf v + i * 1)) h18 rfl (rn_index rfl rfl rfl Try.underlying67 Try.sizeOf3 (hs.below hB11) (by omega) (by first | omega | (simp; done) | (simp; omega))) fun a20 h20 => ?_; clear h18
    refine pk (v := .int .i64 y19) h20 rfl (rn_load1 rfl rfl Try.isAgg3 ((sl_at (hs.below hB11) hy19) 0 _ rfl)) fun a21 h21 => ?_; clear h20
    refine pk0 (v := .int .i64 ((i : Nat) : Int)) h21 rfl fun a22 h22 => ?_; clear h21
    refine pk0 (v := .int .i64 y19) h22 rfl fun a23 h23 => ?_; clear h22
    refine pl_nil ?_
    refine co_then ?_
    refine co_seq ?_
    refine co_reg ?_
    refine pk0 (v := .func (.func 164) #[] #[pt bx 0]) h23 rfl fun a24 h24 => ?_; clear h23
    refine pk0 (v := .int .i64 ((i : Nat) : Int)) h24 rfl fun a25 h25 => ?_; clear h24
    refine pk0 (v := .int .i64 y19) h25 rfl fun a26 h26 => ?_; clear h25
    refine pw h26 rfl (op_callV (args := #[.int .i64 ((i : Nat) : Int), .int .i64 y19, pt bx 0]) (R := fun res xw => res = .int .i64 (lgAt l i y19) ∧ Below w8.heap.size w8 xw) rfl rfl rfl (by kernel_rfl) (by kernel_rfl) (Try.call164 _ _) (nLegit1_any i y19 bx v l w8 (hs.below hB11) (range_below hbx hB11) (by first | omega | (simp; done) | (simp; omega))) (by rintro e x ⟨rfl, hb29⟩; exact ⟨_, rfl, ⟨rfl, hb29⟩⟩)) ?_; clear h26
    rintro _ w28 a27 ⟨rfl, hb29⟩ h27
    have hz30 := hb29.size
    refine pk0 (v := .int .i64 (lgAt l i y19)) h27 rfl fun a31 h31 => ?_; clear h27
    refine pl_nil ?_
    refine co_then ?_
    refine co_seq ?_
    refine co_reg ?_
    refine pk0 (v := .int .i64 (lgAt l i y19)) h31 rfl fun a32 h32 => ?_; clear h31
    refine pk0 (v := .bool (lgAt l i y19 != 0)) h32 rfl fun a33 h33 => ?_; clear h32
    refine pl_nil ?_
    refine co_then ?_
    have hB35 := hb_call hB11 hb29
    cases hc34 : (lgAt l i y19 != 0)
    ·
     rw [hc34] at h33
     have hp36 : ¬ (lgAt l i y19 ≠ 0) := by first | simpa using hc34 | simpa [and_assoc] using hc34
     clear hc34
     refine co_false h33 rfl ?_
     refine wp_skip ?_
     refine co_blockN ?_
     refine co_then ?_
     refine co_reg ?_
     refine pk (v := .int .i64 ((i + 1 : Nat) : Int)) h33 rfl (rn_arith' rfl rfl rfl rfl rfl rfl (IntWalk.i64_in _ (by omega)) (by omega)) fun a37 h37 => ?_; clear h33
     refine pk0 (v := .int .i64 ((i + 1 : Nat) : Int)) h37 rfl fun a38 h38 => ?_; clear h37
     refine pl_nil ?_
     refine co_then ?_
     refine ⟨(l.length - (i + 1)), by omega, ?_⟩
     exact ⟨i + 1, h38.sub ⟨rfl, rfl, rfl, rfl, trivial⟩, rfl, by omega, by first | rfl | exact lg_step hL (by assumption) (by omega), hB35⟩
    ·
     rw [hc34] at h33
     have hp39 : lgAt l i y19 ≠ 0 := by first | simpa using hc34 | simpa [and_assoc] using hc34
     clear hc34
     refine co_true h33 rfl ?_
     refine co_seq ?_
     refine co_reg ?_
     refine pk0 (v := .int .i64 (lgAt l i y19)) h33 rfl fun a40 h40 => ?_; clear h33
     refine pk0 (v := .int .i64 (lgAt l i y19)) h40 rfl fun a41 h41 => ?_; clear h40
     refine pl_nil ?_
     refine co_then ?_
     refine wp_ret ?_
     refine co_blockR ?_
     refine co_thenR ?_
     refine co_thenR ?_
     refine co_blockR ?_
     refine co_thenR ?_
     refine co_ret1 h41 rfl rfl ?_
     exact ⟨ret_int (lg_bad (i := i) hL hy19 (by omega)), hB35⟩
set_option maxRecDepth 100000 in
theorem nLegit_any (v : Value) (l : List Int) (w : World) (hs : SliceOf (intE .i64) 1 w v l) :
    Calls Try.prog 135 #[v] w fun e w' => e = .returned (.int .i64 (chkLg l)) ∧ Below w.heap.size w w' := by
 have hB0 := Below.refl w.heap.size w
 have hl_hs := sl_len hs
 refine co_enter (n := 9) Try.func135 rfl rfl rfl [(0, v)] rfl (fun a h0 => ?_)
 refine co_seq ?_
 refine co_reg ?_
 refine pw h0 rfl (op_new (v := fun N => pt N 0) (T := 67) (cs := #[v]) (by kernel_rfl) (by kernel_rfl) (box_run rfl rfl (sl_one hs))) ?_; clear h0
 rintro _ w2 a1 ⟨N3, rfl, hN6, hz7, hk5, hg4⟩ h1
 have hz8 := hg4.size
 try dsimp only at h1
 refine pk0 (v := .int .i64 0) h1 rfl fun a9 h9 => ?_; clear h1
 refine pl_nil ?_
 refine co_then ?_
 refine co_seq ?_
 refine co_seq ?_
 refine co_reg ?_
 refine pk (v := v) h9 rfl (rn_load1 rfl rfl Try.isAgg67 (hk5.cell rfl)) fun a10 h10 => ?_; clear h9
 have hB11 := hb_new hB0 hg4
 refine pk (v := .int .i64 ((l.length : Nat) : Int)) h10 rfl (rn_len rfl rfl Try.underlying67 (hs.below hB11)) fun a12 h12 => ?_; clear h10
 refine pk0 (v := .bool (decide (((l.length : Nat) : Int) > 4))) h12 rfl fun a13 h13 => ?_; clear h12
 refine pl_nil ?_
 refine co_then ?_
 cases hc14 : (decide (((l.length : Nat) : Int) > 4))
 ·
  rw [hc14] at h13
  have hp15 : ¬ (((l.length : Nat) : Int) > 4) := of_decide_eq_false hc14
  clear hc14
  refine co_false h13 rfl ?_
  refine wp_skip ?_
  refine co_then ?_
  refine co_seq ?_
  refine co_reg ?_
  refine pk (v := v) h13 rfl (rn_load1 rfl rfl Try.isAgg67 (hk5.cell rfl)) fun a16 h16 => ?_; clear h13
  refine pk0 (v := .func (.func 164) #[] #[pt N3 0]) h16 rfl fun a17 h17 => ?_; clear h16
  refine pw h17 rfl (op_call (args := #[v, .func (.func 164) #[] #[pt N3 0]]) (R := fun res xw => res = .int .i64 (chkLgF none l) ∧ Below w2.heap.size w2 xw) rfl rfl rfl (by kernel_rfl) (by kernel_rfl) (Try.call163 _ _) (nFirst_any v l N3 w2 (hs.below hB11) (blk_part hk5 0 rfl)) (by rintro e x ⟨rfl, hb20⟩; exact ⟨_, rfl, ⟨rfl, hb20⟩⟩)) ?_; clear h17
  rintro _ w19 a18 ⟨rfl, hb20⟩ h18
  have hz21 := hb20.size
  refine pk0 (v := .int .i64 (chkLgF none l)) h18 rfl fun a22 h22 => ?_; clear h18
  refine pl_nil ?_
  refine co_then ?_
  refine wp_ret ?_
  refine co_ret1 h22 rfl rfl ?_
  have hB23 := hb_call hB11 hb20
  exact ⟨ret_int (by unfold chkLg; first | rw [if_pos (by omega)] | rw [if_neg (by omega)]), hB23⟩
 ·
  rw [hc14] at h13
  have hp24 : ((l.length : Nat) : Int) > 4 := of_decide_eq_true hc14
  clear hc14
  refine co_true h13 rfl ?_
  refine co_seq ?_
  refine co_reg ?_
  refine pk0 (v := .int .i64 6) h13 rfl fun a25 h25 => ?_; clear h13
  refine pl_nil ?_
  refine co_then ?_
  refine wp_ret ?_
  refine co_thenR ?_
  refine co_ret1 h25 rfl rfl ?_
  exact ⟨ret_int (by unfold chkLg; first | rw [if_pos (by omega)] | rw [if_neg (by omega)]), hB11⟩
set_option maxRecDepth 100000 in
theorem rnLegit_any (v : Value) (l : List Int) (w : World) (hs : SliceOf (intE .i64) 1 w v l) :
    Calls Try.prog 140 #[v] w fun e w' => e = .returned (.int .i64 (chkLg l)) ∧ Below w.heap.size w w' := by
 have hB0 := Below.refl w.heap.size w
 have hl_hs := sl_len hs
 refine co_enter (n := 39) Try.func140 rfl rfl rfl [(0, v)] rfl (fun a h0 => ?_)
 refine co_seq ?_
 refine co_reg ?_
 refine pk0 (v := .int .i64 0) h0 rfl fun a1 h1 => ?_; clear h0
 refine pl_nil ?_
 refine co_then ?_
 refine co_seq ?_
 refine co_seq ?_
 refine co_reg ?_
 refine pk0 (v := v) h1 rfl fun a2 h2 => ?_; clear h1
 refine pk (v := .int .i64 ((l.length : Nat) : Int)) h2 rfl (rn_len rfl rfl Try.underlying67 hs) fun a3 h3 => ?_; clear h2
 refine pk0 (v := .bool (decide (((l.length : Nat) : Int) > 4))) h3 rfl fun a4 h4 => ?_; clear h3
 refine pl_nil ?_
 refine co_then ?_
 cases hc5 : (decide (((l.length : Nat) : Int) > 4))
 ·
  rw [hc5] at h4
  have hp6 : ¬ (((l.length : Nat) : Int) > 4) := of_decide_eq_false hc5
  clear hc5
  refine co_false h4 rfl ?_
  refine wp_skip ?_
  refine co_then ?_
  refine co_seq ?_
  refine co_seq ?_
  refine co_reg ?_
  refine pk0 (v := .int .i64 0) h4 rfl fun a7 h7 => ?_; clear h4
  refine pl_nil ?_
  refine co_then ?_
  refine wp_block ?_
  have h8 : Slots 39 [(0, v), (3, .int .i64 0)] _ := h7.sub ⟨rfl, rfl, trivial⟩; clear h7
  refine co_loop (fun mm a x => ∃ (i : Nat), Slots 39 [(0, v), (3, .int .i64 ((i : Nat) : Int))] a ∧ mm = l.length - i ∧ (i ≤ l.length) ∧ (chkLgF (prevI l i) (l.drop i) = chkLgF none l) ∧ Below w.heap.size w x) (l.length - 0) ?_ ?_
  · exact ⟨0, h8.sub ⟨rfl, (slot_eq rfl (congrArg (Value.int .i64) (by first | rfl | omega))), trivial⟩, rfl, by omega, by first | rfl | exact hL', hB0⟩
  · rintro k9 a10 w11 ⟨i, h10, rfl, hi12, hi13, hB14⟩
    have hz15 := hB14.size
    have hL : chkLgF (prevI l i) (l.drop i) = chkLgF none l := by assumption
    refine co_seq ?_
    refine co_seq ?_
    refine co_reg ?_
    refine pk0 (v := .int .i64 ((i : Nat) : Int)) h10 rfl fun a16 h16 => ?_; clear h10
    refine pk0 (v := v) h16 rfl fun a17 h17 => ?_; clear h16
    refine pk (v := .int .i64 ((l.length : Nat) : Int)) h17 rfl (rn_len rfl rfl Try.underlying67 (hs.below hB14)) fun a18 h18 => ?_; clear h17
    refine pk0 (v := .bool (decide (((i : Nat) : Int) < ((l.length : Nat) : Int)))) h18 rfl fun a19 h19 => ?_; clear h18
    refine pl_nil ?_
    refine co_then ?_
    cases hc20 : (decide (((i : Nat) : Int) < ((l.length : Nat) : Int)))
    ·
     rw [hc20] at h19
     have hp21 : ¬ (((i : Nat) : Int) < ((l.length : Nat) : Int)) := of_decide_eq_false hc20
     clear hc20
     refine co_false h19 rfl ?_
     refine wp_exit ?_
     refine co_thenX ?_
     refine co_thenX ?_
     refine co_blockX ?_
     refine co_then ?_
     refine co_seq ?_
     refine co_reg ?_
     refine pk0 (v := .int .i64 0) h19 rfl fun a22 h22 => ?_; clear h19
     refine pl_nil ?_
     refine co_then ?_
     refine wp_ret ?_
     refine co_ret1 h22 rfl rfl ?_
     exact ⟨ret_int (by unfold chkLg; rw [if_neg (by omega)]; exact lg_end (i := i) hL (by omega)), hB14⟩
    ·
     rw [hc20] at h19
     have hp23 : ((i : Nat) : Int) < ((l.length : Nat) : Int) := of_decide_eq_true hc20
     clear hc20
     refine co_true h19 rfl ?_
     refine wp_skip ?_
     refine co_then ?_
     refine co_seq ?_
     refine wp_block ?_
     refine co_seq ?_
     refine co_seq ?_
     refine co_reg ?_
     refine pk0 (v := v) h19 rfl fun a24 h24 => ?_; clear h19
     refine pk0 (v := .int .i64 ((i : Nat) : Int)) h24 rfl fun a25 h25 => ?_; clear h24
     obtain ⟨y26, hy26⟩ : ∃ z, l[i]? = some z := ⟨_, List.getElem?_eq_getElem (by first | omega | (simp; done) | (simp; omega))⟩
     refine pk (v := pt (blkOf v) (offOf v + i * 1)) h25 rfl (rn_index rfl rfl rfl Try.underlying67 Try.sizeOf3 (hs.below hB14) (by omega) (by first | omega | (simp; done) | (simp; omega))) fun a27 h27 => ?_; clear h25
     refine pk (v := .int .i64 y26) h27 rfl (rn_load1 rfl rfl Try.isAgg3 ((sl_at (hs.below hB14) hy26) 0 _ rfl)) fun a28 h28 => ?_; clear h27
     refine pk0 (v := .bool (decide (y26 < 0))) h28 rfl fun a29 h29 => ?_; clear h28
     refine pk0 (v := .bool (decide (y26 < 0))) h29 rfl fun a30 h30 => ?_; clear h29
     cases hc31 : (decide (y26 < 0))
     ·
      rw [hc31] at h30
      have hp32 : ¬ (y26 < 0) := of_decide_eq_false hc31
      clear hc31
      refine pk0 (v := v) h30 rfl fun a33 h33 => ?_; clear h30
      refine pk0 (v := .int .i64 ((i : Nat) : Int)) h33 rfl fun a34 h34 => ?_; clear h33
      refine pk (v := pt (blkOf v) (offOf v + i * 1)) h34 rfl (rn_index rfl rfl rfl Try.underlying67 Try.sizeOf3 (hs.below hB14) (by omega) (by first | omega | (simp; done) | (simp; omega))) fun a35 h35 => ?_; clear h34
      refine pk (v := .int .i64 y26) h35 rfl (rn_load1 rfl rfl Try.isAgg3 ((sl_at (hs.below hB14) hy26) 0 _ rfl)) fun a36 h36 => ?_; clear h35
      refine pk0 (v := .bool (decide (y26 ≥ 4))) h36 rfl fun a37 h37 => ?_; clear h36
      refine pk0 (v := .bool (decide (y26 ≥ 4))) h37 rfl fun a38 h38 => ?_; clear h37
      refine pl_nil ?_
      refine co_then ?_
      cases hc39 : (decide (y26 ≥ 4))
      ·
       rw [hc39] at h38
       have hp40 : ¬ (y26 ≥ 4) := of_decide_eq_false hc39
       clear hc39
       refine co_false h38 rfl ?_
       refine wp_skip ?_
       refine co_then ?_
       refine co_seq ?_
       refine dr_eq (by kernel_rfl) (fun w41 hg42 => ?_)
       have hz43 := hg42.size
       refine dk0 0 (v := .int .i64 ((i : Nat) : Int)) h38 rfl rfl rfl fun a44 h44 => ?_; clear h38
       refine dk0 1 (v := .bool (decide (((i : Nat) : Int) > 0))) h44 rfl rfl rfl fun a45 h45 => ?_; clear h44
       refine dk0 2 (v := .bool (decide (((i : Nat) : Int) > 0))) h45 rfl rfl rfl fun a46 h46 => ?_; clear h45
       have hB48 := hb_new hB14 hg42
       cases hc47 : (decide (((i : Nat) : Int) > 0))
       ·
        rw [hc47] at h46
        have hp49 : ¬ (((i : Nat) : Int) > 0) := of_decide_eq_false hc47
        clear hc47
        refine dsk 3 h46 rfl rfl rfl fun a50 h50 => ?_; clear h46
        refine dsk 4 h50 rfl rfl rfl fun a51 h51 => ?_; clear h50
        refine dsk 5 h51 rfl rfl rfl fun a52 h52 => ?_; clear h51
        refine dsk 6 h52 rfl rfl rfl fun a53 h53 => ?_; clear h52
        refine dsk 7 h53 rfl rfl rfl fun a54 h54 => ?_; clear h53
        refine dsk 8 h54 rfl rfl rfl fun a55 h55 => ?_; clear h54
        refine dsk 9 h55 rfl rfl rfl fun a56 h56 => ?_; clear h55
        refine dsk 10 h56 rfl rfl rfl fun a57 h57 => ?_; clear h56
        refine dsk 11 h57 rfl rfl rfl fun a58 h58 => ?_; clear h57
        refine dsk 12 h58 rfl rfl rfl fun a59 h59 => ?_; clear h58
        refine dk0 13 (v := .bool false) h59 rfl rfl rfl fun a60 h60 => ?_; clear h59
        refine dr_done (by kernel_rfl) ?_
        refine co_then ?_
        refine co_false h60 rfl ?_
        refine wp_skip ?_
        refine co_blockN ?_
        refine co_then ?_
        refine co_reg ?_
        refine pk0 (v := .int .i64 ((i : Nat) : Int)) h60 rfl fun a61 h61 => ?_; clear h60
        refine pk (v := .int .i64 ((i + 1 : Nat) : Int)) h61 rfl (rn_arith' rfl rfl rfl rfl rfl rfl (IntWalk.i64_in _ (by omega)) (by omega)) fun a62 h62 => ?_; clear h61
        refine pk0 (v := .int .i64 ((i + 1 : Nat) : Int)) h62 rfl fun a63 h63 => ?_; clear h62
        refine pl_nil ?_
        refine co_then ?_
        refine ⟨(l.length - (i + 1)), by omega, ?_⟩
        have hA : 0 = lgAt l i y26 := lgAt_0' (by omega) (by omega)
        have hL' := lg_step hL hy26 hA.symm
        exact ⟨i + 1, h63.sub ⟨rfl, rfl, trivial⟩, rfl, by omega, by first | rfl | exact hL', hB48⟩
       ·
        rw [hc47] at h46
        have hp64 : ((i : Nat) : Int) > 0 := of_decide_eq_true hc47
        clear hc47
        refine dk0 3 (v := v) h46 rfl rfl rfl fun a65 h65 => ?_; clear h46
        refine dk0 4 (v := .int .i64 ((i : Nat) : Int)) h65 rfl rfl rfl fun a66 h66 => ?_; clear h65
        refine dk 5 (v := .int .i64 (((i : Nat) : Int) - 1)) h66 rfl rfl rfl (fun x hx => by subst hx; exact (rn_arith rfl rfl rfl rfl rfl rfl (IntWalk.i64_in _ (by omega)))) fun a67 h67 => ?_; clear h66
        obtain ⟨y68, hy68⟩ : ∃ z, l[(((i : Nat) : Int) - 1).toNat]? = some z := ⟨_, List.getElem?_eq_getElem (by first | omega | (simp; done) | (simp; omega))⟩
        refine dk 6 (v := pt (blkOf v) (offOf v + ((((i : Nat) : Int) - 1).toNat) * 1)) h67 rfl rfl rfl (fun x hx => by subst hx; exact (rn_index rfl rfl rfl Try.underlying67 Try.sizeOf3 (hs.below hB48) (by omega) (by first | omega | (simp; done) | (simp; omega)))) fun a69 h69 => ?_; clear h67
        refine dk 7 (v := .int .i64 y68) h69 rfl rfl rfl (fun x hx => by subst hx; exact (rn_load1 rfl rfl Try.isAgg3 ((sl_at (hs.below hB48) hy68) 0 _ rfl))) fun a70 h70 => ?_; clear h69
        refine dk0 8 (v := v) h70 rfl rfl rfl fun a71 h71 => ?_; clear h70
        refine dk0 9 (v := .int .i64 ((i : Nat) : Int)) h71 rfl rfl rfl fun a72 h72 => ?_; clear h71
        refine dk 10 (v := pt (blkOf v) (offOf v + i * 1)) h72 rfl rfl rfl (fun x hx => by subst hx; exact (rn_index rfl rfl rfl Try.underlying67 Try.sizeOf3 (hs.below hB48) (by omega) (by first | omega | (simp; done) | (simp; omega)))) fun a73 h73 => ?_; clear h72
        refine dk 11 (v := .int .i64 y26) h73 rfl rfl rfl (fun x hx => by subst hx; exact (rn_load1 rfl rfl Try.isAgg3 ((sl_at (hs.below hB48) hy26) 0 _ rfl))) fun a74 h74 => ?_; clear h73
        refine dk0 12 (v := .bool (decide (y68 ≥ y26))) h74 rfl rfl rfl fun a75 h75 => ?_; clear h74
        refine dk0 13 (v := .bool (decide (y68 ≥ y26))) h75 rfl rfl rfl fun a76 h76 => ?_; clear h75
        refine dr_done (by kernel_rfl) ?_
        refine co_then ?_
        cases hc77 : (decide (y68 ≥ y26))
        ·
         rw [hc77] at h76
         have hp78 : ¬ (y68 ≥ y26) := of_decide_eq_false hc77
         clear hc77
         refine co_false h76 rfl ?_
         refine wp_skip ?_
         refine co_blockN ?_
         refine co_then ?_
         refine co_reg ?_
         refine pk0 (v := .int .i64 ((i : Nat) : Int)) h76 rfl fun a79 h79 => ?_; clear h76
         refine pk (v := .int .i64 ((i + 1 : Nat) : Int)) h79 rfl (rn_arith' rfl rfl rfl rfl rfl rfl (IntWalk.i64_in _ (by omega)) (by omega)) fun a80 h80 => ?_; clear h79
         refine pk0 (v := .int .i64 ((i + 1 : Nat) : Int)) h80 rfl fun a81 h81 => ?_; clear h80
         refine pl_nil ?_
         refine co_then ?_
         refine ⟨(l.length - (i + 1)), by omega, ?_⟩
         have hA : 0 = lgAt l i y26 := lgAt_0 (j := (((i : Nat) : Int) - 1).toNat) (by omega) (by omega) (by omega) hy68 (by omega)
         have hL' := lg_step hL hy26 hA.symm
         exact ⟨i + 1, h81.sub ⟨rfl, rfl, trivial⟩, rfl, by omega, by first | rfl | exact hL', hB48⟩
        ·
         rw [hc77] at h76
         have hp82 : y68 ≥ y26 := of_decide_eq_true hc77
         clear hc77
         refine co_true h76 rfl ?_
         refine co_seq ?_
         refine co_reg ?_
         refine pk0 (v := .int .i64 18) h76 rfl fun a83 h83 => ?_; clear h76
         refine pl_nil ?_
         refine co_then ?_
         refine wp_ret ?_
         refine co_blockR ?_
         refine co_thenR ?_
         refine co_thenR ?_
         refine co_blockR ?_
         refine co_thenR ?_
         refine co_ret1 h83 rfl rfl ?_
         have hA : 18 = lgAt l i y26 := lgAt_18 (j := (((i : Nat) : Int) - 1).toNat) (by omega) (by omega) (by omega) hy68 (by omega)
         exact ⟨ret_int (by unfold chkLg; rw [if_neg (by omega), hA]; exact lg_bad hL hy26 (by omega)), hB48⟩
      ·
       rw [hc39] at h38
       have hp84 : y26 ≥ 4 := of_decide_eq_true hc39
       clear hc39
       refine co_true h38 rfl ?_
       refine co_seq ?_
       refine co_reg ?_
       refine pk0 (v := .int .i64 1) h38 rfl fun a85 h85 => ?_; clear h38
       refine pl_nil ?_
       refine co_then ?_
       refine wp_ret ?_
       refine co_thenR ?_
       refine co_blockR ?_
       refine co_thenR ?_
       refine co_thenR ?_
       refine co_blockR ?_
       refine co_thenR ?_
       refine co_ret1 h85 rfl rfl ?_
       have hA : 1 = lgAt l i y26 := lgAt_1 (by omega)
       exact ⟨ret_int (by unfold chkLg; rw [if_neg (by omega), hA]; exact lg_bad hL hy26 (by omega)), hB14⟩
     ·
      rw [hc31] at h30
      have hp86 : y26 < 0 := of_decide_eq_true hc31
      clear hc31
      refine psk h30 rfl fun a87 h87 => ?_; clear h30
      refine psk h87 rfl fun a88 h88 => ?_; clear h87
      refine psk h88 rfl fun a89 h89 => ?_; clear h88
      refine psk h89 rfl fun a90 h90 => ?_; clear h89
      refine psk h90 rfl fun a91 h91 => ?_; clear h90
      refine pk0 (v := .bool true) h91 rfl fun a92 h92 => ?_; clear h91
      refine pl_nil ?_
      refine co_then ?_
      refine co_true h92 rfl ?_
      refine co_seq ?_
      refine co_reg ?_
      refine pk0 (v := .int .i64 1) h92 rfl fun a93 h93 => ?_; clear h92
      refine pl_nil ?_
      refine co_then ?_
      refine wp_ret ?_
      refine co_thenR ?_
      refine co_blockR ?_
      refine co_thenR ?_
      refine co_thenR ?_
      refine co_blockR ?_
      refine co_thenR ?_
      refine co_ret1 h93 rfl rfl ?_
      have hA : 1 = lgAt l i y26 := lgAt_1 (by omega)
      exact ⟨ret_int (by unfold chkLg; rw [if_neg (by omega), hA]; exact lg_bad hL hy26 (by omega)), hB14⟩
 ·
  rw [hc5] at h4
  have hp94 : ((l.length : Nat) : Int) > 4 := of_decide_eq_true hc5
  clear hc5
  refine co_true h4 rfl ?_
  refine co_seq ?_
  refine co_reg ?_
  refine pk0 (v := .int .i64 6) h4 rfl fun a95 h95 => ?_; clear h4
  refine pl_nil ?_
  refine co_then ?_
  refine wp_ret ?_
  refine co_thenR ?_
  refine co_ret1 h95 rfl rfl ?_
  exact ⟨ret_int (by unfold chkLg; rw [if_pos (by omega)]), hB0⟩
set_option maxRecDepth 100000 in
theorem nSaid_any (sc : Int) (sr : Int) (se : Int) (sp : Int) (w : World)  :
    Calls Try.prog 137 #[.agg #[.int .i64 sc, .int .i64 sr, .int .i64 se, .int .i64 sp]] w fun e w' => e = .returned (.int .i64 (chkSd sc sr se sp)) ∧ Below w.heap.size w w' := by
 have hB0 := Below.refl w.heap.size w
 refine co_enter (n := 17) Try.func137 rfl rfl rfl [(0, .agg #[.int .i64 sc, .int .i64 sr, .int .i64 se, .int .i64 sp])] rfl (fun a h0 => ?_)
 refine co_seq ?_
 refine co_reg ?_
 refine pw h0 rfl (op_new (v := fun N => pt N 0) (T := 71) (cs := #[.int .i64 sc, .int .i64 sr, .int .i64 se, .int .i64 sp]) (by kernel_rfl) (by kernel_rfl) (by kernel_rfl)) ?_; clear h0
 rintro _ w2 a1 ⟨N3, rfl, hN6, hz7, hk5, hg4⟩ h1
 have hz8 := hg4.size
 try dsimp only at h1
 refine pk0 (v := .int .i64 0) h1 rfl fun a9 h9 => ?_; clear h1
 refine pl_nil ?_
 refine co_then ?_
 refine co_seq ?_
 refine co_seq ?_
 refine co_reg ?_
 refine pk0 (v := pt N3 0) h9 rfl fun a10 h10 => ?_; clear h9
 refine pk (v := .int .i64 sc) h10 rfl (rn_load1 rfl rfl Try.isAgg3 (hk5.cell rfl)) fun a11 h11 => ?_; clear h10
 refine pw h11 rfl (op_call (args := #[.int .i64 sc, .int .i64 2]) (R := fun res xw => res = .bool (decide (sc < 0 ∨ sc > 2)) ∧ Below w2.heap.size w2 xw) rfl rfl rfl (by kernel_rfl) (by kernel_rfl) (Try.call136 _ _) (nOutside_any sc 2 w2 ) (by rintro e x ⟨rfl, hb14⟩; exact ⟨_, rfl, ⟨rfl, hb14⟩⟩)) ?_; clear h11
 rintro _ w13 a12 ⟨rfl, hb14⟩ h12
 have hz15 := hb14.size
 refine pl_nil ?_
 refine co_then ?_
 have hB17 := hb_new hB0 hg4
 have hB18 := hb_call hB17 hb14
 cases hc16 : (decide (sc < 0 ∨ sc > 2))
 ·
  rw [hc16] at h12
  have hp19 : ¬ (sc < 0 ∨ sc > 2) := of_decide_eq_false hc16
  clear hc16
  refine co_false h12 rfl ?_
  refine wp_skip ?_
  refine co_then ?_
  refine co_seq ?_
  refine co_seq ?_
  refine co_reg ?_
  refine pk0 (v := pt N3 1) h12 rfl fun a20 h20 => ?_; clear h12
  have hk21 := hk5.below hb14
  refine pk (v := .int .i64 sr) h20 rfl (rn_load1 rfl rfl Try.isAgg3 (hk21.cell rfl)) fun a22 h22 => ?_; clear h20
  refine pw h22 rfl (op_call (args := #[.int .i64 sr, .int .i64 1073741824]) (R := fun res xw => res = .bool (decide (sr < 0 ∨ sr > 1073741824)) ∧ Below w13.heap.size w13 xw) rfl rfl rfl (by kernel_rfl) (by kernel_rfl) (Try.call136 _ _) (nOutside_any sr 1073741824 w13 ) (by rintro e x ⟨rfl, hb25⟩; exact ⟨_, rfl, ⟨rfl, hb25⟩⟩)) ?_; clear h22
  rintro _ w24 a23 ⟨rfl, hb25⟩ h23
  have hz26 := hb25.size
  refine pk0 (v := .bool (decide (sr < 0 ∨ sr > 1073741824))) h23 rfl fun a27 h27 => ?_; clear h23
  have hB29 := hb_call hB18 hb25
  cases hc28 : (decide (sr < 0 ∨ sr > 1073741824))
  ·
   rw [hc28] at h27
   have hp30 : ¬ (sr < 0 ∨ sr > 1073741824) := of_decide_eq_false hc28
   clear hc28
   refine pk0 (v := pt N3 3) h27 rfl fun a31 h31 => ?_; clear h27
   have hk32 := hk21.below hb25
   refine pk (v := .int .i64 sp) h31 rfl (rn_load1 rfl rfl Try.isAgg3 (hk32.cell rfl)) fun a33 h33 => ?_; clear h31
   refine pw h33 rfl (op_call (args := #[.int .i64 sp, .int .i64 1073741824]) (R := fun res xw => res = .bool (decide (sp < 0 ∨ sp > 1073741824)) ∧ Below w24.heap.size w24 xw) rfl rfl rfl (by kernel_rfl) (by kernel_rfl) (Try.call136 _ _) (nOutside_any sp 1073741824 w24 ) (by rintro e x ⟨rfl, hb36⟩; exact ⟨_, rfl, ⟨rfl, hb36⟩⟩)) ?_; clear h33
   rintro _ w35 a34 ⟨rfl, hb36⟩ h34
   have hz37 := hb36.size
   refine pk0 (v := .bool (decide (sp < 0 ∨ sp > 1073741824))) h34 rfl fun a38 h38 => ?_; clear h34
   refine pl_nil ?_
   refine co_then ?_
   have hB40 := hb_call hB29 hb36
   cases hc39 : (decide (sp < 0 ∨ sp > 1073741824))
   ·
    rw [hc39] at h38
    have hp41 : ¬ (sp < 0 ∨ sp > 1073741824) := of_decide_eq_false hc39
    clear hc39
    refine co_false h38 rfl ?_
    refine wp_skip ?_
    refine co_then ?_
    refine co_seq ?_
    refine co_seq ?_
    refine co_reg ?_
    refine pk0 (v := pt N3 2) h38 rfl fun a42 h42 => ?_; clear h38
    have hk43 := hk32.below hb36
    refine pk (v := .int .i64 se) h42 rfl (rn_load1 rfl rfl Try.isAgg35 (hk43.cell rfl)) fun a44 h44 => ?_; clear h42
    refine pw h44 rfl (op_call (args := #[.int .i64 se, .int .i64 21]) (R := fun res xw => res = .bool (decide (se < 0 ∨ se > 21)) ∧ Below w35.heap.size w35 xw) rfl rfl rfl (by kernel_rfl) (by kernel_rfl) (Try.call136 _ _) (nOutside_any se 21 w35 ) (by rintro e x ⟨rfl, hb47⟩; exact ⟨_, rfl, ⟨rfl, hb47⟩⟩)) ?_; clear h44
    rintro _ w46 a45 ⟨rfl, hb47⟩ h45
    have hz48 := hb47.size
    refine pl_nil ?_
    refine co_then ?_
    have hB50 := hb_call hB40 hb47
    cases hc49 : (decide (se < 0 ∨ se > 21))
    ·
     rw [hc49] at h45
     have hp51 : ¬ (se < 0 ∨ se > 21) := of_decide_eq_false hc49
     clear hc49
     refine co_false h45 rfl ?_
     refine wp_skip ?_
     refine co_then ?_
     refine co_seq ?_
     refine co_reg ?_
     refine pk0 (v := .int .i64 0) h45 rfl fun a52 h52 => ?_; clear h45
     refine pl_nil ?_
     refine co_then ?_
     refine wp_ret ?_
     refine co_ret1 h52 rfl rfl ?_
     exact ⟨ret_int (by unfold chkSd may; first | rw [if_pos (by omega)] | rw [if_neg (by omega), if_pos (by omega)] | rw [if_neg (by omega), if_neg (by omega), if_pos (by omega)] | rw [if_neg (by omega), if_neg (by omega), if_neg (by omega)]), hB50⟩
    ·
     rw [hc49] at h45
     have hp53 : se < 0 ∨ se > 21 := of_decide_eq_true hc49
     clear hc49
     refine co_true h45 rfl ?_
     refine co_seq ?_
     refine co_reg ?_
     refine pk0 (v := .int .i64 1) h45 rfl fun a54 h54 => ?_; clear h45
     refine pl_nil ?_
     refine co_then ?_
     refine wp_ret ?_
     refine co_thenR ?_
     refine co_ret1 h54 rfl rfl ?_
     exact ⟨ret_int (by unfold chkSd may; first | rw [if_pos (by omega)] | rw [if_neg (by omega), if_pos (by omega)] | rw [if_neg (by omega), if_neg (by omega), if_pos (by omega)] | rw [if_neg (by omega), if_neg (by omega), if_neg (by omega)]), hB50⟩
   ·
    rw [hc39] at h38
    have hp55 : sp < 0 ∨ sp > 1073741824 := of_decide_eq_true hc39
    clear hc39
    refine co_true h38 rfl ?_
    refine co_seq ?_
    refine co_reg ?_
    refine pk0 (v := .int .i64 5) h38 rfl fun a56 h56 => ?_; clear h38
    refine pl_nil ?_
    refine co_then ?_
    refine wp_ret ?_
    refine co_thenR ?_
    refine co_ret1 h56 rfl rfl ?_
    exact ⟨ret_int (by unfold chkSd may; first | rw [if_pos (by omega)] | rw [if_neg (by omega), if_pos (by omega)] | rw [if_neg (by omega), if_neg (by omega), if_pos (by omega)] | rw [if_neg (by omega), if_neg (by omega), if_neg (by omega)]), hB40⟩
  ·
   rw [hc28] at h27
   have hp57 : sr < 0 ∨ sr > 1073741824 := of_decide_eq_true hc28
   clear hc28
   refine psk h27 rfl fun a58 h58 => ?_; clear h27
   refine psk h58 rfl fun a59 h59 => ?_; clear h58
   refine psk h59 rfl fun a60 h60 => ?_; clear h59
   refine pk0 (v := .bool true) h60 rfl fun a61 h61 => ?_; clear h60
   refine pl_nil ?_
   refine co_then ?_
   refine co_true h61 rfl ?_
   refine co_seq ?_
   refine co_reg ?_
   refine pk0 (v := .int .i64 5) h61 rfl fun a62 h62 => ?_; clear h61
   refine pl_nil ?_
   refine co_then ?_
   refine wp_ret ?_
   refine co_thenR ?_
   refine co_ret1 h62 rfl rfl ?_
   exact ⟨ret_int (by unfold chkSd may; first | rw [if_pos (by omega)] | rw [if_neg (by omega), if_pos (by omega)] | rw [if_neg (by omega), if_neg (by omega), if_pos (by omega)] | rw [if_neg (by omega), if_neg (by omega), if_neg (by omega)]), hB29⟩
 ·
  rw [hc16] at h12
  have hp63 : sc < 0 ∨ sc > 2 := of_decide_eq_true hc16
  clear hc16
  refine co_true h12 rfl ?_
  refine co_seq ?_
  refine co_reg ?_
  refine pk0 (v := .int .i64 1) h12 rfl fun a64 h64 => ?_; clear h12
  refine pl_nil ?_
  refine co_then ?_
  refine wp_ret ?_
  refine co_thenR ?_
  refine co_ret1 h64 rfl rfl ?_
  exact ⟨ret_int (by unfold chkSd may; first | rw [if_pos (by omega)] | rw [if_neg (by omega), if_pos (by omega)] | rw [if_neg (by omega), if_neg (by omega), if_pos (by omega)] | rw [if_neg (by omega), if_neg (by omega), if_neg (by omega)]), hB18⟩
set_option maxRecDepth 100000 in
theorem rnSaid_any (sc : Int) (sr : Int) (se : Int) (sp : Int) (w : World)  :
    Calls Try.prog 142 #[.agg #[.int .i64 sc, .int .i64 sr, .int .i64 se, .int .i64 sp]] w fun e w' => e = .returned (.int .i64 (chkSd sc sr se sp)) ∧ Below w.heap.size w w' := by
 have hB0 := Below.refl w.heap.size w
 refine co_enter (n := 29) Try.func142 rfl rfl rfl [(0, .agg #[.int .i64 sc, .int .i64 sr, .int .i64 se, .int .i64 sp])] rfl (fun a h0 => ?_)
 refine co_seq ?_
 refine co_reg ?_
 refine pw h0 rfl (op_new (v := fun N => pt N 0) (T := 71) (cs := #[.int .i64 sc, .int .i64 sr, .int .i64 se, .int .i64 sp]) (by kernel_rfl) (by kernel_rfl) (by kernel_rfl)) ?_; clear h0
 rintro _ w2 a1 ⟨N3, rfl, hN6, hz7, hk5, hg4⟩ h1
 have hz8 := hg4.size
 try dsimp only at h1
 refine pk0 (v := .int .i64 0) h1 rfl fun a9 h9 => ?_; clear h1
 refine pl_nil ?_
 refine co_then ?_
 refine co_seq ?_
 refine co_seq ?_
 refine co_reg ?_
 refine pk0 (v := pt N3 0) h9 rfl fun a10 h10 => ?_; clear h9
 refine pk (v := .int .i64 sc) h10 rfl (rn_load1 rfl rfl Try.isAgg3 (hk5.cell rfl)) fun a11 h11 => ?_; clear h10
 refine pk0 (v := .bool (decide (sc < 0))) h11 rfl fun a12 h12 => ?_; clear h11
 refine pk0 (v := .bool (decide (sc < 0))) h12 rfl fun a13 h13 => ?_; clear h12
 have hB15 := hb_new hB0 hg4
 cases hc14 : (decide (sc < 0))
 ·
  rw [hc14] at h13
  have hp16 : ¬ (sc < 0) := of_decide_eq_false hc14
  clear hc14
  refine pk0 (v := pt N3 0) h13 rfl fun a17 h17 => ?_; clear h13
  refine pk (v := .int .i64 sc) h17 rfl (rn_load1 rfl rfl Try.isAgg3 (hk5.cell rfl)) fun a18 h18 => ?_; clear h17
  refine pk0 (v := .bool (decide (sc ≥ 3))) h18 rfl fun a19 h19 => ?_; clear h18
  refine pk0 (v := .bool (decide (sc ≥ 3))) h19 rfl fun a20 h20 => ?_; clear h19
  refine pl_nil ?_
  refine co_then ?_
  cases hc21 : (decide (sc ≥ 3))
  ·
   rw [hc21] at h20
   have hp22 : ¬ (sc ≥ 3) := of_decide_eq_false hc21
   clear hc21
   refine co_false h20 rfl ?_
   refine wp_skip ?_
   refine co_then ?_
   refine co_seq ?_
   refine co_seq ?_
   refine co_reg ?_
   refine pk0 (v := pt N3 1) h20 rfl fun a23 h23 => ?_; clear h20
   refine pk (v := .int .i64 sr) h23 rfl (rn_load1 rfl rfl Try.isAgg3 (hk5.cell rfl)) fun a24 h24 => ?_; clear h23
   refine pw h24 rfl (op_call (args := #[.int .i64 sr]) (R := fun res xw => res = .bool (decide (0 ≤ sr ∧ sr ≤ 1073741824)) ∧ Below w2.heap.size w2 xw) rfl rfl rfl (by kernel_rfl) (by kernel_rfl) (Try.call141 _ _) (rnMay_any sr w2 ) (by rintro e x ⟨rfl, hb27⟩; exact ⟨_, rfl, ⟨rfl, hb27⟩⟩)) ?_; clear h24
   rintro _ w26 a25 ⟨rfl, hb27⟩ h25
   have hz28 := hb27.size
   have hB30 := hb_call hB15 hb27
   cases hc29 : (decide (0 ≤ sr ∧ sr ≤ 1073741824))
   ·
    rw [hc29] at h25
    have hp31 : ¬ (0 ≤ sr ∧ sr ≤ 1073741824) := of_decide_eq_false hc29
    clear hc29
    refine pk0 (v := .bool true) h25 rfl fun a32 h32 => ?_; clear h25
    refine pk0 (v := .bool true) h32 rfl fun a33 h33 => ?_; clear h32
    refine psk h33 rfl fun a34 h34 => ?_; clear h33
    refine psk h34 rfl fun a35 h35 => ?_; clear h34
    refine psk h35 rfl fun a36 h36 => ?_; clear h35
    refine psk h36 rfl fun a37 h37 => ?_; clear h36
    refine pk0 (v := .bool true) h37 rfl fun a38 h38 => ?_; clear h37
    refine pl_nil ?_
    refine co_then ?_
    refine co_true h38 rfl ?_
    refine co_seq ?_
    refine co_reg ?_
    refine pk0 (v := .int .i64 5) h38 rfl fun a39 h39 => ?_; clear h38
    refine pl_nil ?_
    refine co_then ?_
    refine wp_ret ?_
    refine co_thenR ?_
    refine co_ret1 h39 rfl rfl ?_
    exact ⟨ret_int (by unfold chkSd may; first | rw [if_pos (by omega)] | rw [if_neg (by omega), if_pos (by omega)] | rw [if_neg (by omega), if_neg (by omega), if_pos (by omega)] | rw [if_neg (by omega), if_neg (by omega), if_neg (by omega)]), hB30⟩
   ·
    rw [hc29] at h25
    have hp40 : 0 ≤ sr ∧ sr ≤ 1073741824 := of_decide_eq_true hc29
    clear hc29
    refine pk0 (v := .bool false) h25 rfl fun a41 h41 => ?_; clear h25
    refine pk0 (v := .bool false) h41 rfl fun a42 h42 => ?_; clear h41
    refine pk0 (v := pt N3 3) h42 rfl fun a43 h43 => ?_; clear h42
    have hk44 := hk5.below hb27
    refine pk (v := .int .i64 sp) h43 rfl (rn_load1 rfl rfl Try.isAgg3 (hk44.cell rfl)) fun a45 h45 => ?_; clear h43
    refine pw h45 rfl (op_call (args := #[.int .i64 sp]) (R := fun res xw => res = .bool (decide (0 ≤ sp ∧ sp ≤ 1073741824)) ∧ Below w26.heap.size w26 xw) rfl rfl rfl (by kernel_rfl) (by kernel_rfl) (Try.call141 _ _) (rnMay_any sp w26 ) (by rintro e x ⟨rfl, hb48⟩; exact ⟨_, rfl, ⟨rfl, hb48⟩⟩)) ?_; clear h45
    rintro _ w47 a46 ⟨rfl, hb48⟩ h46
    have hz49 := hb48.size
    have hB51 := hb_call hB30 hb48
    cases hc50 : (decide (0 ≤ sp ∧ sp ≤ 1073741824))
    ·
     rw [hc50] at h46
     have hp52 : ¬ (0 ≤ sp ∧ sp ≤ 1073741824) := of_decide_eq_false hc50
     clear hc50
     refine pk0 (v := .bool true) h46 rfl fun a53 h53 => ?_; clear h46
     refine pk0 (v := .bool true) h53 rfl fun a54 h54 => ?_; clear h53
     refine pl_nil ?_
     refine co_then ?_
     refine co_true h54 rfl ?_
     refine co_seq ?_
     refine co_reg ?_
     refine pk0 (v := .int .i64 5) h54 rfl fun a55 h55 => ?_; clear h54
     refine pl_nil ?_
     refine co_then ?_
     refine wp_ret ?_
     refine co_thenR ?_
     refine co_ret1 h55 rfl rfl ?_
     exact ⟨ret_int (by unfold chkSd may; first | rw [if_pos (by omega)] | rw [if_neg (by omega), if_pos (by omega)] | rw [if_neg (by omega), if_neg (by omega), if_pos (by omega)] | rw [if_neg (by omega), if_neg (by omega), if_neg (by omega)]), hB51⟩
    ·
     rw [hc50] at h46
     have hp56 : 0 ≤ sp ∧ sp ≤ 1073741824 := of_decide_eq_true hc50
     clear hc50
     refine pk0 (v := .bool false) h46 rfl fun a57 h57 => ?_; clear h46
     refine pk0 (v := .bool false) h57 rfl fun a58 h58 => ?_; clear h57
     refine pl_nil ?_
     refine co_then ?_
     refine co_false h58 rfl ?_
     refine wp_skip ?_
     refine co_then ?_
     refine co_seq ?_
     refine co_seq ?_
     refine co_reg ?_
     refine pk0 (v := pt N3 2) h58 rfl fun a59 h59 => ?_; clear h58
     have hk60 := hk44.below hb48
     refine pk (v := .int .i64 se) h59 rfl (rn_load1 rfl rfl Try.isAgg35 (hk60.cell rfl)) fun a61 h61 => ?_; clear h59
     refine pk0 (v := .bool (decide (se < 0))) h61 rfl fun a62 h62 => ?_; clear h61
     refine pk0 (v := .bool (decide (se < 0))) h62 rfl fun a63 h63 => ?_; clear h62
     cases hc64 : (decide (se < 0))
     ·
      rw [hc64] at h63
      have hp65 : ¬ (se < 0) := of_decide_eq_false hc64
      clear hc64
      refine pk0 (v := pt N3 2) h63 rfl fun a66 h66 => ?_; clear h63
      refine pk (v := .int .i64 se) h66 rfl (rn_load1 rfl rfl Try.isAgg35 (hk60.cell rfl)) fun a67 h67 => ?_; clear h66
      refine pk0 (v := .bool (decide (se > 21))) h67 rfl fun a68 h68 => ?_; clear h67
      refine pk0 (v := .bool (decide (se > 21))) h68 rfl fun a69 h69 => ?_; clear h68
      refine pl_nil ?_
      refine co_then ?_
      cases hc70 : (decide (se > 21))
      ·
       rw [hc70] at h69
       have hp71 : ¬ (se > 21) := of_decide_eq_false hc70
       clear hc70
       refine co_false h69 rfl ?_
       refine wp_skip ?_
       refine co_then ?_
       refine co_seq ?_
       refine co_reg ?_
       refine pk0 (v := .int .i64 0) h69 rfl fun a72 h72 => ?_; clear h69
       refine pl_nil ?_
       refine co_then ?_
       refine wp_ret ?_
       refine co_ret1 h72 rfl rfl ?_
       exact ⟨ret_int (by unfold chkSd may; first | rw [if_pos (by omega)] | rw [if_neg (by omega), if_pos (by omega)] | rw [if_neg (by omega), if_neg (by omega), if_pos (by omega)] | rw [if_neg (by omega), if_neg (by omega), if_neg (by omega)]), hB51⟩
      ·
       rw [hc70] at h69
       have hp73 : se > 21 := of_decide_eq_true hc70
       clear hc70
       refine co_true h69 rfl ?_
       refine co_seq ?_
       refine co_reg ?_
       refine pk0 (v := .int .i64 1) h69 rfl fun a74 h74 => ?_; clear h69
       refine pl_nil ?_
       refine co_then ?_
       refine wp_ret ?_
       refine co_thenR ?_
       refine co_ret1 h74 rfl rfl ?_
       exact ⟨ret_int (by unfold chkSd may; first | rw [if_pos (by omega)] | rw [if_neg (by omega), if_pos (by omega)] | rw [if_neg (by omega), if_neg (by omega), if_pos (by omega)] | rw [if_neg (by omega), if_neg (by omega), if_neg (by omega)]), hB51⟩
     ·
      rw [hc64] at h63
      have hp75 : se < 0 := of_decide_eq_true hc64
      clear hc64
      refine psk h63 rfl fun a76 h76 => ?_; clear h63
      refine psk h76 rfl fun a77 h77 => ?_; clear h76
      refine psk h77 rfl fun a78 h78 => ?_; clear h77
      refine pk0 (v := .bool true) h78 rfl fun a79 h79 => ?_; clear h78
      refine pl_nil ?_
      refine co_then ?_
      refine co_true h79 rfl ?_
      refine co_seq ?_
      refine co_reg ?_
      refine pk0 (v := .int .i64 1) h79 rfl fun a80 h80 => ?_; clear h79
      refine pl_nil ?_
      refine co_then ?_
      refine wp_ret ?_
      refine co_thenR ?_
      refine co_ret1 h80 rfl rfl ?_
      exact ⟨ret_int (by unfold chkSd may; first | rw [if_pos (by omega)] | rw [if_neg (by omega), if_pos (by omega)] | rw [if_neg (by omega), if_neg (by omega), if_pos (by omega)] | rw [if_neg (by omega), if_neg (by omega), if_neg (by omega)]), hB51⟩
  ·
   rw [hc21] at h20
   have hp81 : sc ≥ 3 := of_decide_eq_true hc21
   clear hc21
   refine co_true h20 rfl ?_
   refine co_seq ?_
   refine co_reg ?_
   refine pk0 (v := .int .i64 1) h20 rfl fun a82 h82 => ?_; clear h20
   refine pl_nil ?_
   refine co_then ?_
   refine wp_ret ?_
   refine co_thenR ?_
   refine co_ret1 h82 rfl rfl ?_
   exact ⟨ret_int (by unfold chkSd may; first | rw [if_pos (by omega)] | rw [if_neg (by omega), if_pos (by omega)] | rw [if_neg (by omega), if_neg (by omega), if_pos (by omega)] | rw [if_neg (by omega), if_neg (by omega), if_neg (by omega)]), hB15⟩
 ·
  rw [hc14] at h13
  have hp83 : sc < 0 := of_decide_eq_true hc14
  clear hc14
  refine psk h13 rfl fun a84 h84 => ?_; clear h13
  refine psk h84 rfl fun a85 h85 => ?_; clear h84
  refine psk h85 rfl fun a86 h86 => ?_; clear h85
  refine pk0 (v := .bool true) h86 rfl fun a87 h87 => ?_; clear h86
  refine pl_nil ?_
  refine co_then ?_
  refine co_true h87 rfl ?_
  refine co_seq ?_
  refine co_reg ?_
  refine pk0 (v := .int .i64 1) h87 rfl fun a88 h88 => ?_; clear h87
  refine pl_nil ?_
  refine co_then ?_
  refine wp_ret ?_
  refine co_thenR ?_
  refine co_ret1 h88 rfl rfl ?_
  exact ⟨ret_int (by unfold chkSd may; first | rw [if_pos (by omega)] | rw [if_neg (by omega), if_pos (by omega)] | rw [if_neg (by omega), if_neg (by omega), if_pos (by omega)] | rw [if_neg (by omega), if_neg (by omega), if_neg (by omega)]), hB15⟩
set_option maxRecDepth 100000 in
theorem nCheck_any (d : NoteD) (mv : Value) (lv : Value) (ev : Value) (w : World) (hm : SliceOf memE 2 w mv d.ms) (hg : SliceOf (intE .i64) 1 w lv d.lg) (he : SliceOf opE 3 w ev d.el) (hR : NoteR d) :
    Calls Try.prog 92 #[.agg #[.int .i64 d.k, .int .i64 d.n, .int .u64 d.t, .int .i64 d.ep, mv, .int .u64 d.fl, lv, .int .i64 d.ec, .int .i64 d.er, ev, .int .u64 d.ets, .int .i64 d.pid, .int .u64 d.pat, .int .i64 d.plf, .int .i64 d.sc, .int .i64 d.sr, .int .i64 d.se, .int .i64 d.sp]] w fun e w' => e = .returned (.int .i64 (chkN d)) ∧ Below w.heap.size w w' := by
 have hrng := hR.rng
 have hB0 := Below.refl w.heap.size w
 have hl_hm := sl_len hm
 have hl_hg := sl_len hg
 have hl_he := sl_len he
 refine co_enter (n := 50) Try.func92 rfl rfl rfl [(0, .agg #[.int .i64 d.k, .int .i64 d.n, .int .u64 d.t, .int .i64 d.ep, mv, .int .u64 d.fl, lv, .int .i64 d.ec, .int .i64 d.er, ev, .int .u64 d.ets, .int .i64 d.pid, .int .u64 d.pat, .int .i64 d.plf, .int .i64 d.sc, .int .i64 d.sr, .int .i64 d.se, .int .i64 d.sp])] rfl (fun a h0 => ?_)
 refine co_seq ?_
 refine co_reg ?_
 refine pw h0 rfl (op_new (v := fun N => pt N 0) (T := 73) (cs := #[.int .i64 d.k, .int .i64 d.n, .int .u64 d.t, .int .i64 d.ep, mv, .int .u64 d.fl, lv, .int .i64 d.ec, .int .i64 d.er, ev, .int .u64 d.ets, .int .i64 d.pid, .int .u64 d.pat, .int .i64 d.plf, .int .i64 d.sc, .int .i64 d.sr, .int .i64 d.se, .int .i64 d.sp]) (by kernel_rfl) (by kernel_rfl) (by kernel_rfl)) ?_; clear h0
 rintro _ w2 a1 ⟨N3, rfl, hN6, hz7, hk5, hg4⟩ h1
 have hz8 := hg4.size
 try dsimp only at h1
 refine pk0 (v := .int .i64 0) h1 rfl fun a9 h9 => ?_; clear h1
 refine pl_nil ?_
 refine co_then ?_
 refine co_seq ?_
 refine co_seq ?_
 refine co_reg ?_
 refine pk0 (v := pt N3 0) h9 rfl fun a10 h10 => ?_; clear h9
 refine pk (v := .int .i64 d.k) h10 rfl (rn_load1 rfl rfl Try.isAgg3 (hk5.cell rfl)) fun a11 h11 => ?_; clear h10
 refine pl_nil ?_
 refine co_then ?_
 refine wp_block ?_
 refine co_seq ?_
 refine co_reg ?_
 refine pk0 (v := .bool (d.k == 1)) h11 rfl fun a12 h12 => ?_; clear h11
 refine pk0 (v := .bool (d.k == 1)) h12 rfl fun a13 h13 => ?_; clear h12
 refine pl_nil ?_
 refine co_then ?_
 have hB15 := hb_new hB0 hg4
 cases hc14 : (d.k == 1)
 ·
  rw [hc14] at h13
  have hp16 : ¬ (d.k = 1) := by first | simpa using hc14 | simpa [and_assoc] using hc14
  clear hc14
  refine co_false h13 rfl ?_
  refine co_seq ?_
  refine co_reg ?_
  refine pk0 (v := .bool (d.k == 2)) h13 rfl fun a17 h17 => ?_; clear h13
  refine pk0 (v := .bool (d.k == 2)) h17 rfl fun a18 h18 => ?_; clear h17
  refine pl_nil ?_
  refine co_then ?_
  cases hc19 : (d.k == 2)
  ·
   rw [hc19] at h18
   have hp20 : ¬ (d.k = 2) := by first | simpa using hc19 | simpa [and_assoc] using hc19
   clear hc19
   refine co_false h18 rfl ?_
   refine co_seq ?_
   refine co_seq ?_
   refine co_reg ?_
   refine pk0 (v := .bool (d.k == 3)) h18 rfl fun a21 h21 => ?_; clear h18
   refine pk0 (v := .bool (d.k == 3)) h21 rfl fun a22 h22 => ?_; clear h21
   refine pl_nil ?_
   refine co_then ?_
   cases hc23 : (d.k == 3)
   ·
    rw [hc23] at h22
    have hp24 : ¬ (d.k = 3) := by first | simpa using hc23 | simpa [and_assoc] using hc23
    clear hc23
    refine co_false h22 rfl ?_
    refine co_seq ?_
    refine co_reg ?_
    refine pk0 (v := .bool (d.k == 4)) h22 rfl fun a25 h25 => ?_; clear h22
    refine pk0 (v := .bool (d.k == 4)) h25 rfl fun a26 h26 => ?_; clear h25
    refine pl_nil ?_
    refine co_then ?_
    cases hc27 : (d.k == 4)
    ·
     rw [hc27] at h26
     have hp28 : ¬ (d.k = 4) := by first | simpa using hc27 | simpa [and_assoc] using hc27
     clear hc27
     refine co_false h26 rfl ?_
     refine co_seq ?_
     refine co_reg ?_
     refine pk0 (v := .bool (d.k == 5)) h26 rfl fun a29 h29 => ?_; clear h26
     refine pk0 (v := .bool (d.k == 5)) h29 rfl fun a30 h30 => ?_; clear h29
     refine pl_nil ?_
     refine co_then ?_
     cases hc31 : (d.k == 5)
     ·
      rw [hc31] at h30
      have hp32 : ¬ (d.k = 5) := by first | simpa using hc31 | simpa [and_assoc] using hc31
      clear hc31
      refine co_false h30 rfl ?_
      refine co_reg ?_
      refine pk0 (v := .bool (d.k == 7)) h30 rfl fun a33 h33 => ?_; clear h30
      refine pk0 (v := .bool (d.k == 7)) h33 rfl fun a34 h34 => ?_; clear h33
      refine pl_nil ?_
      refine co_then ?_
      cases hc35 : (d.k == 7)
      ·
       rw [hc35] at h34
       have hp36 : ¬ (d.k = 7) := by first | simpa using hc35 | simpa [and_assoc] using hc35
       clear hc35
       refine co_false h34 rfl ?_
       refine co_seq ?_
       refine co_reg ?_
       refine pk0 (v := .bool (d.k == 6)) h34 rfl fun a37 h37 => ?_; clear h34
       refine pk0 (v := .bool (d.k == 6)) h37 rfl fun a38 h38 => ?_; clear h37
       refine pl_nil ?_
       refine co_then ?_
       cases hc39 : (d.k == 6)
       ·
        rw [hc39] at h38
        have hp40 : ¬ (d.k = 6) := by first | simpa using hc39 | simpa [and_assoc] using hc39
        clear hc39
        refine co_false h38 rfl ?_
        refine co_seq ?_
        refine co_reg ?_
        refine pk0 (v := .bool (d.k == 8)) h38 rfl fun a41 h41 => ?_; clear h38
        refine pk0 (v := .bool (d.k == 8)) h41 rfl fun a42 h42 => ?_; clear h41
        refine pl_nil ?_
        refine co_then ?_
        cases hc43 : (d.k == 8)
        ·
         rw [hc43] at h42
         have hp44 : ¬ (d.k = 8) := by first | simpa using hc43 | simpa [and_assoc] using hc43
         clear hc43
         refine co_false h42 rfl ?_
         refine wp_skip ?_
         refine co_blockN ?_
         refine co_then ?_
         refine co_seq ?_
         refine co_reg ?_
         refine pk0 (v := .int .i64 11) h42 rfl fun a45 h45 => ?_; clear h42
         refine pl_nil ?_
         refine co_then ?_
         refine wp_ret ?_
         refine co_ret1 h45 rfl rfl ?_
         exact ⟨ret_int (by rw [chkN_0 (by omega)]), hB15⟩
        ·
         rw [hc43] at h42
         have hp46 : d.k = 8 := by first | simpa using hc43 | simpa [and_assoc] using hc43
         clear hc43
         refine co_true h42 rfl ?_
         refine co_seq ?_
         refine co_reg ?_
         refine pk0 (v := pt N3 14) h42 rfl fun a47 h47 => ?_; clear h42
         refine pk (v := .agg #[.int .i64 d.sc, .int .i64 d.sr, .int .i64 d.se, .int .i64 d.sp]) h47 rfl (rn_loadN rfl rfl Try.underlying71 rfl (by kernel_rfl) (blk_part hk5 14 (by rfl))) fun a48 h48 => ?_; clear h47
         refine pw h48 rfl (op_call (args := #[.agg #[.int .i64 d.sc, .int .i64 d.sr, .int .i64 d.se, .int .i64 d.sp]]) (R := fun res xw => res = .int .i64 (chkSd d.sc d.sr d.se d.sp) ∧ Below w2.heap.size w2 xw) rfl rfl rfl (by kernel_rfl) (by kernel_rfl) (Try.call137 _ _) (nSaid_any d.sc d.sr d.se d.sp w2 ) (by rintro e x ⟨rfl, hb51⟩; exact ⟨_, rfl, ⟨rfl, hb51⟩⟩)) ?_; clear h48
         rintro _ w50 a49 ⟨rfl, hb51⟩ h49
         have hz52 := hb51.size
         refine pk0 (v := .int .i64 (chkSd d.sc d.sr d.se d.sp)) h49 rfl fun a53 h53 => ?_; clear h49
         refine pl_nil ?_
         refine co_then ?_
         refine wp_ret ?_
         refine co_blockR ?_
         refine co_thenR ?_
         refine co_ret1 h53 rfl rfl ?_
         have hB54 := hb_call hB15 hb51
         exact ⟨ret_int (by rw [chkN_8 (by omega)]), hB54⟩
       ·
        rw [hc39] at h38
        have hp55 : d.k = 6 := by first | simpa using hc39 | simpa [and_assoc] using hc39
        clear hc39
        refine co_true h38 rfl ?_
        refine co_seq ?_
        refine co_seq ?_
        refine co_reg ?_
        refine pk0 (v := pt N3 11) h38 rfl fun a56 h56 => ?_; clear h38
        refine pk0 (v := pt N3 11) h56 rfl fun a57 h57 => ?_; clear h56
        refine pk (v := .int .i64 d.pid) h57 rfl (rn_load1 rfl rfl Try.isAgg3 (hk5.cell rfl)) fun a58 h58 => ?_; clear h57
        refine pw h58 rfl (op_call (args := #[.int .i64 d.pid, .int .i64 1073741824]) (R := fun res xw => res = .bool (decide (d.pid < 0 ∨ d.pid > 1073741824)) ∧ Below w2.heap.size w2 xw) rfl rfl rfl (by kernel_rfl) (by kernel_rfl) (Try.call136 _ _) (nOutside_any d.pid 1073741824 w2 ) (by rintro e x ⟨rfl, hb61⟩; exact ⟨_, rfl, ⟨rfl, hb61⟩⟩)) ?_; clear h58
        rintro _ w60 a59 ⟨rfl, hb61⟩ h59
        have hz62 := hb61.size
        refine pk0 (v := .bool (decide (d.pid < 0 ∨ d.pid > 1073741824))) h59 rfl fun a63 h63 => ?_; clear h59
        have hB65 := hb_call hB15 hb61
        cases hc64 : (decide (d.pid < 0 ∨ d.pid > 1073741824))
        ·
         rw [hc64] at h63
         have hp66 : ¬ (d.pid < 0 ∨ d.pid > 1073741824) := of_decide_eq_false hc64
         clear hc64
         refine pk0 (v := pt N3 11) h63 rfl fun a67 h67 => ?_; clear h63
         refine pk0 (v := pt N3 13) h67 rfl fun a68 h68 => ?_; clear h67
         have hk69 := hk5.below hb61
         refine pk (v := .int .i64 d.plf) h68 rfl (rn_load1 rfl rfl Try.isAgg3 (hk69.cell rfl)) fun a70 h70 => ?_; clear h68
         refine pw h70 rfl (op_call (args := #[.int .i64 d.plf, .int .i64 1073741824]) (R := fun res xw => res = .bool (decide (d.plf < 0 ∨ d.plf > 1073741824)) ∧ Below w60.heap.size w60 xw) rfl rfl rfl (by kernel_rfl) (by kernel_rfl) (Try.call136 _ _) (nOutside_any d.plf 1073741824 w60 ) (by rintro e x ⟨rfl, hb73⟩; exact ⟨_, rfl, ⟨rfl, hb73⟩⟩)) ?_; clear h70
         rintro _ w72 a71 ⟨rfl, hb73⟩ h71
         have hz74 := hb73.size
         refine pk0 (v := .bool (decide (d.plf < 0 ∨ d.plf > 1073741824))) h71 rfl fun a75 h75 => ?_; clear h71
         refine pl_nil ?_
         refine co_then ?_
         have hB77 := hb_call hB65 hb73
         cases hc76 : (decide (d.plf < 0 ∨ d.plf > 1073741824))
         ·
          rw [hc76] at h75
          have hp78 : ¬ (d.plf < 0 ∨ d.plf > 1073741824) := of_decide_eq_false hc76
          clear hc76
          refine co_false h75 rfl ?_
          refine wp_skip ?_
          refine co_then ?_
          refine co_seq ?_
          refine co_reg ?_
          refine pk0 (v := .int .i64 0) h75 rfl fun a79 h79 => ?_; clear h75
          refine pl_nil ?_
          refine co_then ?_
          refine wp_ret ?_
          refine co_blockR ?_
          refine co_thenR ?_
          refine co_ret1 h79 rfl rfl ?_
          exact ⟨ret_int (by rw [chkN_6 (by omega)]; unfold may; first | rw [if_pos (by omega)] | rw [if_neg (by omega)]), hB77⟩
         ·
          rw [hc76] at h75
          have hp80 : d.plf < 0 ∨ d.plf > 1073741824 := of_decide_eq_true hc76
          clear hc76
          refine co_true h75 rfl ?_
          refine co_seq ?_
          refine co_reg ?_
          refine pk0 (v := .int .i64 5) h75 rfl fun a81 h81 => ?_; clear h75
          refine pl_nil ?_
          refine co_then ?_
          refine wp_ret ?_
          refine co_thenR ?_
          refine co_blockR ?_
          refine co_thenR ?_
          refine co_ret1 h81 rfl rfl ?_
          exact ⟨ret_int (by rw [chkN_6 (by omega)]; unfold may; first | rw [if_pos (by omega)] | rw [if_neg (by omega)]), hB77⟩
        ·
         rw [hc64] at h63
         have hp82 : d.pid < 0 ∨ d.pid > 1073741824 := of_decide_eq_true hc64
         clear hc64
         refine psk h63 rfl fun a83 h83 => ?_; clear h63
         refine psk h83 rfl fun a84 h84 => ?_; clear h83
         refine psk h84 rfl fun a85 h85 => ?_; clear h84
         refine psk h85 rfl fun a86 h86 => ?_; clear h85
         refine pk0 (v := .bool true) h86 rfl fun a87 h87 => ?_; clear h86
         refine pl_nil ?_
         refine co_then ?_
         refine co_true h87 rfl ?_
         refine co_seq ?_
         refine co_reg ?_
         refine pk0 (v := .int .i64 5) h87 rfl fun a88 h88 => ?_; clear h87
         refine pl_nil ?_
         refine co_then ?_
         refine wp_ret ?_
         refine co_thenR ?_
         refine co_blockR ?_
         refine co_thenR ?_
         refine co_ret1 h88 rfl rfl ?_
         exact ⟨ret_int (by rw [chkN_6 (by omega)]; unfold may; first | rw [if_pos (by omega)] | rw [if_neg (by omega)]), hB65⟩
      ·
       rw [hc35] at h34
       have hp89 : d.k = 7 := by first | simpa using hc35 | simpa [and_assoc] using hc35
       clear hc35
       refine co_true h34 rfl ?_
       refine co_seq ?_
       refine co_seq ?_
       refine co_reg ?_
       refine pk0 (v := pt N3 1) h34 rfl fun a90 h90 => ?_; clear h34
       refine pk (v := .int .i64 d.n) h90 rfl (rn_load1 rfl rfl Try.isAgg3 (hk5.cell rfl)) fun a91 h91 => ?_; clear h90
       refine pw h91 rfl (op_call (args := #[.int .i64 d.n, .int .i64 1073741824]) (R := fun res xw => res = .bool (decide (d.n < 0 ∨ d.n > 1073741824)) ∧ Below w2.heap.size w2 xw) rfl rfl rfl (by kernel_rfl) (by kernel_rfl) (Try.call136 _ _) (nOutside_any d.n 1073741824 w2 ) (by rintro e x ⟨rfl, hb94⟩; exact ⟨_, rfl, ⟨rfl, hb94⟩⟩)) ?_; clear h91
       rintro _ w93 a92 ⟨rfl, hb94⟩ h92
       have hz95 := hb94.size
       refine pl_nil ?_
       refine co_then ?_
       have hB97 := hb_call hB15 hb94
       cases hc96 : (decide (d.n < 0 ∨ d.n > 1073741824))
       ·
        rw [hc96] at h92
        have hp98 : ¬ (d.n < 0 ∨ d.n > 1073741824) := of_decide_eq_false hc96
        clear hc96
        refine co_false h92 rfl ?_
        refine wp_skip ?_
        refine co_then ?_
        refine co_seq ?_
        refine co_reg ?_
        refine pk0 (v := .int .i64 0) h92 rfl fun a99 h99 => ?_; clear h92
        refine pl_nil ?_
        refine co_then ?_
        refine wp_ret ?_
        refine co_blockR ?_
        refine co_thenR ?_
        refine co_ret1 h99 rfl rfl ?_
        exact ⟨ret_int (by rw [chkN_3 (by omega)]; unfold may; first | rw [if_pos (by omega)] | rw [if_neg (by omega)]), hB97⟩
       ·
        rw [hc96] at h92
        have hp100 : d.n < 0 ∨ d.n > 1073741824 := of_decide_eq_true hc96
        clear hc96
        refine co_true h92 rfl ?_
        refine co_seq ?_
        refine co_reg ?_
        refine pk0 (v := .int .i64 5) h92 rfl fun a101 h101 => ?_; clear h92
        refine pl_nil ?_
        refine co_then ?_
        refine wp_ret ?_
        refine co_thenR ?_
        refine co_blockR ?_
        refine co_thenR ?_
        refine co_ret1 h101 rfl rfl ?_
        exact ⟨ret_int (by rw [chkN_3 (by omega)]; unfold may; first | rw [if_pos (by omega)] | rw [if_neg (by omega)]), hB97⟩
     ·
      rw [hc31] at h30
      have hp102 : d.k = 5 := by first | simpa using hc31 | simpa [and_assoc] using hc31
      clear hc31
      refine co_true h30 rfl ?_
      refine wp_skip ?_
      refine co_then ?_
      refine co_true h30 rfl ?_
      refine co_seq ?_
      refine co_seq ?_
      refine co_reg ?_
      refine pk0 (v := pt N3 1) h30 rfl fun a103 h103 => ?_; clear h30
      refine pk (v := .int .i64 d.n) h103 rfl (rn_load1 rfl rfl Try.isAgg3 (hk5.cell rfl)) fun a104 h104 => ?_; clear h103
      refine pw h104 rfl (op_call (args := #[.int .i64 d.n, .int .i64 1073741824]) (R := fun res xw => res = .bool (decide (d.n < 0 ∨ d.n > 1073741824)) ∧ Below w2.heap.size w2 xw) rfl rfl rfl (by kernel_rfl) (by kernel_rfl) (Try.call136 _ _) (nOutside_any d.n 1073741824 w2 ) (by rintro e x ⟨rfl, hb107⟩; exact ⟨_, rfl, ⟨rfl, hb107⟩⟩)) ?_; clear h104
      rintro _ w106 a105 ⟨rfl, hb107⟩ h105
      have hz108 := hb107.size
      refine pl_nil ?_
      refine co_then ?_
      have hB110 := hb_call hB15 hb107
      cases hc109 : (decide (d.n < 0 ∨ d.n > 1073741824))
      ·
       rw [hc109] at h105
       have hp111 : ¬ (d.n < 0 ∨ d.n > 1073741824) := of_decide_eq_false hc109
       clear hc109
       refine co_false h105 rfl ?_
       refine wp_skip ?_
       refine co_then ?_
       refine co_seq ?_
       refine co_reg ?_
       refine pk0 (v := .int .i64 0) h105 rfl fun a112 h112 => ?_; clear h105
       refine pl_nil ?_
       refine co_then ?_
       refine wp_ret ?_
       refine co_blockR ?_
       refine co_thenR ?_
       refine co_ret1 h112 rfl rfl ?_
       exact ⟨ret_int (by rw [chkN_3 (by omega)]; unfold may; first | rw [if_pos (by omega)] | rw [if_neg (by omega)]), hB110⟩
      ·
       rw [hc109] at h105
       have hp113 : d.n < 0 ∨ d.n > 1073741824 := of_decide_eq_true hc109
       clear hc109
       refine co_true h105 rfl ?_
       refine co_seq ?_
       refine co_reg ?_
       refine pk0 (v := .int .i64 5) h105 rfl fun a114 h114 => ?_; clear h105
       refine pl_nil ?_
       refine co_then ?_
       refine wp_ret ?_
       refine co_thenR ?_
       refine co_blockR ?_
       refine co_thenR ?_
       refine co_ret1 h114 rfl rfl ?_
       exact ⟨ret_int (by rw [chkN_3 (by omega)]; unfold may; first | rw [if_pos (by omega)] | rw [if_neg (by omega)]), hB110⟩
    ·
     rw [hc27] at h26
     have hp115 : d.k = 4 := by first | simpa using hc27 | simpa [and_assoc] using hc27
     clear hc27
     refine co_true h26 rfl ?_
     refine wp_skip ?_
     refine co_then ?_
     refine co_true h26 rfl ?_
     refine co_seq ?_
     refine co_seq ?_
     refine co_reg ?_
     refine pk0 (v := pt N3 1) h26 rfl fun a116 h116 => ?_; clear h26
     refine pk (v := .int .i64 d.n) h116 rfl (rn_load1 rfl rfl Try.isAgg3 (hk5.cell rfl)) fun a117 h117 => ?_; clear h116
     refine pw h117 rfl (op_call (args := #[.int .i64 d.n, .int .i64 1073741824]) (R := fun res xw => res = .bool (decide (d.n < 0 ∨ d.n > 1073741824)) ∧ Below w2.heap.size w2 xw) rfl rfl rfl (by kernel_rfl) (by kernel_rfl) (Try.call136 _ _) (nOutside_any d.n 1073741824 w2 ) (by rintro e x ⟨rfl, hb120⟩; exact ⟨_, rfl, ⟨rfl, hb120⟩⟩)) ?_; clear h117
     rintro _ w119 a118 ⟨rfl, hb120⟩ h118
     have hz121 := hb120.size
     refine pl_nil ?_
     refine co_then ?_
     have hB123 := hb_call hB15 hb120
     cases hc122 : (decide (d.n < 0 ∨ d.n > 1073741824))
     ·
      rw [hc122] at h118
      have hp124 : ¬ (d.n < 0 ∨ d.n > 1073741824) := of_decide_eq_false hc122
      clear hc122
      refine co_false h118 rfl ?_
      refine wp_skip ?_
      refine co_then ?_
      refine co_seq ?_
      refine co_reg ?_
      refine pk0 (v := .int .i64 0) h118 rfl fun a125 h125 => ?_; clear h118
      refine pl_nil ?_
      refine co_then ?_
      refine wp_ret ?_
      refine co_blockR ?_
      refine co_thenR ?_
      refine co_ret1 h125 rfl rfl ?_
      exact ⟨ret_int (by rw [chkN_3 (by omega)]; unfold may; first | rw [if_pos (by omega)] | rw [if_neg (by omega)]), hB123⟩
     ·
      rw [hc122] at h118
      have hp126 : d.n < 0 ∨ d.n > 1073741824 := of_decide_eq_true hc122
      clear hc122
      refine co_true h118 rfl ?_
      refine co_seq ?_
      refine co_reg ?_
      refine pk0 (v := .int .i64 5) h118 rfl fun a127 h127 => ?_; clear h118
      refine pl_nil ?_
      refine co_then ?_
      refine wp_ret ?_
      refine co_thenR ?_
      refine co_blockR ?_
      refine co_thenR ?_
      refine co_ret1 h127 rfl rfl ?_
      exact ⟨ret_int (by rw [chkN_3 (by omega)]; unfold may; first | rw [if_pos (by omega)] | rw [if_neg (by omega)]), hB123⟩
   ·
    rw [hc23] at h22
    have hp128 : d.k = 3 := by first | simpa using hc23 | simpa [and_assoc] using hc23
    clear hc23
    refine co_true h22 rfl ?_
    refine wp_skip ?_
    refine co_then ?_
    refine co_true h22 rfl ?_
    refine co_seq ?_
    refine co_seq ?_
    refine co_reg ?_
    refine pk0 (v := pt N3 1) h22 rfl fun a129 h129 => ?_; clear h22
    refine pk (v := .int .i64 d.n) h129 rfl (rn_load1 rfl rfl Try.isAgg3 (hk5.cell rfl)) fun a130 h130 => ?_; clear h129
    refine pw h130 rfl (op_call (args := #[.int .i64 d.n, .int .i64 1073741824]) (R := fun res xw => res = .bool (decide (d.n < 0 ∨ d.n > 1073741824)) ∧ Below w2.heap.size w2 xw) rfl rfl rfl (by kernel_rfl) (by kernel_rfl) (Try.call136 _ _) (nOutside_any d.n 1073741824 w2 ) (by rintro e x ⟨rfl, hb133⟩; exact ⟨_, rfl, ⟨rfl, hb133⟩⟩)) ?_; clear h130
    rintro _ w132 a131 ⟨rfl, hb133⟩ h131
    have hz134 := hb133.size
    refine pl_nil ?_
    refine co_then ?_
    have hB136 := hb_call hB15 hb133
    cases hc135 : (decide (d.n < 0 ∨ d.n > 1073741824))
    ·
     rw [hc135] at h131
     have hp137 : ¬ (d.n < 0 ∨ d.n > 1073741824) := of_decide_eq_false hc135
     clear hc135
     refine co_false h131 rfl ?_
     refine wp_skip ?_
     refine co_then ?_
     refine co_seq ?_
     refine co_reg ?_
     refine pk0 (v := .int .i64 0) h131 rfl fun a138 h138 => ?_; clear h131
     refine pl_nil ?_
     refine co_then ?_
     refine wp_ret ?_
     refine co_blockR ?_
     refine co_thenR ?_
     refine co_ret1 h138 rfl rfl ?_
     exact ⟨ret_int (by rw [chkN_3 (by omega)]; unfold may; first | rw [if_pos (by omega)] | rw [if_neg (by omega)]), hB136⟩
    ·
     rw [hc135] at h131
     have hp139 : d.n < 0 ∨ d.n > 1073741824 := of_decide_eq_true hc135
     clear hc135
     refine co_true h131 rfl ?_
     refine co_seq ?_
     refine co_reg ?_
     refine pk0 (v := .int .i64 5) h131 rfl fun a140 h140 => ?_; clear h131
     refine pl_nil ?_
     refine co_then ?_
     refine wp_ret ?_
     refine co_thenR ?_
     refine co_blockR ?_
     refine co_thenR ?_
     refine co_ret1 h140 rfl rfl ?_
     exact ⟨ret_int (by rw [chkN_3 (by omega)]; unfold may; first | rw [if_pos (by omega)] | rw [if_neg (by omega)]), hB136⟩
  ·
   rw [hc19] at h18
   have hp141 : d.k = 2 := by first | simpa using hc19 | simpa [and_assoc] using hc19
   clear hc19
   refine co_true h18 rfl ?_
   refine co_seq ?_
   refine co_seq ?_
   refine co_reg ?_
   refine pk0 (v := pt N3 1) h18 rfl fun a142 h142 => ?_; clear h18
   refine pk (v := .int .i64 d.n) h142 rfl (rn_load1 rfl rfl Try.isAgg3 (hk5.cell rfl)) fun a143 h143 => ?_; clear h142
   refine pw h143 rfl (op_call (args := #[.int .i64 d.n, .int .i64 1073741824]) (R := fun res xw => res = .bool (decide (d.n < 0 ∨ d.n > 1073741824)) ∧ Below w2.heap.size w2 xw) rfl rfl rfl (by kernel_rfl) (by kernel_rfl) (Try.call136 _ _) (nOutside_any d.n 1073741824 w2 ) (by rintro e x ⟨rfl, hb146⟩; exact ⟨_, rfl, ⟨rfl, hb146⟩⟩)) ?_; clear h143
   rintro _ w145 a144 ⟨rfl, hb146⟩ h144
   have hz147 := hb146.size
   refine pl_nil ?_
   refine co_then ?_
   have hB149 := hb_call hB15 hb146
   cases hc148 : (decide (d.n < 0 ∨ d.n > 1073741824))
   ·
    rw [hc148] at h144
    have hp150 : ¬ (d.n < 0 ∨ d.n > 1073741824) := of_decide_eq_false hc148
    clear hc148
    refine co_false h144 rfl ?_
    refine wp_skip ?_
    refine co_then ?_
    refine co_seq ?_
    refine co_reg ?_
    refine pk0 (v := pt N3 7) h144 rfl fun a151 h151 => ?_; clear h144
    have hk152 := hk5.below hb146
    refine pk (v := .agg #[.int .i64 d.ec, .int .i64 d.er, ev, .int .u64 d.ets]) h151 rfl (rn_loadN rfl rfl Try.underlying34 rfl (by kernel_rfl) (blk_part hk152 7 (by rfl))) fun a153 h153 => ?_; clear h151
    refine pw h153 rfl (op_call (args := #[.agg #[.int .i64 d.ec, .int .i64 d.er, ev, .int .u64 d.ets]]) (R := fun res xw => res = .int .i64 (chkB d.ec d.er d.el) ∧ Below w145.heap.size w145 xw) rfl rfl rfl (by kernel_rfl) (by kernel_rfl) (Try.call21 _ _) (itemCheck_any d.ec d.er ev d.el d.ets w145 (he.below hB149)) (by rintro e x ⟨rfl, hb156⟩; exact ⟨_, rfl, ⟨rfl, hb156⟩⟩)) ?_; clear h153
    rintro _ w155 a154 ⟨rfl, hb156⟩ h154
    have hz157 := hb156.size
    refine pk0 (v := .int .i64 (chkB d.ec d.er d.el)) h154 rfl fun a158 h158 => ?_; clear h154
    refine pl_nil ?_
    refine co_then ?_
    refine wp_ret ?_
    refine co_blockR ?_
    refine co_thenR ?_
    refine co_ret1 h158 rfl rfl ?_
    have hB159 := hb_call hB149 hb156
    exact ⟨ret_int (by rw [chkN_2 (by omega)]; unfold may; first | rw [if_pos (by omega)] | rw [if_neg (by omega)]), hB159⟩
   ·
    rw [hc148] at h144
    have hp160 : d.n < 0 ∨ d.n > 1073741824 := of_decide_eq_true hc148
    clear hc148
    refine co_true h144 rfl ?_
    refine co_seq ?_
    refine co_reg ?_
    refine pk0 (v := .int .i64 5) h144 rfl fun a161 h161 => ?_; clear h144
    refine pl_nil ?_
    refine co_then ?_
    refine wp_ret ?_
    refine co_thenR ?_
    refine co_blockR ?_
    refine co_thenR ?_
    refine co_ret1 h161 rfl rfl ?_
    exact ⟨ret_int (by rw [chkN_2 (by omega)]; unfold may; first | rw [if_pos (by omega)] | rw [if_neg (by omega)]), hB149⟩
 ·
  rw [hc14] at h13
  have hp162 : d.k = 1 := by first | simpa using hc14 | simpa [and_assoc] using hc14
  clear hc14
  refine co_true h13 rfl ?_
  refine co_seq ?_
  refine co_seq ?_
  refine co_reg ?_
  refine pk0 (v := pt N3 3) h13 rfl fun a163 h163 => ?_; clear h13
  refine pk (v := .agg #[.int .i64 d.ep, mv, .int .u64 d.fl]) h163 rfl (rn_loadN rfl rfl Try.underlying56 rfl (by kernel_rfl) (blk_part hk5 3 (by rfl))) fun a164 h164 => ?_; clear h163
  refine pw h164 rfl (op_call (args := #[.agg #[.int .i64 d.ep, mv, .int .u64 d.fl]]) (R := fun res xw => res = .int .i64 (chkC d.ep d.ms) ∧ Below w2.heap.size w2 xw) rfl rfl rfl (by kernel_rfl) (by kernel_rfl) (Try.call134 _ _) (wcheck_any d.ep mv d.ms d.fl w2 (hm.below hB15) hR.mem (by omega) (by omega)) (by rintro e x ⟨rfl, hb167⟩; exact ⟨_, rfl, ⟨rfl, hb167⟩⟩)) ?_; clear h164
  rintro _ w166 a165 ⟨rfl, hb167⟩ h165
  have hz168 := hb167.size
  refine pk0 (v := .int .i64 (chkC d.ep d.ms)) h165 rfl fun a169 h169 => ?_; clear h165
  refine pl_nil ?_
  refine co_then ?_
  refine co_seq ?_
  refine co_reg ?_
  refine pk0 (v := .int .i64 (chkC d.ep d.ms)) h169 rfl fun a170 h170 => ?_; clear h169
  refine pk0 (v := .bool (chkC d.ep d.ms != 0)) h170 rfl fun a171 h171 => ?_; clear h170
  refine pl_nil ?_
  refine co_then ?_
  have hB173 := hb_call hB15 hb167
  cases hc172 : (chkC d.ep d.ms != 0)
  ·
   rw [hc172] at h171
   have hp174 : ¬ (chkC d.ep d.ms ≠ 0) := by first | simpa using hc172 | simpa [and_assoc] using hc172
   clear hc172
   refine co_false h171 rfl ?_
   refine wp_skip ?_
   refine co_then ?_
   refine co_seq ?_
   refine co_reg ?_
   refine pk0 (v := pt N3 6) h171 rfl fun a175 h175 => ?_; clear h171
   have hk176 := hk5.below hb167
   refine pk (v := lv) h175 rfl (rn_load1 rfl rfl Try.isAgg67 (hk176.cell rfl)) fun a177 h177 => ?_; clear h175
   refine pw h177 rfl (op_call (args := #[lv]) (R := fun res xw => res = .int .i64 (chkLg d.lg) ∧ Below w166.heap.size w166 xw) rfl rfl rfl (by kernel_rfl) (by kernel_rfl) (Try.call135 _ _) (nLegit_any lv d.lg w166 (hg.below hB173)) (by rintro e x ⟨rfl, hb180⟩; exact ⟨_, rfl, ⟨rfl, hb180⟩⟩)) ?_; clear h177
   rintro _ w179 a178 ⟨rfl, hb180⟩ h178
   have hz181 := hb180.size
   refine pk0 (v := .int .i64 (chkLg d.lg)) h178 rfl fun a182 h182 => ?_; clear h178
   refine pl_nil ?_
   refine co_then ?_
   refine wp_ret ?_
   refine co_blockR ?_
   refine co_thenR ?_
   refine co_ret1 h182 rfl rfl ?_
   have hB183 := hb_call hB173 hb180
   exact ⟨ret_int (by rw [chkN_1 (by omega)]; first | rw [if_pos (by omega)] | rw [if_neg (by omega)]), hB183⟩
  ·
   rw [hc172] at h171
   have hp184 : chkC d.ep d.ms ≠ 0 := by first | simpa using hc172 | simpa [and_assoc] using hc172
   clear hc172
   refine co_true h171 rfl ?_
   refine co_seq ?_
   refine co_reg ?_
   refine pk0 (v := .int .i64 (chkC d.ep d.ms)) h171 rfl fun a185 h185 => ?_; clear h171
   refine pk0 (v := .int .i64 (chkC d.ep d.ms)) h185 rfl fun a186 h186 => ?_; clear h185
   refine pl_nil ?_
   refine co_then ?_
   refine wp_ret ?_
   refine co_thenR ?_
   refine co_blockR ?_
   refine co_thenR ?_
   refine co_ret1 h186 rfl rfl ?_
   exact ⟨ret_int (by rw [chkN_1 (by omega)]; first | rw [if_pos (by omega)] | rw [if_neg (by omega)]), hB173⟩
set_option maxRecDepth 100000 in
theorem rnCheck_any (d : NoteD) (mv : Value) (lv : Value) (ev : Value) (w : World) (hm : SliceOf memE 2 w mv d.ms) (hg : SliceOf (intE .i64) 1 w lv d.lg) (he : SliceOf opE 3 w ev d.el) (hR : NoteR d) :
    Calls Try.prog 95 #[.agg #[.int .i64 d.k, .int .i64 d.n, .int .u64 d.t, .int .i64 d.ep, mv, .int .u64 d.fl, lv, .int .i64 d.ec, .int .i64 d.er, ev, .int .u64 d.ets, .int .i64 d.pid, .int .u64 d.pat, .int .i64 d.plf, .int .i64 d.sc, .int .i64 d.sr, .int .i64 d.se, .int .i64 d.sp]] w fun e w' => e = .returned (.int .i64 (chkN d)) ∧ Below w.heap.size w w' := by
 have hrng := hR.rng
 have hB0 := Below.refl w.heap.size w
 have hl_hm := sl_len hm
 have hl_hg := sl_len hg
 have hl_he := sl_len he
 refine co_enter (n := 54) Try.func95 rfl rfl rfl [(0, .agg #[.int .i64 d.k, .int .i64 d.n, .int .u64 d.t, .int .i64 d.ep, mv, .int .u64 d.fl, lv, .int .i64 d.ec, .int .i64 d.er, ev, .int .u64 d.ets, .int .i64 d.pid, .int .u64 d.pat, .int .i64 d.plf, .int .i64 d.sc, .int .i64 d.sr, .int .i64 d.se, .int .i64 d.sp])] rfl (fun a h0 => ?_)
 refine co_seq ?_
 refine co_reg ?_
 refine pw h0 rfl (op_new (v := fun N => pt N 0) (T := 73) (cs := #[.int .i64 d.k, .int .i64 d.n, .int .u64 d.t, .int .i64 d.ep, mv, .int .u64 d.fl, lv, .int .i64 d.ec, .int .i64 d.er, ev, .int .u64 d.ets, .int .i64 d.pid, .int .u64 d.pat, .int .i64 d.plf, .int .i64 d.sc, .int .i64 d.sr, .int .i64 d.se, .int .i64 d.sp]) (by kernel_rfl) (by kernel_rfl) (by kernel_rfl)) ?_; clear h0
 rintro _ w2 a1 ⟨N3, rfl, hN6, hz7, hk5, hg4⟩ h1
 have hz8 := hg4.size
 try dsimp only at h1
 refine pk0 (v := .int .i64 0) h1 rfl fun a9 h9 => ?_; clear h1
 refine pl_nil ?_
 refine co_then ?_
 refine co_seq ?_
 refine co_seq ?_
 refine co_reg ?_
 refine pk0 (v := pt N3 0) h9 rfl fun a10 h10 => ?_; clear h9
 refine pk (v := .int .i64 d.k) h10 rfl (rn_load1 rfl rfl Try.isAgg3 (hk5.cell rfl)) fun a11 h11 => ?_; clear h10
 refine pl_nil ?_
 refine co_then ?_
 refine wp_block ?_
 refine co_seq ?_
 refine co_reg ?_
 refine pk0 (v := .bool (d.k == 1)) h11 rfl fun a12 h12 => ?_; clear h11
 refine pk0 (v := .bool (d.k == 1)) h12 rfl fun a13 h13 => ?_; clear h12
 refine pl_nil ?_
 refine co_then ?_
 have hB15 := hb_new hB0 hg4
 cases hc14 : (d.k == 1)
 ·
  rw [hc14] at h13
  have hp16 : ¬ (d.k = 1) := by first | simpa using hc14 | simpa [and_assoc] using hc14
  clear hc14
  refine co_false h13 rfl ?_
  refine co_seq ?_
  refine co_reg ?_
  refine pk0 (v := .bool (d.k == 2)) h13 rfl fun a17 h17 => ?_; clear h13
  refine pk0 (v := .bool (d.k == 2)) h17 rfl fun a18 h18 => ?_; clear h17
  refine pl_nil ?_
  refine co_then ?_
  cases hc19 : (d.k == 2)
  ·
   rw [hc19] at h18
   have hp20 : ¬ (d.k = 2) := by first | simpa using hc19 | simpa [and_assoc] using hc19
   clear hc19
   refine co_false h18 rfl ?_
   refine co_seq ?_
   refine co_seq ?_
   refine co_reg ?_
   refine pk0 (v := .bool (d.k == 3)) h18 rfl fun a21 h21 => ?_; clear h18
   refine pk0 (v := .bool (d.k == 3)) h21 rfl fun a22 h22 => ?_; clear h21
   refine pl_nil ?_
   refine co_then ?_
   cases hc23 : (d.k == 3)
   ·
    rw [hc23] at h22
    have hp24 : ¬ (d.k = 3) := by first | simpa using hc23 | simpa [and_assoc] using hc23
    clear hc23
    refine co_false h22 rfl ?_
    refine co_seq ?_
    refine co_reg ?_
    refine pk0 (v := .bool (d.k == 4)) h22 rfl fun a25 h25 => ?_; clear h22
    refine pk0 (v := .bool (d.k == 4)) h25 rfl fun a26 h26 => ?_; clear h25
    refine pl_nil ?_
    refine co_then ?_
    cases hc27 : (d.k == 4)
    ·
     rw [hc27] at h26
     have hp28 : ¬ (d.k = 4) := by first | simpa using hc27 | simpa [and_assoc] using hc27
     clear hc27
     refine co_false h26 rfl ?_
     refine co_seq ?_
     refine co_reg ?_
     refine pk0 (v := .bool (d.k == 5)) h26 rfl fun a29 h29 => ?_; clear h26
     refine pk0 (v := .bool (d.k == 5)) h29 rfl fun a30 h30 => ?_; clear h29
     refine pl_nil ?_
     refine co_then ?_
     cases hc31 : (d.k == 5)
     ·
      rw [hc31] at h30
      have hp32 : ¬ (d.k = 5) := by first | simpa using hc31 | simpa [and_assoc] using hc31
      clear hc31
      refine co_false h30 rfl ?_
      refine co_reg ?_
      refine pk0 (v := .bool (d.k == 7)) h30 rfl fun a33 h33 => ?_; clear h30
      refine pk0 (v := .bool (d.k == 7)) h33 rfl fun a34 h34 => ?_; clear h33
      refine pl_nil ?_
      refine co_then ?_
      cases hc35 : (d.k == 7)
      ·
       rw [hc35] at h34
       have hp36 : ¬ (d.k = 7) := by first | simpa using hc35 | simpa [and_assoc] using hc35
       clear hc35
       refine co_false h34 rfl ?_
       refine co_seq ?_
       refine co_reg ?_
       refine pk0 (v := .bool (d.k == 6)) h34 rfl fun a37 h37 => ?_; clear h34
       refine pk0 (v := .bool (d.k == 6)) h37 rfl fun a38 h38 => ?_; clear h37
       refine pl_nil ?_
       refine co_then ?_
       cases hc39 : (d.k == 6)
       ·
        rw [hc39] at h38
        have hp40 : ¬ (d.k = 6) := by first | simpa using hc39 | simpa [and_assoc] using hc39
        clear hc39
        refine co_false h38 rfl ?_
        refine co_seq ?_
        refine co_reg ?_
        refine pk0 (v := .bool (d.k == 8)) h38 rfl fun a41 h41 => ?_; clear h38
        refine pk0 (v := .bool (d.k == 8)) h41 rfl fun a42 h42 => ?_; clear h41
        refine pl_nil ?_
        refine co_then ?_
        cases hc43 : (d.k == 8)
        ·
         rw [hc43] at h42
         have hp44 : ¬ (d.k = 8) := by first | simpa using hc43 | simpa [and_assoc] using hc43
         clear hc43
         refine co_false h42 rfl ?_
         refine wp_skip ?_
         refine co_blockN ?_
         refine co_then ?_
         refine co_seq ?_
         refine co_reg ?_
         refine pk0 (v := .int .i64 11) h42 rfl fun a45 h45 => ?_; clear h42
         refine pl_nil ?_
         refine co_then ?_
         refine wp_ret ?_
         refine co_ret1 h45 rfl rfl ?_
         exact ⟨ret_int (by rw [chkN_0 (by omega)]), hB15⟩
        ·
         rw [hc43] at h42
         have hp46 : d.k = 8 := by first | simpa using hc43 | simpa [and_assoc] using hc43
         clear hc43
         refine co_true h42 rfl ?_
         refine co_seq ?_
         refine co_reg ?_
         refine pk0 (v := pt N3 14) h42 rfl fun a47 h47 => ?_; clear h42
         refine pk (v := .agg #[.int .i64 d.sc, .int .i64 d.sr, .int .i64 d.se, .int .i64 d.sp]) h47 rfl (rn_loadN rfl rfl Try.underlying71 rfl (by kernel_rfl) (blk_part hk5 14 (by rfl))) fun a48 h48 => ?_; clear h47
         refine pw h48 rfl (op_call (args := #[.agg #[.int .i64 d.sc, .int .i64 d.sr, .int .i64 d.se, .int .i64 d.sp]]) (R := fun res xw => res = .int .i64 (chkSd d.sc d.sr d.se d.sp) ∧ Below w2.heap.size w2 xw) rfl rfl rfl (by kernel_rfl) (by kernel_rfl) (Try.call142 _ _) (rnSaid_any d.sc d.sr d.se d.sp w2 ) (by rintro e x ⟨rfl, hb51⟩; exact ⟨_, rfl, ⟨rfl, hb51⟩⟩)) ?_; clear h48
         rintro _ w50 a49 ⟨rfl, hb51⟩ h49
         have hz52 := hb51.size
         refine pk0 (v := .int .i64 (chkSd d.sc d.sr d.se d.sp)) h49 rfl fun a53 h53 => ?_; clear h49
         refine pl_nil ?_
         refine co_then ?_
         refine wp_ret ?_
         refine co_blockR ?_
         refine co_thenR ?_
         refine co_ret1 h53 rfl rfl ?_
         have hB54 := hb_call hB15 hb51
         exact ⟨ret_int (by rw [chkN_8 (by omega)]), hB54⟩
       ·
        rw [hc39] at h38
        have hp55 : d.k = 6 := by first | simpa using hc39 | simpa [and_assoc] using hc39
        clear hc39
        refine co_true h38 rfl ?_
        refine co_seq ?_
        refine co_seq ?_
        refine co_reg ?_
        refine pk0 (v := pt N3 11) h38 rfl fun a56 h56 => ?_; clear h38
        refine pk0 (v := pt N3 11) h56 rfl fun a57 h57 => ?_; clear h56
        refine pk (v := .int .i64 d.pid) h57 rfl (rn_load1 rfl rfl Try.isAgg3 (hk5.cell rfl)) fun a58 h58 => ?_; clear h57
        refine pw h58 rfl (op_call (args := #[.int .i64 d.pid]) (R := fun res xw => res = .bool (decide (0 ≤ d.pid ∧ d.pid ≤ 1073741824)) ∧ Below w2.heap.size w2 xw) rfl rfl rfl (by kernel_rfl) (by kernel_rfl) (Try.call141 _ _) (rnMay_any d.pid w2 ) (by rintro e x ⟨rfl, hb61⟩; exact ⟨_, rfl, ⟨rfl, hb61⟩⟩)) ?_; clear h58
        rintro _ w60 a59 ⟨rfl, hb61⟩ h59
        have hz62 := hb61.size
        have hB64 := hb_call hB15 hb61
        cases hc63 : (decide (0 ≤ d.pid ∧ d.pid ≤ 1073741824))
        ·
         rw [hc63] at h59
         have hp65 : ¬ (0 ≤ d.pid ∧ d.pid ≤ 1073741824) := of_decide_eq_false hc63
         clear hc63
         refine pk0 (v := .bool true) h59 rfl fun a66 h66 => ?_; clear h59
         refine pk0 (v := .bool true) h66 rfl fun a67 h67 => ?_; clear h66
         refine psk h67 rfl fun a68 h68 => ?_; clear h67
         refine psk h68 rfl fun a69 h69 => ?_; clear h68
         refine psk h69 rfl fun a70 h70 => ?_; clear h69
         refine psk h70 rfl fun a71 h71 => ?_; clear h70
         refine psk h71 rfl fun a72 h72 => ?_; clear h71
         refine pk0 (v := .bool true) h72 rfl fun a73 h73 => ?_; clear h72
         refine pl_nil ?_
         refine co_then ?_
         refine co_true h73 rfl ?_
         refine co_seq ?_
         refine co_reg ?_
         refine pk0 (v := .int .i64 5) h73 rfl fun a74 h74 => ?_; clear h73
         refine pl_nil ?_
         refine co_then ?_
         refine wp_ret ?_
         refine co_thenR ?_
         refine co_blockR ?_
         refine co_thenR ?_
         refine co_ret1 h74 rfl rfl ?_
         exact ⟨ret_int (by rw [chkN_6 (by omega)]; unfold may; first | rw [if_pos (by omega)] | rw [if_neg (by omega)]), hB64⟩
        ·
         rw [hc63] at h59
         have hp75 : 0 ≤ d.pid ∧ d.pid ≤ 1073741824 := of_decide_eq_true hc63
         clear hc63
         refine pk0 (v := .bool false) h59 rfl fun a76 h76 => ?_; clear h59
         refine pk0 (v := .bool false) h76 rfl fun a77 h77 => ?_; clear h76
         refine pk0 (v := pt N3 11) h77 rfl fun a78 h78 => ?_; clear h77
         refine pk0 (v := pt N3 13) h78 rfl fun a79 h79 => ?_; clear h78
         have hk80 := hk5.below hb61
         refine pk (v := .int .i64 d.plf) h79 rfl (rn_load1 rfl rfl Try.isAgg3 (hk80.cell rfl)) fun a81 h81 => ?_; clear h79
         refine pw h81 rfl (op_call (args := #[.int .i64 d.plf]) (R := fun res xw => res = .bool (decide (0 ≤ d.plf ∧ d.plf ≤ 1073741824)) ∧ Below w60.heap.size w60 xw) rfl rfl rfl (by kernel_rfl) (by kernel_rfl) (Try.call141 _ _) (rnMay_any d.plf w60 ) (by rintro e x ⟨rfl, hb84⟩; exact ⟨_, rfl, ⟨rfl, hb84⟩⟩)) ?_; clear h81
         rintro _ w83 a82 ⟨rfl, hb84⟩ h82
         have hz85 := hb84.size
         have hB87 := hb_call hB64 hb84
         cases hc86 : (decide (0 ≤ d.plf ∧ d.plf ≤ 1073741824))
         ·
          rw [hc86] at h82
          have hp88 : ¬ (0 ≤ d.plf ∧ d.plf ≤ 1073741824) := of_decide_eq_false hc86
          clear hc86
          refine pk0 (v := .bool true) h82 rfl fun a89 h89 => ?_; clear h82
          refine pk0 (v := .bool true) h89 rfl fun a90 h90 => ?_; clear h89
          refine pl_nil ?_
          refine co_then ?_
          refine co_true h90 rfl ?_
          refine co_seq ?_
          refine co_reg ?_
          refine pk0 (v := .int .i64 5) h90 rfl fun a91 h91 => ?_; clear h90
          refine pl_nil ?_
          refine co_then ?_
          refine wp_ret ?_
          refine co_thenR ?_
          refine co_blockR ?_
          refine co_thenR ?_
          refine co_ret1 h91 rfl rfl ?_
          exact ⟨ret_int (by rw [chkN_6 (by omega)]; unfold may; first | rw [if_pos (by omega)] | rw [if_neg (by omega)]), hB87⟩
         ·
          rw [hc86] at h82
          have hp92 : 0 ≤ d.plf ∧ d.plf ≤ 1073741824 := of_decide_eq_true hc86
          clear hc86
          refine pk0 (v := .bool false) h82 rfl fun a93 h93 => ?_; clear h82
          refine pk0 (v := .bool false) h93 rfl fun a94 h94 => ?_; clear h93
          refine pl_nil ?_
          refine co_then ?_
          refine co_false h94 rfl ?_
          refine wp_skip ?_
          refine co_then ?_
          refine co_seq ?_
          refine co_reg ?_
          refine pk0 (v := .int .i64 0) h94 rfl fun a95 h95 => ?_; clear h94
          refine pl_nil ?_
          refine co_then ?_
          refine wp_ret ?_
          refine co_blockR ?_
          refine co_thenR ?_
          refine co_ret1 h95 rfl rfl ?_
          exact ⟨ret_int (by rw [chkN_6 (by omega)]; unfold may; first | rw [if_pos (by omega)] | rw [if_neg (by omega)]), hB87⟩
      ·
       rw [hc35] at h34
       have hp96 : d.k = 7 := by first | simpa using hc35 | simpa [and_assoc] using hc35
       clear hc35
       refine co_true h34 rfl ?_
       refine co_seq ?_
       refine co_seq ?_
       refine co_reg ?_
       refine pk0 (v := pt N3 1) h34 rfl fun a97 h97 => ?_; clear h34
       refine pk (v := .int .i64 d.n) h97 rfl (rn_load1 rfl rfl Try.isAgg3 (hk5.cell rfl)) fun a98 h98 => ?_; clear h97
       refine pw h98 rfl (op_call (args := #[.int .i64 d.n]) (R := fun res xw => res = .bool (decide (0 ≤ d.n ∧ d.n ≤ 1073741824)) ∧ Below w2.heap.size w2 xw) rfl rfl rfl (by kernel_rfl) (by kernel_rfl) (Try.call141 _ _) (rnMay_any d.n w2 ) (by rintro e x ⟨rfl, hb101⟩; exact ⟨_, rfl, ⟨rfl, hb101⟩⟩)) ?_; clear h98
       rintro _ w100 a99 ⟨rfl, hb101⟩ h99
       have hz102 := hb101.size
       have hB104 := hb_call hB15 hb101
       cases hc103 : (decide (0 ≤ d.n ∧ d.n ≤ 1073741824))
       ·
        rw [hc103] at h99
        have hp105 : ¬ (0 ≤ d.n ∧ d.n ≤ 1073741824) := of_decide_eq_false hc103
        clear hc103
        refine pk0 (v := .bool true) h99 rfl fun a106 h106 => ?_; clear h99
        refine pl_nil ?_
        refine co_then ?_
        refine co_true h106 rfl ?_
        refine co_seq ?_
        refine co_reg ?_
        refine pk0 (v := .int .i64 5) h106 rfl fun a107 h107 => ?_; clear h106
        refine pl_nil ?_
        refine co_then ?_
        refine wp_ret ?_
        refine co_thenR ?_
        refine co_blockR ?_
        refine co_thenR ?_
        refine co_ret1 h107 rfl rfl ?_
        exact ⟨ret_int (by rw [chkN_3 (by omega)]; unfold may; first | rw [if_pos (by omega)] | rw [if_neg (by omega)]), hB104⟩
       ·
        rw [hc103] at h99
        have hp108 : 0 ≤ d.n ∧ d.n ≤ 1073741824 := of_decide_eq_true hc103
        clear hc103
        refine pk0 (v := .bool false) h99 rfl fun a109 h109 => ?_; clear h99
        refine pl_nil ?_
        refine co_then ?_
        refine co_false h109 rfl ?_
        refine wp_skip ?_
        refine co_then ?_
        refine co_seq ?_
        refine co_reg ?_
        refine pk0 (v := .int .i64 0) h109 rfl fun a110 h110 => ?_; clear h109
        refine pl_nil ?_
        refine co_then ?_
        refine wp_ret ?_
        refine co_blockR ?_
        refine co_thenR ?_
        refine co_ret1 h110 rfl rfl ?_
        exact ⟨ret_int (by rw [chkN_3 (by omega)]; unfold may; first | rw [if_pos (by omega)] | rw [if_neg (by omega)]), hB104⟩
     ·
      rw [hc31] at h30
      have hp111 : d.k = 5 := by first | simpa using hc31 | simpa [and_assoc] using hc31
      clear hc31
      refine co_true h30 rfl ?_
      refine wp_skip ?_
      refine co_then ?_
      refine co_true h30 rfl ?_
      refine co_seq ?_
      refine co_seq ?_
      refine co_reg ?_
      refine pk0 (v := pt N3 1) h30 rfl fun a112 h112 => ?_; clear h30
      refine pk (v := .int .i64 d.n) h112 rfl (rn_load1 rfl rfl Try.isAgg3 (hk5.cell rfl)) fun a113 h113 => ?_; clear h112
      refine pw h113 rfl (op_call (args := #[.int .i64 d.n]) (R := fun res xw => res = .bool (decide (0 ≤ d.n ∧ d.n ≤ 1073741824)) ∧ Below w2.heap.size w2 xw) rfl rfl rfl (by kernel_rfl) (by kernel_rfl) (Try.call141 _ _) (rnMay_any d.n w2 ) (by rintro e x ⟨rfl, hb116⟩; exact ⟨_, rfl, ⟨rfl, hb116⟩⟩)) ?_; clear h113
      rintro _ w115 a114 ⟨rfl, hb116⟩ h114
      have hz117 := hb116.size
      have hB119 := hb_call hB15 hb116
      cases hc118 : (decide (0 ≤ d.n ∧ d.n ≤ 1073741824))
      ·
       rw [hc118] at h114
       have hp120 : ¬ (0 ≤ d.n ∧ d.n ≤ 1073741824) := of_decide_eq_false hc118
       clear hc118
       refine pk0 (v := .bool true) h114 rfl fun a121 h121 => ?_; clear h114
       refine pl_nil ?_
       refine co_then ?_
       refine co_true h121 rfl ?_
       refine co_seq ?_
       refine co_reg ?_
       refine pk0 (v := .int .i64 5) h121 rfl fun a122 h122 => ?_; clear h121
       refine pl_nil ?_
       refine co_then ?_
       refine wp_ret ?_
       refine co_thenR ?_
       refine co_blockR ?_
       refine co_thenR ?_
       refine co_ret1 h122 rfl rfl ?_
       exact ⟨ret_int (by rw [chkN_3 (by omega)]; unfold may; first | rw [if_pos (by omega)] | rw [if_neg (by omega)]), hB119⟩
      ·
       rw [hc118] at h114
       have hp123 : 0 ≤ d.n ∧ d.n ≤ 1073741824 := of_decide_eq_true hc118
       clear hc118
       refine pk0 (v := .bool false) h114 rfl fun a124 h124 => ?_; clear h114
       refine pl_nil ?_
       refine co_then ?_
       refine co_false h124 rfl ?_
       refine wp_skip ?_
       refine co_then ?_
       refine co_seq ?_
       refine co_reg ?_
       refine pk0 (v := .int .i64 0) h124 rfl fun a125 h125 => ?_; clear h124
       refine pl_nil ?_
       refine co_then ?_
       refine wp_ret ?_
       refine co_blockR ?_
       refine co_thenR ?_
       refine co_ret1 h125 rfl rfl ?_
       exact ⟨ret_int (by rw [chkN_3 (by omega)]; unfold may; first | rw [if_pos (by omega)] | rw [if_neg (by omega)]), hB119⟩
    ·
     rw [hc27] at h26
     have hp126 : d.k = 4 := by first | simpa using hc27 | simpa [and_assoc] using hc27
     clear hc27
     refine co_true h26 rfl ?_
     refine wp_skip ?_
     refine co_then ?_
     refine co_true h26 rfl ?_
     refine co_seq ?_
     refine co_seq ?_
     refine co_reg ?_
     refine pk0 (v := pt N3 1) h26 rfl fun a127 h127 => ?_; clear h26
     refine pk (v := .int .i64 d.n) h127 rfl (rn_load1 rfl rfl Try.isAgg3 (hk5.cell rfl)) fun a128 h128 => ?_; clear h127
     refine pw h128 rfl (op_call (args := #[.int .i64 d.n]) (R := fun res xw => res = .bool (decide (0 ≤ d.n ∧ d.n ≤ 1073741824)) ∧ Below w2.heap.size w2 xw) rfl rfl rfl (by kernel_rfl) (by kernel_rfl) (Try.call141 _ _) (rnMay_any d.n w2 ) (by rintro e x ⟨rfl, hb131⟩; exact ⟨_, rfl, ⟨rfl, hb131⟩⟩)) ?_; clear h128
     rintro _ w130 a129 ⟨rfl, hb131⟩ h129
     have hz132 := hb131.size
     have hB134 := hb_call hB15 hb131
     cases hc133 : (decide (0 ≤ d.n ∧ d.n ≤ 1073741824))
     ·
      rw [hc133] at h129
      have hp135 : ¬ (0 ≤ d.n ∧ d.n ≤ 1073741824) := of_decide_eq_false hc133
      clear hc133
      refine pk0 (v := .bool true) h129 rfl fun a136 h136 => ?_; clear h129
      refine pl_nil ?_
      refine co_then ?_
      refine co_true h136 rfl ?_
      refine co_seq ?_
      refine co_reg ?_
      refine pk0 (v := .int .i64 5) h136 rfl fun a137 h137 => ?_; clear h136
      refine pl_nil ?_
      refine co_then ?_
      refine wp_ret ?_
      refine co_thenR ?_
      refine co_blockR ?_
      refine co_thenR ?_
      refine co_ret1 h137 rfl rfl ?_
      exact ⟨ret_int (by rw [chkN_3 (by omega)]; unfold may; first | rw [if_pos (by omega)] | rw [if_neg (by omega)]), hB134⟩
     ·
      rw [hc133] at h129
      have hp138 : 0 ≤ d.n ∧ d.n ≤ 1073741824 := of_decide_eq_true hc133
      clear hc133
      refine pk0 (v := .bool false) h129 rfl fun a139 h139 => ?_; clear h129
      refine pl_nil ?_
      refine co_then ?_
      refine co_false h139 rfl ?_
      refine wp_skip ?_
      refine co_then ?_
      refine co_seq ?_
      refine co_reg ?_
      refine pk0 (v := .int .i64 0) h139 rfl fun a140 h140 => ?_; clear h139
      refine pl_nil ?_
      refine co_then ?_
      refine wp_ret ?_
      refine co_blockR ?_
      refine co_thenR ?_
      refine co_ret1 h140 rfl rfl ?_
      exact ⟨ret_int (by rw [chkN_3 (by omega)]; unfold may; first | rw [if_pos (by omega)] | rw [if_neg (by omega)]), hB134⟩
   ·
    rw [hc23] at h22
    have hp141 : d.k = 3 := by first | simpa using hc23 | simpa [and_assoc] using hc23
    clear hc23
    refine co_true h22 rfl ?_
    refine wp_skip ?_
    refine co_then ?_
    refine co_true h22 rfl ?_
    refine co_seq ?_
    refine co_seq ?_
    refine co_reg ?_
    refine pk0 (v := pt N3 1) h22 rfl fun a142 h142 => ?_; clear h22
    refine pk (v := .int .i64 d.n) h142 rfl (rn_load1 rfl rfl Try.isAgg3 (hk5.cell rfl)) fun a143 h143 => ?_; clear h142
    refine pw h143 rfl (op_call (args := #[.int .i64 d.n]) (R := fun res xw => res = .bool (decide (0 ≤ d.n ∧ d.n ≤ 1073741824)) ∧ Below w2.heap.size w2 xw) rfl rfl rfl (by kernel_rfl) (by kernel_rfl) (Try.call141 _ _) (rnMay_any d.n w2 ) (by rintro e x ⟨rfl, hb146⟩; exact ⟨_, rfl, ⟨rfl, hb146⟩⟩)) ?_; clear h143
    rintro _ w145 a144 ⟨rfl, hb146⟩ h144
    have hz147 := hb146.size
    have hB149 := hb_call hB15 hb146
    cases hc148 : (decide (0 ≤ d.n ∧ d.n ≤ 1073741824))
    ·
     rw [hc148] at h144
     have hp150 : ¬ (0 ≤ d.n ∧ d.n ≤ 1073741824) := of_decide_eq_false hc148
     clear hc148
     refine pk0 (v := .bool true) h144 rfl fun a151 h151 => ?_; clear h144
     refine pl_nil ?_
     refine co_then ?_
     refine co_true h151 rfl ?_
     refine co_seq ?_
     refine co_reg ?_
     refine pk0 (v := .int .i64 5) h151 rfl fun a152 h152 => ?_; clear h151
     refine pl_nil ?_
     refine co_then ?_
     refine wp_ret ?_
     refine co_thenR ?_
     refine co_blockR ?_
     refine co_thenR ?_
     refine co_ret1 h152 rfl rfl ?_
     exact ⟨ret_int (by rw [chkN_3 (by omega)]; unfold may; first | rw [if_pos (by omega)] | rw [if_neg (by omega)]), hB149⟩
    ·
     rw [hc148] at h144
     have hp153 : 0 ≤ d.n ∧ d.n ≤ 1073741824 := of_decide_eq_true hc148
     clear hc148
     refine pk0 (v := .bool false) h144 rfl fun a154 h154 => ?_; clear h144
     refine pl_nil ?_
     refine co_then ?_
     refine co_false h154 rfl ?_
     refine wp_skip ?_
     refine co_then ?_
     refine co_seq ?_
     refine co_reg ?_
     refine pk0 (v := .int .i64 0) h154 rfl fun a155 h155 => ?_; clear h154
     refine pl_nil ?_
     refine co_then ?_
     refine wp_ret ?_
     refine co_blockR ?_
     refine co_thenR ?_
     refine co_ret1 h155 rfl rfl ?_
     exact ⟨ret_int (by rw [chkN_3 (by omega)]; unfold may; first | rw [if_pos (by omega)] | rw [if_neg (by omega)]), hB149⟩
  ·
   rw [hc19] at h18
   have hp156 : d.k = 2 := by first | simpa using hc19 | simpa [and_assoc] using hc19
   clear hc19
   refine co_true h18 rfl ?_
   refine co_seq ?_
   refine co_seq ?_
   refine co_reg ?_
   refine pk0 (v := pt N3 1) h18 rfl fun a157 h157 => ?_; clear h18
   refine pk (v := .int .i64 d.n) h157 rfl (rn_load1 rfl rfl Try.isAgg3 (hk5.cell rfl)) fun a158 h158 => ?_; clear h157
   refine pw h158 rfl (op_call (args := #[.int .i64 d.n]) (R := fun res xw => res = .bool (decide (0 ≤ d.n ∧ d.n ≤ 1073741824)) ∧ Below w2.heap.size w2 xw) rfl rfl rfl (by kernel_rfl) (by kernel_rfl) (Try.call141 _ _) (rnMay_any d.n w2 ) (by rintro e x ⟨rfl, hb161⟩; exact ⟨_, rfl, ⟨rfl, hb161⟩⟩)) ?_; clear h158
   rintro _ w160 a159 ⟨rfl, hb161⟩ h159
   have hz162 := hb161.size
   have hB164 := hb_call hB15 hb161
   cases hc163 : (decide (0 ≤ d.n ∧ d.n ≤ 1073741824))
   ·
    rw [hc163] at h159
    have hp165 : ¬ (0 ≤ d.n ∧ d.n ≤ 1073741824) := of_decide_eq_false hc163
    clear hc163
    refine pk0 (v := .bool true) h159 rfl fun a166 h166 => ?_; clear h159
    refine pl_nil ?_
    refine co_then ?_
    refine co_true h166 rfl ?_
    refine co_seq ?_
    refine co_reg ?_
    refine pk0 (v := .int .i64 5) h166 rfl fun a167 h167 => ?_; clear h166
    refine pl_nil ?_
    refine co_then ?_
    refine wp_ret ?_
    refine co_thenR ?_
    refine co_blockR ?_
    refine co_thenR ?_
    refine co_ret1 h167 rfl rfl ?_
    exact ⟨ret_int (by rw [chkN_2 (by omega)]; unfold may; first | rw [if_pos (by omega)] | rw [if_neg (by omega)]), hB164⟩
   ·
    rw [hc163] at h159
    have hp168 : 0 ≤ d.n ∧ d.n ≤ 1073741824 := of_decide_eq_true hc163
    clear hc163
    refine pk0 (v := .bool false) h159 rfl fun a169 h169 => ?_; clear h159
    refine pl_nil ?_
    refine co_then ?_
    refine co_false h169 rfl ?_
    refine wp_skip ?_
    refine co_then ?_
    refine co_seq ?_
    refine co_reg ?_
    refine pk0 (v := pt N3 7) h169 rfl fun a170 h170 => ?_; clear h169
    have hk171 := hk5.below hb161
    refine pk (v := .agg #[.int .i64 d.ec, .int .i64 d.er, ev, .int .u64 d.ets]) h170 rfl (rn_loadN rfl rfl Try.underlying34 rfl (by kernel_rfl) (blk_part hk171 7 (by rfl))) fun a172 h172 => ?_; clear h170
    refine pw h172 rfl (op_call (args := #[.agg #[.int .i64 d.ec, .int .i64 d.er, ev, .int .u64 d.ets]]) (R := fun res xw => res = .int .i64 (chkB d.ec d.er d.el) ∧ Below w160.heap.size w160 xw) rfl rfl rfl (by kernel_rfl) (by kernel_rfl) (Try.call22 _ _) (ritemCheck_any d.ec d.er ev d.el d.ets w160 (he.below hB164)) (by rintro e x ⟨rfl, hb175⟩; exact ⟨_, rfl, ⟨rfl, hb175⟩⟩)) ?_; clear h172
    rintro _ w174 a173 ⟨rfl, hb175⟩ h173
    have hz176 := hb175.size
    refine pk0 (v := .int .i64 (chkB d.ec d.er d.el)) h173 rfl fun a177 h177 => ?_; clear h173
    refine pl_nil ?_
    refine co_then ?_
    refine wp_ret ?_
    refine co_blockR ?_
    refine co_thenR ?_
    refine co_ret1 h177 rfl rfl ?_
    have hB178 := hb_call hB164 hb175
    exact ⟨ret_int (by rw [chkN_2 (by omega)]; unfold may; first | rw [if_pos (by omega)] | rw [if_neg (by omega)]), hB178⟩
 ·
  rw [hc14] at h13
  have hp179 : d.k = 1 := by first | simpa using hc14 | simpa [and_assoc] using hc14
  clear hc14
  refine co_true h13 rfl ?_
  refine co_seq ?_
  refine co_seq ?_
  refine co_reg ?_
  refine pk0 (v := pt N3 3) h13 rfl fun a180 h180 => ?_; clear h13
  refine pk (v := .agg #[.int .i64 d.ep, mv, .int .u64 d.fl]) h180 rfl (rn_loadN rfl rfl Try.underlying56 rfl (by kernel_rfl) (blk_part hk5 3 (by rfl))) fun a181 h181 => ?_; clear h180
  refine pw h181 rfl (op_call (args := #[.agg #[.int .i64 d.ep, mv, .int .u64 d.fl]]) (R := fun res xw => res = .int .i64 (chkC d.ep d.ms) ∧ Below w2.heap.size w2 xw) rfl rfl rfl (by kernel_rfl) (by kernel_rfl) (Try.call139 _ _) (wrcheck_any d.ep mv d.ms d.fl w2 (hm.below hB15) hR.mem (by omega) (by omega)) (by rintro e x ⟨rfl, hb184⟩; exact ⟨_, rfl, ⟨rfl, hb184⟩⟩)) ?_; clear h181
  rintro _ w183 a182 ⟨rfl, hb184⟩ h182
  have hz185 := hb184.size
  refine pk0 (v := .int .i64 (chkC d.ep d.ms)) h182 rfl fun a186 h186 => ?_; clear h182
  refine pl_nil ?_
  refine co_then ?_
  refine co_seq ?_
  refine co_reg ?_
  refine pk0 (v := .int .i64 (chkC d.ep d.ms)) h186 rfl fun a187 h187 => ?_; clear h186
  refine pk0 (v := .bool (chkC d.ep d.ms != 0)) h187 rfl fun a188 h188 => ?_; clear h187
  refine pl_nil ?_
  refine co_then ?_
  have hB190 := hb_call hB15 hb184
  cases hc189 : (chkC d.ep d.ms != 0)
  ·
   rw [hc189] at h188
   have hp191 : ¬ (chkC d.ep d.ms ≠ 0) := by first | simpa using hc189 | simpa [and_assoc] using hc189
   clear hc189
   refine co_false h188 rfl ?_
   refine wp_skip ?_
   refine co_then ?_
   refine co_seq ?_
   refine co_reg ?_
   refine pk0 (v := pt N3 6) h188 rfl fun a192 h192 => ?_; clear h188
   have hk193 := hk5.below hb184
   refine pk (v := lv) h192 rfl (rn_load1 rfl rfl Try.isAgg67 (hk193.cell rfl)) fun a194 h194 => ?_; clear h192
   refine pw h194 rfl (op_call (args := #[lv]) (R := fun res xw => res = .int .i64 (chkLg d.lg) ∧ Below w183.heap.size w183 xw) rfl rfl rfl (by kernel_rfl) (by kernel_rfl) (Try.call140 _ _) (rnLegit_any lv d.lg w183 (hg.below hB190)) (by rintro e x ⟨rfl, hb197⟩; exact ⟨_, rfl, ⟨rfl, hb197⟩⟩)) ?_; clear h194
   rintro _ w196 a195 ⟨rfl, hb197⟩ h195
   have hz198 := hb197.size
   refine pk0 (v := .int .i64 (chkLg d.lg)) h195 rfl fun a199 h199 => ?_; clear h195
   refine pl_nil ?_
   refine co_then ?_
   refine wp_ret ?_
   refine co_blockR ?_
   refine co_thenR ?_
   refine co_ret1 h199 rfl rfl ?_
   have hB200 := hb_call hB190 hb197
   exact ⟨ret_int (by rw [chkN_1 (by omega)]; first | rw [if_pos (by omega)] | rw [if_neg (by omega)]), hB200⟩
  ·
   rw [hc189] at h188
   have hp201 : chkC d.ep d.ms ≠ 0 := by first | simpa using hc189 | simpa [and_assoc] using hc189
   clear hc189
   refine co_true h188 rfl ?_
   refine co_seq ?_
   refine co_reg ?_
   refine pk0 (v := .int .i64 (chkC d.ep d.ms)) h188 rfl fun a202 h202 => ?_; clear h188
   refine pk0 (v := .int .i64 (chkC d.ep d.ms)) h202 rfl fun a203 h203 => ?_; clear h202
   refine pl_nil ?_
   refine co_then ?_
   refine wp_ret ?_
   refine co_thenR ?_
   refine co_blockR ?_
   refine co_thenR ?_
   refine co_ret1 h203 rfl rfl ?_
   exact ⟨ret_int (by rw [chkN_1 (by omega)]; first | rw [if_pos (by omega)] | rw [if_neg (by omega)]), hB190⟩
end Go.Proofs.Yteioaaegooebpaa
