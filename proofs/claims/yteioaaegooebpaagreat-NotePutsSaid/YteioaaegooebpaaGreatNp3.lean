/- Put together: NoteA, NoteB, NoteC. Conditions: as each says. -/
import Derived.Test.YteioaaegooebpaaGreatNp2
import Derived.Test.YteioaaegooebpaaGreatNp1
/- Package note: Check of both. Conditions: none. -/
namespace Go.Proofs.YteioaaegooebpaaGreat
open Go.RowKit Go.PlainAid
set_option linter.unusedVariables false


theorem intE_len (k : IntKind) (y : Int) : (intE k y).length = 1 := rfl
theorem intE_one (k : IntKind) (y : Int) : ∀ u ∈ intE k y, u.oneCell' = true := by intro u hu; simp [intE] at hu; subst hu; rfl
/-- A note, without where its lists lie. -/
structure NoteD where
  k : Int
  n : Int
  t : Int
  ep : Int
  ms : List MemT
  fl : Int
  lg : List Int
  ec : Int
  er : Int
  el : List OpT
  ets : Int
  pid : Int
  pat : Int
  plf : Int
  sc : Int
  sr : Int
  se : Int
  sp : Int
def zN (k : Int) : NoteD := ⟨k, 0, 0, 0, [], 0, [], 0, 0, [], 0, 0, 0, 0, 0, 0, 0, 0⟩
/-- What is known of a note that may be. -/
structure NoteR (d : NoteD) : Prop where
  mem : ∀ m ∈ d.ms, memOk m
  rng : (-9223372036854775808 ≤ d.ep ∧ d.ep ≤ 9223372036854775807) ∧ (0 ≤ d.fl ∧ d.fl < 18446744073709551616) ∧ (0 ≤ d.t ∧ d.t < 18446744073709551616) ∧ (0 ≤ d.ets ∧ d.ets < 18446744073709551616) ∧ (0 ≤ d.pat ∧ d.pat < 18446744073709551616)
theorem zN_R (k : Int) : NoteR (zN k) := ⟨by simp [zN], by simp [zN]⟩
def badI (p : Option Int) (x : Int) : Bool := match p with | some q => decide (x ≤ q) | none => false
def chkLgF : Option Int → List Int → Int
  | _, [] => 0
  | p, x :: r => if x < 0 ∨ 3 < x then 1 else if badI p x = true then 18 else chkLgF (some x) r
def prevI (l : List Int) (i : Nat) : Option Int := if i = 0 then none else l[i - 1]?
def chkLg (l : List Int) : Int := if 4 < l.length then 6 else chkLgF none l
theorem prevI_succ {l : List Int} {i : Nat} {y : Int} (h : l[i]? = some y) : prevI l (i + 1) = some y := by simp [prevI, h]
theorem dropI {α : Type} {l : List α} {i : Nat} {y : α} (h : l[i]? = some y) : l.drop i = y :: l.drop (i + 1) := by
  obtain ⟨hi, rfl⟩ := List.getElem?_eq_some_iff.1 h
  exact List.drop_eq_getElem_cons hi
/-- What the closure tells of the place i. -/
def lgAt (l : List Int) (i : Nat) (x : Int) : Int := if x < 0 ∨ 3 < x then 1 else if badI (prevI l i) x = true then 18 else 0
theorem lgAt_1 {l : List Int} {i : Nat} {x : Int} (h : x < 0 ∨ x > 3) : 1 = lgAt l i x := by unfold lgAt; rw [if_pos (by omega)]
theorem lgAt_18 {l : List Int} {i j : Nat} {x q : Int} (h : ¬ (x < 0 ∨ x > 3)) (hj : j = i - 1) (h0 : 0 < i) (hq : l[j]? = some q) (hx : x ≤ q) : 18 = lgAt l i x := by
  subst hj
  have e : prevI l i = some q := by unfold prevI; rw [if_neg (by omega), hq]
  unfold lgAt badI; rw [if_neg (by omega), e]; simp [hx]
theorem lgAt_0 {l : List Int} {i j : Nat} {x q : Int} (h : ¬ (x < 0 ∨ x > 3)) (hj : j = i - 1) (h0 : 0 < i) (hq : l[j]? = some q) (hx : ¬ x ≤ q) : 0 = lgAt l i x := by
  subst hj
  have e : prevI l i = some q := by unfold prevI; rw [if_neg (by omega), hq]
  unfold lgAt badI; rw [if_neg (by omega), e]; simp [hx]
theorem lgAt_0' {l : List Int} {i : Nat} {x : Int} (h : ¬ (x < 0 ∨ x > 3)) (h0 : ¬ (0 : Int) < i) : 0 = lgAt l i x := by
  obtain rfl : i = 0 := by omega
  unfold lgAt prevI badI; rw [if_neg (by omega)]; simp
theorem lg_bad {l : List Int} {i : Nat} {y z : Int} (h : chkLgF (prevI l i) (l.drop i) = z) (hy : l[i]? = some y) (hc : lgAt l i y ≠ 0) : lgAt l i y = z := by
  rw [dropI hy] at h; unfold chkLgF at h; unfold lgAt at hc ⊢
  split
  · rename_i h1; rwa [if_pos h1] at h
  · rename_i h1
    rw [if_neg h1] at h
    split
    · rename_i h2; rwa [if_pos h2] at h
    · rename_i h2; rw [if_neg h1, if_neg h2] at hc; exact absurd rfl hc
theorem lg_step {l : List Int} {i : Nat} {y z : Int} (h : chkLgF (prevI l i) (l.drop i) = z) (hy : l[i]? = some y) (hc : lgAt l i y = 0) : chkLgF (prevI l (i + 1)) (l.drop (i + 1)) = z := by
  rw [dropI hy] at h; unfold chkLgF at h; unfold lgAt at hc
  split at hc
  · omega
  · rename_i h1
    rw [if_neg h1] at h
    split at hc
    · omega
    · rename_i h2; rw [if_neg h2] at h; rw [prevI_succ hy]; exact h
theorem lg_end {l : List Int} {i : Nat} {z : Int} (h : chkLgF (prevI l i) (l.drop i) = z) (hi : l.length ≤ i) : 0 = z := by
  rw [List.drop_eq_nil_of_le hi] at h; simpa [chkLgF] using h
theorem lgF_ok : ∀ (p : Option Int) (l : List Int), chkLgF p l = 0 → ∀ x ∈ l, 0 ≤ x ∧ x ≤ 3
  | _, [], _, _, h => by cases h
  | p, y :: r, h, x, hx => by
    unfold chkLgF at h
    split at h
    · omega
    rename_i h1
    split at h
    · omega
    rcases List.mem_cons.1 hx with rfl | hx
    · omega
    · exact lgF_ok _ r h x hx
theorem chkLg_ok {l : List Int} (h : chkLg l = 0) : l.length ≤ 4 ∧ ∀ x ∈ l, 0 ≤ x ∧ x ≤ 3 := by
  unfold chkLg at h
  split at h
  · omega
  exact ⟨by omega, lgF_ok _ _ h⟩
def may (n : Int) : Prop := 0 ≤ n ∧ n ≤ 1073741824
instance (n : Int) : Decidable (may n) := by unfold may; infer_instance
def chkSd (sc sr se sp : Int) : Int := if sc < 0 ∨ 2 < sc then 1 else if ¬ may sr ∨ ¬ may sp then 5 else if se < 0 ∨ 21 < se then 1 else 0
def chkN (d : NoteD) : Int :=
  if d.k = 1 then (if chkC d.ep d.ms ≠ 0 then chkC d.ep d.ms else chkLg d.lg)
  else if d.k = 2 then (if ¬ may d.n then 5 else chkB d.ec d.er d.el)
  else if d.k = 3 ∨ d.k = 4 ∨ d.k = 5 ∨ d.k = 7 then (if ¬ may d.n then 5 else 0)
  else if d.k = 6 then (if ¬ may d.pid ∨ ¬ may d.plf then 5 else 0)
  else if d.k = 8 then chkSd d.sc d.sr d.se d.sp else 11
theorem chkN_1 {d : NoteD} (h : d.k = 1) : chkN d = if chkC d.ep d.ms ≠ 0 then chkC d.ep d.ms else chkLg d.lg := by unfold chkN; rw [if_pos h]
theorem chkN_2 {d : NoteD} (h : d.k = 2) : chkN d = if ¬ may d.n then 5 else chkB d.ec d.er d.el := by unfold chkN; rw [if_neg (by omega), if_pos h]
theorem chkN_3 {d : NoteD} (h : d.k = 3 ∨ d.k = 4 ∨ d.k = 5 ∨ d.k = 7) : chkN d = if ¬ may d.n then 5 else 0 := by unfold chkN; rw [if_neg (by omega), if_neg (by omega), if_pos h]
theorem chkN_6 {d : NoteD} (h : d.k = 6) : chkN d = if ¬ may d.pid ∨ ¬ may d.plf then 5 else 0 := by unfold chkN; rw [if_neg (by omega), if_neg (by omega), if_neg (by omega), if_pos h]
theorem chkN_8 {d : NoteD} (h : d.k = 8) : chkN d = chkSd d.sc d.sr d.se d.sp := by unfold chkN; rw [if_neg (by omega), if_neg (by omega), if_neg (by omega), if_neg (by omega), if_pos h]
theorem chkN_0 {d : NoteD} (h : ¬ (1 ≤ d.k ∧ d.k ≤ 8)) : chkN d = 11 := by unfold chkN; rw [if_neg (by omega), if_neg (by omega), if_neg (by omega), if_neg (by omega), if_neg (by omega)]
theorem may_y {n : Int} (h : 0 ≤ n ∧ n ≤ 1073741824) : ¬ ¬ may n := fun hn => hn h
theorem may_n {n : Int} (h : ¬ (0 ≤ n ∧ n ≤ 1073741824)) : ¬ may n := h
/-- What follows of a note that may be written. -/
theorem chkN_ok {d : NoteD} (h : chkN d = 0) : (1 ≤ d.k ∧ d.k ≤ 8) ∧ (d.k = 1 → chkC d.ep d.ms = 0 ∧ chkLg d.lg = 0 ∧ d.lg.length ≤ 4) ∧ (d.k = 2 → (0 ≤ d.n ∧ d.n ≤ 1073741824) ∧ chkB d.ec d.er d.el = 0) ∧ (d.k = 3 ∨ d.k = 4 ∨ d.k = 5 ∨ d.k = 7 → 0 ≤ d.n ∧ d.n ≤ 1073741824) ∧ (d.k = 6 → (0 ≤ d.pid ∧ d.pid ≤ 1073741824) ∧ (0 ≤ d.plf ∧ d.plf ≤ 1073741824)) ∧ (d.k = 8 → (0 ≤ d.sc ∧ d.sc ≤ 2) ∧ (0 ≤ d.sr ∧ d.sr ≤ 1073741824) ∧ (0 ≤ d.se ∧ d.se ≤ 21) ∧ (0 ≤ d.sp ∧ d.sp ≤ 1073741824)) := by
  have hk : 1 ≤ d.k ∧ d.k ≤ 8 := by
    by_cases hk : 1 ≤ d.k ∧ d.k ≤ 8
    · exact hk
    · rw [chkN_0 hk] at h; omega
  refine ⟨hk, fun e => ?_, fun e => ?_, fun e => ?_, fun e => ?_, fun e => ?_⟩
  · rw [chkN_1 e] at h
    split at h
    · rename_i h1; exact absurd h h1
    · rename_i h1; exact ⟨by omega, h, (chkLg_ok h).1⟩
  · rw [chkN_2 e] at h
    split at h
    · omega
    · rename_i h1; exact ⟨Decidable.not_not.1 h1, h⟩
  · rw [chkN_3 e] at h
    split at h
    · omega
    · rename_i h1; exact Decidable.not_not.1 h1
  · rw [chkN_6 e] at h
    split at h
    · omega
    · rename_i h1
      exact ⟨Decidable.not_not.1 (fun q => h1 (.inl q)), Decidable.not_not.1 (fun q => h1 (.inr q))⟩
  · rw [chkN_8 e] at h
    unfold chkSd at h
    split at h
    · omega
    split at h
    · omega
    rename_i h1 h2
    split at h
    · omega
    exact ⟨by omega, Decidable.not_not.1 (fun q => h2 (.inl q)), by omega, Decidable.not_not.1 (fun q => h2 (.inr q))⟩

set_option maxRecDepth 100000 in
theorem nOutside_any (n : Int) (m : Int) (w : World)  :
    Calls Tryz.prog 76 #[.int .i64 n, .int .i64 m] w fun e w' => e = .returned (.bool (decide (n < 0 ∨ n > m))) ∧ Below w.heap.size w w' := by
 have hB0 := Below.refl w.heap.size w
 refine co_enter (n := 12) Tryz.func76 rfl rfl rfl [(0, .int .i64 n), (1, .int .i64 m)] rfl (fun a h0 => ?_)
 refine co_seq ?_
 refine co_reg ?_
 refine pk0 (v := .bool false) h0 rfl fun a1 h1 => ?_; clear h0
 refine pl_nil ?_
 refine co_then ?_
 refine co_seq ?_
 refine co_reg ?_
 refine pk0 (v := .int .i64 n) h1 rfl fun a2 h2 => ?_; clear h1
 refine pk0 (v := .bool (decide (n < 0))) h2 rfl fun a3 h3 => ?_; clear h2
 refine pk0 (v := .bool (decide (n < 0))) h3 rfl fun a4 h4 => ?_; clear h3
 cases hc5 : (decide (n < 0))
 ·
  rw [hc5] at h4
  have hp6 : ¬ (n < 0) := of_decide_eq_false hc5
  clear hc5
  refine pk0 (v := .int .i64 n) h4 rfl fun a7 h7 => ?_; clear h4
  refine pk0 (v := .int .i64 m) h7 rfl fun a8 h8 => ?_; clear h7
  refine pk0 (v := .bool (decide (n > m))) h8 rfl fun a9 h9 => ?_; clear h8
  refine pk0 (v := .bool (decide (n > m))) h9 rfl fun a10 h10 => ?_; clear h9
  refine pk0 (v := .bool (decide (n > m))) h10 rfl fun a11 h11 => ?_; clear h10
  refine pl_nil ?_
  refine co_then ?_
  refine wp_ret ?_
  refine co_ret1 h11 rfl rfl ?_
  exact ⟨ret_bool (by first | rfl | exact (decide_eq_true (by omega)).symm | exact (decide_eq_false (by omega)).symm | (rw [Bool.eq_iff_iff]; simp; omega)), hB0⟩
 ·
  rw [hc5] at h4
  have hp12 : n < 0 := of_decide_eq_true hc5
  clear hc5
  refine psk h4 rfl fun a13 h13 => ?_; clear h4
  refine psk h13 rfl fun a14 h14 => ?_; clear h13
  refine psk h14 rfl fun a15 h15 => ?_; clear h14
  refine pk0 (v := .bool true) h15 rfl fun a16 h16 => ?_; clear h15
  refine pk0 (v := .bool true) h16 rfl fun a17 h17 => ?_; clear h16
  refine pl_nil ?_
  refine co_then ?_
  refine wp_ret ?_
  refine co_ret1 h17 rfl rfl ?_
  exact ⟨ret_bool (by first | rfl | exact (decide_eq_true (by omega)).symm | exact (decide_eq_false (by omega)).symm | (rw [Bool.eq_iff_iff]; simp; omega)), hB0⟩
set_option maxRecDepth 100000 in
theorem rnMay_any (n : Int) (w : World)  :
    Calls Tryz.prog 81 #[.int .i64 n] w fun e w' => e = .returned (.bool (decide (0 ≤ n ∧ n ≤ 1073741824))) ∧ Below w.heap.size w w' := by
 have hB0 := Below.refl w.heap.size w
 refine co_enter (n := 9) Tryz.func81 rfl rfl rfl [(0, .int .i64 n)] rfl (fun a h0 => ?_)
 refine co_seq ?_
 refine co_reg ?_
 refine pk0 (v := .bool false) h0 rfl fun a1 h1 => ?_; clear h0
 refine pl_nil ?_
 refine co_then ?_
 refine co_seq ?_
 refine co_reg ?_
 refine pk0 (v := .int .i64 n) h1 rfl fun a2 h2 => ?_; clear h1
 refine pk0 (v := .bool (decide (n ≥ 0))) h2 rfl fun a3 h3 => ?_; clear h2
 refine pk0 (v := .bool (decide (n ≥ 0))) h3 rfl fun a4 h4 => ?_; clear h3
 cases hc5 : (decide (n ≥ 0))
 ·
  rw [hc5] at h4
  have hp6 : ¬ (n ≥ 0) := of_decide_eq_false hc5
  clear hc5
  refine psk h4 rfl fun a7 h7 => ?_; clear h4
  refine psk h7 rfl fun a8 h8 => ?_; clear h7
  refine pk0 (v := .bool false) h8 rfl fun a9 h9 => ?_; clear h8
  refine pk0 (v := .bool false) h9 rfl fun a10 h10 => ?_; clear h9
  refine pl_nil ?_
  refine co_then ?_
  refine wp_ret ?_
  refine co_ret1 h10 rfl rfl ?_
  exact ⟨ret_bool (by first | rfl | exact (decide_eq_true (by omega)).symm | exact (decide_eq_false (by omega)).symm | (rw [Bool.eq_iff_iff]; simp; omega)), hB0⟩
 ·
  rw [hc5] at h4
  have hp11 : n ≥ 0 := of_decide_eq_true hc5
  clear hc5
  refine pk0 (v := .int .i64 n) h4 rfl fun a12 h12 => ?_; clear h4
  refine pk0 (v := .bool (decide (n ≤ 1073741824))) h12 rfl fun a13 h13 => ?_; clear h12
  refine pk0 (v := .bool (decide (n ≤ 1073741824))) h13 rfl fun a14 h14 => ?_; clear h13
  refine pk0 (v := .bool (decide (n ≤ 1073741824))) h14 rfl fun a15 h15 => ?_; clear h14
  refine pl_nil ?_
  refine co_then ?_
  refine wp_ret ?_
  refine co_ret1 h15 rfl rfl ?_
  exact ⟨ret_bool (by first | rfl | exact (decide_eq_true (by omega)).symm | exact (decide_eq_false (by omega)).symm | (rw [Bool.eq_iff_iff]; simp; omega)), hB0⟩
set_option maxRecDepth 100000 in
theorem nKnown_any (k : Int) (w : World)  :
    Calls Tryz.prog 132 #[.int .i64 k] w fun e w' => e = .returned (.bool (decide (1 ≤ k ∧ k ≤ 8))) ∧ Below w.heap.size w w' := by
 have hB0 := Below.refl w.heap.size w
 refine co_enter (n := 9) Tryz.func132 rfl rfl rfl [(0, .int .i64 k)] rfl (fun a h0 => ?_)
 refine co_seq ?_
 refine co_reg ?_
 refine pk0 (v := .bool false) h0 rfl fun a1 h1 => ?_; clear h0
 refine pl_nil ?_
 refine co_then ?_
 refine co_seq ?_
 refine co_reg ?_
 refine pk0 (v := .int .i64 k) h1 rfl fun a2 h2 => ?_; clear h1
 refine pk0 (v := .bool (decide (k ≥ 1))) h2 rfl fun a3 h3 => ?_; clear h2
 refine pk0 (v := .bool (decide (k ≥ 1))) h3 rfl fun a4 h4 => ?_; clear h3
 cases hc5 : (decide (k ≥ 1))
 ·
  rw [hc5] at h4
  have hp6 : ¬ (k ≥ 1) := of_decide_eq_false hc5
  clear hc5
  refine psk h4 rfl fun a7 h7 => ?_; clear h4
  refine psk h7 rfl fun a8 h8 => ?_; clear h7
  refine pk0 (v := .bool false) h8 rfl fun a9 h9 => ?_; clear h8
  refine pk0 (v := .bool false) h9 rfl fun a10 h10 => ?_; clear h9
  refine pl_nil ?_
  refine co_then ?_
  refine wp_ret ?_
  refine co_ret1 h10 rfl rfl ?_
  exact ⟨ret_bool (by first | rfl | exact (decide_eq_true (by omega)).symm | exact (decide_eq_false (by omega)).symm | (rw [Bool.eq_iff_iff]; simp; omega)), hB0⟩
 ·
  rw [hc5] at h4
  have hp11 : k ≥ 1 := of_decide_eq_true hc5
  clear hc5
  refine pk0 (v := .int .i64 k) h4 rfl fun a12 h12 => ?_; clear h4
  refine pk0 (v := .bool (decide (k ≤ 8))) h12 rfl fun a13 h13 => ?_; clear h12
  refine pk0 (v := .bool (decide (k ≤ 8))) h13 rfl fun a14 h14 => ?_; clear h13
  refine pk0 (v := .bool (decide (k ≤ 8))) h14 rfl fun a15 h15 => ?_; clear h14
  refine pl_nil ?_
  refine co_then ?_
  refine wp_ret ?_
  refine co_ret1 h15 rfl rfl ?_
  exact ⟨ret_bool (by first | rfl | exact (decide_eq_true (by omega)).symm | exact (decide_eq_false (by omega)).symm | (rw [Bool.eq_iff_iff]; simp; omega)), hB0⟩
set_option maxRecDepth 100000 in
theorem nLegit1_any (i : Nat) (x : Int) (bx : Nat) (v : Value) (l : List Int) (w : World) (hs : SliceOf (intE .i64) 1 w v l) (hbx : w.rangeAt bx 0 [v]) (hi : i < l.length) :
    Calls Tryz.prog 139 #[.int .i64 ((i : Nat) : Int), .int .i64 x, pt bx 0] w fun e w' => e = .returned (.int .i64 (lgAt l i x)) ∧ Below w.heap.size w w' := by
 have hB0 := Below.refl w.heap.size w
 have hl_hs := sl_len hs
 refine co_enter (n := 19) Tryz.func139 rfl rfl rfl [(0, .int .i64 ((i : Nat) : Int)), (1, .int .i64 x), (2, pt bx 0)] rfl (fun a h0 => ?_)
 refine co_seq ?_
 refine co_reg ?_
 refine pk0 (v := .int .i64 0) h0 rfl fun a1 h1 => ?_; clear h0
 refine pl_nil ?_
 refine co_then ?_
 refine co_seq ?_
 refine co_seq ?_
 refine co_reg ?_
 refine pk0 (v := .int .i64 x) h1 rfl fun a2 h2 => ?_; clear h1
 refine pw h2 rfl (op_call (args := #[.int .i64 x, .int .i64 3]) (R := fun res xw => res = .bool (decide (x < 0 ∨ x > 3)) ∧ Below w.heap.size w xw) rfl rfl rfl (by kernel_rfl) (by kernel_rfl) (Tryz.call76 _ _) (nOutside_any x 3 w ) (by rintro e x ⟨rfl, hb5⟩; exact ⟨_, rfl, ⟨rfl, hb5⟩⟩)) ?_; clear h2
 rintro _ w4 a3 ⟨rfl, hb5⟩ h3
 have hz6 := hb5.size
 refine pl_nil ?_
 refine co_then ?_
 have hB8 := hb_call hB0 hb5
 cases hc7 : (decide (x < 0 ∨ x > 3))
 ·
  rw [hc7] at h3
  have hp9 : ¬ (x < 0 ∨ x > 3) := of_decide_eq_false hc7
  clear hc7
  refine co_false h3 rfl ?_
  refine wp_skip ?_
  refine co_then ?_
  refine co_seq ?_
  refine co_seq ?_
  refine co_reg ?_
  refine pk0 (v := .int .i64 ((i : Nat) : Int)) h3 rfl fun a10 h10 => ?_; clear h3
  refine pk0 (v := .bool (decide (((i : Nat) : Int) > 0))) h10 rfl fun a11 h11 => ?_; clear h10
  refine pk0 (v := .bool (decide (((i : Nat) : Int) > 0))) h11 rfl fun a12 h12 => ?_; clear h11
  cases hc13 : (decide (((i : Nat) : Int) > 0))
  ·
   rw [hc13] at h12
   have hp14 : ¬ (((i : Nat) : Int) > 0) := of_decide_eq_false hc13
   clear hc13
   refine psk h12 rfl fun a15 h15 => ?_; clear h12
   refine psk h15 rfl fun a16 h16 => ?_; clear h15
   refine psk h16 rfl fun a17 h17 => ?_; clear h16
   refine psk h17 rfl fun a18 h18 => ?_; clear h17
   refine psk h18 rfl fun a19 h19 => ?_; clear h18
   refine psk h19 rfl fun a20 h20 => ?_; clear h19
   refine psk h20 rfl fun a21 h21 => ?_; clear h20
   refine pk0 (v := .bool false) h21 rfl fun a22 h22 => ?_; clear h21
   refine pl_nil ?_
   refine co_then ?_
   refine co_false h22 rfl ?_
   refine wp_skip ?_
   refine co_then ?_
   refine co_seq ?_
   refine co_reg ?_
   refine pk0 (v := .int .i64 0) h22 rfl fun a23 h23 => ?_; clear h22
   refine pl_nil ?_
   refine co_then ?_
   refine wp_ret ?_
   refine co_ret1 h23 rfl rfl ?_
   exact ⟨ret_int (lgAt_0' (by omega) (by omega)), hB8⟩
  ·
   rw [hc13] at h12
   have hp24 : ((i : Nat) : Int) > 0 := of_decide_eq_true hc13
   clear hc13
   refine pk0 (v := .int .i64 x) h12 rfl fun a25 h25 => ?_; clear h12
   refine pk (v := v) h25 rfl (rn_load1 rfl rfl Tryz.isAgg50 ((range_below hbx hB8) 0 _ rfl)) fun a26 h26 => ?_; clear h25
   refine pk0 (v := .int .i64 ((i : Nat) : Int)) h26 rfl fun a27 h27 => ?_; clear h26
   refine pk (v := .int .i64 (((i : Nat) : Int) - 1)) h27 rfl (rn_arith rfl rfl rfl rfl rfl rfl (IntWalk.i64_in _ (by omega))) fun a28 h28 => ?_; clear h27
   obtain ⟨y29, hy29⟩ : ∃ z, l[(((i : Nat) : Int) - 1).toNat]? = some z := ⟨_, List.getElem?_eq_getElem (by first | omega | (simp; done) | (simp; omega))⟩
   refine pk (v := pt (blkOf v) (offOf v + ((((i : Nat) : Int) - 1).toNat) * 1)) h28 rfl (rn_index rfl rfl rfl Tryz.underlying50 Tryz.sizeOf3 (hs.below hB8) (by omega) (by first | omega | (simp; done) | (simp; omega))) fun a30 h30 => ?_; clear h28
   refine pk (v := .int .i64 y29) h30 rfl (rn_load1 rfl rfl Tryz.isAgg3 ((sl_at (hs.below hB8) hy29) 0 _ rfl)) fun a31 h31 => ?_; clear h30
   refine pk0 (v := .bool (decide (x ≤ y29))) h31 rfl fun a32 h32 => ?_; clear h31
   refine pk0 (v := .bool (decide (x ≤ y29))) h32 rfl fun a33 h33 => ?_; clear h32
   refine pl_nil ?_
   refine co_then ?_
   cases hc34 : (decide (x ≤ y29))
   ·
    rw [hc34] at h33
    have hp35 : ¬ (x ≤ y29) := of_decide_eq_false hc34
    clear hc34
    refine co_false h33 rfl ?_
    refine wp_skip ?_
    refine co_then ?_
    refine co_seq ?_
    refine co_reg ?_
    refine pk0 (v := .int .i64 0) h33 rfl fun a36 h36 => ?_; clear h33
    refine pl_nil ?_
    refine co_then ?_
    refine wp_ret ?_
    refine co_ret1 h36 rfl rfl ?_
    exact ⟨ret_int (lgAt_0 (j := (((i : Nat) : Int) - 1).toNat) (by omega) (by omega) (by omega) hy29 (by omega)), hB8⟩
   ·
    rw [hc34] at h33
    have hp37 : x ≤ y29 := of_decide_eq_true hc34
    clear hc34
    refine co_true h33 rfl ?_
    refine co_seq ?_
    refine co_reg ?_
    refine pk0 (v := .int .i64 18) h33 rfl fun a38 h38 => ?_; clear h33
    refine pl_nil ?_
    refine co_then ?_
    refine wp_ret ?_
    refine co_thenR ?_
    refine co_ret1 h38 rfl rfl ?_
    exact ⟨ret_int (lgAt_18 (j := (((i : Nat) : Int) - 1).toNat) (by omega) (by omega) (by omega) hy29 (by omega)), hB8⟩
 ·
  rw [hc7] at h3
  have hp39 : x < 0 ∨ x > 3 := of_decide_eq_true hc7
  clear hc7
  refine co_true h3 rfl ?_
  refine co_seq ?_
  refine co_reg ?_
  refine pk0 (v := .int .i64 1) h3 rfl fun a40 h40 => ?_; clear h3
  refine pl_nil ?_
  refine co_then ?_
  refine wp_ret ?_
  refine co_thenR ?_
  refine co_ret1 h40 rfl rfl ?_
  exact ⟨ret_int (lgAt_1 (by omega)), hB8⟩
set_option maxRecDepth 100000 in
theorem nFirst_any (v : Value) (l : List Int) (bx : Nat) (w : World) (hs : SliceOf (intE .i64) 1 w v l) (hbx : w.rangeAt bx 0 [v]) :
    Calls Tryz.prog 138 #[v, .func (.func 139) #[] #[pt bx 0]] w fun e w' => e = .returned (.int .i64 (chkLgF none l)) ∧ Below w.heap.size w w' := by
 have hB0 := Below.refl w.heap.size w
 have hl_hs := sl_len hs
 refine co_enter (n := 23) Tryz.func138 rfl rfl rfl [(0, v), (1, .func (.func 139) #[] #[pt bx 0])] rfl (fun a h0 => ?_)
 refine co_seq ?_
 refine co_reg ?_
 refine pk0 (v := .int .i64 0) h0 rfl fun a1 h1 => ?_; clear h0
 refine pl_nil ?_
 refine co_then ?_
 refine co_seq ?_
 refine co_seq ?_
 refine co_reg ?_
 refine pk0 (v := v) h1 rfl fun a2 h2 => ?_; clear h1
 refine pk (v := .int .i64 ((l.length : Nat) : Int)) h2 rfl (rn_len rfl rfl Tryz.underlying50 hs) fun a3 h3 => ?_; clear h2
 refine pk0 (v := .int .i64 0) h3 rfl fun a4 h4 => ?_; clear h3
 refine pl_nil ?_
 refine co_then ?_
 refine wp_block ?_
 have h5 : Slots 23 [(1, .func (.func 139) #[] #[pt bx 0]), (8, v), (9, .int .i64 ((l.length : Nat) : Int)), (10, .int .i64 0)] _ := h4.sub ⟨rfl, rfl, rfl, rfl, trivial⟩; clear h4
 refine co_loop (fun mm a x => ∃ (i : Nat), Slots 23 [(1, .func (.func 139) #[] #[pt bx 0]), (8, v), (9, .int .i64 ((l.length : Nat) : Int)), (10, .int .i64 ((i : Nat) : Int))] a ∧ mm = l.length - i ∧ (i ≤ l.length) ∧ (chkLgF (prevI l i) (l.drop i) = chkLgF none l) ∧ Below w.heap.size w x) (l.length - 0) ?_ ?_
 · exact ⟨0, h5.sub ⟨rfl, rfl, rfl, (slot_eq rfl (congrArg (Value.int .i64) (by first | rfl | omega))), trivial⟩, rfl, by omega, by first | rfl | exact lg_step hL (by assumption) (by omega), hB0⟩
 · rintro k6 a7 w8 ⟨i, h7, rfl, hi9, hi10, hB11⟩
   have hz12 := hB11.size
   have hL : chkLgF (prevI l i) (l.drop i) = chkLgF none l := by assumption
   refine co_seq ?_
   refine co_reg ?_
   refine pk0 (v := .bool (decide (((i : Nat) : Int) < ((l.length : Nat) : Int)))) h7 rfl fun a13 h13 => ?_; clear h7
   refine pl_nil ?_
   refine co_then ?_
   refine co_seq ?_
   cases hc14 : (decide (((i : Nat) : Int) < ((l.length : Nat) : Int)))
   ·
    rw [hc14] at h13
    have hp15 : ¬ (((i : Nat) : Int) < ((l.length : Nat) : Int)) := of_decide_eq_false hc14
    clear hc14
    refine co_false h13 rfl ?_
    refine wp_exit ?_
    refine co_thenX ?_
    refine co_thenX ?_
    refine co_blockX ?_
    refine co_then ?_
    refine co_seq ?_
    refine co_reg ?_
    refine pk0 (v := .int .i64 0) h13 rfl fun a16 h16 => ?_; clear h13
    refine pl_nil ?_
    refine co_then ?_
    refine wp_ret ?_
    refine co_ret1 h16 rfl rfl ?_
    exact ⟨ret_int (lg_end (i := i) hL (by omega)), hB11⟩
   ·
    rw [hc14] at h13
    have hp17 : ((i : Nat) : Int) < ((l.length : Nat) : Int) := of_decide_eq_true hc14
    clear hc14
    refine co_true h13 rfl ?_
    refine wp_skip ?_
    refine co_then ?_
    refine co_seq ?_
    refine wp_block ?_
    refine co_seq ?_
    refine co_reg ?_
    refine pk0 (v := .int .i64 ((i : Nat) : Int)) h13 rfl fun a18 h18 => ?_; clear h13
    obtain ⟨y19, hy19⟩ : ∃ z, l[i]? = some z := ⟨_, List.getElem?_eq_getElem (by first | omega | (simp; done) | (simp; omega))⟩
    refine pk (v := pt (blkOf v) (offOf v + i * 1)) h18 rfl (rn_index rfl rfl rfl Tryz.underlying50 Tryz.sizeOf3 (hs.below hB11) (by omega) (by first | omega | (simp; done) | (simp; omega))) fun a20 h20 => ?_; clear h18
    refine pk (v := .int .i64 y19) h20 rfl (rn_load1 rfl rfl Tryz.isAgg3 ((sl_at (hs.below hB11) hy19) 0 _ rfl)) fun a21 h21 => ?_; clear h20
    refine pk0 (v := .int .i64 ((i : Nat) : Int)) h21 rfl fun a22 h22 => ?_; clear h21
    refine pk0 (v := .int .i64 y19) h22 rfl fun a23 h23 => ?_; clear h22
    refine pl_nil ?_
    refine co_then ?_
    refine co_seq ?_
    refine co_reg ?_
    refine pk0 (v := .func (.func 139) #[] #[pt bx 0]) h23 rfl fun a24 h24 => ?_; clear h23
    refine pk0 (v := .int .i64 ((i : Nat) : Int)) h24 rfl fun a25 h25 => ?_; clear h24
    refine pk0 (v := .int .i64 y19) h25 rfl fun a26 h26 => ?_; clear h25
    refine pw h26 rfl (op_callV (args := #[.int .i64 ((i : Nat) : Int), .int .i64 y19, pt bx 0]) (R := fun res xw => res = .int .i64 (lgAt l i y19) ∧ Below w8.heap.size w8 xw) rfl rfl rfl (by kernel_rfl) (by kernel_rfl) (Tryz.call139 _ _) (nLegit1_any i y19 bx v l w8 (hs.below hB11) (range_below hbx hB11) (by first | omega | (simp; done) | (simp; omega))) (by rintro e x ⟨rfl, hb29⟩; exact ⟨_, rfl, ⟨rfl, hb29⟩⟩)) ?_; clear h26
    rintro _ w28 a27 ⟨rfl, hb29⟩ h27
    have hz30 := hb29.size
    refine pk0 (v := .int .i64 (lgAt l i y19)) h27 rfl fun a31 h31 => ?_; clear h27
    refine pl_nil ?_
    refine co_then ?_
    refine co_seq ?_
    refine co_reg ?_
    refine pk0 (v := .int .i64 (lgAt l i y19)) h31 rfl fun a32 h32 => ?_; clear h31
    refine pk0 (v := .bool (lgAt l i y19 != 0)) h32 rfl fun a33 h33 => ?_; clear h32
    refine pl_nil ?_
    refine co_then ?_
    have hB35 := hb_call hB11 hb29
    cases hc34 : (lgAt l i y19 != 0)
    ·
     rw [hc34] at h33
     have hp36 : ¬ (lgAt l i y19 ≠ 0) := by first | simpa using hc34 | simpa [and_assoc] using hc34
     clear hc34
     refine co_false h33 rfl ?_
     refine wp_skip ?_
     refine co_blockN ?_
     refine co_then ?_
     refine co_reg ?_
     refine pk (v := .int .i64 ((i + 1 : Nat) : Int)) h33 rfl (rn_arith' rfl rfl rfl rfl rfl rfl (IntWalk.i64_in _ (by omega)) (by omega)) fun a37 h37 => ?_; clear h33
     refine pk0 (v := .int .i64 ((i + 1 : Nat) : Int)) h37 rfl fun a38 h38 => ?_; clear h37
     refine pl_nil ?_
     refine co_then ?_
     refine ⟨(l.length - (i + 1)), by omega, ?_⟩
     exact ⟨i + 1, h38.sub ⟨rfl, rfl, rfl, rfl, trivial⟩, rfl, by omega, by first | rfl | exact lg_step hL (by assumption) (by omega), hB35⟩
    ·
     rw [hc34] at h33
     have hp39 : lgAt l i y19 ≠ 0 := by first | simpa using hc34 | simpa [and_assoc] using hc34
     clear hc34
     refine co_true h33 rfl ?_
     refine co_seq ?_
     refine co_reg ?_
     refine pk0 (v := .int .i64 (lgAt l i y19)) h33 rfl fun a40 h40 => ?_; clear h33
     refine pk0 (v := .int .i64 (lgAt l i y19)) h40 rfl fun a41 h41 => ?_; clear h40
     refine pl_nil ?_
     refine co_then ?_
     refine wp_ret ?_
     refine co_blockR ?_
     refine co_thenR ?_
     refine co_thenR ?_
     refine co_blockR ?_
     refine co_thenR ?_
     refine co_ret1 h41 rfl rfl ?_
     exact ⟨ret_int (lg_bad (i := i) hL hy19 (by omega)), hB35⟩
set_option maxRecDepth 100000 in
theorem nLegit_any (v : Value) (l : List Int) (w : World) (hs : SliceOf (intE .i64) 1 w v l) :
    Calls Tryz.prog 75 #[v] w fun e w' => e = .returned (.int .i64 (chkLg l)) ∧ Below w.heap.size w w' := by
 have hB0 := Below.refl w.heap.size w
 have hl_hs := sl_len hs
 refine co_enter (n := 9) Tryz.func75 rfl rfl rfl [(0, v)] rfl (fun a h0 => ?_)
 refine co_seq ?_
 refine co_reg ?_
 refine pw h0 rfl (op_new (v := fun N => pt N 0) (T := 50) (cs := #[v]) (by kernel_rfl) (by kernel_rfl) (box_run rfl rfl (sl_one hs))) ?_; clear h0
 rintro _ w2 a1 ⟨N3, rfl, hN6, hz7, hk5, hg4⟩ h1
 have hz8 := hg4.size
 try dsimp only at h1
 refine pk0 (v := .int .i64 0) h1 rfl fun a9 h9 => ?_; clear h1
 refine pl_nil ?_
 refine co_then ?_
 refine co_seq ?_
 refine co_seq ?_
 refine co_reg ?_
 refine pk (v := v) h9 rfl (rn_load1 rfl rfl Tryz.isAgg50 (hk5.cell rfl)) fun a10 h10 => ?_; clear h9
 have hB11 := hb_new hB0 hg4
 refine pk (v := .int .i64 ((l.length : Nat) : Int)) h10 rfl (rn_len rfl rfl Tryz.underlying50 (hs.below hB11)) fun a12 h12 => ?_; clear h10
 refine pk0 (v := .bool (decide (((l.length : Nat) : Int) > 4))) h12 rfl fun a13 h13 => ?_; clear h12
 refine pl_nil ?_
 refine co_then ?_
 cases hc14 : (decide (((l.length : Nat) : Int) > 4))
 ·
  rw [hc14] at h13
  have hp15 : ¬ (((l.length : Nat) : Int) > 4) := of_decide_eq_false hc14
  clear hc14
  refine co_false h13 rfl ?_
  refine wp_skip ?_
  refine co_then ?_
  refine co_seq ?_
  refine co_reg ?_
  refine pk (v := v) h13 rfl (rn_load1 rfl rfl Tryz.isAgg50 (hk5.cell rfl)) fun a16 h16 => ?_; clear h13
  refine pk0 (v := .func (.func 139) #[] #[pt N3 0]) h16 rfl fun a17 h17 => ?_; clear h16
  refine pw h17 rfl (op_call (args := #[v, .func (.func 139) #[] #[pt N3 0]]) (R := fun res xw => res = .int .i64 (chkLgF none l) ∧ Below w2.heap.size w2 xw) rfl rfl rfl (by kernel_rfl) (by kernel_rfl) (Tryz.call138 _ _) (nFirst_any v l N3 w2 (hs.below hB11) (blk_part hk5 0 rfl)) (by rintro e x ⟨rfl, hb20⟩; exact ⟨_, rfl, ⟨rfl, hb20⟩⟩)) ?_; clear h17
  rintro _ w19 a18 ⟨rfl, hb20⟩ h18
  have hz21 := hb20.size
  refine pk0 (v := .int .i64 (chkLgF none l)) h18 rfl fun a22 h22 => ?_; clear h18
  refine pl_nil ?_
  refine co_then ?_
  refine wp_ret ?_
  refine co_ret1 h22 rfl rfl ?_
  have hB23 := hb_call hB11 hb20
  exact ⟨ret_int (by unfold chkLg; first | rw [if_pos (by omega)] | rw [if_neg (by omega)]), hB23⟩
 ·
  rw [hc14] at h13
  have hp24 : ((l.length : Nat) : Int) > 4 := of_decide_eq_true hc14
  clear hc14
  refine co_true h13 rfl ?_
  refine co_seq ?_
  refine co_reg ?_
  refine pk0 (v := .int .i64 6) h13 rfl fun a25 h25 => ?_; clear h13
  refine pl_nil ?_
  refine co_then ?_
  refine wp_ret ?_
  refine co_thenR ?_
  refine co_ret1 h25 rfl rfl ?_
  exact ⟨ret_int (by unfold chkLg; first | rw [if_pos (by omega)] | rw [if_neg (by omega)]), hB11⟩
set_option maxRecDepth 100000 in
theorem rnLegit_any (v : Value) (l : List Int) (w : World) (hs : SliceOf (intE .i64) 1 w v l) :
    Calls Tryz.prog 80 #[v] w fun e w' => e = .returned (.int .i64 (chkLg l)) ∧ Below w.heap.size w w' := by
 have hB0 := Below.refl w.heap.size w
 have hl_hs := sl_len hs
 refine co_enter (n := 39) Tryz.func80 rfl rfl rfl [(0, v)] rfl (fun a h0 => ?_)
 refine co_seq ?_
 refine co_reg ?_
 refine pk0 (v := .int .i64 0) h0 rfl fun a1 h1 => ?_; clear h0
 refine pl_nil ?_
 refine co_then ?_
 refine co_seq ?_
 refine co_seq ?_
 refine co_reg ?_
 refine pk0 (v := v) h1 rfl fun a2 h2 => ?_; clear h1
 refine pk (v := .int .i64 ((l.length : Nat) : Int)) h2 rfl (rn_len rfl rfl Tryz.underlying50 hs) fun a3 h3 => ?_; clear h2
 refine pk0 (v := .bool (decide (((l.length : Nat) : Int) > 4))) h3 rfl fun a4 h4 => ?_; clear h3
 refine pl_nil ?_
 refine co_then ?_
 cases hc5 : (decide (((l.length : Nat) : Int) > 4))
 ·
  rw [hc5] at h4
  have hp6 : ¬ (((l.length : Nat) : Int) > 4) := of_decide_eq_false hc5
  clear hc5
  refine co_false h4 rfl ?_
  refine wp_skip ?_
  refine co_then ?_
  refine co_seq ?_
  refine co_seq ?_
  refine co_reg ?_
  refine pk0 (v := .int .i64 0) h4 rfl fun a7 h7 => ?_; clear h4
  refine pl_nil ?_
  refine co_then ?_
  refine wp_block ?_
  have h8 : Slots 39 [(0, v), (3, .int .i64 0)] _ := h7.sub ⟨rfl, rfl, trivial⟩; clear h7
  refine co_loop (fun mm a x => ∃ (i : Nat), Slots 39 [(0, v), (3, .int .i64 ((i : Nat) : Int))] a ∧ mm = l.length - i ∧ (i ≤ l.length) ∧ (chkLgF (prevI l i) (l.drop i) = chkLgF none l) ∧ Below w.heap.size w x) (l.length - 0) ?_ ?_
  · exact ⟨0, h8.sub ⟨rfl, (slot_eq rfl (congrArg (Value.int .i64) (by first | rfl | omega))), trivial⟩, rfl, by omega, by first | rfl | exact hL', hB0⟩
  · rintro k9 a10 w11 ⟨i, h10, rfl, hi12, hi13, hB14⟩
    have hz15 := hB14.size
    have hL : chkLgF (prevI l i) (l.drop i) = chkLgF none l := by assumption
    refine co_seq ?_
    refine co_seq ?_
    refine co_reg ?_
    refine pk0 (v := .int .i64 ((i : Nat) : Int)) h10 rfl fun a16 h16 => ?_; clear h10
    refine pk0 (v := v) h16 rfl fun a17 h17 => ?_; clear h16
    refine pk (v := .int .i64 ((l.length : Nat) : Int)) h17 rfl (rn_len rfl rfl Tryz.underlying50 (hs.below hB14)) fun a18 h18 => ?_; clear h17
    refine pk0 (v := .bool (decide (((i : Nat) : Int) < ((l.length : Nat) : Int)))) h18 rfl fun a19 h19 => ?_; clear h18
    refine pl_nil ?_
    refine co_then ?_
    cases hc20 : (decide (((i : Nat) : Int) < ((l.length : Nat) : Int)))
    ·
     rw [hc20] at h19
     have hp21 : ¬ (((i : Nat) : Int) < ((l.length : Nat) : Int)) := of_decide_eq_false hc20
     clear hc20
     refine co_false h19 rfl ?_
     refine wp_exit ?_
     refine co_thenX ?_
     refine co_thenX ?_
     refine co_blockX ?_
     refine co_then ?_
     refine co_seq ?_
     refine co_reg ?_
     refine pk0 (v := .int .i64 0) h19 rfl fun a22 h22 => ?_; clear h19
     refine pl_nil ?_
     refine co_then ?_
     refine wp_ret ?_
     refine co_ret1 h22 rfl rfl ?_
     exact ⟨ret_int (by unfold chkLg; rw [if_neg (by omega)]; exact lg_end (i := i) hL (by omega)), hB14⟩
    ·
     rw [hc20] at h19
     have hp23 : ((i : Nat) : Int) < ((l.length : Nat) : Int) := of_decide_eq_true hc20
     clear hc20
     refine co_true h19 rfl ?_
     refine wp_skip ?_
     refine co_then ?_
     refine co_seq ?_
     refine wp_block ?_
     refine co_seq ?_
     refine co_seq ?_
     refine co_reg ?_
     refine pk0 (v := v) h19 rfl fun a24 h24 => ?_; clear h19
     refine pk0 (v := .int .i64 ((i : Nat) : Int)) h24 rfl fun a25 h25 => ?_; clear h24
     obtain ⟨y26, hy26⟩ : ∃ z, l[i]? = some z := ⟨_, List.getElem?_eq_getElem (by first | omega | (simp; done) | (simp; omega))⟩
     refine pk (v := pt (blkOf v) (offOf v + i * 1)) h25 rfl (rn_index rfl rfl rfl Tryz.underlying50 Tryz.sizeOf3 (hs.below hB14) (by omega) (by first | omega | (simp; done) | (simp; omega))) fun a27 h27 => ?_; clear h25
     refine pk (v := .int .i64 y26) h27 rfl (rn_load1 rfl rfl Tryz.isAgg3 ((sl_at (hs.below hB14) hy26) 0 _ rfl)) fun a28 h28 => ?_; clear h27
     refine pk0 (v := .bool (decide (y26 < 0))) h28 rfl fun a29 h29 => ?_; clear h28
     refine pk0 (v := .bool (decide (y26 < 0))) h29 rfl fun a30 h30 => ?_; clear h29
     cases hc31 : (decide (y26 < 0))
     ·
      rw [hc31] at h30
      have hp32 : ¬ (y26 < 0) := of_decide_eq_false hc31
      clear hc31
      refine pk0 (v := v) h30 rfl fun a33 h33 => ?_; clear h30
      refine pk0 (v := .int .i64 ((i : Nat) : Int)) h33 rfl fun a34 h34 => ?_; clear h33
      refine pk (v := pt (blkOf v) (offOf v + i * 1)) h34 rfl (rn_index rfl rfl rfl Tryz.underlying50 Tryz.sizeOf3 (hs.below hB14) (by omega) (by first | omega | (simp; done) | (simp; omega))) fun a35 h35 => ?_; clear h34
      refine pk (v := .int .i64 y26) h35 rfl (rn_load1 rfl rfl Tryz.isAgg3 ((sl_at (hs.below hB14) hy26) 0 _ rfl)) fun a36 h36 => ?_; clear h35
      refine pk0 (v := .bool (decide (y26 ≥ 4))) h36 rfl fun a37 h37 => ?_; clear h36
      refine pk0 (v := .bool (decide (y26 ≥ 4))) h37 rfl fun a38 h38 => ?_; clear h37
      refine pl_nil ?_
      refine co_then ?_
      cases hc39 : (decide (y26 ≥ 4))
      ·
       rw [hc39] at h38
       have hp40 : ¬ (y26 ≥ 4) := of_decide_eq_false hc39
       clear hc39
       refine co_false h38 rfl ?_
       refine wp_skip ?_
       refine co_then ?_
       refine co_seq ?_
       refine dr_eq (by kernel_rfl) (fun w41 hg42 => ?_)
       have hz43 := hg42.size
       refine dk0 0 (v := .int .i64 ((i : Nat) : Int)) h38 rfl rfl rfl fun a44 h44 => ?_; clear h38
       refine dk0 1 (v := .bool (decide (((i : Nat) : Int) > 0))) h44 rfl rfl rfl fun a45 h45 => ?_; clear h44
       refine dk0 2 (v := .bool (decide (((i : Nat) : Int) > 0))) h45 rfl rfl rfl fun a46 h46 => ?_; clear h45
       have hB48 := hb_new hB14 hg42
       cases hc47 : (decide (((i : Nat) : Int) > 0))
       ·
        rw [hc47] at h46
        have hp49 : ¬ (((i : Nat) : Int) > 0) := of_decide_eq_false hc47
        clear hc47
        refine dsk 3 h46 rfl rfl rfl fun a50 h50 => ?_; clear h46
        refine dsk 4 h50 rfl rfl rfl fun a51 h51 => ?_; clear h50
        refine dsk 5 h51 rfl rfl rfl fun a52 h52 => ?_; clear h51
        refine dsk 6 h52 rfl rfl rfl fun a53 h53 => ?_; clear h52
        refine dsk 7 h53 rfl rfl rfl fun a54 h54 => ?_; clear h53
        refine dsk 8 h54 rfl rfl rfl fun a55 h55 => ?_; clear h54
        refine dsk 9 h55 rfl rfl rfl fun a56 h56 => ?_; clear h55
        refine dsk 10 h56 rfl rfl rfl fun a57 h57 => ?_; clear h56
        refine dsk 11 h57 rfl rfl rfl fun a58 h58 => ?_; clear h57
        refine dsk 12 h58 rfl rfl rfl fun a59 h59 => ?_; clear h58
        refine dk0 13 (v := .bool false) h59 rfl rfl rfl fun a60 h60 => ?_; clear h59
        refine dr_done (by kernel_rfl) ?_
        refine co_then ?_
        refine co_false h60 rfl ?_
        refine wp_skip ?_
        refine co_blockN ?_
        refine co_then ?_
        refine co_reg ?_
        refine pk0 (v := .int .i64 ((i : Nat) : Int)) h60 rfl fun a61 h61 => ?_; clear h60
        refine pk (v := .int .i64 ((i + 1 : Nat) : Int)) h61 rfl (rn_arith' rfl rfl rfl rfl rfl rfl (IntWalk.i64_in _ (by omega)) (by omega)) fun a62 h62 => ?_; clear h61
        refine pk0 (v := .int .i64 ((i + 1 : Nat) : Int)) h62 rfl fun a63 h63 => ?_; clear h62
        refine pl_nil ?_
        refine co_then ?_
        refine ⟨(l.length - (i + 1)), by omega, ?_⟩
        have hA : 0 = lgAt l i y26 := lgAt_0' (by omega) (by omega)
        have hL' := lg_step hL hy26 hA.symm
        exact ⟨i + 1, h63.sub ⟨rfl, rfl, trivial⟩, rfl, by omega, by first | rfl | exact hL', hB48⟩
       ·
        rw [hc47] at h46
        have hp64 : ((i : Nat) : Int) > 0 := of_decide_eq_true hc47
        clear hc47
        refine dk0 3 (v := v) h46 rfl rfl rfl fun a65 h65 => ?_; clear h46
        refine dk0 4 (v := .int .i64 ((i : Nat) : Int)) h65 rfl rfl rfl fun a66 h66 => ?_; clear h65
        refine dk 5 (v := .int .i64 (((i : Nat) : Int) - 1)) h66 rfl rfl rfl (fun x hx => by subst hx; exact (rn_arith rfl rfl rfl rfl rfl rfl (IntWalk.i64_in _ (by omega)))) fun a67 h67 => ?_; clear h66
        obtain ⟨y68, hy68⟩ : ∃ z, l[(((i : Nat) : Int) - 1).toNat]? = some z := ⟨_, List.getElem?_eq_getElem (by first | omega | (simp; done) | (simp; omega))⟩
        refine dk 6 (v := pt (blkOf v) (offOf v + ((((i : Nat) : Int) - 1).toNat) * 1)) h67 rfl rfl rfl (fun x hx => by subst hx; exact (rn_index rfl rfl rfl Tryz.underlying50 Tryz.sizeOf3 (hs.below hB48) (by omega) (by first | omega | (simp; done) | (simp; omega)))) fun a69 h69 => ?_; clear h67
        refine dk 7 (v := .int .i64 y68) h69 rfl rfl rfl (fun x hx => by subst hx; exact (rn_load1 rfl rfl Tryz.isAgg3 ((sl_at (hs.below hB48) hy68) 0 _ rfl))) fun a70 h70 => ?_; clear h69
        refine dk0 8 (v := v) h70 rfl rfl rfl fun a71 h71 => ?_; clear h70
        refine dk0 9 (v := .int .i64 ((i : Nat) : Int)) h71 rfl rfl rfl fun a72 h72 => ?_; clear h71
        refine dk 10 (v := pt (blkOf v) (offOf v + i * 1)) h72 rfl rfl rfl (fun x hx => by subst hx; exact (rn_index rfl rfl rfl Tryz.underlying50 Tryz.sizeOf3 (hs.below hB48) (by omega) (by first | omega | (simp; done) | (simp; omega)))) fun a73 h73 => ?_; clear h72
        refine dk 11 (v := .int .i64 y26) h73 rfl rfl rfl (fun x hx => by subst hx; exact (rn_load1 rfl rfl Tryz.isAgg3 ((sl_at (hs.below hB48) hy26) 0 _ rfl))) fun a74 h74 => ?_; clear h73
        refine dk0 12 (v := .bool (decide (y68 ≥ y26))) h74 rfl rfl rfl fun a75 h75 => ?_; clear h74
        refine dk0 13 (v := .bool (decide (y68 ≥ y26))) h75 rfl rfl rfl fun a76 h76 => ?_; clear h75
        refine dr_done (by kernel_rfl) ?_
        refine co_then ?_
        cases hc77 : (decide (y68 ≥ y26))
        ·
         rw [hc77] at h76
         have hp78 : ¬ (y68 ≥ y26) := of_decide_eq_false hc77
         clear hc77
         refine co_false h76 rfl ?_
         refine wp_skip ?_
         refine co_blockN ?_
         refine co_then ?_
         refine co_reg ?_
         refine pk0 (v := .int .i64 ((i : Nat) : Int)) h76 rfl fun a79 h79 => ?_; clear h76
         refine pk (v := .int .i64 ((i + 1 : Nat) : Int)) h79 rfl (rn_arith' rfl rfl rfl rfl rfl rfl (IntWalk.i64_in _ (by omega)) (by omega)) fun a80 h80 => ?_; clear h79
         refine pk0 (v := .int .i64 ((i + 1 : Nat) : Int)) h80 rfl fun a81 h81 => ?_; clear h80
         refine pl_nil ?_
         refine co_then ?_
         refine ⟨(l.length - (i + 1)), by omega, ?_⟩
         have hA : 0 = lgAt l i y26 := lgAt_0 (j := (((i : Nat) : Int) - 1).toNat) (by omega) (by omega) (by omega) hy68 (by omega)
         have hL' := lg_step hL hy26 hA.symm
         exact ⟨i + 1, h81.sub ⟨rfl, rfl, trivial⟩, rfl, by omega, by first | rfl | exact hL', hB48⟩
        ·
         rw [hc77] at h76
         have hp82 : y68 ≥ y26 := of_decide_eq_true hc77
         clear hc77
         refine co_true h76 rfl ?_
         refine co_seq ?_
         refine co_reg ?_
         refine pk0 (v := .int .i64 18) h76 rfl fun a83 h83 => ?_; clear h76
         refine pl_nil ?_
         refine co_then ?_
         refine wp_ret ?_
         refine co_blockR ?_
         refine co_thenR ?_
         refine co_thenR ?_
         refine co_blockR ?_
         refine co_thenR ?_
         refine co_ret1 h83 rfl rfl ?_
         have hA : 18 = lgAt l i y26 := lgAt_18 (j := (((i : Nat) : Int) - 1).toNat) (by omega) (by omega) (by omega) hy68 (by omega)
         exact ⟨ret_int (by unfold chkLg; rw [if_neg (by omega), hA]; exact lg_bad hL hy26 (by omega)), hB48⟩
      ·
       rw [hc39] at h38
       have hp84 : y26 ≥ 4 := of_decide_eq_true hc39
       clear hc39
       refine co_true h38 rfl ?_
       refine co_seq ?_
       refine co_reg ?_
       refine pk0 (v := .int .i64 1) h38 rfl fun a85 h85 => ?_; clear h38
       refine pl_nil ?_
       refine co_then ?_
       refine wp_ret ?_
       refine co_thenR ?_
       refine co_blockR ?_
       refine co_thenR ?_
       refine co_thenR ?_
       refine co_blockR ?_
       refine co_thenR ?_
       refine co_ret1 h85 rfl rfl ?_
       have hA : 1 = lgAt l i y26 := lgAt_1 (by omega)
       exact ⟨ret_int (by unfold chkLg; rw [if_neg (by omega), hA]; exact lg_bad hL hy26 (by omega)), hB14⟩
     ·
      rw [hc31] at h30
      have hp86 : y26 < 0 := of_decide_eq_true hc31
      clear hc31
      refine psk h30 rfl fun a87 h87 => ?_; clear h30
      refine psk h87 rfl fun a88 h88 => ?_; clear h87
      refine psk h88 rfl fun a89 h89 => ?_; clear h88
      refine psk h89 rfl fun a90 h90 => ?_; clear h89
      refine psk h90 rfl fun a91 h91 => ?_; clear h90
      refine pk0 (v := .bool true) h91 rfl fun a92 h92 => ?_; clear h91
      refine pl_nil ?_
      refine co_then ?_
      refine co_true h92 rfl ?_
      refine co_seq ?_
      refine co_reg ?_
      refine pk0 (v := .int .i64 1) h92 rfl fun a93 h93 => ?_; clear h92
      refine pl_nil ?_
      refine co_then ?_
      refine wp_ret ?_
      refine co_thenR ?_
      refine co_blockR ?_
      refine co_thenR ?_
      refine co_thenR ?_
      refine co_blockR ?_
      refine co_thenR ?_
      refine co_ret1 h93 rfl rfl ?_
      have hA : 1 = lgAt l i y26 := lgAt_1 (by omega)
      exact ⟨ret_int (by unfold chkLg; rw [if_neg (by omega), hA]; exact lg_bad hL hy26 (by omega)), hB14⟩
 ·
  rw [hc5] at h4
  have hp94 : ((l.length : Nat) : Int) > 4 := of_decide_eq_true hc5
  clear hc5
  refine co_true h4 rfl ?_
  refine co_seq ?_
  refine co_reg ?_
  refine pk0 (v := .int .i64 6) h4 rfl fun a95 h95 => ?_; clear h4
  refine pl_nil ?_
  refine co_then ?_
  refine wp_ret ?_
  refine co_thenR ?_
  refine co_ret1 h95 rfl rfl ?_
  exact ⟨ret_int (by unfold chkLg; rw [if_pos (by omega)]), hB0⟩
set_option maxRecDepth 100000 in
theorem nSaid_any (sc : Int) (sr : Int) (se : Int) (sp : Int) (w : World)  :
    Calls Tryz.prog 78 #[.agg #[.int .i64 sc, .int .i64 sr, .int .i64 se, .int .i64 sp]] w fun e w' => e = .returned (.int .i64 (chkSd sc sr se sp)) ∧ Below w.heap.size w w' := by
 have hB0 := Below.refl w.heap.size w
 refine co_enter (n := 17) Tryz.func78 rfl rfl rfl [(0, .agg #[.int .i64 sc, .int .i64 sr, .int .i64 se, .int .i64 sp])] rfl (fun a h0 => ?_)
 refine co_seq ?_
 refine co_reg ?_
 refine pw h0 rfl (op_new (v := fun N => pt N 0) (T := 56) (cs := #[.int .i64 sc, .int .i64 sr, .int .i64 se, .int .i64 sp]) (by kernel_rfl) (by kernel_rfl) (by kernel_rfl)) ?_; clear h0
 rintro _ w2 a1 ⟨N3, rfl, hN6, hz7, hk5, hg4⟩ h1
 have hz8 := hg4.size
 try dsimp only at h1
 refine pk0 (v := .int .i64 0) h1 rfl fun a9 h9 => ?_; clear h1
 refine pl_nil ?_
 refine co_then ?_
 refine co_seq ?_
 refine co_seq ?_
 refine co_reg ?_
 refine pk0 (v := pt N3 0) h9 rfl fun a10 h10 => ?_; clear h9
 refine pk (v := .int .i64 sc) h10 rfl (rn_load1 rfl rfl Tryz.isAgg3 (hk5.cell rfl)) fun a11 h11 => ?_; clear h10
 refine pw h11 rfl (op_call (args := #[.int .i64 sc, .int .i64 2]) (R := fun res xw => res = .bool (decide (sc < 0 ∨ sc > 2)) ∧ Below w2.heap.size w2 xw) rfl rfl rfl (by kernel_rfl) (by kernel_rfl) (Tryz.call76 _ _) (nOutside_any sc 2 w2 ) (by rintro e x ⟨rfl, hb14⟩; exact ⟨_, rfl, ⟨rfl, hb14⟩⟩)) ?_; clear h11
 rintro _ w13 a12 ⟨rfl, hb14⟩ h12
 have hz15 := hb14.size
 refine pl_nil ?_
 refine co_then ?_
 have hB17 := hb_new hB0 hg4
 have hB18 := hb_call hB17 hb14
 cases hc16 : (decide (sc < 0 ∨ sc > 2))
 ·
  rw [hc16] at h12
  have hp19 : ¬ (sc < 0 ∨ sc > 2) := of_decide_eq_false hc16
  clear hc16
  refine co_false h12 rfl ?_
  refine wp_skip ?_
  refine co_then ?_
  refine co_seq ?_
  refine co_seq ?_
  refine co_reg ?_
  refine pk0 (v := pt N3 1) h12 rfl fun a20 h20 => ?_; clear h12
  have hk21 := hk5.below hb14
  refine pk (v := .int .i64 sr) h20 rfl (rn_load1 rfl rfl Tryz.isAgg3 (hk21.cell rfl)) fun a22 h22 => ?_; clear h20
  refine pw h22 rfl (op_call (args := #[.int .i64 sr, .int .i64 1073741824]) (R := fun res xw => res = .bool (decide (sr < 0 ∨ sr > 1073741824)) ∧ Below w13.heap.size w13 xw) rfl rfl rfl (by kernel_rfl) (by kernel_rfl) (Tryz.call76 _ _) (nOutside_any sr 1073741824 w13 ) (by rintro e x ⟨rfl, hb25⟩; exact ⟨_, rfl, ⟨rfl, hb25⟩⟩)) ?_; clear h22
  rintro _ w24 a23 ⟨rfl, hb25⟩ h23
  have hz26 := hb25.size
  refine pk0 (v := .bool (decide (sr < 0 ∨ sr > 1073741824))) h23 rfl fun a27 h27 => ?_; clear h23
  have hB29 := hb_call hB18 hb25
  cases hc28 : (decide (sr < 0 ∨ sr > 1073741824))
  ·
   rw [hc28] at h27
   have hp30 : ¬ (sr < 0 ∨ sr > 1073741824) := of_decide_eq_false hc28
   clear hc28
   refine pk0 (v := pt N3 3) h27 rfl fun a31 h31 => ?_; clear h27
   have hk32 := hk21.below hb25
   refine pk (v := .int .i64 sp) h31 rfl (rn_load1 rfl rfl Tryz.isAgg3 (hk32.cell rfl)) fun a33 h33 => ?_; clear h31
   refine pw h33 rfl (op_call (args := #[.int .i64 sp, .int .i64 1073741824]) (R := fun res xw => res = .bool (decide (sp < 0 ∨ sp > 1073741824)) ∧ Below w24.heap.size w24 xw) rfl rfl rfl (by kernel_rfl) (by kernel_rfl) (Tryz.call76 _ _) (nOutside_any sp 1073741824 w24 ) (by rintro e x ⟨rfl, hb36⟩; exact ⟨_, rfl, ⟨rfl, hb36⟩⟩)) ?_; clear h33
   rintro _ w35 a34 ⟨rfl, hb36⟩ h34
   have hz37 := hb36.size
   refine pk0 (v := .bool (decide (sp < 0 ∨ sp > 1073741824))) h34 rfl fun a38 h38 => ?_; clear h34
   refine pl_nil ?_
   refine co_then ?_
   have hB40 := hb_call hB29 hb36
   cases hc39 : (decide (sp < 0 ∨ sp > 1073741824))
   ·
    rw [hc39] at h38
    have hp41 : ¬ (sp < 0 ∨ sp > 1073741824) := of_decide_eq_false hc39
    clear hc39
    refine co_false h38 rfl ?_
    refine wp_skip ?_
    refine co_then ?_
    refine co_seq ?_
    refine co_seq ?_
    refine co_reg ?_
    refine pk0 (v := pt N3 2) h38 rfl fun a42 h42 => ?_; clear h38
    have hk43 := hk32.below hb36
    refine pk (v := .int .i64 se) h42 rfl (rn_load1 rfl rfl Tryz.isAgg23 (hk43.cell rfl)) fun a44 h44 => ?_; clear h42
    refine pw h44 rfl (op_call (args := #[.int .i64 se, .int .i64 21]) (R := fun res xw => res = .bool (decide (se < 0 ∨ se > 21)) ∧ Below w35.heap.size w35 xw) rfl rfl rfl (by kernel_rfl) (by kernel_rfl) (Tryz.call76 _ _) (nOutside_any se 21 w35 ) (by rintro e x ⟨rfl, hb47⟩; exact ⟨_, rfl, ⟨rfl, hb47⟩⟩)) ?_; clear h44
    rintro _ w46 a45 ⟨rfl, hb47⟩ h45
    have hz48 := hb47.size
    refine pl_nil ?_
    refine co_then ?_
    have hB50 := hb_call hB40 hb47
    cases hc49 : (decide (se < 0 ∨ se > 21))
    ·
     rw [hc49] at h45
     have hp51 : ¬ (se < 0 ∨ se > 21) := of_decide_eq_false hc49
     clear hc49
     refine co_false h45 rfl ?_
     refine wp_skip ?_
     refine co_then ?_
     refine co_seq ?_
     refine co_reg ?_
     refine pk0 (v := .int .i64 0) h45 rfl fun a52 h52 => ?_; clear h45
     refine pl_nil ?_
     refine co_then ?_
     refine wp_ret ?_
     refine co_ret1 h52 rfl rfl ?_
     exact ⟨ret_int (by unfold chkSd may; first | rw [if_pos (by omega)] | rw [if_neg (by omega), if_pos (by omega)] | rw [if_neg (by omega), if_neg (by omega), if_pos (by omega)] | rw [if_neg (by omega), if_neg (by omega), if_neg (by omega)]), hB50⟩
    ·
     rw [hc49] at h45
     have hp53 : se < 0 ∨ se > 21 := of_decide_eq_true hc49
     clear hc49
     refine co_true h45 rfl ?_
     refine co_seq ?_
     refine co_reg ?_
     refine pk0 (v := .int .i64 1) h45 rfl fun a54 h54 => ?_; clear h45
     refine pl_nil ?_
     refine co_then ?_
     refine wp_ret ?_
     refine co_thenR ?_
     refine co_ret1 h54 rfl rfl ?_
     exact ⟨ret_int (by unfold chkSd may; first | rw [if_pos (by omega)] | rw [if_neg (by omega), if_pos (by omega)] | rw [if_neg (by omega), if_neg (by omega), if_pos (by omega)] | rw [if_neg (by omega), if_neg (by omega), if_neg (by omega)]), hB50⟩
   ·
    rw [hc39] at h38
    have hp55 : sp < 0 ∨ sp > 1073741824 := of_decide_eq_true hc39
    clear hc39
    refine co_true h38 rfl ?_
    refine co_seq ?_
    refine co_reg ?_
    refine pk0 (v := .int .i64 5) h38 rfl fun a56 h56 => ?_; clear h38
    refine pl_nil ?_
    refine co_then ?_
    refine wp_ret ?_
    refine co_thenR ?_
    refine co_ret1 h56 rfl rfl ?_
    exact ⟨ret_int (by unfold chkSd may; first | rw [if_pos (by omega)] | rw [if_neg (by omega), if_pos (by omega)] | rw [if_neg (by omega), if_neg (by omega), if_pos (by omega)] | rw [if_neg (by omega), if_neg (by omega), if_neg (by omega)]), hB40⟩
  ·
   rw [hc28] at h27
   have hp57 : sr < 0 ∨ sr > 1073741824 := of_decide_eq_true hc28
   clear hc28
   refine psk h27 rfl fun a58 h58 => ?_; clear h27
   refine psk h58 rfl fun a59 h59 => ?_; clear h58
   refine psk h59 rfl fun a60 h60 => ?_; clear h59
   refine pk0 (v := .bool true) h60 rfl fun a61 h61 => ?_; clear h60
   refine pl_nil ?_
   refine co_then ?_
   refine co_true h61 rfl ?_
   refine co_seq ?_
   refine co_reg ?_
   refine pk0 (v := .int .i64 5) h61 rfl fun a62 h62 => ?_; clear h61
   refine pl_nil ?_
   refine co_then ?_
   refine wp_ret ?_
   refine co_thenR ?_
   refine co_ret1 h62 rfl rfl ?_
   exact ⟨ret_int (by unfold chkSd may; first | rw [if_pos (by omega)] | rw [if_neg (by omega), if_pos (by omega)] | rw [if_neg (by omega), if_neg (by omega), if_pos (by omega)] | rw [if_neg (by omega), if_neg (by omega), if_neg (by omega)]), hB29⟩
 ·
  rw [hc16] at h12
  have hp63 : sc < 0 ∨ sc > 2 := of_decide_eq_true hc16
  clear hc16
  refine co_true h12 rfl ?_
  refine co_seq ?_
  refine co_reg ?_
  refine pk0 (v := .int .i64 1) h12 rfl fun a64 h64 => ?_; clear h12
  refine pl_nil ?_
  refine co_then ?_
  refine wp_ret ?_
  refine co_thenR ?_
  refine co_ret1 h64 rfl rfl ?_
  exact ⟨ret_int (by unfold chkSd may; first | rw [if_pos (by omega)] | rw [if_neg (by omega), if_pos (by omega)] | rw [if_neg (by omega), if_neg (by omega), if_pos (by omega)] | rw [if_neg (by omega), if_neg (by omega), if_neg (by omega)]), hB18⟩
set_option maxRecDepth 100000 in
theorem rnSaid_any (sc : Int) (sr : Int) (se : Int) (sp : Int) (w : World)  :
    Calls Tryz.prog 83 #[.agg #[.int .i64 sc, .int .i64 sr, .int .i64 se, .int .i64 sp]] w fun e w' => e = .returned (.int .i64 (chkSd sc sr se sp)) ∧ Below w.heap.size w w' := by
 have hB0 := Below.refl w.heap.size w
 refine co_enter (n := 29) Tryz.func83 rfl rfl rfl [(0, .agg #[.int .i64 sc, .int .i64 sr, .int .i64 se, .int .i64 sp])] rfl (fun a h0 => ?_)
 refine co_seq ?_
 refine co_reg ?_
 refine pw h0 rfl (op_new (v := fun N => pt N 0) (T := 56) (cs := #[.int .i64 sc, .int .i64 sr, .int .i64 se, .int .i64 sp]) (by kernel_rfl) (by kernel_rfl) (by kernel_rfl)) ?_; clear h0
 rintro _ w2 a1 ⟨N3, rfl, hN6, hz7, hk5, hg4⟩ h1
 have hz8 := hg4.size
 try dsimp only at h1
 refine pk0 (v := .int .i64 0) h1 rfl fun a9 h9 => ?_; clear h1
 refine pl_nil ?_
 refine co_then ?_
 refine co_seq ?_
 refine co_seq ?_
 refine co_reg ?_
 refine pk0 (v := pt N3 0) h9 rfl fun a10 h10 => ?_; clear h9
 refine pk (v := .int .i64 sc) h10 rfl (rn_load1 rfl rfl Tryz.isAgg3 (hk5.cell rfl)) fun a11 h11 => ?_; clear h10
 refine pk0 (v := .bool (decide (sc < 0))) h11 rfl fun a12 h12 => ?_; clear h11
 refine pk0 (v := .bool (decide (sc < 0))) h12 rfl fun a13 h13 => ?_; clear h12
 have hB15 := hb_new hB0 hg4
 cases hc14 : (decide (sc < 0))
 ·
  rw [hc14] at h13
  have hp16 : ¬ (sc < 0) := of_decide_eq_false hc14
  clear hc14
  refine pk0 (v := pt N3 0) h13 rfl fun a17 h17 => ?_; clear h13
  refine pk (v := .int .i64 sc) h17 rfl (rn_load1 rfl rfl Tryz.isAgg3 (hk5.cell rfl)) fun a18 h18 => ?_; clear h17
  refine pk0 (v := .bool (decide (sc ≥ 3))) h18 rfl fun a19 h19 => ?_; clear h18
  refine pk0 (v := .bool (decide (sc ≥ 3))) h19 rfl fun a20 h20 => ?_; clear h19
  refine pl_nil ?_
  refine co_then ?_
  cases hc21 : (decide (sc ≥ 3))
  ·
   rw [hc21] at h20
   have hp22 : ¬ (sc ≥ 3) := of_decide_eq_false hc21
   clear hc21
   refine co_false h20 rfl ?_
   refine wp_skip ?_
   refine co_then ?_
   refine co_seq ?_
   refine co_seq ?_
   refine co_reg ?_
   refine pk0 (v := pt N3 1) h20 rfl fun a23 h23 => ?_; clear h20
   refine pk (v := .int .i64 sr) h23 rfl (rn_load1 rfl rfl Tryz.isAgg3 (hk5.cell rfl)) fun a24 h24 => ?_; clear h23
   refine pw h24 rfl (op_call (args := #[.int .i64 sr]) (R := fun res xw => res = .bool (decide (0 ≤ sr ∧ sr ≤ 1073741824)) ∧ Below w2.heap.size w2 xw) rfl rfl rfl (by kernel_rfl) (by kernel_rfl) (Tryz.call81 _ _) (rnMay_any sr w2 ) (by rintro e x ⟨rfl, hb27⟩; exact ⟨_, rfl, ⟨rfl, hb27⟩⟩)) ?_; clear h24
   rintro _ w26 a25 ⟨rfl, hb27⟩ h25
   have hz28 := hb27.size
   have hB30 := hb_call hB15 hb27
   cases hc29 : (decide (0 ≤ sr ∧ sr ≤ 1073741824))
   ·
    rw [hc29] at h25
    have hp31 : ¬ (0 ≤ sr ∧ sr ≤ 1073741824) := of_decide_eq_false hc29
    clear hc29
    refine pk0 (v := .bool true) h25 rfl fun a32 h32 => ?_; clear h25
    refine pk0 (v := .bool true) h32 rfl fun a33 h33 => ?_; clear h32
    refine psk h33 rfl fun a34 h34 => ?_; clear h33
    refine psk h34 rfl fun a35 h35 => ?_; clear h34
    refine psk h35 rfl fun a36 h36 => ?_; clear h35
    refine psk h36 rfl fun a37 h37 => ?_; clear h36
    refine pk0 (v := .bool true) h37 rfl fun a38 h38 => ?_; clear h37
    refine pl_nil ?_
    refine co_then ?_
    refine co_true h38 rfl ?_
    refine co_seq ?_
    refine co_reg ?_
    refine pk0 (v := .int .i64 5) h38 rfl fun a39 h39 => ?_; clear h38
    refine pl_nil ?_
    refine co_then ?_
    refine wp_ret ?_
    refine co_thenR ?_
    refine co_ret1 h39 rfl rfl ?_
    exact ⟨ret_int (by unfold chkSd may; first | rw [if_pos (by omega)] | rw [if_neg (by omega), if_pos (by omega)] | rw [if_neg (by omega), if_neg (by omega), if_pos (by omega)] | rw [if_neg (by omega), if_neg (by omega), if_neg (by omega)]), hB30⟩
   ·
    rw [hc29] at h25
    have hp40 : 0 ≤ sr ∧ sr ≤ 1073741824 := of_decide_eq_true hc29
    clear hc29
    refine pk0 (v := .bool false) h25 rfl fun a41 h41 => ?_; clear h25
    refine pk0 (v := .bool false) h41 rfl fun a42 h42 => ?_; clear h41
    refine pk0 (v := pt N3 3) h42 rfl fun a43 h43 => ?_; clear h42
    have hk44 := hk5.below hb27
    refine pk (v := .int .i64 sp) h43 rfl (rn_load1 rfl rfl Tryz.isAgg3 (hk44.cell rfl)) fun a45 h45 => ?_; clear h43
    refine pw h45 rfl (op_call (args := #[.int .i64 sp]) (R := fun res xw => res = .bool (decide (0 ≤ sp ∧ sp ≤ 1073741824)) ∧ Below w26.heap.size w26 xw) rfl rfl rfl (by kernel_rfl) (by kernel_rfl) (Tryz.call81 _ _) (rnMay_any sp w26 ) (by rintro e x ⟨rfl, hb48⟩; exact ⟨_, rfl, ⟨rfl, hb48⟩⟩)) ?_; clear h45
    rintro _ w47 a46 ⟨rfl, hb48⟩ h46
    have hz49 := hb48.size
    have hB51 := hb_call hB30 hb48
    cases hc50 : (decide (0 ≤ sp ∧ sp ≤ 1073741824))
    ·
     rw [hc50] at h46
     have hp52 : ¬ (0 ≤ sp ∧ sp ≤ 1073741824) := of_decide_eq_false hc50
     clear hc50
     refine pk0 (v := .bool true) h46 rfl fun a53 h53 => ?_; clear h46
     refine pk0 (v := .bool true) h53 rfl fun a54 h54 => ?_; clear h53
     refine pl_nil ?_
     refine co_then ?_
     refine co_true h54 rfl ?_
     refine co_seq ?_
     refine co_reg ?_
     refine pk0 (v := .int .i64 5) h54 rfl fun a55 h55 => ?_; clear h54
     refine pl_nil ?_
     refine co_then ?_
     refine wp_ret ?_
     refine co_thenR ?_
     refine co_ret1 h55 rfl rfl ?_
     exact ⟨ret_int (by unfold chkSd may; first | rw [if_pos (by omega)] | rw [if_neg (by omega), if_pos (by omega)] | rw [if_neg (by omega), if_neg (by omega), if_pos (by omega)] | rw [if_neg (by omega), if_neg (by omega), if_neg (by omega)]), hB51⟩
    ·
     rw [hc50] at h46
     have hp56 : 0 ≤ sp ∧ sp ≤ 1073741824 := of_decide_eq_true hc50
     clear hc50
     refine pk0 (v := .bool false) h46 rfl fun a57 h57 => ?_; clear h46
     refine pk0 (v := .bool false) h57 rfl fun a58 h58 => ?_; clear h57
     refine pl_nil ?_
     refine co_then ?_
     refine co_false h58 rfl ?_
     refine wp_skip ?_
     refine co_then ?_
     refine co_seq ?_
     refine co_seq ?_
     refine co_reg ?_
     refine pk0 (v := pt N3 2) h58 rfl fun a59 h59 => ?_; clear h58
     have hk60 := hk44.below hb48
     refine pk (v := .int .i64 se) h59 rfl (rn_load1 rfl rfl Tryz.isAgg23 (hk60.cell rfl)) fun a61 h61 => ?_; clear h59
     refine pk0 (v := .bool (decide (se < 0))) h61 rfl fun a62 h62 => ?_; clear h61
     refine pk0 (v := .bool (decide (se < 0))) h62 rfl fun a63 h63 => ?_; clear h62
     cases hc64 : (decide (se < 0))
     ·
      rw [hc64] at h63
      have hp65 : ¬ (se < 0) := of_decide_eq_false hc64
      clear hc64
      refine pk0 (v := pt N3 2) h63 rfl fun a66 h66 => ?_; clear h63
      refine pk (v := .int .i64 se) h66 rfl (rn_load1 rfl rfl Tryz.isAgg23 (hk60.cell rfl)) fun a67 h67 => ?_; clear h66
      refine pk0 (v := .bool (decide (se > 21))) h67 rfl fun a68 h68 => ?_; clear h67
      refine pk0 (v := .bool (decide (se > 21))) h68 rfl fun a69 h69 => ?_; clear h68
      refine pl_nil ?_
      refine co_then ?_
      cases hc70 : (decide (se > 21))
      ·
       rw [hc70] at h69
       have hp71 : ¬ (se > 21) := of_decide_eq_false hc70
       clear hc70
       refine co_false h69 rfl ?_
       refine wp_skip ?_
       refine co_then ?_
       refine co_seq ?_
       refine co_reg ?_
       refine pk0 (v := .int .i64 0) h69 rfl fun a72 h72 => ?_; clear h69
       refine pl_nil ?_
       refine co_then ?_
       refine wp_ret ?_
       refine co_ret1 h72 rfl rfl ?_
       exact ⟨ret_int (by unfold chkSd may; first | rw [if_pos (by omega)] | rw [if_neg (by omega), if_pos (by omega)] | rw [if_neg (by omega), if_neg (by omega), if_pos (by omega)] | rw [if_neg (by omega), if_neg (by omega), if_neg (by omega)]), hB51⟩
      ·
       rw [hc70] at h69
       have hp73 : se > 21 := of_decide_eq_true hc70
       clear hc70
       refine co_true h69 rfl ?_
       refine co_seq ?_
       refine co_reg ?_
       refine pk0 (v := .int .i64 1) h69 rfl fun a74 h74 => ?_; clear h69
       refine pl_nil ?_
       refine co_then ?_
       refine wp_ret ?_
       refine co_thenR ?_
       refine co_ret1 h74 rfl rfl ?_
       exact ⟨ret_int (by unfold chkSd may; first | rw [if_pos (by omega)] | rw [if_neg (by omega), if_pos (by omega)] | rw [if_neg (by omega), if_neg (by omega), if_pos (by omega)] | rw [if_neg (by omega), if_neg (by omega), if_neg (by omega)]), hB51⟩
     ·
      rw [hc64] at h63
      have hp75 : se < 0 := of_decide_eq_true hc64
      clear hc64
      refine psk h63 rfl fun a76 h76 => ?_; clear h63
      refine psk h76 rfl fun a77 h77 => ?_; clear h76
      refine psk h77 rfl fun a78 h78 => ?_; clear h77
      refine pk0 (v := .bool true) h78 rfl fun a79 h79 => ?_; clear h78
      refine pl_nil ?_
      refine co_then ?_
      refine co_true h79 rfl ?_
      refine co_seq ?_
      refine co_reg ?_
      refine pk0 (v := .int .i64 1) h79 rfl fun a80 h80 => ?_; clear h79
      refine pl_nil ?_
      refine co_then ?_
      refine wp_ret ?_
      refine co_thenR ?_
      refine co_ret1 h80 rfl rfl ?_
      exact ⟨ret_int (by unfold chkSd may; first | rw [if_pos (by omega)] | rw [if_neg (by omega), if_pos (by omega)] | rw [if_neg (by omega), if_neg (by omega), if_pos (by omega)] | rw [if_neg (by omega), if_neg (by omega), if_neg (by omega)]), hB51⟩
  ·
   rw [hc21] at h20
   have hp81 : sc ≥ 3 := of_decide_eq_true hc21
   clear hc21
   refine co_true h20 rfl ?_
   refine co_seq ?_
   refine co_reg ?_
   refine pk0 (v := .int .i64 1) h20 rfl fun a82 h82 => ?_; clear h20
   refine pl_nil ?_
   refine co_then ?_
   refine wp_ret ?_
   refine co_thenR ?_
   refine co_ret1 h82 rfl rfl ?_
   exact ⟨ret_int (by unfold chkSd may; first | rw [if_pos (by omega)] | rw [if_neg (by omega), if_pos (by omega)] | rw [if_neg (by omega), if_neg (by omega), if_pos (by omega)] | rw [if_neg (by omega), if_neg (by omega), if_neg (by omega)]), hB15⟩
 ·
  rw [hc14] at h13
  have hp83 : sc < 0 := of_decide_eq_true hc14
  clear hc14
  refine psk h13 rfl fun a84 h84 => ?_; clear h13
  refine psk h84 rfl fun a85 h85 => ?_; clear h84
  refine psk h85 rfl fun a86 h86 => ?_; clear h85
  refine pk0 (v := .bool true) h86 rfl fun a87 h87 => ?_; clear h86
  refine pl_nil ?_
  refine co_then ?_
  refine co_true h87 rfl ?_
  refine co_seq ?_
  refine co_reg ?_
  refine pk0 (v := .int .i64 1) h87 rfl fun a88 h88 => ?_; clear h87
  refine pl_nil ?_
  refine co_then ?_
  refine wp_ret ?_
  refine co_thenR ?_
  refine co_ret1 h88 rfl rfl ?_
  exact ⟨ret_int (by unfold chkSd may; first | rw [if_pos (by omega)] | rw [if_neg (by omega), if_pos (by omega)] | rw [if_neg (by omega), if_neg (by omega), if_pos (by omega)] | rw [if_neg (by omega), if_neg (by omega), if_neg (by omega)]), hB15⟩
set_option maxRecDepth 100000 in
theorem nCheck_any (d : NoteD) (mv : Value) (lv : Value) (ev : Value) (w : World) (hm : SliceOf memE 2 w mv d.ms) (hg : SliceOf (intE .i64) 1 w lv d.lg) (he : SliceOf opE 3 w ev d.el) (hR : NoteR d) :
    Calls Tryz.prog 22 #[.agg #[.int .i64 d.k, .int .i64 d.n, .int .u64 d.t, .int .i64 d.ep, mv, .int .u64 d.fl, lv, .int .i64 d.ec, .int .i64 d.er, ev, .int .u64 d.ets, .int .i64 d.pid, .int .u64 d.pat, .int .i64 d.plf, .int .i64 d.sc, .int .i64 d.sr, .int .i64 d.se, .int .i64 d.sp]] w fun e w' => e = .returned (.int .i64 (chkN d)) ∧ Below w.heap.size w w' := by
 have hrng := hR.rng
 have hB0 := Below.refl w.heap.size w
 have hl_hm := sl_len hm
 have hl_hg := sl_len hg
 have hl_he := sl_len he
 refine co_enter (n := 50) Tryz.func22 rfl rfl rfl [(0, .agg #[.int .i64 d.k, .int .i64 d.n, .int .u64 d.t, .int .i64 d.ep, mv, .int .u64 d.fl, lv, .int .i64 d.ec, .int .i64 d.er, ev, .int .u64 d.ets, .int .i64 d.pid, .int .u64 d.pat, .int .i64 d.plf, .int .i64 d.sc, .int .i64 d.sr, .int .i64 d.se, .int .i64 d.sp])] rfl (fun a h0 => ?_)
 refine co_seq ?_
 refine co_reg ?_
 refine pw h0 rfl (op_new (v := fun N => pt N 0) (T := 58) (cs := #[.int .i64 d.k, .int .i64 d.n, .int .u64 d.t, .int .i64 d.ep, mv, .int .u64 d.fl, lv, .int .i64 d.ec, .int .i64 d.er, ev, .int .u64 d.ets, .int .i64 d.pid, .int .u64 d.pat, .int .i64 d.plf, .int .i64 d.sc, .int .i64 d.sr, .int .i64 d.se, .int .i64 d.sp]) (by kernel_rfl) (by kernel_rfl) (by kernel_rfl)) ?_; clear h0
 rintro _ w2 a1 ⟨N3, rfl, hN6, hz7, hk5, hg4⟩ h1
 have hz8 := hg4.size
 try dsimp only at h1
 refine pk0 (v := .int .i64 0) h1 rfl fun a9 h9 => ?_; clear h1
 refine pl_nil ?_
 refine co_then ?_
 refine co_seq ?_
 refine co_seq ?_
 refine co_reg ?_
 refine pk0 (v := pt N3 0) h9 rfl fun a10 h10 => ?_; clear h9
 refine pk (v := .int .i64 d.k) h10 rfl (rn_load1 rfl rfl Tryz.isAgg3 (hk5.cell rfl)) fun a11 h11 => ?_; clear h10
 refine pl_nil ?_
 refine co_then ?_
 refine wp_block ?_
 refine co_seq ?_
 refine co_reg ?_
 refine pk0 (v := .bool (d.k == 1)) h11 rfl fun a12 h12 => ?_; clear h11
 refine pk0 (v := .bool (d.k == 1)) h12 rfl fun a13 h13 => ?_; clear h12
 refine pl_nil ?_
 refine co_then ?_
 have hB15 := hb_new hB0 hg4
 cases hc14 : (d.k == 1)
 ·
  rw [hc14] at h13
  have hp16 : ¬ (d.k = 1) := by first | simpa using hc14 | simpa [and_assoc] using hc14
  clear hc14
  refine co_false h13 rfl ?_
  refine co_seq ?_
  refine co_reg ?_
  refine pk0 (v := .bool (d.k == 2)) h13 rfl fun a17 h17 => ?_; clear h13
  refine pk0 (v := .bool (d.k == 2)) h17 rfl fun a18 h18 => ?_; clear h17
  refine pl_nil ?_
  refine co_then ?_
  cases hc19 : (d.k == 2)
  ·
   rw [hc19] at h18
   have hp20 : ¬ (d.k = 2) := by first | simpa using hc19 | simpa [and_assoc] using hc19
   clear hc19
   refine co_false h18 rfl ?_
   refine co_seq ?_
   refine co_seq ?_
   refine co_reg ?_
   refine pk0 (v := .bool (d.k == 3)) h18 rfl fun a21 h21 => ?_; clear h18
   refine pk0 (v := .bool (d.k == 3)) h21 rfl fun a22 h22 => ?_; clear h21
   refine pl_nil ?_
   refine co_then ?_
   cases hc23 : (d.k == 3)
   ·
    rw [hc23] at h22
    have hp24 : ¬ (d.k = 3) := by first | simpa using hc23 | simpa [and_assoc] using hc23
    clear hc23
    refine co_false h22 rfl ?_
    refine co_seq ?_
    refine co_reg ?_
    refine pk0 (v := .bool (d.k == 4)) h22 rfl fun a25 h25 => ?_; clear h22
    refine pk0 (v := .bool (d.k == 4)) h25 rfl fun a26 h26 => ?_; clear h25
    refine pl_nil ?_
    refine co_then ?_
    cases hc27 : (d.k == 4)
    ·
     rw [hc27] at h26
     have hp28 : ¬ (d.k = 4) := by first | simpa using hc27 | simpa [and_assoc] using hc27
     clear hc27
     refine co_false h26 rfl ?_
     refine co_seq ?_
     refine co_reg ?_
     refine pk0 (v := .bool (d.k == 5)) h26 rfl fun a29 h29 => ?_; clear h26
     refine pk0 (v := .bool (d.k == 5)) h29 rfl fun a30 h30 => ?_; clear h29
     refine pl_nil ?_
     refine co_then ?_
     cases hc31 : (d.k == 5)
     ·
      rw [hc31] at h30
      have hp32 : ¬ (d.k = 5) := by first | simpa using hc31 | simpa [and_assoc] using hc31
      clear hc31
      refine co_false h30 rfl ?_
      refine co_reg ?_
      refine pk0 (v := .bool (d.k == 7)) h30 rfl fun a33 h33 => ?_; clear h30
      refine pk0 (v := .bool (d.k == 7)) h33 rfl fun a34 h34 => ?_; clear h33
      refine pl_nil ?_
      refine co_then ?_
      cases hc35 : (d.k == 7)
      ·
       rw [hc35] at h34
       have hp36 : ¬ (d.k = 7) := by first | simpa using hc35 | simpa [and_assoc] using hc35
       clear hc35
       refine co_false h34 rfl ?_
       refine co_seq ?_
       refine co_reg ?_
       refine pk0 (v := .bool (d.k == 6)) h34 rfl fun a37 h37 => ?_; clear h34
       refine pk0 (v := .bool (d.k == 6)) h37 rfl fun a38 h38 => ?_; clear h37
       refine pl_nil ?_
       refine co_then ?_
       cases hc39 : (d.k == 6)
       ·
        rw [hc39] at h38
        have hp40 : ¬ (d.k = 6) := by first | simpa using hc39 | simpa [and_assoc] using hc39
        clear hc39
        refine co_false h38 rfl ?_
        refine co_seq ?_
        refine co_reg ?_
        refine pk0 (v := .bool (d.k == 8)) h38 rfl fun a41 h41 => ?_; clear h38
        refine pk0 (v := .bool (d.k == 8)) h41 rfl fun a42 h42 => ?_; clear h41
        refine pl_nil ?_
        refine co_then ?_
        cases hc43 : (d.k == 8)
        ·
         rw [hc43] at h42
         have hp44 : ¬ (d.k = 8) := by first | simpa using hc43 | simpa [and_assoc] using hc43
         clear hc43
         refine co_false h42 rfl ?_
         refine wp_skip ?_
         refine co_blockN ?_
         refine co_then ?_
         refine co_seq ?_
         refine co_reg ?_
         refine pk0 (v := .int .i64 11) h42 rfl fun a45 h45 => ?_; clear h42
         refine pl_nil ?_
         refine co_then ?_
         refine wp_ret ?_
         refine co_ret1 h45 rfl rfl ?_
         exact ⟨ret_int (by rw [chkN_0 (by omega)]), hB15⟩
        ·
         rw [hc43] at h42
         have hp46 : d.k = 8 := by first | simpa using hc43 | simpa [and_assoc] using hc43
         clear hc43
         refine co_true h42 rfl ?_
         refine co_seq ?_
         refine co_reg ?_
         refine pk0 (v := pt N3 14) h42 rfl fun a47 h47 => ?_; clear h42
         refine pk (v := .agg #[.int .i64 d.sc, .int .i64 d.sr, .int .i64 d.se, .int .i64 d.sp]) h47 rfl (rn_loadN rfl rfl Tryz.underlying56 rfl (by kernel_rfl) (blk_part hk5 14 (by rfl))) fun a48 h48 => ?_; clear h47
         refine pw h48 rfl (op_call (args := #[.agg #[.int .i64 d.sc, .int .i64 d.sr, .int .i64 d.se, .int .i64 d.sp]]) (R := fun res xw => res = .int .i64 (chkSd d.sc d.sr d.se d.sp) ∧ Below w2.heap.size w2 xw) rfl rfl rfl (by kernel_rfl) (by kernel_rfl) (Tryz.call78 _ _) (nSaid_any d.sc d.sr d.se d.sp w2 ) (by rintro e x ⟨rfl, hb51⟩; exact ⟨_, rfl, ⟨rfl, hb51⟩⟩)) ?_; clear h48
         rintro _ w50 a49 ⟨rfl, hb51⟩ h49
         have hz52 := hb51.size
         refine pk0 (v := .int .i64 (chkSd d.sc d.sr d.se d.sp)) h49 rfl fun a53 h53 => ?_; clear h49
         refine pl_nil ?_
         refine co_then ?_
         refine wp_ret ?_
         refine co_blockR ?_
         refine co_thenR ?_
         refine co_ret1 h53 rfl rfl ?_
         have hB54 := hb_call hB15 hb51
         exact ⟨ret_int (by rw [chkN_8 (by omega)]), hB54⟩
       ·
        rw [hc39] at h38
        have hp55 : d.k = 6 := by first | simpa using hc39 | simpa [and_assoc] using hc39
        clear hc39
        refine co_true h38 rfl ?_
        refine co_seq ?_
        refine co_seq ?_
        refine co_reg ?_
        refine pk0 (v := pt N3 11) h38 rfl fun a56 h56 => ?_; clear h38
        refine pk0 (v := pt N3 11) h56 rfl fun a57 h57 => ?_; clear h56
        refine pk (v := .int .i64 d.pid) h57 rfl (rn_load1 rfl rfl Tryz.isAgg3 (hk5.cell rfl)) fun a58 h58 => ?_; clear h57
        refine pw h58 rfl (op_call (args := #[.int .i64 d.pid, .int .i64 1073741824]) (R := fun res xw => res = .bool (decide (d.pid < 0 ∨ d.pid > 1073741824)) ∧ Below w2.heap.size w2 xw) rfl rfl rfl (by kernel_rfl) (by kernel_rfl) (Tryz.call76 _ _) (nOutside_any d.pid 1073741824 w2 ) (by rintro e x ⟨rfl, hb61⟩; exact ⟨_, rfl, ⟨rfl, hb61⟩⟩)) ?_; clear h58
        rintro _ w60 a59 ⟨rfl, hb61⟩ h59
        have hz62 := hb61.size
        refine pk0 (v := .bool (decide (d.pid < 0 ∨ d.pid > 1073741824))) h59 rfl fun a63 h63 => ?_; clear h59
        have hB65 := hb_call hB15 hb61
        cases hc64 : (decide (d.pid < 0 ∨ d.pid > 1073741824))
        ·
         rw [hc64] at h63
         have hp66 : ¬ (d.pid < 0 ∨ d.pid > 1073741824) := of_decide_eq_false hc64
         clear hc64
         refine pk0 (v := pt N3 11) h63 rfl fun a67 h67 => ?_; clear h63
         refine pk0 (v := pt N3 13) h67 rfl fun a68 h68 => ?_; clear h67
         have hk69 := hk5.below hb61
         refine pk (v := .int .i64 d.plf) h68 rfl (rn_load1 rfl rfl Tryz.isAgg3 (hk69.cell rfl)) fun a70 h70 => ?_; clear h68
         refine pw h70 rfl (op_call (args := #[.int .i64 d.plf, .int .i64 1073741824]) (R := fun res xw => res = .bool (decide (d.plf < 0 ∨ d.plf > 1073741824)) ∧ Below w60.heap.size w60 xw) rfl rfl rfl (by kernel_rfl) (by kernel_rfl) (Tryz.call76 _ _) (nOutside_any d.plf 1073741824 w60 ) (by rintro e x ⟨rfl, hb73⟩; exact ⟨_, rfl, ⟨rfl, hb73⟩⟩)) ?_; clear h70
         rintro _ w72 a71 ⟨rfl, hb73⟩ h71
         have hz74 := hb73.size
         refine pk0 (v := .bool (decide (d.plf < 0 ∨ d.plf > 1073741824))) h71 rfl fun a75 h75 => ?_; clear h71
         refine pl_nil ?_
         refine co_then ?_
         have hB77 := hb_call hB65 hb73
         cases hc76 : (decide (d.plf < 0 ∨ d.plf > 1073741824))
         ·
          rw [hc76] at h75
          have hp78 : ¬ (d.plf < 0 ∨ d.plf > 1073741824) := of_decide_eq_false hc76
          clear hc76
          refine co_false h75 rfl ?_
          refine wp_skip ?_
          refine co_then ?_
          refine co_seq ?_
          refine co_reg ?_
          refine pk0 (v := .int .i64 0) h75 rfl fun a79 h79 => ?_; clear h75
          refine pl_nil ?_
          refine co_then ?_
          refine wp_ret ?_
          refine co_blockR ?_
          refine co_thenR ?_
          refine co_ret1 h79 rfl rfl ?_
          exact ⟨ret_int (by rw [chkN_6 (by omega)]; unfold may; first | rw [if_pos (by omega)] | rw [if_neg (by omega)]), hB77⟩
         ·
          rw [hc76] at h75
          have hp80 : d.plf < 0 ∨ d.plf > 1073741824 := of_decide_eq_true hc76
          clear hc76
          refine co_true h75 rfl ?_
          refine co_seq ?_
          refine co_reg ?_
          refine pk0 (v := .int .i64 5) h75 rfl fun a81 h81 => ?_; clear h75
          refine pl_nil ?_
          refine co_then ?_
          refine wp_ret ?_
          refine co_thenR ?_
          refine co_blockR ?_
          refine co_thenR ?_
          refine co_ret1 h81 rfl rfl ?_
          exact ⟨ret_int (by rw [chkN_6 (by omega)]; unfold may; first | rw [if_pos (by omega)] | rw [if_neg (by omega)]), hB77⟩
        ·
         rw [hc64] at h63
         have hp82 : d.pid < 0 ∨ d.pid > 1073741824 := of_decide_eq_true hc64
         clear hc64
         refine psk h63 rfl fun a83 h83 => ?_; clear h63
         refine psk h83 rfl fun a84 h84 => ?_; clear h83
         refine psk h84 rfl fun a85 h85 => ?_; clear h84
         refine psk h85 rfl fun a86 h86 => ?_; clear h85
         refine pk0 (v := .bool true) h86 rfl fun a87 h87 => ?_; clear h86
         refine pl_nil ?_
         refine co_then ?_
         refine co_true h87 rfl ?_
         refine co_seq ?_
         refine co_reg ?_
         refine pk0 (v := .int .i64 5) h87 rfl fun a88 h88 => ?_; clear h87
         refine pl_nil ?_
         refine co_then ?_
         refine wp_ret ?_
         refine co_thenR ?_
         refine co_blockR ?_
         refine co_thenR ?_
         refine co_ret1 h88 rfl rfl ?_
         exact ⟨ret_int (by rw [chkN_6 (by omega)]; unfold may; first | rw [if_pos (by omega)] | rw [if_neg (by omega)]), hB65⟩
      ·
       rw [hc35] at h34
       have hp89 : d.k = 7 := by first | simpa using hc35 | simpa [and_assoc] using hc35
       clear hc35
       refine co_true h34 rfl ?_
       refine co_seq ?_
       refine co_seq ?_
       refine co_reg ?_
       refine pk0 (v := pt N3 1) h34 rfl fun a90 h90 => ?_; clear h34
       refine pk (v := .int .i64 d.n) h90 rfl (rn_load1 rfl rfl Tryz.isAgg3 (hk5.cell rfl)) fun a91 h91 => ?_; clear h90
       refine pw h91 rfl (op_call (args := #[.int .i64 d.n, .int .i64 1073741824]) (R := fun res xw => res = .bool (decide (d.n < 0 ∨ d.n > 1073741824)) ∧ Below w2.heap.size w2 xw) rfl rfl rfl (by kernel_rfl) (by kernel_rfl) (Tryz.call76 _ _) (nOutside_any d.n 1073741824 w2 ) (by rintro e x ⟨rfl, hb94⟩; exact ⟨_, rfl, ⟨rfl, hb94⟩⟩)) ?_; clear h91
       rintro _ w93 a92 ⟨rfl, hb94⟩ h92
       have hz95 := hb94.size
       refine pl_nil ?_
       refine co_then ?_
       have hB97 := hb_call hB15 hb94
       cases hc96 : (decide (d.n < 0 ∨ d.n > 1073741824))
       ·
        rw [hc96] at h92
        have hp98 : ¬ (d.n < 0 ∨ d.n > 1073741824) := of_decide_eq_false hc96
        clear hc96
        refine co_false h92 rfl ?_
        refine wp_skip ?_
        refine co_then ?_
        refine co_seq ?_
        refine co_reg ?_
        refine pk0 (v := .int .i64 0) h92 rfl fun a99 h99 => ?_; clear h92
        refine pl_nil ?_
        refine co_then ?_
        refine wp_ret ?_
        refine co_blockR ?_
        refine co_thenR ?_
        refine co_ret1 h99 rfl rfl ?_
        exact ⟨ret_int (by rw [chkN_3 (by omega)]; unfold may; first | rw [if_pos (by omega)] | rw [if_neg (by omega)]), hB97⟩
       ·
        rw [hc96] at h92
        have hp100 : d.n < 0 ∨ d.n > 1073741824 := of_decide_eq_true hc96
        clear hc96
        refine co_true h92 rfl ?_
        refine co_seq ?_
        refine co_reg ?_
        refine pk0 (v := .int .i64 5) h92 rfl fun a101 h101 => ?_; clear h92
        refine pl_nil ?_
        refine co_then ?_
        refine wp_ret ?_
        refine co_thenR ?_
        refine co_blockR ?_
        refine co_thenR ?_
        refine co_ret1 h101 rfl rfl ?_
        exact ⟨ret_int (by rw [chkN_3 (by omega)]; unfold may; first | rw [if_pos (by omega)] | rw [if_neg (by omega)]), hB97⟩
     ·
      rw [hc31] at h30
      have hp102 : d.k = 5 := by first | simpa using hc31 | simpa [and_assoc] using hc31
      clear hc31
      refine co_true h30 rfl ?_
      refine wp_skip ?_
      refine co_then ?_
      refine co_true h30 rfl ?_
      refine co_seq ?_
      refine co_seq ?_
      refine co_reg ?_
      refine pk0 (v := pt N3 1) h30 rfl fun a103 h103 => ?_; clear h30
      refine pk (v := .int .i64 d.n) h103 rfl (rn_load1 rfl rfl Tryz.isAgg3 (hk5.cell rfl)) fun a104 h104 => ?_; clear h103
      refine pw h104 rfl (op_call (args := #[.int .i64 d.n, .int .i64 1073741824]) (R := fun res xw => res = .bool (decide (d.n < 0 ∨ d.n > 1073741824)) ∧ Below w2.heap.size w2 xw) rfl rfl rfl (by kernel_rfl) (by kernel_rfl) (Tryz.call76 _ _) (nOutside_any d.n 1073741824 w2 ) (by rintro e x ⟨rfl, hb107⟩; exact ⟨_, rfl, ⟨rfl, hb107⟩⟩)) ?_; clear h104
      rintro _ w106 a105 ⟨rfl, hb107⟩ h105
      have hz108 := hb107.size
      refine pl_nil ?_
      refine co_then ?_
      have hB110 := hb_call hB15 hb107
      cases hc109 : (decide (d.n < 0 ∨ d.n > 1073741824))
      ·
       rw [hc109] at h105
       have hp111 : ¬ (d.n < 0 ∨ d.n > 1073741824) := of_decide_eq_false hc109
       clear hc109
       refine co_false h105 rfl ?_
       refine wp_skip ?_
       refine co_then ?_
       refine co_seq ?_
       refine co_reg ?_
       refine pk0 (v := .int .i64 0) h105 rfl fun a112 h112 => ?_; clear h105
       refine pl_nil ?_
       refine co_then ?_
       refine wp_ret ?_
       refine co_blockR ?_
       refine co_thenR ?_
       refine co_ret1 h112 rfl rfl ?_
       exact ⟨ret_int (by rw [chkN_3 (by omega)]; unfold may; first | rw [if_pos (by omega)] | rw [if_neg (by omega)]), hB110⟩
      ·
       rw [hc109] at h105
       have hp113 : d.n < 0 ∨ d.n > 1073741824 := of_decide_eq_true hc109
       clear hc109
       refine co_true h105 rfl ?_
       refine co_seq ?_
       refine co_reg ?_
       refine pk0 (v := .int .i64 5) h105 rfl fun a114 h114 => ?_; clear h105
       refine pl_nil ?_
       refine co_then ?_
       refine wp_ret ?_
       refine co_thenR ?_
       refine co_blockR ?_
       refine co_thenR ?_
       refine co_ret1 h114 rfl rfl ?_
       exact ⟨ret_int (by rw [chkN_3 (by omega)]; unfold may; first | rw [if_pos (by omega)] | rw [if_neg (by omega)]), hB110⟩
    ·
     rw [hc27] at h26
     have hp115 : d.k = 4 := by first | simpa using hc27 | simpa [and_assoc] using hc27
     clear hc27
     refine co_true h26 rfl ?_
     refine wp_skip ?_
     refine co_then ?_
     refine co_true h26 rfl ?_
     refine co_seq ?_
     refine co_seq ?_
     refine co_reg ?_
     refine pk0 (v := pt N3 1) h26 rfl fun a116 h116 => ?_; clear h26
     refine pk (v := .int .i64 d.n) h116 rfl (rn_load1 rfl rfl Tryz.isAgg3 (hk5.cell rfl)) fun a117 h117 => ?_; clear h116
     refine pw h117 rfl (op_call (args := #[.int .i64 d.n, .int .i64 1073741824]) (R := fun res xw => res = .bool (decide (d.n < 0 ∨ d.n > 1073741824)) ∧ Below w2.heap.size w2 xw) rfl rfl rfl (by kernel_rfl) (by kernel_rfl) (Tryz.call76 _ _) (nOutside_any d.n 1073741824 w2 ) (by rintro e x ⟨rfl, hb120⟩; exact ⟨_, rfl, ⟨rfl, hb120⟩⟩)) ?_; clear h117
     rintro _ w119 a118 ⟨rfl, hb120⟩ h118
     have hz121 := hb120.size
     refine pl_nil ?_
     refine co_then ?_
     have hB123 := hb_call hB15 hb120
     cases hc122 : (decide (d.n < 0 ∨ d.n > 1073741824))
     ·
      rw [hc122] at h118
      have hp124 : ¬ (d.n < 0 ∨ d.n > 1073741824) := of_decide_eq_false hc122
      clear hc122
      refine co_false h118 rfl ?_
      refine wp_skip ?_
      refine co_then ?_
      refine co_seq ?_
      refine co_reg ?_
      refine pk0 (v := .int .i64 0) h118 rfl fun a125 h125 => ?_; clear h118
      refine pl_nil ?_
      refine co_then ?_
      refine wp_ret ?_
      refine co_blockR ?_
      refine co_thenR ?_
      refine co_ret1 h125 rfl rfl ?_
      exact ⟨ret_int (by rw [chkN_3 (by omega)]; unfold may; first | rw [if_pos (by omega)] | rw [if_neg (by omega)]), hB123⟩
     ·
      rw [hc122] at h118
      have hp126 : d.n < 0 ∨ d.n > 1073741824 := of_decide_eq_true hc122
      clear hc122
      refine co_true h118 rfl ?_
      refine co_seq ?_
      refine co_reg ?_
      refine pk0 (v := .int .i64 5) h118 rfl fun a127 h127 => ?_; clear h118
      refine pl_nil ?_
      refine co_then ?_
      refine wp_ret ?_
      refine co_thenR ?_
      refine co_blockR ?_
      refine co_thenR ?_
      refine co_ret1 h127 rfl rfl ?_
      exact ⟨ret_int (by rw [chkN_3 (by omega)]; unfold may; first | rw [if_pos (by omega)] | rw [if_neg (by omega)]), hB123⟩
   ·
    rw [hc23] at h22
    have hp128 : d.k = 3 := by first | simpa using hc23 | simpa [and_assoc] using hc23
    clear hc23
    refine co_true h22 rfl ?_
    refine wp_skip ?_
    refine co_then ?_
    refine co_true h22 rfl ?_
    refine co_seq ?_
    refine co_seq ?_
    refine co_reg ?_
    refine pk0 (v := pt N3 1) h22 rfl fun a129 h129 => ?_; clear h22
    refine pk (v := .int .i64 d.n) h129 rfl (rn_load1 rfl rfl Tryz.isAgg3 (hk5.cell rfl)) fun a130 h130 => ?_; clear h129
    refine pw h130 rfl (op_call (args := #[.int .i64 d.n, .int .i64 1073741824]) (R := fun res xw => res = .bool (decide (d.n < 0 ∨ d.n > 1073741824)) ∧ Below w2.heap.size w2 xw) rfl rfl rfl (by kernel_rfl) (by kernel_rfl) (Tryz.call76 _ _) (nOutside_any d.n 1073741824 w2 ) (by rintro e x ⟨rfl, hb133⟩; exact ⟨_, rfl, ⟨rfl, hb133⟩⟩)) ?_; clear h130
    rintro _ w132 a131 ⟨rfl, hb133⟩ h131
    have hz134 := hb133.size
    refine pl_nil ?_
    refine co_then ?_
    have hB136 := hb_call hB15 hb133
    cases hc135 : (decide (d.n < 0 ∨ d.n > 1073741824))
    ·
     rw [hc135] at h131
     have hp137 : ¬ (d.n < 0 ∨ d.n > 1073741824) := of_decide_eq_false hc135
     clear hc135
     refine co_false h131 rfl ?_
     refine wp_skip ?_
     refine co_then ?_
     refine co_seq ?_
     refine co_reg ?_
     refine pk0 (v := .int .i64 0) h131 rfl fun a138 h138 => ?_; clear h131
     refine pl_nil ?_
     refine co_then ?_
     refine wp_ret ?_
     refine co_blockR ?_
     refine co_thenR ?_
     refine co_ret1 h138 rfl rfl ?_
     exact ⟨ret_int (by rw [chkN_3 (by omega)]; unfold may; first | rw [if_pos (by omega)] | rw [if_neg (by omega)]), hB136⟩
    ·
     rw [hc135] at h131
     have hp139 : d.n < 0 ∨ d.n > 1073741824 := of_decide_eq_true hc135
     clear hc135
     refine co_true h131 rfl ?_
     refine co_seq ?_
     refine co_reg ?_
     refine pk0 (v := .int .i64 5) h131 rfl fun a140 h140 => ?_; clear h131
     refine pl_nil ?_
     refine co_then ?_
     refine wp_ret ?_
     refine co_thenR ?_
     refine co_blockR ?_
     refine co_thenR ?_
     refine co_ret1 h140 rfl rfl ?_
     exact ⟨ret_int (by rw [chkN_3 (by omega)]; unfold may; first | rw [if_pos (by omega)] | rw [if_neg (by omega)]), hB136⟩
  ·
   rw [hc19] at h18
   have hp141 : d.k = 2 := by first | simpa using hc19 | simpa [and_assoc] using hc19
   clear hc19
   refine co_true h18 rfl ?_
   refine co_seq ?_
   refine co_seq ?_
   refine co_reg ?_
   refine pk0 (v := pt N3 1) h18 rfl fun a142 h142 => ?_; clear h18
   refine pk (v := .int .i64 d.n) h142 rfl (rn_load1 rfl rfl Tryz.isAgg3 (hk5.cell rfl)) fun a143 h143 => ?_; clear h142
   refine pw h143 rfl (op_call (args := #[.int .i64 d.n, .int .i64 1073741824]) (R := fun res xw => res = .bool (decide (d.n < 0 ∨ d.n > 1073741824)) ∧ Below w2.heap.size w2 xw) rfl rfl rfl (by kernel_rfl) (by kernel_rfl) (Tryz.call76 _ _) (nOutside_any d.n 1073741824 w2 ) (by rintro e x ⟨rfl, hb146⟩; exact ⟨_, rfl, ⟨rfl, hb146⟩⟩)) ?_; clear h143
   rintro _ w145 a144 ⟨rfl, hb146⟩ h144
   have hz147 := hb146.size
   refine pl_nil ?_
   refine co_then ?_
   have hB149 := hb_call hB15 hb146
   cases hc148 : (decide (d.n < 0 ∨ d.n > 1073741824))
   ·
    rw [hc148] at h144
    have hp150 : ¬ (d.n < 0 ∨ d.n > 1073741824) := of_decide_eq_false hc148
    clear hc148
    refine co_false h144 rfl ?_
    refine wp_skip ?_
    refine co_then ?_
    refine co_seq ?_
    refine co_reg ?_
    refine pk0 (v := pt N3 7) h144 rfl fun a151 h151 => ?_; clear h144
    have hk152 := hk5.below hb146
    refine pk (v := .agg #[.int .i64 d.ec, .int .i64 d.er, ev, .int .u64 d.ets]) h151 rfl (rn_loadN rfl rfl Tryz.underlying52 rfl (by kernel_rfl) (blk_part hk152 7 (by rfl))) fun a153 h153 => ?_; clear h151
    refine pw h153 rfl (op_call (args := #[.agg #[.int .i64 d.ec, .int .i64 d.er, ev, .int .u64 d.ets]]) (R := fun res xw => res = .int .i64 (chkB d.ec d.er d.el) ∧ Below w145.heap.size w145 xw) rfl rfl rfl (by kernel_rfl) (by kernel_rfl) (Tryz.call77 _ _) (itemCheck_any d.ec d.er ev d.el d.ets w145 (he.below hB149)) (by rintro e x ⟨rfl, hb156⟩; exact ⟨_, rfl, ⟨rfl, hb156⟩⟩)) ?_; clear h153
    rintro _ w155 a154 ⟨rfl, hb156⟩ h154
    have hz157 := hb156.size
    refine pk0 (v := .int .i64 (chkB d.ec d.er d.el)) h154 rfl fun a158 h158 => ?_; clear h154
    refine pl_nil ?_
    refine co_then ?_
    refine wp_ret ?_
    refine co_blockR ?_
    refine co_thenR ?_
    refine co_ret1 h158 rfl rfl ?_
    have hB159 := hb_call hB149 hb156
    exact ⟨ret_int (by rw [chkN_2 (by omega)]; unfold may; first | rw [if_pos (by omega)] | rw [if_neg (by omega)]), hB159⟩
   ·
    rw [hc148] at h144
    have hp160 : d.n < 0 ∨ d.n > 1073741824 := of_decide_eq_true hc148
    clear hc148
    refine co_true h144 rfl ?_
    refine co_seq ?_
    refine co_reg ?_
    refine pk0 (v := .int .i64 5) h144 rfl fun a161 h161 => ?_; clear h144
    refine pl_nil ?_
    refine co_then ?_
    refine wp_ret ?_
    refine co_thenR ?_
    refine co_blockR ?_
    refine co_thenR ?_
    refine co_ret1 h161 rfl rfl ?_
    exact ⟨ret_int (by rw [chkN_2 (by omega)]; unfold may; first | rw [if_pos (by omega)] | rw [if_neg (by omega)]), hB149⟩
 ·
  rw [hc14] at h13
  have hp162 : d.k = 1 := by first | simpa using hc14 | simpa [and_assoc] using hc14
  clear hc14
  refine co_true h13 rfl ?_
  refine co_seq ?_
  refine co_seq ?_
  refine co_reg ?_
  refine pk0 (v := pt N3 3) h13 rfl fun a163 h163 => ?_; clear h13
  refine pk (v := .agg #[.int .i64 d.ep, mv, .int .u64 d.fl]) h163 rfl (rn_loadN rfl rfl Tryz.underlying26 rfl (by kernel_rfl) (blk_part hk5 3 (by rfl))) fun a164 h164 => ?_; clear h163
  refine pw h164 rfl (op_call (args := #[.agg #[.int .i64 d.ep, mv, .int .u64 d.fl]]) (R := fun res xw => res = .int .i64 (chkC d.ep d.ms) ∧ Below w2.heap.size w2 xw) rfl rfl rfl (by kernel_rfl) (by kernel_rfl) (Tryz.call74 _ _) (wcheck_any d.ep mv d.ms d.fl w2 (hm.below hB15) hR.mem (by omega) (by omega)) (by rintro e x ⟨rfl, hb167⟩; exact ⟨_, rfl, ⟨rfl, hb167⟩⟩)) ?_; clear h164
  rintro _ w166 a165 ⟨rfl, hb167⟩ h165
  have hz168 := hb167.size
  refine pk0 (v := .int .i64 (chkC d.ep d.ms)) h165 rfl fun a169 h169 => ?_; clear h165
  refine pl_nil ?_
  refine co_then ?_
  refine co_seq ?_
  refine co_reg ?_
  refine pk0 (v := .int .i64 (chkC d.ep d.ms)) h169 rfl fun a170 h170 => ?_; clear h169
  refine pk0 (v := .bool (chkC d.ep d.ms != 0)) h170 rfl fun a171 h171 => ?_; clear h170
  refine pl_nil ?_
  refine co_then ?_
  have hB173 := hb_call hB15 hb167
  cases hc172 : (chkC d.ep d.ms != 0)
  ·
   rw [hc172] at h171
   have hp174 : ¬ (chkC d.ep d.ms ≠ 0) := by first | simpa using hc172 | simpa [and_assoc] using hc172
   clear hc172
   refine co_false h171 rfl ?_
   refine wp_skip ?_
   refine co_then ?_
   refine co_seq ?_
   refine co_reg ?_
   refine pk0 (v := pt N3 6) h171 rfl fun a175 h175 => ?_; clear h171
   have hk176 := hk5.below hb167
   refine pk (v := lv) h175 rfl (rn_load1 rfl rfl Tryz.isAgg50 (hk176.cell rfl)) fun a177 h177 => ?_; clear h175
   refine pw h177 rfl (op_call (args := #[lv]) (R := fun res xw => res = .int .i64 (chkLg d.lg) ∧ Below w166.heap.size w166 xw) rfl rfl rfl (by kernel_rfl) (by kernel_rfl) (Tryz.call75 _ _) (nLegit_any lv d.lg w166 (hg.below hB173)) (by rintro e x ⟨rfl, hb180⟩; exact ⟨_, rfl, ⟨rfl, hb180⟩⟩)) ?_; clear h177
   rintro _ w179 a178 ⟨rfl, hb180⟩ h178
   have hz181 := hb180.size
   refine pk0 (v := .int .i64 (chkLg d.lg)) h178 rfl fun a182 h182 => ?_; clear h178
   refine pl_nil ?_
   refine co_then ?_
   refine wp_ret ?_
   refine co_blockR ?_
   refine co_thenR ?_
   refine co_ret1 h182 rfl rfl ?_
   have hB183 := hb_call hB173 hb180
   exact ⟨ret_int (by rw [chkN_1 (by omega)]; first | rw [if_pos (by omega)] | rw [if_neg (by omega)]), hB183⟩
  ·
   rw [hc172] at h171
   have hp184 : chkC d.ep d.ms ≠ 0 := by first | simpa using hc172 | simpa [and_assoc] using hc172
   clear hc172
   refine co_true h171 rfl ?_
   refine co_seq ?_
   refine co_reg ?_
   refine pk0 (v := .int .i64 (chkC d.ep d.ms)) h171 rfl fun a185 h185 => ?_; clear h171
   refine pk0 (v := .int .i64 (chkC d.ep d.ms)) h185 rfl fun a186 h186 => ?_; clear h185
   refine pl_nil ?_
   refine co_then ?_
   refine wp_ret ?_
   refine co_thenR ?_
   refine co_blockR ?_
   refine co_thenR ?_
   refine co_ret1 h186 rfl rfl ?_
   exact ⟨ret_int (by rw [chkN_1 (by omega)]; first | rw [if_pos (by omega)] | rw [if_neg (by omega)]), hB173⟩
set_option maxRecDepth 100000 in
theorem rnCheck_any (d : NoteD) (mv : Value) (lv : Value) (ev : Value) (w : World) (hm : SliceOf memE 2 w mv d.ms) (hg : SliceOf (intE .i64) 1 w lv d.lg) (he : SliceOf opE 3 w ev d.el) (hR : NoteR d) :
    Calls Tryz.prog 23 #[.agg #[.int .i64 d.k, .int .i64 d.n, .int .u64 d.t, .int .i64 d.ep, mv, .int .u64 d.fl, lv, .int .i64 d.ec, .int .i64 d.er, ev, .int .u64 d.ets, .int .i64 d.pid, .int .u64 d.pat, .int .i64 d.plf, .int .i64 d.sc, .int .i64 d.sr, .int .i64 d.se, .int .i64 d.sp]] w fun e w' => e = .returned (.int .i64 (chkN d)) ∧ Below w.heap.size w w' := by
 have hrng := hR.rng
 have hB0 := Below.refl w.heap.size w
 have hl_hm := sl_len hm
 have hl_hg := sl_len hg
 have hl_he := sl_len he
 refine co_enter (n := 54) Tryz.func23 rfl rfl rfl [(0, .agg #[.int .i64 d.k, .int .i64 d.n, .int .u64 d.t, .int .i64 d.ep, mv, .int .u64 d.fl, lv, .int .i64 d.ec, .int .i64 d.er, ev, .int .u64 d.ets, .int .i64 d.pid, .int .u64 d.pat, .int .i64 d.plf, .int .i64 d.sc, .int .i64 d.sr, .int .i64 d.se, .int .i64 d.sp])] rfl (fun a h0 => ?_)
 refine co_seq ?_
 refine co_reg ?_
 refine pw h0 rfl (op_new (v := fun N => pt N 0) (T := 58) (cs := #[.int .i64 d.k, .int .i64 d.n, .int .u64 d.t, .int .i64 d.ep, mv, .int .u64 d.fl, lv, .int .i64 d.ec, .int .i64 d.er, ev, .int .u64 d.ets, .int .i64 d.pid, .int .u64 d.pat, .int .i64 d.plf, .int .i64 d.sc, .int .i64 d.sr, .int .i64 d.se, .int .i64 d.sp]) (by kernel_rfl) (by kernel_rfl) (by kernel_rfl)) ?_; clear h0
 rintro _ w2 a1 ⟨N3, rfl, hN6, hz7, hk5, hg4⟩ h1
 have hz8 := hg4.size
 try dsimp only at h1
 refine pk0 (v := .int .i64 0) h1 rfl fun a9 h9 => ?_; clear h1
 refine pl_nil ?_
 refine co_then ?_
 refine co_seq ?_
 refine co_seq ?_
 refine co_reg ?_
 refine pk0 (v := pt N3 0) h9 rfl fun a10 h10 => ?_; clear h9
 refine pk (v := .int .i64 d.k) h10 rfl (rn_load1 rfl rfl Tryz.isAgg3 (hk5.cell rfl)) fun a11 h11 => ?_; clear h10
 refine pl_nil ?_
 refine co_then ?_
 refine wp_block ?_
 refine co_seq ?_
 refine co_reg ?_
 refine pk0 (v := .bool (d.k == 1)) h11 rfl fun a12 h12 => ?_; clear h11
 refine pk0 (v := .bool (d.k == 1)) h12 rfl fun a13 h13 => ?_; clear h12
 refine pl_nil ?_
 refine co_then ?_
 have hB15 := hb_new hB0 hg4
 cases hc14 : (d.k == 1)
 ·
  rw [hc14] at h13
  have hp16 : ¬ (d.k = 1) := by first | simpa using hc14 | simpa [and_assoc] using hc14
  clear hc14
  refine co_false h13 rfl ?_
  refine co_seq ?_
  refine co_reg ?_
  refine pk0 (v := .bool (d.k == 2)) h13 rfl fun a17 h17 => ?_; clear h13
  refine pk0 (v := .bool (d.k == 2)) h17 rfl fun a18 h18 => ?_; clear h17
  refine pl_nil ?_
  refine co_then ?_
  cases hc19 : (d.k == 2)
  ·
   rw [hc19] at h18
   have hp20 : ¬ (d.k = 2) := by first | simpa using hc19 | simpa [and_assoc] using hc19
   clear hc19
   refine co_false h18 rfl ?_
   refine co_seq ?_
   refine co_seq ?_
   refine co_reg ?_
   refine pk0 (v := .bool (d.k == 3)) h18 rfl fun a21 h21 => ?_; clear h18
   refine pk0 (v := .bool (d.k == 3)) h21 rfl fun a22 h22 => ?_; clear h21
   refine pl_nil ?_
   refine co_then ?_
   cases hc23 : (d.k == 3)
   ·
    rw [hc23] at h22
    have hp24 : ¬ (d.k = 3) := by first | simpa using hc23 | simpa [and_assoc] using hc23
    clear hc23
    refine co_false h22 rfl ?_
    refine co_seq ?_
    refine co_reg ?_
    refine pk0 (v := .bool (d.k == 4)) h22 rfl fun a25 h25 => ?_; clear h22
    refine pk0 (v := .bool (d.k == 4)) h25 rfl fun a26 h26 => ?_; clear h25
    refine pl_nil ?_
    refine co_then ?_
    cases hc27 : (d.k == 4)
    ·
     rw [hc27] at h26
     have hp28 : ¬ (d.k = 4) := by first | simpa using hc27 | simpa [and_assoc] using hc27
     clear hc27
     refine co_false h26 rfl ?_
     refine co_seq ?_
     refine co_reg ?_
     refine pk0 (v := .bool (d.k == 5)) h26 rfl fun a29 h29 => ?_; clear h26
     refine pk0 (v := .bool (d.k == 5)) h29 rfl fun a30 h30 => ?_; clear h29
     refine pl_nil ?_
     refine co_then ?_
     cases hc31 : (d.k == 5)
     ·
      rw [hc31] at h30
      have hp32 : ¬ (d.k = 5) := by first | simpa using hc31 | simpa [and_assoc] using hc31
      clear hc31
      refine co_false h30 rfl ?_
      refine co_reg ?_
      refine pk0 (v := .bool (d.k == 7)) h30 rfl fun a33 h33 => ?_; clear h30
      refine pk0 (v := .bool (d.k == 7)) h33 rfl fun a34 h34 => ?_; clear h33
      refine pl_nil ?_
      refine co_then ?_
      cases hc35 : (d.k == 7)
      ·
       rw [hc35] at h34
       have hp36 : ¬ (d.k = 7) := by first | simpa using hc35 | simpa [and_assoc] using hc35
       clear hc35
       refine co_false h34 rfl ?_
       refine co_seq ?_
       refine co_reg ?_
       refine pk0 (v := .bool (d.k == 6)) h34 rfl fun a37 h37 => ?_; clear h34
       refine pk0 (v := .bool (d.k == 6)) h37 rfl fun a38 h38 => ?_; clear h37
       refine pl_nil ?_
       refine co_then ?_
       cases hc39 : (d.k == 6)
       ·
        rw [hc39] at h38
        have hp40 : ¬ (d.k = 6) := by first | simpa using hc39 | simpa [and_assoc] using hc39
        clear hc39
        refine co_false h38 rfl ?_
        refine co_seq ?_
        refine co_reg ?_
        refine pk0 (v := .bool (d.k == 8)) h38 rfl fun a41 h41 => ?_; clear h38
        refine pk0 (v := .bool (d.k == 8)) h41 rfl fun a42 h42 => ?_; clear h41
        refine pl_nil ?_
        refine co_then ?_
        cases hc43 : (d.k == 8)
        ·
         rw [hc43] at h42
         have hp44 : ¬ (d.k = 8) := by first | simpa using hc43 | simpa [and_assoc] using hc43
         clear hc43
         refine co_false h42 rfl ?_
         refine wp_skip ?_
         refine co_blockN ?_
         refine co_then ?_
         refine co_seq ?_
         refine co_reg ?_
         refine pk0 (v := .int .i64 11) h42 rfl fun a45 h45 => ?_; clear h42
         refine pl_nil ?_
         refine co_then ?_
         refine wp_ret ?_
         refine co_ret1 h45 rfl rfl ?_
         exact ⟨ret_int (by rw [chkN_0 (by omega)]), hB15⟩
        ·
         rw [hc43] at h42
         have hp46 : d.k = 8 := by first | simpa using hc43 | simpa [and_assoc] using hc43
         clear hc43
         refine co_true h42 rfl ?_
         refine co_seq ?_
         refine co_reg ?_
         refine pk0 (v := pt N3 14) h42 rfl fun a47 h47 => ?_; clear h42
         refine pk (v := .agg #[.int .i64 d.sc, .int .i64 d.sr, .int .i64 d.se, .int .i64 d.sp]) h47 rfl (rn_loadN rfl rfl Tryz.underlying56 rfl (by kernel_rfl) (blk_part hk5 14 (by rfl))) fun a48 h48 => ?_; clear h47
         refine pw h48 rfl (op_call (args := #[.agg #[.int .i64 d.sc, .int .i64 d.sr, .int .i64 d.se, .int .i64 d.sp]]) (R := fun res xw => res = .int .i64 (chkSd d.sc d.sr d.se d.sp) ∧ Below w2.heap.size w2 xw) rfl rfl rfl (by kernel_rfl) (by kernel_rfl) (Tryz.call83 _ _) (rnSaid_any d.sc d.sr d.se d.sp w2 ) (by rintro e x ⟨rfl, hb51⟩; exact ⟨_, rfl, ⟨rfl, hb51⟩⟩)) ?_; clear h48
         rintro _ w50 a49 ⟨rfl, hb51⟩ h49
         have hz52 := hb51.size
         refine pk0 (v := .int .i64 (chkSd d.sc d.sr d.se d.sp)) h49 rfl fun a53 h53 => ?_; clear h49
         refine pl_nil ?_
         refine co_then ?_
         refine wp_ret ?_
         refine co_blockR ?_
         refine co_thenR ?_
         refine co_ret1 h53 rfl rfl ?_
         have hB54 := hb_call hB15 hb51
         exact ⟨ret_int (by rw [chkN_8 (by omega)]), hB54⟩
       ·
        rw [hc39] at h38
        have hp55 : d.k = 6 := by first | simpa using hc39 | simpa [and_assoc] using hc39
        clear hc39
        refine co_true h38 rfl ?_
        refine co_seq ?_
        refine co_seq ?_
        refine co_reg ?_
        refine pk0 (v := pt N3 11) h38 rfl fun a56 h56 => ?_; clear h38
        refine pk0 (v := pt N3 11) h56 rfl fun a57 h57 => ?_; clear h56
        refine pk (v := .int .i64 d.pid) h57 rfl (rn_load1 rfl rfl Tryz.isAgg3 (hk5.cell rfl)) fun a58 h58 => ?_; clear h57
        refine pw h58 rfl (op_call (args := #[.int .i64 d.pid]) (R := fun res xw => res = .bool (decide (0 ≤ d.pid ∧ d.pid ≤ 1073741824)) ∧ Below w2.heap.size w2 xw) rfl rfl rfl (by kernel_rfl) (by kernel_rfl) (Tryz.call81 _ _) (rnMay_any d.pid w2 ) (by rintro e x ⟨rfl, hb61⟩; exact ⟨_, rfl, ⟨rfl, hb61⟩⟩)) ?_; clear h58
        rintro _ w60 a59 ⟨rfl, hb61⟩ h59
        have hz62 := hb61.size
        have hB64 := hb_call hB15 hb61
        cases hc63 : (decide (0 ≤ d.pid ∧ d.pid ≤ 1073741824))
        ·
         rw [hc63] at h59
         have hp65 : ¬ (0 ≤ d.pid ∧ d.pid ≤ 1073741824) := of_decide_eq_false hc63
         clear hc63
         refine pk0 (v := .bool true) h59 rfl fun a66 h66 => ?_; clear h59
         refine pk0 (v := .bool true) h66 rfl fun a67 h67 => ?_; clear h66
         refine psk h67 rfl fun a68 h68 => ?_; clear h67
         refine psk h68 rfl fun a69 h69 => ?_; clear h68
         refine psk h69 rfl fun a70 h70 => ?_; clear h69
         refine psk h70 rfl fun a71 h71 => ?_; clear h70
         refine psk h71 rfl fun a72 h72 => ?_; clear h71
         refine pk0 (v := .bool true) h72 rfl fun a73 h73 => ?_; clear h72
         refine pl_nil ?_
         refine co_then ?_
         refine co_true h73 rfl ?_
         refine co_seq ?_
         refine co_reg ?_
         refine pk0 (v := .int .i64 5) h73 rfl fun a74 h74 => ?_; clear h73
         refine pl_nil ?_
         refine co_then ?_
         refine wp_ret ?_
         refine co_thenR ?_
         refine co_blockR ?_
         refine co_thenR ?_
         refine co_ret1 h74 rfl rfl ?_
         exact ⟨ret_int (by rw [chkN_6 (by omega)]; unfold may; first | rw [if_pos (by omega)] | rw [if_neg (by omega)]), hB64⟩
        ·
         rw [hc63] at h59
         have hp75 : 0 ≤ d.pid ∧ d.pid ≤ 1073741824 := of_decide_eq_true hc63
         clear hc63
         refine pk0 (v := .bool false) h59 rfl fun a76 h76 => ?_; clear h59
         refine pk0 (v := .bool false) h76 rfl fun a77 h77 => ?_; clear h76
         refine pk0 (v := pt N3 11) h77 rfl fun a78 h78 => ?_; clear h77
         refine pk0 (v := pt N3 13) h78 rfl fun a79 h79 => ?_; clear h78
         have hk80 := hk5.below hb61
         refine pk (v := .int .i64 d.plf) h79 rfl (rn_load1 rfl rfl Tryz.isAgg3 (hk80.cell rfl)) fun a81 h81 => ?_; clear h79
         refine pw h81 rfl (op_call (args := #[.int .i64 d.plf]) (R := fun res xw => res = .bool (decide (0 ≤ d.plf ∧ d.plf ≤ 1073741824)) ∧ Below w60.heap.size w60 xw) rfl rfl rfl (by kernel_rfl) (by kernel_rfl) (Tryz.call81 _ _) (rnMay_any d.plf w60 ) (by rintro e x ⟨rfl, hb84⟩; exact ⟨_, rfl, ⟨rfl, hb84⟩⟩)) ?_; clear h81
         rintro _ w83 a82 ⟨rfl, hb84⟩ h82
         have hz85 := hb84.size
         have hB87 := hb_call hB64 hb84
         cases hc86 : (decide (0 ≤ d.plf ∧ d.plf ≤ 1073741824))
         ·
          rw [hc86] at h82
          have hp88 : ¬ (0 ≤ d.plf ∧ d.plf ≤ 1073741824) := of_decide_eq_false hc86
          clear hc86
          refine pk0 (v := .bool true) h82 rfl fun a89 h89 => ?_; clear h82
          refine pk0 (v := .bool true) h89 rfl fun a90 h90 => ?_; clear h89
          refine pl_nil ?_
          refine co_then ?_
          refine co_true h90 rfl ?_
          refine co_seq ?_
          refine co_reg ?_
          refine pk0 (v := .int .i64 5) h90 rfl fun a91 h91 => ?_; clear h90
          refine pl_nil ?_
          refine co_then ?_
          refine wp_ret ?_
          refine co_thenR ?_
          refine co_blockR ?_
          refine co_thenR ?_
          refine co_ret1 h91 rfl rfl ?_
          exact ⟨ret_int (by rw [chkN_6 (by omega)]; unfold may; first | rw [if_pos (by omega)] | rw [if_neg (by omega)]), hB87⟩
         ·
          rw [hc86] at h82
          have hp92 : 0 ≤ d.plf ∧ d.plf ≤ 1073741824 := of_decide_eq_true hc86
          clear hc86
          refine pk0 (v := .bool false) h82 rfl fun a93 h93 => ?_; clear h82
          refine pk0 (v := .bool false) h93 rfl fun a94 h94 => ?_; clear h93
          refine pl_nil ?_
          refine co_then ?_
          refine co_false h94 rfl ?_
          refine wp_skip ?_
          refine co_then ?_
          refine co_seq ?_
          refine co_reg ?_
          refine pk0 (v := .int .i64 0) h94 rfl fun a95 h95 => ?_; clear h94
          refine pl_nil ?_
          refine co_then ?_
          refine wp_ret ?_
          refine co_blockR ?_
          refine co_thenR ?_
          refine co_ret1 h95 rfl rfl ?_
          exact ⟨ret_int (by rw [chkN_6 (by omega)]; unfold may; first | rw [if_pos (by omega)] | rw [if_neg (by omega)]), hB87⟩
      ·
       rw [hc35] at h34
       have hp96 : d.k = 7 := by first | simpa using hc35 | simpa [and_assoc] using hc35
       clear hc35
       refine co_true h34 rfl ?_
       refine co_seq ?_
       refine co_seq ?_
       refine co_reg ?_
       refine pk0 (v := pt N3 1) h34 rfl fun a97 h97 => ?_; clear h34
       refine pk (v := .int .i64 d.n) h97 rfl (rn_load1 rfl rfl Tryz.isAgg3 (hk5.cell rfl)) fun a98 h98 => ?_; clear h97
       refine pw h98 rfl (op_call (args := #[.int .i64 d.n]) (R := fun res xw => res = .bool (decide (0 ≤ d.n ∧ d.n ≤ 1073741824)) ∧ Below w2.heap.size w2 xw) rfl rfl rfl (by kernel_rfl) (by kernel_rfl) (Tryz.call81 _ _) (rnMay_any d.n w2 ) (by rintro e x ⟨rfl, hb101⟩; exact ⟨_, rfl, ⟨rfl, hb101⟩⟩)) ?_; clear h98
       rintro _ w100 a99 ⟨rfl, hb101⟩ h99
       have hz102 := hb101.size
       have hB104 := hb_call hB15 hb101
       cases hc103 : (decide (0 ≤ d.n ∧ d.n ≤ 1073741824))
       ·
        rw [hc103] at h99
        have hp105 : ¬ (0 ≤ d.n ∧ d.n ≤ 1073741824) := of_decide_eq_false hc103
        clear hc103
        refine pk0 (v := .bool true) h99 rfl fun a106 h106 => ?_; clear h99
        refine pl_nil ?_
        refine co_then ?_
        refine co_true h106 rfl ?_
        refine co_seq ?_
        refine co_reg ?_
        refine pk0 (v := .int .i64 5) h106 rfl fun a107 h107 => ?_; clear h106
        refine pl_nil ?_
        refine co_then ?_
        refine wp_ret ?_
        refine co_thenR ?_
        refine co_blockR ?_
        refine co_thenR ?_
        refine co_ret1 h107 rfl rfl ?_
        exact ⟨ret_int (by rw [chkN_3 (by omega)]; unfold may; first | rw [if_pos (by omega)] | rw [if_neg (by omega)]), hB104⟩
       ·
        rw [hc103] at h99
        have hp108 : 0 ≤ d.n ∧ d.n ≤ 1073741824 := of_decide_eq_true hc103
        clear hc103
        refine pk0 (v := .bool false) h99 rfl fun a109 h109 => ?_; clear h99
        refine pl_nil ?_
        refine co_then ?_
        refine co_false h109 rfl ?_
        refine wp_skip ?_
        refine co_then ?_
        refine co_seq ?_
        refine co_reg ?_
        refine pk0 (v := .int .i64 0) h109 rfl fun a110 h110 => ?_; clear h109
        refine pl_nil ?_
        refine co_then ?_
        refine wp_ret ?_
        refine co_blockR ?_
        refine co_thenR ?_
        refine co_ret1 h110 rfl rfl ?_
        exact ⟨ret_int (by rw [chkN_3 (by omega)]; unfold may; first | rw [if_pos (by omega)] | rw [if_neg (by omega)]), hB104⟩
     ·
      rw [hc31] at h30
      have hp111 : d.k = 5 := by first | simpa using hc31 | simpa [and_assoc] using hc31
      clear hc31
      refine co_true h30 rfl ?_
      refine wp_skip ?_
      refine co_then ?_
      refine co_true h30 rfl ?_
      refine co_seq ?_
      refine co_seq ?_
      refine co_reg ?_
      refine pk0 (v := pt N3 1) h30 rfl fun a112 h112 => ?_; clear h30
      refine pk (v := .int .i64 d.n) h112 rfl (rn_load1 rfl rfl Tryz.isAgg3 (hk5.cell rfl)) fun a113 h113 => ?_; clear h112
      refine pw h113 rfl (op_call (args := #[.int .i64 d.n]) (R := fun res xw => res = .bool (decide (0 ≤ d.n ∧ d.n ≤ 1073741824)) ∧ Below w2.heap.size w2 xw) rfl rfl rfl (by kernel_rfl) (by kernel_rfl) (Tryz.call81 _ _) (rnMay_any d.n w2 ) (by rintro e x ⟨rfl, hb116⟩; exact ⟨_, rfl, ⟨rfl, hb116⟩⟩)) ?_; clear h113
      rintro _ w115 a114 ⟨rfl, hb116⟩ h114
      have hz117 := hb116.size
      have hB119 := hb_call hB15 hb116
      cases hc118 : (decide (0 ≤ d.n ∧ d.n ≤ 1073741824))
      ·
       rw [hc118] at h114
       have hp120 : ¬ (0 ≤ d.n ∧ d.n ≤ 1073741824) := of_decide_eq_false hc118
       clear hc118
       refine pk0 (v := .bool true) h114 rfl fun a121 h121 => ?_; clear h114
       refine pl_nil ?_
       refine co_then ?_
       refine co_true h121 rfl ?_
       refine co_seq ?_
       refine co_reg ?_
       refine pk0 (v := .int .i64 5) h121 rfl fun a122 h122 => ?_; clear h121
       refine pl_nil ?_
       refine co_then ?_
       refine wp_ret ?_
       refine co_thenR ?_
       refine co_blockR ?_
       refine co_thenR ?_
       refine co_ret1 h122 rfl rfl ?_
       exact ⟨ret_int (by rw [chkN_3 (by omega)]; unfold may; first | rw [if_pos (by omega)] | rw [if_neg (by omega)]), hB119⟩
      ·
       rw [hc118] at h114
       have hp123 : 0 ≤ d.n ∧ d.n ≤ 1073741824 := of_decide_eq_true hc118
       clear hc118
       refine pk0 (v := .bool false) h114 rfl fun a124 h124 => ?_; clear h114
       refine pl_nil ?_
       refine co_then ?_
       refine co_false h124 rfl ?_
       refine wp_skip ?_
       refine co_then ?_
       refine co_seq ?_
       refine co_reg ?_
       refine pk0 (v := .int .i64 0) h124 rfl fun a125 h125 => ?_; clear h124
       refine pl_nil ?_
       refine co_then ?_
       refine wp_ret ?_
       refine co_blockR ?_
       refine co_thenR ?_
       refine co_ret1 h125 rfl rfl ?_
       exact ⟨ret_int (by rw [chkN_3 (by omega)]; unfold may; first | rw [if_pos (by omega)] | rw [if_neg (by omega)]), hB119⟩
    ·
     rw [hc27] at h26
     have hp126 : d.k = 4 := by first | simpa using hc27 | simpa [and_assoc] using hc27
     clear hc27
     refine co_true h26 rfl ?_
     refine wp_skip ?_
     refine co_then ?_
     refine co_true h26 rfl ?_
     refine co_seq ?_
     refine co_seq ?_
     refine co_reg ?_
     refine pk0 (v := pt N3 1) h26 rfl fun a127 h127 => ?_; clear h26
     refine pk (v := .int .i64 d.n) h127 rfl (rn_load1 rfl rfl Tryz.isAgg3 (hk5.cell rfl)) fun a128 h128 => ?_; clear h127
     refine pw h128 rfl (op_call (args := #[.int .i64 d.n]) (R := fun res xw => res = .bool (decide (0 ≤ d.n ∧ d.n ≤ 1073741824)) ∧ Below w2.heap.size w2 xw) rfl rfl rfl (by kernel_rfl) (by kernel_rfl) (Tryz.call81 _ _) (rnMay_any d.n w2 ) (by rintro e x ⟨rfl, hb131⟩; exact ⟨_, rfl, ⟨rfl, hb131⟩⟩)) ?_; clear h128
     rintro _ w130 a129 ⟨rfl, hb131⟩ h129
     have hz132 := hb131.size
     have hB134 := hb_call hB15 hb131
     cases hc133 : (decide (0 ≤ d.n ∧ d.n ≤ 1073741824))
     ·
      rw [hc133] at h129
      have hp135 : ¬ (0 ≤ d.n ∧ d.n ≤ 1073741824) := of_decide_eq_false hc133
      clear hc133
      refine pk0 (v := .bool true) h129 rfl fun a136 h136 => ?_; clear h129
      refine pl_nil ?_
      refine co_then ?_
      refine co_true h136 rfl ?_
      refine co_seq ?_
      refine co_reg ?_
      refine pk0 (v := .int .i64 5) h136 rfl fun a137 h137 => ?_; clear h136
      refine pl_nil ?_
      refine co_then ?_
      refine wp_ret ?_
      refine co_thenR ?_
      refine co_blockR ?_
      refine co_thenR ?_
      refine co_ret1 h137 rfl rfl ?_
      exact ⟨ret_int (by rw [chkN_3 (by omega)]; unfold may; first | rw [if_pos (by omega)] | rw [if_neg (by omega)]), hB134⟩
     ·
      rw [hc133] at h129
      have hp138 : 0 ≤ d.n ∧ d.n ≤ 1073741824 := of_decide_eq_true hc133
      clear hc133
      refine pk0 (v := .bool false) h129 rfl fun a139 h139 => ?_; clear h129
      refine pl_nil ?_
      refine co_then ?_
      refine co_false h139 rfl ?_
      refine wp_skip ?_
      refine co_then ?_
      refine co_seq ?_
      refine co_reg ?_
      refine pk0 (v := .int .i64 0) h139 rfl fun a140 h140 => ?_; clear h139
      refine pl_nil ?_
      refine co_then ?_
      refine wp_ret ?_
      refine co_blockR ?_
      refine co_thenR ?_
      refine co_ret1 h140 rfl rfl ?_
      exact ⟨ret_int (by rw [chkN_3 (by omega)]; unfold may; first | rw [if_pos (by omega)] | rw [if_neg (by omega)]), hB134⟩
   ·
    rw [hc23] at h22
    have hp141 : d.k = 3 := by first | simpa using hc23 | simpa [and_assoc] using hc23
    clear hc23
    refine co_true h22 rfl ?_
    refine wp_skip ?_
    refine co_then ?_
    refine co_true h22 rfl ?_
    refine co_seq ?_
    refine co_seq ?_
    refine co_reg ?_
    refine pk0 (v := pt N3 1) h22 rfl fun a142 h142 => ?_; clear h22
    refine pk (v := .int .i64 d.n) h142 rfl (rn_load1 rfl rfl Tryz.isAgg3 (hk5.cell rfl)) fun a143 h143 => ?_; clear h142
    refine pw h143 rfl (op_call (args := #[.int .i64 d.n]) (R := fun res xw => res = .bool (decide (0 ≤ d.n ∧ d.n ≤ 1073741824)) ∧ Below w2.heap.size w2 xw) rfl rfl rfl (by kernel_rfl) (by kernel_rfl) (Tryz.call81 _ _) (rnMay_any d.n w2 ) (by rintro e x ⟨rfl, hb146⟩; exact ⟨_, rfl, ⟨rfl, hb146⟩⟩)) ?_; clear h143
    rintro _ w145 a144 ⟨rfl, hb146⟩ h144
    have hz147 := hb146.size
    have hB149 := hb_call hB15 hb146
    cases hc148 : (decide (0 ≤ d.n ∧ d.n ≤ 1073741824))
    ·
     rw [hc148] at h144
     have hp150 : ¬ (0 ≤ d.n ∧ d.n ≤ 1073741824) := of_decide_eq_false hc148
     clear hc148
     refine pk0 (v := .bool true) h144 rfl fun a151 h151 => ?_; clear h144
     refine pl_nil ?_
     refine co_then ?_
     refine co_true h151 rfl ?_
     refine co_seq ?_
     refine co_reg ?_
     refine pk0 (v := .int .i64 5) h151 rfl fun a152 h152 => ?_; clear h151
     refine pl_nil ?_
     refine co_then ?_
     refine wp_ret ?_
     refine co_thenR ?_
     refine co_blockR ?_
     refine co_thenR ?_
     refine co_ret1 h152 rfl rfl ?_
     exact ⟨ret_int (by rw [chkN_3 (by omega)]; unfold may; first | rw [if_pos (by omega)] | rw [if_neg (by omega)]), hB149⟩
    ·
     rw [hc148] at h144
     have hp153 : 0 ≤ d.n ∧ d.n ≤ 1073741824 := of_decide_eq_true hc148
     clear hc148
     refine pk0 (v := .bool false) h144 rfl fun a154 h154 => ?_; clear h144
     refine pl_nil ?_
     refine co_then ?_
     refine co_false h154 rfl ?_
     refine wp_skip ?_
     refine co_then ?_
     refine co_seq ?_
     refine co_reg ?_
     refine pk0 (v := .int .i64 0) h154 rfl fun a155 h155 => ?_; clear h154
     refine pl_nil ?_
     refine co_then ?_
     refine wp_ret ?_
     refine co_blockR ?_
     refine co_thenR ?_
     refine co_ret1 h155 rfl rfl ?_
     exact ⟨ret_int (by rw [chkN_3 (by omega)]; unfold may; first | rw [if_pos (by omega)] | rw [if_neg (by omega)]), hB149⟩
  ·
   rw [hc19] at h18
   have hp156 : d.k = 2 := by first | simpa using hc19 | simpa [and_assoc] using hc19
   clear hc19
   refine co_true h18 rfl ?_
   refine co_seq ?_
   refine co_seq ?_
   refine co_reg ?_
   refine pk0 (v := pt N3 1) h18 rfl fun a157 h157 => ?_; clear h18
   refine pk (v := .int .i64 d.n) h157 rfl (rn_load1 rfl rfl Tryz.isAgg3 (hk5.cell rfl)) fun a158 h158 => ?_; clear h157
   refine pw h158 rfl (op_call (args := #[.int .i64 d.n]) (R := fun res xw => res = .bool (decide (0 ≤ d.n ∧ d.n ≤ 1073741824)) ∧ Below w2.heap.size w2 xw) rfl rfl rfl (by kernel_rfl) (by kernel_rfl) (Tryz.call81 _ _) (rnMay_any d.n w2 ) (by rintro e x ⟨rfl, hb161⟩; exact ⟨_, rfl, ⟨rfl, hb161⟩⟩)) ?_; clear h158
   rintro _ w160 a159 ⟨rfl, hb161⟩ h159
   have hz162 := hb161.size
   have hB164 := hb_call hB15 hb161
   cases hc163 : (decide (0 ≤ d.n ∧ d.n ≤ 1073741824))
   ·
    rw [hc163] at h159
    have hp165 : ¬ (0 ≤ d.n ∧ d.n ≤ 1073741824) := of_decide_eq_false hc163
    clear hc163
    refine pk0 (v := .bool true) h159 rfl fun a166 h166 => ?_; clear h159
    refine pl_nil ?_
    refine co_then ?_
    refine co_true h166 rfl ?_
    refine co_seq ?_
    refine co_reg ?_
    refine pk0 (v := .int .i64 5) h166 rfl fun a167 h167 => ?_; clear h166
    refine pl_nil ?_
    refine co_then ?_
    refine wp_ret ?_
    refine co_thenR ?_
    refine co_blockR ?_
    refine co_thenR ?_
    refine co_ret1 h167 rfl rfl ?_
    exact ⟨ret_int (by rw [chkN_2 (by omega)]; unfold may; first | rw [if_pos (by omega)] | rw [if_neg (by omega)]), hB164⟩
   ·
    rw [hc163] at h159
    have hp168 : 0 ≤ d.n ∧ d.n ≤ 1073741824 := of_decide_eq_true hc163
    clear hc163
    refine pk0 (v := .bool false) h159 rfl fun a169 h169 => ?_; clear h159
    refine pl_nil ?_
    refine co_then ?_
    refine co_false h169 rfl ?_
    refine wp_skip ?_
    refine co_then ?_
    refine co_seq ?_
    refine co_reg ?_
    refine pk0 (v := pt N3 7) h169 rfl fun a170 h170 => ?_; clear h169
    have hk171 := hk5.below hb161
    refine pk (v := .agg #[.int .i64 d.ec, .int .i64 d.er, ev, .int .u64 d.ets]) h170 rfl (rn_loadN rfl rfl Tryz.underlying52 rfl (by kernel_rfl) (blk_part hk171 7 (by rfl))) fun a172 h172 => ?_; clear h170
    refine pw h172 rfl (op_call (args := #[.agg #[.int .i64 d.ec, .int .i64 d.er, ev, .int .u64 d.ets]]) (R := fun res xw => res = .int .i64 (chkB d.ec d.er d.el) ∧ Below w160.heap.size w160 xw) rfl rfl rfl (by kernel_rfl) (by kernel_rfl) (Tryz.call82 _ _) (ritemCheck_any d.ec d.er ev d.el d.ets w160 (he.below hB164)) (by rintro e x ⟨rfl, hb175⟩; exact ⟨_, rfl, ⟨rfl, hb175⟩⟩)) ?_; clear h172
    rintro _ w174 a173 ⟨rfl, hb175⟩ h173
    have hz176 := hb175.size
    refine pk0 (v := .int .i64 (chkB d.ec d.er d.el)) h173 rfl fun a177 h177 => ?_; clear h173
    refine pl_nil ?_
    refine co_then ?_
    refine wp_ret ?_
    refine co_blockR ?_
    refine co_thenR ?_
    refine co_ret1 h177 rfl rfl ?_
    have hB178 := hb_call hB164 hb175
    exact ⟨ret_int (by rw [chkN_2 (by omega)]; unfold may; first | rw [if_pos (by omega)] | rw [if_neg (by omega)]), hB178⟩
 ·
  rw [hc14] at h13
  have hp179 : d.k = 1 := by first | simpa using hc14 | simpa [and_assoc] using hc14
  clear hc14
  refine co_true h13 rfl ?_
  refine co_seq ?_
  refine co_seq ?_
  refine co_reg ?_
  refine pk0 (v := pt N3 3) h13 rfl fun a180 h180 => ?_; clear h13
  refine pk (v := .agg #[.int .i64 d.ep, mv, .int .u64 d.fl]) h180 rfl (rn_loadN rfl rfl Tryz.underlying26 rfl (by kernel_rfl) (blk_part hk5 3 (by rfl))) fun a181 h181 => ?_; clear h180
  refine pw h181 rfl (op_call (args := #[.agg #[.int .i64 d.ep, mv, .int .u64 d.fl]]) (R := fun res xw => res = .int .i64 (chkC d.ep d.ms) ∧ Below w2.heap.size w2 xw) rfl rfl rfl (by kernel_rfl) (by kernel_rfl) (Tryz.call79 _ _) (wrcheck_any d.ep mv d.ms d.fl w2 (hm.below hB15) hR.mem (by omega) (by omega)) (by rintro e x ⟨rfl, hb184⟩; exact ⟨_, rfl, ⟨rfl, hb184⟩⟩)) ?_; clear h181
  rintro _ w183 a182 ⟨rfl, hb184⟩ h182
  have hz185 := hb184.size
  refine pk0 (v := .int .i64 (chkC d.ep d.ms)) h182 rfl fun a186 h186 => ?_; clear h182
  refine pl_nil ?_
  refine co_then ?_
  refine co_seq ?_
  refine co_reg ?_
  refine pk0 (v := .int .i64 (chkC d.ep d.ms)) h186 rfl fun a187 h187 => ?_; clear h186
  refine pk0 (v := .bool (chkC d.ep d.ms != 0)) h187 rfl fun a188 h188 => ?_; clear h187
  refine pl_nil ?_
  refine co_then ?_
  have hB190 := hb_call hB15 hb184
  cases hc189 : (chkC d.ep d.ms != 0)
  ·
   rw [hc189] at h188
   have hp191 : ¬ (chkC d.ep d.ms ≠ 0) := by first | simpa using hc189 | simpa [and_assoc] using hc189
   clear hc189
   refine co_false h188 rfl ?_
   refine wp_skip ?_
   refine co_then ?_
   refine co_seq ?_
   refine co_reg ?_
   refine pk0 (v := pt N3 6) h188 rfl fun a192 h192 => ?_; clear h188
   have hk193 := hk5.below hb184
   refine pk (v := lv) h192 rfl (rn_load1 rfl rfl Tryz.isAgg50 (hk193.cell rfl)) fun a194 h194 => ?_; clear h192
   refine pw h194 rfl (op_call (args := #[lv]) (R := fun res xw => res = .int .i64 (chkLg d.lg) ∧ Below w183.heap.size w183 xw) rfl rfl rfl (by kernel_rfl) (by kernel_rfl) (Tryz.call80 _ _) (rnLegit_any lv d.lg w183 (hg.below hB190)) (by rintro e x ⟨rfl, hb197⟩; exact ⟨_, rfl, ⟨rfl, hb197⟩⟩)) ?_; clear h194
   rintro _ w196 a195 ⟨rfl, hb197⟩ h195
   have hz198 := hb197.size
   refine pk0 (v := .int .i64 (chkLg d.lg)) h195 rfl fun a199 h199 => ?_; clear h195
   refine pl_nil ?_
   refine co_then ?_
   refine wp_ret ?_
   refine co_blockR ?_
   refine co_thenR ?_
   refine co_ret1 h199 rfl rfl ?_
   have hB200 := hb_call hB190 hb197
   exact ⟨ret_int (by rw [chkN_1 (by omega)]; first | rw [if_pos (by omega)] | rw [if_neg (by omega)]), hB200⟩
  ·
   rw [hc189] at h188
   have hp201 : chkC d.ep d.ms ≠ 0 := by first | simpa using hc189 | simpa [and_assoc] using hc189
   clear hc189
   refine co_true h188 rfl ?_
   refine co_seq ?_
   refine co_reg ?_
   refine pk0 (v := .int .i64 (chkC d.ep d.ms)) h188 rfl fun a202 h202 => ?_; clear h188
   refine pk0 (v := .int .i64 (chkC d.ep d.ms)) h202 rfl fun a203 h203 => ?_; clear h202
   refine pl_nil ?_
   refine co_then ?_
   refine wp_ret ?_
   refine co_thenR ?_
   refine co_blockR ?_
   refine co_thenR ?_
   refine co_ret1 h203 rfl rfl ?_
   exact ⟨ret_int (by rw [chkN_1 (by omega)]; first | rw [if_pos (by omega)] | rw [if_neg (by omega)]), hB190⟩
end Go.Proofs.YteioaaegooebpaaGreat

/- Package note: Put. Conditions: none. -/
namespace Go.Proofs.YteioaaegooebpaaGreat
open Go.RowKit Go.PlainAid
set_option linter.unusedVariables false


/-- A text, with its length. -/
def txt (s : ByteArray) : List UInt8 := putL (s.size : Int) ++ s.data.toList
def putNL (d : NoteD) : List UInt8 := putL d.k ++
  (if d.k = 1 then txt (putCf d.ep d.ms d.fl) ++ putL ((d.lg.length : Nat) : Int) ++ d.lg.flatMap putL
  else if d.k = 2 then putL d.n ++ txt (putE d.ec d.er d.el d.ets)
  else if d.k = 3 then putL d.n ++ putL d.t
  else if d.k = 4 then putL d.t ++ putL d.n
  else if d.k = 5 ∨ d.k = 7 then putL d.n
  else if d.k = 6 then putL d.pid ++ putL d.pat ++ putL d.plf
  else putL d.sc ++ putL d.sr ++ putL d.se ++ putL d.sp)
def putN (d : NoteD) : ByteArray := if chkN d = 0 then ⟨(putNL d).toArray⟩ else ⟨#[]⟩
theorem putN_ok {d : NoteD} (h : chkN d = 0) : putN d = ⟨(putNL d).toArray⟩ := by unfold putN; rw [if_pos h]
theorem putN_err {d : NoteD} (h : chkN d ≠ 0) : putN d = ⟨#[]⟩ := by unfold putN; rw [if_neg h]
theorem takeI {α : Type} {l : List α} {i : Nat} {y : α} (h : l[i]? = some y) : l.take (i + 1) = l.take i ++ [y] := by
  rw [List.take_add_one, h]; rfl

set_option maxRecDepth 100000 in
theorem nPut_any (d : NoteD) (mv : Value) (lv : Value) (ev : Value) (w : World) (hm : SliceOf memE 2 w mv d.ms) (hg : SliceOf (intE .i64) 1 w lv d.lg) (he : SliceOf opE 3 w ev d.el) (hR : NoteR d) :
    Calls Tryz.prog 20 #[.agg #[.int .i64 d.k, .int .i64 d.n, .int .u64 d.t, .int .i64 d.ep, mv, .int .u64 d.fl, lv, .int .i64 d.ec, .int .i64 d.er, ev, .int .u64 d.ets, .int .i64 d.pid, .int .u64 d.pat, .int .i64 d.plf, .int .i64 d.sc, .int .i64 d.sr, .int .i64 d.se, .int .i64 d.sp]] w fun e w' => e = .returned (.tuple #[.string (putN d), .int .i64 (chkN d)]) ∧ Below w.heap.size w w' := by
 have hrng := hR.rng
 have hcc := fun h => chkN_ok (d := d) h
 have hsm1 := putCf_small (ep := d.ep) (ms := d.ms) (fl := d.fl)
 have hsm2 := putE_small (c := d.ec) (r := d.er) (l := d.el) (ts := d.ets)
 have hB0 := Below.refl w.heap.size w
 have hl_hm := sl_len hm
 have hl_hg := sl_len hg
 have hl_he := sl_len he
 refine co_enter (n := 123) Tryz.func20 rfl rfl rfl [(0, .agg #[.int .i64 d.k, .int .i64 d.n, .int .u64 d.t, .int .i64 d.ep, mv, .int .u64 d.fl, lv, .int .i64 d.ec, .int .i64 d.er, ev, .int .u64 d.ets, .int .i64 d.pid, .int .u64 d.pat, .int .i64 d.plf, .int .i64 d.sc, .int .i64 d.sr, .int .i64 d.se, .int .i64 d.sp])] rfl (fun a h0 => ?_)
 refine co_seq ?_
 refine co_reg ?_
 refine pw h0 rfl (op_new (v := fun N => pt N 0) (T := 58) (cs := #[.int .i64 d.k, .int .i64 d.n, .int .u64 d.t, .int .i64 d.ep, mv, .int .u64 d.fl, lv, .int .i64 d.ec, .int .i64 d.er, ev, .int .u64 d.ets, .int .i64 d.pid, .int .u64 d.pat, .int .i64 d.plf, .int .i64 d.sc, .int .i64 d.sr, .int .i64 d.se, .int .i64 d.sp]) (by kernel_rfl) (by kernel_rfl) (by kernel_rfl)) ?_; clear h0
 rintro _ w2 a1 ⟨N3, rfl, hN6, hz7, hk5, hg4⟩ h1
 have hz8 := hg4.size
 try dsimp only at h1
 refine pk0 (v := .string (⟨#[]⟩)) h1 rfl fun a9 h9 => ?_; clear h1
 refine pk0 (v := .int .i64 0) h9 rfl fun a10 h10 => ?_; clear h9
 refine pl_nil ?_
 refine co_then ?_
 refine co_seq ?_
 refine co_seq ?_
 refine co_reg ?_
 refine pk (v := .agg #[.int .i64 d.k, .int .i64 d.n, .int .u64 d.t, .int .i64 d.ep, mv, .int .u64 d.fl, lv, .int .i64 d.ec, .int .i64 d.er, ev, .int .u64 d.ets, .int .i64 d.pid, .int .u64 d.pat, .int .i64 d.plf, .int .i64 d.sc, .int .i64 d.sr, .int .i64 d.se, .int .i64 d.sp]) h10 rfl (rn_loadN rfl rfl Tryz.underlying58 rfl (by kernel_rfl) hk5.all) fun a11 h11 => ?_; clear h10
 have hB14 := hb_new hB0 hg4
 refine pw h11 rfl (op_call (args := #[.agg #[.int .i64 d.k, .int .i64 d.n, .int .u64 d.t, .int .i64 d.ep, mv, .int .u64 d.fl, lv, .int .i64 d.ec, .int .i64 d.er, ev, .int .u64 d.ets, .int .i64 d.pid, .int .u64 d.pat, .int .i64 d.plf, .int .i64 d.sc, .int .i64 d.sr, .int .i64 d.se, .int .i64 d.sp]]) (R := fun res xw => res = .int .i64 (chkN d) ∧ Below w2.heap.size w2 xw) rfl rfl rfl (by kernel_rfl) (by kernel_rfl) (Tryz.call22 _ _) (nCheck_any d mv lv ev w2 (hm.below hB14) (hg.below hB14) (he.below hB14) hR) (by rintro e x ⟨rfl, hb15⟩; exact ⟨_, rfl, ⟨rfl, hb15⟩⟩)) ?_; clear h11
 rintro _ w13 a12 ⟨rfl, hb15⟩ h12
 have hz16 := hb15.size
 refine pk0 (v := .int .i64 (chkN d)) h12 rfl fun a17 h17 => ?_; clear h12
 refine pl_nil ?_
 refine co_then ?_
 refine co_seq ?_
 refine co_reg ?_
 refine pk0 (v := .int .i64 (chkN d)) h17 rfl fun a18 h18 => ?_; clear h17
 refine pk0 (v := .bool (chkN d != 0)) h18 rfl fun a19 h19 => ?_; clear h18
 refine pl_nil ?_
 refine co_then ?_
 have hB21 := hb_call hB14 hb15
 cases hc20 : (chkN d != 0)
 ·
  rw [hc20] at h19
  have hp22 : ¬ (chkN d ≠ 0) := by first | simpa using hc20 | simpa [and_assoc] using hc20
  clear hc20
  refine co_false h19 rfl ?_
  refine wp_skip ?_
  refine co_then ?_
  refine co_seq ?_
  refine dr_gen (fun x => Below w.heap.size w x ∧ Blk x N3 58 #[.int .i64 d.k, .int .i64 d.n, .int .u64 d.t, .int .i64 d.ep, mv, .int .u64 d.fl, lv, .int .i64 d.ec, .int .i64 d.er, ev, .int .u64 d.ets, .int .i64 d.pid, .int .u64 d.pat, .int .i64 d.plf, .int .i64 d.sc, .int .i64 d.sr, .int .i64 d.se, .int .i64 d.sp]) (by kernel_rfl) (fun w23 hg24 => ?_) (fun w23 hg24 => ?_)
  ·
   have hz25 := hg24.size
   have hB26 := hb_new hB21 hg24
   have hk27 := hk5.below hb15
   have hk28 := hk27.kept hg24 (by simp)
   exact ⟨hB26, hk28⟩
  have hz29 := hg24.size
  have hB30 := hb_new hB21 hg24
  have hk31 := hk5.below hb15
  have hk32 := hk31.kept hg24 (by simp)
  refine dk0 1 (v := pt N3 0) h19 rfl rfl ⟨hB30, hk32⟩ fun a33 h33 => ?_; clear h19
  refine dk 2 (v := .int .i64 d.k) h33 rfl rfl ⟨hB30, hk32⟩ (fun x hx => (rn_load1 rfl rfl Tryz.isAgg3 (hx.2.cell rfl))) fun a34 h34 => ?_; clear h33
  refine d1 0 h34 rfl rfl (op_call (args := #[]) (R := fun res xw => ∃ b : Nat, res = pt b 0 ∧ b = w23.heap.size ∧ OW b [] 0 xw ∧ Below w23.heap.size w23 xw) rfl rfl rfl (by kernel_rfl) (by kernel_rfl) (Tryz.call29 _ _) (ow_new w23) (by rintro e x ⟨b, rfl, h0, h1, h2⟩; exact ⟨_, rfl, b, rfl, h0, h1, h2⟩)) ?_ ?_; clear h34
  ·
   rintro _ w36 ⟨b37, rfl, hN38, ho39, hb40⟩
   have hz41 := hb40.size
   have hl42 := ho39.lt
   have hB43 := hb_call hB30 hb40
   have hk44 := hk32.below hb40
   exact ⟨hB43, hk44⟩
  rintro _ w36 a35 ⟨b37, rfl, hN38, ho39, hb40⟩ h35
  have hz41 := hb40.size
  have hl42 := ho39.lt
  have hB43 := hb_call hB30 hb40
  have hk44 := hk32.below hb40
  refine d1 3 h35 rfl rfl (op_call (args := #[pt b37 0, .int .i64 d.k]) (R := fun res xw => res = pt b37 0 ∧ OW b37 (([] : List UInt8) ++ putL d.k) (0 + 9) xw ∧ But (Rw w36 b37) w36 xw) rfl rfl rfl (by kernel_rfl) (by kernel_rfl) (Tryz.call30 _ _) (ow_num b37 ([]) 0 d.k w36 ho39 (by omega) (by omega) (by omega)) (by rintro e x ⟨rfl, h1, h2⟩; exact ⟨_, rfl, rfl, h1, h2⟩)) ?_ ?_; clear h35
  ·
   rintro _ w46 ⟨rfl, ho47, hx48⟩
   have hz49 := hx48.size
   have hl50 := ho47.lt
   have hB51 := hb_wr hB43 ho39 (by omega) hx48
   have hk52 := blk_wr hk44 ho39 (by decide) (by omega) hx48
   exact ⟨hB51, hk52⟩
  rintro _ w46 a45 ⟨rfl, ho47, hx48⟩ h45
  have hz49 := hx48.size
  have hl50 := ho47.lt
  have hB51 := hb_wr hB43 ho39 (by omega) hx48
  have hk52 := blk_wr hk44 ho39 (by decide) (by omega) hx48
  refine dk0 4 (v := pt b37 0) h45 rfl rfl ⟨hB51, hk52⟩ fun a53 h53 => ?_; clear h45
  refine dr_done (by kernel_rfl) ?_
  refine co_then ?_
  refine co_seq ?_
  refine co_seq ?_
  refine co_reg ?_
  refine pk0 (v := pt N3 0) h53 rfl fun a54 h54 => ?_; clear h53
  refine pk (v := .int .i64 d.k) h54 rfl (rn_load1 rfl rfl Tryz.isAgg3 (hk52.cell rfl)) fun a55 h55 => ?_; clear h54
  refine pl_nil ?_
  refine co_then ?_
  refine wp_block ?_
  refine co_seq ?_
  refine wp_block ?_
  refine co_seq ?_
  refine wp_block ?_
  refine co_seq ?_
  refine wp_block ?_
  refine co_seq ?_
  refine wp_block ?_
  refine co_seq ?_
  refine wp_block ?_
  refine co_seq ?_
  refine wp_block ?_
  refine co_seq ?_
  refine wp_block ?_
  refine co_seq ?_
  refine co_seq ?_
  refine co_seq ?_
  refine co_reg ?_
  refine pk0 (v := .bool (d.k == 1)) h55 rfl fun a56 h56 => ?_; clear h55
  refine pk0 (v := .bool (d.k == 1)) h56 rfl fun a57 h57 => ?_; clear h56
  refine pl_nil ?_
  refine co_then ?_
  cases hc58 : (d.k == 1)
  ·
   rw [hc58] at h57
   have hp59 : ¬ (d.k = 1) := by first | simpa using hc58 | simpa [and_assoc] using hc58
   clear hc58
   refine co_false h57 rfl ?_
   refine wp_skip ?_
   refine co_then ?_
   refine co_seq ?_
   refine co_seq ?_
   refine co_reg ?_
   refine pk0 (v := .bool (d.k == 2)) h57 rfl fun a60 h60 => ?_; clear h57
   refine pk0 (v := .bool (d.k == 2)) h60 rfl fun a61 h61 => ?_; clear h60
   refine pl_nil ?_
   refine co_then ?_
   cases hc62 : (d.k == 2)
   ·
    rw [hc62] at h61
    have hp63 : ¬ (d.k = 2) := by first | simpa using hc62 | simpa [and_assoc] using hc62
    clear hc62
    refine co_false h61 rfl ?_
    refine wp_skip ?_
    refine co_then ?_
    refine co_seq ?_
    refine co_seq ?_
    refine co_reg ?_
    refine pk0 (v := .bool (d.k == 3)) h61 rfl fun a64 h64 => ?_; clear h61
    refine pk0 (v := .bool (d.k == 3)) h64 rfl fun a65 h65 => ?_; clear h64
    refine pl_nil ?_
    refine co_then ?_
    cases hc66 : (d.k == 3)
    ·
     rw [hc66] at h65
     have hp67 : ¬ (d.k = 3) := by first | simpa using hc66 | simpa [and_assoc] using hc66
     clear hc66
     refine co_false h65 rfl ?_
     refine wp_skip ?_
     refine co_then ?_
     refine co_seq ?_
     refine co_seq ?_
     refine co_reg ?_
     refine pk0 (v := .bool (d.k == 4)) h65 rfl fun a68 h68 => ?_; clear h65
     refine pk0 (v := .bool (d.k == 4)) h68 rfl fun a69 h69 => ?_; clear h68
     refine pl_nil ?_
     refine co_then ?_
     cases hc70 : (d.k == 4)
     ·
      rw [hc70] at h69
      have hp71 : ¬ (d.k = 4) := by first | simpa using hc70 | simpa [and_assoc] using hc70
      clear hc70
      refine co_false h69 rfl ?_
      refine wp_skip ?_
      refine co_then ?_
      refine co_seq ?_
      refine co_seq ?_
      refine co_seq ?_
      refine co_reg ?_
      refine pk0 (v := .bool (d.k == 5)) h69 rfl fun a72 h72 => ?_; clear h69
      refine pk0 (v := .bool (d.k == 5)) h72 rfl fun a73 h73 => ?_; clear h72
      refine pl_nil ?_
      refine co_then ?_
      cases hc74 : (d.k == 5)
      ·
       rw [hc74] at h73
       have hp75 : ¬ (d.k = 5) := by first | simpa using hc74 | simpa [and_assoc] using hc74
       clear hc74
       refine co_false h73 rfl ?_
       refine co_reg ?_
       refine pk0 (v := .bool (d.k == 7)) h73 rfl fun a76 h76 => ?_; clear h73
       refine pk0 (v := .bool (d.k == 7)) h76 rfl fun a77 h77 => ?_; clear h76
       refine pl_nil ?_
       refine co_then ?_
       cases hc78 : (d.k == 7)
       ·
        rw [hc78] at h77
        have hp79 : ¬ (d.k = 7) := by first | simpa using hc78 | simpa [and_assoc] using hc78
        clear hc78
        refine co_false h77 rfl ?_
        refine wp_skip ?_
        refine co_then ?_
        refine co_seq ?_
        refine co_seq ?_
        refine co_reg ?_
        refine pk0 (v := .bool (d.k == 6)) h77 rfl fun a80 h80 => ?_; clear h77
        refine pk0 (v := .bool (d.k == 6)) h80 rfl fun a81 h81 => ?_; clear h80
        refine pl_nil ?_
        refine co_then ?_
        cases hc82 : (d.k == 6)
        ·
         rw [hc82] at h81
         have hp83 : ¬ (d.k = 6) := by first | simpa using hc82 | simpa [and_assoc] using hc82
         clear hc82
         refine co_false h81 rfl ?_
         refine wp_skip ?_
         refine co_then ?_
         refine co_seq ?_
         refine co_reg ?_
         refine pk0 (v := .bool (d.k == 8)) h81 rfl fun a84 h84 => ?_; clear h81
         refine pk0 (v := .bool (d.k == 8)) h84 rfl fun a85 h85 => ?_; clear h84
         refine pl_nil ?_
         refine co_then ?_
         have hc86 : (d.k == 8) = true := by first | (simp; done) | (simp; omega)
         rw [hc86] at h85; clear hc86
         refine co_true h85 rfl ?_
         refine wp_exit ?_
         refine co_thenX ?_
         refine co_blockY (by decide) ?_
         refine co_thenX ?_
         refine co_blockY (by decide) ?_
         refine co_thenX ?_
         refine co_blockY (by decide) ?_
         refine co_thenX ?_
         refine co_blockY (by decide) ?_
         refine co_thenX ?_
         refine co_blockY (by decide) ?_
         refine co_thenX ?_
         refine co_blockY (by decide) ?_
         refine co_thenX ?_
         refine co_blockX ?_
         refine co_then ?_
         refine co_seq ?_
         refine dr_gen (fun x => Below w.heap.size w x ∧ Blk x N3 58 #[.int .i64 d.k, .int .i64 d.n, .int .u64 d.t, .int .i64 d.ep, mv, .int .u64 d.fl, lv, .int .i64 d.ec, .int .i64 d.er, ev, .int .u64 d.ets, .int .i64 d.pid, .int .u64 d.pat, .int .i64 d.plf, .int .i64 d.sc, .int .i64 d.sr, .int .i64 d.se, .int .i64 d.sp]) (by kernel_rfl) (fun w87 hg88 => ?_) (fun w87 hg88 => ?_)
         ·
          have hz89 := hg88.size
          have hB90 := hb_new hB51 hg88
          have hk91 := hk52.kept hg88 (by simp)
          exact ⟨hB90, hk91⟩
         have hz92 := hg88.size
         have hB93 := hb_new hB51 hg88
         have hk94 := hk52.kept hg88 (by simp)
         refine dk0 0 (v := pt b37 0) h85 rfl rfl ⟨hB93, hk94⟩ fun a95 h95 => ?_; clear h85
         refine dk0 1 (v := pt N3 14) h95 rfl rfl ⟨hB93, hk94⟩ fun a96 h96 => ?_; clear h95
         refine dk0 2 (v := pt N3 14) h96 rfl rfl ⟨hB93, hk94⟩ fun a97 h97 => ?_; clear h96
         refine dk 3 (v := .int .i64 d.sc) h97 rfl rfl ⟨hB93, hk94⟩ (fun x hx => (rn_load1 rfl rfl Tryz.isAgg3 (hx.2.cell rfl))) fun a98 h98 => ?_; clear h97
         refine dk0 5 (v := pt N3 14) h98 rfl rfl ⟨hB93, hk94⟩ fun a99 h99 => ?_; clear h98
         refine dk0 6 (v := pt N3 15) h99 rfl rfl ⟨hB93, hk94⟩ fun a100 h100 => ?_; clear h99
         refine dk 7 (v := .int .i64 d.sr) h100 rfl rfl ⟨hB93, hk94⟩ (fun x hx => (rn_load1 rfl rfl Tryz.isAgg3 (hx.2.cell rfl))) fun a101 h101 => ?_; clear h100
         refine dk0 9 (v := pt N3 14) h101 rfl rfl ⟨hB93, hk94⟩ fun a102 h102 => ?_; clear h101
         refine dk0 10 (v := pt N3 16) h102 rfl rfl ⟨hB93, hk94⟩ fun a103 h103 => ?_; clear h102
         refine dk 11 (v := .int .i64 d.se) h103 rfl rfl ⟨hB93, hk94⟩ (fun x hx => (rn_load1 rfl rfl Tryz.isAgg23 (hx.2.cell rfl))) fun a104 h104 => ?_; clear h103
         refine dk0 13 (v := pt N3 14) h104 rfl rfl ⟨hB93, hk94⟩ fun a105 h105 => ?_; clear h104
         refine dk0 14 (v := pt N3 17) h105 rfl rfl ⟨hB93, hk94⟩ fun a106 h106 => ?_; clear h105
         refine dk 15 (v := .int .i64 d.sp) h106 rfl rfl ⟨hB93, hk94⟩ (fun x hx => (rn_load1 rfl rfl Tryz.isAgg3 (hx.2.cell rfl))) fun a107 h107 => ?_; clear h106
         have ho112 := ho47.new hg88
         refine d1 4 h107 rfl rfl (op_call (args := #[pt b37 0, .int .i64 d.sc]) (R := fun res xw => res = pt b37 0 ∧ OW b37 ((([] : List UInt8) ++ putL d.k) ++ putL d.sc) (0 + 9 + 9) xw ∧ But (Rw w87 b37) w87 xw) rfl rfl rfl (by kernel_rfl) (by kernel_rfl) (Tryz.call30 _ _) (ow_num b37 (([] : List UInt8) ++ putL d.k) (0 + 9) d.sc w87 ho112 (by omega) (by omega) (by omega)) (by rintro e x ⟨rfl, h1, h2⟩; exact ⟨_, rfl, rfl, h1, h2⟩)) ?_ ?_; clear h107
         ·
          rintro _ w109 ⟨rfl, ho110, hx111⟩
          have hz113 := hx111.size
          have hl114 := ho110.lt
          have hB115 := hb_wr hB93 ho112 (by omega) hx111
          have hk116 := blk_wr hk94 ho112 (by decide) (by omega) hx111
          exact ⟨hB115, hk116⟩
         rintro _ w109 a108 ⟨rfl, ho110, hx111⟩ h108
         have hz113 := hx111.size
         have hl114 := ho110.lt
         have hB115 := hb_wr hB93 ho112 (by omega) hx111
         have hk116 := blk_wr hk94 ho112 (by decide) (by omega) hx111
         refine d1 8 h108 rfl rfl (op_call (args := #[pt b37 0, .int .i64 d.sr]) (R := fun res xw => res = pt b37 0 ∧ OW b37 (((([] : List UInt8) ++ putL d.k) ++ putL d.sc) ++ putL d.sr) (0 + 9 + 9 + 9) xw ∧ But (Rw w109 b37) w109 xw) rfl rfl rfl (by kernel_rfl) (by kernel_rfl) (Tryz.call30 _ _) (ow_num b37 ((([] : List UInt8) ++ putL d.k) ++ putL d.sc) (0 + 9 + 9) d.sr w109 ho110 (by omega) (by omega) (by omega)) (by rintro e x ⟨rfl, h1, h2⟩; exact ⟨_, rfl, rfl, h1, h2⟩)) ?_ ?_; clear h108
         ·
          rintro _ w118 ⟨rfl, ho119, hx120⟩
          have hz121 := hx120.size
          have hl122 := ho119.lt
          have hB123 := hb_wr hB115 ho110 (by omega) hx120
          have hk124 := blk_wr hk116 ho110 (by decide) (by omega) hx120
          exact ⟨hB123, hk124⟩
         rintro _ w118 a117 ⟨rfl, ho119, hx120⟩ h117
         have hz121 := hx120.size
         have hl122 := ho119.lt
         have hB123 := hb_wr hB115 ho110 (by omega) hx120
         have hk124 := blk_wr hk116 ho110 (by decide) (by omega) hx120
         refine d1 12 h117 rfl rfl (op_call (args := #[pt b37 0, .int .i64 d.se]) (R := fun res xw => res = pt b37 0 ∧ OW b37 ((((([] : List UInt8) ++ putL d.k) ++ putL d.sc) ++ putL d.sr) ++ putL d.se) (0 + 9 + 9 + 9 + 9) xw ∧ But (Rw w118 b37) w118 xw) rfl rfl rfl (by kernel_rfl) (by kernel_rfl) (Tryz.call30 _ _) (ow_num b37 (((([] : List UInt8) ++ putL d.k) ++ putL d.sc) ++ putL d.sr) (0 + 9 + 9 + 9) d.se w118 ho119 (by omega) (by omega) (by omega)) (by rintro e x ⟨rfl, h1, h2⟩; exact ⟨_, rfl, rfl, h1, h2⟩)) ?_ ?_; clear h117
         ·
          rintro _ w126 ⟨rfl, ho127, hx128⟩
          have hz129 := hx128.size
          have hl130 := ho127.lt
          have hB131 := hb_wr hB123 ho119 (by omega) hx128
          have hk132 := blk_wr hk124 ho119 (by decide) (by omega) hx128
          exact ⟨hB131, hk132⟩
         rintro _ w126 a125 ⟨rfl, ho127, hx128⟩ h125
         have hz129 := hx128.size
         have hl130 := ho127.lt
         have hB131 := hb_wr hB123 ho119 (by omega) hx128
         have hk132 := blk_wr hk124 ho119 (by decide) (by omega) hx128
         refine d1 16 h125 rfl rfl (op_call (args := #[pt b37 0, .int .i64 d.sp]) (R := fun res xw => res = pt b37 0 ∧ OW b37 (((((([] : List UInt8) ++ putL d.k) ++ putL d.sc) ++ putL d.sr) ++ putL d.se) ++ putL d.sp) (0 + 9 + 9 + 9 + 9 + 9) xw ∧ But (Rw w126 b37) w126 xw) rfl rfl rfl (by kernel_rfl) (by kernel_rfl) (Tryz.call30 _ _) (ow_num b37 ((((([] : List UInt8) ++ putL d.k) ++ putL d.sc) ++ putL d.sr) ++ putL d.se) (0 + 9 + 9 + 9 + 9) d.sp w126 ho127 (by omega) (by omega) (by omega)) (by rintro e x ⟨rfl, h1, h2⟩; exact ⟨_, rfl, rfl, h1, h2⟩)) ?_ ?_; clear h125
         ·
          rintro _ w134 ⟨rfl, ho135, hx136⟩
          have hz137 := hx136.size
          have hl138 := ho135.lt
          have hB139 := hb_wr hB131 ho127 (by omega) hx136
          have hk140 := blk_wr hk132 ho127 (by decide) (by omega) hx136
          exact ⟨hB139, hk140⟩
         rintro _ w134 a133 ⟨rfl, ho135, hx136⟩ h133
         have hz137 := hx136.size
         have hl138 := ho135.lt
         refine dr_done (by kernel_rfl) ?_
         refine co_then ?_
         refine wp_exit ?_
         refine co_blockX ?_
         refine co_then ?_
         refine co_seq ?_
         refine co_reg ?_
         refine pk0 (v := pt b37 0) h133 rfl fun a139 h139 => ?_; clear h133
         refine pw h139 rfl (op_call (args := #[pt b37 0]) (R := fun res xw => res = .tuple #[.string (⟨(((((([] : List UInt8) ++ putL d.k) ++ putL d.sc) ++ putL d.sr) ++ putL d.se) ++ putL d.sp).toArray⟩), .int .i64 0] ∧ Below w134.heap.size w134 xw) rfl rfl rfl (by kernel_rfl) (by kernel_rfl) (Tryz.call33 _ _) (ow_done b37 (((((([] : List UInt8) ++ putL d.k) ++ putL d.sc) ++ putL d.sr) ++ putL d.se) ++ putL d.sp) (0 + 9 + 9 + 9 + 9 + 9) w134 ho135) (by rintro e x ⟨rfl, h2⟩; exact ⟨_, rfl, rfl, h2⟩)) ?_; clear h139
         rintro _ w141 a140 ⟨rfl, hb142⟩ h140
         have hz143 := hb142.size
         refine pk0 (v := .string (⟨(((((([] : List UInt8) ++ putL d.k) ++ putL d.sc) ++ putL d.sr) ++ putL d.se) ++ putL d.sp).toArray⟩)) h140 rfl fun a144 h144 => ?_; clear h140
         refine pk0 (v := .int .i64 0) h144 rfl fun a145 h145 => ?_; clear h144
         refine pk0 (v := .string (⟨(((((([] : List UInt8) ++ putL d.k) ++ putL d.sc) ++ putL d.sr) ++ putL d.se) ++ putL d.sp).toArray⟩)) h145 rfl fun a146 h146 => ?_; clear h145
         refine pk0 (v := .int .i64 0) h146 rfl fun a147 h147 => ?_; clear h146
         refine pl_nil ?_
         refine co_then ?_
         refine wp_ret ?_
         refine co_ret2 h147 rfl rfl rfl ?_
         have hB148 := hb_wr hB131 ho127 (by omega) hx136
         have hB149 := hb_call hB148 hb142
         have hc0 : chkN d = 0 := by omega
         have hkk : d.k = 8 := by omega
         exact ⟨by rw [putN_ok hc0, hc0]; simp [putNL, txt, hkk], hB149⟩
        ·
         rw [hc82] at h81
         have hp150 : d.k = 6 := by first | simpa using hc82 | simpa [and_assoc] using hc82
         clear hc82
         refine co_true h81 rfl ?_
         refine wp_exit ?_
         refine co_thenX ?_
         refine co_thenX ?_
         refine co_blockY (by decide) ?_
         refine co_thenX ?_
         refine co_blockY (by decide) ?_
         refine co_thenX ?_
         refine co_blockY (by decide) ?_
         refine co_thenX ?_
         refine co_blockY (by decide) ?_
         refine co_thenX ?_
         refine co_blockY (by decide) ?_
         refine co_thenX ?_
         refine co_blockX ?_
         refine co_then ?_
         refine co_seq ?_
         refine dr_gen (fun x => Below w.heap.size w x ∧ Blk x N3 58 #[.int .i64 d.k, .int .i64 d.n, .int .u64 d.t, .int .i64 d.ep, mv, .int .u64 d.fl, lv, .int .i64 d.ec, .int .i64 d.er, ev, .int .u64 d.ets, .int .i64 d.pid, .int .u64 d.pat, .int .i64 d.plf, .int .i64 d.sc, .int .i64 d.sr, .int .i64 d.se, .int .i64 d.sp]) (by kernel_rfl) (fun w151 hg152 => ?_) (fun w151 hg152 => ?_)
         ·
          have hz153 := hg152.size
          have hB154 := hb_new hB51 hg152
          have hk155 := hk52.kept hg152 (by simp)
          exact ⟨hB154, hk155⟩
         have hz156 := hg152.size
         have hB157 := hb_new hB51 hg152
         have hk158 := hk52.kept hg152 (by simp)
         refine dk0 0 (v := pt b37 0) h81 rfl rfl ⟨hB157, hk158⟩ fun a159 h159 => ?_; clear h81
         refine dk0 1 (v := pt N3 11) h159 rfl rfl ⟨hB157, hk158⟩ fun a160 h160 => ?_; clear h159
         refine dk0 2 (v := pt N3 11) h160 rfl rfl ⟨hB157, hk158⟩ fun a161 h161 => ?_; clear h160
         refine dk 3 (v := .int .i64 d.pid) h161 rfl rfl ⟨hB157, hk158⟩ (fun x hx => (rn_load1 rfl rfl Tryz.isAgg3 (hx.2.cell rfl))) fun a162 h162 => ?_; clear h161
         refine dk0 5 (v := pt N3 11) h162 rfl rfl ⟨hB157, hk158⟩ fun a163 h163 => ?_; clear h162
         refine dk0 6 (v := pt N3 12) h163 rfl rfl ⟨hB157, hk158⟩ fun a164 h164 => ?_; clear h163
         refine dk 7 (v := .int .u64 d.pat) h164 rfl rfl ⟨hB157, hk158⟩ (fun x hx => (rn_load1 rfl rfl Tryz.isAgg22 (hx.2.cell rfl))) fun a165 h165 => ?_; clear h164
         refine dk0 9 (v := pt N3 11) h165 rfl rfl ⟨hB157, hk158⟩ fun a166 h166 => ?_; clear h165
         refine dk0 10 (v := pt N3 13) h166 rfl rfl ⟨hB157, hk158⟩ fun a167 h167 => ?_; clear h166
         refine dk 11 (v := .int .i64 d.plf) h167 rfl rfl ⟨hB157, hk158⟩ (fun x hx => (rn_load1 rfl rfl Tryz.isAgg3 (hx.2.cell rfl))) fun a168 h168 => ?_; clear h167
         have ho173 := ho47.new hg152
         refine d1 4 h168 rfl rfl (op_call (args := #[pt b37 0, .int .i64 d.pid]) (R := fun res xw => res = pt b37 0 ∧ OW b37 ((([] : List UInt8) ++ putL d.k) ++ putL d.pid) (0 + 9 + 9) xw ∧ But (Rw w151 b37) w151 xw) rfl rfl rfl (by kernel_rfl) (by kernel_rfl) (Tryz.call30 _ _) (ow_num b37 (([] : List UInt8) ++ putL d.k) (0 + 9) d.pid w151 ho173 (by omega) (by omega) (by omega)) (by rintro e x ⟨rfl, h1, h2⟩; exact ⟨_, rfl, rfl, h1, h2⟩)) ?_ ?_; clear h168
         ·
          rintro _ w170 ⟨rfl, ho171, hx172⟩
          have hz174 := hx172.size
          have hl175 := ho171.lt
          have hB176 := hb_wr hB157 ho173 (by omega) hx172
          have hk177 := blk_wr hk158 ho173 (by decide) (by omega) hx172
          exact ⟨hB176, hk177⟩
         rintro _ w170 a169 ⟨rfl, ho171, hx172⟩ h169
         have hz174 := hx172.size
         have hl175 := ho171.lt
         have hB176 := hb_wr hB157 ho173 (by omega) hx172
         have hk177 := blk_wr hk158 ho173 (by decide) (by omega) hx172
         refine d1 8 h169 rfl rfl (op_call (args := #[pt b37 0, .int .u64 d.pat]) (R := fun res xw => res = pt b37 0 ∧ OW b37 (((([] : List UInt8) ++ putL d.k) ++ putL d.pid) ++ putL d.pat) (0 + 9 + 9 + 9) xw ∧ But (Rw w170 b37) w170 xw) rfl rfl rfl (by kernel_rfl) (by kernel_rfl) (Tryz.call69 _ _) (ow_big b37 ((([] : List UInt8) ++ putL d.k) ++ putL d.pid) (0 + 9 + 9) d.pat w170 ho171 (by omega) (by omega) (by omega)) (by rintro e x ⟨rfl, h1, h2⟩; exact ⟨_, rfl, rfl, h1, h2⟩)) ?_ ?_; clear h169
         ·
          rintro _ w179 ⟨rfl, ho180, hx181⟩
          have hz182 := hx181.size
          have hl183 := ho180.lt
          have hB184 := hb_wr hB176 ho171 (by omega) hx181
          have hk185 := blk_wr hk177 ho171 (by decide) (by omega) hx181
          exact ⟨hB184, hk185⟩
         rintro _ w179 a178 ⟨rfl, ho180, hx181⟩ h178
         have hz182 := hx181.size
         have hl183 := ho180.lt
         have hB184 := hb_wr hB176 ho171 (by omega) hx181
         have hk185 := blk_wr hk177 ho171 (by decide) (by omega) hx181
         refine d1 12 h178 rfl rfl (op_call (args := #[pt b37 0, .int .i64 d.plf]) (R := fun res xw => res = pt b37 0 ∧ OW b37 ((((([] : List UInt8) ++ putL d.k) ++ putL d.pid) ++ putL d.pat) ++ putL d.plf) (0 + 9 + 9 + 9 + 9) xw ∧ But (Rw w179 b37) w179 xw) rfl rfl rfl (by kernel_rfl) (by kernel_rfl) (Tryz.call30 _ _) (ow_num b37 (((([] : List UInt8) ++ putL d.k) ++ putL d.pid) ++ putL d.pat) (0 + 9 + 9 + 9) d.plf w179 ho180 (by omega) (by omega) (by omega)) (by rintro e x ⟨rfl, h1, h2⟩; exact ⟨_, rfl, rfl, h1, h2⟩)) ?_ ?_; clear h178
         ·
          rintro _ w187 ⟨rfl, ho188, hx189⟩
          have hz190 := hx189.size
          have hl191 := ho188.lt
          have hB192 := hb_wr hB184 ho180 (by omega) hx189
          have hk193 := blk_wr hk185 ho180 (by decide) (by omega) hx189
          exact ⟨hB192, hk193⟩
         rintro _ w187 a186 ⟨rfl, ho188, hx189⟩ h186
         have hz190 := hx189.size
         have hl191 := ho188.lt
         refine dr_done (by kernel_rfl) ?_
         refine co_then ?_
         refine wp_exit ?_
         refine co_blockY (by decide) ?_
         refine co_thenX ?_
         refine co_blockX ?_
         refine co_then ?_
         refine co_seq ?_
         refine co_reg ?_
         refine pk0 (v := pt b37 0) h186 rfl fun a192 h192 => ?_; clear h186
         refine pw h192 rfl (op_call (args := #[pt b37 0]) (R := fun res xw => res = .tuple #[.string (⟨((((([] : List UInt8) ++ putL d.k) ++ putL d.pid) ++ putL d.pat) ++ putL d.plf).toArray⟩), .int .i64 0] ∧ Below w187.heap.size w187 xw) rfl rfl rfl (by kernel_rfl) (by kernel_rfl) (Tryz.call33 _ _) (ow_done b37 ((((([] : List UInt8) ++ putL d.k) ++ putL d.pid) ++ putL d.pat) ++ putL d.plf) (0 + 9 + 9 + 9 + 9) w187 ho188) (by rintro e x ⟨rfl, h2⟩; exact ⟨_, rfl, rfl, h2⟩)) ?_; clear h192
         rintro _ w194 a193 ⟨rfl, hb195⟩ h193
         have hz196 := hb195.size
         refine pk0 (v := .string (⟨((((([] : List UInt8) ++ putL d.k) ++ putL d.pid) ++ putL d.pat) ++ putL d.plf).toArray⟩)) h193 rfl fun a197 h197 => ?_; clear h193
         refine pk0 (v := .int .i64 0) h197 rfl fun a198 h198 => ?_; clear h197
         refine pk0 (v := .string (⟨((((([] : List UInt8) ++ putL d.k) ++ putL d.pid) ++ putL d.pat) ++ putL d.plf).toArray⟩)) h198 rfl fun a199 h199 => ?_; clear h198
         refine pk0 (v := .int .i64 0) h199 rfl fun a200 h200 => ?_; clear h199
         refine pl_nil ?_
         refine co_then ?_
         refine wp_ret ?_
         refine co_ret2 h200 rfl rfl rfl ?_
         have hB201 := hb_wr hB184 ho180 (by omega) hx189
         have hB202 := hb_call hB201 hb195
         have hc0 : chkN d = 0 := by omega
         have hkk : d.k = 6 := by omega
         exact ⟨by rw [putN_ok hc0, hc0]; simp [putNL, txt, hkk], hB202⟩
       ·
        rw [hc78] at h77
        have hp203 : d.k = 7 := by first | simpa using hc78 | simpa [and_assoc] using hc78
        clear hc78
        refine co_true h77 rfl ?_
        refine wp_exit ?_
        refine co_thenX ?_
        refine co_thenX ?_
        refine co_blockY (by decide) ?_
        refine co_thenX ?_
        refine co_blockY (by decide) ?_
        refine co_thenX ?_
        refine co_blockY (by decide) ?_
        refine co_thenX ?_
        refine co_blockY (by decide) ?_
        refine co_thenX ?_
        refine co_blockX ?_
        refine co_then ?_
        refine co_seq ?_
        refine co_reg ?_
        refine pk0 (v := pt b37 0) h77 rfl fun a204 h204 => ?_; clear h77
        refine pk0 (v := pt N3 1) h204 rfl fun a205 h205 => ?_; clear h204
        refine pk (v := .int .i64 d.n) h205 rfl (rn_load1 rfl rfl Tryz.isAgg3 (hk52.cell rfl)) fun a206 h206 => ?_; clear h205
        refine pw h206 rfl (op_call (args := #[pt b37 0, .int .i64 d.n]) (R := fun res xw => res = pt b37 0 ∧ OW b37 ((([] : List UInt8) ++ putL d.k) ++ putL d.n) (0 + 9 + 9) xw ∧ But (Rw w46 b37) w46 xw) rfl rfl rfl (by kernel_rfl) (by kernel_rfl) (Tryz.call30 _ _) (ow_num b37 (([] : List UInt8) ++ putL d.k) (0 + 9) d.n w46 ho47 (by omega) (by omega) (by omega)) (by rintro e x ⟨rfl, h1, h2⟩; exact ⟨_, rfl, rfl, h1, h2⟩)) ?_; clear h206
        rintro _ w208 a207 ⟨rfl, ho209, hx210⟩ h207
        have hz211 := hx210.size
        have hl212 := ho209.lt
        refine pl_nil ?_
        refine co_then ?_
        refine wp_exit ?_
        refine co_blockY (by decide) ?_
        refine co_thenX ?_
        refine co_blockY (by decide) ?_
        refine co_thenX ?_
        refine co_blockX ?_
        refine co_then ?_
        refine co_seq ?_
        refine co_reg ?_
        refine pk0 (v := pt b37 0) h207 rfl fun a213 h213 => ?_; clear h207
        refine pw h213 rfl (op_call (args := #[pt b37 0]) (R := fun res xw => res = .tuple #[.string (⟨((([] : List UInt8) ++ putL d.k) ++ putL d.n).toArray⟩), .int .i64 0] ∧ Below w208.heap.size w208 xw) rfl rfl rfl (by kernel_rfl) (by kernel_rfl) (Tryz.call33 _ _) (ow_done b37 ((([] : List UInt8) ++ putL d.k) ++ putL d.n) (0 + 9 + 9) w208 ho209) (by rintro e x ⟨rfl, h2⟩; exact ⟨_, rfl, rfl, h2⟩)) ?_; clear h213
        rintro _ w215 a214 ⟨rfl, hb216⟩ h214
        have hz217 := hb216.size
        refine pk0 (v := .string (⟨((([] : List UInt8) ++ putL d.k) ++ putL d.n).toArray⟩)) h214 rfl fun a218 h218 => ?_; clear h214
        refine pk0 (v := .int .i64 0) h218 rfl fun a219 h219 => ?_; clear h218
        refine pk0 (v := .string (⟨((([] : List UInt8) ++ putL d.k) ++ putL d.n).toArray⟩)) h219 rfl fun a220 h220 => ?_; clear h219
        refine pk0 (v := .int .i64 0) h220 rfl fun a221 h221 => ?_; clear h220
        refine pl_nil ?_
        refine co_then ?_
        refine wp_ret ?_
        refine co_ret2 h221 rfl rfl rfl ?_
        have hB222 := hb_wr hB51 ho47 (by omega) hx210
        have hB223 := hb_call hB222 hb216
        have hc0 : chkN d = 0 := by omega
        have hkk : d.k = 7 := by omega
        exact ⟨by rw [putN_ok hc0, hc0]; simp [putNL, txt, hkk], hB223⟩
      ·
       rw [hc74] at h73
       have hp224 : d.k = 5 := by first | simpa using hc74 | simpa [and_assoc] using hc74
       clear hc74
       refine co_true h73 rfl ?_
       refine wp_skip ?_
       refine co_then ?_
       refine co_true h73 rfl ?_
       refine wp_exit ?_
       refine co_thenX ?_
       refine co_thenX ?_
       refine co_blockY (by decide) ?_
       refine co_thenX ?_
       refine co_blockY (by decide) ?_
       refine co_thenX ?_
       refine co_blockY (by decide) ?_
       refine co_thenX ?_
       refine co_blockY (by decide) ?_
       refine co_thenX ?_
       refine co_blockX ?_
       refine co_then ?_
       refine co_seq ?_
       refine co_reg ?_
       refine pk0 (v := pt b37 0) h73 rfl fun a225 h225 => ?_; clear h73
       refine pk0 (v := pt N3 1) h225 rfl fun a226 h226 => ?_; clear h225
       refine pk (v := .int .i64 d.n) h226 rfl (rn_load1 rfl rfl Tryz.isAgg3 (hk52.cell rfl)) fun a227 h227 => ?_; clear h226
       refine pw h227 rfl (op_call (args := #[pt b37 0, .int .i64 d.n]) (R := fun res xw => res = pt b37 0 ∧ OW b37 ((([] : List UInt8) ++ putL d.k) ++ putL d.n) (0 + 9 + 9) xw ∧ But (Rw w46 b37) w46 xw) rfl rfl rfl (by kernel_rfl) (by kernel_rfl) (Tryz.call30 _ _) (ow_num b37 (([] : List UInt8) ++ putL d.k) (0 + 9) d.n w46 ho47 (by omega) (by omega) (by omega)) (by rintro e x ⟨rfl, h1, h2⟩; exact ⟨_, rfl, rfl, h1, h2⟩)) ?_; clear h227
       rintro _ w229 a228 ⟨rfl, ho230, hx231⟩ h228
       have hz232 := hx231.size
       have hl233 := ho230.lt
       refine pl_nil ?_
       refine co_then ?_
       refine wp_exit ?_
       refine co_blockY (by decide) ?_
       refine co_thenX ?_
       refine co_blockY (by decide) ?_
       refine co_thenX ?_
       refine co_blockX ?_
       refine co_then ?_
       refine co_seq ?_
       refine co_reg ?_
       refine pk0 (v := pt b37 0) h228 rfl fun a234 h234 => ?_; clear h228
       refine pw h234 rfl (op_call (args := #[pt b37 0]) (R := fun res xw => res = .tuple #[.string (⟨((([] : List UInt8) ++ putL d.k) ++ putL d.n).toArray⟩), .int .i64 0] ∧ Below w229.heap.size w229 xw) rfl rfl rfl (by kernel_rfl) (by kernel_rfl) (Tryz.call33 _ _) (ow_done b37 ((([] : List UInt8) ++ putL d.k) ++ putL d.n) (0 + 9 + 9) w229 ho230) (by rintro e x ⟨rfl, h2⟩; exact ⟨_, rfl, rfl, h2⟩)) ?_; clear h234
       rintro _ w236 a235 ⟨rfl, hb237⟩ h235
       have hz238 := hb237.size
       refine pk0 (v := .string (⟨((([] : List UInt8) ++ putL d.k) ++ putL d.n).toArray⟩)) h235 rfl fun a239 h239 => ?_; clear h235
       refine pk0 (v := .int .i64 0) h239 rfl fun a240 h240 => ?_; clear h239
       refine pk0 (v := .string (⟨((([] : List UInt8) ++ putL d.k) ++ putL d.n).toArray⟩)) h240 rfl fun a241 h241 => ?_; clear h240
       refine pk0 (v := .int .i64 0) h241 rfl fun a242 h242 => ?_; clear h241
       refine pl_nil ?_
       refine co_then ?_
       refine wp_ret ?_
       refine co_ret2 h242 rfl rfl rfl ?_
       have hB243 := hb_wr hB51 ho47 (by omega) hx231
       have hB244 := hb_call hB243 hb237
       have hc0 : chkN d = 0 := by omega
       have hkk : d.k = 5 := by omega
       exact ⟨by rw [putN_ok hc0, hc0]; simp [putNL, txt, hkk], hB244⟩
     ·
      rw [hc70] at h69
      have hp245 : d.k = 4 := by first | simpa using hc70 | simpa [and_assoc] using hc70
      clear hc70
      refine co_true h69 rfl ?_
      refine wp_exit ?_
      refine co_thenX ?_
      refine co_thenX ?_
      refine co_blockY (by decide) ?_
      refine co_thenX ?_
      refine co_blockY (by decide) ?_
      refine co_thenX ?_
      refine co_blockY (by decide) ?_
      refine co_thenX ?_
      refine co_blockX ?_
      refine co_then ?_
      refine co_reg ?_
      refine pk0 (v := pt b37 0) h69 rfl fun a246 h246 => ?_; clear h69
      refine pk0 (v := pt N3 2) h246 rfl fun a247 h247 => ?_; clear h246
      refine pk (v := .int .u64 d.t) h247 rfl (rn_load1 rfl rfl Tryz.isAgg22 (hk52.cell rfl)) fun a248 h248 => ?_; clear h247
      refine pw h248 rfl (op_call (args := #[pt b37 0, .int .u64 d.t]) (R := fun res xw => res = pt b37 0 ∧ OW b37 ((([] : List UInt8) ++ putL d.k) ++ putL d.t) (0 + 9 + 9) xw ∧ But (Rw w46 b37) w46 xw) rfl rfl rfl (by kernel_rfl) (by kernel_rfl) (Tryz.call69 _ _) (ow_big b37 (([] : List UInt8) ++ putL d.k) (0 + 9) d.t w46 ho47 (by omega) (by omega) (by omega)) (by rintro e x ⟨rfl, h1, h2⟩; exact ⟨_, rfl, rfl, h1, h2⟩)) ?_; clear h248
      rintro _ w250 a249 ⟨rfl, ho251, hx252⟩ h249
      have hz253 := hx252.size
      have hl254 := ho251.lt
      refine pl_nil ?_
      refine co_blockN ?_
      refine co_then ?_
      refine co_seq ?_
      refine co_reg ?_
      refine pk0 (v := pt b37 0) h249 rfl fun a255 h255 => ?_; clear h249
      refine pk0 (v := pt N3 1) h255 rfl fun a256 h256 => ?_; clear h255
      have hk257 := blk_wr hk52 ho47 (by decide) (by omega) hx252
      refine pk (v := .int .i64 d.n) h256 rfl (rn_load1 rfl rfl Tryz.isAgg3 (hk257.cell rfl)) fun a258 h258 => ?_; clear h256
      refine pw h258 rfl (op_call (args := #[pt b37 0, .int .i64 d.n]) (R := fun res xw => res = pt b37 0 ∧ OW b37 (((([] : List UInt8) ++ putL d.k) ++ putL d.t) ++ putL d.n) (0 + 9 + 9 + 9) xw ∧ But (Rw w250 b37) w250 xw) rfl rfl rfl (by kernel_rfl) (by kernel_rfl) (Tryz.call30 _ _) (ow_num b37 ((([] : List UInt8) ++ putL d.k) ++ putL d.t) (0 + 9 + 9) d.n w250 ho251 (by omega) (by omega) (by omega)) (by rintro e x ⟨rfl, h1, h2⟩; exact ⟨_, rfl, rfl, h1, h2⟩)) ?_; clear h258
      rintro _ w260 a259 ⟨rfl, ho261, hx262⟩ h259
      have hz263 := hx262.size
      have hl264 := ho261.lt
      refine pl_nil ?_
      refine co_then ?_
      refine wp_exit ?_
      refine co_blockY (by decide) ?_
      refine co_thenX ?_
      refine co_blockY (by decide) ?_
      refine co_thenX ?_
      refine co_blockX ?_
      refine co_then ?_
      refine co_seq ?_
      refine co_reg ?_
      refine pk0 (v := pt b37 0) h259 rfl fun a265 h265 => ?_; clear h259
      refine pw h265 rfl (op_call (args := #[pt b37 0]) (R := fun res xw => res = .tuple #[.string (⟨(((([] : List UInt8) ++ putL d.k) ++ putL d.t) ++ putL d.n).toArray⟩), .int .i64 0] ∧ Below w260.heap.size w260 xw) rfl rfl rfl (by kernel_rfl) (by kernel_rfl) (Tryz.call33 _ _) (ow_done b37 (((([] : List UInt8) ++ putL d.k) ++ putL d.t) ++ putL d.n) (0 + 9 + 9 + 9) w260 ho261) (by rintro e x ⟨rfl, h2⟩; exact ⟨_, rfl, rfl, h2⟩)) ?_; clear h265
      rintro _ w267 a266 ⟨rfl, hb268⟩ h266
      have hz269 := hb268.size
      refine pk0 (v := .string (⟨(((([] : List UInt8) ++ putL d.k) ++ putL d.t) ++ putL d.n).toArray⟩)) h266 rfl fun a270 h270 => ?_; clear h266
      refine pk0 (v := .int .i64 0) h270 rfl fun a271 h271 => ?_; clear h270
      refine pk0 (v := .string (⟨(((([] : List UInt8) ++ putL d.k) ++ putL d.t) ++ putL d.n).toArray⟩)) h271 rfl fun a272 h272 => ?_; clear h271
      refine pk0 (v := .int .i64 0) h272 rfl fun a273 h273 => ?_; clear h272
      refine pl_nil ?_
      refine co_then ?_
      refine wp_ret ?_
      refine co_ret2 h273 rfl rfl rfl ?_
      have hB274 := hb_wr hB51 ho47 (by omega) hx252
      have hB275 := hb_wr hB274 ho251 (by omega) hx262
      have hB276 := hb_call hB275 hb268
      have hc0 : chkN d = 0 := by omega
      have hkk : d.k = 4 := by omega
      exact ⟨by rw [putN_ok hc0, hc0]; simp [putNL, txt, hkk], hB276⟩
    ·
     rw [hc66] at h65
     have hp277 : d.k = 3 := by first | simpa using hc66 | simpa [and_assoc] using hc66
     clear hc66
     refine co_true h65 rfl ?_
     refine wp_exit ?_
     refine co_thenX ?_
     refine co_thenX ?_
     refine co_blockY (by decide) ?_
     refine co_thenX ?_
     refine co_blockY (by decide) ?_
     refine co_thenX ?_
     refine co_blockX ?_
     refine co_then ?_
     refine co_seq ?_
     refine dr_gen (fun x => Below w.heap.size w x ∧ Blk x N3 58 #[.int .i64 d.k, .int .i64 d.n, .int .u64 d.t, .int .i64 d.ep, mv, .int .u64 d.fl, lv, .int .i64 d.ec, .int .i64 d.er, ev, .int .u64 d.ets, .int .i64 d.pid, .int .u64 d.pat, .int .i64 d.plf, .int .i64 d.sc, .int .i64 d.sr, .int .i64 d.se, .int .i64 d.sp]) (by kernel_rfl) (fun w278 hg279 => ?_) (fun w278 hg279 => ?_)
     ·
      have hz280 := hg279.size
      have hB281 := hb_new hB51 hg279
      have hk282 := hk52.kept hg279 (by simp)
      exact ⟨hB281, hk282⟩
     have hz283 := hg279.size
     have hB284 := hb_new hB51 hg279
     have hk285 := hk52.kept hg279 (by simp)
     refine dk0 0 (v := pt b37 0) h65 rfl rfl ⟨hB284, hk285⟩ fun a286 h286 => ?_; clear h65
     refine dk0 1 (v := pt N3 1) h286 rfl rfl ⟨hB284, hk285⟩ fun a287 h287 => ?_; clear h286
     refine dk 2 (v := .int .i64 d.n) h287 rfl rfl ⟨hB284, hk285⟩ (fun x hx => (rn_load1 rfl rfl Tryz.isAgg3 (hx.2.cell rfl))) fun a288 h288 => ?_; clear h287
     refine dk0 4 (v := pt N3 2) h288 rfl rfl ⟨hB284, hk285⟩ fun a289 h289 => ?_; clear h288
     refine dk 5 (v := .int .u64 d.t) h289 rfl rfl ⟨hB284, hk285⟩ (fun x hx => (rn_load1 rfl rfl Tryz.isAgg22 (hx.2.cell rfl))) fun a290 h290 => ?_; clear h289
     have ho295 := ho47.new hg279
     refine d1 3 h290 rfl rfl (op_call (args := #[pt b37 0, .int .i64 d.n]) (R := fun res xw => res = pt b37 0 ∧ OW b37 ((([] : List UInt8) ++ putL d.k) ++ putL d.n) (0 + 9 + 9) xw ∧ But (Rw w278 b37) w278 xw) rfl rfl rfl (by kernel_rfl) (by kernel_rfl) (Tryz.call30 _ _) (ow_num b37 (([] : List UInt8) ++ putL d.k) (0 + 9) d.n w278 ho295 (by omega) (by omega) (by omega)) (by rintro e x ⟨rfl, h1, h2⟩; exact ⟨_, rfl, rfl, h1, h2⟩)) ?_ ?_; clear h290
     ·
      rintro _ w292 ⟨rfl, ho293, hx294⟩
      have hz296 := hx294.size
      have hl297 := ho293.lt
      have hB298 := hb_wr hB284 ho295 (by omega) hx294
      have hk299 := blk_wr hk285 ho295 (by decide) (by omega) hx294
      exact ⟨hB298, hk299⟩
     rintro _ w292 a291 ⟨rfl, ho293, hx294⟩ h291
     have hz296 := hx294.size
     have hl297 := ho293.lt
     have hB298 := hb_wr hB284 ho295 (by omega) hx294
     have hk299 := blk_wr hk285 ho295 (by decide) (by omega) hx294
     refine d1 6 h291 rfl rfl (op_call (args := #[pt b37 0, .int .u64 d.t]) (R := fun res xw => res = pt b37 0 ∧ OW b37 (((([] : List UInt8) ++ putL d.k) ++ putL d.n) ++ putL d.t) (0 + 9 + 9 + 9) xw ∧ But (Rw w292 b37) w292 xw) rfl rfl rfl (by kernel_rfl) (by kernel_rfl) (Tryz.call69 _ _) (ow_big b37 ((([] : List UInt8) ++ putL d.k) ++ putL d.n) (0 + 9 + 9) d.t w292 ho293 (by omega) (by omega) (by omega)) (by rintro e x ⟨rfl, h1, h2⟩; exact ⟨_, rfl, rfl, h1, h2⟩)) ?_ ?_; clear h291
     ·
      rintro _ w301 ⟨rfl, ho302, hx303⟩
      have hz304 := hx303.size
      have hl305 := ho302.lt
      have hB306 := hb_wr hB298 ho293 (by omega) hx303
      have hk307 := blk_wr hk299 ho293 (by decide) (by omega) hx303
      exact ⟨hB306, hk307⟩
     rintro _ w301 a300 ⟨rfl, ho302, hx303⟩ h300
     have hz304 := hx303.size
     have hl305 := ho302.lt
     refine dr_done (by kernel_rfl) ?_
     refine co_then ?_
     refine wp_exit ?_
     refine co_blockY (by decide) ?_
     refine co_thenX ?_
     refine co_blockY (by decide) ?_
     refine co_thenX ?_
     refine co_blockY (by decide) ?_
     refine co_thenX ?_
     refine co_blockY (by decide) ?_
     refine co_thenX ?_
     refine co_blockX ?_
     refine co_then ?_
     refine co_seq ?_
     refine co_reg ?_
     refine pk0 (v := pt b37 0) h300 rfl fun a306 h306 => ?_; clear h300
     refine pw h306 rfl (op_call (args := #[pt b37 0]) (R := fun res xw => res = .tuple #[.string (⟨(((([] : List UInt8) ++ putL d.k) ++ putL d.n) ++ putL d.t).toArray⟩), .int .i64 0] ∧ Below w301.heap.size w301 xw) rfl rfl rfl (by kernel_rfl) (by kernel_rfl) (Tryz.call33 _ _) (ow_done b37 (((([] : List UInt8) ++ putL d.k) ++ putL d.n) ++ putL d.t) (0 + 9 + 9 + 9) w301 ho302) (by rintro e x ⟨rfl, h2⟩; exact ⟨_, rfl, rfl, h2⟩)) ?_; clear h306
     rintro _ w308 a307 ⟨rfl, hb309⟩ h307
     have hz310 := hb309.size
     refine pk0 (v := .string (⟨(((([] : List UInt8) ++ putL d.k) ++ putL d.n) ++ putL d.t).toArray⟩)) h307 rfl fun a311 h311 => ?_; clear h307
     refine pk0 (v := .int .i64 0) h311 rfl fun a312 h312 => ?_; clear h311
     refine pk0 (v := .string (⟨(((([] : List UInt8) ++ putL d.k) ++ putL d.n) ++ putL d.t).toArray⟩)) h312 rfl fun a313 h313 => ?_; clear h312
     refine pk0 (v := .int .i64 0) h313 rfl fun a314 h314 => ?_; clear h313
     refine pl_nil ?_
     refine co_then ?_
     refine wp_ret ?_
     refine co_ret2 h314 rfl rfl rfl ?_
     have hB315 := hb_wr hB298 ho293 (by omega) hx303
     have hB316 := hb_call hB315 hb309
     have hc0 : chkN d = 0 := by omega
     have hkk : d.k = 3 := by omega
     exact ⟨by rw [putN_ok hc0, hc0]; simp [putNL, txt, hkk], hB316⟩
   ·
    rw [hc62] at h61
    have hp317 : d.k = 2 := by first | simpa using hc62 | simpa [and_assoc] using hc62
    clear hc62
    refine co_true h61 rfl ?_
    refine wp_exit ?_
    refine co_thenX ?_
    refine co_thenX ?_
    refine co_blockY (by decide) ?_
    refine co_thenX ?_
    refine co_blockX ?_
    refine co_then ?_
    refine co_seq ?_
    refine co_seq ?_
    refine co_reg ?_
    refine pk0 (v := pt N3 7) h61 rfl fun a318 h318 => ?_; clear h61
    refine pk (v := .agg #[.int .i64 d.ec, .int .i64 d.er, ev, .int .u64 d.ets]) h318 rfl (rn_loadN rfl rfl Tryz.underlying52 rfl (by kernel_rfl) (blk_part hk52 7 (by rfl))) fun a319 h319 => ?_; clear h318
    refine pw h319 rfl (op_call (args := #[.agg #[.int .i64 d.ec, .int .i64 d.er, ev, .int .u64 d.ets]]) (R := fun res xw => res = .tuple #[.string (putE d.ec d.er d.el d.ets), .int .i64 (chkB d.ec d.er d.el)] ∧ Below w46.heap.size w46 xw) rfl rfl rfl (by kernel_rfl) (by kernel_rfl) (Tryz.call68 _ _) (itemPut_any d.ec d.er ev d.el d.ets w46 (he.below hB51) (by omega)) (by rintro e x ⟨rfl, hb322⟩; exact ⟨_, rfl, ⟨rfl, hb322⟩⟩)) ?_; clear h319
    rintro _ w321 a320 ⟨rfl, hb322⟩ h320
    have hz323 := hb322.size
    refine pk0 (v := .tuple #[.string (putE d.ec d.er d.el d.ets), .int .i64 (chkB d.ec d.er d.el)]) h320 rfl fun a324 h324 => ?_; clear h320
    refine pk0 (v := .string (putE d.ec d.er d.el d.ets)) h324 rfl fun a325 h325 => ?_; clear h324
    refine pk0 (v := .int .i64 (chkB d.ec d.er d.el)) h325 rfl fun a326 h326 => ?_; clear h325
    refine pk0 (v := .string (putE d.ec d.er d.el d.ets)) h326 rfl fun a327 h327 => ?_; clear h326
    refine pk0 (v := .int .i64 (chkB d.ec d.er d.el)) h327 rfl fun a328 h328 => ?_; clear h327
    refine pl_nil ?_
    refine co_then ?_
    refine co_reg ?_
    refine pk0 (v := pt b37 0) h328 rfl fun a329 h329 => ?_; clear h328
    refine pk0 (v := pt N3 1) h329 rfl fun a330 h330 => ?_; clear h329
    have hk331 := hk52.below hb322
    refine pk (v := .int .i64 d.n) h330 rfl (rn_load1 rfl rfl Tryz.isAgg3 (hk331.cell rfl)) fun a332 h332 => ?_; clear h330
    have ho337 := ho47.below hb322
    refine pw h332 rfl (op_call (args := #[pt b37 0, .int .i64 d.n]) (R := fun res xw => res = pt b37 0 ∧ OW b37 ((([] : List UInt8) ++ putL d.k) ++ putL d.n) (0 + 9 + 9) xw ∧ But (Rw w321 b37) w321 xw) rfl rfl rfl (by kernel_rfl) (by kernel_rfl) (Tryz.call30 _ _) (ow_num b37 (([] : List UInt8) ++ putL d.k) (0 + 9) d.n w321 ho337 (by omega) (by omega) (by omega)) (by rintro e x ⟨rfl, h1, h2⟩; exact ⟨_, rfl, rfl, h1, h2⟩)) ?_; clear h332
    rintro _ w334 a333 ⟨rfl, ho335, hx336⟩ h333
    have hz338 := hx336.size
    have hl339 := ho335.lt
    refine pk0 (v := .string (putE d.ec d.er d.el d.ets)) h333 rfl fun a340 h340 => ?_; clear h333
    refine pw h340 rfl (op_call (args := #[pt b37 0, .string (putE d.ec d.er d.el d.ets)]) (R := fun res xw => res = pt b37 0 ∧ OW b37 (((([] : List UInt8) ++ putL d.k) ++ putL d.n) ++ (putL ((putE d.ec d.er d.el d.ets : ByteArray).size : Int) ++ (putE d.ec d.er d.el d.ets : ByteArray).data.toList)) (0 + 9 + 9 + (9 + (putE d.ec d.er d.el d.ets : ByteArray).size)) xw ∧ But (Rw w334 b37) w334 xw) rfl rfl rfl (by kernel_rfl) (by kernel_rfl) (Tryz.call67 _ _) (ow_text b37 ((([] : List UInt8) ++ putL d.k) ++ putL d.n) (0 + 9 + 9) (putE d.ec d.er d.el d.ets) w334 ho335 (by first | omega | (simp; done) | (simp; omega))) (by rintro e x ⟨rfl, h1, h2⟩; exact ⟨_, rfl, rfl, h1, h2⟩)) ?_; clear h340
    rintro _ w342 a341 ⟨rfl, ho343, hx344⟩ h341
    have hz345 := hx344.size
    have hl346 := ho343.lt
    refine pl_nil ?_
    refine co_then ?_
    refine wp_exit ?_
    refine co_blockY (by decide) ?_
    refine co_thenX ?_
    refine co_blockY (by decide) ?_
    refine co_thenX ?_
    refine co_blockY (by decide) ?_
    refine co_thenX ?_
    refine co_blockY (by decide) ?_
    refine co_thenX ?_
    refine co_blockY (by decide) ?_
    refine co_thenX ?_
    refine co_blockX ?_
    refine co_then ?_
    refine co_seq ?_
    refine co_reg ?_
    refine pk0 (v := pt b37 0) h341 rfl fun a347 h347 => ?_; clear h341
    refine pw h347 rfl (op_call (args := #[pt b37 0]) (R := fun res xw => res = .tuple #[.string (⟨(((([] : List UInt8) ++ putL d.k) ++ putL d.n) ++ (putL ((putE d.ec d.er d.el d.ets : ByteArray).size : Int) ++ (putE d.ec d.er d.el d.ets : ByteArray).data.toList)).toArray⟩), .int .i64 0] ∧ Below w342.heap.size w342 xw) rfl rfl rfl (by kernel_rfl) (by kernel_rfl) (Tryz.call33 _ _) (ow_done b37 (((([] : List UInt8) ++ putL d.k) ++ putL d.n) ++ (putL ((putE d.ec d.er d.el d.ets : ByteArray).size : Int) ++ (putE d.ec d.er d.el d.ets : ByteArray).data.toList)) (0 + 9 + 9 + (9 + (putE d.ec d.er d.el d.ets : ByteArray).size)) w342 ho343) (by rintro e x ⟨rfl, h2⟩; exact ⟨_, rfl, rfl, h2⟩)) ?_; clear h347
    rintro _ w349 a348 ⟨rfl, hb350⟩ h348
    have hz351 := hb350.size
    refine pk0 (v := .string (⟨(((([] : List UInt8) ++ putL d.k) ++ putL d.n) ++ (putL ((putE d.ec d.er d.el d.ets : ByteArray).size : Int) ++ (putE d.ec d.er d.el d.ets : ByteArray).data.toList)).toArray⟩)) h348 rfl fun a352 h352 => ?_; clear h348
    refine pk0 (v := .int .i64 0) h352 rfl fun a353 h353 => ?_; clear h352
    refine pk0 (v := .string (⟨(((([] : List UInt8) ++ putL d.k) ++ putL d.n) ++ (putL ((putE d.ec d.er d.el d.ets : ByteArray).size : Int) ++ (putE d.ec d.er d.el d.ets : ByteArray).data.toList)).toArray⟩)) h353 rfl fun a354 h354 => ?_; clear h353
    refine pk0 (v := .int .i64 0) h354 rfl fun a355 h355 => ?_; clear h354
    refine pl_nil ?_
    refine co_then ?_
    refine wp_ret ?_
    refine co_ret2 h355 rfl rfl rfl ?_
    have hB356 := hb_call hB51 hb322
    have hB357 := hb_wr hB356 ho337 (by omega) hx336
    have hB358 := hb_wr hB357 ho335 (by omega) hx344
    have hB359 := hb_call hB358 hb350
    have hc0 : chkN d = 0 := by omega
    have hkk : d.k = 2 := by omega
    exact ⟨by rw [putN_ok hc0, hc0]; simp [putNL, txt, hkk], hB359⟩
  ·
   rw [hc58] at h57
   have hp360 : d.k = 1 := by first | simpa using hc58 | simpa [and_assoc] using hc58
   clear hc58
   refine co_true h57 rfl ?_
   refine wp_exit ?_
   refine co_thenX ?_
   refine co_thenX ?_
   refine co_blockX ?_
   refine co_then ?_
   refine co_seq ?_
   refine co_seq ?_
   refine co_reg ?_
   refine pk0 (v := pt N3 3) h57 rfl fun a361 h361 => ?_; clear h57
   refine pk (v := .agg #[.int .i64 d.ep, mv, .int .u64 d.fl]) h361 rfl (rn_loadN rfl rfl Tryz.underlying26 rfl (by kernel_rfl) (blk_part hk52 3 (by rfl))) fun a362 h362 => ?_; clear h361
   refine pw h362 rfl (op_call (args := #[.agg #[.int .i64 d.ep, mv, .int .u64 d.fl]]) (R := fun res xw => res = .tuple #[.string (putCf d.ep d.ms d.fl), .int .i64 (chkC d.ep d.ms)] ∧ Below w46.heap.size w46 xw) rfl rfl rfl (by kernel_rfl) (by kernel_rfl) (Tryz.call66 _ _) (cPut_any d.ep mv d.ms d.fl w46 (hm.below hB51) hR.mem (by omega) (by omega)) (by rintro e x ⟨rfl, hb365⟩; exact ⟨_, rfl, ⟨rfl, hb365⟩⟩)) ?_; clear h362
   rintro _ w364 a363 ⟨rfl, hb365⟩ h363
   have hz366 := hb365.size
   refine pk0 (v := .tuple #[.string (putCf d.ep d.ms d.fl), .int .i64 (chkC d.ep d.ms)]) h363 rfl fun a367 h367 => ?_; clear h363
   refine pk0 (v := .string (putCf d.ep d.ms d.fl)) h367 rfl fun a368 h368 => ?_; clear h367
   refine pk0 (v := .int .i64 (chkC d.ep d.ms)) h368 rfl fun a369 h369 => ?_; clear h368
   refine pk0 (v := .string (putCf d.ep d.ms d.fl)) h369 rfl fun a370 h370 => ?_; clear h369
   refine pk0 (v := .int .i64 (chkC d.ep d.ms)) h370 rfl fun a371 h371 => ?_; clear h370
   refine pl_nil ?_
   refine co_then ?_
   refine co_seq ?_
   refine dr_gen (fun x => Below w.heap.size w x ∧ Blk x N3 58 #[.int .i64 d.k, .int .i64 d.n, .int .u64 d.t, .int .i64 d.ep, mv, .int .u64 d.fl, lv, .int .i64 d.ec, .int .i64 d.er, ev, .int .u64 d.ets, .int .i64 d.pid, .int .u64 d.pat, .int .i64 d.plf, .int .i64 d.sc, .int .i64 d.sr, .int .i64 d.se, .int .i64 d.sp]) (by kernel_rfl) (fun w372 hg373 => ?_) (fun w372 hg373 => ?_)
   ·
    have hz374 := hg373.size
    have hB375 := hb_call hB51 hb365
    have hB376 := hb_new hB375 hg373
    have hk377 := hk52.below hb365
    have hk378 := hk377.kept hg373 (by simp)
    exact ⟨hB376, hk378⟩
   have hz379 := hg373.size
   have hB380 := hb_call hB51 hb365
   have hB381 := hb_new hB380 hg373
   have hk382 := hk52.below hb365
   have hk383 := hk382.kept hg373 (by simp)
   refine dk0 0 (v := pt b37 0) h371 rfl rfl ⟨hB381, hk383⟩ fun a384 h384 => ?_; clear h371
   refine dk0 1 (v := .string (putCf d.ep d.ms d.fl)) h384 rfl rfl ⟨hB381, hk383⟩ fun a385 h385 => ?_; clear h384
   refine dk0 3 (v := pt N3 6) h385 rfl rfl ⟨hB381, hk383⟩ fun a386 h386 => ?_; clear h385
   refine dk 4 (v := lv) h386 rfl rfl ⟨hB381, hk383⟩ (fun x hx => (rn_load1 rfl rfl Tryz.isAgg50 (hx.2.cell rfl))) fun a387 h387 => ?_; clear h386
   refine dk 5 (v := .int .i64 ((d.lg.length : Nat) : Int)) h387 rfl rfl ⟨hB381, hk383⟩ (fun x hx => (rn_len rfl rfl Tryz.underlying50 (hg.below hx.1))) fun a388 h388 => ?_; clear h387
   have ho393 := ho47.below hb365
   have ho394 := ho393.new hg373
   refine d1 2 h388 rfl rfl (op_call (args := #[pt b37 0, .string (putCf d.ep d.ms d.fl)]) (R := fun res xw => res = pt b37 0 ∧ OW b37 ((([] : List UInt8) ++ putL d.k) ++ (putL ((putCf d.ep d.ms d.fl : ByteArray).size : Int) ++ (putCf d.ep d.ms d.fl : ByteArray).data.toList)) (0 + 9 + (9 + (putCf d.ep d.ms d.fl : ByteArray).size)) xw ∧ But (Rw w372 b37) w372 xw) rfl rfl rfl (by kernel_rfl) (by kernel_rfl) (Tryz.call67 _ _) (ow_text b37 (([] : List UInt8) ++ putL d.k) (0 + 9) (putCf d.ep d.ms d.fl) w372 ho394 (by first | omega | (simp; done) | (simp; omega))) (by rintro e x ⟨rfl, h1, h2⟩; exact ⟨_, rfl, rfl, h1, h2⟩)) ?_ ?_; clear h388
   ·
    rintro _ w390 ⟨rfl, ho391, hx392⟩
    have hz395 := hx392.size
    have hl396 := ho391.lt
    have hB397 := hb_wr hB381 ho394 (by omega) hx392
    have hk398 := blk_wr hk383 ho394 (by decide) (by omega) hx392
    exact ⟨hB397, hk398⟩
   rintro _ w390 a389 ⟨rfl, ho391, hx392⟩ h389
   have hz395 := hx392.size
   have hl396 := ho391.lt
   have hB397 := hb_wr hB381 ho394 (by omega) hx392
   have hk398 := blk_wr hk383 ho394 (by decide) (by omega) hx392
   refine d1 6 h389 rfl rfl (op_call (args := #[pt b37 0, .int .i64 ((d.lg.length : Nat) : Int)]) (R := fun res xw => res = pt b37 0 ∧ OW b37 (((([] : List UInt8) ++ putL d.k) ++ (putL ((putCf d.ep d.ms d.fl : ByteArray).size : Int) ++ (putCf d.ep d.ms d.fl : ByteArray).data.toList)) ++ putL ((d.lg.length : Nat) : Int)) (0 + 9 + (9 + (putCf d.ep d.ms d.fl : ByteArray).size) + 9) xw ∧ But (Rw w390 b37) w390 xw) rfl rfl rfl (by kernel_rfl) (by kernel_rfl) (Tryz.call30 _ _) (ow_num b37 ((([] : List UInt8) ++ putL d.k) ++ (putL ((putCf d.ep d.ms d.fl : ByteArray).size : Int) ++ (putCf d.ep d.ms d.fl : ByteArray).data.toList)) (0 + 9 + (9 + (putCf d.ep d.ms d.fl : ByteArray).size)) ((d.lg.length : Nat) : Int) w390 ho391 (by omega) (by omega) (by omega)) (by rintro e x ⟨rfl, h1, h2⟩; exact ⟨_, rfl, rfl, h1, h2⟩)) ?_ ?_; clear h389
   ·
    rintro _ w400 ⟨rfl, ho401, hx402⟩
    have hz403 := hx402.size
    have hl404 := ho401.lt
    have hB405 := hb_wr hB397 ho391 (by omega) hx402
    have hk406 := blk_wr hk398 ho391 (by decide) (by omega) hx402
    exact ⟨hB405, hk406⟩
   rintro _ w400 a399 ⟨rfl, ho401, hx402⟩ h399
   have hz403 := hx402.size
   have hl404 := ho401.lt
   refine dr_done (by kernel_rfl) ?_
   refine co_then ?_
   refine co_seq ?_
   refine co_reg ?_
   refine pk0 (v := pt N3 6) h399 rfl fun a405 h405 => ?_; clear h399
   have hk406 := blk_wr hk398 ho391 (by decide) (by omega) hx402
   refine pk (v := lv) h405 rfl (rn_load1 rfl rfl Tryz.isAgg50 (hk406.cell rfl)) fun a407 h407 => ?_; clear h405
   have hB408 := hb_wr hB397 ho391 (by omega) hx402
   refine pk (v := .int .i64 ((d.lg.length : Nat) : Int)) h407 rfl (rn_len rfl rfl Tryz.underlying50 (hg.below hB408)) fun a409 h409 => ?_; clear h407
   refine pk0 (v := .int .i64 0) h409 rfl fun a410 h410 => ?_; clear h409
   refine pl_nil ?_
   refine co_then ?_
   refine wp_block ?_
   have hlgo := chkLg_ok (l := d.lg) (by omega)
   have hlg2 := hlgo.2
   have h411 : Slots 123 [(1, pt N3 0), (2, .string (⟨#[]⟩)), (3, .int .i64 0), (5, pt b37 0), (22, .int .i64 d.k), (52, lv), (53, .int .i64 ((d.lg.length : Nat) : Int)), (54, .int .i64 0)] _ := h410.sub ⟨rfl, rfl, rfl, rfl, rfl, rfl, rfl, rfl, trivial⟩; clear h410
   refine co_loop (fun mm a x => ∃ (i : Nat), Slots 123 [(1, pt N3 0), (2, .string (⟨#[]⟩)), (3, .int .i64 0), (5, pt b37 0), (22, .int .i64 d.k), (52, lv), (53, .int .i64 ((d.lg.length : Nat) : Int)), (54, .int .i64 ((i : Nat) : Int))] a ∧ mm = d.lg.length - i ∧ (i ≤ d.lg.length) ∧ OW b37 ((((([] : List UInt8) ++ putL d.k) ++ (putL ((putCf d.ep d.ms d.fl : ByteArray).size : Int) ++ (putCf d.ep d.ms d.fl : ByteArray).data.toList)) ++ putL ((d.lg.length : Nat) : Int)) ++ (d.lg.take i).flatMap putL) ((0 + 9 + (9 + (putCf d.ep d.ms d.fl : ByteArray).size) + 9) + 9 * i) x ∧ Below w.heap.size w x ∧ Blk x N3 58 #[.int .i64 d.k, .int .i64 d.n, .int .u64 d.t, .int .i64 d.ep, mv, .int .u64 d.fl, lv, .int .i64 d.ec, .int .i64 d.er, ev, .int .u64 d.ets, .int .i64 d.pid, .int .u64 d.pat, .int .i64 d.plf, .int .i64 d.sc, .int .i64 d.sr, .int .i64 d.se, .int .i64 d.sp]) (d.lg.length - 0) ?_ ?_
   · exact ⟨0, h411.sub ⟨rfl, rfl, rfl, rfl, rfl, rfl, rfl, (slot_eq rfl (congrArg (Value.int .i64) (by first | rfl | omega))), trivial⟩, rfl, by omega, (ho401.eq (by first | (simp; done) | (rw [takeI (by assumption)]; simp)) (by first | omega | (simp; done) | (simp; omega))), hB408, hk406⟩
   · rintro k412 a413 w414 ⟨i, h413, rfl, hi415, hf416, hB417, hk418⟩
     have hz419 := hB417.size
     have hl420 := hk418.lt
     have hl421 := hf416.lt
     refine co_seq ?_
     refine co_reg ?_
     refine pk0 (v := .bool (decide (((i : Nat) : Int) < ((d.lg.length : Nat) : Int)))) h413 rfl fun a422 h422 => ?_; clear h413
     refine pl_nil ?_
     refine co_then ?_
     refine co_seq ?_
     cases hc423 : (decide (((i : Nat) : Int) < ((d.lg.length : Nat) : Int)))
     ·
      rw [hc423] at h422
      have hp424 : ¬ (((i : Nat) : Int) < ((d.lg.length : Nat) : Int)) := of_decide_eq_false hc423
      clear hc423
      refine co_false h422 rfl ?_
      refine wp_exit ?_
      refine co_thenX ?_
      refine co_thenX ?_
      refine co_blockX ?_
      refine co_then ?_
      refine wp_exit ?_
      refine co_blockY (by decide) ?_
      refine co_thenX ?_
      refine co_blockY (by decide) ?_
      refine co_thenX ?_
      refine co_blockY (by decide) ?_
      refine co_thenX ?_
      refine co_blockY (by decide) ?_
      refine co_thenX ?_
      refine co_blockY (by decide) ?_
      refine co_thenX ?_
      refine co_blockY (by decide) ?_
      refine co_thenX ?_
      refine co_blockX ?_
      refine co_then ?_
      refine co_seq ?_
      refine co_reg ?_
      refine pk0 (v := pt b37 0) h422 rfl fun a425 h425 => ?_; clear h422
      refine pw h425 rfl (op_call (args := #[pt b37 0]) (R := fun res xw => res = .tuple #[.string (⟨((((([] : List UInt8) ++ putL d.k) ++ (putL ((putCf d.ep d.ms d.fl : ByteArray).size : Int) ++ (putCf d.ep d.ms d.fl : ByteArray).data.toList)) ++ putL ((d.lg.length : Nat) : Int)) ++ (d.lg.take i).flatMap putL).toArray⟩), .int .i64 0] ∧ Below w414.heap.size w414 xw) rfl rfl rfl (by kernel_rfl) (by kernel_rfl) (Tryz.call33 _ _) (ow_done b37 ((((([] : List UInt8) ++ putL d.k) ++ (putL ((putCf d.ep d.ms d.fl : ByteArray).size : Int) ++ (putCf d.ep d.ms d.fl : ByteArray).data.toList)) ++ putL ((d.lg.length : Nat) : Int)) ++ (d.lg.take i).flatMap putL) ((0 + 9 + (9 + (putCf d.ep d.ms d.fl : ByteArray).size) + 9) + 9 * i) w414 hf416) (by rintro e x ⟨rfl, h2⟩; exact ⟨_, rfl, rfl, h2⟩)) ?_; clear h425
      rintro _ w427 a426 ⟨rfl, hb428⟩ h426
      have hz429 := hb428.size
      refine pk0 (v := .string (⟨((((([] : List UInt8) ++ putL d.k) ++ (putL ((putCf d.ep d.ms d.fl : ByteArray).size : Int) ++ (putCf d.ep d.ms d.fl : ByteArray).data.toList)) ++ putL ((d.lg.length : Nat) : Int)) ++ (d.lg.take i).flatMap putL).toArray⟩)) h426 rfl fun a430 h430 => ?_; clear h426
      refine pk0 (v := .int .i64 0) h430 rfl fun a431 h431 => ?_; clear h430
      refine pk0 (v := .string (⟨((((([] : List UInt8) ++ putL d.k) ++ (putL ((putCf d.ep d.ms d.fl : ByteArray).size : Int) ++ (putCf d.ep d.ms d.fl : ByteArray).data.toList)) ++ putL ((d.lg.length : Nat) : Int)) ++ (d.lg.take i).flatMap putL).toArray⟩)) h431 rfl fun a432 h432 => ?_; clear h431
      refine pk0 (v := .int .i64 0) h432 rfl fun a433 h433 => ?_; clear h432
      refine pl_nil ?_
      refine co_then ?_
      refine wp_ret ?_
      refine co_ret2 h433 rfl rfl rfl ?_
      have hB434 := hb_call hB417 hb428
      have hc0 : chkN d = 0 := by omega
      have hkk : d.k = 1 := by omega
      have hta : d.lg.take i = d.lg := List.take_of_length_le (by omega)
      exact ⟨by rw [putN_ok hc0, hc0]; simp [putNL, txt, hkk, hta], hB434⟩
     ·
      rw [hc423] at h422
      have hp435 : ((i : Nat) : Int) < ((d.lg.length : Nat) : Int) := of_decide_eq_true hc423
      clear hc423
      refine co_true h422 rfl ?_
      refine wp_skip ?_
      refine co_then ?_
      refine co_seq ?_
      refine wp_block ?_
      refine co_seq ?_
      refine co_reg ?_
      obtain ⟨y436, hy436⟩ : ∃ z, d.lg[i]? = some z := ⟨_, List.getElem?_eq_getElem (by first | omega | (simp; done) | (simp; omega))⟩
      have oky436 := hlg2 _ (List.mem_of_getElem? hy436)
      have k437 : 0 ≤ y436 ∧ y436 ≤ 3 := oky436
      refine pk (v := pt (blkOf lv) (offOf lv + i * 1)) h422 rfl (rn_index rfl rfl rfl Tryz.underlying50 Tryz.sizeOf3 (hg.below hB417) (by omega) (by first | omega | (simp; done) | (simp; omega))) fun a438 h438 => ?_; clear h422
      refine pk (v := .int .i64 y436) h438 rfl (rn_load1 rfl rfl Tryz.isAgg3 ((sl_at (hg.below hB417) hy436) 0 _ rfl)) fun a439 h439 => ?_; clear h438
      refine pk0 (v := .int .i64 y436) h439 rfl fun a440 h440 => ?_; clear h439
      refine pl_nil ?_
      refine co_then ?_
      refine co_reg ?_
      refine pk0 (v := pt b37 0) h440 rfl fun a441 h441 => ?_; clear h440
      refine pk0 (v := .int .i64 y436) h441 rfl fun a442 h442 => ?_; clear h441
      refine pw h442 rfl (op_call (args := #[pt b37 0, .int .i64 y436]) (R := fun res xw => res = pt b37 0 ∧ OW b37 (((((([] : List UInt8) ++ putL d.k) ++ (putL ((putCf d.ep d.ms d.fl : ByteArray).size : Int) ++ (putCf d.ep d.ms d.fl : ByteArray).data.toList)) ++ putL ((d.lg.length : Nat) : Int)) ++ (d.lg.take i).flatMap putL) ++ putL y436) ((0 + 9 + (9 + (putCf d.ep d.ms d.fl : ByteArray).size) + 9) + 9 * i + 9) xw ∧ But (Rw w414 b37) w414 xw) rfl rfl rfl (by kernel_rfl) (by kernel_rfl) (Tryz.call30 _ _) (ow_num b37 ((((([] : List UInt8) ++ putL d.k) ++ (putL ((putCf d.ep d.ms d.fl : ByteArray).size : Int) ++ (putCf d.ep d.ms d.fl : ByteArray).data.toList)) ++ putL ((d.lg.length : Nat) : Int)) ++ (d.lg.take i).flatMap putL) ((0 + 9 + (9 + (putCf d.ep d.ms d.fl : ByteArray).size) + 9) + 9 * i) y436 w414 hf416 (by omega) (by omega) (by omega)) (by rintro e x ⟨rfl, h1, h2⟩; exact ⟨_, rfl, rfl, h1, h2⟩)) ?_; clear h442
      rintro _ w444 a443 ⟨rfl, ho445, hx446⟩ h443
      have hz447 := hx446.size
      have hl448 := ho445.lt
      refine pl_nil ?_
      refine co_blockN ?_
      refine co_then ?_
      refine co_reg ?_
      refine pk (v := .int .i64 ((i + 1 : Nat) : Int)) h443 rfl (rn_arith' rfl rfl rfl rfl rfl rfl (IntWalk.i64_in _ (by omega)) (by omega)) fun a449 h449 => ?_; clear h443
      refine pk0 (v := .int .i64 ((i + 1 : Nat) : Int)) h449 rfl fun a450 h450 => ?_; clear h449
      refine pl_nil ?_
      refine co_then ?_
      refine ⟨(d.lg.length - (i + 1)), by omega, ?_⟩
      have hB451 := hb_wr hB417 hf416 (by omega) hx446
      have hk452 := blk_wr hk418 hf416 (by decide) (by omega) hx446
      exact ⟨i + 1, h450.sub ⟨rfl, rfl, rfl, rfl, rfl, rfl, rfl, rfl, trivial⟩, rfl, by omega, (ho445.eq (by first | (simp; done) | (rw [takeI (by assumption)]; simp)) (by first | omega | (simp; done) | (simp; omega))), hB451, hk452⟩
 ·
  rw [hc20] at h19
  have hp453 : chkN d ≠ 0 := by first | simpa using hc20 | simpa [and_assoc] using hc20
  clear hc20
  refine co_true h19 rfl ?_
  refine co_seq ?_
  refine co_reg ?_
  refine pk0 (v := .int .i64 (chkN d)) h19 rfl fun a454 h454 => ?_; clear h19
  refine pk0 (v := .string (⟨#[]⟩)) h454 rfl fun a455 h455 => ?_; clear h454
  refine pk0 (v := .int .i64 (chkN d)) h455 rfl fun a456 h456 => ?_; clear h455
  refine pl_nil ?_
  refine co_then ?_
  refine wp_ret ?_
  refine co_thenR ?_
  refine co_ret2 h456 rfl rfl rfl ?_
  exact ⟨by rw [putN_err (by assumption)], hB21⟩
end Go.Proofs.YteioaaegooebpaaGreat

/- Package note: what is read. Conditions: none. -/
namespace Go.Proofs.YteioaaegooebpaaGreat
open Go.RowKit Go.PlainAid
set_option linter.unusedVariables false


def rgStep (s : ByteArray) (q : List Int × Int × Int) : List Int × Int × Int := (q.1 ++ [(numR s q.2.1 q.2.2 3).1], (numR s q.2.1 q.2.2 3).2.1, (numR s q.2.1 q.2.2 3).2.2)
def rgN (s : ByteArray) : Nat → List Int × Int × Int → List Int × Int × Int
  | 0, q => q
  | n + 1, q => rgStep s (rgN s n q)
theorem rgN_step {s : ByteArray} {i : Nat} {q0 : List Int × Int × Int} {l : List Int} {a e x a1 e1 : Int} (h : rgN s i q0 = (l, a, e)) (h1 : numR s a e 3 = (x, a1, e1)) : rgN s (i + 1) q0 = (l ++ [x], a1, e1) := by
  show rgStep s (rgN s i q0) = _
  rw [h]; simp only [rgStep, h1]
/-- A text that is the bytes of a configuration, of an entry: where the reader stands then, the error. -/
def whC (s : ByteArray) (a e : Int) : (Int × List MemT × Int) × Int × Int × Int :=
  let t := textR s a e 65536
  if t.2.2 ≠ 0 then ((0, [], 0), t.2.1, t.2.2, t.2.2) else ((ofC t.1).1, t.2.1, t.2.2, (ofC t.1).2)
def whE (s : ByteArray) (a e : Int) : (Int × Int × List OpT × Int) × Int × Int × Int :=
  let t := textR s a e 65536
  if t.2.2 ≠ 0 then ((0, 0, [], 0), t.2.1, t.2.2, t.2.2) else ((ofE t.1).1, t.2.1, t.2.2, (ofE t.1).2)
theorem whC_a {s t : ByteArray} {a e a1 e1 : Int} (h : textR s a e 65536 = (t, a1, e1)) (h1 : e1 ≠ 0) : whC s a e = ((0, [], 0), a1, e1, e1) := by unfold whC; simp only [h]; rw [if_pos h1]
theorem whC_b {s t : ByteArray} {a e a1 e1 : Int} (h : textR s a e 65536 = (t, a1, e1)) (h1 : ¬ e1 ≠ 0) : whC s a e = ((ofC t).1, a1, e1, (ofC t).2) := by unfold whC; simp only [h]; rw [if_neg h1]
theorem whE_a {s t : ByteArray} {a e a1 e1 : Int} (h : textR s a e 65536 = (t, a1, e1)) (h1 : e1 ≠ 0) : whE s a e = ((0, 0, [], 0), a1, e1, e1) := by unfold whE; simp only [h]; rw [if_pos h1]
theorem whE_b {s t : ByteArray} {a e a1 e1 : Int} (h : textR s a e 65536 = (t, a1, e1)) (h1 : ¬ e1 ≠ 0) : whE s a e = ((ofE t).1, a1, e1, (ofE t).2) := by unfold whE; simp only [h]; rw [if_neg h1]
theorem whC_b' {s t : ByteArray} {a e a1 e1 : Int} (h : textR s a e 65536 = (t, a1, e1)) (h1 : ¬ e1 ≠ 0) : whC s a e = (((ofC t).1.1, (ofC t).1.2.1, (ofC t).1.2.2), a1, e1, (ofC t).2) := whC_b h h1
theorem whE_b' {s t : ByteArray} {a e a1 e1 : Int} (h : textR s a e 65536 = (t, a1, e1)) (h1 : ¬ e1 ≠ 0) : whE s a e = (((ofE t).1.1, (ofE t).1.2.1, (ofE t).1.2.2.1, (ofE t).1.2.2.2), a1, e1, (ofE t).2) := whE_b h h1
def zC (k : Int) (c : Int × List MemT × Int) (g : List Int) : NoteD := ⟨k, 0, 0, c.1, c.2.1, c.2.2, g, 0, 0, [], 0, 0, 0, 0, 0, 0, 0, 0⟩
def zE (k n : Int) (c : Int × Int × List OpT × Int) : NoteD := ⟨k, n, 0, 0, [], 0, [], c.1, c.2.1, c.2.2.1, c.2.2.2, 0, 0, 0, 0, 0, 0, 0⟩
def zT (k n t : Int) : NoteD := ⟨k, n, t, 0, [], 0, [], 0, 0, [], 0, 0, 0, 0, 0, 0, 0, 0⟩
def zP (k a b c : Int) : NoteD := ⟨k, 0, 0, 0, [], 0, [], 0, 0, [], 0, a, b, c, 0, 0, 0, 0⟩
def zS (k a b c d : Int) : NoteD := ⟨k, 0, 0, 0, [], 0, [], 0, 0, [], 0, 0, 0, 0, a, b, c, d⟩
/-- What is read of a note of kind k. -/
def rdNote (s : ByteArray) (k a e : Int) : NoteD × Int × Int × Int :=
  if k = 1 then
    let c := whC s a e
    if c.2.2.2 ≠ 0 then (zC k c.1 [], c.2.1, c.2.2.1, c.2.2.2) else
    let n := numR s c.2.1 c.2.2.1 4
    let q := rgN s n.1.toNat ([], n.2.1, n.2.2)
    (zC k c.1 q.1, q.2.1, q.2.2, q.2.2)
  else if k = 2 then
    let n := numR s a e 1073741824
    let c := whE s n.2.1 n.2.2
    (zE k n.1 c.1, c.2.1, c.2.2.1, c.2.2.2)
  else if k = 3 then
    let n := numR s a e 1073741824
    let t := bigR s n.2.1 n.2.2
    (zT k n.1 t.1, t.2.1, t.2.2, t.2.2)
  else if k = 4 then
    let t := bigR s a e
    let n := numR s t.2.1 t.2.2 1073741824
    (zT k n.1 t.1, n.2.1, n.2.2, n.2.2)
  else if k = 5 ∨ k = 7 then
    let n := numR s a e 1073741824
    (zT k n.1 0, n.2.1, n.2.2, n.2.2)
  else if k = 6 then
    let i := numR s a e 1073741824
    let t := bigR s i.2.1 i.2.2
    let l := numR s t.2.1 t.2.2 1073741824
    (zP k i.1 t.1 l.1, l.2.1, l.2.2, l.2.2)
  else if k = 8 then
    let c := numR s a e 2
    let r := numR s c.2.1 c.2.2 1073741824
    let x := numR s r.2.1 r.2.2 21
    let p := numR s x.2.1 x.2.2 1073741824
    (zS k c.1 r.1 x.1 p.1, p.2.1, p.2.2, p.2.2)
  else (zN k, a, e, e)
theorem rd_1a {s : ByteArray} {k a e a1 e1 r : Int} {c : Int × List MemT × Int} (hk : k = 1) (h : whC s a e = (c, a1, e1, r)) (hr : r ≠ 0) : rdNote s k a e = (zC k c [], a1, e1, r) := by
  subst hk; unfold rdNote; rw [if_pos rfl]; simp only [h]; rw [if_pos hr]
theorem rd_1b {s : ByteArray} {k a e a1 e1 r n a2 e2 a3 e3 : Int} {c : Int × List MemT × Int} {g : List Int} {i : Nat} (hk : k = 1) (h : whC s a e = (c, a1, e1, r)) (hr : ¬ r ≠ 0) (h1 : numR s a1 e1 4 = (n, a2, e2)) (h2 : rgN s i ([], a2, e2) = (g, a3, e3)) (hi : i = n.toNat) : rdNote s k a e = (zC k c g, a3, e3, e3) := by
  subst hk hi; unfold rdNote; rw [if_pos rfl]; simp only [h]; rw [if_neg hr]; simp only [h1, h2]
theorem rd_2 {s : ByteArray} {k a e a1 e1 a2 e2 r n : Int} {c : Int × Int × List OpT × Int} (hk : k = 2) (h : numR s a e 1073741824 = (n, a1, e1)) (h1 : whE s a1 e1 = (c, a2, e2, r)) : rdNote s k a e = (zE k n c, a2, e2, r) := by
  subst hk; unfold rdNote; rw [if_neg (by decide), if_pos rfl]; simp only [h, h1]
theorem rd_3 {s : ByteArray} {k a e a1 e1 a2 e2 n t : Int} (hk : k = 3) (h : numR s a e 1073741824 = (n, a1, e1)) (h1 : bigR s a1 e1 = (t, a2, e2)) : rdNote s k a e = (zT k n t, a2, e2, e2) := by
  subst hk; unfold rdNote; rw [if_neg (by decide), if_neg (by decide), if_pos rfl]; simp only [h, h1]
theorem rd_4 {s : ByteArray} {k a e a1 e1 a2 e2 n t : Int} (hk : k = 4) (h : bigR s a e = (t, a1, e1)) (h1 : numR s a1 e1 1073741824 = (n, a2, e2)) : rdNote s k a e = (zT k n t, a2, e2, e2) := by
  subst hk; unfold rdNote; rw [if_neg (by decide), if_neg (by decide), if_neg (by decide), if_pos rfl]; simp only [h, h1]
theorem rd_5 {s : ByteArray} {k a e a1 e1 n : Int} (hk : k = 5 ∨ k = 7) (h : numR s a e 1073741824 = (n, a1, e1)) : rdNote s k a e = (zT k n 0, a1, e1, e1) := by
  unfold rdNote; rw [if_neg (by omega), if_neg (by omega), if_neg (by omega), if_neg (by omega), if_pos hk]; simp only [h]
theorem rd_6 {s : ByteArray} {k a e a1 e1 a2 e2 a3 e3 i t l : Int} (hk : k = 6) (h : numR s a e 1073741824 = (i, a1, e1)) (h1 : bigR s a1 e1 = (t, a2, e2)) (h2 : numR s a2 e2 1073741824 = (l, a3, e3)) : rdNote s k a e = (zP k i t l, a3, e3, e3) := by
  subst hk; unfold rdNote; rw [if_neg (by decide), if_neg (by decide), if_neg (by decide), if_neg (by decide), if_neg (by decide), if_pos rfl]; simp only [h, h1, h2]
theorem rd_8 {s : ByteArray} {k a e a1 e1 a2 e2 a3 e3 a4 e4 c r x p : Int} (hk : k = 8) (h : numR s a e 2 = (c, a1, e1)) (h1 : numR s a1 e1 1073741824 = (r, a2, e2)) (h2 : numR s a2 e2 21 = (x, a3, e3)) (h3 : numR s a3 e3 1073741824 = (p, a4, e4)) : rdNote s k a e = (zS k c r x p, a4, e4, e4) := by
  subst hk; unfold rdNote; rw [if_neg (by decide), if_neg (by decide), if_neg (by decide), if_neg (by decide), if_neg (by decide), if_neg (by decide), if_pos rfl]; simp only [h, h1, h2, h3]
theorem rd_1a' {s : ByteArray} {k a e : Int} (hk : k = 1) (hr : (whC s a e).2.2.2 ≠ 0) : rdNote s k a e = (zC k (whC s a e).1 [], (whC s a e).2.1, (whC s a e).2.2.1, (whC s a e).2.2.2) := rd_1a hk rfl hr
theorem rd_1b' {s : ByteArray} {k a e n a2 e2 a3 e3 : Int} {g : List Int} {i : Nat} (hk : k = 1) (hr : ¬ (whC s a e).2.2.2 ≠ 0) (h1 : numR s (whC s a e).2.1 (whC s a e).2.2.1 4 = (n, a2, e2)) (h2 : rgN s i ([], a2, e2) = (g, a3, e3)) (hi : i = n.toNat) : rdNote s k a e = (zC k (whC s a e).1 g, a3, e3, e3) := rd_1b hk rfl hr h1 h2 hi
theorem rd_2' {s : ByteArray} {k a e a1 e1 n : Int} (hk : k = 2) (h : numR s a e 1073741824 = (n, a1, e1)) : rdNote s k a e = (zE k n (whE s a1 e1).1, (whE s a1 e1).2.1, (whE s a1 e1).2.2.1, (whE s a1 e1).2.2.2) := rd_2 hk h rfl
theorem rd_0 {s : ByteArray} {k a e : Int} (hk : ¬ (1 ≤ k ∧ k ≤ 8)) : rdNote s k a e = (zN k, a, e, e) := by
  unfold rdNote; rw [if_neg (by omega), if_neg (by omega), if_neg (by omega), if_neg (by omega), if_neg (by omega), if_neg (by omega), if_neg (by omega)]

set_option maxRecDepth 100000 in
theorem nWholeC_any (b : Nat) (s : ByteArray) (ra : Int) (rx : Int) (ep : Int) (ms : List MemT) (fl : Int) (a' : Int) (e' : Int) (r : Int) (w : World) (hsz : s.size ≤ 9223372036854775807) (ho : OR b s ra rx w) (hof : whC s ra rx = ((ep, ms, fl), a', e', r)) :
    Calls Tryz.prog 160 #[pt b 0, .func (.func 123) #[] #[]] w fun e w' => ∃ (u : Value), e = .returned (.tuple #[.agg #[.int .i64 ep, u, .int .u64 fl], .int .i64 r]) ∧ w'.ownsRow w.heap.size 154 2 u ms.length (ms.flatMap memE) ∧ OR b s a' e' w' ∧ But (fun q => q = b) w w' := by
 have hB0 := But.refl (fun q => q = b) w
 have hl_ho := ho.lt
 refine co_enter (n := 22) Tryz.func160 rfl rfl rfl [(0, pt b 0), (1, .func (.func 123) #[] #[])] rfl (fun a h0 => ?_)
 refine co_seq ?_
 refine co_reg ?_
 refine pw h0 rfl (op_new (v := fun N => pt N 0) (T := 26) (cs := #[.int .i64 0, .slice none 0 0, .int .u64 0]) (by kernel_rfl) (by kernel_rfl) (by kernel_rfl)) ?_; clear h0
 rintro _ w2 a1 ⟨N3, rfl, hN6, hz7, hk5, hg4⟩ h1
 have hz8 := hg4.size
 try dsimp only at h1
 refine pk0 (v := .int .i64 0) h1 rfl fun a9 h9 => ?_; clear h1
 refine pl_nil ?_
 refine co_then ?_
 refine co_seq ?_
 refine co_reg ?_
 refine pk0 (v := pt b 0) h9 rfl fun a10 h10 => ?_; clear h9
 have ho21 := ho.new hg4
 refine pw h10 rfl (op_call (args := #[pt b 0, .int .i64 65536]) (R := fun res xw => ∃ (n : ByteArray) (a' e' : Int), res = .string n ∧ textR s ra rx 65536 = (n, a', e') ∧ (n.size : Int) ≤ 65536 ∧ OR b s a' e' xw ∧ w2.grownBy xw (some b)) rfl rfl rfl (by kernel_rfl) (by kernel_rfl) (Tryz.call121 _ _) (or_text b s ra rx 65536 w2 ho21 (by omega) (by omega) (by omega)) (by rintro q x ⟨n, a', e', rfl, h0, k0, h1, h2⟩; exact ⟨_, rfl, n, a', e', rfl, h0, k0, h1, h2⟩)) ?_; clear h10
 rintro _ w12 a11 ⟨n13, a14, e15, rfl, hq16, hn17, ho19, hg20⟩ h11
 have hz22 := hg20.size
 have hl23 := ho19.lt
 refine pk0 (v := .string n13) h11 rfl fun a24 h24 => ?_; clear h11
 refine pl_nil ?_
 refine co_then ?_
 refine co_seq ?_
 refine co_seq ?_
 refine co_reg ?_
 refine pk0 (v := pt b 0) h24 rfl fun a25 h25 => ?_; clear h24
 refine pw h25 rfl (op_call (args := #[pt b 0]) (R := fun res xw => res = .int .i64 e15 ∧ w12 = xw) rfl rfl rfl (by kernel_rfl) (by kernel_rfl) (Tryz.call59 _ _) (or_err b s a14 e15 w12 ho19) (by rintro q x ⟨rfl, rfl⟩; exact ⟨_, rfl, rfl, rfl⟩)) ?_; clear h25
 rintro _ _ a26 ⟨rfl, rfl⟩ h26
 refine pk0 (v := .int .i64 e15) h26 rfl fun a28 h28 => ?_; clear h26
 refine pl_nil ?_
 refine co_then ?_
 refine co_seq ?_
 refine co_reg ?_
 refine pk0 (v := .int .i64 e15) h28 rfl fun a29 h29 => ?_; clear h28
 refine pk0 (v := .bool (e15 != 0)) h29 rfl fun a30 h30 => ?_; clear h29
 refine pl_nil ?_
 refine co_then ?_
 have hB32 := fb_new hB0 hg4
 have hB33 := fb_at hB32 hg20 (fun hlt => by first | (exfalso; omega) | (simp; done) | simp_all)
 cases hc31 : (e15 != 0)
 ·
  rw [hc31] at h30
  have hp34 : ¬ (e15 ≠ 0) := by first | simpa using hc31 | simpa [and_assoc] using hc31
  clear hc31
  refine co_false h30 rfl ?_
  refine wp_skip ?_
  refine co_then ?_
  refine co_seq ?_
  refine co_reg ?_
  refine pk0 (v := .func (.func 123) #[] #[]) h30 rfl fun a35 h35 => ?_; clear h30
  refine pk0 (v := .string n13) h35 rfl fun a36 h36 => ?_; clear h35
  refine pw h36 rfl (op_call (args := #[.string n13]) (R := fun res xw => ∃ u : Value, res = .tuple #[.agg #[.int .i64 ((ofC n13).1.1), u, .int .u64 ((ofC n13).1.2.2)], .int .i64 ((ofC n13).2)] ∧ xw.ownsRow w12.heap.size 154 2 u ((ofC n13).1.2.1).length (((ofC n13).1.2.1).flatMap memE) ∧ Below w12.heap.size w12 xw) rfl rfl rfl (by kernel_rfl) (by kernel_rfl) (Tryz.call123 _ _) (cOf_any n13 ((ofC n13).1.1) ((ofC n13).1.2.1) ((ofC n13).1.2.2) ((ofC n13).2) w12 (by first | omega | (simp; done) | (simp; omega)) rfl) (by rintro e x ⟨u, rfl, hq40, hb41⟩; exact ⟨_, rfl, ⟨u, rfl, hq40, hb41⟩⟩)) ?_; clear h36
  rintro _ w38 a37 ⟨u39, rfl, hq40, hb41⟩ h37
  have hz42 := hb41.size
  have hl43 := sl_len (row_sl hq40 memE_len)
  refine pk0 (v := .agg #[.int .i64 ((ofC n13).1.1), u39, .int .u64 ((ofC n13).1.2.2)]) h37 rfl fun a44 h44 => ?_; clear h37
  refine pk0 (v := .int .i64 ((ofC n13).2)) h44 rfl fun a45 h45 => ?_; clear h44
  have hk51 := hk5.kept hg20 (by simp; omega)
  have hk52 := hk51.below hb41
  refine pwD h45 rfl (op_storeN rfl rfl rfl (all_cons rfl (all_cons (row_one hq40) (all_cons rfl all_nil))) (by kernel_rfl) hk52 rfl) ?_; clear h45
  rintro _ w47 a46 ⟨hk48, hz49, hg50⟩ h46
  have hk48' : Blk w47 N3 26 #[.int .i64 ((ofC n13).1.1), u39, .int .u64 ((ofC n13).1.2.2)] := hk48; clear hk48
  have hz53 := hg50.size
  refine pk0 (v := .int .i64 ((ofC n13).2)) h46 rfl fun a54 h54 => ?_; clear h46
  refine pl_nil ?_
  refine co_then ?_
  refine wp_ret ?_
  refine co_retC1 (Q := fun _ _ _ => True) h54 rfl rfl rfl hk48' Tryz.underlying26 rfl (by kernel_rfl) ?_
  have hr55 := row_kept_at hq40 hg50 (row_ne_lt hq40 (by omega))
  have ho56 := ho19.below hb41
  have ho57 := ho56.at (by omega) hg50
  have hB58 := fb_call hB33 hb41
  have hB59 := fb_at hB58 hg50 (fun hlt => by first | (exfalso; omega) | (simp; done) | simp_all)
  cases hof.symm.trans (whC_b' hq16 (by assumption))
  exact ⟨_, rfl, (row_lows hr55 (by omega)), ho57, hB59⟩
 ·
  rw [hc31] at h30
  have hp60 : e15 ≠ 0 := by first | simpa using hc31 | simpa [and_assoc] using hc31
  clear hc31
  refine co_true h30 rfl ?_
  refine co_seq ?_
  refine co_reg ?_
  refine pw h30 rfl (op_new (v := fun N => pt N 0) (T := 26) (cs := #[.int .i64 0, .slice none 0 0, .int .u64 0]) (by kernel_rfl) (by kernel_rfl) (by kernel_rfl)) ?_; clear h30
  rintro _ w62 a61 ⟨N63, rfl, hN66, hz67, hk65, hg64⟩ h61
  have hz68 := hg64.size
  try dsimp only at h61
  refine pl_nil ?_
  refine co_then ?_
  refine co_seq ?_
  refine co_reg ?_
  refine pk (v := .agg #[.int .i64 0, .slice none 0 0, .int .u64 0]) h61 rfl (rn_loadN rfl rfl Tryz.underlying26 rfl (by kernel_rfl) hk65.all) fun a69 h69 => ?_; clear h61
  refine pk0 (v := .int .i64 e15) h69 rfl fun a70 h70 => ?_; clear h69
  have hk76 := hk5.kept hg20 (by simp; omega)
  have hk77 := hk76.kept hg64 (by simp)
  refine pwD h70 rfl (op_storeN rfl rfl rfl (all_cons rfl (all_cons rfl (all_cons rfl all_nil))) (by kernel_rfl) hk77 rfl) ?_; clear h70
  rintro _ w72 a71 ⟨hk73, hz74, hg75⟩ h71
  have hk73' : Blk w72 N3 26 #[.int .i64 0, .slice none 0 0, .int .u64 0] := hk73; clear hk73
  have hz78 := hg75.size
  refine pk0 (v := .int .i64 e15) h71 rfl fun a79 h79 => ?_; clear h71
  refine pl_nil ?_
  refine co_then ?_
  refine wp_ret ?_
  refine co_thenR ?_
  refine co_retC1 (Q := fun _ _ _ => True) h79 rfl rfl rfl hk73' Tryz.underlying26 rfl (by kernel_rfl) ?_
  have ho80 := ho19.new hg64
  have ho81 := ho80.at (by omega) hg75
  have hB82 := fb_new hB33 hg64
  have hB83 := fb_at hB82 hg75 (fun hlt => by first | (exfalso; omega) | (simp; done) | simp_all)
  cases hof.symm.trans (whC_a hq16 (by assumption))
  exact ⟨_, rfl, (row_nilL _ _ _ _ _), ho81, hB83⟩
set_option maxRecDepth 100000 in
theorem nWholeE_any (b : Nat) (s : ByteArray) (ra : Int) (rx : Int) (ec : Int) (er : Int) (el : List OpT) (ts : Int) (a' : Int) (e' : Int) (r : Int) (w : World) (hsz : s.size ≤ 9223372036854775807) (ho : OR b s ra rx w) (hof : whE s ra rx = ((ec, er, el, ts), a', e', r)) :
    Calls Tryz.prog 161 #[pt b 0, .func (.func 155) #[] #[]] w fun e w' => ∃ (u : Value), e = .returned (.tuple #[.agg #[.int .i64 ec, .int .i64 er, u, .int .u64 ts], .int .i64 r]) ∧ w'.ownsRow w.heap.size 159 3 u el.length (el.flatMap opE) ∧ OR b s a' e' w' ∧ But (fun q => q = b) w w' := by
 have hB0 := But.refl (fun q => q = b) w
 have hl_ho := ho.lt
 refine co_enter (n := 22) Tryz.func161 rfl rfl rfl [(0, pt b 0), (1, .func (.func 155) #[] #[])] rfl (fun a h0 => ?_)
 refine co_seq ?_
 refine co_reg ?_
 refine pw h0 rfl (op_new (v := fun N => pt N 0) (T := 52) (cs := #[.int .i64 0, .int .i64 0, .slice none 0 0, .int .u64 0]) (by kernel_rfl) (by kernel_rfl) (by kernel_rfl)) ?_; clear h0
 rintro _ w2 a1 ⟨N3, rfl, hN6, hz7, hk5, hg4⟩ h1
 have hz8 := hg4.size
 try dsimp only at h1
 refine pk0 (v := .int .i64 0) h1 rfl fun a9 h9 => ?_; clear h1
 refine pl_nil ?_
 refine co_then ?_
 refine co_seq ?_
 refine co_reg ?_
 refine pk0 (v := pt b 0) h9 rfl fun a10 h10 => ?_; clear h9
 have ho21 := ho.new hg4
 refine pw h10 rfl (op_call (args := #[pt b 0, .int .i64 65536]) (R := fun res xw => ∃ (n : ByteArray) (a' e' : Int), res = .string n ∧ textR s ra rx 65536 = (n, a', e') ∧ (n.size : Int) ≤ 65536 ∧ OR b s a' e' xw ∧ w2.grownBy xw (some b)) rfl rfl rfl (by kernel_rfl) (by kernel_rfl) (Tryz.call121 _ _) (or_text b s ra rx 65536 w2 ho21 (by omega) (by omega) (by omega)) (by rintro q x ⟨n, a', e', rfl, h0, k0, h1, h2⟩; exact ⟨_, rfl, n, a', e', rfl, h0, k0, h1, h2⟩)) ?_; clear h10
 rintro _ w12 a11 ⟨n13, a14, e15, rfl, hq16, hn17, ho19, hg20⟩ h11
 have hz22 := hg20.size
 have hl23 := ho19.lt
 refine pk0 (v := .string n13) h11 rfl fun a24 h24 => ?_; clear h11
 refine pl_nil ?_
 refine co_then ?_
 refine co_seq ?_
 refine co_seq ?_
 refine co_reg ?_
 refine pk0 (v := pt b 0) h24 rfl fun a25 h25 => ?_; clear h24
 refine pw h25 rfl (op_call (args := #[pt b 0]) (R := fun res xw => res = .int .i64 e15 ∧ w12 = xw) rfl rfl rfl (by kernel_rfl) (by kernel_rfl) (Tryz.call59 _ _) (or_err b s a14 e15 w12 ho19) (by rintro q x ⟨rfl, rfl⟩; exact ⟨_, rfl, rfl, rfl⟩)) ?_; clear h25
 rintro _ _ a26 ⟨rfl, rfl⟩ h26
 refine pk0 (v := .int .i64 e15) h26 rfl fun a28 h28 => ?_; clear h26
 refine pl_nil ?_
 refine co_then ?_
 refine co_seq ?_
 refine co_reg ?_
 refine pk0 (v := .int .i64 e15) h28 rfl fun a29 h29 => ?_; clear h28
 refine pk0 (v := .bool (e15 != 0)) h29 rfl fun a30 h30 => ?_; clear h29
 refine pl_nil ?_
 refine co_then ?_
 have hB32 := fb_new hB0 hg4
 have hB33 := fb_at hB32 hg20 (fun hlt => by first | (exfalso; omega) | (simp; done) | simp_all)
 cases hc31 : (e15 != 0)
 ·
  rw [hc31] at h30
  have hp34 : ¬ (e15 ≠ 0) := by first | simpa using hc31 | simpa [and_assoc] using hc31
  clear hc31
  refine co_false h30 rfl ?_
  refine wp_skip ?_
  refine co_then ?_
  refine co_seq ?_
  refine co_reg ?_
  refine pk0 (v := .func (.func 155) #[] #[]) h30 rfl fun a35 h35 => ?_; clear h30
  refine pk0 (v := .string n13) h35 rfl fun a36 h36 => ?_; clear h35
  refine pw h36 rfl (op_call (args := #[.string n13]) (R := fun res xw => ∃ u : Value, res = .tuple #[.agg #[.int .i64 ((ofE n13).1.1), .int .i64 ((ofE n13).1.2.1), u, .int .u64 ((ofE n13).1.2.2.2)], .int .i64 ((ofE n13).2)] ∧ xw.ownsRow w12.heap.size 159 3 u ((ofE n13).1.2.2.1).length (((ofE n13).1.2.2.1).flatMap opE) ∧ Below w12.heap.size w12 xw) rfl rfl rfl (by kernel_rfl) (by kernel_rfl) (Tryz.call155 _ _) (itemOf_any n13 ((ofE n13).1.1) ((ofE n13).1.2.1) ((ofE n13).1.2.2.1) ((ofE n13).1.2.2.2) ((ofE n13).2) w12 (by first | omega | (simp; done) | (simp; omega)) rfl) (by rintro e x ⟨u, rfl, hq40, hb41⟩; exact ⟨_, rfl, ⟨u, rfl, hq40, hb41⟩⟩)) ?_; clear h36
  rintro _ w38 a37 ⟨u39, rfl, hq40, hb41⟩ h37
  have hz42 := hb41.size
  have hl43 := sl_len (row_sl hq40 opE_len)
  refine pk0 (v := .agg #[.int .i64 ((ofE n13).1.1), .int .i64 ((ofE n13).1.2.1), u39, .int .u64 ((ofE n13).1.2.2.2)]) h37 rfl fun a44 h44 => ?_; clear h37
  refine pk0 (v := .int .i64 ((ofE n13).2)) h44 rfl fun a45 h45 => ?_; clear h44
  have hk51 := hk5.kept hg20 (by simp; omega)
  have hk52 := hk51.below hb41
  refine pwD h45 rfl (op_storeN rfl rfl rfl (all_cons rfl (all_cons rfl (all_cons (row_one hq40) (all_cons rfl all_nil)))) (by kernel_rfl) hk52 rfl) ?_; clear h45
  rintro _ w47 a46 ⟨hk48, hz49, hg50⟩ h46
  have hk48' : Blk w47 N3 52 #[.int .i64 ((ofE n13).1.1), .int .i64 ((ofE n13).1.2.1), u39, .int .u64 ((ofE n13).1.2.2.2)] := hk48; clear hk48
  have hz53 := hg50.size
  refine pk0 (v := .int .i64 ((ofE n13).2)) h46 rfl fun a54 h54 => ?_; clear h46
  refine pl_nil ?_
  refine co_then ?_
  refine wp_ret ?_
  refine co_retC1 (Q := fun _ _ _ => True) h54 rfl rfl rfl hk48' Tryz.underlying52 rfl (by kernel_rfl) ?_
  have hr55 := row_kept_at hq40 hg50 (row_ne_lt hq40 (by omega))
  have ho56 := ho19.below hb41
  have ho57 := ho56.at (by omega) hg50
  have hB58 := fb_call hB33 hb41
  have hB59 := fb_at hB58 hg50 (fun hlt => by first | (exfalso; omega) | (simp; done) | simp_all)
  cases hof.symm.trans (whE_b' hq16 (by assumption))
  exact ⟨_, rfl, (row_lows hr55 (by omega)), ho57, hB59⟩
 ·
  rw [hc31] at h30
  have hp60 : e15 ≠ 0 := by first | simpa using hc31 | simpa [and_assoc] using hc31
  clear hc31
  refine co_true h30 rfl ?_
  refine co_seq ?_
  refine co_reg ?_
  refine pw h30 rfl (op_new (v := fun N => pt N 0) (T := 52) (cs := #[.int .i64 0, .int .i64 0, .slice none 0 0, .int .u64 0]) (by kernel_rfl) (by kernel_rfl) (by kernel_rfl)) ?_; clear h30
  rintro _ w62 a61 ⟨N63, rfl, hN66, hz67, hk65, hg64⟩ h61
  have hz68 := hg64.size
  try dsimp only at h61
  refine pl_nil ?_
  refine co_then ?_
  refine co_seq ?_
  refine co_reg ?_
  refine pk (v := .agg #[.int .i64 0, .int .i64 0, .slice none 0 0, .int .u64 0]) h61 rfl (rn_loadN rfl rfl Tryz.underlying52 rfl (by kernel_rfl) hk65.all) fun a69 h69 => ?_; clear h61
  refine pk0 (v := .int .i64 e15) h69 rfl fun a70 h70 => ?_; clear h69
  have hk76 := hk5.kept hg20 (by simp; omega)
  have hk77 := hk76.kept hg64 (by simp)
  refine pwD h70 rfl (op_storeN rfl rfl rfl (all_cons rfl (all_cons rfl (all_cons rfl (all_cons rfl all_nil)))) (by kernel_rfl) hk77 rfl) ?_; clear h70
  rintro _ w72 a71 ⟨hk73, hz74, hg75⟩ h71
  have hk73' : Blk w72 N3 52 #[.int .i64 0, .int .i64 0, .slice none 0 0, .int .u64 0] := hk73; clear hk73
  have hz78 := hg75.size
  refine pk0 (v := .int .i64 e15) h71 rfl fun a79 h79 => ?_; clear h71
  refine pl_nil ?_
  refine co_then ?_
  refine wp_ret ?_
  refine co_thenR ?_
  refine co_retC1 (Q := fun _ _ _ => True) h79 rfl rfl rfl hk73' Tryz.underlying52 rfl (by kernel_rfl) ?_
  have ho80 := ho19.new hg64
  have ho81 := ho80.at (by omega) hg75
  have hB82 := fb_new hB33 hg64
  have hB83 := fb_at hB82 hg75 (fun hlt => by first | (exfalso; omega) | (simp; done) | simp_all)
  cases hof.symm.trans (whE_a hq16 (by assumption))
  exact ⟨_, rfl, (row_nilL _ _ _ _ _), ho81, hB83⟩
set_option maxRecDepth 100000 in
theorem nRead_any (b : Nat) (s : ByteArray) (ra : Int) (rx : Int) (N : Nat) (k : Int) (d : NoteD) (a' : Int) (e' : Int) (r : Int) (w : World) (hsz : s.size ≤ 9223372036854775807) (ho : OR b s ra rx w) (hN : Blk w N 58 #[.int .i64 k, .int .i64 0, .int .u64 0, .int .i64 0, .slice none 0 0, .int .u64 0, .slice none 0 0, .int .i64 0, .int .i64 0, .slice none 0 0, .int .u64 0, .int .i64 0, .int .u64 0, .int .i64 0, .int .i64 0, .int .i64 0, .int .i64 0, .int .i64 0]) (hbN : b ≠ N) (hof : rdNote s k ra rx = (d, a', e', r)) :
    Calls Tryz.prog 133 #[pt b 0, pt N 0] w fun e w' => ∃ (mv : Value) (lv : Value) (ev : Value), e = .returned (.int .i64 r) ∧ w'.ownsRow w.heap.size 154 2 mv d.ms.length (d.ms.flatMap memE) ∧ w'.ownsRow w.heap.size 3 1 lv d.lg.length (d.lg.flatMap (intE .i64)) ∧ w'.ownsRow w.heap.size 159 3 ev d.el.length (d.el.flatMap opE) ∧ Blk w' N 58 #[.int .i64 d.k, .int .i64 d.n, .int .u64 d.t, .int .i64 d.ep, mv, .int .u64 d.fl, lv, .int .i64 d.ec, .int .i64 d.er, ev, .int .u64 d.ets, .int .i64 d.pid, .int .u64 d.pat, .int .i64 d.plf, .int .i64 d.sc, .int .i64 d.sr, .int .i64 d.se, .int .i64 d.sp] ∧ OR b s a' e' w' ∧ But (fun q => q = b ∨ q = N) w w' := by
 have hB0 := But.refl (fun q => q = b ∨ q = N) w
 have hl_ho := ho.lt
 have hl_hN := hN.lt
 refine co_enter (n := 110) Tryz.func133 rfl rfl rfl [(0, pt b 0), (1, pt N 0)] rfl (fun a h0 => ?_)
 refine co_seq ?_
 refine co_reg ?_
 refine pk0 (v := .int .i64 0) h0 rfl fun a1 h1 => ?_; clear h0
 refine pl_nil ?_
 refine co_then ?_
 refine co_seq ?_
 refine co_reg ?_
 refine pk0 (v := .int .i64 0) h1 rfl fun a2 h2 => ?_; clear h1
 refine pl_nil ?_
 refine co_then ?_
 refine co_seq ?_
 refine co_seq ?_
 refine co_reg ?_
 refine pk0 (v := pt N 0) h2 rfl fun a3 h3 => ?_; clear h2
 refine pk0 (v := pt N 0) h3 rfl fun a4 h4 => ?_; clear h3
 refine pk0 (v := pt N 0) h4 rfl fun a5 h5 => ?_; clear h4
 refine pk (v := .int .i64 k) h5 rfl (rn_load1 rfl rfl Tryz.isAgg3 (hN.cell rfl)) fun a6 h6 => ?_; clear h5
 refine pl_nil ?_
 refine co_then ?_
 refine wp_block ?_
 refine co_seq ?_
 refine wp_block ?_
 refine co_seq ?_
 refine wp_block ?_
 refine co_seq ?_
 refine wp_block ?_
 refine co_seq ?_
 refine wp_block ?_
 refine co_seq ?_
 refine wp_block ?_
 refine co_seq ?_
 refine wp_block ?_
 refine co_seq ?_
 refine wp_block ?_
 refine co_seq ?_
 refine co_seq ?_
 refine co_seq ?_
 refine co_reg ?_
 refine pk0 (v := .bool (k == 1)) h6 rfl fun a7 h7 => ?_; clear h6
 refine pk0 (v := .bool (k == 1)) h7 rfl fun a8 h8 => ?_; clear h7
 refine pl_nil ?_
 refine co_then ?_
 cases hc9 : (k == 1)
 ·
  rw [hc9] at h8
  have hp10 : ¬ (k = 1) := by first | simpa using hc9 | simpa [and_assoc] using hc9
  clear hc9
  refine co_false h8 rfl ?_
  refine wp_skip ?_
  refine co_then ?_
  refine co_seq ?_
  refine co_seq ?_
  refine co_reg ?_
  refine pk0 (v := .bool (k == 2)) h8 rfl fun a11 h11 => ?_; clear h8
  refine pk0 (v := .bool (k == 2)) h11 rfl fun a12 h12 => ?_; clear h11
  refine pl_nil ?_
  refine co_then ?_
  cases hc13 : (k == 2)
  ·
   rw [hc13] at h12
   have hp14 : ¬ (k = 2) := by first | simpa using hc13 | simpa [and_assoc] using hc13
   clear hc13
   refine co_false h12 rfl ?_
   refine wp_skip ?_
   refine co_then ?_
   refine co_seq ?_
   refine co_seq ?_
   refine co_reg ?_
   refine pk0 (v := .bool (k == 3)) h12 rfl fun a15 h15 => ?_; clear h12
   refine pk0 (v := .bool (k == 3)) h15 rfl fun a16 h16 => ?_; clear h15
   refine pl_nil ?_
   refine co_then ?_
   cases hc17 : (k == 3)
   ·
    rw [hc17] at h16
    have hp18 : ¬ (k = 3) := by first | simpa using hc17 | simpa [and_assoc] using hc17
    clear hc17
    refine co_false h16 rfl ?_
    refine wp_skip ?_
    refine co_then ?_
    refine co_seq ?_
    refine co_seq ?_
    refine co_reg ?_
    refine pk0 (v := .bool (k == 4)) h16 rfl fun a19 h19 => ?_; clear h16
    refine pk0 (v := .bool (k == 4)) h19 rfl fun a20 h20 => ?_; clear h19
    refine pl_nil ?_
    refine co_then ?_
    cases hc21 : (k == 4)
    ·
     rw [hc21] at h20
     have hp22 : ¬ (k = 4) := by first | simpa using hc21 | simpa [and_assoc] using hc21
     clear hc21
     refine co_false h20 rfl ?_
     refine wp_skip ?_
     refine co_then ?_
     refine co_seq ?_
     refine co_seq ?_
     refine co_seq ?_
     refine co_reg ?_
     refine pk0 (v := .bool (k == 5)) h20 rfl fun a23 h23 => ?_; clear h20
     refine pk0 (v := .bool (k == 5)) h23 rfl fun a24 h24 => ?_; clear h23
     refine pl_nil ?_
     refine co_then ?_
     cases hc25 : (k == 5)
     ·
      rw [hc25] at h24
      have hp26 : ¬ (k = 5) := by first | simpa using hc25 | simpa [and_assoc] using hc25
      clear hc25
      refine co_false h24 rfl ?_
      refine co_reg ?_
      refine pk0 (v := .bool (k == 7)) h24 rfl fun a27 h27 => ?_; clear h24
      refine pk0 (v := .bool (k == 7)) h27 rfl fun a28 h28 => ?_; clear h27
      refine pl_nil ?_
      refine co_then ?_
      cases hc29 : (k == 7)
      ·
       rw [hc29] at h28
       have hp30 : ¬ (k = 7) := by first | simpa using hc29 | simpa [and_assoc] using hc29
       clear hc29
       refine co_false h28 rfl ?_
       refine wp_skip ?_
       refine co_then ?_
       refine co_seq ?_
       refine co_seq ?_
       refine co_reg ?_
       refine pk0 (v := .bool (k == 6)) h28 rfl fun a31 h31 => ?_; clear h28
       refine pk0 (v := .bool (k == 6)) h31 rfl fun a32 h32 => ?_; clear h31
       refine pl_nil ?_
       refine co_then ?_
       cases hc33 : (k == 6)
       ·
        rw [hc33] at h32
        have hp34 : ¬ (k = 6) := by first | simpa using hc33 | simpa [and_assoc] using hc33
        clear hc33
        refine co_false h32 rfl ?_
        refine wp_skip ?_
        refine co_then ?_
        refine co_seq ?_
        refine co_reg ?_
        refine pk0 (v := .bool (k == 8)) h32 rfl fun a35 h35 => ?_; clear h32
        refine pk0 (v := .bool (k == 8)) h35 rfl fun a36 h36 => ?_; clear h35
        refine pl_nil ?_
        refine co_then ?_
        cases hc37 : (k == 8)
        ·
         rw [hc37] at h36
         have hp38 : ¬ (k = 8) := by first | simpa using hc37 | simpa [and_assoc] using hc37
         clear hc37
         refine co_false h36 rfl ?_
         refine wp_skip ?_
         refine co_then ?_
         refine wp_exit ?_
         refine co_blockY (by decide) ?_
         refine co_thenX ?_
         refine co_blockY (by decide) ?_
         refine co_thenX ?_
         refine co_blockY (by decide) ?_
         refine co_thenX ?_
         refine co_blockY (by decide) ?_
         refine co_thenX ?_
         refine co_blockY (by decide) ?_
         refine co_thenX ?_
         refine co_blockY (by decide) ?_
         refine co_thenX ?_
         refine co_blockY (by decide) ?_
         refine co_thenX ?_
         refine co_blockX ?_
         refine co_then ?_
         refine co_seq ?_
         refine co_reg ?_
         refine pk0 (v := pt b 0) h36 rfl fun a39 h39 => ?_; clear h36
         refine pw h39 rfl (op_call (args := #[pt b 0]) (R := fun res xw => res = .int .i64 rx ∧ w = xw) rfl rfl rfl (by kernel_rfl) (by kernel_rfl) (Tryz.call59 _ _) (or_err b s ra rx w ho) (by rintro q x ⟨rfl, rfl⟩; exact ⟨_, rfl, rfl, rfl⟩)) ?_; clear h39
         rintro _ _ a40 ⟨rfl, rfl⟩ h40
         refine pk0 (v := .int .i64 rx) h40 rfl fun a42 h42 => ?_; clear h40
         refine pl_nil ?_
         refine co_then ?_
         refine wp_ret ?_
         refine co_ret1 h42 rfl rfl ?_
         cases hof.symm.trans (rd_0 (by omega))
         exact ⟨_, _, _, rfl, (row_nilL _ _ _ _ _), (row_nilL _ _ _ _ _), (row_nilL _ _ _ _ _), hN, ho, hB0⟩
        ·
         rw [hc37] at h36
         have hp43 : k = 8 := by first | simpa using hc37 | simpa [and_assoc] using hc37
         clear hc37
         refine co_true h36 rfl ?_
         refine wp_exit ?_
         refine co_thenX ?_
         refine co_blockY (by decide) ?_
         refine co_thenX ?_
         refine co_blockY (by decide) ?_
         refine co_thenX ?_
         refine co_blockY (by decide) ?_
         refine co_thenX ?_
         refine co_blockY (by decide) ?_
         refine co_thenX ?_
         refine co_blockY (by decide) ?_
         refine co_thenX ?_
         refine co_blockY (by decide) ?_
         refine co_thenX ?_
         refine co_blockX ?_
         refine co_then ?_
         refine co_seq ?_
         refine co_reg ?_
         refine pk0 (v := pt N 0) h36 rfl fun a44 h44 => ?_; clear h36
         refine pk0 (v := pt b 0) h44 rfl fun a45 h45 => ?_; clear h44
         refine pw h45 rfl (op_call (args := #[pt b 0, .int .i64 2]) (R := fun res xw => ∃ (n : Int) (a' e' : Int), res = .int .i64 n ∧ numR s ra rx 2 = (n, a', e') ∧ 0 ≤ n ∧ n ≤ 2 ∧ OR b s a' e' xw ∧ w.grownBy xw (some b)) rfl rfl rfl (by kernel_rfl) (by kernel_rfl) (Tryz.call58 _ _) (or_num b s ra rx 2 w ho (by omega) (by omega) (by omega)) (by rintro q x ⟨n, a', e', rfl, h0, k0, k1, h1, h2⟩; exact ⟨_, rfl, n, a', e', rfl, h0, k0, k1, h1, h2⟩)) ?_; clear h45
         rintro _ w47 a46 ⟨n48, a49, e50, rfl, hq51, hn52, hm53, ho54, hg55⟩ h46
         have hz56 := hg55.size
         have hl57 := ho54.lt
         refine pk0 (v := pt b 0) h46 rfl fun a58 h58 => ?_; clear h46
         refine pw h58 rfl (op_call (args := #[pt b 0, .int .i64 1073741824]) (R := fun res xw => ∃ (n : Int) (a' e' : Int), res = .int .i64 n ∧ numR s a49 e50 1073741824 = (n, a', e') ∧ 0 ≤ n ∧ n ≤ 1073741824 ∧ OR b s a' e' xw ∧ w47.grownBy xw (some b)) rfl rfl rfl (by kernel_rfl) (by kernel_rfl) (Tryz.call58 _ _) (or_num b s a49 e50 1073741824 w47 ho54 (by omega) (by omega) (by omega)) (by rintro q x ⟨n, a', e', rfl, h0, k0, k1, h1, h2⟩; exact ⟨_, rfl, n, a', e', rfl, h0, k0, k1, h1, h2⟩)) ?_; clear h58
         rintro _ w60 a59 ⟨n61, a62, e63, rfl, hq64, hn65, hm66, ho67, hg68⟩ h59
         have hz69 := hg68.size
         have hl70 := ho67.lt
         refine pk0 (v := pt b 0) h59 rfl fun a71 h71 => ?_; clear h59
         refine pw h71 rfl (op_call (args := #[pt b 0, .int .i64 21]) (R := fun res xw => ∃ (n : Int) (a' e' : Int), res = .int .i64 n ∧ numR s a62 e63 21 = (n, a', e') ∧ 0 ≤ n ∧ n ≤ 21 ∧ OR b s a' e' xw ∧ w60.grownBy xw (some b)) rfl rfl rfl (by kernel_rfl) (by kernel_rfl) (Tryz.call58 _ _) (or_num b s a62 e63 21 w60 ho67 (by omega) (by omega) (by omega)) (by rintro q x ⟨n, a', e', rfl, h0, k0, k1, h1, h2⟩; exact ⟨_, rfl, n, a', e', rfl, h0, k0, k1, h1, h2⟩)) ?_; clear h71
         rintro _ w73 a72 ⟨n74, a75, e76, rfl, hq77, hn78, hm79, ho80, hg81⟩ h72
         have hz82 := hg81.size
         have hl83 := ho80.lt
         refine pk0 (v := pt b 0) h72 rfl fun a84 h84 => ?_; clear h72
         refine pw h84 rfl (op_call (args := #[pt b 0, .int .i64 1073741824]) (R := fun res xw => ∃ (n : Int) (a' e' : Int), res = .int .i64 n ∧ numR s a75 e76 1073741824 = (n, a', e') ∧ 0 ≤ n ∧ n ≤ 1073741824 ∧ OR b s a' e' xw ∧ w73.grownBy xw (some b)) rfl rfl rfl (by kernel_rfl) (by kernel_rfl) (Tryz.call58 _ _) (or_num b s a75 e76 1073741824 w73 ho80 (by omega) (by omega) (by omega)) (by rintro q x ⟨n, a', e', rfl, h0, k0, k1, h1, h2⟩; exact ⟨_, rfl, n, a', e', rfl, h0, k0, k1, h1, h2⟩)) ?_; clear h84
         rintro _ w86 a85 ⟨n87, a88, e89, rfl, hq90, hn91, hm92, ho93, hg94⟩ h85
         have hz95 := hg94.size
         have hl96 := ho93.lt
         refine pk0 (v := .agg #[.int .i64 n48, .int .i64 n61, .int .i64 n74, .int .i64 n87]) h85 rfl fun a97 h97 => ?_; clear h85
         refine pk0 (v := pt N 0) h97 rfl fun a98 h98 => ?_; clear h97
         refine pk0 (v := pt N 14) h98 rfl fun a99 h99 => ?_; clear h98
         have hk105 := hN.kept hg55 (by simp; omega)
         have hk106 := hk105.kept hg68 (by simp; omega)
         have hk107 := hk106.kept hg81 (by simp; omega)
         have hk108 := hk107.kept hg94 (by simp; omega)
         refine pwD h99 rfl (op_storePart (k := 14) (cs' := #[.int .i64 k, .int .i64 0, .int .u64 0, .int .i64 0, .slice none 0 0, .int .u64 0, .slice none 0 0, .int .i64 0, .int .i64 0, .slice none 0 0, .int .u64 0, .int .i64 0, .int .u64 0, .int .i64 0, .int .i64 n48, .int .i64 n61, .int .i64 n74, .int .i64 n87]) rfl rfl rfl (by kernel_rfl) (by kernel_rfl) hk108 rfl rfl) ?_; clear h99
         rintro _ w101 a100 ⟨hk102, hz103, hg104⟩ h100
         have hk102' : Blk w101 N 58 #[.int .i64 k, .int .i64 0, .int .u64 0, .int .i64 0, .slice none 0 0, .int .u64 0, .slice none 0 0, .int .i64 0, .int .i64 0, .slice none 0 0, .int .u64 0, .int .i64 0, .int .u64 0, .int .i64 0, .int .i64 n48, .int .i64 n61, .int .i64 n74, .int .i64 n87] := hk102; clear hk102
         have hz109 := hg104.size
         refine pl_nil ?_
         refine co_then ?_
         refine wp_exit ?_
         refine co_blockX ?_
         refine co_then ?_
         refine co_seq ?_
         refine co_reg ?_
         refine pk0 (v := pt b 0) h100 rfl fun a110 h110 => ?_; clear h100
         have ho113 := ho93.at (by omega) hg104
         refine pw h110 rfl (op_call (args := #[pt b 0]) (R := fun res xw => res = .int .i64 e89 ∧ w101 = xw) rfl rfl rfl (by kernel_rfl) (by kernel_rfl) (Tryz.call59 _ _) (or_err b s a88 e89 w101 ho113) (by rintro q x ⟨rfl, rfl⟩; exact ⟨_, rfl, rfl, rfl⟩)) ?_; clear h110
         rintro _ _ a111 ⟨rfl, rfl⟩ h111
         refine pk0 (v := .int .i64 e89) h111 rfl fun a114 h114 => ?_; clear h111
         refine pl_nil ?_
         refine co_then ?_
         refine wp_ret ?_
         refine co_ret1 h114 rfl rfl ?_
         have hB115 := fb_at hB0 hg55 (fun hlt => by first | (exfalso; omega) | (simp; done) | simp_all)
         have hB116 := fb_at hB115 hg68 (fun hlt => by first | (exfalso; omega) | (simp; done) | simp_all)
         have hB117 := fb_at hB116 hg81 (fun hlt => by first | (exfalso; omega) | (simp; done) | simp_all)
         have hB118 := fb_at hB117 hg94 (fun hlt => by first | (exfalso; omega) | (simp; done) | simp_all)
         have hB119 := fb_at hB118 hg104 (fun hlt => by first | (exfalso; omega) | (simp; done) | simp_all)
         cases hof.symm.trans (rd_8 (by omega) hq51 hq64 hq77 hq90)
         exact ⟨_, _, _, rfl, (row_nilL _ _ _ _ _), (row_nilL _ _ _ _ _), (row_nilL _ _ _ _ _), hk102', ho113, hB119⟩
       ·
        rw [hc33] at h32
        have hp120 : k = 6 := by first | simpa using hc33 | simpa [and_assoc] using hc33
        clear hc33
        refine co_true h32 rfl ?_
        refine wp_exit ?_
        refine co_thenX ?_
        refine co_thenX ?_
        refine co_blockY (by decide) ?_
        refine co_thenX ?_
        refine co_blockY (by decide) ?_
        refine co_thenX ?_
        refine co_blockY (by decide) ?_
        refine co_thenX ?_
        refine co_blockY (by decide) ?_
        refine co_thenX ?_
        refine co_blockY (by decide) ?_
        refine co_thenX ?_
        refine co_blockX ?_
        refine co_then ?_
        refine co_seq ?_
        refine co_reg ?_
        refine pk0 (v := pt N 0) h32 rfl fun a121 h121 => ?_; clear h32
        refine pk0 (v := pt b 0) h121 rfl fun a122 h122 => ?_; clear h121
        refine pw h122 rfl (op_call (args := #[pt b 0, .int .i64 1073741824]) (R := fun res xw => ∃ (n : Int) (a' e' : Int), res = .int .i64 n ∧ numR s ra rx 1073741824 = (n, a', e') ∧ 0 ≤ n ∧ n ≤ 1073741824 ∧ OR b s a' e' xw ∧ w.grownBy xw (some b)) rfl rfl rfl (by kernel_rfl) (by kernel_rfl) (Tryz.call58 _ _) (or_num b s ra rx 1073741824 w ho (by omega) (by omega) (by omega)) (by rintro q x ⟨n, a', e', rfl, h0, k0, k1, h1, h2⟩; exact ⟨_, rfl, n, a', e', rfl, h0, k0, k1, h1, h2⟩)) ?_; clear h122
        rintro _ w124 a123 ⟨n125, a126, e127, rfl, hq128, hn129, hm130, ho131, hg132⟩ h123
        have hz133 := hg132.size
        have hl134 := ho131.lt
        refine pk0 (v := pt b 0) h123 rfl fun a135 h135 => ?_; clear h123
        refine pw h135 rfl (op_call (args := #[pt b 0]) (R := fun res xw => ∃ (n : Int) (a' e' : Int), res = .int .u64 n ∧ bigR s a126 e127 = (n, a', e') ∧ 0 ≤ n ∧ n < 18446744073709551616 ∧ OR b s a' e' xw ∧ w124.grownBy xw (some b)) rfl rfl rfl (by kernel_rfl) (by kernel_rfl) (Tryz.call120 _ _) (or_big b s a126 e127 w124 ho131 (by omega)) (by rintro q x ⟨n, a', e', rfl, h0, k0, k1, h1, h2⟩; exact ⟨_, rfl, n, a', e', rfl, h0, k0, k1, h1, h2⟩)) ?_; clear h135
        rintro _ w137 a136 ⟨n138, a139, e140, rfl, hq141, hn142, hm143, ho144, hg145⟩ h136
        have hz146 := hg145.size
        have hl147 := ho144.lt
        refine pk0 (v := pt b 0) h136 rfl fun a148 h148 => ?_; clear h136
        refine pw h148 rfl (op_call (args := #[pt b 0, .int .i64 1073741824]) (R := fun res xw => ∃ (n : Int) (a' e' : Int), res = .int .i64 n ∧ numR s a139 e140 1073741824 = (n, a', e') ∧ 0 ≤ n ∧ n ≤ 1073741824 ∧ OR b s a' e' xw ∧ w137.grownBy xw (some b)) rfl rfl rfl (by kernel_rfl) (by kernel_rfl) (Tryz.call58 _ _) (or_num b s a139 e140 1073741824 w137 ho144 (by omega) (by omega) (by omega)) (by rintro q x ⟨n, a', e', rfl, h0, k0, k1, h1, h2⟩; exact ⟨_, rfl, n, a', e', rfl, h0, k0, k1, h1, h2⟩)) ?_; clear h148
        rintro _ w150 a149 ⟨n151, a152, e153, rfl, hq154, hn155, hm156, ho157, hg158⟩ h149
        have hz159 := hg158.size
        have hl160 := ho157.lt
        refine pk0 (v := .agg #[.int .i64 n125, .int .u64 n138, .int .i64 n151]) h149 rfl fun a161 h161 => ?_; clear h149
        refine pk0 (v := pt N 0) h161 rfl fun a162 h162 => ?_; clear h161
        refine pk0 (v := pt N 11) h162 rfl fun a163 h163 => ?_; clear h162
        have hk169 := hN.kept hg132 (by simp; omega)
        have hk170 := hk169.kept hg145 (by simp; omega)
        have hk171 := hk170.kept hg158 (by simp; omega)
        refine pwD h163 rfl (op_storePart (k := 11) (cs' := #[.int .i64 k, .int .i64 0, .int .u64 0, .int .i64 0, .slice none 0 0, .int .u64 0, .slice none 0 0, .int .i64 0, .int .i64 0, .slice none 0 0, .int .u64 0, .int .i64 n125, .int .u64 n138, .int .i64 n151, .int .i64 0, .int .i64 0, .int .i64 0, .int .i64 0]) rfl rfl rfl (by kernel_rfl) (by kernel_rfl) hk171 rfl rfl) ?_; clear h163
        rintro _ w165 a164 ⟨hk166, hz167, hg168⟩ h164
        have hk166' : Blk w165 N 58 #[.int .i64 k, .int .i64 0, .int .u64 0, .int .i64 0, .slice none 0 0, .int .u64 0, .slice none 0 0, .int .i64 0, .int .i64 0, .slice none 0 0, .int .u64 0, .int .i64 n125, .int .u64 n138, .int .i64 n151, .int .i64 0, .int .i64 0, .int .i64 0, .int .i64 0] := hk166; clear hk166
        have hz172 := hg168.size
        refine pl_nil ?_
        refine co_then ?_
        refine wp_exit ?_
        refine co_blockY (by decide) ?_
        refine co_thenX ?_
        refine co_blockX ?_
        refine co_then ?_
        refine co_seq ?_
        refine co_reg ?_
        refine pk0 (v := pt b 0) h164 rfl fun a173 h173 => ?_; clear h164
        have ho176 := ho157.at (by omega) hg168
        refine pw h173 rfl (op_call (args := #[pt b 0]) (R := fun res xw => res = .int .i64 e153 ∧ w165 = xw) rfl rfl rfl (by kernel_rfl) (by kernel_rfl) (Tryz.call59 _ _) (or_err b s a152 e153 w165 ho176) (by rintro q x ⟨rfl, rfl⟩; exact ⟨_, rfl, rfl, rfl⟩)) ?_; clear h173
        rintro _ _ a174 ⟨rfl, rfl⟩ h174
        refine pk0 (v := .int .i64 e153) h174 rfl fun a177 h177 => ?_; clear h174
        refine pl_nil ?_
        refine co_then ?_
        refine wp_ret ?_
        refine co_ret1 h177 rfl rfl ?_
        have hB178 := fb_at hB0 hg132 (fun hlt => by first | (exfalso; omega) | (simp; done) | simp_all)
        have hB179 := fb_at hB178 hg145 (fun hlt => by first | (exfalso; omega) | (simp; done) | simp_all)
        have hB180 := fb_at hB179 hg158 (fun hlt => by first | (exfalso; omega) | (simp; done) | simp_all)
        have hB181 := fb_at hB180 hg168 (fun hlt => by first | (exfalso; omega) | (simp; done) | simp_all)
        cases hof.symm.trans (rd_6 (by omega) hq128 hq141 hq154)
        exact ⟨_, _, _, rfl, (row_nilL _ _ _ _ _), (row_nilL _ _ _ _ _), (row_nilL _ _ _ _ _), hk166', ho176, hB181⟩
      ·
       rw [hc29] at h28
       have hp182 : k = 7 := by first | simpa using hc29 | simpa [and_assoc] using hc29
       clear hc29
       refine co_true h28 rfl ?_
       refine wp_exit ?_
       refine co_thenX ?_
       refine co_thenX ?_
       refine co_blockY (by decide) ?_
       refine co_thenX ?_
       refine co_blockY (by decide) ?_
       refine co_thenX ?_
       refine co_blockY (by decide) ?_
       refine co_thenX ?_
       refine co_blockY (by decide) ?_
       refine co_thenX ?_
       refine co_blockX ?_
       refine co_then ?_
       refine co_seq ?_
       refine co_reg ?_
       refine pk0 (v := pt N 0) h28 rfl fun a183 h183 => ?_; clear h28
       refine pk0 (v := pt b 0) h183 rfl fun a184 h184 => ?_; clear h183
       refine pw h184 rfl (op_call (args := #[pt b 0, .int .i64 1073741824]) (R := fun res xw => ∃ (n : Int) (a' e' : Int), res = .int .i64 n ∧ numR s ra rx 1073741824 = (n, a', e') ∧ 0 ≤ n ∧ n ≤ 1073741824 ∧ OR b s a' e' xw ∧ w.grownBy xw (some b)) rfl rfl rfl (by kernel_rfl) (by kernel_rfl) (Tryz.call58 _ _) (or_num b s ra rx 1073741824 w ho (by omega) (by omega) (by omega)) (by rintro q x ⟨n, a', e', rfl, h0, k0, k1, h1, h2⟩; exact ⟨_, rfl, n, a', e', rfl, h0, k0, k1, h1, h2⟩)) ?_; clear h184
       rintro _ w186 a185 ⟨n187, a188, e189, rfl, hq190, hn191, hm192, ho193, hg194⟩ h185
       have hz195 := hg194.size
       have hl196 := ho193.lt
       refine pk0 (v := pt N 0) h185 rfl fun a197 h197 => ?_; clear h185
       refine pk0 (v := pt N 1) h197 rfl fun a198 h198 => ?_; clear h197
       have hk204 := hN.kept hg194 (by simp; omega)
       refine pwD h198 rfl (op_store1 rfl rfl rfl rfl Tryz.sizeOf3 hk204 rfl) ?_; clear h198
       rintro _ w200 a199 ⟨hk201, hz202, hg203⟩ h199
       have hk201' : Blk w200 N 58 #[.int .i64 k, .int .i64 n187, .int .u64 0, .int .i64 0, .slice none 0 0, .int .u64 0, .slice none 0 0, .int .i64 0, .int .i64 0, .slice none 0 0, .int .u64 0, .int .i64 0, .int .u64 0, .int .i64 0, .int .i64 0, .int .i64 0, .int .i64 0, .int .i64 0] := hk201; clear hk201
       have hz205 := hg203.size
       refine pl_nil ?_
       refine co_then ?_
       refine wp_exit ?_
       refine co_blockY (by decide) ?_
       refine co_thenX ?_
       refine co_blockY (by decide) ?_
       refine co_thenX ?_
       refine co_blockX ?_
       refine co_then ?_
       refine co_seq ?_
       refine co_reg ?_
       refine pk0 (v := pt b 0) h199 rfl fun a206 h206 => ?_; clear h199
       have ho209 := ho193.at (by omega) hg203
       refine pw h206 rfl (op_call (args := #[pt b 0]) (R := fun res xw => res = .int .i64 e189 ∧ w200 = xw) rfl rfl rfl (by kernel_rfl) (by kernel_rfl) (Tryz.call59 _ _) (or_err b s a188 e189 w200 ho209) (by rintro q x ⟨rfl, rfl⟩; exact ⟨_, rfl, rfl, rfl⟩)) ?_; clear h206
       rintro _ _ a207 ⟨rfl, rfl⟩ h207
       refine pk0 (v := .int .i64 e189) h207 rfl fun a210 h210 => ?_; clear h207
       refine pl_nil ?_
       refine co_then ?_
       refine wp_ret ?_
       refine co_ret1 h210 rfl rfl ?_
       have hB211 := fb_at hB0 hg194 (fun hlt => by first | (exfalso; omega) | (simp; done) | simp_all)
       have hB212 := fb_at hB211 hg203 (fun hlt => by first | (exfalso; omega) | (simp; done) | simp_all)
       cases hof.symm.trans (rd_5 (by omega) hq190)
       exact ⟨_, _, _, rfl, (row_nilL _ _ _ _ _), (row_nilL _ _ _ _ _), (row_nilL _ _ _ _ _), hk201', ho209, hB212⟩
     ·
      rw [hc25] at h24
      have hp213 : k = 5 := by first | simpa using hc25 | simpa [and_assoc] using hc25
      clear hc25
      refine co_true h24 rfl ?_
      refine wp_skip ?_
      refine co_then ?_
      refine co_true h24 rfl ?_
      refine wp_exit ?_
      refine co_thenX ?_
      refine co_thenX ?_
      refine co_blockY (by decide) ?_
      refine co_thenX ?_
      refine co_blockY (by decide) ?_
      refine co_thenX ?_
      refine co_blockY (by decide) ?_
      refine co_thenX ?_
      refine co_blockY (by decide) ?_
      refine co_thenX ?_
      refine co_blockX ?_
      refine co_then ?_
      refine co_seq ?_
      refine co_reg ?_
      refine pk0 (v := pt N 0) h24 rfl fun a214 h214 => ?_; clear h24
      refine pk0 (v := pt b 0) h214 rfl fun a215 h215 => ?_; clear h214
      refine pw h215 rfl (op_call (args := #[pt b 0, .int .i64 1073741824]) (R := fun res xw => ∃ (n : Int) (a' e' : Int), res = .int .i64 n ∧ numR s ra rx 1073741824 = (n, a', e') ∧ 0 ≤ n ∧ n ≤ 1073741824 ∧ OR b s a' e' xw ∧ w.grownBy xw (some b)) rfl rfl rfl (by kernel_rfl) (by kernel_rfl) (Tryz.call58 _ _) (or_num b s ra rx 1073741824 w ho (by omega) (by omega) (by omega)) (by rintro q x ⟨n, a', e', rfl, h0, k0, k1, h1, h2⟩; exact ⟨_, rfl, n, a', e', rfl, h0, k0, k1, h1, h2⟩)) ?_; clear h215
      rintro _ w217 a216 ⟨n218, a219, e220, rfl, hq221, hn222, hm223, ho224, hg225⟩ h216
      have hz226 := hg225.size
      have hl227 := ho224.lt
      refine pk0 (v := pt N 0) h216 rfl fun a228 h228 => ?_; clear h216
      refine pk0 (v := pt N 1) h228 rfl fun a229 h229 => ?_; clear h228
      have hk235 := hN.kept hg225 (by simp; omega)
      refine pwD h229 rfl (op_store1 rfl rfl rfl rfl Tryz.sizeOf3 hk235 rfl) ?_; clear h229
      rintro _ w231 a230 ⟨hk232, hz233, hg234⟩ h230
      have hk232' : Blk w231 N 58 #[.int .i64 k, .int .i64 n218, .int .u64 0, .int .i64 0, .slice none 0 0, .int .u64 0, .slice none 0 0, .int .i64 0, .int .i64 0, .slice none 0 0, .int .u64 0, .int .i64 0, .int .u64 0, .int .i64 0, .int .i64 0, .int .i64 0, .int .i64 0, .int .i64 0] := hk232; clear hk232
      have hz236 := hg234.size
      refine pl_nil ?_
      refine co_then ?_
      refine wp_exit ?_
      refine co_blockY (by decide) ?_
      refine co_thenX ?_
      refine co_blockY (by decide) ?_
      refine co_thenX ?_
      refine co_blockX ?_
      refine co_then ?_
      refine co_seq ?_
      refine co_reg ?_
      refine pk0 (v := pt b 0) h230 rfl fun a237 h237 => ?_; clear h230
      have ho240 := ho224.at (by omega) hg234
      refine pw h237 rfl (op_call (args := #[pt b 0]) (R := fun res xw => res = .int .i64 e220 ∧ w231 = xw) rfl rfl rfl (by kernel_rfl) (by kernel_rfl) (Tryz.call59 _ _) (or_err b s a219 e220 w231 ho240) (by rintro q x ⟨rfl, rfl⟩; exact ⟨_, rfl, rfl, rfl⟩)) ?_; clear h237
      rintro _ _ a238 ⟨rfl, rfl⟩ h238
      refine pk0 (v := .int .i64 e220) h238 rfl fun a241 h241 => ?_; clear h238
      refine pl_nil ?_
      refine co_then ?_
      refine wp_ret ?_
      refine co_ret1 h241 rfl rfl ?_
      have hB242 := fb_at hB0 hg225 (fun hlt => by first | (exfalso; omega) | (simp; done) | simp_all)
      have hB243 := fb_at hB242 hg234 (fun hlt => by first | (exfalso; omega) | (simp; done) | simp_all)
      cases hof.symm.trans (rd_5 (by omega) hq221)
      exact ⟨_, _, _, rfl, (row_nilL _ _ _ _ _), (row_nilL _ _ _ _ _), (row_nilL _ _ _ _ _), hk232', ho240, hB243⟩
    ·
     rw [hc21] at h20
     have hp244 : k = 4 := by first | simpa using hc21 | simpa [and_assoc] using hc21
     clear hc21
     refine co_true h20 rfl ?_
     refine wp_exit ?_
     refine co_thenX ?_
     refine co_thenX ?_
     refine co_blockY (by decide) ?_
     refine co_thenX ?_
     refine co_blockY (by decide) ?_
     refine co_thenX ?_
     refine co_blockY (by decide) ?_
     refine co_thenX ?_
     refine co_blockX ?_
     refine co_then ?_
     refine co_reg ?_
     refine pk0 (v := pt N 0) h20 rfl fun a245 h245 => ?_; clear h20
     refine pk0 (v := pt b 0) h245 rfl fun a246 h246 => ?_; clear h245
     refine pw h246 rfl (op_call (args := #[pt b 0]) (R := fun res xw => ∃ (n : Int) (a' e' : Int), res = .int .u64 n ∧ bigR s ra rx = (n, a', e') ∧ 0 ≤ n ∧ n < 18446744073709551616 ∧ OR b s a' e' xw ∧ w.grownBy xw (some b)) rfl rfl rfl (by kernel_rfl) (by kernel_rfl) (Tryz.call120 _ _) (or_big b s ra rx w ho (by omega)) (by rintro q x ⟨n, a', e', rfl, h0, k0, k1, h1, h2⟩; exact ⟨_, rfl, n, a', e', rfl, h0, k0, k1, h1, h2⟩)) ?_; clear h246
     rintro _ w248 a247 ⟨n249, a250, e251, rfl, hq252, hn253, hm254, ho255, hg256⟩ h247
     have hz257 := hg256.size
     have hl258 := ho255.lt
     refine pk0 (v := pt N 0) h247 rfl fun a259 h259 => ?_; clear h247
     refine pk0 (v := pt N 2) h259 rfl fun a260 h260 => ?_; clear h259
     have hk266 := hN.kept hg256 (by simp; omega)
     refine pwD h260 rfl (op_store1 rfl rfl rfl rfl Tryz.sizeOf22 hk266 rfl) ?_; clear h260
     rintro _ w262 a261 ⟨hk263, hz264, hg265⟩ h261
     have hk263' : Blk w262 N 58 #[.int .i64 k, .int .i64 0, .int .u64 n249, .int .i64 0, .slice none 0 0, .int .u64 0, .slice none 0 0, .int .i64 0, .int .i64 0, .slice none 0 0, .int .u64 0, .int .i64 0, .int .u64 0, .int .i64 0, .int .i64 0, .int .i64 0, .int .i64 0, .int .i64 0] := hk263; clear hk263
     have hz267 := hg265.size
     refine pl_nil ?_
     refine co_blockN ?_
     refine co_then ?_
     refine co_seq ?_
     refine co_reg ?_
     refine pk0 (v := pt N 0) h261 rfl fun a268 h268 => ?_; clear h261
     refine pk0 (v := pt b 0) h268 rfl fun a269 h269 => ?_; clear h268
     have ho280 := ho255.at (by omega) hg265
     refine pw h269 rfl (op_call (args := #[pt b 0, .int .i64 1073741824]) (R := fun res xw => ∃ (n : Int) (a' e' : Int), res = .int .i64 n ∧ numR s a250 e251 1073741824 = (n, a', e') ∧ 0 ≤ n ∧ n ≤ 1073741824 ∧ OR b s a' e' xw ∧ w262.grownBy xw (some b)) rfl rfl rfl (by kernel_rfl) (by kernel_rfl) (Tryz.call58 _ _) (or_num b s a250 e251 1073741824 w262 ho280 (by omega) (by omega) (by omega)) (by rintro q x ⟨n, a', e', rfl, h0, k0, k1, h1, h2⟩; exact ⟨_, rfl, n, a', e', rfl, h0, k0, k1, h1, h2⟩)) ?_; clear h269
     rintro _ w271 a270 ⟨n272, a273, e274, rfl, hq275, hn276, hm277, ho278, hg279⟩ h270
     have hz281 := hg279.size
     have hl282 := ho278.lt
     refine pk0 (v := pt N 0) h270 rfl fun a283 h283 => ?_; clear h270
     refine pk0 (v := pt N 1) h283 rfl fun a284 h284 => ?_; clear h283
     have hk290 := hk263'.kept hg279 (by simp; omega)
     refine pwD h284 rfl (op_store1 rfl rfl rfl rfl Tryz.sizeOf3 hk290 rfl) ?_; clear h284
     rintro _ w286 a285 ⟨hk287, hz288, hg289⟩ h285
     have hk287' : Blk w286 N 58 #[.int .i64 k, .int .i64 n272, .int .u64 n249, .int .i64 0, .slice none 0 0, .int .u64 0, .slice none 0 0, .int .i64 0, .int .i64 0, .slice none 0 0, .int .u64 0, .int .i64 0, .int .u64 0, .int .i64 0, .int .i64 0, .int .i64 0, .int .i64 0, .int .i64 0] := hk287; clear hk287
     have hz291 := hg289.size
     refine pl_nil ?_
     refine co_then ?_
     refine wp_exit ?_
     refine co_blockY (by decide) ?_
     refine co_thenX ?_
     refine co_blockY (by decide) ?_
     refine co_thenX ?_
     refine co_blockX ?_
     refine co_then ?_
     refine co_seq ?_
     refine co_reg ?_
     refine pk0 (v := pt b 0) h285 rfl fun a292 h292 => ?_; clear h285
     have ho295 := ho278.at (by omega) hg289
     refine pw h292 rfl (op_call (args := #[pt b 0]) (R := fun res xw => res = .int .i64 e274 ∧ w286 = xw) rfl rfl rfl (by kernel_rfl) (by kernel_rfl) (Tryz.call59 _ _) (or_err b s a273 e274 w286 ho295) (by rintro q x ⟨rfl, rfl⟩; exact ⟨_, rfl, rfl, rfl⟩)) ?_; clear h292
     rintro _ _ a293 ⟨rfl, rfl⟩ h293
     refine pk0 (v := .int .i64 e274) h293 rfl fun a296 h296 => ?_; clear h293
     refine pl_nil ?_
     refine co_then ?_
     refine wp_ret ?_
     refine co_ret1 h296 rfl rfl ?_
     have hB297 := fb_at hB0 hg256 (fun hlt => by first | (exfalso; omega) | (simp; done) | simp_all)
     have hB298 := fb_at hB297 hg265 (fun hlt => by first | (exfalso; omega) | (simp; done) | simp_all)
     have hB299 := fb_at hB298 hg279 (fun hlt => by first | (exfalso; omega) | (simp; done) | simp_all)
     have hB300 := fb_at hB299 hg289 (fun hlt => by first | (exfalso; omega) | (simp; done) | simp_all)
     cases hof.symm.trans (rd_4 (by omega) hq252 hq275)
     exact ⟨_, _, _, rfl, (row_nilL _ _ _ _ _), (row_nilL _ _ _ _ _), (row_nilL _ _ _ _ _), hk287', ho295, hB300⟩
   ·
    rw [hc17] at h16
    have hp301 : k = 3 := by first | simpa using hc17 | simpa [and_assoc] using hc17
    clear hc17
    refine co_true h16 rfl ?_
    refine wp_exit ?_
    refine co_thenX ?_
    refine co_thenX ?_
    refine co_blockY (by decide) ?_
    refine co_thenX ?_
    refine co_blockY (by decide) ?_
    refine co_thenX ?_
    refine co_blockX ?_
    refine co_then ?_
    refine co_seq ?_
    refine co_reg ?_
    refine pk0 (v := pt N 0) h16 rfl fun a302 h302 => ?_; clear h16
    refine pk0 (v := pt N 0) h302 rfl fun a303 h303 => ?_; clear h302
    refine pk0 (v := pt b 0) h303 rfl fun a304 h304 => ?_; clear h303
    refine pw h304 rfl (op_call (args := #[pt b 0, .int .i64 1073741824]) (R := fun res xw => ∃ (n : Int) (a' e' : Int), res = .int .i64 n ∧ numR s ra rx 1073741824 = (n, a', e') ∧ 0 ≤ n ∧ n ≤ 1073741824 ∧ OR b s a' e' xw ∧ w.grownBy xw (some b)) rfl rfl rfl (by kernel_rfl) (by kernel_rfl) (Tryz.call58 _ _) (or_num b s ra rx 1073741824 w ho (by omega) (by omega) (by omega)) (by rintro q x ⟨n, a', e', rfl, h0, k0, k1, h1, h2⟩; exact ⟨_, rfl, n, a', e', rfl, h0, k0, k1, h1, h2⟩)) ?_; clear h304
    rintro _ w306 a305 ⟨n307, a308, e309, rfl, hq310, hn311, hm312, ho313, hg314⟩ h305
    have hz315 := hg314.size
    have hl316 := ho313.lt
    refine pk0 (v := pt b 0) h305 rfl fun a317 h317 => ?_; clear h305
    refine pw h317 rfl (op_call (args := #[pt b 0]) (R := fun res xw => ∃ (n : Int) (a' e' : Int), res = .int .u64 n ∧ bigR s a308 e309 = (n, a', e') ∧ 0 ≤ n ∧ n < 18446744073709551616 ∧ OR b s a' e' xw ∧ w306.grownBy xw (some b)) rfl rfl rfl (by kernel_rfl) (by kernel_rfl) (Tryz.call120 _ _) (or_big b s a308 e309 w306 ho313 (by omega)) (by rintro q x ⟨n, a', e', rfl, h0, k0, k1, h1, h2⟩; exact ⟨_, rfl, n, a', e', rfl, h0, k0, k1, h1, h2⟩)) ?_; clear h317
    rintro _ w319 a318 ⟨n320, a321, e322, rfl, hq323, hn324, hm325, ho326, hg327⟩ h318
    have hz328 := hg327.size
    have hl329 := ho326.lt
    refine pk0 (v := pt N 0) h318 rfl fun a330 h330 => ?_; clear h318
    refine pk0 (v := pt N 1) h330 rfl fun a331 h331 => ?_; clear h330
    have hk337 := hN.kept hg314 (by simp; omega)
    have hk338 := hk337.kept hg327 (by simp; omega)
    refine pwD h331 rfl (op_store1 rfl rfl rfl rfl Tryz.sizeOf3 hk338 rfl) ?_; clear h331
    rintro _ w333 a332 ⟨hk334, hz335, hg336⟩ h332
    have hk334' : Blk w333 N 58 #[.int .i64 k, .int .i64 n307, .int .u64 0, .int .i64 0, .slice none 0 0, .int .u64 0, .slice none 0 0, .int .i64 0, .int .i64 0, .slice none 0 0, .int .u64 0, .int .i64 0, .int .u64 0, .int .i64 0, .int .i64 0, .int .i64 0, .int .i64 0, .int .i64 0] := hk334; clear hk334
    have hz339 := hg336.size
    refine pk0 (v := pt N 0) h332 rfl fun a340 h340 => ?_; clear h332
    refine pk0 (v := pt N 2) h340 rfl fun a341 h341 => ?_; clear h340
    refine pwD h341 rfl (op_store1 rfl rfl rfl rfl Tryz.sizeOf22 hk334' rfl) ?_; clear h341
    rintro _ w343 a342 ⟨hk344, hz345, hg346⟩ h342
    have hk344' : Blk w343 N 58 #[.int .i64 k, .int .i64 n307, .int .u64 n320, .int .i64 0, .slice none 0 0, .int .u64 0, .slice none 0 0, .int .i64 0, .int .i64 0, .slice none 0 0, .int .u64 0, .int .i64 0, .int .u64 0, .int .i64 0, .int .i64 0, .int .i64 0, .int .i64 0, .int .i64 0] := hk344; clear hk344
    have hz347 := hg346.size
    refine pl_nil ?_
    refine co_then ?_
    refine wp_exit ?_
    refine co_blockY (by decide) ?_
    refine co_thenX ?_
    refine co_blockY (by decide) ?_
    refine co_thenX ?_
    refine co_blockY (by decide) ?_
    refine co_thenX ?_
    refine co_blockY (by decide) ?_
    refine co_thenX ?_
    refine co_blockX ?_
    refine co_then ?_
    refine co_seq ?_
    refine co_reg ?_
    refine pk0 (v := pt b 0) h342 rfl fun a348 h348 => ?_; clear h342
    have ho351 := ho326.at (by omega) hg336
    have ho352 := ho351.at (by omega) hg346
    refine pw h348 rfl (op_call (args := #[pt b 0]) (R := fun res xw => res = .int .i64 e322 ∧ w343 = xw) rfl rfl rfl (by kernel_rfl) (by kernel_rfl) (Tryz.call59 _ _) (or_err b s a321 e322 w343 ho352) (by rintro q x ⟨rfl, rfl⟩; exact ⟨_, rfl, rfl, rfl⟩)) ?_; clear h348
    rintro _ _ a349 ⟨rfl, rfl⟩ h349
    refine pk0 (v := .int .i64 e322) h349 rfl fun a353 h353 => ?_; clear h349
    refine pl_nil ?_
    refine co_then ?_
    refine wp_ret ?_
    refine co_ret1 h353 rfl rfl ?_
    have hB354 := fb_at hB0 hg314 (fun hlt => by first | (exfalso; omega) | (simp; done) | simp_all)
    have hB355 := fb_at hB354 hg327 (fun hlt => by first | (exfalso; omega) | (simp; done) | simp_all)
    have hB356 := fb_at hB355 hg336 (fun hlt => by first | (exfalso; omega) | (simp; done) | simp_all)
    have hB357 := fb_at hB356 hg346 (fun hlt => by first | (exfalso; omega) | (simp; done) | simp_all)
    cases hof.symm.trans (rd_3 (by omega) hq310 hq323)
    exact ⟨_, _, _, rfl, (row_nilL _ _ _ _ _), (row_nilL _ _ _ _ _), (row_nilL _ _ _ _ _), hk344', ho352, hB357⟩
  ·
   rw [hc13] at h12
   have hp358 : k = 2 := by first | simpa using hc13 | simpa [and_assoc] using hc13
   clear hc13
   refine co_true h12 rfl ?_
   refine wp_exit ?_
   refine co_thenX ?_
   refine co_thenX ?_
   refine co_blockY (by decide) ?_
   refine co_thenX ?_
   refine co_blockX ?_
   refine co_then ?_
   refine co_seq ?_
   refine co_seq ?_
   refine co_reg ?_
   refine pk0 (v := pt N 0) h12 rfl fun a359 h359 => ?_; clear h12
   refine pk0 (v := pt b 0) h359 rfl fun a360 h360 => ?_; clear h359
   refine pw h360 rfl (op_call (args := #[pt b 0, .int .i64 1073741824]) (R := fun res xw => ∃ (n : Int) (a' e' : Int), res = .int .i64 n ∧ numR s ra rx 1073741824 = (n, a', e') ∧ 0 ≤ n ∧ n ≤ 1073741824 ∧ OR b s a' e' xw ∧ w.grownBy xw (some b)) rfl rfl rfl (by kernel_rfl) (by kernel_rfl) (Tryz.call58 _ _) (or_num b s ra rx 1073741824 w ho (by omega) (by omega) (by omega)) (by rintro q x ⟨n, a', e', rfl, h0, k0, k1, h1, h2⟩; exact ⟨_, rfl, n, a', e', rfl, h0, k0, k1, h1, h2⟩)) ?_; clear h360
   rintro _ w362 a361 ⟨n363, a364, e365, rfl, hq366, hn367, hm368, ho369, hg370⟩ h361
   have hz371 := hg370.size
   have hl372 := ho369.lt
   refine pk0 (v := pt N 0) h361 rfl fun a373 h373 => ?_; clear h361
   refine pk0 (v := pt N 1) h373 rfl fun a374 h374 => ?_; clear h373
   have hk380 := hN.kept hg370 (by simp; omega)
   refine pwD h374 rfl (op_store1 rfl rfl rfl rfl Tryz.sizeOf3 hk380 rfl) ?_; clear h374
   rintro _ w376 a375 ⟨hk377, hz378, hg379⟩ h375
   have hk377' : Blk w376 N 58 #[.int .i64 k, .int .i64 n363, .int .u64 0, .int .i64 0, .slice none 0 0, .int .u64 0, .slice none 0 0, .int .i64 0, .int .i64 0, .slice none 0 0, .int .u64 0, .int .i64 0, .int .u64 0, .int .i64 0, .int .i64 0, .int .i64 0, .int .i64 0, .int .i64 0] := hk377; clear hk377
   have hz381 := hg379.size
   refine pl_nil ?_
   refine co_then ?_
   refine co_seq ?_
   refine co_reg ?_
   refine pk0 (v := pt N 0) h375 rfl fun a382 h382 => ?_; clear h375
   refine pk0 (v := pt b 0) h382 rfl fun a383 h383 => ?_; clear h382
   have ho386 := ho369.at (by omega) hg379
   refine pw h383 rfl (op_call (args := #[pt b 0, .func (.func 155) #[] #[]]) (R := fun res xw => ∃ u : Value, res = .tuple #[.agg #[.int .i64 ((whE s a364 e365).1.1), .int .i64 ((whE s a364 e365).1.2.1), u, .int .u64 ((whE s a364 e365).1.2.2.2)], .int .i64 ((whE s a364 e365).2.2.2)] ∧ xw.ownsRow w376.heap.size 159 3 u ((whE s a364 e365).1.2.2.1).length (((whE s a364 e365).1.2.2.1).flatMap opE) ∧ OR b s ((whE s a364 e365).2.1) ((whE s a364 e365).2.2.1) xw ∧ But (fun q => q = b) w376 xw) rfl rfl rfl (by kernel_rfl) (by kernel_rfl) (Tryz.call161 _ _) (nWholeE_any b s a364 e365 ((whE s a364 e365).1.1) ((whE s a364 e365).1.2.1) ((whE s a364 e365).1.2.2.1) ((whE s a364 e365).1.2.2.2) ((whE s a364 e365).2.1) ((whE s a364 e365).2.2.1) ((whE s a364 e365).2.2.2) w376 (by first | omega | (simp; done) | (simp; omega)) ho386 rfl) (by rintro e x ⟨u, rfl, hq388, hq389, hb390⟩; exact ⟨_, rfl, ⟨u, rfl, hq388, hq389, hb390⟩⟩)) ?_; clear h383
   rintro _ w385 a384 ⟨u387, rfl, hq388, hq389, hb390⟩ h384
   have hz391 := hb390.size
   have hl392 := sl_len (row_sl hq388 opE_len)
   have hl393 := hq389.lt
   refine pk0 (v := .tuple #[.agg #[.int .i64 ((whE s a364 e365).1.1), .int .i64 ((whE s a364 e365).1.2.1), u387, .int .u64 ((whE s a364 e365).1.2.2.2)], .int .i64 ((whE s a364 e365).2.2.2)]) h384 rfl fun a394 h394 => ?_; clear h384
   refine pk0 (v := .agg #[.int .i64 ((whE s a364 e365).1.1), .int .i64 ((whE s a364 e365).1.2.1), u387, .int .u64 ((whE s a364 e365).1.2.2.2)]) h394 rfl fun a395 h395 => ?_; clear h394
   refine pk0 (v := .int .i64 ((whE s a364 e365).2.2.2)) h395 rfl fun a396 h396 => ?_; clear h395
   refine pk0 (v := pt N 0) h396 rfl fun a397 h397 => ?_; clear h396
   refine pk0 (v := pt N 7) h397 rfl fun a398 h398 => ?_; clear h397
   have hk404 := hk377'.but hb390 (by first | omega | (simp; omega))
   refine pwD h398 rfl (op_storePart (k := 7) (cs' := #[.int .i64 k, .int .i64 n363, .int .u64 0, .int .i64 0, .slice none 0 0, .int .u64 0, .slice none 0 0, .int .i64 ((whE s a364 e365).1.1), .int .i64 ((whE s a364 e365).1.2.1), u387, .int .u64 ((whE s a364 e365).1.2.2.2), .int .i64 0, .int .u64 0, .int .i64 0, .int .i64 0, .int .i64 0, .int .i64 0, .int .i64 0]) rfl rfl rfl (all_cons rfl (all_cons rfl (all_cons (row_one hq388) (all_cons rfl all_nil)))) (by kernel_rfl) hk404 rfl rfl) ?_; clear h398
   rintro _ w400 a399 ⟨hk401, hz402, hg403⟩ h399
   have hk401' : Blk w400 N 58 #[.int .i64 k, .int .i64 n363, .int .u64 0, .int .i64 0, .slice none 0 0, .int .u64 0, .slice none 0 0, .int .i64 ((whE s a364 e365).1.1), .int .i64 ((whE s a364 e365).1.2.1), u387, .int .u64 ((whE s a364 e365).1.2.2.2), .int .i64 0, .int .u64 0, .int .i64 0, .int .i64 0, .int .i64 0, .int .i64 0, .int .i64 0] := hk401; clear hk401
   have hz405 := hg403.size
   refine pk0 (v := .int .i64 ((whE s a364 e365).2.2.2)) h399 rfl fun a406 h406 => ?_; clear h399
   refine pl_nil ?_
   refine co_then ?_
   refine co_seq ?_
   refine co_reg ?_
   refine pk0 (v := .int .i64 ((whE s a364 e365).2.2.2)) h406 rfl fun a407 h407 => ?_; clear h406
   refine pk0 (v := .int .i64 ((whE s a364 e365).2.2.2)) h407 rfl fun a408 h408 => ?_; clear h407
   refine pl_nil ?_
   refine co_then ?_
   refine wp_ret ?_
   refine co_thenR ?_
   refine co_blockR ?_
   refine co_thenR ?_
   refine co_blockR ?_
   refine co_thenR ?_
   refine co_blockR ?_
   refine co_thenR ?_
   refine co_blockR ?_
   refine co_thenR ?_
   refine co_blockR ?_
   refine co_thenR ?_
   refine co_blockR ?_
   refine co_thenR ?_
   refine co_ret1 h408 rfl rfl ?_
   have hr409 := row_kept_at hq388 hg403 (row_ne_lt hq388 (by omega))
   have ho410 := hq389.at (by omega) hg403
   have hB411 := fb_at hB0 hg370 (fun hlt => by first | (exfalso; omega) | (simp; done) | simp_all)
   have hB412 := fb_at hB411 hg379 (fun hlt => by first | (exfalso; omega) | (simp; done) | simp_all)
   have hB413 := fb_foot hB412 hb390 (fun i hlt hS => by (try simp at hS); first | omega | (simp; omega) | simp_all)
   have hB414 := fb_at hB413 hg403 (fun hlt => by first | (exfalso; omega) | (simp; done) | simp_all)
   cases hof.symm.trans (rd_2' (by omega) hq366)
   exact ⟨_, _, _, rfl, (row_nilL _ _ _ _ _), (row_nilL _ _ _ _ _), (row_lows hr409 (by omega)), hk401', ho410, hB414⟩
 ·
  rw [hc9] at h8
  have hp415 : k = 1 := by first | simpa using hc9 | simpa [and_assoc] using hc9
  clear hc9
  refine co_true h8 rfl ?_
  refine wp_exit ?_
  refine co_thenX ?_
  refine co_thenX ?_
  refine co_blockX ?_
  refine co_then ?_
  refine co_seq ?_
  refine co_seq ?_
  refine co_reg ?_
  refine pk0 (v := pt N 0) h8 rfl fun a416 h416 => ?_; clear h8
  refine pk0 (v := pt b 0) h416 rfl fun a417 h417 => ?_; clear h416
  refine pw h417 rfl (op_call (args := #[pt b 0, .func (.func 123) #[] #[]]) (R := fun res xw => ∃ u : Value, res = .tuple #[.agg #[.int .i64 ((whC s ra rx).1.1), u, .int .u64 ((whC s ra rx).1.2.2)], .int .i64 ((whC s ra rx).2.2.2)] ∧ xw.ownsRow w.heap.size 154 2 u ((whC s ra rx).1.2.1).length (((whC s ra rx).1.2.1).flatMap memE) ∧ OR b s ((whC s ra rx).2.1) ((whC s ra rx).2.2.1) xw ∧ But (fun q => q = b) w xw) rfl rfl rfl (by kernel_rfl) (by kernel_rfl) (Tryz.call160 _ _) (nWholeC_any b s ra rx ((whC s ra rx).1.1) ((whC s ra rx).1.2.1) ((whC s ra rx).1.2.2) ((whC s ra rx).2.1) ((whC s ra rx).2.2.1) ((whC s ra rx).2.2.2) w (by first | omega | (simp; done) | (simp; omega)) ho rfl) (by rintro e x ⟨u, rfl, hq421, hq422, hb423⟩; exact ⟨_, rfl, ⟨u, rfl, hq421, hq422, hb423⟩⟩)) ?_; clear h417
  rintro _ w419 a418 ⟨u420, rfl, hq421, hq422, hb423⟩ h418
  have hz424 := hb423.size
  have hl425 := sl_len (row_sl hq421 memE_len)
  have hl426 := hq422.lt
  refine pk0 (v := .tuple #[.agg #[.int .i64 ((whC s ra rx).1.1), u420, .int .u64 ((whC s ra rx).1.2.2)], .int .i64 ((whC s ra rx).2.2.2)]) h418 rfl fun a427 h427 => ?_; clear h418
  refine pk0 (v := .agg #[.int .i64 ((whC s ra rx).1.1), u420, .int .u64 ((whC s ra rx).1.2.2)]) h427 rfl fun a428 h428 => ?_; clear h427
  refine pk0 (v := .int .i64 ((whC s ra rx).2.2.2)) h428 rfl fun a429 h429 => ?_; clear h428
  refine pk0 (v := pt N 0) h429 rfl fun a430 h430 => ?_; clear h429
  refine pk0 (v := pt N 3) h430 rfl fun a431 h431 => ?_; clear h430
  have hk437 := hN.but hb423 (by first | omega | (simp; omega))
  refine pwD h431 rfl (op_storePart (k := 3) (cs' := #[.int .i64 k, .int .i64 0, .int .u64 0, .int .i64 ((whC s ra rx).1.1), u420, .int .u64 ((whC s ra rx).1.2.2), .slice none 0 0, .int .i64 0, .int .i64 0, .slice none 0 0, .int .u64 0, .int .i64 0, .int .u64 0, .int .i64 0, .int .i64 0, .int .i64 0, .int .i64 0, .int .i64 0]) rfl rfl rfl (all_cons rfl (all_cons (row_one hq421) (all_cons rfl all_nil))) (by kernel_rfl) hk437 rfl rfl) ?_; clear h431
  rintro _ w433 a432 ⟨hk434, hz435, hg436⟩ h432
  have hk434' : Blk w433 N 58 #[.int .i64 k, .int .i64 0, .int .u64 0, .int .i64 ((whC s ra rx).1.1), u420, .int .u64 ((whC s ra rx).1.2.2), .slice none 0 0, .int .i64 0, .int .i64 0, .slice none 0 0, .int .u64 0, .int .i64 0, .int .u64 0, .int .i64 0, .int .i64 0, .int .i64 0, .int .i64 0, .int .i64 0] := hk434; clear hk434
  have hz438 := hg436.size
  refine pk0 (v := .int .i64 ((whC s ra rx).2.2.2)) h432 rfl fun a439 h439 => ?_; clear h432
  refine pl_nil ?_
  refine co_then ?_
  refine co_seq ?_
  refine co_seq ?_
  refine co_reg ?_
  refine pk0 (v := .int .i64 ((whC s ra rx).2.2.2)) h439 rfl fun a440 h440 => ?_; clear h439
  refine pk0 (v := .bool (((whC s ra rx).2.2.2) != 0)) h440 rfl fun a441 h441 => ?_; clear h440
  refine pl_nil ?_
  refine co_then ?_
  have hB443 := fb_foot hB0 hb423 (fun i hlt hS => by (try simp at hS); first | omega | (simp; omega) | simp_all)
  have hB444 := fb_at hB443 hg436 (fun hlt => by first | (exfalso; omega) | (simp; done) | simp_all)
  cases hc442 : (((whC s ra rx).2.2.2) != 0)
  ·
   rw [hc442] at h441
   have hp445 : ¬ (((whC s ra rx).2.2.2) ≠ 0) := by first | simpa using hc442 | simpa [and_assoc] using hc442
   clear hc442
   refine co_false h441 rfl ?_
   refine wp_skip ?_
   refine co_then ?_
   refine co_seq ?_
   refine co_reg ?_
   refine pk0 (v := pt b 0) h441 rfl fun a446 h446 => ?_; clear h441
   have ho457 := hq422.at (by omega) hg436
   refine pw h446 rfl (op_call (args := #[pt b 0, .int .i64 4]) (R := fun res xw => ∃ (n : Int) (a' e' : Int), res = .int .i64 n ∧ numR s ((whC s ra rx).2.1) ((whC s ra rx).2.2.1) 4 = (n, a', e') ∧ 0 ≤ n ∧ n ≤ 4 ∧ OR b s a' e' xw ∧ w433.grownBy xw (some b)) rfl rfl rfl (by kernel_rfl) (by kernel_rfl) (Tryz.call58 _ _) (or_num b s ((whC s ra rx).2.1) ((whC s ra rx).2.2.1) 4 w433 ho457 (by omega) (by omega) (by omega)) (by rintro q x ⟨n, a', e', rfl, h0, k0, k1, h1, h2⟩; exact ⟨_, rfl, n, a', e', rfl, h0, k0, k1, h1, h2⟩)) ?_; clear h446
   rintro _ w448 a447 ⟨n449, a450, e451, rfl, hq452, hn453, hm454, ho455, hg456⟩ h447
   have hz458 := hg456.size
   have hl459 := ho455.lt
   refine pk0 (v := .int .i64 0) h447 rfl fun a460 h460 => ?_; clear h447
   refine pl_nil ?_
   refine co_then ?_
   refine wp_block ?_
   obtain ⟨base461, hb_base461⟩ : ∃ b, b = w448.heap.size := ⟨_, rfl⟩
   have hNb : N < base461 := by omega
   have h462 : Slots 110 [(0, pt b 0), (1, pt N 0), (37, .int .i64 n449), (38, .int .i64 0)] _ := h460.sub ⟨rfl, rfl, rfl, rfl, trivial⟩; clear h460
   refine co_loop (fun mm a x => ∃ (i : Nat) (u : Value) (ls : List Int) (ps : Int) (er : Int), Slots 110 [(0, pt b 0), (1, pt N 0), (37, .int .i64 n449), (38, .int .i64 ((i : Nat) : Int))] a ∧ mm = n449.toNat - i ∧ (((i : Nat) : Int) ≤ n449) ∧ (ls.length = i) ∧ (rgN s i ([], a450, e451) = (ls, ps, er)) ∧ Blk x N 58 #[.int .i64 k, .int .i64 0, .int .u64 0, .int .i64 ((whC s ra rx).1.1), u420, .int .u64 ((whC s ra rx).1.2.2), u, .int .i64 0, .int .i64 0, .slice none 0 0, .int .u64 0, .int .i64 0, .int .u64 0, .int .i64 0, .int .i64 0, .int .i64 0, .int .i64 0, .int .i64 0] ∧ OR b s ps er x ∧ x.ownsRow base461 3 1 u ls.length (ls.flatMap (intE .i64)) ∧ base461 ≤ x.heap.size ∧ x.ownsRow w.heap.size 154 2 u420 (((whC s ra rx).1.2.1).length) (((whC s ra rx).1.2.1).flatMap memE) ∧ But (fun q => q = b ∨ q = N) w x) (n449.toNat - 0) ?_ ?_
   have hk463 := hk434'.kept hg456 (by simp; omega)
   have hr464 := row_kept_at hq421 hg436 (row_ne_lt hq421 (by omega))
   have hr465 := row_kept_at hr464 hg456 (row_ne_lt hr464 (by omega))
   have hB466 := fb_at hB444 hg456 (fun hlt => by first | (exfalso; omega) | (simp; done) | simp_all)
   · exact ⟨0, (.slice none 0 0), [], a450, e451, h462.sub ⟨rfl, rfl, rfl, (slot_eq rfl (congrArg (Value.int .i64) (by first | rfl | omega))), trivial⟩, rfl, by omega, by first | rfl | (simp; omega), by first | rfl | exact hR', hk463, ho455, (row_nilL _ _ _ _ _), (by omega), hr465, hB466⟩
   · rintro k467 a468 w469 ⟨i, u, ls, ps, er, h468, rfl, hi470, hi471, hi472, hf473, hf474, hf475, hf476, hf477, hB478⟩
     have hz479 := hB478.size
     have hl480 := hf473.lt
     have hl481 := hf474.lt
     have hR : rgN s i ([], a450, e451) = (ls, ps, er) := by assumption
     refine co_seq ?_
     refine co_reg ?_
     refine pk0 (v := .bool (decide (((i : Nat) : Int) < n449))) h468 rfl fun a482 h482 => ?_; clear h468
     refine pl_nil ?_
     refine co_then ?_
     refine co_seq ?_
     cases hc483 : (decide (((i : Nat) : Int) < n449))
     ·
      rw [hc483] at h482
      have hp484 : ¬ (((i : Nat) : Int) < n449) := of_decide_eq_false hc483
      clear hc483
      refine co_false h482 rfl ?_
      refine wp_exit ?_
      refine co_thenX ?_
      refine co_thenX ?_
      refine co_blockX ?_
      refine co_then ?_
      refine wp_exit ?_
      refine co_blockY (by decide) ?_
      refine co_thenX ?_
      refine co_blockY (by decide) ?_
      refine co_thenX ?_
      refine co_blockY (by decide) ?_
      refine co_thenX ?_
      refine co_blockY (by decide) ?_
      refine co_thenX ?_
      refine co_blockY (by decide) ?_
      refine co_thenX ?_
      refine co_blockY (by decide) ?_
      refine co_thenX ?_
      refine co_blockX ?_
      refine co_then ?_
      refine co_seq ?_
      refine co_reg ?_
      refine pk0 (v := pt b 0) h482 rfl fun a485 h485 => ?_; clear h482
      refine pw h485 rfl (op_call (args := #[pt b 0]) (R := fun res xw => res = .int .i64 er ∧ w469 = xw) rfl rfl rfl (by kernel_rfl) (by kernel_rfl) (Tryz.call59 _ _) (or_err b s ps er w469 hf474) (by rintro q x ⟨rfl, rfl⟩; exact ⟨_, rfl, rfl, rfl⟩)) ?_; clear h485
      rintro _ _ a486 ⟨rfl, rfl⟩ h486
      refine pk0 (v := .int .i64 er) h486 rfl fun a488 h488 => ?_; clear h486
      refine pl_nil ?_
      refine co_then ?_
      refine wp_ret ?_
      refine co_ret1 h488 rfl rfl ?_
      cases hof.symm.trans (rd_1b' (by omega) (by assumption) hq452 hR (by omega))
      exact ⟨_, _, _, rfl, (row_lows hf477 (by omega)), (row_lows hf475 (by omega)), (row_nilL _ _ _ _ _), hf473, hf474, hB478⟩
     ·
      rw [hc483] at h482
      have hp489 : ((i : Nat) : Int) < n449 := of_decide_eq_true hc483
      clear hc483
      refine co_true h482 rfl ?_
      refine wp_skip ?_
      refine co_then ?_
      refine co_seq ?_
      refine wp_block ?_
      refine dr_gen (fun x => But (fun q => q = b ∨ q = N) w x) (by kernel_rfl) (fun w490 hg491 => ?_) (fun w490 hg491 => ?_)
      ·
       have hz492 := hg491.size
       have hB493 := fb_new hB478 hg491
       exact hB493
      have hz494 := hg491.size
      have hB495 := fb_new hB478 hg491
      refine dk0 0 (v := pt N 0) h482 rfl rfl hB495 fun a496 h496 => ?_; clear h482
      refine dk0 1 (v := pt N 0) h496 rfl rfl hB495 fun a497 h497 => ?_; clear h496
      refine dk0 2 (v := pt N 0) h497 rfl rfl hB495 fun a498 h498 => ?_; clear h497
      refine dk0 3 (v := pt N 6) h498 rfl rfl hB495 fun a499 h499 => ?_; clear h498
      refine dk0 5 (v := pt b 0) h499 rfl rfl hB495 fun a500 h500 => ?_; clear h499
      refine dr_many [4, 6] (by kernel_rfl) (by simp) ⟨?_, ?_, trivial⟩
      ·
       have hk501 := hf473.kept hg491 (by simp)
       refine dr_opVal (i := 4) (v := u) h500 rfl rfl rfl rfl (by kernel_rfl) rfl (rn_load1 rfl rfl Tryz.isAgg50 (hk501.cell rfl)) hB495 (fun a502 h502 => ?_); clear h500
       have ho513 := hf474.new hg491
       refine d1 6 h502 rfl rfl (op_call (args := #[pt b 0, .int .i64 3]) (R := fun res xw => ∃ (n : Int) (a' e' : Int), res = .int .i64 n ∧ numR s ps er 3 = (n, a', e') ∧ 0 ≤ n ∧ n ≤ 3 ∧ OR b s a' e' xw ∧ w490.grownBy xw (some b)) rfl rfl rfl (by kernel_rfl) (by kernel_rfl) (Tryz.call58 _ _) (or_num b s ps er 3 w490 ho513 (by omega) (by omega) (by omega)) (by rintro q x ⟨n, a', e', rfl, h0, k0, k1, h1, h2⟩; exact ⟨_, rfl, n, a', e', rfl, h0, k0, k1, h1, h2⟩)) ?_ ?_; clear h502
       ·
        rintro _ w504 ⟨n505, a506, e507, rfl, hq508, hn509, hm510, ho511, hg512⟩
        have hz514 := hg512.size
        have hl515 := ho511.lt
        have hB516 := fb_at hB495 hg512 (fun hlt => by first | (exfalso; omega) | (simp; done) | simp_all)
        exact hB516
       rintro _ w504 a503 ⟨n505, a506, e507, rfl, hq508, hn509, hm510, ho511, hg512⟩ h503
       have hz514 := hg512.size
       have hl515 := ho511.lt
       have hB516 := fb_at hB495 hg512 (fun hlt => by first | (exfalso; omega) | (simp; done) | simp_all)
       refine d1 7 h503 rfl rfl (op_new (v := fun N => .slice (some ⟨N, 0, none⟩) 1 1) (T := 3) (cs := #[.int .i64 n505]) (by kernel_rfl) (by kernel_rfl) (by kernel_rfl)) ?_ ?_; clear h503
       ·
        rintro _ w518 ⟨N519, rfl, hN522, hz523, hk521, hg520⟩
        have hr525 := row_kept_new hf475 hg491
        have hr526 := row_kept_at hr525 hg512 (row_ne_lt hr525 (by omega))
        have ha524 := row_fresh hr526 hN522
        have hr528 := row_kept_new hf477 hg491
        have hr529 := row_kept_at hr528 hg512 (row_ne_lt hr528 (by omega))
        have ha527 := row_fresh hr529 hN522
        have hz530 := hg520.size
        have hB531 := fb_new hB516 hg520
        exact hB531
       rintro _ w518 a517 ⟨N519, rfl, hN522, hz523, hk521, hg520⟩ h517
       have hr525 := row_kept_new hf475 hg491
       have hr526 := row_kept_at hr525 hg512 (row_ne_lt hr525 (by omega))
       have ha524 := row_fresh hr526 hN522
       have hr528 := row_kept_new hf477 hg491
       have hr529 := row_kept_at hr528 hg512 (row_ne_lt hr528 (by omega))
       have ha527 := row_fresh hr529 hN522
       have hz530 := hg520.size
       try dsimp only at h517
       have hB531 := fb_new hB516 hg520
       have hr537 := row_kept_new hr526 hg520
       refine d1 8 h517 rfl rfl (op_append rfl base461 3 (z := .int .i64 0) (size := 1) (bytes := 8) Tryz.underlying50 (by kernel_rfl) rfl rfl rfl hr537 rfl hk521 rfl (by kernel_rfl) (by first | omega | (simp only [List.length_nil, List.length_append, List.length_cons, List.length_take, List.length_drop]; omega)) (by first | omega | (simp only [List.length_nil, List.length_append, List.length_cons, List.length_take, List.length_drop]; omega)) (by omega)) ?_ ?_; clear h517
       ·
        rintro v534 w533 ⟨hr535, hg536⟩
        have hr535' : w533.ownsRow base461 3 1 v534 ((ls ++ [n505]).length) ((ls ++ [n505]).flatMap (intE .i64)) := row_push (y := n505) hr535 rfl rfl; clear hr535
        have hz538 := hg536.size
        have hB539 := fb_row hB531 hr537 (by omega) hg536
        exact hB539
       rintro v534 w533 a532 ⟨hr535, hg536⟩ h532
       have hr535' : w533.ownsRow base461 3 1 v534 ((ls ++ [n505]).length) ((ls ++ [n505]).flatMap (intE .i64)) := row_push (y := n505) hr535 rfl rfl; clear hr535
       have hz538 := hg536.size
       have hB539 := fb_row hB531 hr537 (by omega) hg536
       refine dk0 9 (v := pt N 0) h532 rfl rfl hB539 fun a540 h540 => ?_; clear h532
       refine dk0 10 (v := pt N 6) h540 rfl rfl hB539 fun a541 h541 => ?_; clear h540
       have hk547 := hk501.kept hg512 (by simp; omega)
       have hk548 := hk547.kept hg520 (by simp)
       have hk549 := hk548.kept hg536 (row_ne_lt hr537 (by omega))
       refine d1D 11 h541 rfl rfl (op_store1 rfl rfl rfl (row_one hr535') Tryz.sizeOf50 hk549 rfl) ?_ ?_; clear h541
       ·
        rintro _ w543 ⟨hk544, hz545, hg546⟩
        have hk544' : Blk w543 N 58 #[.int .i64 k, .int .i64 0, .int .u64 0, .int .i64 ((whC s ra rx).1.1), u420, .int .u64 ((whC s ra rx).1.2.2), v534, .int .i64 0, .int .i64 0, .slice none 0 0, .int .u64 0, .int .i64 0, .int .u64 0, .int .i64 0, .int .i64 0, .int .i64 0, .int .i64 0, .int .i64 0] := hk544; clear hk544
        have hz550 := hg546.size
        have hB551 := fb_at hB539 hg546 (fun hlt => by first | (exfalso; omega) | (simp; done) | simp_all)
        exact hB551
       rintro _ w543 a542 ⟨hk544, hz545, hg546⟩ h542
       have hk544' : Blk w543 N 58 #[.int .i64 k, .int .i64 0, .int .u64 0, .int .i64 ((whC s ra rx).1.1), u420, .int .u64 ((whC s ra rx).1.2.2), v534, .int .i64 0, .int .i64 0, .slice none 0 0, .int .u64 0, .int .i64 0, .int .u64 0, .int .i64 0, .int .i64 0, .int .i64 0, .int .i64 0, .int .i64 0] := hk544; clear hk544
       have hz550 := hg546.size
       refine dr_done (by kernel_rfl) ?_
       refine co_blockN ?_
       refine co_then ?_
       refine co_reg ?_
       refine pk (v := .int .i64 ((i + 1 : Nat) : Int)) h542 rfl (rn_arith' rfl rfl rfl rfl rfl rfl (IntWalk.i64_in _ (by omega)) (by omega)) fun a551 h551 => ?_; clear h542
       refine pk0 (v := .int .i64 ((i + 1 : Nat) : Int)) h551 rfl fun a552 h552 => ?_; clear h551
       refine pl_nil ?_
       refine co_then ?_
       refine ⟨(n449.toNat - (i + 1)), by omega, ?_⟩
       have hR' := rgN_step hR hq508
       have ho553 := ho511.new hg520
       have ho554 := ho553.row (row_ne_lt hr537 (by omega)) hg536
       have ho555 := ho554.at (by omega) hg546
       have hr556 := row_kept_at hr535' hg546 (row_ne_lt hr535' (by omega))
       have hr557 := row_kept_new hr529 hg520
       have hr558 := row_kept_row hr557 hr537 hg536 (by decide)
       have hr559 := row_kept_at hr558 hg546 (row_ne_lt hr558 (by omega))
       have hB560 := fb_at hB539 hg546 (fun hlt => by first | (exfalso; omega) | (simp; done) | simp_all)
       exact ⟨i + 1, v534, ls ++ [n505], a506, e507, h552.sub ⟨rfl, rfl, rfl, rfl, trivial⟩, rfl, by omega, by first | rfl | (simp; omega), by first | rfl | exact hR', hk544', ho555, (row_eq hr556 (rfl)), (by omega), hr559, hB560⟩
      ·
       have ho571 := hf474.new hg491
       refine dr_op (i := 6) h500 rfl rfl rfl rfl (op_call (args := #[pt b 0, .int .i64 3]) (R := fun res xw => ∃ (n : Int) (a' e' : Int), res = .int .i64 n ∧ numR s ps er 3 = (n, a', e') ∧ 0 ≤ n ∧ n ≤ 3 ∧ OR b s a' e' xw ∧ w490.grownBy xw (some b)) rfl rfl rfl (by kernel_rfl) (by kernel_rfl) (Tryz.call58 _ _) (or_num b s ps er 3 w490 ho571 (by omega) (by omega) (by omega)) (by rintro q x ⟨n, a', e', rfl, h0, k0, k1, h1, h2⟩; exact ⟨_, rfl, n, a', e', rfl, h0, k0, k1, h1, h2⟩)) ?_ ?_; clear h500
       ·
        rintro _ w562 ⟨n563, a564, e565, rfl, hq566, hn567, hm568, ho569, hg570⟩
        have hz572 := hg570.size
        have hl573 := ho569.lt
        have hB574 := fb_at hB495 hg570 (fun hlt => by first | (exfalso; omega) | (simp; done) | simp_all)
        exact hB574
       rintro _ w562 a561 ⟨n563, a564, e565, rfl, hq566, hn567, hm568, ho569, hg570⟩ h561
       have hz572 := hg570.size
       have hl573 := ho569.lt
       have hB574 := fb_at hB495 hg570 (fun hlt => by first | (exfalso; omega) | (simp; done) | simp_all)
       refine dr_many [4, 7] (by kernel_rfl) (by simp) ⟨?_, ?_, trivial⟩
       ·
        have hk575 := hf473.kept hg491 (by simp)
        have hk576 := hk575.kept hg570 (by simp; omega)
        refine dr_opVal (i := 4) (v := u) h561 rfl rfl rfl rfl (by kernel_rfl) rfl (rn_load1 rfl rfl Tryz.isAgg50 (hk576.cell rfl)) hB574 (fun a577 h577 => ?_); clear h561
        refine d1 7 h577 rfl rfl (op_new (v := fun N => .slice (some ⟨N, 0, none⟩) 1 1) (T := 3) (cs := #[.int .i64 n563]) (by kernel_rfl) (by kernel_rfl) (by kernel_rfl)) ?_ ?_; clear h577
        ·
         rintro _ w579 ⟨N580, rfl, hN583, hz584, hk582, hg581⟩
         have hr586 := row_kept_new hf475 hg491
         have hr587 := row_kept_at hr586 hg570 (row_ne_lt hr586 (by omega))
         have ha585 := row_fresh hr587 hN583
         have hr589 := row_kept_new hf477 hg491
         have hr590 := row_kept_at hr589 hg570 (row_ne_lt hr589 (by omega))
         have ha588 := row_fresh hr590 hN583
         have hz591 := hg581.size
         have hB592 := fb_new hB574 hg581
         exact hB592
        rintro _ w579 a578 ⟨N580, rfl, hN583, hz584, hk582, hg581⟩ h578
        have hr586 := row_kept_new hf475 hg491
        have hr587 := row_kept_at hr586 hg570 (row_ne_lt hr586 (by omega))
        have ha585 := row_fresh hr587 hN583
        have hr589 := row_kept_new hf477 hg491
        have hr590 := row_kept_at hr589 hg570 (row_ne_lt hr589 (by omega))
        have ha588 := row_fresh hr590 hN583
        have hz591 := hg581.size
        try dsimp only at h578
        have hB592 := fb_new hB574 hg581
        have hr598 := row_kept_new hr587 hg581
        refine d1 8 h578 rfl rfl (op_append rfl base461 3 (z := .int .i64 0) (size := 1) (bytes := 8) Tryz.underlying50 (by kernel_rfl) rfl rfl rfl hr598 rfl hk582 rfl (by kernel_rfl) (by first | omega | (simp only [List.length_nil, List.length_append, List.length_cons, List.length_take, List.length_drop]; omega)) (by first | omega | (simp only [List.length_nil, List.length_append, List.length_cons, List.length_take, List.length_drop]; omega)) (by omega)) ?_ ?_; clear h578
        ·
         rintro v595 w594 ⟨hr596, hg597⟩
         have hr596' : w594.ownsRow base461 3 1 v595 ((ls ++ [n563]).length) ((ls ++ [n563]).flatMap (intE .i64)) := row_push (y := n563) hr596 rfl rfl; clear hr596
         have hz599 := hg597.size
         have hB600 := fb_row hB592 hr598 (by omega) hg597
         exact hB600
        rintro v595 w594 a593 ⟨hr596, hg597⟩ h593
        have hr596' : w594.ownsRow base461 3 1 v595 ((ls ++ [n563]).length) ((ls ++ [n563]).flatMap (intE .i64)) := row_push (y := n563) hr596 rfl rfl; clear hr596
        have hz599 := hg597.size
        have hB600 := fb_row hB592 hr598 (by omega) hg597
        refine dk0 9 (v := pt N 0) h593 rfl rfl hB600 fun a601 h601 => ?_; clear h593
        refine dk0 10 (v := pt N 6) h601 rfl rfl hB600 fun a602 h602 => ?_; clear h601
        have hk608 := hk576.kept hg581 (by simp)
        have hk609 := hk608.kept hg597 (row_ne_lt hr598 (by omega))
        refine d1D 11 h602 rfl rfl (op_store1 rfl rfl rfl (row_one hr596') Tryz.sizeOf50 hk609 rfl) ?_ ?_; clear h602
        ·
         rintro _ w604 ⟨hk605, hz606, hg607⟩
         have hk605' : Blk w604 N 58 #[.int .i64 k, .int .i64 0, .int .u64 0, .int .i64 ((whC s ra rx).1.1), u420, .int .u64 ((whC s ra rx).1.2.2), v595, .int .i64 0, .int .i64 0, .slice none 0 0, .int .u64 0, .int .i64 0, .int .u64 0, .int .i64 0, .int .i64 0, .int .i64 0, .int .i64 0, .int .i64 0] := hk605; clear hk605
         have hz610 := hg607.size
         have hB611 := fb_at hB600 hg607 (fun hlt => by first | (exfalso; omega) | (simp; done) | simp_all)
         exact hB611
        rintro _ w604 a603 ⟨hk605, hz606, hg607⟩ h603
        have hk605' : Blk w604 N 58 #[.int .i64 k, .int .i64 0, .int .u64 0, .int .i64 ((whC s ra rx).1.1), u420, .int .u64 ((whC s ra rx).1.2.2), v595, .int .i64 0, .int .i64 0, .slice none 0 0, .int .u64 0, .int .i64 0, .int .u64 0, .int .i64 0, .int .i64 0, .int .i64 0, .int .i64 0, .int .i64 0] := hk605; clear hk605
        have hz610 := hg607.size
        refine dr_done (by kernel_rfl) ?_
        refine co_blockN ?_
        refine co_then ?_
        refine co_reg ?_
        refine pk (v := .int .i64 ((i + 1 : Nat) : Int)) h603 rfl (rn_arith' rfl rfl rfl rfl rfl rfl (IntWalk.i64_in _ (by omega)) (by omega)) fun a611 h611 => ?_; clear h603
        refine pk0 (v := .int .i64 ((i + 1 : Nat) : Int)) h611 rfl fun a612 h612 => ?_; clear h611
        refine pl_nil ?_
        refine co_then ?_
        refine ⟨(n449.toNat - (i + 1)), by omega, ?_⟩
        have hR' := rgN_step hR hq566
        have ho613 := ho569.new hg581
        have ho614 := ho613.row (row_ne_lt hr598 (by omega)) hg597
        have ho615 := ho614.at (by omega) hg607
        have hr616 := row_kept_at hr596' hg607 (row_ne_lt hr596' (by omega))
        have hr617 := row_kept_new hr590 hg581
        have hr618 := row_kept_row hr617 hr598 hg597 (by decide)
        have hr619 := row_kept_at hr618 hg607 (row_ne_lt hr618 (by omega))
        have hB620 := fb_at hB600 hg607 (fun hlt => by first | (exfalso; omega) | (simp; done) | simp_all)
        exact ⟨i + 1, v595, ls ++ [n563], a564, e565, h612.sub ⟨rfl, rfl, rfl, rfl, trivial⟩, rfl, by omega, by first | rfl | (simp; omega), by first | rfl | exact hR', hk605', ho615, (row_eq hr616 (rfl)), (by omega), hr619, hB620⟩
       ·
        refine dr_op (i := 7) h561 rfl rfl rfl rfl (op_new (v := fun N => .slice (some ⟨N, 0, none⟩) 1 1) (T := 3) (cs := #[.int .i64 n563]) (by kernel_rfl) (by kernel_rfl) (by kernel_rfl)) ?_ ?_; clear h561
        ·
         rintro _ w622 ⟨N623, rfl, hN626, hz627, hk625, hg624⟩
         have hr629 := row_kept_new hf475 hg491
         have hr630 := row_kept_at hr629 hg570 (row_ne_lt hr629 (by omega))
         have ha628 := row_fresh hr630 hN626
         have hr632 := row_kept_new hf477 hg491
         have hr633 := row_kept_at hr632 hg570 (row_ne_lt hr632 (by omega))
         have ha631 := row_fresh hr633 hN626
         have hz634 := hg624.size
         have hB635 := fb_new hB574 hg624
         exact hB635
        rintro _ w622 a621 ⟨N623, rfl, hN626, hz627, hk625, hg624⟩ h621
        have hr629 := row_kept_new hf475 hg491
        have hr630 := row_kept_at hr629 hg570 (row_ne_lt hr629 (by omega))
        have ha628 := row_fresh hr630 hN626
        have hr632 := row_kept_new hf477 hg491
        have hr633 := row_kept_at hr632 hg570 (row_ne_lt hr632 (by omega))
        have ha631 := row_fresh hr633 hN626
        have hz634 := hg624.size
        try dsimp only at h621
        have hB635 := fb_new hB574 hg624
        refine dr_many [4] (by kernel_rfl) (by simp) ⟨?_, trivial⟩
        ·
         have hk636 := hf473.kept hg491 (by simp)
         have hk637 := hk636.kept hg570 (by simp; omega)
         have hk638 := hk637.kept hg624 (by simp)
         refine dr_opVal (i := 4) (v := u) h621 rfl rfl rfl rfl (by kernel_rfl) rfl (rn_load1 rfl rfl Tryz.isAgg50 (hk638.cell rfl)) hB635 (fun a639 h639 => ?_); clear h621
         have hr645 := row_kept_new hr630 hg624
         refine d1 8 h639 rfl rfl (op_append rfl base461 3 (z := .int .i64 0) (size := 1) (bytes := 8) Tryz.underlying50 (by kernel_rfl) rfl rfl rfl hr645 rfl hk625 rfl (by kernel_rfl) (by first | omega | (simp only [List.length_nil, List.length_append, List.length_cons, List.length_take, List.length_drop]; omega)) (by first | omega | (simp only [List.length_nil, List.length_append, List.length_cons, List.length_take, List.length_drop]; omega)) (by omega)) ?_ ?_; clear h639
         ·
          rintro v642 w641 ⟨hr643, hg644⟩
          have hr643' : w641.ownsRow base461 3 1 v642 ((ls ++ [n563]).length) ((ls ++ [n563]).flatMap (intE .i64)) := row_push (y := n563) hr643 rfl rfl; clear hr643
          have hz646 := hg644.size
          have hB647 := fb_row hB635 hr645 (by omega) hg644
          exact hB647
         rintro v642 w641 a640 ⟨hr643, hg644⟩ h640
         have hr643' : w641.ownsRow base461 3 1 v642 ((ls ++ [n563]).length) ((ls ++ [n563]).flatMap (intE .i64)) := row_push (y := n563) hr643 rfl rfl; clear hr643
         have hz646 := hg644.size
         have hB647 := fb_row hB635 hr645 (by omega) hg644
         refine dk0 9 (v := pt N 0) h640 rfl rfl hB647 fun a648 h648 => ?_; clear h640
         refine dk0 10 (v := pt N 6) h648 rfl rfl hB647 fun a649 h649 => ?_; clear h648
         have hk655 := hk638.kept hg644 (row_ne_lt hr645 (by omega))
         refine d1D 11 h649 rfl rfl (op_store1 rfl rfl rfl (row_one hr643') Tryz.sizeOf50 hk655 rfl) ?_ ?_; clear h649
         ·
          rintro _ w651 ⟨hk652, hz653, hg654⟩
          have hk652' : Blk w651 N 58 #[.int .i64 k, .int .i64 0, .int .u64 0, .int .i64 ((whC s ra rx).1.1), u420, .int .u64 ((whC s ra rx).1.2.2), v642, .int .i64 0, .int .i64 0, .slice none 0 0, .int .u64 0, .int .i64 0, .int .u64 0, .int .i64 0, .int .i64 0, .int .i64 0, .int .i64 0, .int .i64 0] := hk652; clear hk652
          have hz656 := hg654.size
          have hB657 := fb_at hB647 hg654 (fun hlt => by first | (exfalso; omega) | (simp; done) | simp_all)
          exact hB657
         rintro _ w651 a650 ⟨hk652, hz653, hg654⟩ h650
         have hk652' : Blk w651 N 58 #[.int .i64 k, .int .i64 0, .int .u64 0, .int .i64 ((whC s ra rx).1.1), u420, .int .u64 ((whC s ra rx).1.2.2), v642, .int .i64 0, .int .i64 0, .slice none 0 0, .int .u64 0, .int .i64 0, .int .u64 0, .int .i64 0, .int .i64 0, .int .i64 0, .int .i64 0, .int .i64 0] := hk652; clear hk652
         have hz656 := hg654.size
         refine dr_done (by kernel_rfl) ?_
         refine co_blockN ?_
         refine co_then ?_
         refine co_reg ?_
         refine pk (v := .int .i64 ((i + 1 : Nat) : Int)) h650 rfl (rn_arith' rfl rfl rfl rfl rfl rfl (IntWalk.i64_in _ (by omega)) (by omega)) fun a657 h657 => ?_; clear h650
         refine pk0 (v := .int .i64 ((i + 1 : Nat) : Int)) h657 rfl fun a658 h658 => ?_; clear h657
         refine pl_nil ?_
         refine co_then ?_
         refine ⟨(n449.toNat - (i + 1)), by omega, ?_⟩
         have hR' := rgN_step hR hq566
         have ho659 := ho569.new hg624
         have ho660 := ho659.row (row_ne_lt hr645 (by omega)) hg644
         have ho661 := ho660.at (by omega) hg654
         have hr662 := row_kept_at hr643' hg654 (row_ne_lt hr643' (by omega))
         have hr663 := row_kept_new hr633 hg624
         have hr664 := row_kept_row hr663 hr645 hg644 (by decide)
         have hr665 := row_kept_at hr664 hg654 (row_ne_lt hr664 (by omega))
         have hB666 := fb_at hB647 hg654 (fun hlt => by first | (exfalso; omega) | (simp; done) | simp_all)
         exact ⟨i + 1, v642, ls ++ [n563], a564, e565, h658.sub ⟨rfl, rfl, rfl, rfl, trivial⟩, rfl, by omega, by first | rfl | (simp; omega), by first | rfl | exact hR', hk652', ho661, (row_eq hr662 (rfl)), (by omega), hr665, hB666⟩
  ·
   rw [hc442] at h441
   have hp667 : ((whC s ra rx).2.2.2) ≠ 0 := by first | simpa using hc442 | simpa [and_assoc] using hc442
   clear hc442
   refine co_true h441 rfl ?_
   refine co_seq ?_
   refine co_reg ?_
   refine pk0 (v := .int .i64 ((whC s ra rx).2.2.2)) h441 rfl fun a668 h668 => ?_; clear h441
   refine pk0 (v := .int .i64 ((whC s ra rx).2.2.2)) h668 rfl fun a669 h669 => ?_; clear h668
   refine pl_nil ?_
   refine co_then ?_
   refine wp_ret ?_
   refine co_thenR ?_
   refine co_thenR ?_
   refine co_blockR ?_
   refine co_thenR ?_
   refine co_blockR ?_
   refine co_thenR ?_
   refine co_blockR ?_
   refine co_thenR ?_
   refine co_blockR ?_
   refine co_thenR ?_
   refine co_blockR ?_
   refine co_thenR ?_
   refine co_blockR ?_
   refine co_thenR ?_
   refine co_blockR ?_
   refine co_thenR ?_
   refine co_ret1 h669 rfl rfl ?_
   have hr670 := row_kept_at hq421 hg436 (row_ne_lt hq421 (by omega))
   have ho671 := hq422.at (by omega) hg436
   cases hof.symm.trans (rd_1a' (by omega) (by assumption))
   exact ⟨_, _, _, rfl, (row_lows hr670 (by omega)), (row_nilL _ _ _ _ _), (row_nilL _ _ _ _ _), hk434', ho671, hB444⟩
end Go.Proofs.YteioaaegooebpaaGreat
