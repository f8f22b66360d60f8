/- Package ops: Check of both. Conditions: none. -/
import Derived.Test.YteioaaegooebpaaObj
import Derived.Test.YteioaaegooebpaaSl
import Derived.PlainAid
import Derived.Laws.StructEq
namespace Go.Proofs.Yteioaaegooebpaa
open Go.RowKit Go.PlainAid
set_option linter.unusedVariables false


abbrev OpT := ByteArray × ByteArray × Bool
def opE (o : OpT) : List Value := [.string o.1, .string o.2.1, .bool o.2.2]
theorem opE_len (o : OpT) : (opE o).length = 3 := rfl
theorem opE_one (o : OpT) : ∀ u ∈ opE o, u.oneCell' = true := by intro u hu; simp [opE] at hu; rcases hu with rfl | rfl | rfl <;> rfl
theorem eq_op (a b d e : ByteArray) (c f : Bool) (w : World) : (binOp .eql 86 (.agg #[.string a, .string b, .bool c]) (.agg #[.string d, .string e, .bool f])).run Try.prog w = .ok (.bool (a.toList == d.toList && b.toList == e.toList && c == f)) w := by
  have u := Try.underlying9
  have u' := Try.underlying4
  have hS : Try.prog.underlying 86 = some (.struct (Try.prog.fieldsOf 86)) := by kernel_rfl
  have hp : Try.prog.stoodInHeld 86 = false := by kernel_rfl
  have hf : (Try.prog.fieldsOf 86).toList.map (fun f => (f.offset, f.type)) = [(0, 9), (1, 9), (2, 4)] := by kernel_rfl
  rw [run_eql_struct, show (10000 : Nat) = 9999 + 1 from rfl, run_equalIn_agg w 9999 86 _ _ hS hp]
  simp only [Program.fieldsOf, Try.underlying86]
  go_simp
  by_cases h1 : a.toList = d.toList <;> by_cases h2 : b.toList = e.toList <;> by_cases h3 : c = f <;> simp [h1, h2, h3]
theorem bl_flip : ∀ (x y : List UInt8), (Op.bytesLess x y || x == y) = !Op.bytesLess y x
  | [], [] => rfl
  | [], _ :: _ => rfl
  | _ :: _, [] => rfl
  | a :: x, b :: y => by
    have ih := bl_flip x y
    show ((decide (a < b) || (a == b && Op.bytesLess x y)) || (a == b && x == y)) = !(decide (b < a) || (b == a && Op.bytesLess y x))
    rcases Nat.lt_trichotomy a.toNat b.toNat with h | h | h
    · have h1 : a < b := h
      have h2 : ¬ b < a := fun q => by have : b.toNat < a.toNat := q; omega
      have h3 : ¬ b = a := fun q => by subst q; omega
      simp [h1, h2, h3]
    · have e : a = b := UInt8.toNat.inj h
      subst e
      have h2 : ¬ a < a := fun q => by have : a.toNat < a.toNat := q; omega
      simp [h2]; simpa using ih
    · have h1 : ¬ a < b := fun q => by have : a.toNat < b.toNat := q; omega
      have h2 : b < a := h
      have h3 : ¬ a = b := fun q => by subst q; omega
      simp [h1, h2, h3]
/-- What a key's check answers; an operation's; those of all, each key above the one ahead of it. -/
def keyC (k : ByteArray) : Int := if ((k.size : Nat) : Int) < 1 ∨ ((k.size : Nat) : Int) > 8 then 10 else 0
def delV (o : OpT) : Bool := o.2.2 && !(o.2.1.toList == (⟨#[]⟩ : ByteArray).toList)
theorem delV_t {o : OpT} {b : Bool} (h : o.2.2 = true) (h2 : (!(o.2.1.toList == (⟨#[]⟩ : ByteArray).toList)) = b) : delV o = b := by unfold delV; rw [h, h2]; rfl
theorem delV_f {o : OpT} (h : o.2.2 = false) : delV o = false := by unfold delV; rw [h]; rfl
def chkOp (o : OpT) : Int := if keyC o.1 ≠ 0 then keyC o.1 else if ((o.2.1.size : Nat) : Int) > 8 then 3 else if delV o = true then 4 else 0
def keyUp (p : Option ByteArray) (k : ByteArray) : Bool := match p with | some q => Op.bytesLess q.toList k.toList | none => true
def chkL : Option ByteArray → List OpT → Int
  | _, [] => 0
  | p, o :: r => if chkOp o ≠ 0 then chkOp o else if keyUp p o.1 = true then chkL (some o.1) r else 18
def prevK (l : List OpT) (i : Nat) : Option ByteArray := if i = 0 then none else (l[i - 1]?).map (·.1)
def chkB (c r : Int) (l : List OpT) : Int := if c < 0 ∨ c ≥ 3 then 1 else if r < 1 ∨ r > 1073741824 then 5 else if ((l.length : Nat) : Int) > 4 then 6 else chkL none l
theorem prevK_succ {l : List OpT} {i : Nat} {y : OpT} (h : l[i]? = some y) : prevK l (i + 1) = some y.1 := by simp [prevK, h]
theorem prevK_pos {l : List OpT} {i j : Nat} {y : OpT} (hj : j = i - 1) (h0 : 0 < i) (h : l[j]? = some y) : prevK l i = some y.1 := by
  subst hj; simp [prevK, h]; omega
theorem dropO_at {l : List OpT} {i : Nat} {y : OpT} (h : l[i]? = some y) : l.drop i = y :: l.drop (i + 1) := by
  obtain ⟨hi, rfl⟩ := List.getElem?_eq_some_iff.1 h
  exact List.drop_eq_getElem_cons hi
theorem takeO_at {α : Type} {l : List α} {i : Nat} {y : α} (h : l[i]? = some y) : l.take (i + 1) = l.take i ++ [y] := by
  rw [List.take_add_one, h]; rfl
theorem chkL_bad {l : List OpT} {i : Nat} {y : OpT} {z : Int} (h : chkL (prevK l i) (l.drop i) = z) (hy : l[i]? = some y) (hc : chkOp y ≠ 0) : chkOp y = z := by
  rw [dropO_at hy] at h; unfold chkL at h; rwa [if_pos hc] at h
theorem chkL_step {l : List OpT} {i : Nat} {y : OpT} {z : Int} (h : chkL (prevK l i) (l.drop i) = z) (hy : l[i]? = some y) (hc : chkOp y = 0) (hu : keyUp (prevK l i) y.1 = true) : chkL (prevK l (i + 1)) (l.drop (i + 1)) = z := by
  rw [dropO_at hy] at h; unfold chkL at h; rw [if_neg (by simp [hc]), if_pos hu] at h
  rw [prevK_succ hy]; exact h
theorem chkL_ord {l : List OpT} {i : Nat} {y : OpT} {z : Int} (h : chkL (prevK l i) (l.drop i) = z) (hy : l[i]? = some y) (hc : chkOp y = 0) (hu : keyUp (prevK l i) y.1 = false) : 18 = z := by
  rw [dropO_at hy] at h; unfold chkL at h; rwa [if_neg (by simp [hc]), if_neg (by simp [hu])] at h
theorem chkL_end {l : List OpT} {i : Nat} {z : Int} (h : chkL (prevK l i) (l.drop i) = z) (hi : l.length ≤ i) : 0 = z := by
  rw [List.drop_eq_nil_of_le hi] at h; simpa [chkL] using h
theorem keyUp_at {l : List OpT} {i j : Nat} {y y' : OpT} {b : Bool} (hj : j = i - 1) (h0 : 0 < i) (h : l[j]? = some y') (hb : Op.bytesLess y'.1.toList y.1.toList = b) : keyUp (prevK l i) y.1 = b := by rw [prevK_pos hj h0 h]; exact hb
theorem keyUp_flip {l : List OpT} {i j : Nat} {y y' : OpT} {b : Bool} (hj : j = i - 1) (h0 : 0 < i) (h : l[j]? = some y') (hb : (Op.bytesLess y.1.toList y'.1.toList || y.1.toList == y'.1.toList) = b) : keyUp (prevK l i) y.1 = !b := by
  rw [bl_flip] at hb; rw [prevK_pos hj h0 h]; rw [← hb]; simp [keyUp]
theorem keyUp_0 {l : List OpT} {i : Nat} {k : ByteArray} (h0 : ¬ (0 : Int) < i) : keyUp (prevK l i) k = true := by
  obtain rfl : i = 0 := by omega
  rfl
theorem chkB_a {c r z : Int} {l : List OpT} (hz : chkB c r l = z) (h : c < 0 ∨ c ≥ 3) : 1 = z := by unfold chkB at hz; rwa [if_pos h] at hz
theorem chkB_b {c r z : Int} {l : List OpT} (hz : chkB c r l = z) (h : ¬ (c < 0 ∨ c ≥ 3)) (h1 : r < 1 ∨ r > 1073741824) : 5 = z := by unfold chkB at hz; rwa [if_neg h, if_pos h1] at hz
theorem chkB_c {c r z : Int} {l : List OpT} (hz : chkB c r l = z) (h : ¬ (c < 0 ∨ c ≥ 3)) (h1 : ¬ (r < 1 ∨ r > 1073741824)) (h2 : ((l.length : Nat) : Int) > 4) : 6 = z := by unfold chkB at hz; rwa [if_neg h, if_neg h1, if_pos h2] at hz
theorem chkB_d {c r z : Int} {l : List OpT} (hz : chkB c r l = z) (h : ¬ (c < 0 ∨ c ≥ 3)) (h1 : ¬ (r < 1 ∨ r > 1073741824)) (h2 : ¬ ((l.length : Nat) : Int) > 4) : chkL (prevK l 0) (l.drop 0) = z := by unfold chkB at hz; rwa [if_neg h, if_neg h1, if_neg h2] at hz
theorem chkOp_a {o : OpT} (h : keyC o.1 ≠ 0) : chkOp o = keyC o.1 := by unfold chkOp; rw [if_pos h]
theorem chkOp_b {o : OpT} (h : ¬ keyC o.1 ≠ 0) (h1 : ((o.2.1.size : Nat) : Int) > 8) : chkOp o = 3 := by unfold chkOp; rw [if_neg h, if_pos h1]
theorem chkOp_c {o : OpT} (h : ¬ keyC o.1 ≠ 0) (h1 : ¬ ((o.2.1.size : Nat) : Int) > 8) (h2 : delV o = true) : chkOp o = 4 := by unfold chkOp; rw [if_neg h, if_neg h1, if_pos h2]
theorem chkOp_d {o : OpT} (h : ¬ keyC o.1 ≠ 0) (h1 : ¬ ((o.2.1.size : Nat) : Int) > 8) (h2 : delV o = false) : chkOp o = 0 := by unfold chkOp; rw [if_neg h, if_neg h1, if_neg (by simp [h2])]
theorem keyC_ten {k : ByteArray} (h : keyC k ≠ 0) : keyC k = 10 := by unfold keyC at h ⊢; split <;> simp_all
theorem keyC_ok {k : ByteArray} (h : keyC k = 0) : 1 ≤ k.size ∧ k.size ≤ 8 := by unfold keyC at h; split at h <;> omega
theorem chkOp_ok {o : OpT} (h : chkOp o = 0) : (1 ≤ o.1.size ∧ o.1.size ≤ 8) ∧ o.2.1.size ≤ 8 ∧ delV o = false := by
  unfold chkOp at h
  split at h
  · omega
  rename_i h1
  split at h
  · omega
  rename_i h2
  split at h
  · omega
  rename_i h3
  exact ⟨keyC_ok (by omega), by omega, by simpa using h3⟩
theorem chkL_all : ∀ (p : Option ByteArray) (l : List OpT), chkL p l = 0 → ∀ z ∈ l, chkOp z = 0
  | _, [], _, _, h => by cases h
  | p, o :: r, h, z, hz => by
    unfold chkL at h
    by_cases h1 : chkOp o ≠ 0
    · rw [if_pos h1] at h; exact absurd h h1
    · rw [if_neg h1] at h
      by_cases h2 : keyUp p o.1 = true
      · rw [if_pos h2] at h
        rcases List.mem_cons.1 hz with rfl | hz
        · omega
        · exact chkL_all _ r h z hz
      · rw [if_neg h2] at h; omega
theorem chkB_ok {c r : Int} {l : List OpT} (h : chkB c r l = 0) : (0 ≤ c ∧ c < 3) ∧ (1 ≤ r ∧ r ≤ 1073741824) ∧ l.length ≤ 4 ∧ chkL none l = 0 := by
  unfold chkB at h
  split at h
  · omega
  split at h
  · omega
  split at h
  · omega
  exact ⟨by omega, by omega, by omega, h⟩
def OpOk (z : OpT) : Prop := (1 ≤ z.1.size ∧ z.1.size ≤ 8) ∧ z.2.1.size ≤ 8 ∧ delV z = false
theorem chkB_all {c r : Int} {l : List OpT} (h : chkB c r l = 0) : ∀ z ∈ l, OpOk z := fun z hz => chkOp_ok (chkL_all _ l (chkB_ok h).2.2.2 z hz)

set_option maxRecDepth 100000 in
theorem pKey_any (k : ByteArray) (w : World)  :
    Calls Try.prog 151 #[.string k] w fun e w' => e = .returned (.int .i64 (keyC k)) ∧ Below w.heap.size w w' := by
  have hB0 := Below.refl w.heap.size w
  refine co_enter (n := 11) Try.func151 rfl rfl rfl [(0, .string k)] rfl (fun a h0 => ?_)
  refine co_seq ?_
  refine co_reg ?_
  refine pl_val (v := .int .i64 0) h0 rfl rfl rfl (by kernel_rfl) (by kernel_rfl) (by kernel_rfl) (fun a1 h1 => ?_); clear h0
  refine pl_nil ?_
  refine co_then ?_
  refine co_seq ?_
  refine co_seq ?_
  refine co_reg ?_
  refine pl_val (v := .string k) h1 rfl rfl rfl (by kernel_rfl) (by kernel_rfl) (by kernel_rfl) (fun a2 h2 => ?_); clear h1
  refine pl_val (v := .int .i64 ((k.size : Nat) : Int)) h2 rfl rfl rfl (by kernel_rfl) (by kernel_rfl) (rn_lenStr rfl rfl Try.underlying9) (fun a3 h3 => ?_); clear h2
  refine pl_val (v := .bool (decide (((k.size : Nat) : Int) < 1))) h3 rfl rfl rfl (by kernel_rfl) (by kernel_rfl) (by kernel_rfl) (fun a4 h4 => ?_); clear h3
  refine pl_val (v := .bool (decide (((k.size : Nat) : Int) < 1))) h4 rfl rfl rfl (by kernel_rfl) (by kernel_rfl) (by kernel_rfl) (fun a5 h5 => ?_); clear h4
  cases hc6 : (decide (((k.size : Nat) : Int) < 1))
  ·
    rw [hc6] at h5
    have hp7 : ¬ (((k.size : Nat) : Int) < 1) := of_decide_eq_false hc6
    clear hc6
    refine pl_val (v := .string k) h5 rfl rfl rfl (by kernel_rfl) (by kernel_rfl) (by kernel_rfl) (fun a8 h8 => ?_); clear h5
    refine pl_val (v := .int .i64 ((k.size : Nat) : Int)) h8 rfl rfl rfl (by kernel_rfl) (by kernel_rfl) (rn_lenStr rfl rfl Try.underlying9) (fun a9 h9 => ?_); clear h8
    refine pl_val (v := .bool (decide (((k.size : Nat) : Int) > 8))) h9 rfl rfl rfl (by kernel_rfl) (by kernel_rfl) (by kernel_rfl) (fun a10 h10 => ?_); clear h9
    refine pl_val (v := .bool (decide (((k.size : Nat) : Int) > 8))) h10 rfl rfl rfl (by kernel_rfl) (by kernel_rfl) (by kernel_rfl) (fun a11 h11 => ?_); clear h10
    refine pl_nil ?_
    refine co_then ?_
    cases hc12 : (decide (((k.size : Nat) : Int) > 8))
    ·
      rw [hc12] at h11
      have hp13 : ¬ (((k.size : Nat) : Int) > 8) := of_decide_eq_false hc12
      clear hc12
      refine co_false h11 rfl ?_
      refine wp_skip ?_
      refine co_then ?_
      refine co_seq ?_
      refine co_reg ?_
      refine pl_val (v := .int .i64 0) h11 rfl rfl rfl (by kernel_rfl) (by kernel_rfl) (by kernel_rfl) (fun a14 h14 => ?_); clear h11
      refine pl_nil ?_
      refine co_then ?_
      refine wp_ret ?_
      refine co_ret1 h14 rfl rfl ?_
      exact ⟨ret_int (by unfold keyC; first | rw [if_pos (by omega)] | rw [if_neg (by omega)]), hB0⟩
    ·
      rw [hc12] at h11
      have hp15 : ((k.size : Nat) : Int) > 8 := of_decide_eq_true hc12
      clear hc12
      refine co_true h11 rfl ?_
      refine co_seq ?_
      refine co_reg ?_
      refine pl_val (v := .int .i64 10) h11 rfl rfl rfl (by kernel_rfl) (by kernel_rfl) (by kernel_rfl) (fun a16 h16 => ?_); clear h11
      refine pl_nil ?_
      refine co_then ?_
      refine wp_ret ?_
      refine co_thenR ?_
      refine co_ret1 h16 rfl rfl ?_
      exact ⟨ret_int (by unfold keyC; first | rw [if_pos (by omega)] | rw [if_neg (by omega)]), hB0⟩
  ·
    rw [hc6] at h5
    have hp17 : ((k.size : Nat) : Int) < 1 := of_decide_eq_true hc6
    clear hc6
    refine pl_skip h5 rfl rfl rfl (fun a18 h18 => ?_); clear h5
    refine pl_skip h18 rfl rfl rfl (fun a19 h19 => ?_); clear h18
    refine pl_skip h19 rfl rfl rfl (fun a20 h20 => ?_); clear h19
    refine pl_val (v := .bool true) h20 rfl rfl rfl (by kernel_rfl) (by kernel_rfl) (by kernel_rfl) (fun a21 h21 => ?_); clear h20
    refine pl_nil ?_
    refine co_then ?_
    refine co_true h21 rfl ?_
    refine co_seq ?_
    refine co_reg ?_
    refine pl_val (v := .int .i64 10) h21 rfl rfl rfl (by kernel_rfl) (by kernel_rfl) (by kernel_rfl) (fun a22 h22 => ?_); clear h21
    refine pl_nil ?_
    refine co_then ?_
    refine wp_ret ?_
    refine co_thenR ?_
    refine co_ret1 h22 rfl rfl ?_
    exact ⟨ret_int (by unfold keyC; first | rw [if_pos (by omega)] | rw [if_neg (by omega)]), hB0⟩
set_option maxRecDepth 100000 in
theorem rKey_any (k : ByteArray) (w : World)  :
    Calls Try.prog 110 #[.string k] w fun e w' => e = .returned (.int .i64 (keyC k)) ∧ Below w.heap.size w w' := by
  have hB0 := Below.refl w.heap.size w
  refine co_enter (n := 11) Try.func110 rfl rfl rfl [(0, .string k)] rfl (fun a h0 => ?_)
  refine co_seq ?_
  refine co_reg ?_
  refine pl_val (v := .int .i64 0) h0 rfl rfl rfl (by kernel_rfl) (by kernel_rfl) (by kernel_rfl) (fun a1 h1 => ?_); clear h0
  refine pl_nil ?_
  refine co_then ?_
  refine co_seq ?_
  refine co_seq ?_
  refine co_reg ?_
  refine pl_val (v := .string k) h1 rfl rfl rfl (by kernel_rfl) (by kernel_rfl) (by kernel_rfl) (fun a2 h2 => ?_); clear h1
  refine pl_val (v := .int .i64 ((k.size : Nat) : Int)) h2 rfl rfl rfl (by kernel_rfl) (by kernel_rfl) (rn_lenStr rfl rfl Try.underlying9) (fun a3 h3 => ?_); clear h2
  refine pl_val (v := .bool (decide (((k.size : Nat) : Int) < 1))) h3 rfl rfl rfl (by kernel_rfl) (by kernel_rfl) (by kernel_rfl) (fun a4 h4 => ?_); clear h3
  refine pl_val (v := .bool (decide (((k.size : Nat) : Int) < 1))) h4 rfl rfl rfl (by kernel_rfl) (by kernel_rfl) (by kernel_rfl) (fun a5 h5 => ?_); clear h4
  cases hc6 : (decide (((k.size : Nat) : Int) < 1))
  ·
    rw [hc6] at h5
    have hp7 : ¬ (((k.size : Nat) : Int) < 1) := of_decide_eq_false hc6
    clear hc6
    refine pl_val (v := .string k) h5 rfl rfl rfl (by kernel_rfl) (by kernel_rfl) (by kernel_rfl) (fun a8 h8 => ?_); clear h5
    refine pl_val (v := .int .i64 ((k.size : Nat) : Int)) h8 rfl rfl rfl (by kernel_rfl) (by kernel_rfl) (rn_lenStr rfl rfl Try.underlying9) (fun a9 h9 => ?_); clear h8
    refine pl_val (v := .bool (decide (((k.size : Nat) : Int) > 8))) h9 rfl rfl rfl (by kernel_rfl) (by kernel_rfl) (by kernel_rfl) (fun a10 h10 => ?_); clear h9
    refine pl_val (v := .bool (decide (((k.size : Nat) : Int) > 8))) h10 rfl rfl rfl (by kernel_rfl) (by kernel_rfl) (by kernel_rfl) (fun a11 h11 => ?_); clear h10
    refine pl_nil ?_
    refine co_then ?_
    cases hc12 : (decide (((k.size : Nat) : Int) > 8))
    ·
      rw [hc12] at h11
      have hp13 : ¬ (((k.size : Nat) : Int) > 8) := of_decide_eq_false hc12
      clear hc12
      refine co_false h11 rfl ?_
      refine wp_skip ?_
      refine co_then ?_
      refine co_seq ?_
      refine co_reg ?_
      refine pl_val (v := .int .i64 0) h11 rfl rfl rfl (by kernel_rfl) (by kernel_rfl) (by kernel_rfl) (fun a14 h14 => ?_); clear h11
      refine pl_nil ?_
      refine co_then ?_
      refine wp_ret ?_
      refine co_ret1 h14 rfl rfl ?_
      exact ⟨ret_int (by unfold keyC; first | rw [if_pos (by omega)] | rw [if_neg (by omega)]), hB0⟩
    ·
      rw [hc12] at h11
      have hp15 : ((k.size : Nat) : Int) > 8 := of_decide_eq_true hc12
      clear hc12
      refine co_true h11 rfl ?_
      refine co_seq ?_
      refine co_reg ?_
      refine pl_val (v := .int .i64 10) h11 rfl rfl rfl (by kernel_rfl) (by kernel_rfl) (by kernel_rfl) (fun a16 h16 => ?_); clear h11
      refine pl_nil ?_
      refine co_then ?_
      refine wp_ret ?_
      refine co_thenR ?_
      refine co_ret1 h16 rfl rfl ?_
      exact ⟨ret_int (by unfold keyC; first | rw [if_pos (by omega)] | rw [if_neg (by omega)]), hB0⟩
  ·
    rw [hc6] at h5
    have hp17 : ((k.size : Nat) : Int) < 1 := of_decide_eq_true hc6
    clear hc6
    refine pl_skip h5 rfl rfl rfl (fun a18 h18 => ?_); clear h5
    refine pl_skip h18 rfl rfl rfl (fun a19 h19 => ?_); clear h18
    refine pl_skip h19 rfl rfl rfl (fun a20 h20 => ?_); clear h19
    refine pl_val (v := .bool true) h20 rfl rfl rfl (by kernel_rfl) (by kernel_rfl) (by kernel_rfl) (fun a21 h21 => ?_); clear h20
    refine pl_nil ?_
    refine co_then ?_
    refine co_true h21 rfl ?_
    refine co_seq ?_
    refine co_reg ?_
    refine pl_val (v := .int .i64 10) h21 rfl rfl rfl (by kernel_rfl) (by kernel_rfl) (by kernel_rfl) (fun a22 h22 => ?_); clear h21
    refine pl_nil ?_
    refine co_then ?_
    refine wp_ret ?_
    refine co_thenR ?_
    refine co_ret1 h22 rfl rfl ?_
    exact ⟨ret_int (by unfold keyC; first | rw [if_pos (by omega)] | rw [if_neg (by omega)]), hB0⟩
set_option maxRecDepth 100000 in
theorem chkOp_any (o : OpT) (w : World)  :
    Calls Try.prog 109 #[.agg #[.string o.1, .string o.2.1, .bool o.2.2]] w fun e w' => e = .returned (.int .i64 (chkOp o)) ∧ Below w.heap.size w w' := by
  have hB0 := Below.refl w.heap.size w
  refine co_enter (n := 21) Try.func109 rfl rfl rfl [(0, .agg #[.string o.1, .string o.2.1, .bool o.2.2])] rfl (fun a h0 => ?_)
  refine co_seq ?_
  refine co_reg ?_
  refine pl_want h0 rfl rfl rfl (op_new (v := fun N => .pointer (some ⟨N, 0, none⟩)) (T := 86) (cs := #[.string o.1, .string o.2.1, .bool o.2.2]) (by kernel_rfl) (by kernel_rfl) (by kernel_rfl)) ?_; clear h0
  rintro _ w2 a1 ⟨N3, rfl, hN6, hz7, hk5, hg4⟩ h1
  have hB8 := hb_new hB0 hg4
  have hz9 := hB8.size
  have hz10 := hg4.size
  try dsimp only at h1
  refine pl_val (v := .int .i64 0) h1 rfl rfl rfl (by kernel_rfl) (by kernel_rfl) (by kernel_rfl) (fun a11 h11 => ?_); clear h1
  refine pl_nil ?_
  refine co_then ?_
  refine co_seq ?_
  refine co_seq ?_
  refine co_reg ?_
  refine pl_val (v := .pointer (some ⟨N3, 0, none⟩)) h11 rfl rfl rfl (by kernel_rfl) (by kernel_rfl) (by kernel_rfl) (fun a12 h12 => ?_); clear h11
  refine pl_val (v := .string o.1) h12 rfl rfl rfl (by kernel_rfl) (by kernel_rfl) (rn_load1 rfl rfl Try.isAgg9 (hk5.cell rfl)) (fun a13 h13 => ?_); clear h12
  refine pl_want h13 rfl rfl rfl (op_call (args := #[.string o.1]) (R := fun res xw => res = .int .i64 (keyC o.1) ∧ Below w2.heap.size w2 xw) rfl rfl rfl (by kernel_rfl) (by kernel_rfl) (Try.call151 _ _) (pKey_any o.1 w2 ) (by rintro e x ⟨rfl, hb16⟩; exact ⟨_, rfl, ⟨rfl, hb16⟩⟩)) ?_; clear h13
  rintro _ w15 a14 ⟨rfl, hb16⟩ h14
  have hB17 := hb_call hB8 hb16
  have hz18 := hB17.size
  have hz19 := hb16.size
  have hk20 := hk5.below hb16
  refine pl_val (v := .int .i64 (keyC o.1)) h14 rfl rfl rfl (by kernel_rfl) (by kernel_rfl) (by kernel_rfl) (fun a21 h21 => ?_); clear h14
  refine pl_nil ?_
  refine co_then ?_
  refine co_seq ?_
  refine co_reg ?_
  refine pl_val (v := .int .i64 (keyC o.1)) h21 rfl rfl rfl (by kernel_rfl) (by kernel_rfl) (by kernel_rfl) (fun a22 h22 => ?_); clear h21
  refine pl_val (v := .bool (keyC o.1 != 0)) h22 rfl rfl rfl (by kernel_rfl) (by kernel_rfl) (by kernel_rfl) (fun a23 h23 => ?_); clear h22
  refine pl_nil ?_
  refine co_then ?_
  cases hc24 : (keyC o.1 != 0)
  ·
    rw [hc24] at h23
    have hp25 : ¬ (keyC o.1 ≠ 0) := by first | simpa using hc24 | simpa [and_assoc] using hc24
    clear hc24
    refine co_false h23 rfl ?_
    refine wp_skip ?_
    refine co_then ?_
    refine co_seq ?_
    refine co_seq ?_
    refine co_reg ?_
    refine pl_val (v := .pointer (some ⟨N3, 1, none⟩)) h23 rfl rfl rfl (by kernel_rfl) (by kernel_rfl) (by kernel_rfl) (fun a26 h26 => ?_); clear h23
    refine pl_val (v := .string o.2.1) h26 rfl rfl rfl (by kernel_rfl) (by kernel_rfl) (rn_load1 rfl rfl Try.isAgg9 (hk20.cell rfl)) (fun a27 h27 => ?_); clear h26
    refine pl_val (v := .int .i64 ((o.2.1.size : Nat) : Int)) h27 rfl rfl rfl (by kernel_rfl) (by kernel_rfl) (rn_lenStr rfl rfl Try.underlying9) (fun a28 h28 => ?_); clear h27
    refine pl_val (v := .bool (decide (((o.2.1.size : Nat) : Int) > 8))) h28 rfl rfl rfl (by kernel_rfl) (by kernel_rfl) (by kernel_rfl) (fun a29 h29 => ?_); clear h28
    refine pl_nil ?_
    refine co_then ?_
    cases hc30 : (decide (((o.2.1.size : Nat) : Int) > 8))
    ·
      rw [hc30] at h29
      have hp31 : ¬ (((o.2.1.size : Nat) : Int) > 8) := of_decide_eq_false hc30
      clear hc30
      refine co_false h29 rfl ?_
      refine wp_skip ?_
      refine co_then ?_
      refine co_seq ?_
      refine co_seq ?_
      refine co_reg ?_
      refine pl_val (v := .pointer (some ⟨N3, 2, none⟩)) h29 rfl rfl rfl (by kernel_rfl) (by kernel_rfl) (by kernel_rfl) (fun a32 h32 => ?_); clear h29
      refine pl_val (v := .bool o.2.2) h32 rfl rfl rfl (by kernel_rfl) (by kernel_rfl) (rn_load1 rfl rfl Try.isAgg4 (hk20.cell rfl)) (fun a33 h33 => ?_); clear h32
      refine pl_val (v := .bool o.2.2) h33 rfl rfl rfl (by kernel_rfl) (by kernel_rfl) (by kernel_rfl) (fun a34 h34 => ?_); clear h33
      cases hc35 : (o.2.2)
      ·
        rw [hc35] at h34
        refine pl_skip h34 rfl rfl rfl (fun a36 h36 => ?_); clear h34
        refine pl_skip h36 rfl rfl rfl (fun a37 h37 => ?_); clear h36
        refine pl_skip h37 rfl rfl rfl (fun a38 h38 => ?_); clear h37
        refine pl_val (v := .bool false) h38 rfl rfl rfl (by kernel_rfl) (by kernel_rfl) (by kernel_rfl) (fun a39 h39 => ?_); clear h38
        refine pl_nil ?_
        refine co_then ?_
        refine co_false h39 rfl ?_
        refine wp_skip ?_
        refine co_then ?_
        refine co_seq ?_
        refine co_reg ?_
        refine pl_val (v := .int .i64 0) h39 rfl rfl rfl (by kernel_rfl) (by kernel_rfl) (by kernel_rfl) (fun a40 h40 => ?_); clear h39
        refine pl_nil ?_
        refine co_then ?_
        refine wp_ret ?_
        refine co_ret1 h40 rfl rfl ?_
        exact ⟨ret_int (by first | exact (chkOp_a (by assumption)).symm | exact (chkOp_b (by assumption) (by assumption)).symm | exact (chkOp_c (by assumption) (by assumption) (by first | exact delV_t (by assumption) (by assumption) | exact delV_f (by assumption))).symm | exact (chkOp_d (by assumption) (by assumption) (by first | exact delV_t (by assumption) (by assumption) | exact delV_f (by assumption))).symm), hB17⟩
      ·
        rw [hc35] at h34
        refine pl_val (v := .pointer (some ⟨N3, 1, none⟩)) h34 rfl rfl rfl (by kernel_rfl) (by kernel_rfl) (by kernel_rfl) (fun a41 h41 => ?_); clear h34
        refine pl_val (v := .string o.2.1) h41 rfl rfl rfl (by kernel_rfl) (by kernel_rfl) (rn_load1 rfl rfl Try.isAgg9 (hk20.cell rfl)) (fun a42 h42 => ?_); clear h41
        refine pl_val (v := .bool (!(o.2.1.toList == (⟨#[]⟩ : ByteArray).toList))) h42 rfl rfl rfl (by kernel_rfl) (by kernel_rfl) (by kernel_rfl) (fun a43 h43 => ?_); clear h42
        refine pl_val (v := .bool (!(o.2.1.toList == (⟨#[]⟩ : ByteArray).toList))) h43 rfl rfl rfl (by kernel_rfl) (by kernel_rfl) (by kernel_rfl) (fun a44 h44 => ?_); clear h43
        refine pl_nil ?_
        refine co_then ?_
        cases hc45 : (!(o.2.1.toList == (⟨#[]⟩ : ByteArray).toList))
        ·
          rw [hc45] at h44
          refine co_false h44 rfl ?_
          refine wp_skip ?_
          refine co_then ?_
          refine co_seq ?_
          refine co_reg ?_
          refine pl_val (v := .int .i64 0) h44 rfl rfl rfl (by kernel_rfl) (by kernel_rfl) (by kernel_rfl) (fun a46 h46 => ?_); clear h44
          refine pl_nil ?_
          refine co_then ?_
          refine wp_ret ?_
          refine co_ret1 h46 rfl rfl ?_
          exact ⟨ret_int (by first | exact (chkOp_a (by assumption)).symm | exact (chkOp_b (by assumption) (by assumption)).symm | exact (chkOp_c (by assumption) (by assumption) (by first | exact delV_t (by assumption) (by assumption) | exact delV_f (by assumption))).symm | exact (chkOp_d (by assumption) (by assumption) (by first | exact delV_t (by assumption) (by assumption) | exact delV_f (by assumption))).symm), hB17⟩
        ·
          rw [hc45] at h44
          refine co_true h44 rfl ?_
          refine co_seq ?_
          refine co_reg ?_
          refine pl_val (v := .int .i64 4) h44 rfl rfl rfl (by kernel_rfl) (by kernel_rfl) (by kernel_rfl) (fun a47 h47 => ?_); clear h44
          refine pl_nil ?_
          refine co_then ?_
          refine wp_ret ?_
          refine co_thenR ?_
          refine co_ret1 h47 rfl rfl ?_
          exact ⟨ret_int (by first | exact (chkOp_a (by assumption)).symm | exact (chkOp_b (by assumption) (by assumption)).symm | exact (chkOp_c (by assumption) (by assumption) (by first | exact delV_t (by assumption) (by assumption) | exact delV_f (by assumption))).symm | exact (chkOp_d (by assumption) (by assumption) (by first | exact delV_t (by assumption) (by assumption) | exact delV_f (by assumption))).symm), hB17⟩
    ·
      rw [hc30] at h29
      have hp48 : ((o.2.1.size : Nat) : Int) > 8 := of_decide_eq_true hc30
      clear hc30
      refine co_true h29 rfl ?_
      refine co_seq ?_
      refine co_reg ?_
      refine pl_val (v := .int .i64 3) h29 rfl rfl rfl (by kernel_rfl) (by kernel_rfl) (by kernel_rfl) (fun a49 h49 => ?_); clear h29
      refine pl_nil ?_
      refine co_then ?_
      refine wp_ret ?_
      refine co_thenR ?_
      refine co_ret1 h49 rfl rfl ?_
      exact ⟨ret_int (by first | exact (chkOp_a (by assumption)).symm | exact (chkOp_b (by assumption) (by assumption)).symm | exact (chkOp_c (by assumption) (by assumption) (by first | exact delV_t (by assumption) (by assumption) | exact delV_f (by assumption))).symm | exact (chkOp_d (by assumption) (by assumption) (by first | exact delV_t (by assumption) (by assumption) | exact delV_f (by assumption))).symm), hB17⟩
  ·
    rw [hc24] at h23
    have hp50 : keyC o.1 ≠ 0 := by first | simpa using hc24 | simpa [and_assoc] using hc24
    clear hc24
    refine co_true h23 rfl ?_
    refine co_seq ?_
    refine co_reg ?_
    refine pl_val (v := .int .i64 (keyC o.1)) h23 rfl rfl rfl (by kernel_rfl) (by kernel_rfl) (by kernel_rfl) (fun a51 h51 => ?_); clear h23
    refine pl_val (v := .int .i64 (keyC o.1)) h51 rfl rfl rfl (by kernel_rfl) (by kernel_rfl) (by kernel_rfl) (fun a52 h52 => ?_); clear h51
    refine pl_nil ?_
    refine co_then ?_
    refine wp_ret ?_
    refine co_thenR ?_
    refine co_ret1 h52 rfl rfl ?_
    exact ⟨ret_int (by first | exact (chkOp_a (by assumption)).symm | exact (chkOp_b (by assumption) (by assumption)).symm | exact (chkOp_c (by assumption) (by assumption) (by first | exact delV_t (by assumption) (by assumption) | exact delV_f (by assumption))).symm | exact (chkOp_d (by assumption) (by assumption) (by first | exact delV_t (by assumption) (by assumption) | exact delV_f (by assumption))).symm), hB17⟩
set_option maxRecDepth 100000 in
theorem opsCheck_any (c : Int) (r : Int) (v : Value) (l : List OpT) (w : World) (hs : SliceOf opE 3 w v l) :
    Calls Try.prog 63 #[.agg #[.int .i64 c, .int .i64 r, v]] w fun e w' => e = .returned (.int .i64 (chkB c r l)) ∧ Below w.heap.size w w' := by
  have hB0 := Below.refl w.heap.size w
  have hl_hs := sl_len hs
  refine co_enter (n := 54) Try.func63 rfl rfl rfl [(0, .agg #[.int .i64 c, .int .i64 r, v])] rfl (fun a h0 => ?_)
  refine co_seq ?_
  refine co_reg ?_
  refine pl_want h0 rfl rfl rfl (op_new (v := fun N => .pointer (some ⟨N, 0, none⟩)) (T := 31) (cs := #[.int .i64 c, .int .i64 r, v]) (by kernel_rfl) (by kernel_rfl) (by kernel_rfl)) ?_; clear h0
  rintro _ w2 a1 ⟨N3, rfl, hN6, hz7, hk5, hg4⟩ h1
  have hB8 := hb_new hB0 hg4
  have hz9 := hB8.size
  have hz10 := hg4.size
  try dsimp only at h1
  refine pl_val (v := .int .i64 0) h1 rfl rfl rfl (by kernel_rfl) (by kernel_rfl) (by kernel_rfl) (fun a11 h11 => ?_); clear h1
  refine pl_nil ?_
  refine co_then ?_
  refine co_seq ?_
  refine co_seq ?_
  refine co_reg ?_
  refine pl_val (v := .pointer (some ⟨N3, 0, none⟩)) h11 rfl rfl rfl (by kernel_rfl) (by kernel_rfl) (by kernel_rfl) (fun a12 h12 => ?_); clear h11
  refine pl_val (v := .int .i64 c) h12 rfl rfl rfl (by kernel_rfl) (by kernel_rfl) (rn_load1 rfl rfl Try.isAgg3 (hk5.cell rfl)) (fun a13 h13 => ?_); clear h12
  refine pl_val (v := .bool (decide (c < 0))) h13 rfl rfl rfl (by kernel_rfl) (by kernel_rfl) (by kernel_rfl) (fun a14 h14 => ?_); clear h13
  refine pl_val (v := .bool (decide (c < 0))) h14 rfl rfl rfl (by kernel_rfl) (by kernel_rfl) (by kernel_rfl) (fun a15 h15 => ?_); clear h14
  cases hc16 : (decide (c < 0))
  ·
    rw [hc16] at h15
    have hp17 : ¬ (c < 0) := of_decide_eq_false hc16
    clear hc16
    refine pl_val (v := .pointer (some ⟨N3, 0, none⟩)) h15 rfl rfl rfl (by kernel_rfl) (by kernel_rfl) (by kernel_rfl) (fun a18 h18 => ?_); clear h15
    refine pl_val (v := .int .i64 c) h18 rfl rfl rfl (by kernel_rfl) (by kernel_rfl) (rn_load1 rfl rfl Try.isAgg3 (hk5.cell rfl)) (fun a19 h19 => ?_); clear h18
    refine pl_val (v := .bool (decide (c ≥ 3))) h19 rfl rfl rfl (by kernel_rfl) (by kernel_rfl) (by kernel_rfl) (fun a20 h20 => ?_); clear h19
    refine pl_val (v := .bool (decide (c ≥ 3))) h20 rfl rfl rfl (by kernel_rfl) (by kernel_rfl) (by kernel_rfl) (fun a21 h21 => ?_); clear h20
    refine pl_nil ?_
    refine co_then ?_
    cases hc22 : (decide (c ≥ 3))
    ·
      rw [hc22] at h21
      have hp23 : ¬ (c ≥ 3) := of_decide_eq_false hc22
      clear hc22
      refine co_false h21 rfl ?_
      refine wp_skip ?_
      refine co_then ?_
      refine co_seq ?_
      refine co_seq ?_
      refine co_reg ?_
      refine pl_val (v := .pointer (some ⟨N3, 1, none⟩)) h21 rfl rfl rfl (by kernel_rfl) (by kernel_rfl) (by kernel_rfl) (fun a24 h24 => ?_); clear h21
      refine pl_val (v := .int .i64 r) h24 rfl rfl rfl (by kernel_rfl) (by kernel_rfl) (rn_load1 rfl rfl Try.isAgg3 (hk5.cell rfl)) (fun a25 h25 => ?_); clear h24
      refine pl_val (v := .bool (decide (r < 1))) h25 rfl rfl rfl (by kernel_rfl) (by kernel_rfl) (by kernel_rfl) (fun a26 h26 => ?_); clear h25
      refine pl_val (v := .bool (decide (r < 1))) h26 rfl rfl rfl (by kernel_rfl) (by kernel_rfl) (by kernel_rfl) (fun a27 h27 => ?_); clear h26
      cases hc28 : (decide (r < 1))
      ·
        rw [hc28] at h27
        have hp29 : ¬ (r < 1) := of_decide_eq_false hc28
        clear hc28
        refine pl_val (v := .pointer (some ⟨N3, 1, none⟩)) h27 rfl rfl rfl (by kernel_rfl) (by kernel_rfl) (by kernel_rfl) (fun a30 h30 => ?_); clear h27
        refine pl_val (v := .int .i64 r) h30 rfl rfl rfl (by kernel_rfl) (by kernel_rfl) (rn_load1 rfl rfl Try.isAgg3 (hk5.cell rfl)) (fun a31 h31 => ?_); clear h30
        refine pl_val (v := .bool (decide (r > 1073741824))) h31 rfl rfl rfl (by kernel_rfl) (by kernel_rfl) (by kernel_rfl) (fun a32 h32 => ?_); clear h31
        refine pl_val (v := .bool (decide (r > 1073741824))) h32 rfl rfl rfl (by kernel_rfl) (by kernel_rfl) (by kernel_rfl) (fun a33 h33 => ?_); clear h32
        refine pl_nil ?_
        refine co_then ?_
        cases hc34 : (decide (r > 1073741824))
        ·
          rw [hc34] at h33
          have hp35 : ¬ (r > 1073741824) := of_decide_eq_false hc34
          clear hc34
          refine co_false h33 rfl ?_
          refine wp_skip ?_
          refine co_then ?_
          refine co_seq ?_
          refine co_seq ?_
          refine co_reg ?_
          refine pl_val (v := .pointer (some ⟨N3, 2, none⟩)) h33 rfl rfl rfl (by kernel_rfl) (by kernel_rfl) (by kernel_rfl) (fun a36 h36 => ?_); clear h33
          refine pl_val (v := v) h36 rfl rfl rfl (by kernel_rfl) (by kernel_rfl) (rn_load1 rfl rfl Try.isAgg23 (hk5.cell rfl)) (fun a37 h37 => ?_); clear h36
          refine pl_val (v := .int .i64 ((l.length : Nat) : Int)) h37 rfl rfl rfl (by kernel_rfl) (by kernel_rfl) (rn_len rfl rfl Try.underlying23 (hs.below hB8)) (fun a38 h38 => ?_); clear h37
          refine pl_val (v := .bool (decide (((l.length : Nat) : Int) > 4))) h38 rfl rfl rfl (by kernel_rfl) (by kernel_rfl) (by kernel_rfl) (fun a39 h39 => ?_); clear h38
          refine pl_nil ?_
          refine co_then ?_
          cases hc40 : (decide (((l.length : Nat) : Int) > 4))
          ·
            rw [hc40] at h39
            have hp41 : ¬ (((l.length : Nat) : Int) > 4) := of_decide_eq_false hc40
            clear hc40
            refine co_false h39 rfl ?_
            refine wp_skip ?_
            refine co_then ?_
            refine co_seq ?_
            refine co_seq ?_
            refine co_reg ?_
            refine pl_val (v := .pointer (some ⟨N3, 2, none⟩)) h39 rfl rfl rfl (by kernel_rfl) (by kernel_rfl) (by kernel_rfl) (fun a42 h42 => ?_); clear h39
            refine pl_val (v := v) h42 rfl rfl rfl (by kernel_rfl) (by kernel_rfl) (rn_load1 rfl rfl Try.isAgg23 (hk5.cell rfl)) (fun a43 h43 => ?_); clear h42
            refine pl_val (v := .int .i64 ((l.length : Nat) : Int)) h43 rfl rfl rfl (by kernel_rfl) (by kernel_rfl) (rn_len rfl rfl Try.underlying23 (hs.below hB8)) (fun a44 h44 => ?_); clear h43
            refine pl_val (v := .int .i64 0) h44 rfl rfl rfl (by kernel_rfl) (by kernel_rfl) (by kernel_rfl) (fun a45 h45 => ?_); clear h44
            refine pl_nil ?_
            refine co_then ?_
            refine wp_block ?_
            have h46 : Slots 54 [(1, .pointer (some ⟨N3, 0, none⟩)), (2, .int .i64 0), (27, v), (28, .int .i64 ((l.length : Nat) : Int)), (29, .int .i64 0)] _ := h45.sub ⟨rfl, rfl, rfl, rfl, rfl, trivial⟩; clear h45
            refine co_loop (fun mm a x => ∃ (i : Nat), Slots 54 [(1, .pointer (some ⟨N3, 0, none⟩)), (2, .int .i64 0), (27, v), (28, .int .i64 ((l.length : Nat) : Int)), (29, .int .i64 ((i : Nat) : Int))] a ∧ mm = l.length - i ∧ (i ≤ l.length) ∧ (chkL (prevK l i) (l.drop i) = chkB c r l) ∧ Below w.heap.size w x ∧ Blk x N3 31 #[.int .i64 c, .int .i64 r, v]) (l.length - 0) ?_ ?_
            · exact ⟨0, h46.sub ⟨rfl, rfl, rfl, rfl, (slot_eq rfl (congrArg (Value.int .i64) (by first | rfl | omega))), trivial⟩, rfl, by omega, by first | exact chkB_d rfl (by omega) (by omega) (by omega) | exact hL', hB8, hk5⟩
            · rintro k47 a48 w49 ⟨i, h48, rfl, hi50, hi51, hB52, hk53⟩
              have hz54 := hB52.size
              have hl55 := hk53.lt
              have hL : chkL (prevK l i) (l.drop i) = chkB c r l := by assumption
              refine co_seq ?_
              refine co_reg ?_
              refine pl_val (v := .bool (decide (((i : Nat) : Int) < ((l.length : Nat) : Int)))) h48 rfl rfl rfl (by kernel_rfl) (by kernel_rfl) (by kernel_rfl) (fun a56 h56 => ?_); clear h48
              refine pl_nil ?_
              refine co_then ?_
              refine co_seq ?_
              cases hc57 : (decide (((i : Nat) : Int) < ((l.length : Nat) : Int)))
              ·
                rw [hc57] at h56
                have hp58 : ¬ (((i : Nat) : Int) < ((l.length : Nat) : Int)) := of_decide_eq_false hc57
                clear hc57
                refine co_false h56 rfl ?_
                refine wp_exit ?_
                refine co_thenX ?_
                refine co_thenX ?_
                refine co_blockX ?_
                refine co_then ?_
                refine co_seq ?_
                refine co_reg ?_
                refine pl_val (v := .int .i64 0) h56 rfl rfl rfl (by kernel_rfl) (by kernel_rfl) (by kernel_rfl) (fun a59 h59 => ?_); clear h56
                refine pl_nil ?_
                refine co_then ?_
                refine wp_ret ?_
                refine co_ret1 h59 rfl rfl ?_
                exact ⟨ret_int (chkL_end (i := i) hL (by omega)), hB52⟩
              ·
                rw [hc57] at h56
                have hp60 : ((i : Nat) : Int) < ((l.length : Nat) : Int) := of_decide_eq_true hc57
                clear hc57
                refine co_true h56 rfl ?_
                refine wp_skip ?_
                refine co_then ?_
                refine co_seq ?_
                refine wp_block ?_
                refine co_seq ?_
                refine co_reg ?_
                refine pl_val (v := .int .i64 ((i : Nat) : Int)) h56 rfl rfl rfl (by kernel_rfl) (by kernel_rfl) (by kernel_rfl) (fun a61 h61 => ?_); clear h56
                obtain ⟨y62, hy62⟩ : ∃ z, l[i]? = some z := ⟨_, List.getElem?_eq_getElem (by first | omega | (simp; done) | (simp; omega))⟩
                refine pl_val (v := .pointer (some ⟨(blkOf v), offOf v + i * 3, none⟩)) h61 rfl rfl rfl (by kernel_rfl) (by kernel_rfl) (rn_index rfl rfl rfl Try.underlying23 Try.sizeOf86 (hs.below hB52) (by omega) (by first | omega | (simp; done) | (simp; omega))) (fun a63 h63 => ?_); clear h61
                refine pl_val (v := .agg #[.string y62.1, .string y62.2.1, .bool y62.2.2]) h63 rfl rfl rfl (by kernel_rfl) (by kernel_rfl) (rn_loadN rfl rfl Try.underlying86 rfl (by kernel_rfl) (sl_at (hs.below hB52) hy62)) (fun a64 h64 => ?_); clear h63
                refine pl_want h64 rfl rfl rfl (op_new (v := fun N => .pointer (some ⟨N, 0, none⟩)) (T := 86) (cs := #[.string (⟨#[]⟩), .string (⟨#[]⟩), .bool false]) (by kernel_rfl) (by kernel_rfl) (by kernel_rfl)) ?_; clear h64
                rintro _ w66 a65 ⟨N67, rfl, hN70, hz71, hk69, hg68⟩ h65
                have hB72 := hb_new hB52 hg68
                have hz73 := hB72.size
                have hz74 := hg68.size
                have hk75 := hk53.kept hg68 (by simp)
                try dsimp only at h65
                refine pl_val (v := .int .i64 ((i : Nat) : Int)) h65 rfl rfl rfl (by kernel_rfl) (by kernel_rfl) (by kernel_rfl) (fun a76 h76 => ?_); clear h65
                refine pl_doW h76 rfl rfl (op_storeN rfl rfl rfl (by kernel_rfl) (by kernel_rfl) hk69 rfl) ?_; clear h76
                rintro _ w78 a77 ⟨hk79, hz80, hg81⟩ h77
                have hk79' : Blk w78 N67 86 #[.string y62.1, .string y62.2.1, .bool y62.2.2] := hk79; clear hk79
                have hB82 := hb_at hB72 hg81 (by omega)
                have hz83 := hB82.size
                have hz84 := hg81.size
                have hk85 := hk75.kept hg81 (by simp; omega)
                refine pl_nil ?_
                refine co_then ?_
                refine co_seq ?_
                refine co_seq ?_
                refine co_reg ?_
                refine pl_val (v := .agg #[.string y62.1, .string y62.2.1, .bool y62.2.2]) h77 rfl rfl rfl (by kernel_rfl) (by kernel_rfl) (rn_loadN rfl rfl Try.underlying86 rfl (by kernel_rfl) hk79'.all) (fun a86 h86 => ?_); clear h77
                refine pl_want h86 rfl rfl rfl (op_call (args := #[.agg #[.string y62.1, .string y62.2.1, .bool y62.2.2]]) (R := fun res xw => res = .int .i64 (chkOp y62) ∧ Below w78.heap.size w78 xw) rfl rfl rfl (by kernel_rfl) (by kernel_rfl) (Try.call109 _ _) (chkOp_any y62 w78 ) (by rintro e x ⟨rfl, hb89⟩; exact ⟨_, rfl, ⟨rfl, hb89⟩⟩)) ?_; clear h86
                rintro _ w88 a87 ⟨rfl, hb89⟩ h87
                have hB90 := hb_call hB82 hb89
                have hz91 := hB90.size
                have hz92 := hb89.size
                have hk93 := hk85.below hb89
                have hk94 := hk79'.below hb89
                refine pl_val (v := .int .i64 (chkOp y62)) h87 rfl rfl rfl (by kernel_rfl) (by kernel_rfl) (by kernel_rfl) (fun a95 h95 => ?_); clear h87
                refine pl_nil ?_
                refine co_then ?_
                refine co_seq ?_
                refine co_reg ?_
                refine pl_val (v := .int .i64 (chkOp y62)) h95 rfl rfl rfl (by kernel_rfl) (by kernel_rfl) (by kernel_rfl) (fun a96 h96 => ?_); clear h95
                refine pl_val (v := .bool (chkOp y62 != 0)) h96 rfl rfl rfl (by kernel_rfl) (by kernel_rfl) (by kernel_rfl) (fun a97 h97 => ?_); clear h96
                refine pl_nil ?_
                refine co_then ?_
                cases hc98 : (chkOp y62 != 0)
                ·
                  rw [hc98] at h97
                  have hp99 : ¬ (chkOp y62 ≠ 0) := by first | simpa using hc98 | simpa [and_assoc] using hc98
                  clear hc98
                  refine co_false h97 rfl ?_
                  refine wp_skip ?_
                  refine co_then ?_
                  refine co_seq ?_
                  refine dr_eq (by kernel_rfl) (fun w100 hg101 => ?_)
                  have hB102 := hb_new hB90 hg101
                  have hz103 := hB102.size
                  have hz104 := hg101.size
                  have hk105 := hk93.kept hg101 (by simp)
                  have hk106 := hk94.kept hg101 (by simp)
                  refine dr_take (i := 0) (v := .int .i64 ((i : Nat) : Int)) h97 rfl (by kernel_rfl) (by kernel_rfl) (by kernel_rfl) rfl rfl rfl rfl (by kernel_rfl) (fun _ _ => by kernel_rfl) (fun a107 h107 => ?_); clear h97
                  refine dr_take (i := 1) (v := .bool (decide (((i : Nat) : Int) > 0))) h107 rfl (by kernel_rfl) (by kernel_rfl) (by kernel_rfl) rfl rfl rfl rfl (by kernel_rfl) (fun _ _ => by kernel_rfl) (fun a108 h108 => ?_); clear h107
                  refine dr_take (i := 2) (v := .bool (decide (((i : Nat) : Int) > 0))) h108 rfl (by kernel_rfl) (by kernel_rfl) (by kernel_rfl) rfl rfl rfl rfl (by kernel_rfl) (fun _ _ => by kernel_rfl) (fun a109 h109 => ?_); clear h108
                  cases hc110 : (decide (((i : Nat) : Int) > 0))
                  ·
                    rw [hc110] at h109
                    have hp111 : ¬ (((i : Nat) : Int) > 0) := of_decide_eq_false hc110
                    clear hc110
                    refine dr_skip (i := 3) h109 rfl (by kernel_rfl) (by kernel_rfl) (by kernel_rfl) rfl rfl rfl rfl (fun a112 h112 => ?_); clear h109
                    refine dr_skip (i := 4) h112 rfl (by kernel_rfl) (by kernel_rfl) (by kernel_rfl) rfl rfl rfl rfl (fun a113 h113 => ?_); clear h112
                    refine dr_skip (i := 5) h113 rfl (by kernel_rfl) (by kernel_rfl) (by kernel_rfl) rfl rfl rfl rfl (fun a114 h114 => ?_); clear h113
                    refine dr_skip (i := 6) h114 rfl (by kernel_rfl) (by kernel_rfl) (by kernel_rfl) rfl rfl rfl rfl (fun a115 h115 => ?_); clear h114
                    refine dr_skip (i := 7) h115 rfl (by kernel_rfl) (by kernel_rfl) (by kernel_rfl) rfl rfl rfl rfl (fun a116 h116 => ?_); clear h115
                    refine dr_skip (i := 8) h116 rfl (by kernel_rfl) (by kernel_rfl) (by kernel_rfl) rfl rfl rfl rfl (fun a117 h117 => ?_); clear h116
                    refine dr_skip (i := 9) h117 rfl (by kernel_rfl) (by kernel_rfl) (by kernel_rfl) rfl rfl rfl rfl (fun a118 h118 => ?_); clear h117
                    refine dr_skip (i := 10) h118 rfl (by kernel_rfl) (by kernel_rfl) (by kernel_rfl) rfl rfl rfl rfl (fun a119 h119 => ?_); clear h118
                    refine dr_skip (i := 11) h119 rfl (by kernel_rfl) (by kernel_rfl) (by kernel_rfl) rfl rfl rfl rfl (fun a120 h120 => ?_); clear h119
                    refine dr_skip (i := 12) h120 rfl (by kernel_rfl) (by kernel_rfl) (by kernel_rfl) rfl rfl rfl rfl (fun a121 h121 => ?_); clear h120
                    refine dr_take (i := 13) (v := .bool false) h121 rfl (by kernel_rfl) (by kernel_rfl) (by kernel_rfl) rfl rfl rfl rfl (by kernel_rfl) (fun _ _ => by kernel_rfl) (fun a122 h122 => ?_); clear h121
                    refine dr_done (by kernel_rfl) ?_
                    refine co_then ?_
                    refine co_false h122 rfl ?_
                    refine wp_skip ?_
                    refine co_blockN ?_
                    refine co_then ?_
                    refine co_reg ?_
                    refine pl_val (v := .int .i64 ((i + 1 : Nat) : Int)) h122 rfl rfl rfl (by kernel_rfl) (by kernel_rfl) (rn_arith' rfl rfl rfl rfl rfl rfl (IntWalk.i64_in _ (by omega)) (by omega)) (fun a123 h123 => ?_); clear h122
                    refine pl_val (v := .int .i64 ((i + 1 : Nat) : Int)) h123 rfl rfl rfl (by kernel_rfl) (by kernel_rfl) (by kernel_rfl) (fun a124 h124 => ?_); clear h123
                    refine pl_nil ?_
                    refine co_then ?_
                    refine ⟨(l.length - (i + 1)), by omega, ?_⟩
                    have hO : chkOp y62 = 0 := by omega
                    have hU : keyUp (prevK l i) y62.1 = true := (keyUp_0 (by omega))
                    have hL' := chkL_step (i := i) hL hy62 hO hU
                    exact ⟨i + 1, h124.sub ⟨rfl, rfl, rfl, rfl, rfl, trivial⟩, rfl, by omega, by first | exact chkB_d rfl (by omega) (by omega) (by omega) | exact hL', hB102, hk105⟩
                  ·
                    rw [hc110] at h109
                    have hp125 : ((i : Nat) : Int) > 0 := of_decide_eq_true hc110
                    clear hc110
                    refine dr_take (i := 3) (v := .pointer (some ⟨N67, 0, none⟩)) h109 rfl (by kernel_rfl) (by kernel_rfl) (by kernel_rfl) rfl rfl rfl rfl (by kernel_rfl) (fun _ _ => by kernel_rfl) (fun a126 h126 => ?_); clear h109
                    refine dr_take (i := 4) (v := .string y62.1) h126 rfl (by kernel_rfl) (by kernel_rfl) (by kernel_rfl) rfl rfl rfl rfl (by kernel_rfl) (fun x hx => by subst hx; exact (rn_load1 rfl rfl Try.isAgg9 (hk106.cell rfl))) (fun a127 h127 => ?_); clear h126
                    refine dr_take (i := 5) (v := .pointer (some ⟨N3, 2, none⟩)) h127 rfl (by kernel_rfl) (by kernel_rfl) (by kernel_rfl) rfl rfl rfl rfl (by kernel_rfl) (fun _ _ => by kernel_rfl) (fun a128 h128 => ?_); clear h127
                    refine dr_take (i := 6) (v := v) h128 rfl (by kernel_rfl) (by kernel_rfl) (by kernel_rfl) rfl rfl rfl rfl (by kernel_rfl) (fun x hx => by subst hx; exact (rn_load1 rfl rfl Try.isAgg23 (hk105.cell rfl))) (fun a129 h129 => ?_); clear h128
                    refine dr_take (i := 7) (v := .int .i64 ((i : Nat) : Int)) h129 rfl (by kernel_rfl) (by kernel_rfl) (by kernel_rfl) rfl rfl rfl rfl (by kernel_rfl) (fun _ _ => by kernel_rfl) (fun a130 h130 => ?_); clear h129
                    refine dr_take (i := 8) (v := .int .i64 (((i : Nat) : Int) - 1)) h130 rfl (by kernel_rfl) (by kernel_rfl) (by kernel_rfl) rfl rfl rfl rfl (by kernel_rfl) (fun x hx => by subst hx; exact (rn_arith rfl rfl rfl rfl rfl rfl (IntWalk.i64_in _ (by omega)))) (fun a131 h131 => ?_); clear h130
                    obtain ⟨y132, hy132⟩ : ∃ z, l[(((i : Nat) : Int) - 1).toNat]? = some z := ⟨_, List.getElem?_eq_getElem (by first | omega | (simp; done) | (simp; omega))⟩
                    refine dr_take (i := 9) (v := .pointer (some ⟨(blkOf v), offOf v + ((((i : Nat) : Int) - 1).toNat) * 3, none⟩)) h131 rfl (by kernel_rfl) (by kernel_rfl) (by kernel_rfl) rfl rfl rfl rfl (by kernel_rfl) (fun x hx => by subst hx; exact (rn_index rfl rfl rfl Try.underlying23 Try.sizeOf86 (hs.below hB102) (by omega) (by first | omega | (simp; done) | (simp; omega)))) (fun a133 h133 => ?_); clear h131
                    refine dr_take (i := 10) (v := .pointer (some ⟨(blkOf v), offOf v + ((((i : Nat) : Int) - 1).toNat) * 3, none⟩)) h133 rfl (by kernel_rfl) (by kernel_rfl) (by kernel_rfl) rfl rfl rfl rfl (by kernel_rfl) (fun _ _ => by kernel_rfl) (fun a134 h134 => ?_); clear h133
                    refine dr_take (i := 11) (v := .string y132.1) h134 rfl (by kernel_rfl) (by kernel_rfl) (by kernel_rfl) rfl rfl rfl rfl (by kernel_rfl) (fun x hx => by subst hx; exact (rn_load1 rfl rfl Try.isAgg9 ((sl_at (hs.below hB102) hy132) 0 _ rfl))) (fun a135 h135 => ?_); clear h134
                    refine dr_take (i := 12) (v := .bool (Op.bytesLess y62.1.toList y132.1.toList || y62.1.toList == y132.1.toList)) h135 rfl (by kernel_rfl) (by kernel_rfl) (by kernel_rfl) rfl rfl rfl rfl (by kernel_rfl) (fun _ _ => by kernel_rfl) (fun a136 h136 => ?_); clear h135
                    refine dr_take (i := 13) (v := .bool (Op.bytesLess y62.1.toList y132.1.toList || y62.1.toList == y132.1.toList)) h136 rfl (by kernel_rfl) (by kernel_rfl) (by kernel_rfl) rfl rfl rfl rfl (by kernel_rfl) (fun _ _ => by kernel_rfl) (fun a137 h137 => ?_); clear h136
                    refine dr_done (by kernel_rfl) ?_
                    refine co_then ?_
                    cases hc138 : ((Op.bytesLess y62.1.toList y132.1.toList || y62.1.toList == y132.1.toList))
                    ·
                      rw [hc138] at h137
                      refine co_false h137 rfl ?_
                      refine wp_skip ?_
                      refine co_blockN ?_
                      refine co_then ?_
                      refine co_reg ?_
                      refine pl_val (v := .int .i64 ((i + 1 : Nat) : Int)) h137 rfl rfl rfl (by kernel_rfl) (by kernel_rfl) (rn_arith' rfl rfl rfl rfl rfl rfl (IntWalk.i64_in _ (by omega)) (by omega)) (fun a139 h139 => ?_); clear h137
                      refine pl_val (v := .int .i64 ((i + 1 : Nat) : Int)) h139 rfl rfl rfl (by kernel_rfl) (by kernel_rfl) (by kernel_rfl) (fun a140 h140 => ?_); clear h139
                      refine pl_nil ?_
                      refine co_then ?_
                      refine ⟨(l.length - (i + 1)), by omega, ?_⟩
                      have hO : chkOp y62 = 0 := by omega
                      have hU : keyUp (prevK l i) y62.1 = true := (keyUp_flip (l := l) (i := i) (b := false) (y := y62) (j := (((i : Nat) : Int) - 1).toNat) (by omega) (by omega) hy132 (by assumption))
                      have hL' := chkL_step (i := i) hL hy62 hO hU
                      exact ⟨i + 1, h140.sub ⟨rfl, rfl, rfl, rfl, rfl, trivial⟩, rfl, by omega, by first | exact chkB_d rfl (by omega) (by omega) (by omega) | exact hL', hB102, hk105⟩
                    ·
                      rw [hc138] at h137
                      refine co_true h137 rfl ?_
                      refine co_seq ?_
                      refine co_reg ?_
                      refine pl_val (v := .int .i64 18) h137 rfl rfl rfl (by kernel_rfl) (by kernel_rfl) (by kernel_rfl) (fun a141 h141 => ?_); clear h137
                      refine pl_nil ?_
                      refine co_then ?_
                      refine wp_ret ?_
                      refine co_blockR ?_
                      refine co_thenR ?_
                      refine co_thenR ?_
                      refine co_blockR ?_
                      refine co_thenR ?_
                      refine co_ret1 h141 rfl rfl ?_
                      have hO : chkOp y62 = 0 := by omega
                      exact ⟨ret_int (chkL_ord (i := i) hL hy62 hO (keyUp_flip (l := l) (i := i) (b := true) (y := y62) (j := (((i : Nat) : Int) - 1).toNat) (by omega) (by omega) hy132 (by assumption))), hB102⟩
                ·
                  rw [hc98] at h97
                  have hp142 : chkOp y62 ≠ 0 := by first | simpa using hc98 | simpa [and_assoc] using hc98
                  clear hc98
                  refine co_true h97 rfl ?_
                  refine co_seq ?_
                  refine co_reg ?_
                  refine pl_val (v := .int .i64 (chkOp y62)) h97 rfl rfl rfl (by kernel_rfl) (by kernel_rfl) (by kernel_rfl) (fun a143 h143 => ?_); clear h97
                  refine pl_val (v := .int .i64 (chkOp y62)) h143 rfl rfl rfl (by kernel_rfl) (by kernel_rfl) (by kernel_rfl) (fun a144 h144 => ?_); clear h143
                  refine pl_nil ?_
                  refine co_then ?_
                  refine wp_ret ?_
                  refine co_thenR ?_
                  refine co_blockR ?_
                  refine co_thenR ?_
                  refine co_thenR ?_
                  refine co_blockR ?_
                  refine co_thenR ?_
                  refine co_ret1 h144 rfl rfl ?_
                  exact ⟨ret_int (chkL_bad (i := i) hL hy62 (by assumption)), hB90⟩
          ·
            rw [hc40] at h39
            have hp145 : ((l.length : Nat) : Int) > 4 := of_decide_eq_true hc40
            clear hc40
            refine co_true h39 rfl ?_
            refine co_seq ?_
            refine co_reg ?_
            refine pl_val (v := .int .i64 6) h39 rfl rfl rfl (by kernel_rfl) (by kernel_rfl) (by kernel_rfl) (fun a146 h146 => ?_); clear h39
            refine pl_nil ?_
            refine co_then ?_
            refine wp_ret ?_
            refine co_thenR ?_
            refine co_ret1 h146 rfl rfl ?_
            exact ⟨ret_int (chkB_c rfl (by omega) (by omega) (by omega)), hB8⟩
        ·
          rw [hc34] at h33
          have hp147 : r > 1073741824 := of_decide_eq_true hc34
          clear hc34
          refine co_true h33 rfl ?_
          refine co_seq ?_
          refine co_reg ?_
          refine pl_val (v := .int .i64 5) h33 rfl rfl rfl (by kernel_rfl) (by kernel_rfl) (by kernel_rfl) (fun a148 h148 => ?_); clear h33
          refine pl_nil ?_
          refine co_then ?_
          refine wp_ret ?_
          refine co_thenR ?_
          refine co_ret1 h148 rfl rfl ?_
          exact ⟨ret_int (chkB_b rfl (by omega) (by omega)), hB8⟩
      ·
        rw [hc28] at h27
        have hp149 : r < 1 := of_decide_eq_true hc28
        clear hc28
        refine pl_skip h27 rfl rfl rfl (fun a150 h150 => ?_); clear h27
        refine pl_skip h150 rfl rfl rfl (fun a151 h151 => ?_); clear h150
        refine pl_skip h151 rfl rfl rfl (fun a152 h152 => ?_); clear h151
        refine pl_val (v := .bool true) h152 rfl rfl rfl (by kernel_rfl) (by kernel_rfl) (by kernel_rfl) (fun a153 h153 => ?_); clear h152
        refine pl_nil ?_
        refine co_then ?_
        refine co_true h153 rfl ?_
        refine co_seq ?_
        refine co_reg ?_
        refine pl_val (v := .int .i64 5) h153 rfl rfl rfl (by kernel_rfl) (by kernel_rfl) (by kernel_rfl) (fun a154 h154 => ?_); clear h153
        refine pl_nil ?_
        refine co_then ?_
        refine wp_ret ?_
        refine co_thenR ?_
        refine co_ret1 h154 rfl rfl ?_
        exact ⟨ret_int (chkB_b rfl (by omega) (by omega)), hB8⟩
    ·
      rw [hc22] at h21
      have hp155 : c ≥ 3 := of_decide_eq_true hc22
      clear hc22
      refine co_true h21 rfl ?_
      refine co_seq ?_
      refine co_reg ?_
      refine pl_val (v := .int .i64 1) h21 rfl rfl rfl (by kernel_rfl) (by kernel_rfl) (by kernel_rfl) (fun a156 h156 => ?_); clear h21
      refine pl_nil ?_
      refine co_then ?_
      refine wp_ret ?_
      refine co_thenR ?_
      refine co_ret1 h156 rfl rfl ?_
      exact ⟨ret_int (chkB_a rfl (by omega)), hB8⟩
  ·
    rw [hc16] at h15
    have hp157 : c < 0 := of_decide_eq_true hc16
    clear hc16
    refine pl_skip h15 rfl rfl rfl (fun a158 h158 => ?_); clear h15
    refine pl_skip h158 rfl rfl rfl (fun a159 h159 => ?_); clear h158
    refine pl_skip h159 rfl rfl rfl (fun a160 h160 => ?_); clear h159
    refine pl_val (v := .bool true) h160 rfl rfl rfl (by kernel_rfl) (by kernel_rfl) (by kernel_rfl) (fun a161 h161 => ?_); clear h160
    refine pl_nil ?_
    refine co_then ?_
    refine co_true h161 rfl ?_
    refine co_seq ?_
    refine co_reg ?_
    refine pl_val (v := .int .i64 1) h161 rfl rfl rfl (by kernel_rfl) (by kernel_rfl) (by kernel_rfl) (fun a162 h162 => ?_); clear h161
    refine pl_nil ?_
    refine co_then ?_
    refine wp_ret ?_
    refine co_thenR ?_
    refine co_ret1 h162 rfl rfl ?_
    exact ⟨ret_int (chkB_a rfl (by omega)), hB8⟩
set_option maxRecDepth 100000 in
theorem ropsCheck_any (c : Int) (r : Int) (v : Value) (l : List OpT) (w : World) (hs : SliceOf opE 3 w v l) :
    Calls Try.prog 64 #[.agg #[.int .i64 c, .int .i64 r, v]] w fun e w' => e = .returned (.int .i64 (chkB c r l)) ∧ Below w.heap.size w w' := by
  have hB0 := Below.refl w.heap.size w
  have hl_hs := sl_len hs
  refine co_enter (n := 66) Try.func64 rfl rfl rfl [(0, .agg #[.int .i64 c, .int .i64 r, v])] rfl (fun a h0 => ?_)
  refine co_seq ?_
  refine co_reg ?_
  refine pl_want h0 rfl rfl rfl (op_new (v := fun N => .pointer (some ⟨N, 0, none⟩)) (T := 31) (cs := #[.int .i64 c, .int .i64 r, v]) (by kernel_rfl) (by kernel_rfl) (by kernel_rfl)) ?_; clear h0
  rintro _ w2 a1 ⟨N3, rfl, hN6, hz7, hk5, hg4⟩ h1
  have hB8 := hb_new hB0 hg4
  have hz9 := hB8.size
  have hz10 := hg4.size
  try dsimp only at h1
  refine pl_val (v := .int .i64 0) h1 rfl rfl rfl (by kernel_rfl) (by kernel_rfl) (by kernel_rfl) (fun a11 h11 => ?_); clear h1
  refine pl_nil ?_
  refine co_then ?_
  refine co_seq ?_
  refine co_seq ?_
  refine co_reg ?_
  refine pl_val (v := .pointer (some ⟨N3, 0, none⟩)) h11 rfl rfl rfl (by kernel_rfl) (by kernel_rfl) (by kernel_rfl) (fun a12 h12 => ?_); clear h11
  refine pl_val (v := .int .i64 c) h12 rfl rfl rfl (by kernel_rfl) (by kernel_rfl) (rn_load1 rfl rfl Try.isAgg3 (hk5.cell rfl)) (fun a13 h13 => ?_); clear h12
  refine pl_val (v := .bool (decide (c < 0))) h13 rfl rfl rfl (by kernel_rfl) (by kernel_rfl) (by kernel_rfl) (fun a14 h14 => ?_); clear h13
  refine pl_val (v := .bool (decide (c < 0))) h14 rfl rfl rfl (by kernel_rfl) (by kernel_rfl) (by kernel_rfl) (fun a15 h15 => ?_); clear h14
  cases hc16 : (decide (c < 0))
  ·
    rw [hc16] at h15
    have hp17 : ¬ (c < 0) := of_decide_eq_false hc16
    clear hc16
    refine pl_val (v := .pointer (some ⟨N3, 0, none⟩)) h15 rfl rfl rfl (by kernel_rfl) (by kernel_rfl) (by kernel_rfl) (fun a18 h18 => ?_); clear h15
    refine pl_val (v := .int .i64 c) h18 rfl rfl rfl (by kernel_rfl) (by kernel_rfl) (rn_load1 rfl rfl Try.isAgg3 (hk5.cell rfl)) (fun a19 h19 => ?_); clear h18
    refine pl_val (v := .bool (decide (c ≥ 3))) h19 rfl rfl rfl (by kernel_rfl) (by kernel_rfl) (by kernel_rfl) (fun a20 h20 => ?_); clear h19
    refine pl_val (v := .bool (decide (c ≥ 3))) h20 rfl rfl rfl (by kernel_rfl) (by kernel_rfl) (by kernel_rfl) (fun a21 h21 => ?_); clear h20
    refine pl_nil ?_
    refine co_then ?_
    cases hc22 : (decide (c ≥ 3))
    ·
      rw [hc22] at h21
      have hp23 : ¬ (c ≥ 3) := of_decide_eq_false hc22
      clear hc22
      refine co_false h21 rfl ?_
      refine wp_skip ?_
      refine co_then ?_
      refine co_seq ?_
      refine co_seq ?_
      refine co_reg ?_
      refine pl_val (v := .pointer (some ⟨N3, 1, none⟩)) h21 rfl rfl rfl (by kernel_rfl) (by kernel_rfl) (by kernel_rfl) (fun a24 h24 => ?_); clear h21
      refine pl_val (v := .int .i64 r) h24 rfl rfl rfl (by kernel_rfl) (by kernel_rfl) (rn_load1 rfl rfl Try.isAgg3 (hk5.cell rfl)) (fun a25 h25 => ?_); clear h24
      refine pl_val (v := .bool (decide (r < 1))) h25 rfl rfl rfl (by kernel_rfl) (by kernel_rfl) (by kernel_rfl) (fun a26 h26 => ?_); clear h25
      refine pl_val (v := .bool (decide (r < 1))) h26 rfl rfl rfl (by kernel_rfl) (by kernel_rfl) (by kernel_rfl) (fun a27 h27 => ?_); clear h26
      cases hc28 : (decide (r < 1))
      ·
        rw [hc28] at h27
        have hp29 : ¬ (r < 1) := of_decide_eq_false hc28
        clear hc28
        refine pl_val (v := .pointer (some ⟨N3, 1, none⟩)) h27 rfl rfl rfl (by kernel_rfl) (by kernel_rfl) (by kernel_rfl) (fun a30 h30 => ?_); clear h27
        refine pl_val (v := .int .i64 r) h30 rfl rfl rfl (by kernel_rfl) (by kernel_rfl) (rn_load1 rfl rfl Try.isAgg3 (hk5.cell rfl)) (fun a31 h31 => ?_); clear h30
        refine pl_val (v := .bool (decide (r > 1073741824))) h31 rfl rfl rfl (by kernel_rfl) (by kernel_rfl) (by kernel_rfl) (fun a32 h32 => ?_); clear h31
        refine pl_val (v := .bool (decide (r > 1073741824))) h32 rfl rfl rfl (by kernel_rfl) (by kernel_rfl) (by kernel_rfl) (fun a33 h33 => ?_); clear h32
        refine pl_nil ?_
        refine co_then ?_
        cases hc34 : (decide (r > 1073741824))
        ·
          rw [hc34] at h33
          have hp35 : ¬ (r > 1073741824) := of_decide_eq_false hc34
          clear hc34
          refine co_false h33 rfl ?_
          refine wp_skip ?_
          refine co_then ?_
          refine co_seq ?_
          refine co_seq ?_
          refine co_reg ?_
          refine pl_val (v := .pointer (some ⟨N3, 2, none⟩)) h33 rfl rfl rfl (by kernel_rfl) (by kernel_rfl) (by kernel_rfl) (fun a36 h36 => ?_); clear h33
          refine pl_val (v := v) h36 rfl rfl rfl (by kernel_rfl) (by kernel_rfl) (rn_load1 rfl rfl Try.isAgg23 (hk5.cell rfl)) (fun a37 h37 => ?_); clear h36
          refine pl_val (v := .int .i64 ((l.length : Nat) : Int)) h37 rfl rfl rfl (by kernel_rfl) (by kernel_rfl) (rn_len rfl rfl Try.underlying23 (hs.below hB8)) (fun a38 h38 => ?_); clear h37
          refine pl_val (v := .bool (decide (((l.length : Nat) : Int) > 4))) h38 rfl rfl rfl (by kernel_rfl) (by kernel_rfl) (by kernel_rfl) (fun a39 h39 => ?_); clear h38
          refine pl_nil ?_
          refine co_then ?_
          cases hc40 : (decide (((l.length : Nat) : Int) > 4))
          ·
            rw [hc40] at h39
            have hp41 : ¬ (((l.length : Nat) : Int) > 4) := of_decide_eq_false hc40
            clear hc40
            refine co_false h39 rfl ?_
            refine wp_skip ?_
            refine co_then ?_
            refine co_seq ?_
            refine co_seq ?_
            refine co_reg ?_
            refine pl_val (v := .int .i64 0) h39 rfl rfl rfl (by kernel_rfl) (by kernel_rfl) (by kernel_rfl) (fun a42 h42 => ?_); clear h39
            refine pl_nil ?_
            refine co_then ?_
            refine wp_block ?_
            have h43 : Slots 66 [(1, .pointer (some ⟨N3, 0, none⟩)), (2, .int .i64 0), (3, .int .i64 0)] _ := h42.sub ⟨rfl, rfl, rfl, trivial⟩; clear h42
            refine co_loop (fun mm a x => ∃ (i : Nat), Slots 66 [(1, .pointer (some ⟨N3, 0, none⟩)), (2, .int .i64 0), (3, .int .i64 ((i : Nat) : Int))] a ∧ mm = l.length - i ∧ (i ≤ l.length) ∧ (chkL (prevK l i) (l.drop i) = chkB c r l) ∧ Below w.heap.size w x ∧ Blk x N3 31 #[.int .i64 c, .int .i64 r, v]) (l.length - 0) ?_ ?_
            · exact ⟨0, h43.sub ⟨rfl, rfl, (slot_eq rfl (congrArg (Value.int .i64) (by first | rfl | omega))), trivial⟩, rfl, by omega, by first | exact chkB_d rfl (by omega) (by omega) (by omega) | exact hL', hB8, hk5⟩
            · rintro k44 a45 w46 ⟨i, h45, rfl, hi47, hi48, hB49, hk50⟩
              have hz51 := hB49.size
              have hl52 := hk50.lt
              have hL : chkL (prevK l i) (l.drop i) = chkB c r l := by assumption
              refine co_seq ?_
              refine co_seq ?_
              refine co_reg ?_
              refine pl_val (v := .int .i64 ((i : Nat) : Int)) h45 rfl rfl rfl (by kernel_rfl) (by kernel_rfl) (by kernel_rfl) (fun a53 h53 => ?_); clear h45
              refine pl_val (v := .pointer (some ⟨N3, 2, none⟩)) h53 rfl rfl rfl (by kernel_rfl) (by kernel_rfl) (by kernel_rfl) (fun a54 h54 => ?_); clear h53
              refine pl_val (v := v) h54 rfl rfl rfl (by kernel_rfl) (by kernel_rfl) (rn_load1 rfl rfl Try.isAgg23 (hk50.cell rfl)) (fun a55 h55 => ?_); clear h54
              refine pl_val (v := .int .i64 ((l.length : Nat) : Int)) h55 rfl rfl rfl (by kernel_rfl) (by kernel_rfl) (rn_len rfl rfl Try.underlying23 (hs.below hB49)) (fun a56 h56 => ?_); clear h55
              refine pl_val (v := .bool (decide (((i : Nat) : Int) < ((l.length : Nat) : Int)))) h56 rfl rfl rfl (by kernel_rfl) (by kernel_rfl) (by kernel_rfl) (fun a57 h57 => ?_); clear h56
              refine pl_nil ?_
              refine co_then ?_
              cases hc58 : (decide (((i : Nat) : Int) < ((l.length : Nat) : Int)))
              ·
                rw [hc58] at h57
                have hp59 : ¬ (((i : Nat) : Int) < ((l.length : Nat) : Int)) := of_decide_eq_false hc58
                clear hc58
                refine co_false h57 rfl ?_
                refine wp_exit ?_
                refine co_thenX ?_
                refine co_thenX ?_
                refine co_blockX ?_
                refine co_then ?_
                refine co_seq ?_
                refine co_reg ?_
                refine pl_val (v := .int .i64 0) h57 rfl rfl rfl (by kernel_rfl) (by kernel_rfl) (by kernel_rfl) (fun a60 h60 => ?_); clear h57
                refine pl_nil ?_
                refine co_then ?_
                refine wp_ret ?_
                refine co_ret1 h60 rfl rfl ?_
                exact ⟨ret_int (chkL_end (i := i) hL (by omega)), hB49⟩
              ·
                rw [hc58] at h57
                have hp61 : ((i : Nat) : Int) < ((l.length : Nat) : Int) := of_decide_eq_true hc58
                clear hc58
                refine co_true h57 rfl ?_
                refine wp_skip ?_
                refine co_then ?_
                refine co_seq ?_
                refine wp_block ?_
                refine co_seq ?_
                refine co_reg ?_
                refine pl_val (v := .pointer (some ⟨N3, 2, none⟩)) h57 rfl rfl rfl (by kernel_rfl) (by kernel_rfl) (by kernel_rfl) (fun a62 h62 => ?_); clear h57
                refine pl_val (v := v) h62 rfl rfl rfl (by kernel_rfl) (by kernel_rfl) (rn_load1 rfl rfl Try.isAgg23 (hk50.cell rfl)) (fun a63 h63 => ?_); clear h62
                refine pl_val (v := .int .i64 ((i : Nat) : Int)) h63 rfl rfl rfl (by kernel_rfl) (by kernel_rfl) (by kernel_rfl) (fun a64 h64 => ?_); clear h63
                obtain ⟨y65, hy65⟩ : ∃ z, l[i]? = some z := ⟨_, List.getElem?_eq_getElem (by first | omega | (simp; done) | (simp; omega))⟩
                refine pl_val (v := .pointer (some ⟨(blkOf v), offOf v + i * 3, none⟩)) h64 rfl rfl rfl (by kernel_rfl) (by kernel_rfl) (rn_index rfl rfl rfl Try.underlying23 Try.sizeOf86 (hs.below hB49) (by omega) (by first | omega | (simp; done) | (simp; omega))) (fun a66 h66 => ?_); clear h64
                refine pl_val (v := .agg #[.string y65.1, .string y65.2.1, .bool y65.2.2]) h66 rfl rfl rfl (by kernel_rfl) (by kernel_rfl) (rn_loadN rfl rfl Try.underlying86 rfl (by kernel_rfl) (sl_at (hs.below hB49) hy65)) (fun a67 h67 => ?_); clear h66
                refine pl_want h67 rfl rfl rfl (op_new (v := fun N => .pointer (some ⟨N, 0, none⟩)) (T := 86) (cs := #[.string (⟨#[]⟩), .string (⟨#[]⟩), .bool false]) (by kernel_rfl) (by kernel_rfl) (by kernel_rfl)) ?_; clear h67
                rintro _ w69 a68 ⟨N70, rfl, hN73, hz74, hk72, hg71⟩ h68
                have hB75 := hb_new hB49 hg71
                have hz76 := hB75.size
                have hz77 := hg71.size
                have hk78 := hk50.kept hg71 (by simp)
                try dsimp only at h68
                refine pl_doW h68 rfl rfl (op_storeN rfl rfl rfl (by kernel_rfl) (by kernel_rfl) hk72 rfl) ?_; clear h68
                rintro _ w80 a79 ⟨hk81, hz82, hg83⟩ h79
                have hk81' : Blk w80 N70 86 #[.string y65.1, .string y65.2.1, .bool y65.2.2] := hk81; clear hk81
                have hB84 := hb_at hB75 hg83 (by omega)
                have hz85 := hB84.size
                have hz86 := hg83.size
                have hk87 := hk78.kept hg83 (by simp; omega)
                refine pl_nil ?_
                refine co_then ?_
                refine co_seq ?_
                refine co_seq ?_
                refine co_reg ?_
                refine pl_val (v := .pointer (some ⟨N70, 0, none⟩)) h79 rfl rfl rfl (by kernel_rfl) (by kernel_rfl) (by kernel_rfl) (fun a88 h88 => ?_); clear h79
                refine pl_val (v := .string y65.1) h88 rfl rfl rfl (by kernel_rfl) (by kernel_rfl) (rn_load1 rfl rfl Try.isAgg9 (hk81'.cell rfl)) (fun a89 h89 => ?_); clear h88
                refine pl_want h89 rfl rfl rfl (op_call (args := #[.string y65.1]) (R := fun res xw => res = .int .i64 (keyC y65.1) ∧ Below w80.heap.size w80 xw) rfl rfl rfl (by kernel_rfl) (by kernel_rfl) (Try.call110 _ _) (rKey_any y65.1 w80 ) (by rintro e x ⟨rfl, hb92⟩; exact ⟨_, rfl, ⟨rfl, hb92⟩⟩)) ?_; clear h89
                rintro _ w91 a90 ⟨rfl, hb92⟩ h90
                have hB93 := hb_call hB84 hb92
                have hz94 := hB93.size
                have hz95 := hb92.size
                have hk96 := hk87.below hb92
                have hk97 := hk81'.below hb92
                refine pl_val (v := .bool (keyC y65.1 != 0)) h90 rfl rfl rfl (by kernel_rfl) (by kernel_rfl) (by kernel_rfl) (fun a98 h98 => ?_); clear h90
                refine pl_nil ?_
                refine co_then ?_
                cases hc99 : (keyC y65.1 != 0)
                ·
                  rw [hc99] at h98
                  have hp100 : ¬ (keyC y65.1 ≠ 0) := by first | simpa using hc99 | simpa [and_assoc] using hc99
                  clear hc99
                  refine co_false h98 rfl ?_
                  refine wp_skip ?_
                  refine co_then ?_
                  refine co_seq ?_
                  refine co_seq ?_
                  refine co_reg ?_
                  refine pl_val (v := .pointer (some ⟨N70, 1, none⟩)) h98 rfl rfl rfl (by kernel_rfl) (by kernel_rfl) (by kernel_rfl) (fun a101 h101 => ?_); clear h98
                  refine pl_val (v := .string y65.2.1) h101 rfl rfl rfl (by kernel_rfl) (by kernel_rfl) (rn_load1 rfl rfl Try.isAgg9 (hk97.cell rfl)) (fun a102 h102 => ?_); clear h101
                  refine pl_val (v := .int .i64 ((y65.2.1.size : Nat) : Int)) h102 rfl rfl rfl (by kernel_rfl) (by kernel_rfl) (rn_lenStr rfl rfl Try.underlying9) (fun a103 h103 => ?_); clear h102
                  refine pl_val (v := .bool (decide (((y65.2.1.size : Nat) : Int) > 8))) h103 rfl rfl rfl (by kernel_rfl) (by kernel_rfl) (by kernel_rfl) (fun a104 h104 => ?_); clear h103
                  refine pl_nil ?_
                  refine co_then ?_
                  cases hc105 : (decide (((y65.2.1.size : Nat) : Int) > 8))
                  ·
                    rw [hc105] at h104
                    have hp106 : ¬ (((y65.2.1.size : Nat) : Int) > 8) := of_decide_eq_false hc105
                    clear hc105
                    refine co_false h104 rfl ?_
                    refine wp_skip ?_
                    refine co_then ?_
                    refine co_seq ?_
                    refine co_seq ?_
                    refine co_reg ?_
                    refine pl_val (v := .pointer (some ⟨N70, 2, none⟩)) h104 rfl rfl rfl (by kernel_rfl) (by kernel_rfl) (by kernel_rfl) (fun a107 h107 => ?_); clear h104
                    refine pl_val (v := .bool y65.2.2) h107 rfl rfl rfl (by kernel_rfl) (by kernel_rfl) (rn_load1 rfl rfl Try.isAgg4 (hk97.cell rfl)) (fun a108 h108 => ?_); clear h107
                    refine pl_val (v := .bool y65.2.2) h108 rfl rfl rfl (by kernel_rfl) (by kernel_rfl) (by kernel_rfl) (fun a109 h109 => ?_); clear h108
                    cases hc110 : (y65.2.2)
                    ·
                      rw [hc110] at h109
                      refine pl_skip h109 rfl rfl rfl (fun a111 h111 => ?_); clear h109
                      refine pl_skip h111 rfl rfl rfl (fun a112 h112 => ?_); clear h111
                      refine pl_skip h112 rfl rfl rfl (fun a113 h113 => ?_); clear h112
                      refine pl_val (v := .bool false) h113 rfl rfl rfl (by kernel_rfl) (by kernel_rfl) (by kernel_rfl) (fun a114 h114 => ?_); clear h113
                      refine pl_nil ?_
                      refine co_then ?_
                      refine co_false h114 rfl ?_
                      refine wp_skip ?_
                      refine co_then ?_
                      refine co_seq ?_
                      refine dr_eq (by kernel_rfl) (fun w115 hg116 => ?_)
                      have hB117 := hb_new hB93 hg116
                      have hz118 := hB117.size
                      have hz119 := hg116.size
                      have hk120 := hk96.kept hg116 (by simp)
                      have hk121 := hk97.kept hg116 (by simp)
                      refine dr_take (i := 0) (v := .int .i64 ((i : Nat) : Int)) h114 rfl (by kernel_rfl) (by kernel_rfl) (by kernel_rfl) rfl rfl rfl rfl (by kernel_rfl) (fun _ _ => by kernel_rfl) (fun a122 h122 => ?_); clear h114
                      refine dr_take (i := 1) (v := .bool (decide (((i : Nat) : Int) > 0))) h122 rfl (by kernel_rfl) (by kernel_rfl) (by kernel_rfl) rfl rfl rfl rfl (by kernel_rfl) (fun _ _ => by kernel_rfl) (fun a123 h123 => ?_); clear h122
                      refine dr_take (i := 2) (v := .bool (decide (((i : Nat) : Int) > 0))) h123 rfl (by kernel_rfl) (by kernel_rfl) (by kernel_rfl) rfl rfl rfl rfl (by kernel_rfl) (fun _ _ => by kernel_rfl) (fun a124 h124 => ?_); clear h123
                      cases hc125 : (decide (((i : Nat) : Int) > 0))
                      ·
                        rw [hc125] at h124
                        have hp126 : ¬ (((i : Nat) : Int) > 0) := of_decide_eq_false hc125
                        clear hc125
                        refine dr_skip (i := 3) h124 rfl (by kernel_rfl) (by kernel_rfl) (by kernel_rfl) rfl rfl rfl rfl (fun a127 h127 => ?_); clear h124
                        refine dr_skip (i := 4) h127 rfl (by kernel_rfl) (by kernel_rfl) (by kernel_rfl) rfl rfl rfl rfl (fun a128 h128 => ?_); clear h127
                        refine dr_skip (i := 5) h128 rfl (by kernel_rfl) (by kernel_rfl) (by kernel_rfl) rfl rfl rfl rfl (fun a129 h129 => ?_); clear h128
                        refine dr_skip (i := 6) h129 rfl (by kernel_rfl) (by kernel_rfl) (by kernel_rfl) rfl rfl rfl rfl (fun a130 h130 => ?_); clear h129
                        refine dr_skip (i := 7) h130 rfl (by kernel_rfl) (by kernel_rfl) (by kernel_rfl) rfl rfl rfl rfl (fun a131 h131 => ?_); clear h130
                        refine dr_skip (i := 8) h131 rfl (by kernel_rfl) (by kernel_rfl) (by kernel_rfl) rfl rfl rfl rfl (fun a132 h132 => ?_); clear h131
                        refine dr_skip (i := 9) h132 rfl (by kernel_rfl) (by kernel_rfl) (by kernel_rfl) rfl rfl rfl rfl (fun a133 h133 => ?_); clear h132
                        refine dr_skip (i := 10) h133 rfl (by kernel_rfl) (by kernel_rfl) (by kernel_rfl) rfl rfl rfl rfl (fun a134 h134 => ?_); clear h133
                        refine dr_skip (i := 11) h134 rfl (by kernel_rfl) (by kernel_rfl) (by kernel_rfl) rfl rfl rfl rfl (fun a135 h135 => ?_); clear h134
                        refine dr_skip (i := 12) h135 rfl (by kernel_rfl) (by kernel_rfl) (by kernel_rfl) rfl rfl rfl rfl (fun a136 h136 => ?_); clear h135
                        refine dr_take (i := 13) (v := .bool false) h136 rfl (by kernel_rfl) (by kernel_rfl) (by kernel_rfl) rfl rfl rfl rfl (by kernel_rfl) (fun _ _ => by kernel_rfl) (fun a137 h137 => ?_); clear h136
                        refine dr_done (by kernel_rfl) ?_
                        refine co_then ?_
                        refine co_false h137 rfl ?_
                        refine wp_skip ?_
                        refine co_blockN ?_
                        refine co_then ?_
                        refine co_reg ?_
                        refine pl_val (v := .int .i64 ((i : Nat) : Int)) h137 rfl rfl rfl (by kernel_rfl) (by kernel_rfl) (by kernel_rfl) (fun a138 h138 => ?_); clear h137
                        refine pl_val (v := .int .i64 ((i + 1 : Nat) : Int)) h138 rfl rfl rfl (by kernel_rfl) (by kernel_rfl) (rn_arith' rfl rfl rfl rfl rfl rfl (IntWalk.i64_in _ (by omega)) (by omega)) (fun a139 h139 => ?_); clear h138
                        refine pl_val (v := .int .i64 ((i + 1 : Nat) : Int)) h139 rfl rfl rfl (by kernel_rfl) (by kernel_rfl) (by kernel_rfl) (fun a140 h140 => ?_); clear h139
                        refine pl_nil ?_
                        refine co_then ?_
                        refine ⟨(l.length - (i + 1)), by omega, ?_⟩
                        have hO : chkOp y65 = 0 := chkOp_d (by assumption) (by assumption) (by first | exact delV_t (by assumption) (by assumption) | exact delV_f (by assumption))
                        have hU : keyUp (prevK l i) y65.1 = true := (keyUp_0 (by omega))
                        have hL' := chkL_step (i := i) hL hy65 hO hU
                        exact ⟨i + 1, h140.sub ⟨rfl, rfl, rfl, trivial⟩, rfl, by omega, by first | exact chkB_d rfl (by omega) (by omega) (by omega) | exact hL', hB117, hk120⟩
                      ·
                        rw [hc125] at h124
                        have hp141 : ((i : Nat) : Int) > 0 := of_decide_eq_true hc125
                        clear hc125
                        refine dr_take (i := 3) (v := .pointer (some ⟨N3, 2, none⟩)) h124 rfl (by kernel_rfl) (by kernel_rfl) (by kernel_rfl) rfl rfl rfl rfl (by kernel_rfl) (fun _ _ => by kernel_rfl) (fun a142 h142 => ?_); clear h124
                        refine dr_take (i := 4) (v := v) h142 rfl (by kernel_rfl) (by kernel_rfl) (by kernel_rfl) rfl rfl rfl rfl (by kernel_rfl) (fun x hx => by subst hx; exact (rn_load1 rfl rfl Try.isAgg23 (hk120.cell rfl))) (fun a143 h143 => ?_); clear h142
                        refine dr_take (i := 5) (v := .int .i64 ((i : Nat) : Int)) h143 rfl (by kernel_rfl) (by kernel_rfl) (by kernel_rfl) rfl rfl rfl rfl (by kernel_rfl) (fun _ _ => by kernel_rfl) (fun a144 h144 => ?_); clear h143
                        refine dr_take (i := 6) (v := .int .i64 (((i : Nat) : Int) - 1)) h144 rfl (by kernel_rfl) (by kernel_rfl) (by kernel_rfl) rfl rfl rfl rfl (by kernel_rfl) (fun x hx => by subst hx; exact (rn_arith rfl rfl rfl rfl rfl rfl (IntWalk.i64_in _ (by omega)))) (fun a145 h145 => ?_); clear h144
                        obtain ⟨y146, hy146⟩ : ∃ z, l[(((i : Nat) : Int) - 1).toNat]? = some z := ⟨_, List.getElem?_eq_getElem (by first | omega | (simp; done) | (simp; omega))⟩
                        refine dr_take (i := 7) (v := .pointer (some ⟨(blkOf v), offOf v + ((((i : Nat) : Int) - 1).toNat) * 3, none⟩)) h145 rfl (by kernel_rfl) (by kernel_rfl) (by kernel_rfl) rfl rfl rfl rfl (by kernel_rfl) (fun x hx => by subst hx; exact (rn_index rfl rfl rfl Try.underlying23 Try.sizeOf86 (hs.below hB117) (by omega) (by first | omega | (simp; done) | (simp; omega)))) (fun a147 h147 => ?_); clear h145
                        refine dr_take (i := 8) (v := .pointer (some ⟨(blkOf v), offOf v + ((((i : Nat) : Int) - 1).toNat) * 3, none⟩)) h147 rfl (by kernel_rfl) (by kernel_rfl) (by kernel_rfl) rfl rfl rfl rfl (by kernel_rfl) (fun _ _ => by kernel_rfl) (fun a148 h148 => ?_); clear h147
                        refine dr_take (i := 9) (v := .string y146.1) h148 rfl (by kernel_rfl) (by kernel_rfl) (by kernel_rfl) rfl rfl rfl rfl (by kernel_rfl) (fun x hx => by subst hx; exact (rn_load1 rfl rfl Try.isAgg9 ((sl_at (hs.below hB117) hy146) 0 _ rfl))) (fun a149 h149 => ?_); clear h148
                        refine dr_take (i := 10) (v := .pointer (some ⟨N70, 0, none⟩)) h149 rfl (by kernel_rfl) (by kernel_rfl) (by kernel_rfl) rfl rfl rfl rfl (by kernel_rfl) (fun _ _ => by kernel_rfl) (fun a150 h150 => ?_); clear h149
                        refine dr_take (i := 11) (v := .string y65.1) h150 rfl (by kernel_rfl) (by kernel_rfl) (by kernel_rfl) rfl rfl rfl rfl (by kernel_rfl) (fun x hx => by subst hx; exact (rn_load1 rfl rfl Try.isAgg9 (hk121.cell rfl))) (fun a151 h151 => ?_); clear h150
                        refine dr_take (i := 12) (v := .bool (!(Op.bytesLess y146.1.toList y65.1.toList))) h151 rfl (by kernel_rfl) (by kernel_rfl) (by kernel_rfl) rfl rfl rfl rfl (by kernel_rfl) (fun _ _ => by kernel_rfl) (fun a152 h152 => ?_); clear h151
                        refine dr_take (i := 13) (v := .bool (!(Op.bytesLess y146.1.toList y65.1.toList))) h152 rfl (by kernel_rfl) (by kernel_rfl) (by kernel_rfl) rfl rfl rfl rfl (by kernel_rfl) (fun _ _ => by kernel_rfl) (fun a153 h153 => ?_); clear h152
                        refine dr_done (by kernel_rfl) ?_
                        refine co_then ?_
                        cases hc154 : (!(Op.bytesLess y146.1.toList y65.1.toList))
                        ·
                          rw [hc154] at h153
                          refine co_false h153 rfl ?_
                          refine wp_skip ?_
                          refine co_blockN ?_
                          refine co_then ?_
                          refine co_reg ?_
                          refine pl_val (v := .int .i64 ((i : Nat) : Int)) h153 rfl rfl rfl (by kernel_rfl) (by kernel_rfl) (by kernel_rfl) (fun a155 h155 => ?_); clear h153
                          refine pl_val (v := .int .i64 ((i + 1 : Nat) : Int)) h155 rfl rfl rfl (by kernel_rfl) (by kernel_rfl) (rn_arith' rfl rfl rfl rfl rfl rfl (IntWalk.i64_in _ (by omega)) (by omega)) (fun a156 h156 => ?_); clear h155
                          refine pl_val (v := .int .i64 ((i + 1 : Nat) : Int)) h156 rfl rfl rfl (by kernel_rfl) (by kernel_rfl) (by kernel_rfl) (fun a157 h157 => ?_); clear h156
                          refine pl_nil ?_
                          refine co_then ?_
                          refine ⟨(l.length - (i + 1)), by omega, ?_⟩
                          have hO : chkOp y65 = 0 := chkOp_d (by assumption) (by assumption) (by first | exact delV_t (by assumption) (by assumption) | exact delV_f (by assumption))
                          have hU : keyUp (prevK l i) y65.1 = true := (keyUp_at (l := l) (i := i) (y := y65) (j := (((i : Nat) : Int) - 1).toNat) (by omega) (by omega) hy146 (by simpa using hc154))
                          have hL' := chkL_step (i := i) hL hy65 hO hU
                          exact ⟨i + 1, h157.sub ⟨rfl, rfl, rfl, trivial⟩, rfl, by omega, by first | exact chkB_d rfl (by omega) (by omega) (by omega) | exact hL', hB117, hk120⟩
                        ·
                          rw [hc154] at h153
                          refine co_true h153 rfl ?_
                          refine co_seq ?_
                          refine co_reg ?_
                          refine pl_val (v := .int .i64 18) h153 rfl rfl rfl (by kernel_rfl) (by kernel_rfl) (by kernel_rfl) (fun a158 h158 => ?_); clear h153
                          refine pl_nil ?_
                          refine co_then ?_
                          refine wp_ret ?_
                          refine co_blockR ?_
                          refine co_thenR ?_
                          refine co_thenR ?_
                          refine co_blockR ?_
                          refine co_thenR ?_
                          refine co_ret1 h158 rfl rfl ?_
                          have hO : chkOp y65 = 0 := chkOp_d (by assumption) (by assumption) (by first | exact delV_t (by assumption) (by assumption) | exact delV_f (by assumption))
                          exact ⟨ret_int (chkL_ord (i := i) hL hy65 hO (keyUp_at (l := l) (i := i) (y := y65) (j := (((i : Nat) : Int) - 1).toNat) (by omega) (by omega) hy146 (by simpa using hc154))), hB117⟩
                    ·
                      rw [hc110] at h109
                      refine pl_val (v := .pointer (some ⟨N70, 1, none⟩)) h109 rfl rfl rfl (by kernel_rfl) (by kernel_rfl) (by kernel_rfl) (fun a159 h159 => ?_); clear h109
                      refine pl_val (v := .string y65.2.1) h159 rfl rfl rfl (by kernel_rfl) (by kernel_rfl) (rn_load1 rfl rfl Try.isAgg9 (hk97.cell rfl)) (fun a160 h160 => ?_); clear h159
                      refine pl_val (v := .bool (!(y65.2.1.toList == (⟨#[]⟩ : ByteArray).toList))) h160 rfl rfl rfl (by kernel_rfl) (by kernel_rfl) (by kernel_rfl) (fun a161 h161 => ?_); clear h160
                      refine pl_val (v := .bool (!(y65.2.1.toList == (⟨#[]⟩ : ByteArray).toList))) h161 rfl rfl rfl (by kernel_rfl) (by kernel_rfl) (by kernel_rfl) (fun a162 h162 => ?_); clear h161
                      refine pl_nil ?_
                      refine co_then ?_
                      cases hc163 : (!(y65.2.1.toList == (⟨#[]⟩ : ByteArray).toList))
                      ·
                        rw [hc163] at h162
                        refine co_false h162 rfl ?_
                        refine wp_skip ?_
                        refine co_then ?_
                        refine co_seq ?_
                        refine dr_eq (by kernel_rfl) (fun w164 hg165 => ?_)
                        have hB166 := hb_new hB93 hg165
                        have hz167 := hB166.size
                        have hz168 := hg165.size
                        have hk169 := hk96.kept hg165 (by simp)
                        have hk170 := hk97.kept hg165 (by simp)
                        refine dr_take (i := 0) (v := .int .i64 ((i : Nat) : Int)) h162 rfl (by kernel_rfl) (by kernel_rfl) (by kernel_rfl) rfl rfl rfl rfl (by kernel_rfl) (fun _ _ => by kernel_rfl) (fun a171 h171 => ?_); clear h162
                        refine dr_take (i := 1) (v := .bool (decide (((i : Nat) : Int) > 0))) h171 rfl (by kernel_rfl) (by kernel_rfl) (by kernel_rfl) rfl rfl rfl rfl (by kernel_rfl) (fun _ _ => by kernel_rfl) (fun a172 h172 => ?_); clear h171
                        refine dr_take (i := 2) (v := .bool (decide (((i : Nat) : Int) > 0))) h172 rfl (by kernel_rfl) (by kernel_rfl) (by kernel_rfl) rfl rfl rfl rfl (by kernel_rfl) (fun _ _ => by kernel_rfl) (fun a173 h173 => ?_); clear h172
                        cases hc174 : (decide (((i : Nat) : Int) > 0))
                        ·
                          rw [hc174] at h173
                          have hp175 : ¬ (((i : Nat) : Int) > 0) := of_decide_eq_false hc174
                          clear hc174
                          refine dr_skip (i := 3) h173 rfl (by kernel_rfl) (by kernel_rfl) (by kernel_rfl) rfl rfl rfl rfl (fun a176 h176 => ?_); clear h173
                          refine dr_skip (i := 4) h176 rfl (by kernel_rfl) (by kernel_rfl) (by kernel_rfl) rfl rfl rfl rfl (fun a177 h177 => ?_); clear h176
                          refine dr_skip (i := 5) h177 rfl (by kernel_rfl) (by kernel_rfl) (by kernel_rfl) rfl rfl rfl rfl (fun a178 h178 => ?_); clear h177
                          refine dr_skip (i := 6) h178 rfl (by kernel_rfl) (by kernel_rfl) (by kernel_rfl) rfl rfl rfl rfl (fun a179 h179 => ?_); clear h178
                          refine dr_skip (i := 7) h179 rfl (by kernel_rfl) (by kernel_rfl) (by kernel_rfl) rfl rfl rfl rfl (fun a180 h180 => ?_); clear h179
                          refine dr_skip (i := 8) h180 rfl (by kernel_rfl) (by kernel_rfl) (by kernel_rfl) rfl rfl rfl rfl (fun a181 h181 => ?_); clear h180
                          refine dr_skip (i := 9) h181 rfl (by kernel_rfl) (by kernel_rfl) (by kernel_rfl) rfl rfl rfl rfl (fun a182 h182 => ?_); clear h181
                          refine dr_skip (i := 10) h182 rfl (by kernel_rfl) (by kernel_rfl) (by kernel_rfl) rfl rfl rfl rfl (fun a183 h183 => ?_); clear h182
                          refine dr_skip (i := 11) h183 rfl (by kernel_rfl) (by kernel_rfl) (by kernel_rfl) rfl rfl rfl rfl (fun a184 h184 => ?_); clear h183
                          refine dr_skip (i := 12) h184 rfl (by kernel_rfl) (by kernel_rfl) (by kernel_rfl) rfl rfl rfl rfl (fun a185 h185 => ?_); clear h184
                          refine dr_take (i := 13) (v := .bool false) h185 rfl (by kernel_rfl) (by kernel_rfl) (by kernel_rfl) rfl rfl rfl rfl (by kernel_rfl) (fun _ _ => by kernel_rfl) (fun a186 h186 => ?_); clear h185
                          refine dr_done (by kernel_rfl) ?_
                          refine co_then ?_
                          refine co_false h186 rfl ?_
                          refine wp_skip ?_
                          refine co_blockN ?_
                          refine co_then ?_
                          refine co_reg ?_
                          refine pl_val (v := .int .i64 ((i : Nat) : Int)) h186 rfl rfl rfl (by kernel_rfl) (by kernel_rfl) (by kernel_rfl) (fun a187 h187 => ?_); clear h186
                          refine pl_val (v := .int .i64 ((i + 1 : Nat) : Int)) h187 rfl rfl rfl (by kernel_rfl) (by kernel_rfl) (rn_arith' rfl rfl rfl rfl rfl rfl (IntWalk.i64_in _ (by omega)) (by omega)) (fun a188 h188 => ?_); clear h187
                          refine pl_val (v := .int .i64 ((i + 1 : Nat) : Int)) h188 rfl rfl rfl (by kernel_rfl) (by kernel_rfl) (by kernel_rfl) (fun a189 h189 => ?_); clear h188
                          refine pl_nil ?_
                          refine co_then ?_
                          refine ⟨(l.length - (i + 1)), by omega, ?_⟩
                          have hO : chkOp y65 = 0 := chkOp_d (by assumption) (by assumption) (by first | exact delV_t (by assumption) (by assumption) | exact delV_f (by assumption))
                          have hU : keyUp (prevK l i) y65.1 = true := (keyUp_0 (by omega))
                          have hL' := chkL_step (i := i) hL hy65 hO hU
                          exact ⟨i + 1, h189.sub ⟨rfl, rfl, rfl, trivial⟩, rfl, by omega, by first | exact chkB_d rfl (by omega) (by omega) (by omega) | exact hL', hB166, hk169⟩
                        ·
                          rw [hc174] at h173
                          have hp190 : ((i : Nat) : Int) > 0 := of_decide_eq_true hc174
                          clear hc174
                          refine dr_take (i := 3) (v := .pointer (some ⟨N3, 2, none⟩)) h173 rfl (by kernel_rfl) (by kernel_rfl) (by kernel_rfl) rfl rfl rfl rfl (by kernel_rfl) (fun _ _ => by kernel_rfl) (fun a191 h191 => ?_); clear h173
                          refine dr_take (i := 4) (v := v) h191 rfl (by kernel_rfl) (by kernel_rfl) (by kernel_rfl) rfl rfl rfl rfl (by kernel_rfl) (fun x hx => by subst hx; exact (rn_load1 rfl rfl Try.isAgg23 (hk169.cell rfl))) (fun a192 h192 => ?_); clear h191
                          refine dr_take (i := 5) (v := .int .i64 ((i : Nat) : Int)) h192 rfl (by kernel_rfl) (by kernel_rfl) (by kernel_rfl) rfl rfl rfl rfl (by kernel_rfl) (fun _ _ => by kernel_rfl) (fun a193 h193 => ?_); clear h192
                          refine dr_take (i := 6) (v := .int .i64 (((i : Nat) : Int) - 1)) h193 rfl (by kernel_rfl) (by kernel_rfl) (by kernel_rfl) rfl rfl rfl rfl (by kernel_rfl) (fun x hx => by subst hx; exact (rn_arith rfl rfl rfl rfl rfl rfl (IntWalk.i64_in _ (by omega)))) (fun a194 h194 => ?_); clear h193
                          obtain ⟨y195, hy195⟩ : ∃ z, l[(((i : Nat) : Int) - 1).toNat]? = some z := ⟨_, List.getElem?_eq_getElem (by first | omega | (simp; done) | (simp; omega))⟩
                          refine dr_take (i := 7) (v := .pointer (some ⟨(blkOf v), offOf v + ((((i : Nat) : Int) - 1).toNat) * 3, none⟩)) h194 rfl (by kernel_rfl) (by kernel_rfl) (by kernel_rfl) rfl rfl rfl rfl (by kernel_rfl) (fun x hx => by subst hx; exact (rn_index rfl rfl rfl Try.underlying23 Try.sizeOf86 (hs.below hB166) (by omega) (by first | omega | (simp; done) | (simp; omega)))) (fun a196 h196 => ?_); clear h194
                          refine dr_take (i := 8) (v := .pointer (some ⟨(blkOf v), offOf v + ((((i : Nat) : Int) - 1).toNat) * 3, none⟩)) h196 rfl (by kernel_rfl) (by kernel_rfl) (by kernel_rfl) rfl rfl rfl rfl (by kernel_rfl) (fun _ _ => by kernel_rfl) (fun a197 h197 => ?_); clear h196
                          refine dr_take (i := 9) (v := .string y195.1) h197 rfl (by kernel_rfl) (by kernel_rfl) (by kernel_rfl) rfl rfl rfl rfl (by kernel_rfl) (fun x hx => by subst hx; exact (rn_load1 rfl rfl Try.isAgg9 ((sl_at (hs.below hB166) hy195) 0 _ rfl))) (fun a198 h198 => ?_); clear h197
                          refine dr_take (i := 10) (v := .pointer (some ⟨N70, 0, none⟩)) h198 rfl (by kernel_rfl) (by kernel_rfl) (by kernel_rfl) rfl rfl rfl rfl (by kernel_rfl) (fun _ _ => by kernel_rfl) (fun a199 h199 => ?_); clear h198
                          refine dr_take (i := 11) (v := .string y65.1) h199 rfl (by kernel_rfl) (by kernel_rfl) (by kernel_rfl) rfl rfl rfl rfl (by kernel_rfl) (fun x hx => by subst hx; exact (rn_load1 rfl rfl Try.isAgg9 (hk170.cell rfl))) (fun a200 h200 => ?_); clear h199
                          refine dr_take (i := 12) (v := .bool (!(Op.bytesLess y195.1.toList y65.1.toList))) h200 rfl (by kernel_rfl) (by kernel_rfl) (by kernel_rfl) rfl rfl rfl rfl (by kernel_rfl) (fun _ _ => by kernel_rfl) (fun a201 h201 => ?_); clear h200
                          refine dr_take (i := 13) (v := .bool (!(Op.bytesLess y195.1.toList y65.1.toList))) h201 rfl (by kernel_rfl) (by kernel_rfl) (by kernel_rfl) rfl rfl rfl rfl (by kernel_rfl) (fun _ _ => by kernel_rfl) (fun a202 h202 => ?_); clear h201
                          refine dr_done (by kernel_rfl) ?_
                          refine co_then ?_
                          cases hc203 : (!(Op.bytesLess y195.1.toList y65.1.toList))
                          ·
                            rw [hc203] at h202
                            refine co_false h202 rfl ?_
                            refine wp_skip ?_
                            refine co_blockN ?_
                            refine co_then ?_
                            refine co_reg ?_
                            refine pl_val (v := .int .i64 ((i : Nat) : Int)) h202 rfl rfl rfl (by kernel_rfl) (by kernel_rfl) (by kernel_rfl) (fun a204 h204 => ?_); clear h202
                            refine pl_val (v := .int .i64 ((i + 1 : Nat) : Int)) h204 rfl rfl rfl (by kernel_rfl) (by kernel_rfl) (rn_arith' rfl rfl rfl rfl rfl rfl (IntWalk.i64_in _ (by omega)) (by omega)) (fun a205 h205 => ?_); clear h204
                            refine pl_val (v := .int .i64 ((i + 1 : Nat) : Int)) h205 rfl rfl rfl (by kernel_rfl) (by kernel_rfl) (by kernel_rfl) (fun a206 h206 => ?_); clear h205
                            refine pl_nil ?_
                            refine co_then ?_
                            refine ⟨(l.length - (i + 1)), by omega, ?_⟩
                            have hO : chkOp y65 = 0 := chkOp_d (by assumption) (by assumption) (by first | exact delV_t (by assumption) (by assumption) | exact delV_f (by assumption))
                            have hU : keyUp (prevK l i) y65.1 = true := (keyUp_at (l := l) (i := i) (y := y65) (j := (((i : Nat) : Int) - 1).toNat) (by omega) (by omega) hy195 (by simpa using hc203))
                            have hL' := chkL_step (i := i) hL hy65 hO hU
                            exact ⟨i + 1, h206.sub ⟨rfl, rfl, rfl, trivial⟩, rfl, by omega, by first | exact chkB_d rfl (by omega) (by omega) (by omega) | exact hL', hB166, hk169⟩
                          ·
                            rw [hc203] at h202
                            refine co_true h202 rfl ?_
                            refine co_seq ?_
                            refine co_reg ?_
                            refine pl_val (v := .int .i64 18) h202 rfl rfl rfl (by kernel_rfl) (by kernel_rfl) (by kernel_rfl) (fun a207 h207 => ?_); clear h202
                            refine pl_nil ?_
                            refine co_then ?_
                            refine wp_ret ?_
                            refine co_blockR ?_
                            refine co_thenR ?_
                            refine co_thenR ?_
                            refine co_blockR ?_
                            refine co_thenR ?_
                            refine co_ret1 h207 rfl rfl ?_
                            have hO : chkOp y65 = 0 := chkOp_d (by assumption) (by assumption) (by first | exact delV_t (by assumption) (by assumption) | exact delV_f (by assumption))
                            exact ⟨ret_int (chkL_ord (i := i) hL hy65 hO (keyUp_at (l := l) (i := i) (y := y65) (j := (((i : Nat) : Int) - 1).toNat) (by omega) (by omega) hy195 (by simpa using hc203))), hB166⟩
                      ·
                        rw [hc163] at h162
                        refine co_true h162 rfl ?_
                        refine co_seq ?_
                        refine co_reg ?_
                        refine pl_val (v := .int .i64 4) h162 rfl rfl rfl (by kernel_rfl) (by kernel_rfl) (by kernel_rfl) (fun a208 h208 => ?_); clear h162
                        refine pl_nil ?_
                        refine co_then ?_
                        refine wp_ret ?_
                        refine co_thenR ?_
                        refine co_blockR ?_
                        refine co_thenR ?_
                        refine co_thenR ?_
                        refine co_blockR ?_
                        refine co_thenR ?_
                        refine co_ret1 h208 rfl rfl ?_
                        have hO : chkOp y65 = 4 := chkOp_c (by assumption) (by assumption) (by first | exact delV_t (by assumption) (by assumption) | exact delV_f (by assumption))
                        exact ⟨ret_int (hO.symm.trans (chkL_bad (i := i) hL hy65 (by omega))), hB93⟩
                  ·
                    rw [hc105] at h104
                    have hp209 : ((y65.2.1.size : Nat) : Int) > 8 := of_decide_eq_true hc105
                    clear hc105
                    refine co_true h104 rfl ?_
                    refine co_seq ?_
                    refine co_reg ?_
                    refine pl_val (v := .int .i64 3) h104 rfl rfl rfl (by kernel_rfl) (by kernel_rfl) (by kernel_rfl) (fun a210 h210 => ?_); clear h104
                    refine pl_nil ?_
                    refine co_then ?_
                    refine wp_ret ?_
                    refine co_thenR ?_
                    refine co_blockR ?_
                    refine co_thenR ?_
                    refine co_thenR ?_
                    refine co_blockR ?_
                    refine co_thenR ?_
                    refine co_ret1 h210 rfl rfl ?_
                    have hO : chkOp y65 = 3 := chkOp_b (by assumption) (by assumption)
                    exact ⟨ret_int (hO.symm.trans (chkL_bad (i := i) hL hy65 (by omega))), hB93⟩
                ·
                  rw [hc99] at h98
                  have hp211 : keyC y65.1 ≠ 0 := by first | simpa using hc99 | simpa [and_assoc] using hc99
                  clear hc99
                  refine co_true h98 rfl ?_
                  refine co_seq ?_
                  refine co_reg ?_
                  refine pl_val (v := .int .i64 10) h98 rfl rfl rfl (by kernel_rfl) (by kernel_rfl) (by kernel_rfl) (fun a212 h212 => ?_); clear h98
                  refine pl_nil ?_
                  refine co_then ?_
                  refine wp_ret ?_
                  refine co_thenR ?_
                  refine co_blockR ?_
                  refine co_thenR ?_
                  refine co_thenR ?_
                  refine co_blockR ?_
                  refine co_thenR ?_
                  refine co_ret1 h212 rfl rfl ?_
                  have hO : chkOp y65 = 10 := by rw [chkOp_a (by assumption), keyC_ten (by assumption)]
                  exact ⟨ret_int (hO.symm.trans (chkL_bad (i := i) hL hy65 (by omega))), hB93⟩
          ·
            rw [hc40] at h39
            have hp213 : ((l.length : Nat) : Int) > 4 := of_decide_eq_true hc40
            clear hc40
            refine co_true h39 rfl ?_
            refine co_seq ?_
            refine co_reg ?_
            refine pl_val (v := .int .i64 6) h39 rfl rfl rfl (by kernel_rfl) (by kernel_rfl) (by kernel_rfl) (fun a214 h214 => ?_); clear h39
            refine pl_nil ?_
            refine co_then ?_
            refine wp_ret ?_
            refine co_thenR ?_
            refine co_ret1 h214 rfl rfl ?_
            exact ⟨ret_int (chkB_c rfl (by omega) (by omega) (by omega)), hB8⟩
        ·
          rw [hc34] at h33
          have hp215 : r > 1073741824 := of_decide_eq_true hc34
          clear hc34
          refine co_true h33 rfl ?_
          refine co_seq ?_
          refine co_reg ?_
          refine pl_val (v := .int .i64 5) h33 rfl rfl rfl (by kernel_rfl) (by kernel_rfl) (by kernel_rfl) (fun a216 h216 => ?_); clear h33
          refine pl_nil ?_
          refine co_then ?_
          refine wp_ret ?_
          refine co_thenR ?_
          refine co_ret1 h216 rfl rfl ?_
          exact ⟨ret_int (chkB_b rfl (by omega) (by omega)), hB8⟩
      ·
        rw [hc28] at h27
        have hp217 : r < 1 := of_decide_eq_true hc28
        clear hc28
        refine pl_skip h27 rfl rfl rfl (fun a218 h218 => ?_); clear h27
        refine pl_skip h218 rfl rfl rfl (fun a219 h219 => ?_); clear h218
        refine pl_skip h219 rfl rfl rfl (fun a220 h220 => ?_); clear h219
        refine pl_val (v := .bool true) h220 rfl rfl rfl (by kernel_rfl) (by kernel_rfl) (by kernel_rfl) (fun a221 h221 => ?_); clear h220
        refine pl_nil ?_
        refine co_then ?_
        refine co_true h221 rfl ?_
        refine co_seq ?_
        refine co_reg ?_
        refine pl_val (v := .int .i64 5) h221 rfl rfl rfl (by kernel_rfl) (by kernel_rfl) (by kernel_rfl) (fun a222 h222 => ?_); clear h221
        refine pl_nil ?_
        refine co_then ?_
        refine wp_ret ?_
        refine co_thenR ?_
        refine co_ret1 h222 rfl rfl ?_
        exact ⟨ret_int (chkB_b rfl (by omega) (by omega)), hB8⟩
    ·
      rw [hc22] at h21
      have hp223 : c ≥ 3 := of_decide_eq_true hc22
      clear hc22
      refine co_true h21 rfl ?_
      refine co_seq ?_
      refine co_reg ?_
      refine pl_val (v := .int .i64 1) h21 rfl rfl rfl (by kernel_rfl) (by kernel_rfl) (by kernel_rfl) (fun a224 h224 => ?_); clear h21
      refine pl_nil ?_
      refine co_then ?_
      refine wp_ret ?_
      refine co_thenR ?_
      refine co_ret1 h224 rfl rfl ?_
      exact ⟨ret_int (chkB_a rfl (by omega)), hB8⟩
  ·
    rw [hc16] at h15
    have hp225 : c < 0 := of_decide_eq_true hc16
    clear hc16
    refine pl_skip h15 rfl rfl rfl (fun a226 h226 => ?_); clear h15
    refine pl_skip h226 rfl rfl rfl (fun a227 h227 => ?_); clear h226
    refine pl_skip h227 rfl rfl rfl (fun a228 h228 => ?_); clear h227
    refine pl_val (v := .bool true) h228 rfl rfl rfl (by kernel_rfl) (by kernel_rfl) (by kernel_rfl) (fun a229 h229 => ?_); clear h228
    refine pl_nil ?_
    refine co_then ?_
    refine co_true h229 rfl ?_
    refine co_seq ?_
    refine co_reg ?_
    refine pl_val (v := .int .i64 1) h229 rfl rfl rfl (by kernel_rfl) (by kernel_rfl) (by kernel_rfl) (fun a230 h230 => ?_); clear h229
    refine pl_nil ?_
    refine co_then ?_
    refine wp_ret ?_
    refine co_thenR ?_
    refine co_ret1 h230 rfl rfl ?_
    exact ⟨ret_int (chkB_a rfl (by omega)), hB8⟩
end Go.Proofs.Yteioaaegooebpaa
