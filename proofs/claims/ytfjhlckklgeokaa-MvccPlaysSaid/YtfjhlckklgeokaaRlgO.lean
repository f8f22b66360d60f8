/- Package ops: Check of both. Conditions: none. -/
import Derived.Test.YtfjhlckklgeokaaPexU
import Derived.Test.YtfjhlckklgeokaaSl
import Derived.PlainAid
import Derived.Laws.StructEq
namespace Go.Proofs.Ytfjhlckklgeokaa
open Go.RowKit Go.PlainAid
set_option linter.unusedVariables false


abbrev OpT := ByteArray × ByteArray × Bool
def opE (o : OpT) : List Value := [.string o.1, .string o.2.1, .bool o.2.2]
theorem opE_len (o : OpT) : (opE o).length = 3 := rfl
theorem opE_one (o : OpT) : ∀ u ∈ opE o, u.oneCell' = true := by intro u hu; simp [opE] at hu; rcases hu with rfl | rfl | rfl <;> rfl
theorem eq_op (a b d e : ByteArray) (c f : Bool) (w : World) : (binOp .eql 60 (.agg #[.string a, .string b, .bool c]) (.agg #[.string d, .string e, .bool f])).run Try.prog w = .ok (.bool (a.toList == d.toList && b.toList == e.toList && c == f)) w := by
  have u := Try.underlying9
  have u' := Try.underlying4
  have hS : Try.prog.underlying 60 = some (.struct (Try.prog.fieldsOf 60)) := by kernel_rfl
  have hp : Try.prog.stoodInHeld 60 = false := by kernel_rfl
  have hf : (Try.prog.fieldsOf 60).toList.map (fun f => (f.offset, f.type)) = [(0, 9), (1, 9), (2, 4)] := by kernel_rfl
  rw [run_eql_struct, show (10000 : Nat) = 9999 + 1 from rfl, run_equalIn_agg w 9999 60 _ _ hS hp]
  simp only [Program.fieldsOf, Try.underlying60]
  go_simp
  by_cases h1 : a.toList = d.toList <;> by_cases h2 : b.toList = e.toList <;> by_cases h3 : c = f <;> simp [h1, h2, h3]
theorem bl_flip : ∀ (x y : List UInt8), (Op.bytesLess x y || x == y) = !Op.bytesLess y x
  | [], [] => rfl
  | [], _ :: _ => rfl
  | _ :: _, [] => rfl
  | a :: x, b :: y => by
    have ih := bl_flip x y
    show ((decide (a < b) || (a == b && Op.bytesLess x y)) || (a == b && x == y)) = !(decide (b < a) || (b == a && Op.bytesLess y x))
    rcases Nat.lt_trichotomy a.toNat b.toNat with h | h | h
    · have h1 : a < b := h
      have h2 : ¬ b < a := fun q => by have : b.toNat < a.toNat := q; omega
      have h3 : ¬ b = a := fun q => by subst q; omega
      simp [h1, h2, h3]
    · have e : a = b := UInt8.toNat.inj h
      subst e
      have h2 : ¬ a < a := fun q => by have : a.toNat < a.toNat := q; omega
      simp [h2]; simpa using ih
    · have h1 : ¬ a < b := fun q => by have : a.toNat < b.toNat := q; omega
      have h2 : b < a := h
      have h3 : ¬ a = b := fun q => by subst q; omega
      simp [h1, h2, h3]
/-- What a key's check answers; an operation's; those of all, each key above the one ahead of it. -/
def keyC (k : ByteArray) : Int := if ((k.size : Nat) : Int) < 1 ∨ ((k.size : Nat) : Int) > 8 then 10 else 0
def delV (o : OpT) : Bool := o.2.2 && !(o.2.1.toList == (⟨#[]⟩ : ByteArray).toList)
theorem delV_t {o : OpT} {b : Bool} (h : o.2.2 = true) (h2 : (!(o.2.1.toList == (⟨#[]⟩ : ByteArray).toList)) = b) : delV o = b := by unfold delV; rw [h, h2]; rfl
theorem delV_f {o : OpT} (h : o.2.2 = false) : delV o = false := by unfold delV; rw [h]; rfl
def chkOp (o : OpT) : Int := if keyC o.1 ≠ 0 then keyC o.1 else if ((o.2.1.size : Nat) : Int) > 8 then 3 else if delV o = true then 4 else 0
def keyUp (p : Option ByteArray) (k : ByteArray) : Bool := match p with | some q => Op.bytesLess q.toList k.toList | none => true
def chkL : Option ByteArray → List OpT → Int
  | _, [] => 0
  | p, o :: r => if chkOp o ≠ 0 then chkOp o else if keyUp p o.1 = true then chkL (some o.1) r else 18
def prevK (l : List OpT) (i : Nat) : Option ByteArray := if i = 0 then none else (l[i - 1]?).map (·.1)
def chkB (c r : Int) (l : List OpT) : Int := if c < 0 ∨ c ≥ 3 then 1 else if r < 1 ∨ r > 1073741824 then 5 else if ((l.length : Nat) : Int) > 4 then 6 else chkL none l
theorem prevK_succ {l : List OpT} {i : Nat} {y : OpT} (h : l[i]? = some y) : prevK l (i + 1) = some y.1 := by simp [prevK, h]
theorem prevK_pos {l : List OpT} {i j : Nat} {y : OpT} (hj : j = i - 1) (h0 : 0 < i) (h : l[j]? = some y) : prevK l i = some y.1 := by
  subst hj; simp [prevK, h]; omega
theorem dropO_at {l : List OpT} {i : Nat} {y : OpT} (h : l[i]? = some y) : l.drop i = y :: l.drop (i + 1) := by
  obtain ⟨hi, rfl⟩ := List.getElem?_eq_some_iff.1 h
  exact List.drop_eq_getElem_cons hi
theorem takeO_at {α : Type} {l : List α} {i : Nat} {y : α} (h : l[i]? = some y) : l.take (i + 1) = l.take i ++ [y] := by
  rw [List.take_add_one, h]; rfl
theorem chkL_bad {l : List OpT} {i : Nat} {y : OpT} {z : Int} (h : chkL (prevK l i) (l.drop i) = z) (hy : l[i]? = some y) (hc : chkOp y ≠ 0) : chkOp y = z := by
  rw [dropO_at hy] at h; unfold chkL at h; rwa [if_pos hc] at h
theorem chkL_step {l : List OpT} {i : Nat} {y : OpT} {z : Int} (h : chkL (prevK l i) (l.drop i) = z) (hy : l[i]? = some y) (hc : chkOp y = 0) (hu : keyUp (prevK l i) y.1 = true) : chkL (prevK l (i + 1)) (l.drop (i + 1)) = z := by
  rw [dropO_at hy] at h; unfold chkL at h; rw [if_neg (by simp [hc]), if_pos hu] at h
  rw [prevK_succ hy]; exact h
theorem chkL_ord {l : List OpT} {i : Nat} {y : OpT} {z : Int} (h : chkL (prevK l i) (l.drop i) = z) (hy : l[i]? = some y) (hc : chkOp y = 0) (hu : keyUp (prevK l i) y.1 = false) : 18 = z := by
  rw [dropO_at hy] at h; unfold chkL at h; rwa [if_neg (by simp [hc]), if_neg (by simp [hu])] at h
theorem chkL_end {l : List OpT} {i : Nat} {z : Int} (h : chkL (prevK l i) (l.drop i) = z) (hi : l.length ≤ i) : 0 = z := by
  rw [List.drop_eq_nil_of_le hi] at h; simpa [chkL] using h
theorem keyUp_at {l : List OpT} {i j : Nat} {y y' : OpT} {b : Bool} (hj : j = i - 1) (h0 : 0 < i) (h : l[j]? = some y') (hb : Op.bytesLess y'.1.toList y.1.toList = b) : keyUp (prevK l i) y.1 = b := by rw [prevK_pos hj h0 h]; exact hb
theorem keyUp_flip {l : List OpT} {i j : Nat} {y y' : OpT} {b : Bool} (hj : j = i - 1) (h0 : 0 < i) (h : l[j]? = some y') (hb : (Op.bytesLess y.1.toList y'.1.toList || y.1.toList == y'.1.toList) = b) : keyUp (prevK l i) y.1 = !b := by
  rw [bl_flip] at hb; rw [prevK_pos hj h0 h]; rw [← hb]; simp [keyUp]
theorem keyUp_0 {l : List OpT} {i : Nat} {k : ByteArray} (h0 : ¬ (0 : Int) < i) : keyUp (prevK l i) k = true := by
  obtain rfl : i = 0 := by omega
  rfl
theorem chkB_a {c r z : Int} {l : List OpT} (hz : chkB c r l = z) (h : c < 0 ∨ c ≥ 3) : 1 = z := by unfold chkB at hz; rwa [if_pos h] at hz
theorem chkB_b {c r z : Int} {l : List OpT} (hz : chkB c r l = z) (h : ¬ (c < 0 ∨ c ≥ 3)) (h1 : r < 1 ∨ r > 1073741824) : 5 = z := by unfold chkB at hz; rwa [if_neg h, if_pos h1] at hz
theorem chkB_c {c r z : Int} {l : List OpT} (hz : chkB c r l = z) (h : ¬ (c < 0 ∨ c ≥ 3)) (h1 : ¬ (r < 1 ∨ r > 1073741824)) (h2 : ((l.length : Nat) : Int) > 4) : 6 = z := by unfold chkB at hz; rwa [if_neg h, if_neg h1, if_pos h2] at hz
theorem chkB_d {c r z : Int} {l : List OpT} (hz : chkB c r l = z) (h : ¬ (c < 0 ∨ c ≥ 3)) (h1 : ¬ (r < 1 ∨ r > 1073741824)) (h2 : ¬ ((l.length : Nat) : Int) > 4) : chkL (prevK l 0) (l.drop 0) = z := by unfold chkB at hz; rwa [if_neg h, if_neg h1, if_neg h2] at hz
theorem chkOp_a {o : OpT} (h : keyC o.1 ≠ 0) : chkOp o = keyC o.1 := by unfold chkOp; rw [if_pos h]
theorem chkOp_b {o : OpT} (h : ¬ keyC o.1 ≠ 0) (h1 : ((o.2.1.size : Nat) : Int) > 8) : chkOp o = 3 := by unfold chkOp; rw [if_neg h, if_pos h1]
theorem chkOp_c {o : OpT} (h : ¬ keyC o.1 ≠ 0) (h1 : ¬ ((o.2.1.size : Nat) : Int) > 8) (h2 : delV o = true) : chkOp o = 4 := by unfold chkOp; rw [if_neg h, if_neg h1, if_pos h2]
theorem chkOp_d {o : OpT} (h : ¬ keyC o.1 ≠ 0) (h1 : ¬ ((o.2.1.size : Nat) : Int) > 8) (h2 : delV o = false) : chkOp o = 0 := by unfold chkOp; rw [if_neg h, if_neg h1, if_neg (by simp [h2])]
theorem keyC_ten {k : ByteArray} (h : keyC k ≠ 0) : keyC k = 10 := by unfold keyC at h ⊢; split <;> simp_all
theorem keyC_ok {k : ByteArray} (h : keyC k = 0) : 1 ≤ k.size ∧ k.size ≤ 8 := by unfold keyC at h; split at h <;> omega
theorem chkOp_ok {o : OpT} (h : chkOp o = 0) : (1 ≤ o.1.size ∧ o.1.size ≤ 8) ∧ o.2.1.size ≤ 8 ∧ delV o = false := by
  unfold chkOp at h
  split at h
  · omega
  rename_i h1
  split at h
  · omega
  rename_i h2
  split at h
  · omega
  rename_i h3
  exact ⟨keyC_ok (by omega), by omega, by simpa using h3⟩
theorem chkL_all : ∀ (p : Option ByteArray) (l : List OpT), chkL p l = 0 → ∀ z ∈ l, chkOp z = 0
  | _, [], _, _, h => by cases h
  | p, o :: r, h, z, hz => by
    unfold chkL at h
    by_cases h1 : chkOp o ≠ 0
    · rw [if_pos h1] at h; exact absurd h h1
    · rw [if_neg h1] at h
      by_cases h2 : keyUp p o.1 = true
      · rw [if_pos h2] at h
        rcases List.mem_cons.1 hz with rfl | hz
        · omega
        · exact chkL_all _ r h z hz
      · rw [if_neg h2] at h; omega
theorem chkB_ok {c r : Int} {l : List OpT} (h : chkB c r l = 0) : (0 ≤ c ∧ c < 3) ∧ (1 ≤ r ∧ r ≤ 1073741824) ∧ l.length ≤ 4 ∧ chkL none l = 0 := by
  unfold chkB at h
  split at h
  · omega
  split at h
  · omega
  split at h
  · omega
  exact ⟨by omega, by omega, by omega, h⟩
def OpOk (z : OpT) : Prop := (1 ≤ z.1.size ∧ z.1.size ≤ 8) ∧ z.2.1.size ≤ 8 ∧ delV z = false
theorem chkB_all {c r : Int} {l : List OpT} (h : chkB c r l = 0) : ∀ z ∈ l, OpOk z := fun z hz => chkOp_ok (chkL_all _ l (chkB_ok h).2.2.2 z hz)

set_option maxRecDepth 100000 in
theorem pKey_any (k : ByteArray) (w : World)  :
    Calls Try.prog 52 #[.string k] w fun e w' => e = .returned (.int .i64 (keyC k)) ∧ Below w.heap.size w w' := by
 have hB0 := Below.refl w.heap.size w
 refine co_enter (n := 11) Try.func52 rfl rfl rfl [(0, .string k)] rfl (fun a h0 => ?_)
 refine co_seq ?_
 refine co_reg ?_
 refine pk0 (v := .int .i64 0) h0 rfl fun a1 h1 => ?_; clear h0
 refine pl_nil ?_
 refine co_then ?_
 refine co_seq ?_
 refine co_seq ?_
 refine co_reg ?_
 refine pk0 (v := .string k) h1 rfl fun a2 h2 => ?_; clear h1
 refine pk (v := .int .i64 ((k.size : Nat) : Int)) h2 rfl (rn_lenStr rfl rfl Try.underlying9) fun a3 h3 => ?_; clear h2
 refine pk0 (v := .bool (decide (((k.size : Nat) : Int) < 1))) h3 rfl fun a4 h4 => ?_; clear h3
 refine pk0 (v := .bool (decide (((k.size : Nat) : Int) < 1))) h4 rfl fun a5 h5 => ?_; clear h4
 cases hc6 : (decide (((k.size : Nat) : Int) < 1))
 ·
  rw [hc6] at h5
  have hp7 : ¬ (((k.size : Nat) : Int) < 1) := of_decide_eq_false hc6
  clear hc6
  refine pk0 (v := .string k) h5 rfl fun a8 h8 => ?_; clear h5
  refine pk (v := .int .i64 ((k.size : Nat) : Int)) h8 rfl (rn_lenStr rfl rfl Try.underlying9) fun a9 h9 => ?_; clear h8
  refine pk0 (v := .bool (decide (((k.size : Nat) : Int) > 8))) h9 rfl fun a10 h10 => ?_; clear h9
  refine pk0 (v := .bool (decide (((k.size : Nat) : Int) > 8))) h10 rfl fun a11 h11 => ?_; clear h10
  refine pl_nil ?_
  refine co_then ?_
  cases hc12 : (decide (((k.size : Nat) : Int) > 8))
  ·
   rw [hc12] at h11
   have hp13 : ¬ (((k.size : Nat) : Int) > 8) := of_decide_eq_false hc12
   clear hc12
   refine co_false h11 rfl ?_
   refine wp_skip ?_
   refine co_then ?_
   refine co_seq ?_
   refine co_reg ?_
   refine pk0 (v := .int .i64 0) h11 rfl fun a14 h14 => ?_; clear h11
   refine pl_nil ?_
   refine co_then ?_
   refine wp_ret ?_
   refine co_ret1 h14 rfl rfl ?_
   exact ⟨ret_int (by unfold keyC; first | rw [if_pos (by omega)] | rw [if_neg (by omega)]), hB0⟩
  ·
   rw [hc12] at h11
   have hp15 : ((k.size : Nat) : Int) > 8 := of_decide_eq_true hc12
   clear hc12
   refine co_true h11 rfl ?_
   refine co_seq ?_
   refine co_reg ?_
   refine pk0 (v := .int .i64 10) h11 rfl fun a16 h16 => ?_; clear h11
   refine pl_nil ?_
   refine co_then ?_
   refine wp_ret ?_
   refine co_thenR ?_
   refine co_ret1 h16 rfl rfl ?_
   exact ⟨ret_int (by unfold keyC; first | rw [if_pos (by omega)] | rw [if_neg (by omega)]), hB0⟩
 ·
  rw [hc6] at h5
  have hp17 : ((k.size : Nat) : Int) < 1 := of_decide_eq_true hc6
  clear hc6
  refine psk h5 rfl fun a18 h18 => ?_; clear h5
  refine psk h18 rfl fun a19 h19 => ?_; clear h18
  refine psk h19 rfl fun a20 h20 => ?_; clear h19
  refine pk0 (v := .bool true) h20 rfl fun a21 h21 => ?_; clear h20
  refine pl_nil ?_
  refine co_then ?_
  refine co_true h21 rfl ?_
  refine co_seq ?_
  refine co_reg ?_
  refine pk0 (v := .int .i64 10) h21 rfl fun a22 h22 => ?_; clear h21
  refine pl_nil ?_
  refine co_then ?_
  refine wp_ret ?_
  refine co_thenR ?_
  refine co_ret1 h22 rfl rfl ?_
  exact ⟨ret_int (by unfold keyC; first | rw [if_pos (by omega)] | rw [if_neg (by omega)]), hB0⟩
set_option maxRecDepth 100000 in
theorem rKey_any (k : ByteArray) (w : World)  :
    Calls Try.prog 44 #[.string k] w fun e w' => e = .returned (.int .i64 (keyC k)) ∧ Below w.heap.size w w' := by
 have hB0 := Below.refl w.heap.size w
 refine co_enter (n := 11) Try.func44 rfl rfl rfl [(0, .string k)] rfl (fun a h0 => ?_)
 refine co_seq ?_
 refine co_reg ?_
 refine pk0 (v := .int .i64 0) h0 rfl fun a1 h1 => ?_; clear h0
 refine pl_nil ?_
 refine co_then ?_
 refine co_seq ?_
 refine co_seq ?_
 refine co_reg ?_
 refine pk0 (v := .string k) h1 rfl fun a2 h2 => ?_; clear h1
 refine pk (v := .int .i64 ((k.size : Nat) : Int)) h2 rfl (rn_lenStr rfl rfl Try.underlying9) fun a3 h3 => ?_; clear h2
 refine pk0 (v := .bool (decide (((k.size : Nat) : Int) < 1))) h3 rfl fun a4 h4 => ?_; clear h3
 refine pk0 (v := .bool (decide (((k.size : Nat) : Int) < 1))) h4 rfl fun a5 h5 => ?_; clear h4
 cases hc6 : (decide (((k.size : Nat) : Int) < 1))
 ·
  rw [hc6] at h5
  have hp7 : ¬ (((k.size : Nat) : Int) < 1) := of_decide_eq_false hc6
  clear hc6
  refine pk0 (v := .string k) h5 rfl fun a8 h8 => ?_; clear h5
  refine pk (v := .int .i64 ((k.size : Nat) : Int)) h8 rfl (rn_lenStr rfl rfl Try.underlying9) fun a9 h9 => ?_; clear h8
  refine pk0 (v := .bool (decide (((k.size : Nat) : Int) > 8))) h9 rfl fun a10 h10 => ?_; clear h9
  refine pk0 (v := .bool (decide (((k.size : Nat) : Int) > 8))) h10 rfl fun a11 h11 => ?_; clear h10
  refine pl_nil ?_
  refine co_then ?_
  cases hc12 : (decide (((k.size : Nat) : Int) > 8))
  ·
   rw [hc12] at h11
   have hp13 : ¬ (((k.size : Nat) : Int) > 8) := of_decide_eq_false hc12
   clear hc12
   refine co_false h11 rfl ?_
   refine wp_skip ?_
   refine co_then ?_
   refine co_seq ?_
   refine co_reg ?_
   refine pk0 (v := .int .i64 0) h11 rfl fun a14 h14 => ?_; clear h11
   refine pl_nil ?_
   refine co_then ?_
   refine wp_ret ?_
   refine co_ret1 h14 rfl rfl ?_
   exact ⟨ret_int (by unfold keyC; first | rw [if_pos (by omega)] | rw [if_neg (by omega)]), hB0⟩
  ·
   rw [hc12] at h11
   have hp15 : ((k.size : Nat) : Int) > 8 := of_decide_eq_true hc12
   clear hc12
   refine co_true h11 rfl ?_
   refine co_seq ?_
   refine co_reg ?_
   refine pk0 (v := .int .i64 10) h11 rfl fun a16 h16 => ?_; clear h11
   refine pl_nil ?_
   refine co_then ?_
   refine wp_ret ?_
   refine co_thenR ?_
   refine co_ret1 h16 rfl rfl ?_
   exact ⟨ret_int (by unfold keyC; first | rw [if_pos (by omega)] | rw [if_neg (by omega)]), hB0⟩
 ·
  rw [hc6] at h5
  have hp17 : ((k.size : Nat) : Int) < 1 := of_decide_eq_true hc6
  clear hc6
  refine psk h5 rfl fun a18 h18 => ?_; clear h5
  refine psk h18 rfl fun a19 h19 => ?_; clear h18
  refine psk h19 rfl fun a20 h20 => ?_; clear h19
  refine pk0 (v := .bool true) h20 rfl fun a21 h21 => ?_; clear h20
  refine pl_nil ?_
  refine co_then ?_
  refine co_true h21 rfl ?_
  refine co_seq ?_
  refine co_reg ?_
  refine pk0 (v := .int .i64 10) h21 rfl fun a22 h22 => ?_; clear h21
  refine pl_nil ?_
  refine co_then ?_
  refine wp_ret ?_
  refine co_thenR ?_
  refine co_ret1 h22 rfl rfl ?_
  exact ⟨ret_int (by unfold keyC; first | rw [if_pos (by omega)] | rw [if_neg (by omega)]), hB0⟩
set_option maxRecDepth 100000 in
theorem chkOp_any (o : OpT) (w : World)  :
    Calls Try.prog 40 #[.agg #[.string o.1, .string o.2.1, .bool o.2.2]] w fun e w' => e = .returned (.int .i64 (chkOp o)) ∧ Below w.heap.size w w' := by
 have hB0 := Below.refl w.heap.size w
 refine co_enter (n := 21) Try.func40 rfl rfl rfl [(0, .agg #[.string o.1, .string o.2.1, .bool o.2.2])] rfl (fun a h0 => ?_)
 refine co_seq ?_
 refine co_reg ?_
 refine pw h0 rfl (op_new (v := fun N => pt N 0) (T := 60) (cs := #[.string o.1, .string o.2.1, .bool o.2.2]) (by kernel_rfl) (by kernel_rfl) (by kernel_rfl)) ?_; clear h0
 rintro _ w2 a1 ⟨N3, rfl, hN6, hz7, hk5, hg4⟩ h1
 have hz8 := hg4.size
 try dsimp only at h1
 refine pk0 (v := .int .i64 0) h1 rfl fun a9 h9 => ?_; clear h1
 refine pl_nil ?_
 refine co_then ?_
 refine co_seq ?_
 refine co_seq ?_
 refine co_reg ?_
 refine pk0 (v := pt N3 0) h9 rfl fun a10 h10 => ?_; clear h9
 refine pk (v := .string o.1) h10 rfl (rn_load1 rfl rfl Try.isAgg9 (hk5.cell rfl)) fun a11 h11 => ?_; clear h10
 refine pw h11 rfl (op_call (args := #[.string o.1]) (R := fun res xw => res = .int .i64 (keyC o.1) ∧ Below w2.heap.size w2 xw) rfl rfl rfl (by kernel_rfl) (by kernel_rfl) (Try.call52 _ _) (pKey_any o.1 w2 ) (by rintro e x ⟨rfl, hb14⟩; exact ⟨_, rfl, ⟨rfl, hb14⟩⟩)) ?_; clear h11
 rintro _ w13 a12 ⟨rfl, hb14⟩ h12
 have hz15 := hb14.size
 refine pk0 (v := .int .i64 (keyC o.1)) h12 rfl fun a16 h16 => ?_; clear h12
 refine pl_nil ?_
 refine co_then ?_
 refine co_seq ?_
 refine co_reg ?_
 refine pk0 (v := .int .i64 (keyC o.1)) h16 rfl fun a17 h17 => ?_; clear h16
 refine pk0 (v := .bool (keyC o.1 != 0)) h17 rfl fun a18 h18 => ?_; clear h17
 refine pl_nil ?_
 refine co_then ?_
 have hB20 := hb_new hB0 hg4
 have hB21 := hb_call hB20 hb14
 cases hc19 : (keyC o.1 != 0)
 ·
  rw [hc19] at h18
  have hp22 : ¬ (keyC o.1 ≠ 0) := by first | simpa using hc19 | simpa [and_assoc] using hc19
  clear hc19
  refine co_false h18 rfl ?_
  refine wp_skip ?_
  refine co_then ?_
  refine co_seq ?_
  refine co_seq ?_
  refine co_reg ?_
  refine pk0 (v := pt N3 1) h18 rfl fun a23 h23 => ?_; clear h18
  have hk24 := hk5.below hb14
  refine pk (v := .string o.2.1) h23 rfl (rn_load1 rfl rfl Try.isAgg9 (hk24.cell rfl)) fun a25 h25 => ?_; clear h23
  refine pk (v := .int .i64 ((o.2.1.size : Nat) : Int)) h25 rfl (rn_lenStr rfl rfl Try.underlying9) fun a26 h26 => ?_; clear h25
  refine pk0 (v := .bool (decide (((o.2.1.size : Nat) : Int) > 8))) h26 rfl fun a27 h27 => ?_; clear h26
  refine pl_nil ?_
  refine co_then ?_
  cases hc28 : (decide (((o.2.1.size : Nat) : Int) > 8))
  ·
   rw [hc28] at h27
   have hp29 : ¬ (((o.2.1.size : Nat) : Int) > 8) := of_decide_eq_false hc28
   clear hc28
   refine co_false h27 rfl ?_
   refine wp_skip ?_
   refine co_then ?_
   refine co_seq ?_
   refine co_seq ?_
   refine co_reg ?_
   refine pk0 (v := pt N3 2) h27 rfl fun a30 h30 => ?_; clear h27
   refine pk (v := .bool o.2.2) h30 rfl (rn_load1 rfl rfl Try.isAgg4 (hk24.cell rfl)) fun a31 h31 => ?_; clear h30
   refine pk0 (v := .bool o.2.2) h31 rfl fun a32 h32 => ?_; clear h31
   cases hc33 : (o.2.2)
   ·
    rw [hc33] at h32
    refine psk h32 rfl fun a34 h34 => ?_; clear h32
    refine psk h34 rfl fun a35 h35 => ?_; clear h34
    refine psk h35 rfl fun a36 h36 => ?_; clear h35
    refine pk0 (v := .bool false) h36 rfl fun a37 h37 => ?_; clear h36
    refine pl_nil ?_
    refine co_then ?_
    refine co_false h37 rfl ?_
    refine wp_skip ?_
    refine co_then ?_
    refine co_seq ?_
    refine co_reg ?_
    refine pk0 (v := .int .i64 0) h37 rfl fun a38 h38 => ?_; clear h37
    refine pl_nil ?_
    refine co_then ?_
    refine wp_ret ?_
    refine co_ret1 h38 rfl rfl ?_
    exact ⟨ret_int (by first | exact (chkOp_a (by assumption)).symm | exact (chkOp_b (by assumption) (by assumption)).symm | exact (chkOp_c (by assumption) (by assumption) (by first | exact delV_t (by assumption) (by assumption) | exact delV_f (by assumption))).symm | exact (chkOp_d (by assumption) (by assumption) (by first | exact delV_t (by assumption) (by assumption) | exact delV_f (by assumption))).symm), hB21⟩
   ·
    rw [hc33] at h32
    refine pk0 (v := pt N3 1) h32 rfl fun a39 h39 => ?_; clear h32
    refine pk (v := .string o.2.1) h39 rfl (rn_load1 rfl rfl Try.isAgg9 (hk24.cell rfl)) fun a40 h40 => ?_; clear h39
    refine pk0 (v := .bool (!(o.2.1.toList == (⟨#[]⟩ : ByteArray).toList))) h40 rfl fun a41 h41 => ?_; clear h40
    refine pk0 (v := .bool (!(o.2.1.toList == (⟨#[]⟩ : ByteArray).toList))) h41 rfl fun a42 h42 => ?_; clear h41
    refine pl_nil ?_
    refine co_then ?_
    cases hc43 : (!(o.2.1.toList == (⟨#[]⟩ : ByteArray).toList))
    ·
     rw [hc43] at h42
     refine co_false h42 rfl ?_
     refine wp_skip ?_
     refine co_then ?_
     refine co_seq ?_
     refine co_reg ?_
     refine pk0 (v := .int .i64 0) h42 rfl fun a44 h44 => ?_; clear h42
     refine pl_nil ?_
     refine co_then ?_
     refine wp_ret ?_
     refine co_ret1 h44 rfl rfl ?_
     exact ⟨ret_int (by first | exact (chkOp_a (by assumption)).symm | exact (chkOp_b (by assumption) (by assumption)).symm | exact (chkOp_c (by assumption) (by assumption) (by first | exact delV_t (by assumption) (by assumption) | exact delV_f (by assumption))).symm | exact (chkOp_d (by assumption) (by assumption) (by first | exact delV_t (by assumption) (by assumption) | exact delV_f (by assumption))).symm), hB21⟩
    ·
     rw [hc43] at h42
     refine co_true h42 rfl ?_
     refine co_seq ?_
     refine co_reg ?_
     refine pk0 (v := .int .i64 4) h42 rfl fun a45 h45 => ?_; clear h42
     refine pl_nil ?_
     refine co_then ?_
     refine wp_ret ?_
     refine co_thenR ?_
     refine co_ret1 h45 rfl rfl ?_
     exact ⟨ret_int (by first | exact (chkOp_a (by assumption)).symm | exact (chkOp_b (by assumption) (by assumption)).symm | exact (chkOp_c (by assumption) (by assumption) (by first | exact delV_t (by assumption) (by assumption) | exact delV_f (by assumption))).symm | exact (chkOp_d (by assumption) (by assumption) (by first | exact delV_t (by assumption) (by assumption) | exact delV_f (by assumption))).symm), hB21⟩
  ·
   rw [hc28] at h27
   have hp46 : ((o.2.1.size : Nat) : Int) > 8 := of_decide_eq_true hc28
   clear hc28
   refine co_true h27 rfl ?_
   refine co_seq ?_
   refine co_reg ?_
   refine pk0 (v := .int .i64 3) h27 rfl fun a47 h47 => ?_; clear h27
   refine pl_nil ?_
   refine co_then ?_
   refine wp_ret ?_
   refine co_thenR ?_
   refine co_ret1 h47 rfl rfl ?_
   exact ⟨ret_int (by first | exact (chkOp_a (by assumption)).symm | exact (chkOp_b (by assumption) (by assumption)).symm | exact (chkOp_c (by assumption) (by assumption) (by first | exact delV_t (by assumption) (by assumption) | exact delV_f (by assumption))).symm | exact (chkOp_d (by assumption) (by assumption) (by first | exact delV_t (by assumption) (by assumption) | exact delV_f (by assumption))).symm), hB21⟩
 ·
  rw [hc19] at h18
  have hp48 : keyC o.1 ≠ 0 := by first | simpa using hc19 | simpa [and_assoc] using hc19
  clear hc19
  refine co_true h18 rfl ?_
  refine co_seq ?_
  refine co_reg ?_
  refine pk0 (v := .int .i64 (keyC o.1)) h18 rfl fun a49 h49 => ?_; clear h18
  refine pk0 (v := .int .i64 (keyC o.1)) h49 rfl fun a50 h50 => ?_; clear h49
  refine pl_nil ?_
  refine co_then ?_
  refine wp_ret ?_
  refine co_thenR ?_
  refine co_ret1 h50 rfl rfl ?_
  exact ⟨ret_int (by first | exact (chkOp_a (by assumption)).symm | exact (chkOp_b (by assumption) (by assumption)).symm | exact (chkOp_c (by assumption) (by assumption) (by first | exact delV_t (by assumption) (by assumption) | exact delV_f (by assumption))).symm | exact (chkOp_d (by assumption) (by assumption) (by first | exact delV_t (by assumption) (by assumption) | exact delV_f (by assumption))).symm), hB21⟩
set_option maxRecDepth 100000 in
theorem opsCheck_any (c : Int) (r : Int) (v : Value) (l : List OpT) (w : World) (hs : SliceOf opE 3 w v l) :
    Calls Try.prog 26 #[.agg #[.int .i64 c, .int .i64 r, v]] w fun e w' => e = .returned (.int .i64 (chkB c r l)) ∧ Below w.heap.size w w' := by
 have hB0 := Below.refl w.heap.size w
 have hl_hs := sl_len hs
 refine co_enter (n := 54) Try.func26 rfl rfl rfl [(0, .agg #[.int .i64 c, .int .i64 r, v])] rfl (fun a h0 => ?_)
 refine co_seq ?_
 refine co_reg ?_
 refine pw h0 rfl (op_new (v := fun N => pt N 0) (T := 65) (cs := #[.int .i64 c, .int .i64 r, v]) (by kernel_rfl) (by kernel_rfl) (by kernel_rfl)) ?_; clear h0
 rintro _ w2 a1 ⟨N3, rfl, hN6, hz7, hk5, hg4⟩ h1
 have hz8 := hg4.size
 try dsimp only at h1
 refine pk0 (v := .int .i64 0) h1 rfl fun a9 h9 => ?_; clear h1
 refine pl_nil ?_
 refine co_then ?_
 refine co_seq ?_
 refine co_seq ?_
 refine co_reg ?_
 refine pk0 (v := pt N3 0) h9 rfl fun a10 h10 => ?_; clear h9
 refine pk (v := .int .i64 c) h10 rfl (rn_load1 rfl rfl Try.isAgg3 (hk5.cell rfl)) fun a11 h11 => ?_; clear h10
 refine pk0 (v := .bool (decide (c < 0))) h11 rfl fun a12 h12 => ?_; clear h11
 refine pk0 (v := .bool (decide (c < 0))) h12 rfl fun a13 h13 => ?_; clear h12
 have hB15 := hb_new hB0 hg4
 cases hc14 : (decide (c < 0))
 ·
  rw [hc14] at h13
  have hp16 : ¬ (c < 0) := of_decide_eq_false hc14
  clear hc14
  refine pk0 (v := pt N3 0) h13 rfl fun a17 h17 => ?_; clear h13
  refine pk (v := .int .i64 c) h17 rfl (rn_load1 rfl rfl Try.isAgg3 (hk5.cell rfl)) fun a18 h18 => ?_; clear h17
  refine pk0 (v := .bool (decide (c ≥ 3))) h18 rfl fun a19 h19 => ?_; clear h18
  refine pk0 (v := .bool (decide (c ≥ 3))) h19 rfl fun a20 h20 => ?_; clear h19
  refine pl_nil ?_
  refine co_then ?_
  cases hc21 : (decide (c ≥ 3))
  ·
   rw [hc21] at h20
   have hp22 : ¬ (c ≥ 3) := of_decide_eq_false hc21
   clear hc21
   refine co_false h20 rfl ?_
   refine wp_skip ?_
   refine co_then ?_
   refine co_seq ?_
   refine co_seq ?_
   refine co_reg ?_
   refine pk0 (v := pt N3 1) h20 rfl fun a23 h23 => ?_; clear h20
   refine pk (v := .int .i64 r) h23 rfl (rn_load1 rfl rfl Try.isAgg3 (hk5.cell rfl)) fun a24 h24 => ?_; clear h23
   refine pk0 (v := .bool (decide (r < 1))) h24 rfl fun a25 h25 => ?_; clear h24
   refine pk0 (v := .bool (decide (r < 1))) h25 rfl fun a26 h26 => ?_; clear h25
   cases hc27 : (decide (r < 1))
   ·
    rw [hc27] at h26
    have hp28 : ¬ (r < 1) := of_decide_eq_false hc27
    clear hc27
    refine pk0 (v := pt N3 1) h26 rfl fun a29 h29 => ?_; clear h26
    refine pk (v := .int .i64 r) h29 rfl (rn_load1 rfl rfl Try.isAgg3 (hk5.cell rfl)) fun a30 h30 => ?_; clear h29
    refine pk0 (v := .bool (decide (r > 1073741824))) h30 rfl fun a31 h31 => ?_; clear h30
    refine pk0 (v := .bool (decide (r > 1073741824))) h31 rfl fun a32 h32 => ?_; clear h31
    refine pl_nil ?_
    refine co_then ?_
    cases hc33 : (decide (r > 1073741824))
    ·
     rw [hc33] at h32
     have hp34 : ¬ (r > 1073741824) := of_decide_eq_false hc33
     clear hc33
     refine co_false h32 rfl ?_
     refine wp_skip ?_
     refine co_then ?_
     refine co_seq ?_
     refine co_seq ?_
     refine co_reg ?_
     refine pk0 (v := pt N3 2) h32 rfl fun a35 h35 => ?_; clear h32
     refine pk (v := v) h35 rfl (rn_load1 rfl rfl Try.isAgg32 (hk5.cell rfl)) fun a36 h36 => ?_; clear h35
     refine pk (v := .int .i64 ((l.length : Nat) : Int)) h36 rfl (rn_len rfl rfl Try.underlying32 (hs.below hB15)) fun a37 h37 => ?_; clear h36
     refine pk0 (v := .bool (decide (((l.length : Nat) : Int) > 4))) h37 rfl fun a38 h38 => ?_; clear h37
     refine pl_nil ?_
     refine co_then ?_
     cases hc39 : (decide (((l.length : Nat) : Int) > 4))
     ·
      rw [hc39] at h38
      have hp40 : ¬ (((l.length : Nat) : Int) > 4) := of_decide_eq_false hc39
      clear hc39
      refine co_false h38 rfl ?_
      refine wp_skip ?_
      refine co_then ?_
      refine co_seq ?_
      refine co_seq ?_
      refine co_reg ?_
      refine pk0 (v := pt N3 2) h38 rfl fun a41 h41 => ?_; clear h38
      refine pk (v := v) h41 rfl (rn_load1 rfl rfl Try.isAgg32 (hk5.cell rfl)) fun a42 h42 => ?_; clear h41
      refine pk (v := .int .i64 ((l.length : Nat) : Int)) h42 rfl (rn_len rfl rfl Try.underlying32 (hs.below hB15)) fun a43 h43 => ?_; clear h42
      refine pk0 (v := .int .i64 0) h43 rfl fun a44 h44 => ?_; clear h43
      refine pl_nil ?_
      refine co_then ?_
      refine wp_block ?_
      have h45 : Slots 54 [(1, pt N3 0), (2, .int .i64 0), (27, v), (28, .int .i64 ((l.length : Nat) : Int)), (29, .int .i64 0)] _ := h44.sub ⟨rfl, rfl, rfl, rfl, rfl, trivial⟩; clear h44
      refine co_loop (fun mm a x => ∃ (i : Nat), Slots 54 [(1, pt N3 0), (2, .int .i64 0), (27, v), (28, .int .i64 ((l.length : Nat) : Int)), (29, .int .i64 ((i : Nat) : Int))] a ∧ mm = l.length - i ∧ (i ≤ l.length) ∧ (chkL (prevK l i) (l.drop i) = chkB c r l) ∧ Below w.heap.size w x ∧ Blk x N3 65 #[.int .i64 c, .int .i64 r, v]) (l.length - 0) ?_ ?_
      · exact ⟨0, h45.sub ⟨rfl, rfl, rfl, rfl, (slot_eq rfl (congrArg (Value.int .i64) (by first | rfl | omega))), trivial⟩, rfl, by omega, by first | exact chkB_d rfl (by omega) (by omega) (by omega) | exact hL', hB15, hk5⟩
      · rintro k46 a47 w48 ⟨i, h47, rfl, hi49, hi50, hB51, hk52⟩
        have hz53 := hB51.size
        have hl54 := hk52.lt
        have hL : chkL (prevK l i) (l.drop i) = chkB c r l := by assumption
        refine co_seq ?_
        refine co_reg ?_
        refine pk0 (v := .bool (decide (((i : Nat) : Int) < ((l.length : Nat) : Int)))) h47 rfl fun a55 h55 => ?_; clear h47
        refine pl_nil ?_
        refine co_then ?_
        refine co_seq ?_
        cases hc56 : (decide (((i : Nat) : Int) < ((l.length : Nat) : Int)))
        ·
         rw [hc56] at h55
         have hp57 : ¬ (((i : Nat) : Int) < ((l.length : Nat) : Int)) := of_decide_eq_false hc56
         clear hc56
         refine co_false h55 rfl ?_
         refine wp_exit ?_
         refine co_thenX ?_
         refine co_thenX ?_
         refine co_blockX ?_
         refine co_then ?_
         refine co_seq ?_
         refine co_reg ?_
         refine pk0 (v := .int .i64 0) h55 rfl fun a58 h58 => ?_; clear h55
         refine pl_nil ?_
         refine co_then ?_
         refine wp_ret ?_
         refine co_ret1 h58 rfl rfl ?_
         exact ⟨ret_int (chkL_end (i := i) hL (by omega)), hB51⟩
        ·
         rw [hc56] at h55
         have hp59 : ((i : Nat) : Int) < ((l.length : Nat) : Int) := of_decide_eq_true hc56
         clear hc56
         refine co_true h55 rfl ?_
         refine wp_skip ?_
         refine co_then ?_
         refine co_seq ?_
         refine wp_block ?_
         refine co_seq ?_
         refine co_reg ?_
         refine pk0 (v := .int .i64 ((i : Nat) : Int)) h55 rfl fun a60 h60 => ?_; clear h55
         obtain ⟨y61, hy61⟩ : ∃ z, l[i]? = some z := ⟨_, List.getElem?_eq_getElem (by first | omega | (simp; done) | (simp; omega))⟩
         refine pk (v := pt (blkOf v) (offOf v + i * 3)) h60 rfl (rn_index rfl rfl rfl Try.underlying32 Try.sizeOf60 (hs.below hB51) (by omega) (by first | omega | (simp; done) | (simp; omega))) fun a62 h62 => ?_; clear h60
         refine pk (v := .agg #[.string y61.1, .string y61.2.1, .bool y61.2.2]) h62 rfl (rn_loadN rfl rfl Try.underlying60 rfl (by kernel_rfl) (sl_at (hs.below hB51) hy61)) fun a63 h63 => ?_; clear h62
         refine pw h63 rfl (op_new (v := fun N => pt N 0) (T := 60) (cs := #[.string (⟨#[]⟩), .string (⟨#[]⟩), .bool false]) (by kernel_rfl) (by kernel_rfl) (by kernel_rfl)) ?_; clear h63
         rintro _ w65 a64 ⟨N66, rfl, hN69, hz70, hk68, hg67⟩ h64
         have hz71 := hg67.size
         try dsimp only at h64
         refine pk0 (v := .int .i64 ((i : Nat) : Int)) h64 rfl fun a72 h72 => ?_; clear h64
         refine pwD h72 rfl (op_storeN rfl rfl rfl (by kernel_rfl) (by kernel_rfl) hk68 rfl) ?_; clear h72
         rintro _ w74 a73 ⟨hk75, hz76, hg77⟩ h73
         have hk75' : Blk w74 N66 60 #[.string y61.1, .string y61.2.1, .bool y61.2.2] := hk75; clear hk75
         have hz78 := hg77.size
         refine pl_nil ?_
         refine co_then ?_
         refine co_seq ?_
         refine co_seq ?_
         refine co_reg ?_
         refine pk (v := .agg #[.string y61.1, .string y61.2.1, .bool y61.2.2]) h73 rfl (rn_loadN rfl rfl Try.underlying60 rfl (by kernel_rfl) hk75'.all) fun a79 h79 => ?_; clear h73
         refine pw h79 rfl (op_call (args := #[.agg #[.string y61.1, .string y61.2.1, .bool y61.2.2]]) (R := fun res xw => res = .int .i64 (chkOp y61) ∧ Below w74.heap.size w74 xw) rfl rfl rfl (by kernel_rfl) (by kernel_rfl) (Try.call40 _ _) (chkOp_any y61 w74 ) (by rintro e x ⟨rfl, hb82⟩; exact ⟨_, rfl, ⟨rfl, hb82⟩⟩)) ?_; clear h79
         rintro _ w81 a80 ⟨rfl, hb82⟩ h80
         have hz83 := hb82.size
         refine pk0 (v := .int .i64 (chkOp y61)) h80 rfl fun a84 h84 => ?_; clear h80
         refine pl_nil ?_
         refine co_then ?_
         refine co_seq ?_
         refine co_reg ?_
         refine pk0 (v := .int .i64 (chkOp y61)) h84 rfl fun a85 h85 => ?_; clear h84
         refine pk0 (v := .bool (chkOp y61 != 0)) h85 rfl fun a86 h86 => ?_; clear h85
         refine pl_nil ?_
         refine co_then ?_
         have hB88 := hb_new hB51 hg67
         have hB89 := hb_at hB88 hg77 (by omega)
         have hB90 := hb_call hB89 hb82
         have hk91 := hk52.kept hg67 (by simp)
         have hk92 := hk91.kept hg77 (by simp; omega)
         have hk93 := hk92.below hb82
         cases hc87 : (chkOp y61 != 0)
         ·
          rw [hc87] at h86
          have hp94 : ¬ (chkOp y61 ≠ 0) := by first | simpa using hc87 | simpa [and_assoc] using hc87
          clear hc87
          refine co_false h86 rfl ?_
          refine wp_skip ?_
          refine co_then ?_
          refine co_seq ?_
          refine dr_eq (by kernel_rfl) (fun w95 hg96 => ?_)
          have hz97 := hg96.size
          refine dk0 0 (v := .int .i64 ((i : Nat) : Int)) h86 rfl rfl rfl fun a98 h98 => ?_; clear h86
          refine dk0 1 (v := .bool (decide (((i : Nat) : Int) > 0))) h98 rfl rfl rfl fun a99 h99 => ?_; clear h98
          refine dk0 2 (v := .bool (decide (((i : Nat) : Int) > 0))) h99 rfl rfl rfl fun a100 h100 => ?_; clear h99
          have hB102 := hb_new hB90 hg96
          have hk103 := hk75'.below hb82
          have hk104 := hk103.kept hg96 (by simp)
          cases hc101 : (decide (((i : Nat) : Int) > 0))
          ·
           rw [hc101] at h100
           have hp105 : ¬ (((i : Nat) : Int) > 0) := of_decide_eq_false hc101
           clear hc101
           refine dsk 3 h100 rfl rfl rfl fun a106 h106 => ?_; clear h100
           refine dsk 4 h106 rfl rfl rfl fun a107 h107 => ?_; clear h106
           refine dsk 5 h107 rfl rfl rfl fun a108 h108 => ?_; clear h107
           refine dsk 6 h108 rfl rfl rfl fun a109 h109 => ?_; clear h108
           refine dsk 7 h109 rfl rfl rfl fun a110 h110 => ?_; clear h109
           refine dsk 8 h110 rfl rfl rfl fun a111 h111 => ?_; clear h110
           refine dsk 9 h111 rfl rfl rfl fun a112 h112 => ?_; clear h111
           refine dsk 10 h112 rfl rfl rfl fun a113 h113 => ?_; clear h112
           refine dsk 11 h113 rfl rfl rfl fun a114 h114 => ?_; clear h113
           refine dsk 12 h114 rfl rfl rfl fun a115 h115 => ?_; clear h114
           refine dk0 13 (v := .bool false) h115 rfl rfl rfl fun a116 h116 => ?_; clear h115
           refine dr_done (by kernel_rfl) ?_
           refine co_then ?_
           refine co_false h116 rfl ?_
           refine wp_skip ?_
           refine co_blockN ?_
           refine co_then ?_
           refine co_reg ?_
           refine pk (v := .int .i64 ((i + 1 : Nat) : Int)) h116 rfl (rn_arith' rfl rfl rfl rfl rfl rfl (IntWalk.i64_in _ (by omega)) (by omega)) fun a117 h117 => ?_; clear h116
           refine pk0 (v := .int .i64 ((i + 1 : Nat) : Int)) h117 rfl fun a118 h118 => ?_; clear h117
           refine pl_nil ?_
           refine co_then ?_
           refine ⟨(l.length - (i + 1)), by omega, ?_⟩
           have hO : chkOp y61 = 0 := by omega
           have hU : keyUp (prevK l i) y61.1 = true := (keyUp_0 (by omega))
           have hL' := chkL_step (i := i) hL hy61 hO hU
           have hk119 := hk93.kept hg96 (by simp)
           exact ⟨i + 1, h118.sub ⟨rfl, rfl, rfl, rfl, rfl, trivial⟩, rfl, by omega, by first | exact chkB_d rfl (by omega) (by omega) (by omega) | exact hL', hB102, hk119⟩
          ·
           rw [hc101] at h100
           have hp120 : ((i : Nat) : Int) > 0 := of_decide_eq_true hc101
           clear hc101
           refine dk0 3 (v := pt N66 0) h100 rfl rfl rfl fun a121 h121 => ?_; clear h100
           refine dk 4 (v := .string y61.1) h121 rfl rfl rfl (fun x hx => by subst hx; exact (rn_load1 rfl rfl Try.isAgg9 (hk104.cell rfl))) fun a122 h122 => ?_; clear h121
           refine dk0 5 (v := pt N3 2) h122 rfl rfl rfl fun a123 h123 => ?_; clear h122
           have hk124 := hk93.kept hg96 (by simp)
           refine dk 6 (v := v) h123 rfl rfl rfl (fun x hx => by subst hx; exact (rn_load1 rfl rfl Try.isAgg32 (hk124.cell rfl))) fun a125 h125 => ?_; clear h123
           refine dk0 7 (v := .int .i64 ((i : Nat) : Int)) h125 rfl rfl rfl fun a126 h126 => ?_; clear h125
           refine dk 8 (v := .int .i64 (((i : Nat) : Int) - 1)) h126 rfl rfl rfl (fun x hx => by subst hx; exact (rn_arith rfl rfl rfl rfl rfl rfl (IntWalk.i64_in _ (by omega)))) fun a127 h127 => ?_; clear h126
           obtain ⟨y128, hy128⟩ : ∃ z, l[(((i : Nat) : Int) - 1).toNat]? = some z := ⟨_, List.getElem?_eq_getElem (by first | omega | (simp; done) | (simp; omega))⟩
           refine dk 9 (v := pt (blkOf v) (offOf v + ((((i : Nat) : Int) - 1).toNat) * 3)) h127 rfl rfl rfl (fun x hx => by subst hx; exact (rn_index rfl rfl rfl Try.underlying32 Try.sizeOf60 (hs.below hB102) (by omega) (by first | omega | (simp; done) | (simp; omega)))) fun a129 h129 => ?_; clear h127
           refine dk0 10 (v := pt (blkOf v) (offOf v + ((((i : Nat) : Int) - 1).toNat) * 3)) h129 rfl rfl rfl fun a130 h130 => ?_; clear h129
           refine dk 11 (v := .string y128.1) h130 rfl rfl rfl (fun x hx => by subst hx; exact (rn_load1 rfl rfl Try.isAgg9 ((sl_at (hs.below hB102) hy128) 0 _ rfl))) fun a131 h131 => ?_; clear h130
           refine dk0 12 (v := .bool (Op.bytesLess y61.1.toList y128.1.toList || y61.1.toList == y128.1.toList)) h131 rfl rfl rfl fun a132 h132 => ?_; clear h131
           refine dk0 13 (v := .bool (Op.bytesLess y61.1.toList y128.1.toList || y61.1.toList == y128.1.toList)) h132 rfl rfl rfl fun a133 h133 => ?_; clear h132
           refine dr_done (by kernel_rfl) ?_
           refine co_then ?_
           cases hc134 : ((Op.bytesLess y61.1.toList y128.1.toList || y61.1.toList == y128.1.toList))
           ·
            rw [hc134] at h133
            refine co_false h133 rfl ?_
            refine wp_skip ?_
            refine co_blockN ?_
            refine co_then ?_
            refine co_reg ?_
            refine pk (v := .int .i64 ((i + 1 : Nat) : Int)) h133 rfl (rn_arith' rfl rfl rfl rfl rfl rfl (IntWalk.i64_in _ (by omega)) (by omega)) fun a135 h135 => ?_; clear h133
            refine pk0 (v := .int .i64 ((i + 1 : Nat) : Int)) h135 rfl fun a136 h136 => ?_; clear h135
            refine pl_nil ?_
            refine co_then ?_
            refine ⟨(l.length - (i + 1)), by omega, ?_⟩
            have hO : chkOp y61 = 0 := by omega
            have hU : keyUp (prevK l i) y61.1 = true := (keyUp_flip (l := l) (i := i) (b := false) (y := y61) (j := (((i : Nat) : Int) - 1).toNat) (by omega) (by omega) hy128 (by assumption))
            have hL' := chkL_step (i := i) hL hy61 hO hU
            exact ⟨i + 1, h136.sub ⟨rfl, rfl, rfl, rfl, rfl, trivial⟩, rfl, by omega, by first | exact chkB_d rfl (by omega) (by omega) (by omega) | exact hL', hB102, hk124⟩
           ·
            rw [hc134] at h133
            refine co_true h133 rfl ?_
            refine co_seq ?_
            refine co_reg ?_
            refine pk0 (v := .int .i64 18) h133 rfl fun a137 h137 => ?_; clear h133
            refine pl_nil ?_
            refine co_then ?_
            refine wp_ret ?_
            refine co_blockR ?_
            refine co_thenR ?_
            refine co_thenR ?_
            refine co_blockR ?_
            refine co_thenR ?_
            refine co_ret1 h137 rfl rfl ?_
            have hO : chkOp y61 = 0 := by omega
            exact ⟨ret_int (chkL_ord (i := i) hL hy61 hO (keyUp_flip (l := l) (i := i) (b := true) (y := y61) (j := (((i : Nat) : Int) - 1).toNat) (by omega) (by omega) hy128 (by assumption))), hB102⟩
         ·
          rw [hc87] at h86
          have hp138 : chkOp y61 ≠ 0 := by first | simpa using hc87 | simpa [and_assoc] using hc87
          clear hc87
          refine co_true h86 rfl ?_
          refine co_seq ?_
          refine co_reg ?_
          refine pk0 (v := .int .i64 (chkOp y61)) h86 rfl fun a139 h139 => ?_; clear h86
          refine pk0 (v := .int .i64 (chkOp y61)) h139 rfl fun a140 h140 => ?_; clear h139
          refine pl_nil ?_
          refine co_then ?_
          refine wp_ret ?_
          refine co_thenR ?_
          refine co_blockR ?_
          refine co_thenR ?_
          refine co_thenR ?_
          refine co_blockR ?_
          refine co_thenR ?_
          refine co_ret1 h140 rfl rfl ?_
          exact ⟨ret_int (chkL_bad (i := i) hL hy61 (by assumption)), hB90⟩
     ·
      rw [hc39] at h38
      have hp141 : ((l.length : Nat) : Int) > 4 := of_decide_eq_true hc39
      clear hc39
      refine co_true h38 rfl ?_
      refine co_seq ?_
      refine co_reg ?_
      refine pk0 (v := .int .i64 6) h38 rfl fun a142 h142 => ?_; clear h38
      refine pl_nil ?_
      refine co_then ?_
      refine wp_ret ?_
      refine co_thenR ?_
      refine co_ret1 h142 rfl rfl ?_
      exact ⟨ret_int (chkB_c rfl (by omega) (by omega) (by omega)), hB15⟩
    ·
     rw [hc33] at h32
     have hp143 : r > 1073741824 := of_decide_eq_true hc33
     clear hc33
     refine co_true h32 rfl ?_
     refine co_seq ?_
     refine co_reg ?_
     refine pk0 (v := .int .i64 5) h32 rfl fun a144 h144 => ?_; clear h32
     refine pl_nil ?_
     refine co_then ?_
     refine wp_ret ?_
     refine co_thenR ?_
     refine co_ret1 h144 rfl rfl ?_
     exact ⟨ret_int (chkB_b rfl (by omega) (by omega)), hB15⟩
   ·
    rw [hc27] at h26
    have hp145 : r < 1 := of_decide_eq_true hc27
    clear hc27
    refine psk h26 rfl fun a146 h146 => ?_; clear h26
    refine psk h146 rfl fun a147 h147 => ?_; clear h146
    refine psk h147 rfl fun a148 h148 => ?_; clear h147
    refine pk0 (v := .bool true) h148 rfl fun a149 h149 => ?_; clear h148
    refine pl_nil ?_
    refine co_then ?_
    refine co_true h149 rfl ?_
    refine co_seq ?_
    refine co_reg ?_
    refine pk0 (v := .int .i64 5) h149 rfl fun a150 h150 => ?_; clear h149
    refine pl_nil ?_
    refine co_then ?_
    refine wp_ret ?_
    refine co_thenR ?_
    refine co_ret1 h150 rfl rfl ?_
    exact ⟨ret_int (chkB_b rfl (by omega) (by omega)), hB15⟩
  ·
   rw [hc21] at h20
   have hp151 : c ≥ 3 := of_decide_eq_true hc21
   clear hc21
   refine co_true h20 rfl ?_
   refine co_seq ?_
   refine co_reg ?_
   refine pk0 (v := .int .i64 1) h20 rfl fun a152 h152 => ?_; clear h20
   refine pl_nil ?_
   refine co_then ?_
   refine wp_ret ?_
   refine co_thenR ?_
   refine co_ret1 h152 rfl rfl ?_
   exact ⟨ret_int (chkB_a rfl (by omega)), hB15⟩
 ·
  rw [hc14] at h13
  have hp153 : c < 0 := of_decide_eq_true hc14
  clear hc14
  refine psk h13 rfl fun a154 h154 => ?_; clear h13
  refine psk h154 rfl fun a155 h155 => ?_; clear h154
  refine psk h155 rfl fun a156 h156 => ?_; clear h155
  refine pk0 (v := .bool true) h156 rfl fun a157 h157 => ?_; clear h156
  refine pl_nil ?_
  refine co_then ?_
  refine co_true h157 rfl ?_
  refine co_seq ?_
  refine co_reg ?_
  refine pk0 (v := .int .i64 1) h157 rfl fun a158 h158 => ?_; clear h157
  refine pl_nil ?_
  refine co_then ?_
  refine wp_ret ?_
  refine co_thenR ?_
  refine co_ret1 h158 rfl rfl ?_
  exact ⟨ret_int (chkB_a rfl (by omega)), hB15⟩
set_option maxRecDepth 100000 in
theorem ropsCheck_any (c : Int) (r : Int) (v : Value) (l : List OpT) (w : World) (hs : SliceOf opE 3 w v l) :
    Calls Try.prog 30 #[.agg #[.int .i64 c, .int .i64 r, v]] w fun e w' => e = .returned (.int .i64 (chkB c r l)) ∧ Below w.heap.size w w' := by
 have hB0 := Below.refl w.heap.size w
 have hl_hs := sl_len hs
 refine co_enter (n := 66) Try.func30 rfl rfl rfl [(0, .agg #[.int .i64 c, .int .i64 r, v])] rfl (fun a h0 => ?_)
 refine co_seq ?_
 refine co_reg ?_
 refine pw h0 rfl (op_new (v := fun N => pt N 0) (T := 65) (cs := #[.int .i64 c, .int .i64 r, v]) (by kernel_rfl) (by kernel_rfl) (by kernel_rfl)) ?_; clear h0
 rintro _ w2 a1 ⟨N3, rfl, hN6, hz7, hk5, hg4⟩ h1
 have hz8 := hg4.size
 try dsimp only at h1
 refine pk0 (v := .int .i64 0) h1 rfl fun a9 h9 => ?_; clear h1
 refine pl_nil ?_
 refine co_then ?_
 refine co_seq ?_
 refine co_seq ?_
 refine co_reg ?_
 refine pk0 (v := pt N3 0) h9 rfl fun a10 h10 => ?_; clear h9
 refine pk (v := .int .i64 c) h10 rfl (rn_load1 rfl rfl Try.isAgg3 (hk5.cell rfl)) fun a11 h11 => ?_; clear h10
 refine pk0 (v := .bool (decide (c < 0))) h11 rfl fun a12 h12 => ?_; clear h11
 refine pk0 (v := .bool (decide (c < 0))) h12 rfl fun a13 h13 => ?_; clear h12
 have hB15 := hb_new hB0 hg4
 cases hc14 : (decide (c < 0))
 ·
  rw [hc14] at h13
  have hp16 : ¬ (c < 0) := of_decide_eq_false hc14
  clear hc14
  refine pk0 (v := pt N3 0) h13 rfl fun a17 h17 => ?_; clear h13
  refine pk (v := .int .i64 c) h17 rfl (rn_load1 rfl rfl Try.isAgg3 (hk5.cell rfl)) fun a18 h18 => ?_; clear h17
  refine pk0 (v := .bool (decide (c ≥ 3))) h18 rfl fun a19 h19 => ?_; clear h18
  refine pk0 (v := .bool (decide (c ≥ 3))) h19 rfl fun a20 h20 => ?_; clear h19
  refine pl_nil ?_
  refine co_then ?_
  cases hc21 : (decide (c ≥ 3))
  ·
   rw [hc21] at h20
   have hp22 : ¬ (c ≥ 3) := of_decide_eq_false hc21
   clear hc21
   refine co_false h20 rfl ?_
   refine wp_skip ?_
   refine co_then ?_
   refine co_seq ?_
   refine co_seq ?_
   refine co_reg ?_
   refine pk0 (v := pt N3 1) h20 rfl fun a23 h23 => ?_; clear h20
   refine pk (v := .int .i64 r) h23 rfl (rn_load1 rfl rfl Try.isAgg3 (hk5.cell rfl)) fun a24 h24 => ?_; clear h23
   refine pk0 (v := .bool (decide (r < 1))) h24 rfl fun a25 h25 => ?_; clear h24
   refine pk0 (v := .bool (decide (r < 1))) h25 rfl fun a26 h26 => ?_; clear h25
   cases hc27 : (decide (r < 1))
   ·
    rw [hc27] at h26
    have hp28 : ¬ (r < 1) := of_decide_eq_false hc27
    clear hc27
    refine pk0 (v := pt N3 1) h26 rfl fun a29 h29 => ?_; clear h26
    refine pk (v := .int .i64 r) h29 rfl (rn_load1 rfl rfl Try.isAgg3 (hk5.cell rfl)) fun a30 h30 => ?_; clear h29
    refine pk0 (v := .bool (decide (r > 1073741824))) h30 rfl fun a31 h31 => ?_; clear h30
    refine pk0 (v := .bool (decide (r > 1073741824))) h31 rfl fun a32 h32 => ?_; clear h31
    refine pl_nil ?_
    refine co_then ?_
    cases hc33 : (decide (r > 1073741824))
    ·
     rw [hc33] at h32
     have hp34 : ¬ (r > 1073741824) := of_decide_eq_false hc33
     clear hc33
     refine co_false h32 rfl ?_
     refine wp_skip ?_
     refine co_then ?_
     refine co_seq ?_
     refine co_seq ?_
     refine co_reg ?_
     refine pk0 (v := pt N3 2) h32 rfl fun a35 h35 => ?_; clear h32
     refine pk (v := v) h35 rfl (rn_load1 rfl rfl Try.isAgg32 (hk5.cell rfl)) fun a36 h36 => ?_; clear h35
     refine pk (v := .int .i64 ((l.length : Nat) : Int)) h36 rfl (rn_len rfl rfl Try.underlying32 (hs.below hB15)) fun a37 h37 => ?_; clear h36
     refine pk0 (v := .bool (decide (((l.length : Nat) : Int) > 4))) h37 rfl fun a38 h38 => ?_; clear h37
     refine pl_nil ?_
     refine co_then ?_
     cases hc39 : (decide (((l.length : Nat) : Int) > 4))
     ·
      rw [hc39] at h38
      have hp40 : ¬ (((l.length : Nat) : Int) > 4) := of_decide_eq_false hc39
      clear hc39
      refine co_false h38 rfl ?_
      refine wp_skip ?_
      refine co_then ?_
      refine co_seq ?_
      refine co_seq ?_
      refine co_reg ?_
      refine pk0 (v := .int .i64 0) h38 rfl fun a41 h41 => ?_; clear h38
      refine pl_nil ?_
      refine co_then ?_
      refine wp_block ?_
      have h42 : Slots 66 [(1, pt N3 0), (2, .int .i64 0), (3, .int .i64 0)] _ := h41.sub ⟨rfl, rfl, rfl, trivial⟩; clear h41
      refine co_loop (fun mm a x => ∃ (i : Nat), Slots 66 [(1, pt N3 0), (2, .int .i64 0), (3, .int .i64 ((i : Nat) : Int))] a ∧ mm = l.length - i ∧ (i ≤ l.length) ∧ (chkL (prevK l i) (l.drop i) = chkB c r l) ∧ Below w.heap.size w x ∧ Blk x N3 65 #[.int .i64 c, .int .i64 r, v]) (l.length - 0) ?_ ?_
      · exact ⟨0, h42.sub ⟨rfl, rfl, (slot_eq rfl (congrArg (Value.int .i64) (by first | rfl | omega))), trivial⟩, rfl, by omega, by first | exact chkB_d rfl (by omega) (by omega) (by omega) | exact hL', hB15, hk5⟩
      · rintro k43 a44 w45 ⟨i, h44, rfl, hi46, hi47, hB48, hk49⟩
        have hz50 := hB48.size
        have hl51 := hk49.lt
        have hL : chkL (prevK l i) (l.drop i) = chkB c r l := by assumption
        refine co_seq ?_
        refine co_seq ?_
        refine co_reg ?_
        refine pk0 (v := .int .i64 ((i : Nat) : Int)) h44 rfl fun a52 h52 => ?_; clear h44
        refine pk0 (v := pt N3 2) h52 rfl fun a53 h53 => ?_; clear h52
        refine pk (v := v) h53 rfl (rn_load1 rfl rfl Try.isAgg32 (hk49.cell rfl)) fun a54 h54 => ?_; clear h53
        refine pk (v := .int .i64 ((l.length : Nat) : Int)) h54 rfl (rn_len rfl rfl Try.underlying32 (hs.below hB48)) fun a55 h55 => ?_; clear h54
        refine pk0 (v := .bool (decide (((i : Nat) : Int) < ((l.length : Nat) : Int)))) h55 rfl fun a56 h56 => ?_; clear h55
        refine pl_nil ?_
        refine co_then ?_
        cases hc57 : (decide (((i : Nat) : Int) < ((l.length : Nat) : Int)))
        ·
         rw [hc57] at h56
         have hp58 : ¬ (((i : Nat) : Int) < ((l.length : Nat) : Int)) := of_decide_eq_false hc57
         clear hc57
         refine co_false h56 rfl ?_
         refine wp_exit ?_
         refine co_thenX ?_
         refine co_thenX ?_
         refine co_blockX ?_
         refine co_then ?_
         refine co_seq ?_
         refine co_reg ?_
         refine pk0 (v := .int .i64 0) h56 rfl fun a59 h59 => ?_; clear h56
         refine pl_nil ?_
         refine co_then ?_
         refine wp_ret ?_
         refine co_ret1 h59 rfl rfl ?_
         exact ⟨ret_int (chkL_end (i := i) hL (by omega)), hB48⟩
        ·
         rw [hc57] at h56
         have hp60 : ((i : Nat) : Int) < ((l.length : Nat) : Int) := of_decide_eq_true hc57
         clear hc57
         refine co_true h56 rfl ?_
         refine wp_skip ?_
         refine co_then ?_
         refine co_seq ?_
         refine wp_block ?_
         refine co_seq ?_
         refine co_reg ?_
         refine pk0 (v := pt N3 2) h56 rfl fun a61 h61 => ?_; clear h56
         refine pk (v := v) h61 rfl (rn_load1 rfl rfl Try.isAgg32 (hk49.cell rfl)) fun a62 h62 => ?_; clear h61
         refine pk0 (v := .int .i64 ((i : Nat) : Int)) h62 rfl fun a63 h63 => ?_; clear h62
         obtain ⟨y64, hy64⟩ : ∃ z, l[i]? = some z := ⟨_, List.getElem?_eq_getElem (by first | omega | (simp; done) | (simp; omega))⟩
         refine pk (v := pt (blkOf v) (offOf v + i * 3)) h63 rfl (rn_index rfl rfl rfl Try.underlying32 Try.sizeOf60 (hs.below hB48) (by omega) (by first | omega | (simp; done) | (simp; omega))) fun a65 h65 => ?_; clear h63
         refine pk (v := .agg #[.string y64.1, .string y64.2.1, .bool y64.2.2]) h65 rfl (rn_loadN rfl rfl Try.underlying60 rfl (by kernel_rfl) (sl_at (hs.below hB48) hy64)) fun a66 h66 => ?_; clear h65
         refine pw h66 rfl (op_new (v := fun N => pt N 0) (T := 60) (cs := #[.string (⟨#[]⟩), .string (⟨#[]⟩), .bool false]) (by kernel_rfl) (by kernel_rfl) (by kernel_rfl)) ?_; clear h66
         rintro _ w68 a67 ⟨N69, rfl, hN72, hz73, hk71, hg70⟩ h67
         have hz74 := hg70.size
         try dsimp only at h67
         refine pwD h67 rfl (op_storeN rfl rfl rfl (by kernel_rfl) (by kernel_rfl) hk71 rfl) ?_; clear h67
         rintro _ w76 a75 ⟨hk77, hz78, hg79⟩ h75
         have hk77' : Blk w76 N69 60 #[.string y64.1, .string y64.2.1, .bool y64.2.2] := hk77; clear hk77
         have hz80 := hg79.size
         refine pl_nil ?_
         refine co_then ?_
         refine co_seq ?_
         refine co_seq ?_
         refine co_reg ?_
         refine pk0 (v := pt N69 0) h75 rfl fun a81 h81 => ?_; clear h75
         refine pk (v := .string y64.1) h81 rfl (rn_load1 rfl rfl Try.isAgg9 (hk77'.cell rfl)) fun a82 h82 => ?_; clear h81
         refine pw h82 rfl (op_call (args := #[.string y64.1]) (R := fun res xw => res = .int .i64 (keyC y64.1) ∧ Below w76.heap.size w76 xw) rfl rfl rfl (by kernel_rfl) (by kernel_rfl) (Try.call44 _ _) (rKey_any y64.1 w76 ) (by rintro e x ⟨rfl, hb85⟩; exact ⟨_, rfl, ⟨rfl, hb85⟩⟩)) ?_; clear h82
         rintro _ w84 a83 ⟨rfl, hb85⟩ h83
         have hz86 := hb85.size
         refine pk0 (v := .bool (keyC y64.1 != 0)) h83 rfl fun a87 h87 => ?_; clear h83
         refine pl_nil ?_
         refine co_then ?_
         have hB89 := hb_new hB48 hg70
         have hB90 := hb_at hB89 hg79 (by omega)
         have hB91 := hb_call hB90 hb85
         have hk92 := hk49.kept hg70 (by simp)
         have hk93 := hk92.kept hg79 (by simp; omega)
         have hk94 := hk93.below hb85
         cases hc88 : (keyC y64.1 != 0)
         ·
          rw [hc88] at h87
          have hp95 : ¬ (keyC y64.1 ≠ 0) := by first | simpa using hc88 | simpa [and_assoc] using hc88
          clear hc88
          refine co_false h87 rfl ?_
          refine wp_skip ?_
          refine co_then ?_
          refine co_seq ?_
          refine co_seq ?_
          refine co_reg ?_
          refine pk0 (v := pt N69 1) h87 rfl fun a96 h96 => ?_; clear h87
          have hk97 := hk77'.below hb85
          refine pk (v := .string y64.2.1) h96 rfl (rn_load1 rfl rfl Try.isAgg9 (hk97.cell rfl)) fun a98 h98 => ?_; clear h96
          refine pk (v := .int .i64 ((y64.2.1.size : Nat) : Int)) h98 rfl (rn_lenStr rfl rfl Try.underlying9) fun a99 h99 => ?_; clear h98
          refine pk0 (v := .bool (decide (((y64.2.1.size : Nat) : Int) > 8))) h99 rfl fun a100 h100 => ?_; clear h99
          refine pl_nil ?_
          refine co_then ?_
          cases hc101 : (decide (((y64.2.1.size : Nat) : Int) > 8))
          ·
           rw [hc101] at h100
           have hp102 : ¬ (((y64.2.1.size : Nat) : Int) > 8) := of_decide_eq_false hc101
           clear hc101
           refine co_false h100 rfl ?_
           refine wp_skip ?_
           refine co_then ?_
           refine co_seq ?_
           refine co_seq ?_
           refine co_reg ?_
           refine pk0 (v := pt N69 2) h100 rfl fun a103 h103 => ?_; clear h100
           refine pk (v := .bool y64.2.2) h103 rfl (rn_load1 rfl rfl Try.isAgg4 (hk97.cell rfl)) fun a104 h104 => ?_; clear h103
           refine pk0 (v := .bool y64.2.2) h104 rfl fun a105 h105 => ?_; clear h104
           cases hc106 : (y64.2.2)
           ·
            rw [hc106] at h105
            refine psk h105 rfl fun a107 h107 => ?_; clear h105
            refine psk h107 rfl fun a108 h108 => ?_; clear h107
            refine psk h108 rfl fun a109 h109 => ?_; clear h108
            refine pk0 (v := .bool false) h109 rfl fun a110 h110 => ?_; clear h109
            refine pl_nil ?_
            refine co_then ?_
            refine co_false h110 rfl ?_
            refine wp_skip ?_
            refine co_then ?_
            refine co_seq ?_
            refine dr_eq (by kernel_rfl) (fun w111 hg112 => ?_)
            have hz113 := hg112.size
            refine dk0 0 (v := .int .i64 ((i : Nat) : Int)) h110 rfl rfl rfl fun a114 h114 => ?_; clear h110
            refine dk0 1 (v := .bool (decide (((i : Nat) : Int) > 0))) h114 rfl rfl rfl fun a115 h115 => ?_; clear h114
            refine dk0 2 (v := .bool (decide (((i : Nat) : Int) > 0))) h115 rfl rfl rfl fun a116 h116 => ?_; clear h115
            have hB118 := hb_new hB91 hg112
            cases hc117 : (decide (((i : Nat) : Int) > 0))
            ·
             rw [hc117] at h116
             have hp119 : ¬ (((i : Nat) : Int) > 0) := of_decide_eq_false hc117
             clear hc117
             refine dsk 3 h116 rfl rfl rfl fun a120 h120 => ?_; clear h116
             refine dsk 4 h120 rfl rfl rfl fun a121 h121 => ?_; clear h120
             refine dsk 5 h121 rfl rfl rfl fun a122 h122 => ?_; clear h121
             refine dsk 6 h122 rfl rfl rfl fun a123 h123 => ?_; clear h122
             refine dsk 7 h123 rfl rfl rfl fun a124 h124 => ?_; clear h123
             refine dsk 8 h124 rfl rfl rfl fun a125 h125 => ?_; clear h124
             refine dsk 9 h125 rfl rfl rfl fun a126 h126 => ?_; clear h125
             refine dsk 10 h126 rfl rfl rfl fun a127 h127 => ?_; clear h126
             refine dsk 11 h127 rfl rfl rfl fun a128 h128 => ?_; clear h127
             refine dsk 12 h128 rfl rfl rfl fun a129 h129 => ?_; clear h128
             refine dk0 13 (v := .bool false) h129 rfl rfl rfl fun a130 h130 => ?_; clear h129
             refine dr_done (by kernel_rfl) ?_
             refine co_then ?_
             refine co_false h130 rfl ?_
             refine wp_skip ?_
             refine co_blockN ?_
             refine co_then ?_
             refine co_reg ?_
             refine pk0 (v := .int .i64 ((i : Nat) : Int)) h130 rfl fun a131 h131 => ?_; clear h130
             refine pk (v := .int .i64 ((i + 1 : Nat) : Int)) h131 rfl (rn_arith' rfl rfl rfl rfl rfl rfl (IntWalk.i64_in _ (by omega)) (by omega)) fun a132 h132 => ?_; clear h131
             refine pk0 (v := .int .i64 ((i + 1 : Nat) : Int)) h132 rfl fun a133 h133 => ?_; clear h132
             refine pl_nil ?_
             refine co_then ?_
             refine ⟨(l.length - (i + 1)), by omega, ?_⟩
             have hO : chkOp y64 = 0 := chkOp_d (by assumption) (by assumption) (by first | exact delV_t (by assumption) (by assumption) | exact delV_f (by assumption))
             have hU : keyUp (prevK l i) y64.1 = true := (keyUp_0 (by omega))
             have hL' := chkL_step (i := i) hL hy64 hO hU
             have hk134 := hk94.kept hg112 (by simp)
             exact ⟨i + 1, h133.sub ⟨rfl, rfl, rfl, trivial⟩, rfl, by omega, by first | exact chkB_d rfl (by omega) (by omega) (by omega) | exact hL', hB118, hk134⟩
            ·
             rw [hc117] at h116
             have hp135 : ((i : Nat) : Int) > 0 := of_decide_eq_true hc117
             clear hc117
             refine dk0 3 (v := pt N3 2) h116 rfl rfl rfl fun a136 h136 => ?_; clear h116
             have hk137 := hk94.kept hg112 (by simp)
             refine dk 4 (v := v) h136 rfl rfl rfl (fun x hx => by subst hx; exact (rn_load1 rfl rfl Try.isAgg32 (hk137.cell rfl))) fun a138 h138 => ?_; clear h136
             refine dk0 5 (v := .int .i64 ((i : Nat) : Int)) h138 rfl rfl rfl fun a139 h139 => ?_; clear h138
             refine dk 6 (v := .int .i64 (((i : Nat) : Int) - 1)) h139 rfl rfl rfl (fun x hx => by subst hx; exact (rn_arith rfl rfl rfl rfl rfl rfl (IntWalk.i64_in _ (by omega)))) fun a140 h140 => ?_; clear h139
             obtain ⟨y141, hy141⟩ : ∃ z, l[(((i : Nat) : Int) - 1).toNat]? = some z := ⟨_, List.getElem?_eq_getElem (by first | omega | (simp; done) | (simp; omega))⟩
             refine dk 7 (v := pt (blkOf v) (offOf v + ((((i : Nat) : Int) - 1).toNat) * 3)) h140 rfl rfl rfl (fun x hx => by subst hx; exact (rn_index rfl rfl rfl Try.underlying32 Try.sizeOf60 (hs.below hB118) (by omega) (by first | omega | (simp; done) | (simp; omega)))) fun a142 h142 => ?_; clear h140
             refine dk0 8 (v := pt (blkOf v) (offOf v + ((((i : Nat) : Int) - 1).toNat) * 3)) h142 rfl rfl rfl fun a143 h143 => ?_; clear h142
             refine dk 9 (v := .string y141.1) h143 rfl rfl rfl (fun x hx => by subst hx; exact (rn_load1 rfl rfl Try.isAgg9 ((sl_at (hs.below hB118) hy141) 0 _ rfl))) fun a144 h144 => ?_; clear h143
             refine dk0 10 (v := pt N69 0) h144 rfl rfl rfl fun a145 h145 => ?_; clear h144
             have hk146 := hk97.kept hg112 (by simp)
             refine dk 11 (v := .string y64.1) h145 rfl rfl rfl (fun x hx => by subst hx; exact (rn_load1 rfl rfl Try.isAgg9 (hk146.cell rfl))) fun a147 h147 => ?_; clear h145
             refine dk0 12 (v := .bool (!(Op.bytesLess y141.1.toList y64.1.toList))) h147 rfl rfl rfl fun a148 h148 => ?_; clear h147
             refine dk0 13 (v := .bool (!(Op.bytesLess y141.1.toList y64.1.toList))) h148 rfl rfl rfl fun a149 h149 => ?_; clear h148
             refine dr_done (by kernel_rfl) ?_
             refine co_then ?_
             cases hc150 : (!(Op.bytesLess y141.1.toList y64.1.toList))
             ·
              rw [hc150] at h149
              refine co_false h149 rfl ?_
              refine wp_skip ?_
              refine co_blockN ?_
              refine co_then ?_
              refine co_reg ?_
              refine pk0 (v := .int .i64 ((i : Nat) : Int)) h149 rfl fun a151 h151 => ?_; clear h149
              refine pk (v := .int .i64 ((i + 1 : Nat) : Int)) h151 rfl (rn_arith' rfl rfl rfl rfl rfl rfl (IntWalk.i64_in _ (by omega)) (by omega)) fun a152 h152 => ?_; clear h151
              refine pk0 (v := .int .i64 ((i + 1 : Nat) : Int)) h152 rfl fun a153 h153 => ?_; clear h152
              refine pl_nil ?_
              refine co_then ?_
              refine ⟨(l.length - (i + 1)), by omega, ?_⟩
              have hO : chkOp y64 = 0 := chkOp_d (by assumption) (by assumption) (by first | exact delV_t (by assumption) (by assumption) | exact delV_f (by assumption))
              have hU : keyUp (prevK l i) y64.1 = true := (keyUp_at (l := l) (i := i) (y := y64) (j := (((i : Nat) : Int) - 1).toNat) (by omega) (by omega) hy141 (by simpa using hc150))
              have hL' := chkL_step (i := i) hL hy64 hO hU
              exact ⟨i + 1, h153.sub ⟨rfl, rfl, rfl, trivial⟩, rfl, by omega, by first | exact chkB_d rfl (by omega) (by omega) (by omega) | exact hL', hB118, hk137⟩
             ·
              rw [hc150] at h149
              refine co_true h149 rfl ?_
              refine co_seq ?_
              refine co_reg ?_
              refine pk0 (v := .int .i64 18) h149 rfl fun a154 h154 => ?_; clear h149
              refine pl_nil ?_
              refine co_then ?_
              refine wp_ret ?_
              refine co_blockR ?_
              refine co_thenR ?_
              refine co_thenR ?_
              refine co_blockR ?_
              refine co_thenR ?_
              refine co_ret1 h154 rfl rfl ?_
              have hO : chkOp y64 = 0 := chkOp_d (by assumption) (by assumption) (by first | exact delV_t (by assumption) (by assumption) | exact delV_f (by assumption))
              exact ⟨ret_int (chkL_ord (i := i) hL hy64 hO (keyUp_at (l := l) (i := i) (y := y64) (j := (((i : Nat) : Int) - 1).toNat) (by omega) (by omega) hy141 (by simpa using hc150))), hB118⟩
           ·
            rw [hc106] at h105
            refine pk0 (v := pt N69 1) h105 rfl fun a155 h155 => ?_; clear h105
            refine pk (v := .string y64.2.1) h155 rfl (rn_load1 rfl rfl Try.isAgg9 (hk97.cell rfl)) fun a156 h156 => ?_; clear h155
            refine pk0 (v := .bool (!(y64.2.1.toList == (⟨#[]⟩ : ByteArray).toList))) h156 rfl fun a157 h157 => ?_; clear h156
            refine pk0 (v := .bool (!(y64.2.1.toList == (⟨#[]⟩ : ByteArray).toList))) h157 rfl fun a158 h158 => ?_; clear h157
            refine pl_nil ?_
            refine co_then ?_
            cases hc159 : (!(y64.2.1.toList == (⟨#[]⟩ : ByteArray).toList))
            ·
             rw [hc159] at h158
             refine co_false h158 rfl ?_
             refine wp_skip ?_
             refine co_then ?_
             refine co_seq ?_
             refine dr_eq (by kernel_rfl) (fun w160 hg161 => ?_)
             have hz162 := hg161.size
             refine dk0 0 (v := .int .i64 ((i : Nat) : Int)) h158 rfl rfl rfl fun a163 h163 => ?_; clear h158
             refine dk0 1 (v := .bool (decide (((i : Nat) : Int) > 0))) h163 rfl rfl rfl fun a164 h164 => ?_; clear h163
             refine dk0 2 (v := .bool (decide (((i : Nat) : Int) > 0))) h164 rfl rfl rfl fun a165 h165 => ?_; clear h164
             have hB167 := hb_new hB91 hg161
             cases hc166 : (decide (((i : Nat) : Int) > 0))
             ·
              rw [hc166] at h165
              have hp168 : ¬ (((i : Nat) : Int) > 0) := of_decide_eq_false hc166
              clear hc166
              refine dsk 3 h165 rfl rfl rfl fun a169 h169 => ?_; clear h165
              refine dsk 4 h169 rfl rfl rfl fun a170 h170 => ?_; clear h169
              refine dsk 5 h170 rfl rfl rfl fun a171 h171 => ?_; clear h170
              refine dsk 6 h171 rfl rfl rfl fun a172 h172 => ?_; clear h171
              refine dsk 7 h172 rfl rfl rfl fun a173 h173 => ?_; clear h172
              refine dsk 8 h173 rfl rfl rfl fun a174 h174 => ?_; clear h173
              refine dsk 9 h174 rfl rfl rfl fun a175 h175 => ?_; clear h174
              refine dsk 10 h175 rfl rfl rfl fun a176 h176 => ?_; clear h175
              refine dsk 11 h176 rfl rfl rfl fun a177 h177 => ?_; clear h176
              refine dsk 12 h177 rfl rfl rfl fun a178 h178 => ?_; clear h177
              refine dk0 13 (v := .bool false) h178 rfl rfl rfl fun a179 h179 => ?_; clear h178
              refine dr_done (by kernel_rfl) ?_
              refine co_then ?_
              refine co_false h179 rfl ?_
              refine wp_skip ?_
              refine co_blockN ?_
              refine co_then ?_
              refine co_reg ?_
              refine pk0 (v := .int .i64 ((i : Nat) : Int)) h179 rfl fun a180 h180 => ?_; clear h179
              refine pk (v := .int .i64 ((i + 1 : Nat) : Int)) h180 rfl (rn_arith' rfl rfl rfl rfl rfl rfl (IntWalk.i64_in _ (by omega)) (by omega)) fun a181 h181 => ?_; clear h180
              refine pk0 (v := .int .i64 ((i + 1 : Nat) : Int)) h181 rfl fun a182 h182 => ?_; clear h181
              refine pl_nil ?_
              refine co_then ?_
              refine ⟨(l.length - (i + 1)), by omega, ?_⟩
              have hO : chkOp y64 = 0 := chkOp_d (by assumption) (by assumption) (by first | exact delV_t (by assumption) (by assumption) | exact delV_f (by assumption))
              have hU : keyUp (prevK l i) y64.1 = true := (keyUp_0 (by omega))
              have hL' := chkL_step (i := i) hL hy64 hO hU
              have hk183 := hk94.kept hg161 (by simp)
              exact ⟨i + 1, h182.sub ⟨rfl, rfl, rfl, trivial⟩, rfl, by omega, by first | exact chkB_d rfl (by omega) (by omega) (by omega) | exact hL', hB167, hk183⟩
             ·
              rw [hc166] at h165
              have hp184 : ((i : Nat) : Int) > 0 := of_decide_eq_true hc166
              clear hc166
              refine dk0 3 (v := pt N3 2) h165 rfl rfl rfl fun a185 h185 => ?_; clear h165
              have hk186 := hk94.kept hg161 (by simp)
              refine dk 4 (v := v) h185 rfl rfl rfl (fun x hx => by subst hx; exact (rn_load1 rfl rfl Try.isAgg32 (hk186.cell rfl))) fun a187 h187 => ?_; clear h185
              refine dk0 5 (v := .int .i64 ((i : Nat) : Int)) h187 rfl rfl rfl fun a188 h188 => ?_; clear h187
              refine dk 6 (v := .int .i64 (((i : Nat) : Int) - 1)) h188 rfl rfl rfl (fun x hx => by subst hx; exact (rn_arith rfl rfl rfl rfl rfl rfl (IntWalk.i64_in _ (by omega)))) fun a189 h189 => ?_; clear h188
              obtain ⟨y190, hy190⟩ : ∃ z, l[(((i : Nat) : Int) - 1).toNat]? = some z := ⟨_, List.getElem?_eq_getElem (by first | omega | (simp; done) | (simp; omega))⟩
              refine dk 7 (v := pt (blkOf v) (offOf v + ((((i : Nat) : Int) - 1).toNat) * 3)) h189 rfl rfl rfl (fun x hx => by subst hx; exact (rn_index rfl rfl rfl Try.underlying32 Try.sizeOf60 (hs.below hB167) (by omega) (by first | omega | (simp; done) | (simp; omega)))) fun a191 h191 => ?_; clear h189
              refine dk0 8 (v := pt (blkOf v) (offOf v + ((((i : Nat) : Int) - 1).toNat) * 3)) h191 rfl rfl rfl fun a192 h192 => ?_; clear h191
              refine dk 9 (v := .string y190.1) h192 rfl rfl rfl (fun x hx => by subst hx; exact (rn_load1 rfl rfl Try.isAgg9 ((sl_at (hs.below hB167) hy190) 0 _ rfl))) fun a193 h193 => ?_; clear h192
              refine dk0 10 (v := pt N69 0) h193 rfl rfl rfl fun a194 h194 => ?_; clear h193
              have hk195 := hk97.kept hg161 (by simp)
              refine dk 11 (v := .string y64.1) h194 rfl rfl rfl (fun x hx => by subst hx; exact (rn_load1 rfl rfl Try.isAgg9 (hk195.cell rfl))) fun a196 h196 => ?_; clear h194
              refine dk0 12 (v := .bool (!(Op.bytesLess y190.1.toList y64.1.toList))) h196 rfl rfl rfl fun a197 h197 => ?_; clear h196
              refine dk0 13 (v := .bool (!(Op.bytesLess y190.1.toList y64.1.toList))) h197 rfl rfl rfl fun a198 h198 => ?_; clear h197
              refine dr_done (by kernel_rfl) ?_
              refine co_then ?_
              cases hc199 : (!(Op.bytesLess y190.1.toList y64.1.toList))
              ·
               rw [hc199] at h198
               refine co_false h198 rfl ?_
               refine wp_skip ?_
               refine co_blockN ?_
               refine co_then ?_
               refine co_reg ?_
               refine pk0 (v := .int .i64 ((i : Nat) : Int)) h198 rfl fun a200 h200 => ?_; clear h198
               refine pk (v := .int .i64 ((i + 1 : Nat) : Int)) h200 rfl (rn_arith' rfl rfl rfl rfl rfl rfl (IntWalk.i64_in _ (by omega)) (by omega)) fun a201 h201 => ?_; clear h200
               refine pk0 (v := .int .i64 ((i + 1 : Nat) : Int)) h201 rfl fun a202 h202 => ?_; clear h201
               refine pl_nil ?_
               refine co_then ?_
               refine ⟨(l.length - (i + 1)), by omega, ?_⟩
               have hO : chkOp y64 = 0 := chkOp_d (by assumption) (by assumption) (by first | exact delV_t (by assumption) (by assumption) | exact delV_f (by assumption))
               have hU : keyUp (prevK l i) y64.1 = true := (keyUp_at (l := l) (i := i) (y := y64) (j := (((i : Nat) : Int) - 1).toNat) (by omega) (by omega) hy190 (by simpa using hc199))
               have hL' := chkL_step (i := i) hL hy64 hO hU
               exact ⟨i + 1, h202.sub ⟨rfl, rfl, rfl, trivial⟩, rfl, by omega, by first | exact chkB_d rfl (by omega) (by omega) (by omega) | exact hL', hB167, hk186⟩
              ·
               rw [hc199] at h198
               refine co_true h198 rfl ?_
               refine co_seq ?_
               refine co_reg ?_
               refine pk0 (v := .int .i64 18) h198 rfl fun a203 h203 => ?_; clear h198
               refine pl_nil ?_
               refine co_then ?_
               refine wp_ret ?_
               refine co_blockR ?_
               refine co_thenR ?_
               refine co_thenR ?_
               refine co_blockR ?_
               refine co_thenR ?_
               refine co_ret1 h203 rfl rfl ?_
               have hO : chkOp y64 = 0 := chkOp_d (by assumption) (by assumption) (by first | exact delV_t (by assumption) (by assumption) | exact delV_f (by assumption))
               exact ⟨ret_int (chkL_ord (i := i) hL hy64 hO (keyUp_at (l := l) (i := i) (y := y64) (j := (((i : Nat) : Int) - 1).toNat) (by omega) (by omega) hy190 (by simpa using hc199))), hB167⟩
            ·
             rw [hc159] at h158
             refine co_true h158 rfl ?_
             refine co_seq ?_
             refine co_reg ?_
             refine pk0 (v := .int .i64 4) h158 rfl fun a204 h204 => ?_; clear h158
             refine pl_nil ?_
             refine co_then ?_
             refine wp_ret ?_
             refine co_thenR ?_
             refine co_blockR ?_
             refine co_thenR ?_
             refine co_thenR ?_
             refine co_blockR ?_
             refine co_thenR ?_
             refine co_ret1 h204 rfl rfl ?_
             have hO : chkOp y64 = 4 := chkOp_c (by assumption) (by assumption) (by first | exact delV_t (by assumption) (by assumption) | exact delV_f (by assumption))
             exact ⟨ret_int (hO.symm.trans (chkL_bad (i := i) hL hy64 (by omega))), hB91⟩
          ·
           rw [hc101] at h100
           have hp205 : ((y64.2.1.size : Nat) : Int) > 8 := of_decide_eq_true hc101
           clear hc101
           refine co_true h100 rfl ?_
           refine co_seq ?_
           refine co_reg ?_
           refine pk0 (v := .int .i64 3) h100 rfl fun a206 h206 => ?_; clear h100
           refine pl_nil ?_
           refine co_then ?_
           refine wp_ret ?_
           refine co_thenR ?_
           refine co_blockR ?_
           refine co_thenR ?_
           refine co_thenR ?_
           refine co_blockR ?_
           refine co_thenR ?_
           refine co_ret1 h206 rfl rfl ?_
           have hO : chkOp y64 = 3 := chkOp_b (by assumption) (by assumption)
           exact ⟨ret_int (hO.symm.trans (chkL_bad (i := i) hL hy64 (by omega))), hB91⟩
         ·
          rw [hc88] at h87
          have hp207 : keyC y64.1 ≠ 0 := by first | simpa using hc88 | simpa [and_assoc] using hc88
          clear hc88
          refine co_true h87 rfl ?_
          refine co_seq ?_
          refine co_reg ?_
          refine pk0 (v := .int .i64 10) h87 rfl fun a208 h208 => ?_; clear h87
          refine pl_nil ?_
          refine co_then ?_
          refine wp_ret ?_
          refine co_thenR ?_
          refine co_blockR ?_
          refine co_thenR ?_
          refine co_thenR ?_
          refine co_blockR ?_
          refine co_thenR ?_
          refine co_ret1 h208 rfl rfl ?_
          have hO : chkOp y64 = 10 := by rw [chkOp_a (by assumption), keyC_ten (by assumption)]
          exact ⟨ret_int (hO.symm.trans (chkL_bad (i := i) hL hy64 (by omega))), hB91⟩
     ·
      rw [hc39] at h38
      have hp209 : ((l.length : Nat) : Int) > 4 := of_decide_eq_true hc39
      clear hc39
      refine co_true h38 rfl ?_
      refine co_seq ?_
      refine co_reg ?_
      refine pk0 (v := .int .i64 6) h38 rfl fun a210 h210 => ?_; clear h38
      refine pl_nil ?_
      refine co_then ?_
      refine wp_ret ?_
      refine co_thenR ?_
      refine co_ret1 h210 rfl rfl ?_
      exact ⟨ret_int (chkB_c rfl (by omega) (by omega) (by omega)), hB15⟩
    ·
     rw [hc33] at h32
     have hp211 : r > 1073741824 := of_decide_eq_true hc33
     clear hc33
     refine co_true h32 rfl ?_
     refine co_seq ?_
     refine co_reg ?_
     refine pk0 (v := .int .i64 5) h32 rfl fun a212 h212 => ?_; clear h32
     refine pl_nil ?_
     refine co_then ?_
     refine wp_ret ?_
     refine co_thenR ?_
     refine co_ret1 h212 rfl rfl ?_
     exact ⟨ret_int (chkB_b rfl (by omega) (by omega)), hB15⟩
   ·
    rw [hc27] at h26
    have hp213 : r < 1 := of_decide_eq_true hc27
    clear hc27
    refine psk h26 rfl fun a214 h214 => ?_; clear h26
    refine psk h214 rfl fun a215 h215 => ?_; clear h214
    refine psk h215 rfl fun a216 h216 => ?_; clear h215
    refine pk0 (v := .bool true) h216 rfl fun a217 h217 => ?_; clear h216
    refine pl_nil ?_
    refine co_then ?_
    refine co_true h217 rfl ?_
    refine co_seq ?_
    refine co_reg ?_
    refine pk0 (v := .int .i64 5) h217 rfl fun a218 h218 => ?_; clear h217
    refine pl_nil ?_
    refine co_then ?_
    refine wp_ret ?_
    refine co_thenR ?_
    refine co_ret1 h218 rfl rfl ?_
    exact ⟨ret_int (chkB_b rfl (by omega) (by omega)), hB15⟩
  ·
   rw [hc21] at h20
   have hp219 : c ≥ 3 := of_decide_eq_true hc21
   clear hc21
   refine co_true h20 rfl ?_
   refine co_seq ?_
   refine co_reg ?_
   refine pk0 (v := .int .i64 1) h20 rfl fun a220 h220 => ?_; clear h20
   refine pl_nil ?_
   refine co_then ?_
   refine wp_ret ?_
   refine co_thenR ?_
   refine co_ret1 h220 rfl rfl ?_
   exact ⟨ret_int (chkB_a rfl (by omega)), hB15⟩
 ·
  rw [hc14] at h13
  have hp221 : c < 0 := of_decide_eq_true hc14
  clear hc14
  refine psk h13 rfl fun a222 h222 => ?_; clear h13
  refine psk h222 rfl fun a223 h223 => ?_; clear h222
  refine psk h223 rfl fun a224 h224 => ?_; clear h223
  refine pk0 (v := .bool true) h224 rfl fun a225 h225 => ?_; clear h224
  refine pl_nil ?_
  refine co_then ?_
  refine co_true h225 rfl ?_
  refine co_seq ?_
  refine co_reg ?_
  refine pk0 (v := .int .i64 1) h225 rfl fun a226 h226 => ?_; clear h225
  refine pl_nil ?_
  refine co_then ?_
  refine wp_ret ?_
  refine co_thenR ?_
  refine co_ret1 h226 rfl rfl ?_
  exact ⟨ret_int (chkB_a rfl (by omega)), hB15⟩
end Go.Proofs.Ytfjhlckklgeokaa
