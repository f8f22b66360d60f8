/- Package ops: Same, Put of both. Conditions: none. -/
import Derived.Test.YteioaaegooebpaaOpsA
namespace Go.Proofs.Yteioaaegooebpaa
open Go.RowKit Go.PlainAid
set_option linter.unusedVariables false


def eqO (x y : OpT) : Bool := x.1.toList == y.1.toList && x.2.1.toList == y.2.1.toList && x.2.2 == y.2.2
def sameL : List OpT → List OpT → Bool
  | [], [] => true
  | x :: a, y :: b => eqO x y && sameL a b
  | _, _ => false
theorem sameL_len : ∀ {a b : List OpT}, a.length ≠ b.length → false = sameL a b
  | [], [], h => absurd rfl h
  | [], _ :: _, _ => rfl
  | _ :: _, [], _ => rfl
  | x :: a, y :: b, h => by
    show false = (eqO x y && sameL a b)
    rw [← sameL_len (a := a) (b := b) (fun e => h (by simp [e]))]; simp
theorem sameL_step {a b : List OpT} {i : Nat} {x y : OpT} {z : Bool} (h : sameL (a.drop i) (b.drop i) = z) (hx : a[i]? = some x) (hy : b[i]? = some y) (he : eqO x y = true) : sameL (a.drop (i + 1)) (b.drop (i + 1)) = z := by
  rw [dropO_at hx, dropO_at hy] at h; unfold sameL at h; rwa [he, Bool.true_and] at h
theorem sameL_no {a b : List OpT} {i : Nat} {x y : OpT} {z : Bool} (h : sameL (a.drop i) (b.drop i) = z) (hx : a[i]? = some x) (hy : b[i]? = some y) (he : eqO x y = false) : false = z := by
  rw [dropO_at hx, dropO_at hy] at h; unfold sameL at h; rwa [he, Bool.false_and] at h
theorem sameL_end {a b : List OpT} {i : Nat} {z : Bool} (h : sameL (a.drop i) (b.drop i) = z) (hl : a.length = b.length) (hi : a.length ≤ i) : true = z := by
  rw [List.drop_eq_nil_of_le hi, List.drop_eq_nil_of_le (by omega)] at h; exact h
theorem eqO_of {x y : OpT} {b : Bool} (h : (!(x.1.toList == y.1.toList && x.2.1.toList == y.2.1.toList && x.2.2 == y.2.2)) = b) : eqO x y = !b := by unfold eqO; rw [← h]; simp
theorem eqO_refl (x : OpT) : eqO x x = true := by unfold eqO; simp
theorem sameL_refl : ∀ a : List OpT, sameL a a = true
  | [] => rfl
  | x :: a => by show (eqO x x && sameL a a) = true; rw [eqO_refl, sameL_refl a]; rfl
def sameB (c r : Int) (l : List OpT) (c2 r2 : Int) (l2 : List OpT) : Bool := if c = c2 ∧ r = r2 then sameL l l2 else false
theorem sameB_y {c r c2 r2 : Int} {l l2 : List OpT} (h : c = c2) (h1 : r = r2) : sameL l l2 = sameB c r l c2 r2 l2 := by unfold sameB; rw [if_pos ⟨h, h1⟩]
theorem sameB_n {c r c2 r2 : Int} {l l2 : List OpT} (h : ¬ (c = c2 ∧ r = r2)) : false = sameB c r l c2 r2 l2 := by unfold sameB; rw [if_neg h]
theorem sameB_refl (c r : Int) (l : List OpT) : sameB c r l c r l = true := by rw [← sameB_y rfl rfl, sameL_refl]
/-- The bytes of a batch. -/
def putO1 (o : OpT) : List UInt8 := (putL (o.1.size : Int) ++ o.1.data.toList) ++ [flagB o.2.2] ++ (putL (o.2.1.size : Int) ++ o.2.1.data.toList)
def putOs (l : List OpT) : List UInt8 := l.flatMap putO1
def putH (c r : Int) (l : List OpT) : List UInt8 := putL c ++ putL r ++ putL ((l.length : Nat) : Int)
def putB (c r : Int) (l : List OpT) : ByteArray := if chkB c r l = 0 then ⟨(putH c r l ++ putOs l).toArray⟩ else ⟨#[]⟩
theorem putB_ok {c r : Int} {l : List OpT} (h : chkB c r l = 0) : putB c r l = ⟨(putH c r l ++ putOs l).toArray⟩ := by unfold putB; rw [if_pos h]
theorem putB_err {c r : Int} {l : List OpT} (h : chkB c r l ≠ 0) : putB c r l = ⟨#[]⟩ := by unfold putB; rw [if_neg h]

set_option maxRecDepth 100000 in
theorem equalOp_any (v : Value) (l : List OpT) (v2 : Value) (l2 : List OpT) (w : World) (hs : SliceOf opE 3 w v l) (hs2 : SliceOf opE 3 w v2 l2) :
    Calls Try.prog 111 #[v, v2] w fun e w' => e = .returned (.bool (sameL l l2)) ∧ Below w.heap.size w w' := by
  have hB0 := Below.refl w.heap.size w
  have hl_hs := sl_len hs
  have hl_hs2 := sl_len hs2
  refine co_enter (n := 26) Try.func111 rfl rfl rfl [(0, v), (1, v2)] rfl (fun a h0 => ?_)
  refine co_seq ?_
  refine co_reg ?_
  refine pl_val (v := .bool false) h0 rfl rfl rfl (by kernel_rfl) (by kernel_rfl) (by kernel_rfl) (fun a1 h1 => ?_); clear h0
  refine pl_nil ?_
  refine co_then ?_
  refine co_seq ?_
  refine co_seq ?_
  refine co_reg ?_
  refine pl_val (v := v) h1 rfl rfl rfl (by kernel_rfl) (by kernel_rfl) (by kernel_rfl) (fun a2 h2 => ?_); clear h1
  refine pl_val (v := .int .i64 ((l.length : Nat) : Int)) h2 rfl rfl rfl (by kernel_rfl) (by kernel_rfl) (rn_len rfl rfl Try.underlying23 hs) (fun a3 h3 => ?_); clear h2
  refine pl_val (v := v2) h3 rfl rfl rfl (by kernel_rfl) (by kernel_rfl) (by kernel_rfl) (fun a4 h4 => ?_); clear h3
  refine pl_val (v := .int .i64 ((l2.length : Nat) : Int)) h4 rfl rfl rfl (by kernel_rfl) (by kernel_rfl) (rn_len rfl rfl Try.underlying23 hs2) (fun a5 h5 => ?_); clear h4
  refine pl_val (v := .bool (((l.length : Nat) : Int) != ((l2.length : Nat) : Int))) h5 rfl rfl rfl (by kernel_rfl) (by kernel_rfl) (by kernel_rfl) (fun a6 h6 => ?_); clear h5
  refine pl_nil ?_
  refine co_then ?_
  cases hc7 : (((l.length : Nat) : Int) != ((l2.length : Nat) : Int))
  ·
    rw [hc7] at h6
    have hp8 : ¬ (((l.length : Nat) : Int) ≠ ((l2.length : Nat) : Int)) := by first | simpa using hc7 | simpa [and_assoc] using hc7
    clear hc7
    refine co_false h6 rfl ?_
    refine wp_skip ?_
    refine co_then ?_
    refine co_seq ?_
    refine co_seq ?_
    refine co_reg ?_
    refine pl_val (v := v) h6 rfl rfl rfl (by kernel_rfl) (by kernel_rfl) (by kernel_rfl) (fun a9 h9 => ?_); clear h6
    refine pl_val (v := .int .i64 ((l.length : Nat) : Int)) h9 rfl rfl rfl (by kernel_rfl) (by kernel_rfl) (rn_len rfl rfl Try.underlying23 hs) (fun a10 h10 => ?_); clear h9
    refine pl_val (v := .int .i64 0) h10 rfl rfl rfl (by kernel_rfl) (by kernel_rfl) (by kernel_rfl) (fun a11 h11 => ?_); clear h10
    refine pl_nil ?_
    refine co_then ?_
    refine wp_block ?_
    have h12 : Slots 26 [(0, v), (1, v2), (4, .bool false), (12, .int .i64 ((l.length : Nat) : Int)), (13, .int .i64 0)] _ := h11.sub ⟨rfl, rfl, rfl, rfl, rfl, trivial⟩; clear h11
    refine co_loop (fun mm a x => ∃ (i : Nat), Slots 26 [(0, v), (1, v2), (4, .bool false), (12, .int .i64 ((l.length : Nat) : Int)), (13, .int .i64 ((i : Nat) : Int))] a ∧ mm = l.length - i ∧ (i ≤ l.length) ∧ (l.length = l2.length) ∧ (sameL (l.drop i) (l2.drop i) = sameL l l2) ∧ Below w.heap.size w x) (l.length - 0) ?_ ?_
    · exact ⟨0, h12.sub ⟨rfl, rfl, rfl, rfl, (slot_eq rfl (congrArg (Value.int .i64) (by first | rfl | omega))), trivial⟩, rfl, by omega, by omega, by first | rfl | exact hL', hB0⟩
    · rintro k13 a14 w15 ⟨i, h14, rfl, hi16, hi17, hi18, hB19⟩
      have hz20 := hB19.size
      have hL : sameL (l.drop i) (l2.drop i) = sameL l l2 := by assumption
      refine co_seq ?_
      refine co_reg ?_
      refine pl_val (v := .bool (decide (((i : Nat) : Int) < ((l.length : Nat) : Int)))) h14 rfl rfl rfl (by kernel_rfl) (by kernel_rfl) (by kernel_rfl) (fun a21 h21 => ?_); clear h14
      refine pl_nil ?_
      refine co_then ?_
      refine co_seq ?_
      cases hc22 : (decide (((i : Nat) : Int) < ((l.length : Nat) : Int)))
      ·
        rw [hc22] at h21
        have hp23 : ¬ (((i : Nat) : Int) < ((l.length : Nat) : Int)) := of_decide_eq_false hc22
        clear hc22
        refine co_false h21 rfl ?_
        refine wp_exit ?_
        refine co_thenX ?_
        refine co_thenX ?_
        refine co_blockX ?_
        refine co_then ?_
        refine co_seq ?_
        refine co_reg ?_
        refine pl_val (v := .bool true) h21 rfl rfl rfl (by kernel_rfl) (by kernel_rfl) (by kernel_rfl) (fun a24 h24 => ?_); clear h21
        refine pl_nil ?_
        refine co_then ?_
        refine wp_ret ?_
        refine co_ret1 h24 rfl rfl ?_
        exact ⟨ret_bool (sameL_end (i := i) hL (by omega) (by omega)), hB19⟩
      ·
        rw [hc22] at h21
        have hp25 : ((i : Nat) : Int) < ((l.length : Nat) : Int) := of_decide_eq_true hc22
        clear hc22
        refine co_true h21 rfl ?_
        refine wp_skip ?_
        refine co_then ?_
        refine co_seq ?_
        refine wp_block ?_
        refine co_seq ?_
        refine co_reg ?_
        refine pl_val (v := .int .i64 ((i : Nat) : Int)) h21 rfl rfl rfl (by kernel_rfl) (by kernel_rfl) (by kernel_rfl) (fun a26 h26 => ?_); clear h21
        refine pl_val (v := .int .i64 ((i : Nat) : Int)) h26 rfl rfl rfl (by kernel_rfl) (by kernel_rfl) (by kernel_rfl) (fun a27 h27 => ?_); clear h26
        refine pl_nil ?_
        refine co_then ?_
        refine co_seq ?_
        refine dr_eq (by kernel_rfl) (fun w28 hg29 => ?_)
        have hB30 := hb_new hB19 hg29
        have hz31 := hB30.size
        have hz32 := hg29.size
        refine dr_take (i := 0) (v := v) h27 rfl (by kernel_rfl) (by kernel_rfl) (by kernel_rfl) rfl rfl rfl rfl (by kernel_rfl) (fun _ _ => by kernel_rfl) (fun a33 h33 => ?_); clear h27
        refine dr_take (i := 1) (v := .int .i64 ((i : Nat) : Int)) h33 rfl (by kernel_rfl) (by kernel_rfl) (by kernel_rfl) rfl rfl rfl rfl (by kernel_rfl) (fun _ _ => by kernel_rfl) (fun a34 h34 => ?_); clear h33
        obtain ⟨y35, hy35⟩ : ∃ z, l[i]? = some z := ⟨_, List.getElem?_eq_getElem (by first | omega | (simp; done) | (simp; omega))⟩
        refine dr_take (i := 2) (v := .pointer (some ⟨(blkOf v), offOf v + i * 3, none⟩)) h34 rfl (by kernel_rfl) (by kernel_rfl) (by kernel_rfl) rfl rfl rfl rfl (by kernel_rfl) (fun x hx => by subst hx; exact (rn_index rfl rfl rfl Try.underlying23 Try.sizeOf86 (hs.below hB30) (by omega) (by first | omega | (simp; done) | (simp; omega)))) (fun a36 h36 => ?_); clear h34
        refine dr_take (i := 3) (v := .agg #[.string y35.1, .string y35.2.1, .bool y35.2.2]) h36 rfl (by kernel_rfl) (by kernel_rfl) (by kernel_rfl) rfl rfl rfl rfl (by kernel_rfl) (fun x hx => by subst hx; exact (rn_loadN rfl rfl Try.underlying86 rfl (by kernel_rfl) (sl_at (hs.below hB30) hy35))) (fun a37 h37 => ?_); clear h36
        refine dr_take (i := 4) (v := v2) h37 rfl (by kernel_rfl) (by kernel_rfl) (by kernel_rfl) rfl rfl rfl rfl (by kernel_rfl) (fun _ _ => by kernel_rfl) (fun a38 h38 => ?_); clear h37
        refine dr_take (i := 5) (v := .int .i64 ((i : Nat) : Int)) h38 rfl (by kernel_rfl) (by kernel_rfl) (by kernel_rfl) rfl rfl rfl rfl (by kernel_rfl) (fun _ _ => by kernel_rfl) (fun a39 h39 => ?_); clear h38
        obtain ⟨y40, hy40⟩ : ∃ z, l2[i]? = some z := ⟨_, List.getElem?_eq_getElem (by first | omega | (simp; done) | (simp; omega))⟩
        refine dr_take (i := 6) (v := .pointer (some ⟨(blkOf v2), offOf v2 + i * 3, none⟩)) h39 rfl (by kernel_rfl) (by kernel_rfl) (by kernel_rfl) rfl rfl rfl rfl (by kernel_rfl) (fun x hx => by subst hx; exact (rn_index rfl rfl rfl Try.underlying23 Try.sizeOf86 (hs2.below hB30) (by omega) (by first | omega | (simp; done) | (simp; omega)))) (fun a41 h41 => ?_); clear h39
        refine dr_take (i := 7) (v := .agg #[.string y40.1, .string y40.2.1, .bool y40.2.2]) h41 rfl (by kernel_rfl) (by kernel_rfl) (by kernel_rfl) rfl rfl rfl rfl (by kernel_rfl) (fun x hx => by subst hx; exact (rn_loadN rfl rfl Try.underlying86 rfl (by kernel_rfl) (sl_at (hs2.below hB30) hy40))) (fun a42 h42 => ?_); clear h41
        refine dr_take (i := 8) (v := .bool (!(y35.1.toList == y40.1.toList && y35.2.1.toList == y40.2.1.toList && y35.2.2 == y40.2.2))) h42 rfl (by kernel_rfl) (by kernel_rfl) (by kernel_rfl) rfl rfl rfl rfl (by kernel_rfl) (fun x hx => by subst hx; exact (rn_neS rfl rfl rfl Try.eqGuardType86 (eq_op _ _ _ _ _ _ _))) (fun a43 h43 => ?_); clear h42
        refine dr_done (by kernel_rfl) ?_
        refine co_then ?_
        cases hc44 : (!(y35.1.toList == y40.1.toList && y35.2.1.toList == y40.2.1.toList && y35.2.2 == y40.2.2))
        ·
          rw [hc44] at h43
          refine co_false h43 rfl ?_
          refine wp_skip ?_
          refine co_blockN ?_
          refine co_then ?_
          refine co_reg ?_
          refine pl_val (v := .int .i64 ((i + 1 : Nat) : Int)) h43 rfl rfl rfl (by kernel_rfl) (by kernel_rfl) (rn_arith' rfl rfl rfl rfl rfl rfl (IntWalk.i64_in _ (by omega)) (by omega)) (fun a45 h45 => ?_); clear h43
          refine pl_val (v := .int .i64 ((i + 1 : Nat) : Int)) h45 rfl rfl rfl (by kernel_rfl) (by kernel_rfl) (by kernel_rfl) (fun a46 h46 => ?_); clear h45
          refine pl_nil ?_
          refine co_then ?_
          refine ⟨(l.length - (i + 1)), by omega, ?_⟩
          have hL' := sameL_step (i := i) hL hy35 hy40 (eqO_of (b := false) (by assumption))
          exact ⟨i + 1, h46.sub ⟨rfl, rfl, rfl, rfl, rfl, trivial⟩, rfl, by omega, by omega, by first | rfl | exact hL', hB30⟩
        ·
          rw [hc44] at h43
          refine co_true h43 rfl ?_
          refine co_seq ?_
          refine co_reg ?_
          refine pl_val (v := .bool false) h43 rfl rfl rfl (by kernel_rfl) (by kernel_rfl) (by kernel_rfl) (fun a47 h47 => ?_); clear h43
          refine pl_nil ?_
          refine co_then ?_
          refine wp_ret ?_
          refine co_blockR ?_
          refine co_thenR ?_
          refine co_thenR ?_
          refine co_blockR ?_
          refine co_thenR ?_
          refine co_ret1 h47 rfl rfl ?_
          exact ⟨ret_bool (sameL_no (i := i) hL hy35 hy40 (eqO_of (b := true) (by assumption))), hB30⟩
  ·
    rw [hc7] at h6
    have hp48 : ((l.length : Nat) : Int) ≠ ((l2.length : Nat) : Int) := by first | simpa using hc7 | simpa [and_assoc] using hc7
    clear hc7
    refine co_true h6 rfl ?_
    refine co_seq ?_
    refine co_reg ?_
    refine pl_val (v := .bool false) h6 rfl rfl rfl (by kernel_rfl) (by kernel_rfl) (by kernel_rfl) (fun a49 h49 => ?_); clear h6
    refine pl_nil ?_
    refine co_then ?_
    refine wp_ret ?_
    refine co_thenR ?_
    refine co_ret1 h49 rfl rfl ?_
    exact ⟨ret_bool (sameL_len (by omega)), hB0⟩
set_option maxRecDepth 100000 in
theorem rsameOps_any (v : Value) (l : List OpT) (v2 : Value) (l2 : List OpT) (w : World) (hs : SliceOf opE 3 w v l) (hs2 : SliceOf opE 3 w v2 l2) :
    Calls Try.prog 13 #[v, v2] w fun e w' => e = .returned (.bool (sameL l l2)) ∧ Below w.heap.size w w' := by
  have hB0 := Below.refl w.heap.size w
  have hl_hs := sl_len hs
  have hl_hs2 := sl_len hs2
  refine co_enter (n := 32) Try.func13 rfl rfl rfl [(0, v), (1, v2)] rfl (fun a h0 => ?_)
  refine co_seq ?_
  refine co_reg ?_
  refine pl_val (v := .bool false) h0 rfl rfl rfl (by kernel_rfl) (by kernel_rfl) (by kernel_rfl) (fun a1 h1 => ?_); clear h0
  refine pl_nil ?_
  refine co_then ?_
  refine co_seq ?_
  refine co_seq ?_
  refine co_reg ?_
  refine pl_val (v := v) h1 rfl rfl rfl (by kernel_rfl) (by kernel_rfl) (by kernel_rfl) (fun a2 h2 => ?_); clear h1
  refine pl_val (v := .int .i64 ((l.length : Nat) : Int)) h2 rfl rfl rfl (by kernel_rfl) (by kernel_rfl) (rn_len rfl rfl Try.underlying23 hs) (fun a3 h3 => ?_); clear h2
  refine pl_val (v := v2) h3 rfl rfl rfl (by kernel_rfl) (by kernel_rfl) (by kernel_rfl) (fun a4 h4 => ?_); clear h3
  refine pl_val (v := .int .i64 ((l2.length : Nat) : Int)) h4 rfl rfl rfl (by kernel_rfl) (by kernel_rfl) (rn_len rfl rfl Try.underlying23 hs2) (fun a5 h5 => ?_); clear h4
  refine pl_val (v := .bool (((l.length : Nat) : Int) != ((l2.length : Nat) : Int))) h5 rfl rfl rfl (by kernel_rfl) (by kernel_rfl) (by kernel_rfl) (fun a6 h6 => ?_); clear h5
  refine pl_nil ?_
  refine co_then ?_
  cases hc7 : (((l.length : Nat) : Int) != ((l2.length : Nat) : Int))
  ·
    rw [hc7] at h6
    have hp8 : ¬ (((l.length : Nat) : Int) ≠ ((l2.length : Nat) : Int)) := by first | simpa using hc7 | simpa [and_assoc] using hc7
    clear hc7
    refine co_false h6 rfl ?_
    refine wp_skip ?_
    refine co_then ?_
    refine co_seq ?_
    refine co_seq ?_
    refine co_reg ?_
    refine pl_val (v := .int .i64 0) h6 rfl rfl rfl (by kernel_rfl) (by kernel_rfl) (by kernel_rfl) (fun a9 h9 => ?_); clear h6
    refine pl_nil ?_
    refine co_then ?_
    refine wp_block ?_
    have h10 : Slots 32 [(0, v), (1, v2), (4, .bool false), (5, .int .i64 0)] _ := h9.sub ⟨rfl, rfl, rfl, rfl, trivial⟩; clear h9
    refine co_loop (fun mm a x => ∃ (i : Nat), Slots 32 [(0, v), (1, v2), (4, .bool false), (5, .int .i64 ((i : Nat) : Int))] a ∧ mm = l.length - i ∧ (i ≤ l.length) ∧ (l.length = l2.length) ∧ (sameL (l.drop i) (l2.drop i) = sameL l l2) ∧ Below w.heap.size w x) (l.length - 0) ?_ ?_
    · exact ⟨0, h10.sub ⟨rfl, rfl, rfl, (slot_eq rfl (congrArg (Value.int .i64) (by first | rfl | omega))), trivial⟩, rfl, by omega, by omega, by first | rfl | exact hL', hB0⟩
    · rintro k11 a12 w13 ⟨i, h12, rfl, hi14, hi15, hi16, hB17⟩
      have hz18 := hB17.size
      have hL : sameL (l.drop i) (l2.drop i) = sameL l l2 := by assumption
      refine co_seq ?_
      refine co_seq ?_
      refine co_reg ?_
      refine pl_val (v := .int .i64 ((i : Nat) : Int)) h12 rfl rfl rfl (by kernel_rfl) (by kernel_rfl) (by kernel_rfl) (fun a19 h19 => ?_); clear h12
      refine pl_val (v := v) h19 rfl rfl rfl (by kernel_rfl) (by kernel_rfl) (by kernel_rfl) (fun a20 h20 => ?_); clear h19
      refine pl_val (v := .int .i64 ((l.length : Nat) : Int)) h20 rfl rfl rfl (by kernel_rfl) (by kernel_rfl) (rn_len rfl rfl Try.underlying23 (hs.below hB17)) (fun a21 h21 => ?_); clear h20
      refine pl_val (v := .bool (decide (((i : Nat) : Int) < ((l.length : Nat) : Int)))) h21 rfl rfl rfl (by kernel_rfl) (by kernel_rfl) (by kernel_rfl) (fun a22 h22 => ?_); clear h21
      refine pl_val (v := .bool (decide (((i : Nat) : Int) < ((l.length : Nat) : Int)))) h22 rfl rfl rfl (by kernel_rfl) (by kernel_rfl) (by kernel_rfl) (fun a23 h23 => ?_); clear h22
      cases hc24 : (decide (((i : Nat) : Int) < ((l.length : Nat) : Int)))
      ·
        rw [hc24] at h23
        have hp25 : ¬ (((i : Nat) : Int) < ((l.length : Nat) : Int)) := of_decide_eq_false hc24
        clear hc24
        refine pl_skip h23 rfl rfl rfl (fun a26 h26 => ?_); clear h23
        refine pl_skip h26 rfl rfl rfl (fun a27 h27 => ?_); clear h26
        refine pl_skip h27 rfl rfl rfl (fun a28 h28 => ?_); clear h27
        refine pl_skip h28 rfl rfl rfl (fun a29 h29 => ?_); clear h28
        refine pl_val (v := .bool false) h29 rfl rfl rfl (by kernel_rfl) (by kernel_rfl) (by kernel_rfl) (fun a30 h30 => ?_); clear h29
        refine pl_nil ?_
        refine co_then ?_
        refine co_false h30 rfl ?_
        refine wp_exit ?_
        refine co_thenX ?_
        refine co_thenX ?_
        refine co_blockX ?_
        refine co_then ?_
        refine co_seq ?_
        refine co_reg ?_
        refine pl_val (v := .bool true) h30 rfl rfl rfl (by kernel_rfl) (by kernel_rfl) (by kernel_rfl) (fun a31 h31 => ?_); clear h30
        refine pl_nil ?_
        refine co_then ?_
        refine wp_ret ?_
        refine co_ret1 h31 rfl rfl ?_
        exact ⟨ret_bool (sameL_end (i := i) hL (by omega) (by omega)), hB17⟩
      ·
        rw [hc24] at h23
        have hp32 : ((i : Nat) : Int) < ((l.length : Nat) : Int) := of_decide_eq_true hc24
        clear hc24
        refine pl_val (v := .int .i64 ((i : Nat) : Int)) h23 rfl rfl rfl (by kernel_rfl) (by kernel_rfl) (by kernel_rfl) (fun a33 h33 => ?_); clear h23
        refine pl_val (v := v2) h33 rfl rfl rfl (by kernel_rfl) (by kernel_rfl) (by kernel_rfl) (fun a34 h34 => ?_); clear h33
        refine pl_val (v := .int .i64 ((l2.length : Nat) : Int)) h34 rfl rfl rfl (by kernel_rfl) (by kernel_rfl) (rn_len rfl rfl Try.underlying23 (hs2.below hB17)) (fun a35 h35 => ?_); clear h34
        refine pl_val (v := .bool (decide (((i : Nat) : Int) < ((l2.length : Nat) : Int)))) h35 rfl rfl rfl (by kernel_rfl) (by kernel_rfl) (by kernel_rfl) (fun a36 h36 => ?_); clear h35
        refine pl_val (v := .bool (decide (((i : Nat) : Int) < ((l2.length : Nat) : Int)))) h36 rfl rfl rfl (by kernel_rfl) (by kernel_rfl) (by kernel_rfl) (fun a37 h37 => ?_); clear h36
        refine pl_nil ?_
        refine co_then ?_
        have hc38 : (decide (((i : Nat) : Int) < ((l2.length : Nat) : Int))) = true := decide_eq_true (by omega)
        rw [hc38] at h37; clear hc38
        refine co_true h37 rfl ?_
        refine wp_skip ?_
        refine co_then ?_
        refine co_seq ?_
        refine wp_block ?_
        refine co_seq ?_
        refine dr_eq (by kernel_rfl) (fun w39 hg40 => ?_)
        have hB41 := hb_new hB17 hg40
        have hz42 := hB41.size
        have hz43 := hg40.size
        refine dr_take (i := 0) (v := v) h37 rfl (by kernel_rfl) (by kernel_rfl) (by kernel_rfl) rfl rfl rfl rfl (by kernel_rfl) (fun _ _ => by kernel_rfl) (fun a44 h44 => ?_); clear h37
        refine dr_take (i := 1) (v := .int .i64 ((i : Nat) : Int)) h44 rfl (by kernel_rfl) (by kernel_rfl) (by kernel_rfl) rfl rfl rfl rfl (by kernel_rfl) (fun _ _ => by kernel_rfl) (fun a45 h45 => ?_); clear h44
        obtain ⟨y46, hy46⟩ : ∃ z, l[i]? = some z := ⟨_, List.getElem?_eq_getElem (by first | omega | (simp; done) | (simp; omega))⟩
        refine dr_take (i := 2) (v := .pointer (some ⟨(blkOf v), offOf v + i * 3, none⟩)) h45 rfl (by kernel_rfl) (by kernel_rfl) (by kernel_rfl) rfl rfl rfl rfl (by kernel_rfl) (fun x hx => by subst hx; exact (rn_index rfl rfl rfl Try.underlying23 Try.sizeOf86 (hs.below hB41) (by omega) (by first | omega | (simp; done) | (simp; omega)))) (fun a47 h47 => ?_); clear h45
        refine dr_take (i := 3) (v := .agg #[.string y46.1, .string y46.2.1, .bool y46.2.2]) h47 rfl (by kernel_rfl) (by kernel_rfl) (by kernel_rfl) rfl rfl rfl rfl (by kernel_rfl) (fun x hx => by subst hx; exact (rn_loadN rfl rfl Try.underlying86 rfl (by kernel_rfl) (sl_at (hs.below hB41) hy46))) (fun a48 h48 => ?_); clear h47
        refine dr_take (i := 4) (v := v2) h48 rfl (by kernel_rfl) (by kernel_rfl) (by kernel_rfl) rfl rfl rfl rfl (by kernel_rfl) (fun _ _ => by kernel_rfl) (fun a49 h49 => ?_); clear h48
        refine dr_take (i := 5) (v := .int .i64 ((i : Nat) : Int)) h49 rfl (by kernel_rfl) (by kernel_rfl) (by kernel_rfl) rfl rfl rfl rfl (by kernel_rfl) (fun _ _ => by kernel_rfl) (fun a50 h50 => ?_); clear h49
        obtain ⟨y51, hy51⟩ : ∃ z, l2[i]? = some z := ⟨_, List.getElem?_eq_getElem (by first | omega | (simp; done) | (simp; omega))⟩
        refine dr_take (i := 6) (v := .pointer (some ⟨(blkOf v2), offOf v2 + i * 3, none⟩)) h50 rfl (by kernel_rfl) (by kernel_rfl) (by kernel_rfl) rfl rfl rfl rfl (by kernel_rfl) (fun x hx => by subst hx; exact (rn_index rfl rfl rfl Try.underlying23 Try.sizeOf86 (hs2.below hB41) (by omega) (by first | omega | (simp; done) | (simp; omega)))) (fun a52 h52 => ?_); clear h50
        refine dr_take (i := 7) (v := .agg #[.string y51.1, .string y51.2.1, .bool y51.2.2]) h52 rfl (by kernel_rfl) (by kernel_rfl) (by kernel_rfl) rfl rfl rfl rfl (by kernel_rfl) (fun x hx => by subst hx; exact (rn_loadN rfl rfl Try.underlying86 rfl (by kernel_rfl) (sl_at (hs2.below hB41) hy51))) (fun a53 h53 => ?_); clear h52
        refine dr_take (i := 8) (v := .bool (!(y46.1.toList == y51.1.toList && y46.2.1.toList == y51.2.1.toList && y46.2.2 == y51.2.2))) h53 rfl (by kernel_rfl) (by kernel_rfl) (by kernel_rfl) rfl rfl rfl rfl (by kernel_rfl) (fun x hx => by subst hx; exact (rn_neS rfl rfl rfl Try.eqGuardType86 (eq_op _ _ _ _ _ _ _))) (fun a54 h54 => ?_); clear h53
        refine dr_done (by kernel_rfl) ?_
        refine co_then ?_
        cases hc55 : (!(y46.1.toList == y51.1.toList && y46.2.1.toList == y51.2.1.toList && y46.2.2 == y51.2.2))
        ·
          rw [hc55] at h54
          refine co_false h54 rfl ?_
          refine wp_skip ?_
          refine co_blockN ?_
          refine co_then ?_
          refine co_reg ?_
          refine pl_val (v := .int .i64 ((i : Nat) : Int)) h54 rfl rfl rfl (by kernel_rfl) (by kernel_rfl) (by kernel_rfl) (fun a56 h56 => ?_); clear h54
          refine pl_val (v := .int .i64 ((i + 1 : Nat) : Int)) h56 rfl rfl rfl (by kernel_rfl) (by kernel_rfl) (rn_arith' rfl rfl rfl rfl rfl rfl (IntWalk.i64_in _ (by omega)) (by omega)) (fun a57 h57 => ?_); clear h56
          refine pl_val (v := .int .i64 ((i + 1 : Nat) : Int)) h57 rfl rfl rfl (by kernel_rfl) (by kernel_rfl) (by kernel_rfl) (fun a58 h58 => ?_); clear h57
          refine pl_nil ?_
          refine co_then ?_
          refine ⟨(l.length - (i + 1)), by omega, ?_⟩
          have hL' := sameL_step (i := i) hL hy46 hy51 (eqO_of (b := false) (by assumption))
          exact ⟨i + 1, h58.sub ⟨rfl, rfl, rfl, rfl, trivial⟩, rfl, by omega, by omega, by first | rfl | exact hL', hB41⟩
        ·
          rw [hc55] at h54
          refine co_true h54 rfl ?_
          refine co_seq ?_
          refine co_reg ?_
          refine pl_val (v := .bool false) h54 rfl rfl rfl (by kernel_rfl) (by kernel_rfl) (by kernel_rfl) (fun a59 h59 => ?_); clear h54
          refine pl_nil ?_
          refine co_then ?_
          refine wp_ret ?_
          refine co_blockR ?_
          refine co_thenR ?_
          refine co_thenR ?_
          refine co_blockR ?_
          refine co_thenR ?_
          refine co_ret1 h59 rfl rfl ?_
          exact ⟨ret_bool (sameL_no (i := i) hL hy46 hy51 (eqO_of (b := true) (by assumption))), hB41⟩
  ·
    rw [hc7] at h6
    have hp60 : ((l.length : Nat) : Int) ≠ ((l2.length : Nat) : Int) := by first | simpa using hc7 | simpa [and_assoc] using hc7
    clear hc7
    refine co_true h6 rfl ?_
    refine co_seq ?_
    refine co_reg ?_
    refine pl_val (v := .bool false) h6 rfl rfl rfl (by kernel_rfl) (by kernel_rfl) (by kernel_rfl) (fun a61 h61 => ?_); clear h6
    refine pl_nil ?_
    refine co_then ?_
    refine wp_ret ?_
    refine co_thenR ?_
    refine co_ret1 h61 rfl rfl ?_
    exact ⟨ret_bool (sameL_len (by omega)), hB0⟩
set_option maxRecDepth 100000 in
theorem opsSame_any (c : Int) (r : Int) (v : Value) (l : List OpT) (c2 : Int) (r2 : Int) (v2 : Value) (l2 : List OpT) (w : World) (hs : SliceOf opE 3 w v l) (hs2 : SliceOf opE 3 w v2 l2) :
    Calls Try.prog 65 #[.agg #[.int .i64 c, .int .i64 r, v], .agg #[.int .i64 c2, .int .i64 r2, v2]] w fun e w' => e = .returned (.bool (sameB c r l c2 r2 l2)) ∧ Below w.heap.size w w' := by
  have hB0 := Below.refl w.heap.size w
  have hl_hs := sl_len hs
  have hl_hs2 := sl_len hs2
  refine co_enter (n := 24) Try.func65 rfl rfl rfl [(0, .agg #[.int .i64 c, .int .i64 r, v]), (1, .agg #[.int .i64 c2, .int .i64 r2, v2])] rfl (fun a h0 => ?_)
  refine co_seq ?_
  refine co_reg ?_
  refine pl_want h0 rfl rfl rfl (op_new (v := fun N => .pointer (some ⟨N, 0, none⟩)) (T := 31) (cs := #[.int .i64 c, .int .i64 r, v]) (by kernel_rfl) (by kernel_rfl) (by kernel_rfl)) ?_; clear h0
  rintro _ w2 a1 ⟨N3, rfl, hN6, hz7, hk5, hg4⟩ h1
  have hB8 := hb_new hB0 hg4
  have hz9 := hB8.size
  have hz10 := hg4.size
  try dsimp only at h1
  refine pl_want h1 rfl rfl rfl (op_new (v := fun N => .pointer (some ⟨N, 0, none⟩)) (T := 31) (cs := #[.int .i64 c2, .int .i64 r2, v2]) (by kernel_rfl) (by kernel_rfl) (by kernel_rfl)) ?_; clear h1
  rintro _ w12 a11 ⟨N13, rfl, hN16, hz17, hk15, hg14⟩ h11
  have hB18 := hb_new hB8 hg14
  have hz19 := hB18.size
  have hz20 := hg14.size
  have hk21 := hk5.kept hg14 (by simp)
  try dsimp only at h11
  refine pl_val (v := .bool false) h11 rfl rfl rfl (by kernel_rfl) (by kernel_rfl) (by kernel_rfl) (fun a22 h22 => ?_); clear h11
  refine pl_nil ?_
  refine co_then ?_
  refine co_seq ?_
  refine co_reg ?_
  refine pl_val (v := .pointer (some ⟨N3, 0, none⟩)) h22 rfl rfl rfl (by kernel_rfl) (by kernel_rfl) (by kernel_rfl) (fun a23 h23 => ?_); clear h22
  refine pl_val (v := .int .i64 c) h23 rfl rfl rfl (by kernel_rfl) (by kernel_rfl) (rn_load1 rfl rfl Try.isAgg3 (hk21.cell rfl)) (fun a24 h24 => ?_); clear h23
  refine pl_val (v := .pointer (some ⟨N13, 0, none⟩)) h24 rfl rfl rfl (by kernel_rfl) (by kernel_rfl) (by kernel_rfl) (fun a25 h25 => ?_); clear h24
  refine pl_val (v := .int .i64 c2) h25 rfl rfl rfl (by kernel_rfl) (by kernel_rfl) (rn_load1 rfl rfl Try.isAgg3 (hk15.cell rfl)) (fun a26 h26 => ?_); clear h25
  refine pl_val (v := .bool (c == c2)) h26 rfl rfl rfl (by kernel_rfl) (by kernel_rfl) (by kernel_rfl) (fun a27 h27 => ?_); clear h26
  refine pl_val (v := .bool (c == c2)) h27 rfl rfl rfl (by kernel_rfl) (by kernel_rfl) (by kernel_rfl) (fun a28 h28 => ?_); clear h27
  cases hc29 : (c == c2)
  ·
    rw [hc29] at h28
    have hp30 : ¬ (c = c2) := by first | simpa using hc29 | simpa [and_assoc] using hc29
    clear hc29
    refine pl_skip h28 rfl rfl rfl (fun a31 h31 => ?_); clear h28
    refine pl_skip h31 rfl rfl rfl (fun a32 h32 => ?_); clear h31
    refine pl_skip h32 rfl rfl rfl (fun a33 h33 => ?_); clear h32
    refine pl_skip h33 rfl rfl rfl (fun a34 h34 => ?_); clear h33
    refine pl_skip h34 rfl rfl rfl (fun a35 h35 => ?_); clear h34
    refine pl_val (v := .bool false) h35 rfl rfl rfl (by kernel_rfl) (by kernel_rfl) (by kernel_rfl) (fun a36 h36 => ?_); clear h35
    refine pl_val (v := .bool false) h36 rfl rfl rfl (by kernel_rfl) (by kernel_rfl) (by kernel_rfl) (fun a37 h37 => ?_); clear h36
    refine pl_skip h37 rfl rfl rfl (fun a38 h38 => ?_); clear h37
    refine pl_skip h38 rfl rfl rfl (fun a39 h39 => ?_); clear h38
    refine pl_skip h39 rfl rfl rfl (fun a40 h40 => ?_); clear h39
    refine pl_skip h40 rfl rfl rfl (fun a41 h41 => ?_); clear h40
    refine pl_skip h41 rfl rfl rfl (fun a42 h42 => ?_); clear h41
    refine pl_val (v := .bool false) h42 rfl rfl rfl (by kernel_rfl) (by kernel_rfl) (by kernel_rfl) (fun a43 h43 => ?_); clear h42
    refine pl_val (v := .bool false) h43 rfl rfl rfl (by kernel_rfl) (by kernel_rfl) (by kernel_rfl) (fun a44 h44 => ?_); clear h43
    refine pl_nil ?_
    refine co_then ?_
    refine wp_ret ?_
    refine co_ret1 h44 rfl rfl ?_
    exact ⟨ret_bool (sameB_n (fun hq => by omega)), hB18⟩
  ·
    rw [hc29] at h28
    have hp45 : c = c2 := by first | simpa using hc29 | simpa [and_assoc] using hc29
    clear hc29
    refine pl_val (v := .pointer (some ⟨N3, 1, none⟩)) h28 rfl rfl rfl (by kernel_rfl) (by kernel_rfl) (by kernel_rfl) (fun a46 h46 => ?_); clear h28
    refine pl_val (v := .int .i64 r) h46 rfl rfl rfl (by kernel_rfl) (by kernel_rfl) (rn_load1 rfl rfl Try.isAgg3 (hk21.cell rfl)) (fun a47 h47 => ?_); clear h46
    refine pl_val (v := .pointer (some ⟨N13, 1, none⟩)) h47 rfl rfl rfl (by kernel_rfl) (by kernel_rfl) (by kernel_rfl) (fun a48 h48 => ?_); clear h47
    refine pl_val (v := .int .i64 r2) h48 rfl rfl rfl (by kernel_rfl) (by kernel_rfl) (rn_load1 rfl rfl Try.isAgg3 (hk15.cell rfl)) (fun a49 h49 => ?_); clear h48
    refine pl_val (v := .bool (r == r2)) h49 rfl rfl rfl (by kernel_rfl) (by kernel_rfl) (by kernel_rfl) (fun a50 h50 => ?_); clear h49
    refine pl_val (v := .bool (r == r2)) h50 rfl rfl rfl (by kernel_rfl) (by kernel_rfl) (by kernel_rfl) (fun a51 h51 => ?_); clear h50
    refine pl_val (v := .bool (r == r2)) h51 rfl rfl rfl (by kernel_rfl) (by kernel_rfl) (by kernel_rfl) (fun a52 h52 => ?_); clear h51
    cases hc53 : (r == r2)
    ·
      rw [hc53] at h52
      have hp54 : ¬ (r = r2) := by first | simpa using hc53 | simpa [and_assoc] using hc53
      clear hc53
      refine pl_skip h52 rfl rfl rfl (fun a55 h55 => ?_); clear h52
      refine pl_skip h55 rfl rfl rfl (fun a56 h56 => ?_); clear h55
      refine pl_skip h56 rfl rfl rfl (fun a57 h57 => ?_); clear h56
      refine pl_skip h57 rfl rfl rfl (fun a58 h58 => ?_); clear h57
      refine pl_skip h58 rfl rfl rfl (fun a59 h59 => ?_); clear h58
      refine pl_val (v := .bool false) h59 rfl rfl rfl (by kernel_rfl) (by kernel_rfl) (by kernel_rfl) (fun a60 h60 => ?_); clear h59
      refine pl_val (v := .bool false) h60 rfl rfl rfl (by kernel_rfl) (by kernel_rfl) (by kernel_rfl) (fun a61 h61 => ?_); clear h60
      refine pl_nil ?_
      refine co_then ?_
      refine wp_ret ?_
      refine co_ret1 h61 rfl rfl ?_
      exact ⟨ret_bool (sameB_n (fun hq => by omega)), hB18⟩
    ·
      rw [hc53] at h52
      have hp62 : r = r2 := by first | simpa using hc53 | simpa [and_assoc] using hc53
      clear hc53
      refine pl_val (v := .pointer (some ⟨N3, 2, none⟩)) h52 rfl rfl rfl (by kernel_rfl) (by kernel_rfl) (by kernel_rfl) (fun a63 h63 => ?_); clear h52
      refine pl_val (v := v) h63 rfl rfl rfl (by kernel_rfl) (by kernel_rfl) (rn_load1 rfl rfl Try.isAgg23 (hk21.cell rfl)) (fun a64 h64 => ?_); clear h63
      refine pl_val (v := .pointer (some ⟨N13, 2, none⟩)) h64 rfl rfl rfl (by kernel_rfl) (by kernel_rfl) (by kernel_rfl) (fun a65 h65 => ?_); clear h64
      refine pl_val (v := v2) h65 rfl rfl rfl (by kernel_rfl) (by kernel_rfl) (rn_load1 rfl rfl Try.isAgg23 (hk15.cell rfl)) (fun a66 h66 => ?_); clear h65
      refine pl_want h66 rfl rfl rfl (op_call (args := #[v, v2]) (R := fun res xw => res = .bool (sameL l l2) ∧ Below w12.heap.size w12 xw) rfl rfl rfl (by kernel_rfl) (by kernel_rfl) (Try.call111 _ _) (equalOp_any v l v2 l2 w12 (hs.below hB18) (hs2.below hB18)) (by rintro e x ⟨rfl, hb69⟩; exact ⟨_, rfl, ⟨rfl, hb69⟩⟩)) ?_; clear h66
      rintro _ w68 a67 ⟨rfl, hb69⟩ h67
      have hB70 := hb_call hB18 hb69
      have hz71 := hB70.size
      have hz72 := hb69.size
      have hk73 := hk21.below hb69
      have hk74 := hk15.below hb69
      refine pl_val (v := .bool (sameL l l2)) h67 rfl rfl rfl (by kernel_rfl) (by kernel_rfl) (by kernel_rfl) (fun a75 h75 => ?_); clear h67
      refine pl_val (v := .bool (sameL l l2)) h75 rfl rfl rfl (by kernel_rfl) (by kernel_rfl) (by kernel_rfl) (fun a76 h76 => ?_); clear h75
      refine pl_nil ?_
      refine co_then ?_
      refine wp_ret ?_
      refine co_ret1 h76 rfl rfl ?_
      exact ⟨ret_bool (sameB_y (by omega) (by omega)), hB70⟩
set_option maxRecDepth 100000 in
theorem ropsSame_any (c : Int) (r : Int) (v : Value) (l : List OpT) (c2 : Int) (r2 : Int) (v2 : Value) (l2 : List OpT) (w : World) (hs : SliceOf opE 3 w v l) (hs2 : SliceOf opE 3 w v2 l2) :
    Calls Try.prog 66 #[.agg #[.int .i64 c, .int .i64 r, v], .agg #[.int .i64 c2, .int .i64 r2, v2]] w fun e w' => e = .returned (.bool (sameB c r l c2 r2 l2)) ∧ Below w.heap.size w w' := by
  have hB0 := Below.refl w.heap.size w
  have hl_hs := sl_len hs
  have hl_hs2 := sl_len hs2
  refine co_enter (n := 24) Try.func66 rfl rfl rfl [(0, .agg #[.int .i64 c, .int .i64 r, v]), (1, .agg #[.int .i64 c2, .int .i64 r2, v2])] rfl (fun a h0 => ?_)
  refine co_seq ?_
  refine co_reg ?_
  refine pl_want h0 rfl rfl rfl (op_new (v := fun N => .pointer (some ⟨N, 0, none⟩)) (T := 31) (cs := #[.int .i64 c, .int .i64 r, v]) (by kernel_rfl) (by kernel_rfl) (by kernel_rfl)) ?_; clear h0
  rintro _ w2 a1 ⟨N3, rfl, hN6, hz7, hk5, hg4⟩ h1
  have hB8 := hb_new hB0 hg4
  have hz9 := hB8.size
  have hz10 := hg4.size
  try dsimp only at h1
  refine pl_want h1 rfl rfl rfl (op_new (v := fun N => .pointer (some ⟨N, 0, none⟩)) (T := 31) (cs := #[.int .i64 c2, .int .i64 r2, v2]) (by kernel_rfl) (by kernel_rfl) (by kernel_rfl)) ?_; clear h1
  rintro _ w12 a11 ⟨N13, rfl, hN16, hz17, hk15, hg14⟩ h11
  have hB18 := hb_new hB8 hg14
  have hz19 := hB18.size
  have hz20 := hg14.size
  have hk21 := hk5.kept hg14 (by simp)
  try dsimp only at h11
  refine pl_val (v := .bool false) h11 rfl rfl rfl (by kernel_rfl) (by kernel_rfl) (by kernel_rfl) (fun a22 h22 => ?_); clear h11
  refine pl_nil ?_
  refine co_then ?_
  refine co_seq ?_
  refine co_reg ?_
  refine pl_val (v := .pointer (some ⟨N3, 0, none⟩)) h22 rfl rfl rfl (by kernel_rfl) (by kernel_rfl) (by kernel_rfl) (fun a23 h23 => ?_); clear h22
  refine pl_val (v := .int .i64 c) h23 rfl rfl rfl (by kernel_rfl) (by kernel_rfl) (rn_load1 rfl rfl Try.isAgg3 (hk21.cell rfl)) (fun a24 h24 => ?_); clear h23
  refine pl_val (v := .pointer (some ⟨N13, 0, none⟩)) h24 rfl rfl rfl (by kernel_rfl) (by kernel_rfl) (by kernel_rfl) (fun a25 h25 => ?_); clear h24
  refine pl_val (v := .int .i64 c2) h25 rfl rfl rfl (by kernel_rfl) (by kernel_rfl) (rn_load1 rfl rfl Try.isAgg3 (hk15.cell rfl)) (fun a26 h26 => ?_); clear h25
  refine pl_val (v := .bool (c == c2)) h26 rfl rfl rfl (by kernel_rfl) (by kernel_rfl) (by kernel_rfl) (fun a27 h27 => ?_); clear h26
  refine pl_val (v := .bool (c == c2)) h27 rfl rfl rfl (by kernel_rfl) (by kernel_rfl) (by kernel_rfl) (fun a28 h28 => ?_); clear h27
  cases hc29 : (c == c2)
  ·
    rw [hc29] at h28
    have hp30 : ¬ (c = c2) := by first | simpa using hc29 | simpa [and_assoc] using hc29
    clear hc29
    refine pl_skip h28 rfl rfl rfl (fun a31 h31 => ?_); clear h28
    refine pl_skip h31 rfl rfl rfl (fun a32 h32 => ?_); clear h31
    refine pl_skip h32 rfl rfl rfl (fun a33 h33 => ?_); clear h32
    refine pl_skip h33 rfl rfl rfl (fun a34 h34 => ?_); clear h33
    refine pl_skip h34 rfl rfl rfl (fun a35 h35 => ?_); clear h34
    refine pl_val (v := .bool false) h35 rfl rfl rfl (by kernel_rfl) (by kernel_rfl) (by kernel_rfl) (fun a36 h36 => ?_); clear h35
    refine pl_val (v := .bool false) h36 rfl rfl rfl (by kernel_rfl) (by kernel_rfl) (by kernel_rfl) (fun a37 h37 => ?_); clear h36
    refine pl_skip h37 rfl rfl rfl (fun a38 h38 => ?_); clear h37
    refine pl_skip h38 rfl rfl rfl (fun a39 h39 => ?_); clear h38
    refine pl_skip h39 rfl rfl rfl (fun a40 h40 => ?_); clear h39
    refine pl_skip h40 rfl rfl rfl (fun a41 h41 => ?_); clear h40
    refine pl_skip h41 rfl rfl rfl (fun a42 h42 => ?_); clear h41
    refine pl_val (v := .bool false) h42 rfl rfl rfl (by kernel_rfl) (by kernel_rfl) (by kernel_rfl) (fun a43 h43 => ?_); clear h42
    refine pl_val (v := .bool false) h43 rfl rfl rfl (by kernel_rfl) (by kernel_rfl) (by kernel_rfl) (fun a44 h44 => ?_); clear h43
    refine pl_nil ?_
    refine co_then ?_
    refine wp_ret ?_
    refine co_ret1 h44 rfl rfl ?_
    exact ⟨ret_bool (sameB_n (fun hq => by omega)), hB18⟩
  ·
    rw [hc29] at h28
    have hp45 : c = c2 := by first | simpa using hc29 | simpa [and_assoc] using hc29
    clear hc29
    refine pl_val (v := .pointer (some ⟨N3, 1, none⟩)) h28 rfl rfl rfl (by kernel_rfl) (by kernel_rfl) (by kernel_rfl) (fun a46 h46 => ?_); clear h28
    refine pl_val (v := .int .i64 r) h46 rfl rfl rfl (by kernel_rfl) (by kernel_rfl) (rn_load1 rfl rfl Try.isAgg3 (hk21.cell rfl)) (fun a47 h47 => ?_); clear h46
    refine pl_val (v := .pointer (some ⟨N13, 1, none⟩)) h47 rfl rfl rfl (by kernel_rfl) (by kernel_rfl) (by kernel_rfl) (fun a48 h48 => ?_); clear h47
    refine pl_val (v := .int .i64 r2) h48 rfl rfl rfl (by kernel_rfl) (by kernel_rfl) (rn_load1 rfl rfl Try.isAgg3 (hk15.cell rfl)) (fun a49 h49 => ?_); clear h48
    refine pl_val (v := .bool (r == r2)) h49 rfl rfl rfl (by kernel_rfl) (by kernel_rfl) (by kernel_rfl) (fun a50 h50 => ?_); clear h49
    refine pl_val (v := .bool (r == r2)) h50 rfl rfl rfl (by kernel_rfl) (by kernel_rfl) (by kernel_rfl) (fun a51 h51 => ?_); clear h50
    refine pl_val (v := .bool (r == r2)) h51 rfl rfl rfl (by kernel_rfl) (by kernel_rfl) (by kernel_rfl) (fun a52 h52 => ?_); clear h51
    cases hc53 : (r == r2)
    ·
      rw [hc53] at h52
      have hp54 : ¬ (r = r2) := by first | simpa using hc53 | simpa [and_assoc] using hc53
      clear hc53
      refine pl_skip h52 rfl rfl rfl (fun a55 h55 => ?_); clear h52
      refine pl_skip h55 rfl rfl rfl (fun a56 h56 => ?_); clear h55
      refine pl_skip h56 rfl rfl rfl (fun a57 h57 => ?_); clear h56
      refine pl_skip h57 rfl rfl rfl (fun a58 h58 => ?_); clear h57
      refine pl_skip h58 rfl rfl rfl (fun a59 h59 => ?_); clear h58
      refine pl_val (v := .bool false) h59 rfl rfl rfl (by kernel_rfl) (by kernel_rfl) (by kernel_rfl) (fun a60 h60 => ?_); clear h59
      refine pl_val (v := .bool false) h60 rfl rfl rfl (by kernel_rfl) (by kernel_rfl) (by kernel_rfl) (fun a61 h61 => ?_); clear h60
      refine pl_nil ?_
      refine co_then ?_
      refine wp_ret ?_
      refine co_ret1 h61 rfl rfl ?_
      exact ⟨ret_bool (sameB_n (fun hq => by omega)), hB18⟩
    ·
      rw [hc53] at h52
      have hp62 : r = r2 := by first | simpa using hc53 | simpa [and_assoc] using hc53
      clear hc53
      refine pl_val (v := .pointer (some ⟨N3, 2, none⟩)) h52 rfl rfl rfl (by kernel_rfl) (by kernel_rfl) (by kernel_rfl) (fun a63 h63 => ?_); clear h52
      refine pl_val (v := v) h63 rfl rfl rfl (by kernel_rfl) (by kernel_rfl) (rn_load1 rfl rfl Try.isAgg23 (hk21.cell rfl)) (fun a64 h64 => ?_); clear h63
      refine pl_val (v := .pointer (some ⟨N13, 2, none⟩)) h64 rfl rfl rfl (by kernel_rfl) (by kernel_rfl) (by kernel_rfl) (fun a65 h65 => ?_); clear h64
      refine pl_val (v := v2) h65 rfl rfl rfl (by kernel_rfl) (by kernel_rfl) (rn_load1 rfl rfl Try.isAgg23 (hk15.cell rfl)) (fun a66 h66 => ?_); clear h65
      refine pl_want h66 rfl rfl rfl (op_call (args := #[v, v2]) (R := fun res xw => res = .bool (sameL l l2) ∧ Below w12.heap.size w12 xw) rfl rfl rfl (by kernel_rfl) (by kernel_rfl) (Try.call13 _ _) (rsameOps_any v l v2 l2 w12 (hs.below hB18) (hs2.below hB18)) (by rintro e x ⟨rfl, hb69⟩; exact ⟨_, rfl, ⟨rfl, hb69⟩⟩)) ?_; clear h66
      rintro _ w68 a67 ⟨rfl, hb69⟩ h67
      have hB70 := hb_call hB18 hb69
      have hz71 := hB70.size
      have hz72 := hb69.size
      have hk73 := hk21.below hb69
      have hk74 := hk15.below hb69
      refine pl_val (v := .bool (sameL l l2)) h67 rfl rfl rfl (by kernel_rfl) (by kernel_rfl) (by kernel_rfl) (fun a75 h75 => ?_); clear h67
      refine pl_val (v := .bool (sameL l l2)) h75 rfl rfl rfl (by kernel_rfl) (by kernel_rfl) (by kernel_rfl) (fun a76 h76 => ?_); clear h75
      refine pl_nil ?_
      refine co_then ?_
      refine wp_ret ?_
      refine co_ret1 h76 rfl rfl ?_
      exact ⟨ret_bool (sameB_y (by omega) (by omega)), hB70⟩
set_option maxRecDepth 100000 in
theorem opsPut_any (c : Int) (r : Int) (v : Value) (l : List OpT) (w : World) (hs : SliceOf opE 3 w v l) :
    Calls Try.prog 49 #[.agg #[.int .i64 c, .int .i64 r, v]] w fun e w' => e = .returned (.tuple #[.string (putB c r l), .int .i64 (chkB c r l)]) ∧ Below w.heap.size w w' := by
  have hcb : chkB c r l = 0 → ((0 ≤ c ∧ c < 3) ∧ (1 ≤ r ∧ r ≤ 1073741824) ∧ l.length ≤ 4) := fun h => ⟨(chkB_ok h).1, (chkB_ok h).2.1, (chkB_ok h).2.2.1⟩
  have hB0 := Below.refl w.heap.size w
  have hl_hs := sl_len hs
  refine co_enter (n := 46) Try.func49 rfl rfl rfl [(0, .agg #[.int .i64 c, .int .i64 r, v])] rfl (fun a h0 => ?_)
  refine co_seq ?_
  refine co_reg ?_
  refine pl_want h0 rfl rfl rfl (op_new (v := fun N => .pointer (some ⟨N, 0, none⟩)) (T := 31) (cs := #[.int .i64 c, .int .i64 r, v]) (by kernel_rfl) (by kernel_rfl) (by kernel_rfl)) ?_; clear h0
  rintro _ w2 a1 ⟨N3, rfl, hN6, hz7, hk5, hg4⟩ h1
  have hB8 := hb_new hB0 hg4
  have hz9 := hB8.size
  have hz10 := hg4.size
  try dsimp only at h1
  refine pl_val (v := .string (⟨#[]⟩)) h1 rfl rfl rfl (by kernel_rfl) (by kernel_rfl) (by kernel_rfl) (fun a11 h11 => ?_); clear h1
  refine pl_val (v := .int .i64 0) h11 rfl rfl rfl (by kernel_rfl) (by kernel_rfl) (by kernel_rfl) (fun a12 h12 => ?_); clear h11
  refine pl_nil ?_
  refine co_then ?_
  refine co_seq ?_
  refine co_seq ?_
  refine co_reg ?_
  refine pl_val (v := .agg #[.int .i64 c, .int .i64 r, v]) h12 rfl rfl rfl (by kernel_rfl) (by kernel_rfl) (rn_loadN rfl rfl Try.underlying31 rfl (by kernel_rfl) hk5.all) (fun a13 h13 => ?_); clear h12
  refine pl_want h13 rfl rfl rfl (op_call (args := #[.agg #[.int .i64 c, .int .i64 r, v]]) (R := fun res xw => res = .int .i64 (chkB c r l) ∧ Below w2.heap.size w2 xw) rfl rfl rfl (by kernel_rfl) (by kernel_rfl) (Try.call63 _ _) (opsCheck_any c r v l w2 (hs.below hB8)) (by rintro e x ⟨rfl, hb16⟩; exact ⟨_, rfl, ⟨rfl, hb16⟩⟩)) ?_; clear h13
  rintro _ w15 a14 ⟨rfl, hb16⟩ h14
  have hB17 := hb_call hB8 hb16
  have hz18 := hB17.size
  have hz19 := hb16.size
  have hk20 := hk5.below hb16
  refine pl_val (v := .int .i64 (chkB c r l)) h14 rfl rfl rfl (by kernel_rfl) (by kernel_rfl) (by kernel_rfl) (fun a21 h21 => ?_); clear h14
  refine pl_nil ?_
  refine co_then ?_
  refine co_seq ?_
  refine co_reg ?_
  refine pl_val (v := .int .i64 (chkB c r l)) h21 rfl rfl rfl (by kernel_rfl) (by kernel_rfl) (by kernel_rfl) (fun a22 h22 => ?_); clear h21
  refine pl_val (v := .bool (chkB c r l != 0)) h22 rfl rfl rfl (by kernel_rfl) (by kernel_rfl) (by kernel_rfl) (fun a23 h23 => ?_); clear h22
  refine pl_nil ?_
  refine co_then ?_
  cases hc24 : (chkB c r l != 0)
  ·
    rw [hc24] at h23
    have hp25 : ¬ (chkB c r l ≠ 0) := by first | simpa using hc24 | simpa [and_assoc] using hc24
    clear hc24
    refine co_false h23 rfl ?_
    refine wp_skip ?_
    refine co_then ?_
    refine co_seq ?_
    refine dr_gen (fun x => Below w.heap.size w x ∧ Blk x N3 31 #[.int .i64 c, .int .i64 r, v]) (by kernel_rfl) (fun w26 hg27 => ?_) (fun w26 hg27 => ?_)
    ·
      have hB28 := hb_new hB17 hg27
      have hz29 := hB28.size
      have hz30 := hg27.size
      have hk31 := hk20.kept hg27 (by simp)
      exact ⟨hB28, hk31⟩
    have hB32 := hb_new hB17 hg27
    have hz33 := hB32.size
    have hz34 := hg27.size
    have hk35 := hk20.kept hg27 (by simp)
    refine dr_take (i := 1) (v := .pointer (some ⟨N3, 0, none⟩)) h23 rfl (by kernel_rfl) (by kernel_rfl) (by kernel_rfl) rfl rfl rfl ⟨hB32, hk35⟩ (by kernel_rfl) (fun _ _ => by kernel_rfl) (fun a36 h36 => ?_); clear h23
    refine dr_take (i := 2) (v := .int .i64 c) h36 rfl (by kernel_rfl) (by kernel_rfl) (by kernel_rfl) rfl rfl rfl ⟨hB32, hk35⟩ (by kernel_rfl) (fun x hx => (rn_load1 rfl rfl Try.isAgg3 (hx.2.cell rfl))) (fun a37 h37 => ?_); clear h36
    refine dr_take (i := 4) (v := .pointer (some ⟨N3, 1, none⟩)) h37 rfl (by kernel_rfl) (by kernel_rfl) (by kernel_rfl) rfl rfl rfl ⟨hB32, hk35⟩ (by kernel_rfl) (fun _ _ => by kernel_rfl) (fun a38 h38 => ?_); clear h37
    refine dr_take (i := 5) (v := .int .i64 r) h38 rfl (by kernel_rfl) (by kernel_rfl) (by kernel_rfl) rfl rfl rfl ⟨hB32, hk35⟩ (by kernel_rfl) (fun x hx => (rn_load1 rfl rfl Try.isAgg3 (hx.2.cell rfl))) (fun a39 h39 => ?_); clear h38
    refine dr_take (i := 7) (v := .pointer (some ⟨N3, 2, none⟩)) h39 rfl (by kernel_rfl) (by kernel_rfl) (by kernel_rfl) rfl rfl rfl ⟨hB32, hk35⟩ (by kernel_rfl) (fun _ _ => by kernel_rfl) (fun a40 h40 => ?_); clear h39
    refine dr_take (i := 8) (v := v) h40 rfl (by kernel_rfl) (by kernel_rfl) (by kernel_rfl) rfl rfl rfl ⟨hB32, hk35⟩ (by kernel_rfl) (fun x hx => (rn_load1 rfl rfl Try.isAgg23 (hx.2.cell rfl))) (fun a41 h41 => ?_); clear h40
    refine dr_take (i := 9) (v := .int .i64 ((l.length : Nat) : Int)) h41 rfl (by kernel_rfl) (by kernel_rfl) (by kernel_rfl) rfl rfl rfl ⟨hB32, hk35⟩ (by kernel_rfl) (fun x hx => (rn_len rfl rfl Try.underlying23 (hs.below hx.1))) (fun a42 h42 => ?_); clear h41
    refine dr_one (i := 0) h42 rfl (by kernel_rfl) rfl rfl rfl (op_call (args := #[]) (R := fun res xw => ∃ b : Nat, res = .pointer (some ⟨b, 0, none⟩) ∧ b = w26.heap.size ∧ OW b [] 0 xw ∧ Below w26.heap.size w26 xw) rfl rfl rfl (by kernel_rfl) (by kernel_rfl) (Try.call55 _ _) (ow_new w26) (by rintro e x ⟨b, rfl, h0, h1, h2⟩; exact ⟨_, rfl, b, rfl, h0, h1, h2⟩)) ?_ ?_; clear h42
    ·
      rintro _ w44 ⟨b45, rfl, hN46, ho47, hb48⟩
      have hB49 := hb_call hB32 hb48
      have hz50 := hB49.size
      have hz51 := hb48.size
      have hk52 := hk35.below hb48
      have hl53 := ho47.lt
      exact ⟨hB49, hk52⟩
    rintro _ w44 a43 ⟨b45, rfl, hN46, ho47, hb48⟩ h43
    have hB49 := hb_call hB32 hb48
    have hz50 := hB49.size
    have hz51 := hb48.size
    have hk52 := hk35.below hb48
    have hl53 := ho47.lt
    refine dr_one (i := 3) h43 rfl (by kernel_rfl) rfl rfl rfl (op_call (args := #[.pointer (some ⟨b45, 0, none⟩), .int .i64 c]) (R := fun res xw => res = .pointer (some ⟨b45, 0, none⟩) ∧ OW b45 (([] : List UInt8) ++ putL c) (0 + 9) xw ∧ But (Rw w44 b45) w44 xw) rfl rfl rfl (by kernel_rfl) (by kernel_rfl) (Try.call78 _ _) (ow_num b45 ([]) 0 c w44 ho47 (by omega) (by omega) (by omega)) (by rintro e x ⟨rfl, h1, h2⟩; exact ⟨_, rfl, rfl, h1, h2⟩)) ?_ ?_; clear h43
    ·
      rintro _ w55 ⟨rfl, ho56, hx57⟩
      have hB58 := hb_wr hB49 ho47 (by omega) hx57
      have hz59 := hB58.size
      have hz60 := hx57.size
      have hk61 := blk_wr hk52 ho47 (by decide) (by omega) hx57
      have hl62 := ho56.lt
      exact ⟨hB58, hk61⟩
    rintro _ w55 a54 ⟨rfl, ho56, hx57⟩ h54
    have hB58 := hb_wr hB49 ho47 (by omega) hx57
    have hz59 := hB58.size
    have hz60 := hx57.size
    have hk61 := blk_wr hk52 ho47 (by decide) (by omega) hx57
    have hl62 := ho56.lt
    refine dr_one (i := 6) h54 rfl (by kernel_rfl) rfl rfl rfl (op_call (args := #[.pointer (some ⟨b45, 0, none⟩), .int .i64 r]) (R := fun res xw => res = .pointer (some ⟨b45, 0, none⟩) ∧ OW b45 ((([] : List UInt8) ++ putL c) ++ putL r) (0 + 9 + 9) xw ∧ But (Rw w55 b45) w55 xw) rfl rfl rfl (by kernel_rfl) (by kernel_rfl) (Try.call78 _ _) (ow_num b45 (([] : List UInt8) ++ putL c) (0 + 9) r w55 ho56 (by omega) (by omega) (by omega)) (by rintro e x ⟨rfl, h1, h2⟩; exact ⟨_, rfl, rfl, h1, h2⟩)) ?_ ?_; clear h54
    ·
      rintro _ w64 ⟨rfl, ho65, hx66⟩
      have hB67 := hb_wr hB58 ho56 (by omega) hx66
      have hz68 := hB67.size
      have hz69 := hx66.size
      have hk70 := blk_wr hk61 ho56 (by decide) (by omega) hx66
      have hl71 := ho65.lt
      exact ⟨hB67, hk70⟩
    rintro _ w64 a63 ⟨rfl, ho65, hx66⟩ h63
    have hB67 := hb_wr hB58 ho56 (by omega) hx66
    have hz68 := hB67.size
    have hz69 := hx66.size
    have hk70 := blk_wr hk61 ho56 (by decide) (by omega) hx66
    have hl71 := ho65.lt
    refine dr_one (i := 10) h63 rfl (by kernel_rfl) rfl rfl rfl (op_call (args := #[.pointer (some ⟨b45, 0, none⟩), .int .i64 ((l.length : Nat) : Int)]) (R := fun res xw => res = .pointer (some ⟨b45, 0, none⟩) ∧ OW b45 (((([] : List UInt8) ++ putL c) ++ putL r) ++ putL ((l.length : Nat) : Int)) (0 + 9 + 9 + 9) xw ∧ But (Rw w64 b45) w64 xw) rfl rfl rfl (by kernel_rfl) (by kernel_rfl) (Try.call78 _ _) (ow_num b45 ((([] : List UInt8) ++ putL c) ++ putL r) (0 + 9 + 9) ((l.length : Nat) : Int) w64 ho65 (by omega) (by omega) (by omega)) (by rintro e x ⟨rfl, h1, h2⟩; exact ⟨_, rfl, rfl, h1, h2⟩)) ?_ ?_; clear h63
    ·
      rintro _ w73 ⟨rfl, ho74, hx75⟩
      have hB76 := hb_wr hB67 ho65 (by omega) hx75
      have hz77 := hB76.size
      have hz78 := hx75.size
      have hk79 := blk_wr hk70 ho65 (by decide) (by omega) hx75
      have hl80 := ho74.lt
      exact ⟨hB76, hk79⟩
    rintro _ w73 a72 ⟨rfl, ho74, hx75⟩ h72
    have hB76 := hb_wr hB67 ho65 (by omega) hx75
    have hz77 := hB76.size
    have hz78 := hx75.size
    have hk79 := blk_wr hk70 ho65 (by decide) (by omega) hx75
    have hl80 := ho74.lt
    refine dr_take (i := 11) (v := .pointer (some ⟨b45, 0, none⟩)) h72 rfl (by kernel_rfl) (by kernel_rfl) (by kernel_rfl) rfl rfl rfl ⟨hB76, hk79⟩ (by kernel_rfl) (fun _ _ => by kernel_rfl) (fun a81 h81 => ?_); clear h72
    refine dr_done (by kernel_rfl) ?_
    refine co_then ?_
    refine co_seq ?_
    refine co_seq ?_
    refine co_reg ?_
    refine pl_val (v := .pointer (some ⟨N3, 2, none⟩)) h81 rfl rfl rfl (by kernel_rfl) (by kernel_rfl) (by kernel_rfl) (fun a82 h82 => ?_); clear h81
    refine pl_val (v := v) h82 rfl rfl rfl (by kernel_rfl) (by kernel_rfl) (rn_load1 rfl rfl Try.isAgg23 (hk79.cell rfl)) (fun a83 h83 => ?_); clear h82
    refine pl_val (v := .int .i64 ((l.length : Nat) : Int)) h83 rfl rfl rfl (by kernel_rfl) (by kernel_rfl) (rn_len rfl rfl Try.underlying23 (hs.below hB76)) (fun a84 h84 => ?_); clear h83
    refine pl_val (v := .int .i64 0) h84 rfl rfl rfl (by kernel_rfl) (by kernel_rfl) (by kernel_rfl) (fun a85 h85 => ?_); clear h84
    refine pl_nil ?_
    refine co_then ?_
    refine wp_block ?_
    have hck := chkB_all (c := c) (r := r) (l := l) (by omega)
    have h86 : Slots 46 [(1, .pointer (some ⟨N3, 0, none⟩)), (2, .string (⟨#[]⟩)), (3, .int .i64 0), (5, .pointer (some ⟨b45, 0, none⟩)), (25, v), (26, .int .i64 ((l.length : Nat) : Int)), (27, .int .i64 0)] _ := h85.sub ⟨rfl, rfl, rfl, rfl, rfl, rfl, rfl, trivial⟩; clear h85
    refine co_loop (fun mm a x => ∃ (i : Nat), Slots 46 [(1, .pointer (some ⟨N3, 0, none⟩)), (2, .string (⟨#[]⟩)), (3, .int .i64 0), (5, .pointer (some ⟨b45, 0, none⟩)), (25, v), (26, .int .i64 ((l.length : Nat) : Int)), (27, .int .i64 ((i : Nat) : Int))] a ∧ mm = l.length - i ∧ (i ≤ l.length) ∧ OW b45 (putH c r l ++ putOs (l.take i)) (27 + i * 35) x ∧ Below w.heap.size w x ∧ Blk x N3 31 #[.int .i64 c, .int .i64 r, v]) (l.length - 0) ?_ ?_
    · exact ⟨0, h86.sub ⟨rfl, rfl, rfl, rfl, rfl, rfl, (slot_eq rfl (congrArg (Value.int .i64) (by first | rfl | omega))), trivial⟩, rfl, by omega, (ho74.eq (by first | (simp [putH, putOs]; done) | (rw [takeO_at (by assumption)]; simp [putH, putOs, putO1])) (by first | omega | (simp; done) | (simp; omega))), hB76, hk79⟩
    · rintro k87 a88 w89 ⟨i, h88, rfl, hi90, hf91, hB92, hk93⟩
      have hz94 := hB92.size
      have hl95 := hk93.lt
      have hl96 := hf91.lt
      refine co_seq ?_
      refine co_reg ?_
      refine pl_val (v := .bool (decide (((i : Nat) : Int) < ((l.length : Nat) : Int)))) h88 rfl rfl rfl (by kernel_rfl) (by kernel_rfl) (by kernel_rfl) (fun a97 h97 => ?_); clear h88
      refine pl_nil ?_
      refine co_then ?_
      refine co_seq ?_
      cases hc98 : (decide (((i : Nat) : Int) < ((l.length : Nat) : Int)))
      ·
        rw [hc98] at h97
        have hp99 : ¬ (((i : Nat) : Int) < ((l.length : Nat) : Int)) := of_decide_eq_false hc98
        clear hc98
        refine co_false h97 rfl ?_
        refine wp_exit ?_
        refine co_thenX ?_
        refine co_thenX ?_
        refine co_blockX ?_
        refine co_then ?_
        refine co_seq ?_
        refine co_reg ?_
        refine pl_val (v := .pointer (some ⟨b45, 0, none⟩)) h97 rfl rfl rfl (by kernel_rfl) (by kernel_rfl) (by kernel_rfl) (fun a100 h100 => ?_); clear h97
        refine pl_want h100 rfl rfl rfl (op_call (args := #[.pointer (some ⟨b45, 0, none⟩)]) (R := fun res xw => res = .tuple #[.string (⟨(putH c r l ++ putOs (l.take i)).toArray⟩), .int .i64 0] ∧ Below w89.heap.size w89 xw) rfl rfl rfl (by kernel_rfl) (by kernel_rfl) (Try.call58 _ _) (ow_done b45 (putH c r l ++ putOs (l.take i)) (27 + i * 35) w89 hf91) (by rintro e x ⟨rfl, h2⟩; exact ⟨_, rfl, rfl, h2⟩)) ?_; clear h100
        rintro _ w102 a101 ⟨rfl, hb103⟩ h101
        have hB104 := hb_call hB92 hb103
        have hz105 := hB104.size
        have hz106 := hb103.size
        have hk107 := hk93.below hb103
        have ho108 := hf91.below hb103
        refine pl_val (v := .string (⟨(putH c r l ++ putOs (l.take i)).toArray⟩)) h101 rfl rfl rfl (by kernel_rfl) (by kernel_rfl) (by kernel_rfl) (fun a109 h109 => ?_); clear h101
        refine pl_val (v := .int .i64 0) h109 rfl rfl rfl (by kernel_rfl) (by kernel_rfl) (by kernel_rfl) (fun a110 h110 => ?_); clear h109
        refine pl_val (v := .string (⟨(putH c r l ++ putOs (l.take i)).toArray⟩)) h110 rfl rfl rfl (by kernel_rfl) (by kernel_rfl) (by kernel_rfl) (fun a111 h111 => ?_); clear h110
        refine pl_val (v := .int .i64 0) h111 rfl rfl rfl (by kernel_rfl) (by kernel_rfl) (by kernel_rfl) (fun a112 h112 => ?_); clear h111
        refine pl_nil ?_
        refine co_then ?_
        refine wp_ret ?_
        refine co_ret2 h112 rfl rfl rfl ?_
        exact ⟨by rw [putB_ok (by omega), show chkB c r l = 0 by omega, List.take_of_length_le (show l.length ≤ i by omega)], hB104⟩
      ·
        rw [hc98] at h97
        have hp113 : ((i : Nat) : Int) < ((l.length : Nat) : Int) := of_decide_eq_true hc98
        clear hc98
        refine co_true h97 rfl ?_
        refine wp_skip ?_
        refine co_then ?_
        refine co_seq ?_
        refine wp_block ?_
        refine co_seq ?_
        refine co_reg ?_
        obtain ⟨y114, hy114⟩ : ∃ z, l[i]? = some z := ⟨_, List.getElem?_eq_getElem (by first | omega | (simp; done) | (simp; omega))⟩
        have oky114 := hck _ (List.mem_of_getElem? hy114)
        have k115 : y114.1.size ≤ 8 := oky114.1.2
        have k116 : y114.2.1.size ≤ 8 := oky114.2.1
        refine pl_val (v := .pointer (some ⟨(blkOf v), offOf v + i * 3, none⟩)) h97 rfl rfl rfl (by kernel_rfl) (by kernel_rfl) (rn_index rfl rfl rfl Try.underlying23 Try.sizeOf86 (hs.below hB92) (by omega) (by first | omega | (simp; done) | (simp; omega))) (fun a117 h117 => ?_); clear h97
        refine pl_val (v := .agg #[.string y114.1, .string y114.2.1, .bool y114.2.2]) h117 rfl rfl rfl (by kernel_rfl) (by kernel_rfl) (rn_loadN rfl rfl Try.underlying86 rfl (by kernel_rfl) (sl_at (hs.below hB92) hy114)) (fun a118 h118 => ?_); clear h117
        refine pl_want h118 rfl rfl rfl (op_new (v := fun N => .pointer (some ⟨N, 0, none⟩)) (T := 86) (cs := #[.string (⟨#[]⟩), .string (⟨#[]⟩), .bool false]) (by kernel_rfl) (by kernel_rfl) (by kernel_rfl)) ?_; clear h118
        rintro _ w120 a119 ⟨N121, rfl, hN124, hz125, hk123, hg122⟩ h119
        have hB126 := hb_new hB92 hg122
        have hz127 := hB126.size
        have hz128 := hg122.size
        have hk129 := hk93.kept hg122 (by simp)
        have ho130 := hf91.new hg122
        try dsimp only at h119
        refine pl_doW h119 rfl rfl (op_storeN rfl rfl rfl (by kernel_rfl) (by kernel_rfl) hk123 rfl) ?_; clear h119
        rintro _ w132 a131 ⟨hk133, hz134, hg135⟩ h131
        have hk133' : Blk w132 N121 86 #[.string y114.1, .string y114.2.1, .bool y114.2.2] := hk133; clear hk133
        have hB136 := hb_at hB126 hg135 (by omega)
        have hz137 := hB136.size
        have hz138 := hg135.size
        have hk139 := hk129.kept hg135 (by simp; omega)
        have ho140 := ho130.at hk123 (by decide) (by omega) hg135
        refine pl_nil ?_
        refine co_then ?_
        refine dr_gen (fun x => Below w.heap.size w x ∧ Blk x N121 86 #[.string y114.1, .string y114.2.1, .bool y114.2.2]) (by kernel_rfl) (fun w141 hg142 => ?_) (fun w141 hg142 => ?_)
        ·
          have hB143 := hb_new hB136 hg142
          have hz144 := hB143.size
          have hz145 := hg142.size
          have hk146 := hk139.kept hg142 (by simp)
          have ho147 := ho140.new hg142
          have hk148 := hk133'.kept hg142 (by simp)
          exact ⟨hB143, hk148⟩
        have hB149 := hb_new hB136 hg142
        have hz150 := hB149.size
        have hz151 := hg142.size
        have hk152 := hk139.kept hg142 (by simp)
        have ho153 := ho140.new hg142
        have hk154 := hk133'.kept hg142 (by simp)
        refine dr_take (i := 0) (v := .pointer (some ⟨b45, 0, none⟩)) h131 rfl (by kernel_rfl) (by kernel_rfl) (by kernel_rfl) rfl rfl rfl ⟨hB149, hk154⟩ (by kernel_rfl) (fun _ _ => by kernel_rfl) (fun a155 h155 => ?_); clear h131
        refine dr_take (i := 1) (v := .pointer (some ⟨N121, 0, none⟩)) h155 rfl (by kernel_rfl) (by kernel_rfl) (by kernel_rfl) rfl rfl rfl ⟨hB149, hk154⟩ (by kernel_rfl) (fun _ _ => by kernel_rfl) (fun a156 h156 => ?_); clear h155
        refine dr_take (i := 2) (v := .string y114.1) h156 rfl (by kernel_rfl) (by kernel_rfl) (by kernel_rfl) rfl rfl rfl ⟨hB149, hk154⟩ (by kernel_rfl) (fun x hx => (rn_load1 rfl rfl Try.isAgg9 (hx.2.cell rfl))) (fun a157 h157 => ?_); clear h156
        refine dr_take (i := 4) (v := .pointer (some ⟨N121, 2, none⟩)) h157 rfl (by kernel_rfl) (by kernel_rfl) (by kernel_rfl) rfl rfl rfl ⟨hB149, hk154⟩ (by kernel_rfl) (fun _ _ => by kernel_rfl) (fun a158 h158 => ?_); clear h157
        refine dr_take (i := 5) (v := .bool y114.2.2) h158 rfl (by kernel_rfl) (by kernel_rfl) (by kernel_rfl) rfl rfl rfl ⟨hB149, hk154⟩ (by kernel_rfl) (fun x hx => (rn_load1 rfl rfl Try.isAgg4 (hx.2.cell rfl))) (fun a159 h159 => ?_); clear h158
        refine dr_take (i := 7) (v := .pointer (some ⟨N121, 1, none⟩)) h159 rfl (by kernel_rfl) (by kernel_rfl) (by kernel_rfl) rfl rfl rfl ⟨hB149, hk154⟩ (by kernel_rfl) (fun _ _ => by kernel_rfl) (fun a160 h160 => ?_); clear h159
        refine dr_take (i := 8) (v := .string y114.2.1) h160 rfl (by kernel_rfl) (by kernel_rfl) (by kernel_rfl) rfl rfl rfl ⟨hB149, hk154⟩ (by kernel_rfl) (fun x hx => (rn_load1 rfl rfl Try.isAgg9 (hx.2.cell rfl))) (fun a161 h161 => ?_); clear h160
        refine dr_one (i := 3) h161 rfl (by kernel_rfl) rfl rfl rfl (op_call (args := #[.pointer (some ⟨b45, 0, none⟩), .string y114.1]) (R := fun res xw => res = .pointer (some ⟨b45, 0, none⟩) ∧ OW b45 ((putH c r l ++ putOs (l.take i)) ++ (putL (y114.1.size : Int) ++ y114.1.data.toList)) (27 + i * 35 + (9 + y114.1.size)) xw ∧ But (Rw w141 b45) w141 xw) rfl rfl rfl (by kernel_rfl) (by kernel_rfl) (Try.call57 _ _) (ow_text b45 (putH c r l ++ putOs (l.take i)) (27 + i * 35) y114.1 w141 ho153 (by first | omega | (simp; done) | (simp; omega))) (by rintro e x ⟨rfl, h1, h2⟩; exact ⟨_, rfl, rfl, h1, h2⟩)) ?_ ?_; clear h161
        ·
          rintro _ w163 ⟨rfl, ho164, hx165⟩
          have hB166 := hb_wr hB149 ho153 (by omega) hx165
          have hz167 := hB166.size
          have hz168 := hx165.size
          have hk169 := blk_wr hk152 ho153 (by decide) (by omega) hx165
          have hk170 := blk_wr hk154 ho153 (by decide) (by omega) hx165
          have hl171 := ho164.lt
          exact ⟨hB166, hk170⟩
        rintro _ w163 a162 ⟨rfl, ho164, hx165⟩ h162
        have hB166 := hb_wr hB149 ho153 (by omega) hx165
        have hz167 := hB166.size
        have hz168 := hx165.size
        have hk169 := blk_wr hk152 ho153 (by decide) (by omega) hx165
        have hk170 := blk_wr hk154 ho153 (by decide) (by omega) hx165
        have hl171 := ho164.lt
        refine dr_one (i := 6) h162 rfl (by kernel_rfl) rfl rfl rfl (op_call (args := #[.pointer (some ⟨b45, 0, none⟩), .bool y114.2.2]) (R := fun res xw => res = .pointer (some ⟨b45, 0, none⟩) ∧ OW b45 (((putH c r l ++ putOs (l.take i)) ++ (putL (y114.1.size : Int) ++ y114.1.data.toList)) ++ [flagB y114.2.2]) (27 + i * 35 + (9 + y114.1.size) + 1) xw ∧ But (Rw w163 b45) w163 xw) rfl rfl rfl (by kernel_rfl) (by kernel_rfl) (Try.call98 _ _) (ow_flag b45 ((putH c r l ++ putOs (l.take i)) ++ (putL (y114.1.size : Int) ++ y114.1.data.toList)) (27 + i * 35 + (9 + y114.1.size)) y114.2.2 w163 ho164 (by omega)) (by rintro e x ⟨rfl, h1, h2⟩; exact ⟨_, rfl, rfl, h1, h2⟩)) ?_ ?_; clear h162
        ·
          rintro _ w173 ⟨rfl, ho174, hx175⟩
          have hB176 := hb_wr hB166 ho164 (by omega) hx175
          have hz177 := hB176.size
          have hz178 := hx175.size
          have hk179 := blk_wr hk169 ho164 (by decide) (by omega) hx175
          have hk180 := blk_wr hk170 ho164 (by decide) (by omega) hx175
          have hl181 := ho174.lt
          exact ⟨hB176, hk180⟩
        rintro _ w173 a172 ⟨rfl, ho174, hx175⟩ h172
        have hB176 := hb_wr hB166 ho164 (by omega) hx175
        have hz177 := hB176.size
        have hz178 := hx175.size
        have hk179 := blk_wr hk169 ho164 (by decide) (by omega) hx175
        have hk180 := blk_wr hk170 ho164 (by decide) (by omega) hx175
        have hl181 := ho174.lt
        refine dr_one (i := 9) h172 rfl (by kernel_rfl) rfl rfl rfl (op_call (args := #[.pointer (some ⟨b45, 0, none⟩), .string y114.2.1]) (R := fun res xw => res = .pointer (some ⟨b45, 0, none⟩) ∧ OW b45 ((((putH c r l ++ putOs (l.take i)) ++ (putL (y114.1.size : Int) ++ y114.1.data.toList)) ++ [flagB y114.2.2]) ++ (putL (y114.2.1.size : Int) ++ y114.2.1.data.toList)) (27 + i * 35 + (9 + y114.1.size) + 1 + (9 + y114.2.1.size)) xw ∧ But (Rw w173 b45) w173 xw) rfl rfl rfl (by kernel_rfl) (by kernel_rfl) (Try.call57 _ _) (ow_text b45 (((putH c r l ++ putOs (l.take i)) ++ (putL (y114.1.size : Int) ++ y114.1.data.toList)) ++ [flagB y114.2.2]) (27 + i * 35 + (9 + y114.1.size) + 1) y114.2.1 w173 ho174 (by first | omega | (simp; done) | (simp; omega))) (by rintro e x ⟨rfl, h1, h2⟩; exact ⟨_, rfl, rfl, h1, h2⟩)) ?_ ?_; clear h172
        ·
          rintro _ w183 ⟨rfl, ho184, hx185⟩
          have hB186 := hb_wr hB176 ho174 (by omega) hx185
          have hz187 := hB186.size
          have hz188 := hx185.size
          have hk189 := blk_wr hk179 ho174 (by decide) (by omega) hx185
          have hk190 := blk_wr hk180 ho174 (by decide) (by omega) hx185
          have hl191 := ho184.lt
          exact ⟨hB186, hk190⟩
        rintro _ w183 a182 ⟨rfl, ho184, hx185⟩ h182
        have hB186 := hb_wr hB176 ho174 (by omega) hx185
        have hz187 := hB186.size
        have hz188 := hx185.size
        have hk189 := blk_wr hk179 ho174 (by decide) (by omega) hx185
        have hk190 := blk_wr hk180 ho174 (by decide) (by omega) hx185
        have hl191 := ho184.lt
        refine dr_done (by kernel_rfl) ?_
        refine co_blockN ?_
        refine co_then ?_
        refine co_reg ?_
        refine pl_val (v := .int .i64 ((i + 1 : Nat) : Int)) h182 rfl rfl rfl (by kernel_rfl) (by kernel_rfl) (rn_arith' rfl rfl rfl rfl rfl rfl (IntWalk.i64_in _ (by omega)) (by omega)) (fun a192 h192 => ?_); clear h182
        refine pl_val (v := .int .i64 ((i + 1 : Nat) : Int)) h192 rfl rfl rfl (by kernel_rfl) (by kernel_rfl) (by kernel_rfl) (fun a193 h193 => ?_); clear h192
        refine pl_nil ?_
        refine co_then ?_
        refine ⟨(l.length - (i + 1)), by omega, ?_⟩
        exact ⟨i + 1, h193.sub ⟨rfl, rfl, rfl, rfl, rfl, rfl, rfl, trivial⟩, rfl, by omega, (ho184.eq (by first | (simp [putH, putOs]; done) | (rw [takeO_at (by assumption)]; simp [putH, putOs, putO1])) (by first | omega | (simp; done) | (simp; omega))), hB186, hk189⟩
  ·
    rw [hc24] at h23
    have hp194 : chkB c r l ≠ 0 := by first | simpa using hc24 | simpa [and_assoc] using hc24
    clear hc24
    refine co_true h23 rfl ?_
    refine co_seq ?_
    refine co_reg ?_
    refine pl_val (v := .int .i64 (chkB c r l)) h23 rfl rfl rfl (by kernel_rfl) (by kernel_rfl) (by kernel_rfl) (fun a195 h195 => ?_); clear h23
    refine pl_val (v := .string (⟨#[]⟩)) h195 rfl rfl rfl (by kernel_rfl) (by kernel_rfl) (by kernel_rfl) (fun a196 h196 => ?_); clear h195
    refine pl_val (v := .int .i64 (chkB c r l)) h196 rfl rfl rfl (by kernel_rfl) (by kernel_rfl) (by kernel_rfl) (fun a197 h197 => ?_); clear h196
    refine pl_nil ?_
    refine co_then ?_
    refine wp_ret ?_
    refine co_thenR ?_
    refine co_ret2 h197 rfl rfl rfl ?_
    exact ⟨by rw [putB_err (by assumption)], hB17⟩
set_option maxRecDepth 100000 in
theorem ropsPut_any (c : Int) (r : Int) (v : Value) (l : List OpT) (w : World) (hs : SliceOf opE 3 w v l) :
    Calls Try.prog 59 #[.agg #[.int .i64 c, .int .i64 r, v]] w fun e w' => e = .returned (.tuple #[.string (putB c r l), .int .i64 (chkB c r l)]) ∧ Below w.heap.size w w' := by
  have hcb : chkB c r l = 0 → ((0 ≤ c ∧ c < 3) ∧ (1 ≤ r ∧ r ≤ 1073741824) ∧ l.length ≤ 4) := fun h => ⟨(chkB_ok h).1, (chkB_ok h).2.1, (chkB_ok h).2.2.1⟩
  have hB0 := Below.refl w.heap.size w
  have hl_hs := sl_len hs
  refine co_enter (n := 62) Try.func59 rfl rfl rfl [(0, .agg #[.int .i64 c, .int .i64 r, v])] rfl (fun a h0 => ?_)
  refine co_seq ?_
  refine co_reg ?_
  refine pl_want h0 rfl rfl rfl (op_new (v := fun N => .pointer (some ⟨N, 0, none⟩)) (T := 31) (cs := #[.int .i64 c, .int .i64 r, v]) (by kernel_rfl) (by kernel_rfl) (by kernel_rfl)) ?_; clear h0
  rintro _ w2 a1 ⟨N3, rfl, hN6, hz7, hk5, hg4⟩ h1
  have hB8 := hb_new hB0 hg4
  have hz9 := hB8.size
  have hz10 := hg4.size
  try dsimp only at h1
  refine pl_val (v := .string (⟨#[]⟩)) h1 rfl rfl rfl (by kernel_rfl) (by kernel_rfl) (by kernel_rfl) (fun a11 h11 => ?_); clear h1
  refine pl_val (v := .int .i64 0) h11 rfl rfl rfl (by kernel_rfl) (by kernel_rfl) (by kernel_rfl) (fun a12 h12 => ?_); clear h11
  refine pl_nil ?_
  refine co_then ?_
  refine co_seq ?_
  refine co_seq ?_
  refine co_reg ?_
  refine pl_val (v := .agg #[.int .i64 c, .int .i64 r, v]) h12 rfl rfl rfl (by kernel_rfl) (by kernel_rfl) (rn_loadN rfl rfl Try.underlying31 rfl (by kernel_rfl) hk5.all) (fun a13 h13 => ?_); clear h12
  refine pl_want h13 rfl rfl rfl (op_call (args := #[.agg #[.int .i64 c, .int .i64 r, v]]) (R := fun res xw => res = .int .i64 (chkB c r l) ∧ Below w2.heap.size w2 xw) rfl rfl rfl (by kernel_rfl) (by kernel_rfl) (Try.call64 _ _) (ropsCheck_any c r v l w2 (hs.below hB8)) (by rintro e x ⟨rfl, hb16⟩; exact ⟨_, rfl, ⟨rfl, hb16⟩⟩)) ?_; clear h13
  rintro _ w15 a14 ⟨rfl, hb16⟩ h14
  have hB17 := hb_call hB8 hb16
  have hz18 := hB17.size
  have hz19 := hb16.size
  have hk20 := hk5.below hb16
  refine pl_val (v := .int .i64 (chkB c r l)) h14 rfl rfl rfl (by kernel_rfl) (by kernel_rfl) (by kernel_rfl) (fun a21 h21 => ?_); clear h14
  refine pl_nil ?_
  refine co_then ?_
  refine co_seq ?_
  refine co_reg ?_
  refine pl_val (v := .int .i64 (chkB c r l)) h21 rfl rfl rfl (by kernel_rfl) (by kernel_rfl) (by kernel_rfl) (fun a22 h22 => ?_); clear h21
  refine pl_val (v := .bool (chkB c r l != 0)) h22 rfl rfl rfl (by kernel_rfl) (by kernel_rfl) (by kernel_rfl) (fun a23 h23 => ?_); clear h22
  refine pl_nil ?_
  refine co_then ?_
  cases hc24 : (chkB c r l != 0)
  ·
    rw [hc24] at h23
    have hp25 : ¬ (chkB c r l ≠ 0) := by first | simpa using hc24 | simpa [and_assoc] using hc24
    clear hc24
    refine co_false h23 rfl ?_
    refine wp_skip ?_
    refine co_then ?_
    refine co_seq ?_
    refine co_reg ?_
    refine pl_val (v := .agg #[.string (⟨#[]⟩), .int .i64 0]) h23 rfl rfl rfl (by kernel_rfl) (by kernel_rfl) (by kernel_rfl) (fun a26 h26 => ?_); clear h23
    refine pl_want h26 rfl rfl rfl (op_new (v := fun N => .pointer (some ⟨N, 0, none⟩)) (T := 111) (cs := #[.string (⟨#[]⟩), .int .i64 0]) (by kernel_rfl) (by kernel_rfl) (by kernel_rfl)) ?_; clear h26
    rintro _ w28 a27 ⟨N29, rfl, hN32, hz33, hk31, hg30⟩ h27
    have hB34 := hb_new hB17 hg30
    have hz35 := hB34.size
    have hz36 := hg30.size
    have hk37 := hk20.kept hg30 (by simp)
    try dsimp only at h27
    refine pl_val (v := .pointer (some ⟨N29, 0, none⟩)) h27 rfl rfl rfl (by kernel_rfl) (by kernel_rfl) (by kernel_rfl) (fun a38 h38 => ?_); clear h27
    refine pl_nil ?_
    refine co_then ?_
    refine co_seq ?_
    refine co_reg ?_
    refine pl_val (v := .pointer (some ⟨N29, 0, none⟩)) h38 rfl rfl rfl (by kernel_rfl) (by kernel_rfl) (by kernel_rfl) (fun a39 h39 => ?_); clear h38
    refine pl_val (v := .pointer (some ⟨N3, 0, none⟩)) h39 rfl rfl rfl (by kernel_rfl) (by kernel_rfl) (by kernel_rfl) (fun a40 h40 => ?_); clear h39
    refine pl_val (v := .int .i64 c) h40 rfl rfl rfl (by kernel_rfl) (by kernel_rfl) (rn_load1 rfl rfl Try.isAgg3 (hk37.cell rfl)) (fun a41 h41 => ?_); clear h40
    have ho44 := ox_of hk31
    refine pl_want h41 rfl rfl rfl (op_call (args := #[.pointer (some ⟨N29, 0, none⟩), .int .i64 c]) (R := fun res xw => res = .tuple #[] ∧ OX N29 (([] : List UInt8) ++ putL c) (0 + 9) xw ∧ w28.grownBy xw (some N29)) rfl rfl rfl (by kernel_rfl) (by kernel_rfl) (Try.call106 _ _) (ox_num N29 ([]) 0 c w28 ho44 (by omega) (by omega) (by omega)) (by rintro e x ⟨rfl, h1, h2⟩; exact ⟨_, rfl, rfl, h1, h2⟩)) ?_; clear h41
    rintro _ w43 a42 ⟨rfl, ho45, hx46⟩ h42
    have hB47 := hb_at hB34 hx46 (by omega)
    have hz48 := hB47.size
    have hz49 := hx46.size
    have hk50 := hk37.kept hx46 (by simp; omega)
    have hl51 := ho45.lt
    refine pl_nil ?_
    refine co_then ?_
    refine co_seq ?_
    refine co_reg ?_
    refine pl_val (v := .pointer (some ⟨N29, 0, none⟩)) h42 rfl rfl rfl (by kernel_rfl) (by kernel_rfl) (by kernel_rfl) (fun a52 h52 => ?_); clear h42
    refine pl_val (v := .pointer (some ⟨N3, 1, none⟩)) h52 rfl rfl rfl (by kernel_rfl) (by kernel_rfl) (by kernel_rfl) (fun a53 h53 => ?_); clear h52
    refine pl_val (v := .int .i64 r) h53 rfl rfl rfl (by kernel_rfl) (by kernel_rfl) (rn_load1 rfl rfl Try.isAgg3 (hk50.cell rfl)) (fun a54 h54 => ?_); clear h53
    refine pl_want h54 rfl rfl rfl (op_call (args := #[.pointer (some ⟨N29, 0, none⟩), .int .i64 r]) (R := fun res xw => res = .tuple #[] ∧ OX N29 ((([] : List UInt8) ++ putL c) ++ putL r) (0 + 9 + 9) xw ∧ w43.grownBy xw (some N29)) rfl rfl rfl (by kernel_rfl) (by kernel_rfl) (Try.call106 _ _) (ox_num N29 (([] : List UInt8) ++ putL c) (0 + 9) r w43 ho45 (by omega) (by omega) (by omega)) (by rintro e x ⟨rfl, h1, h2⟩; exact ⟨_, rfl, rfl, h1, h2⟩)) ?_; clear h54
    rintro _ w56 a55 ⟨rfl, ho57, hx58⟩ h55
    have hB59 := hb_at hB47 hx58 (by omega)
    have hz60 := hB59.size
    have hz61 := hx58.size
    have hk62 := hk50.kept hx58 (by simp; omega)
    have hl63 := ho57.lt
    refine pl_nil ?_
    refine co_then ?_
    refine co_seq ?_
    refine co_reg ?_
    refine pl_val (v := .pointer (some ⟨N29, 0, none⟩)) h55 rfl rfl rfl (by kernel_rfl) (by kernel_rfl) (by kernel_rfl) (fun a64 h64 => ?_); clear h55
    refine pl_val (v := .pointer (some ⟨N3, 2, none⟩)) h64 rfl rfl rfl (by kernel_rfl) (by kernel_rfl) (by kernel_rfl) (fun a65 h65 => ?_); clear h64
    refine pl_val (v := v) h65 rfl rfl rfl (by kernel_rfl) (by kernel_rfl) (rn_load1 rfl rfl Try.isAgg23 (hk62.cell rfl)) (fun a66 h66 => ?_); clear h65
    refine pl_val (v := .int .i64 ((l.length : Nat) : Int)) h66 rfl rfl rfl (by kernel_rfl) (by kernel_rfl) (rn_len rfl rfl Try.underlying23 (hs.below hB59)) (fun a67 h67 => ?_); clear h66
    refine pl_want h67 rfl rfl rfl (op_call (args := #[.pointer (some ⟨N29, 0, none⟩), .int .i64 ((l.length : Nat) : Int)]) (R := fun res xw => res = .tuple #[] ∧ OX N29 (((([] : List UInt8) ++ putL c) ++ putL r) ++ putL ((l.length : Nat) : Int)) (0 + 9 + 9 + 9) xw ∧ w56.grownBy xw (some N29)) rfl rfl rfl (by kernel_rfl) (by kernel_rfl) (Try.call106 _ _) (ox_num N29 ((([] : List UInt8) ++ putL c) ++ putL r) (0 + 9 + 9) ((l.length : Nat) : Int) w56 ho57 (by omega) (by omega) (by omega)) (by rintro e x ⟨rfl, h1, h2⟩; exact ⟨_, rfl, rfl, h1, h2⟩)) ?_; clear h67
    rintro _ w69 a68 ⟨rfl, ho70, hx71⟩ h68
    have hB72 := hb_at hB59 hx71 (by omega)
    have hz73 := hB72.size
    have hz74 := hx71.size
    have hk75 := hk62.kept hx71 (by simp; omega)
    have hl76 := ho70.lt
    refine pl_nil ?_
    refine co_then ?_
    refine co_seq ?_
    refine co_seq ?_
    refine co_reg ?_
    refine pl_val (v := .int .i64 0) h68 rfl rfl rfl (by kernel_rfl) (by kernel_rfl) (by kernel_rfl) (fun a77 h77 => ?_); clear h68
    refine pl_nil ?_
    refine co_then ?_
    refine wp_block ?_
    have hck := chkB_all (c := c) (r := r) (l := l) (by omega)
    have h78 : Slots 62 [(1, .pointer (some ⟨N3, 0, none⟩)), (2, .string (⟨#[]⟩)), (3, .int .i64 0), (5, .pointer (some ⟨N29, 0, none⟩)), (6, .int .i64 0)] _ := h77.sub ⟨rfl, rfl, rfl, rfl, rfl, trivial⟩; clear h77
    refine co_loop (fun mm a x => ∃ (i : Nat), Slots 62 [(1, .pointer (some ⟨N3, 0, none⟩)), (2, .string (⟨#[]⟩)), (3, .int .i64 0), (5, .pointer (some ⟨N29, 0, none⟩)), (6, .int .i64 ((i : Nat) : Int))] a ∧ mm = l.length - i ∧ (i ≤ l.length) ∧ OX N29 (putH c r l ++ putOs (l.take i)) (27 + i * 35) x ∧ Below w.heap.size w x ∧ Blk x N3 31 #[.int .i64 c, .int .i64 r, v]) (l.length - 0) ?_ ?_
    · exact ⟨0, h78.sub ⟨rfl, rfl, rfl, rfl, (slot_eq rfl (congrArg (Value.int .i64) (by first | rfl | omega))), trivial⟩, rfl, by omega, (ho70.eq (by first | (simp [putH, putOs]; done) | (rw [takeO_at (by assumption)]; simp [putH, putOs, putO1])) (by first | omega | (simp; done) | (simp; omega))), hB72, hk75⟩
    · rintro k79 a80 w81 ⟨i, h80, rfl, hi82, hf83, hB84, hk85⟩
      have hz86 := hB84.size
      have hl87 := hk85.lt
      have hl88 := hf83.lt
      refine co_seq ?_
      refine co_seq ?_
      refine co_reg ?_
      refine pl_val (v := .int .i64 ((i : Nat) : Int)) h80 rfl rfl rfl (by kernel_rfl) (by kernel_rfl) (by kernel_rfl) (fun a89 h89 => ?_); clear h80
      refine pl_val (v := .pointer (some ⟨N3, 2, none⟩)) h89 rfl rfl rfl (by kernel_rfl) (by kernel_rfl) (by kernel_rfl) (fun a90 h90 => ?_); clear h89
      refine pl_val (v := v) h90 rfl rfl rfl (by kernel_rfl) (by kernel_rfl) (rn_load1 rfl rfl Try.isAgg23 (hk85.cell rfl)) (fun a91 h91 => ?_); clear h90
      refine pl_val (v := .int .i64 ((l.length : Nat) : Int)) h91 rfl rfl rfl (by kernel_rfl) (by kernel_rfl) (rn_len rfl rfl Try.underlying23 (hs.below hB84)) (fun a92 h92 => ?_); clear h91
      refine pl_val (v := .bool (decide (((i : Nat) : Int) < ((l.length : Nat) : Int)))) h92 rfl rfl rfl (by kernel_rfl) (by kernel_rfl) (by kernel_rfl) (fun a93 h93 => ?_); clear h92
      refine pl_nil ?_
      refine co_then ?_
      cases hc94 : (decide (((i : Nat) : Int) < ((l.length : Nat) : Int)))
      ·
        rw [hc94] at h93
        have hp95 : ¬ (((i : Nat) : Int) < ((l.length : Nat) : Int)) := of_decide_eq_false hc94
        clear hc94
        refine co_false h93 rfl ?_
        refine wp_exit ?_
        refine co_thenX ?_
        refine co_thenX ?_
        refine co_blockX ?_
        refine co_then ?_
        refine co_seq ?_
        refine co_reg ?_
        refine pl_val (v := .pointer (some ⟨N29, 0, none⟩)) h93 rfl rfl rfl (by kernel_rfl) (by kernel_rfl) (by kernel_rfl) (fun a96 h96 => ?_); clear h93
        refine pl_want h96 rfl rfl rfl (op_call (args := #[.pointer (some ⟨N29, 0, none⟩)]) (R := fun res xw => res = .tuple #[.string (⟨(putH c r l ++ putOs (l.take i)).toArray⟩), .int .i64 0] ∧ Below w81.heap.size w81 xw) rfl rfl rfl (by kernel_rfl) (by kernel_rfl) (Try.call62 _ _) (ox_done N29 (putH c r l ++ putOs (l.take i)) (27 + i * 35) w81 hf83) (by rintro e x ⟨rfl, h2⟩; exact ⟨_, rfl, rfl, h2⟩)) ?_; clear h96
        rintro _ w98 a97 ⟨rfl, hb99⟩ h97
        have hB100 := hb_call hB84 hb99
        have hz101 := hB100.size
        have hz102 := hb99.size
        have hk103 := hk85.below hb99
        have ho104 := hf83.below hb99
        refine pl_val (v := .string (⟨(putH c r l ++ putOs (l.take i)).toArray⟩)) h97 rfl rfl rfl (by kernel_rfl) (by kernel_rfl) (by kernel_rfl) (fun a105 h105 => ?_); clear h97
        refine pl_val (v := .int .i64 0) h105 rfl rfl rfl (by kernel_rfl) (by kernel_rfl) (by kernel_rfl) (fun a106 h106 => ?_); clear h105
        refine pl_val (v := .string (⟨(putH c r l ++ putOs (l.take i)).toArray⟩)) h106 rfl rfl rfl (by kernel_rfl) (by kernel_rfl) (by kernel_rfl) (fun a107 h107 => ?_); clear h106
        refine pl_val (v := .int .i64 0) h107 rfl rfl rfl (by kernel_rfl) (by kernel_rfl) (by kernel_rfl) (fun a108 h108 => ?_); clear h107
        refine pl_nil ?_
        refine co_then ?_
        refine wp_ret ?_
        refine co_ret2 h108 rfl rfl rfl ?_
        exact ⟨by rw [putB_ok (by omega), show chkB c r l = 0 by omega, List.take_of_length_le (show l.length ≤ i by omega)], hB100⟩
      ·
        rw [hc94] at h93
        have hp109 : ((i : Nat) : Int) < ((l.length : Nat) : Int) := of_decide_eq_true hc94
        clear hc94
        refine co_true h93 rfl ?_
        refine wp_skip ?_
        refine co_then ?_
        refine co_seq ?_
        refine wp_block ?_
        refine co_seq ?_
        refine co_reg ?_
        refine pl_val (v := .pointer (some ⟨N29, 0, none⟩)) h93 rfl rfl rfl (by kernel_rfl) (by kernel_rfl) (by kernel_rfl) (fun a110 h110 => ?_); clear h93
        refine pl_val (v := .pointer (some ⟨N3, 2, none⟩)) h110 rfl rfl rfl (by kernel_rfl) (by kernel_rfl) (by kernel_rfl) (fun a111 h111 => ?_); clear h110
        refine pl_val (v := v) h111 rfl rfl rfl (by kernel_rfl) (by kernel_rfl) (rn_load1 rfl rfl Try.isAgg23 (hk85.cell rfl)) (fun a112 h112 => ?_); clear h111
        refine pl_val (v := .int .i64 ((i : Nat) : Int)) h112 rfl rfl rfl (by kernel_rfl) (by kernel_rfl) (by kernel_rfl) (fun a113 h113 => ?_); clear h112
        obtain ⟨y114, hy114⟩ : ∃ z, l[i]? = some z := ⟨_, List.getElem?_eq_getElem (by first | omega | (simp; done) | (simp; omega))⟩
        have oky114 := hck _ (List.mem_of_getElem? hy114)
        have k115 : y114.1.size ≤ 8 := oky114.1.2
        have k116 : y114.2.1.size ≤ 8 := oky114.2.1
        refine pl_val (v := .pointer (some ⟨(blkOf v), offOf v + i * 3, none⟩)) h113 rfl rfl rfl (by kernel_rfl) (by kernel_rfl) (rn_index rfl rfl rfl Try.underlying23 Try.sizeOf86 (hs.below hB84) (by omega) (by first | omega | (simp; done) | (simp; omega))) (fun a117 h117 => ?_); clear h113
        refine pl_val (v := .pointer (some ⟨(blkOf v), offOf v + i * 3, none⟩)) h117 rfl rfl rfl (by kernel_rfl) (by kernel_rfl) (by kernel_rfl) (fun a118 h118 => ?_); clear h117
        refine pl_val (v := .string y114.1) h118 rfl rfl rfl (by kernel_rfl) (by kernel_rfl) (rn_load1 rfl rfl Try.isAgg9 ((sl_at (hs.below hB84) hy114) 0 _ rfl)) (fun a119 h119 => ?_); clear h118
        refine pl_want h119 rfl rfl rfl (op_call (args := #[.pointer (some ⟨N29, 0, none⟩), .string y114.1]) (R := fun res xw => res = .tuple #[] ∧ OX N29 ((putH c r l ++ putOs (l.take i)) ++ (putL (y114.1.size : Int) ++ y114.1.data.toList)) (27 + i * 35 + (9 + y114.1.size)) xw ∧ w81.grownBy xw (some N29)) rfl rfl rfl (by kernel_rfl) (by kernel_rfl) (Try.call61 _ _) (ox_text N29 (putH c r l ++ putOs (l.take i)) (27 + i * 35) y114.1 w81 hf83 (by first | omega | (simp; done) | (simp; omega))) (by rintro e x ⟨rfl, h1, h2⟩; exact ⟨_, rfl, rfl, h1, h2⟩)) ?_; clear h119
        rintro _ w121 a120 ⟨rfl, ho122, hx123⟩ h120
        have hB124 := hb_at hB84 hx123 (by omega)
        have hz125 := hB124.size
        have hz126 := hx123.size
        have hk127 := hk85.kept hx123 (by simp; omega)
        have hl128 := ho122.lt
        refine pl_nil ?_
        refine co_then ?_
        refine co_seq ?_
        refine co_reg ?_
        refine pl_val (v := .pointer (some ⟨N29, 0, none⟩)) h120 rfl rfl rfl (by kernel_rfl) (by kernel_rfl) (by kernel_rfl) (fun a129 h129 => ?_); clear h120
        refine pl_val (v := .pointer (some ⟨N3, 2, none⟩)) h129 rfl rfl rfl (by kernel_rfl) (by kernel_rfl) (by kernel_rfl) (fun a130 h130 => ?_); clear h129
        refine pl_val (v := v) h130 rfl rfl rfl (by kernel_rfl) (by kernel_rfl) (rn_load1 rfl rfl Try.isAgg23 (hk127.cell rfl)) (fun a131 h131 => ?_); clear h130
        refine pl_val (v := .int .i64 ((i : Nat) : Int)) h131 rfl rfl rfl (by kernel_rfl) (by kernel_rfl) (by kernel_rfl) (fun a132 h132 => ?_); clear h131
        refine pl_val (v := .pointer (some ⟨(blkOf v), offOf v + i * 3, none⟩)) h132 rfl rfl rfl (by kernel_rfl) (by kernel_rfl) (rn_index rfl rfl rfl Try.underlying23 Try.sizeOf86 (hs.below hB124) (by omega) (by first | omega | (simp; done) | (simp; omega))) (fun a133 h133 => ?_); clear h132
        refine pl_val (v := .pointer (some ⟨(blkOf v), offOf v + i * 3 + 2, none⟩)) h133 rfl rfl rfl (by kernel_rfl) (by kernel_rfl) (by kernel_rfl) (fun a134 h134 => ?_); clear h133
        refine pl_val (v := .bool y114.2.2) h134 rfl rfl rfl (by kernel_rfl) (by kernel_rfl) (rn_load1 rfl rfl Try.isAgg4 ((sl_at (hs.below hB124) hy114) 2 _ rfl)) (fun a135 h135 => ?_); clear h134
        refine pl_want h135 rfl rfl rfl (op_call (args := #[.pointer (some ⟨N29, 0, none⟩), .bool y114.2.2]) (R := fun res xw => res = .tuple #[] ∧ OX N29 (((putH c r l ++ putOs (l.take i)) ++ (putL (y114.1.size : Int) ++ y114.1.data.toList)) ++ [flagB y114.2.2]) (27 + i * 35 + (9 + y114.1.size) + 1) xw ∧ w121.grownBy xw (some N29)) rfl rfl rfl (by kernel_rfl) (by kernel_rfl) (Try.call107 _ _) (ox_flag N29 ((putH c r l ++ putOs (l.take i)) ++ (putL (y114.1.size : Int) ++ y114.1.data.toList)) (27 + i * 35 + (9 + y114.1.size)) y114.2.2 w121 ho122 (by omega)) (by rintro e x ⟨rfl, h1, h2⟩; exact ⟨_, rfl, rfl, h1, h2⟩)) ?_; clear h135
        rintro _ w137 a136 ⟨rfl, ho138, hx139⟩ h136
        have hB140 := hb_at hB124 hx139 (by omega)
        have hz141 := hB140.size
        have hz142 := hx139.size
        have hk143 := hk127.kept hx139 (by simp; omega)
        have hl144 := ho138.lt
        refine pl_nil ?_
        refine co_then ?_
        refine co_reg ?_
        refine pl_val (v := .pointer (some ⟨N29, 0, none⟩)) h136 rfl rfl rfl (by kernel_rfl) (by kernel_rfl) (by kernel_rfl) (fun a145 h145 => ?_); clear h136
        refine pl_val (v := .pointer (some ⟨N3, 2, none⟩)) h145 rfl rfl rfl (by kernel_rfl) (by kernel_rfl) (by kernel_rfl) (fun a146 h146 => ?_); clear h145
        refine pl_val (v := v) h146 rfl rfl rfl (by kernel_rfl) (by kernel_rfl) (rn_load1 rfl rfl Try.isAgg23 (hk143.cell rfl)) (fun a147 h147 => ?_); clear h146
        refine pl_val (v := .int .i64 ((i : Nat) : Int)) h147 rfl rfl rfl (by kernel_rfl) (by kernel_rfl) (by kernel_rfl) (fun a148 h148 => ?_); clear h147
        refine pl_val (v := .pointer (some ⟨(blkOf v), offOf v + i * 3, none⟩)) h148 rfl rfl rfl (by kernel_rfl) (by kernel_rfl) (rn_index rfl rfl rfl Try.underlying23 Try.sizeOf86 (hs.below hB140) (by omega) (by first | omega | (simp; done) | (simp; omega))) (fun a149 h149 => ?_); clear h148
        refine pl_val (v := .pointer (some ⟨(blkOf v), offOf v + i * 3 + 1, none⟩)) h149 rfl rfl rfl (by kernel_rfl) (by kernel_rfl) (by kernel_rfl) (fun a150 h150 => ?_); clear h149
        refine pl_val (v := .string y114.2.1) h150 rfl rfl rfl (by kernel_rfl) (by kernel_rfl) (rn_load1 rfl rfl Try.isAgg9 ((sl_at (hs.below hB140) hy114) 1 _ rfl)) (fun a151 h151 => ?_); clear h150
        refine pl_want h151 rfl rfl rfl (op_call (args := #[.pointer (some ⟨N29, 0, none⟩), .string y114.2.1]) (R := fun res xw => res = .tuple #[] ∧ OX N29 ((((putH c r l ++ putOs (l.take i)) ++ (putL (y114.1.size : Int) ++ y114.1.data.toList)) ++ [flagB y114.2.2]) ++ (putL (y114.2.1.size : Int) ++ y114.2.1.data.toList)) (27 + i * 35 + (9 + y114.1.size) + 1 + (9 + y114.2.1.size)) xw ∧ w137.grownBy xw (some N29)) rfl rfl rfl (by kernel_rfl) (by kernel_rfl) (Try.call61 _ _) (ox_text N29 (((putH c r l ++ putOs (l.take i)) ++ (putL (y114.1.size : Int) ++ y114.1.data.toList)) ++ [flagB y114.2.2]) (27 + i * 35 + (9 + y114.1.size) + 1) y114.2.1 w137 ho138 (by first | omega | (simp; done) | (simp; omega))) (by rintro e x ⟨rfl, h1, h2⟩; exact ⟨_, rfl, rfl, h1, h2⟩)) ?_; clear h151
        rintro _ w153 a152 ⟨rfl, ho154, hx155⟩ h152
        have hB156 := hb_at hB140 hx155 (by omega)
        have hz157 := hB156.size
        have hz158 := hx155.size
        have hk159 := hk143.kept hx155 (by simp; omega)
        have hl160 := ho154.lt
        refine pl_nil ?_
        refine co_blockN ?_
        refine co_then ?_
        refine co_reg ?_
        refine pl_val (v := .int .i64 ((i : Nat) : Int)) h152 rfl rfl rfl (by kernel_rfl) (by kernel_rfl) (by kernel_rfl) (fun a161 h161 => ?_); clear h152
        refine pl_val (v := .int .i64 ((i + 1 : Nat) : Int)) h161 rfl rfl rfl (by kernel_rfl) (by kernel_rfl) (rn_arith' rfl rfl rfl rfl rfl rfl (IntWalk.i64_in _ (by omega)) (by omega)) (fun a162 h162 => ?_); clear h161
        refine pl_val (v := .int .i64 ((i + 1 : Nat) : Int)) h162 rfl rfl rfl (by kernel_rfl) (by kernel_rfl) (by kernel_rfl) (fun a163 h163 => ?_); clear h162
        refine pl_nil ?_
        refine co_then ?_
        refine ⟨(l.length - (i + 1)), by omega, ?_⟩
        exact ⟨i + 1, h163.sub ⟨rfl, rfl, rfl, rfl, rfl, trivial⟩, rfl, by omega, (ho154.eq (by first | (simp [putH, putOs]; done) | (rw [takeO_at (by assumption)]; simp [putH, putOs, putO1])) (by first | omega | (simp; done) | (simp; omega))), hB156, hk159⟩
  ·
    rw [hc24] at h23
    have hp164 : chkB c r l ≠ 0 := by first | simpa using hc24 | simpa [and_assoc] using hc24
    clear hc24
    refine co_true h23 rfl ?_
    refine co_seq ?_
    refine co_reg ?_
    refine pl_val (v := .int .i64 (chkB c r l)) h23 rfl rfl rfl (by kernel_rfl) (by kernel_rfl) (by kernel_rfl) (fun a165 h165 => ?_); clear h23
    refine pl_val (v := .string (⟨#[]⟩)) h165 rfl rfl rfl (by kernel_rfl) (by kernel_rfl) (by kernel_rfl) (fun a166 h166 => ?_); clear h165
    refine pl_val (v := .int .i64 (chkB c r l)) h166 rfl rfl rfl (by kernel_rfl) (by kernel_rfl) (by kernel_rfl) (fun a167 h167 => ?_); clear h166
    refine pl_nil ?_
    refine co_then ?_
    refine wp_ret ?_
    refine co_thenR ?_
    refine co_ret2 h167 rfl rfl rfl ?_
    exact ⟨by rw [putB_err (by assumption)], hB17⟩
end Go.Proofs.Yteioaaegooebpaa
