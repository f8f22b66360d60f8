/- Package ops: Same, Put of both. Conditions: none. -/
import Derived.Test.YteioaaegooebpaaGreatOpsANp
namespace Go.Proofs.YteioaaegooebpaaGreat
open Go.RowKit Go.PlainAid
set_option linter.unusedVariables false


def eqO (x y : OpT) : Bool := x.1.toList == y.1.toList && x.2.1.toList == y.2.1.toList && x.2.2 == y.2.2
def sameL : List OpT → List OpT → Bool
  | [], [] => true
  | x :: a, y :: b => eqO x y && sameL a b
  | _, _ => false
theorem sameL_len : ∀ {a b : List OpT}, a.length ≠ b.length → false = sameL a b
  | [], [], h => absurd rfl h
  | [], _ :: _, _ => rfl
  | _ :: _, [], _ => rfl
  | x :: a, y :: b, h => by
    show false = (eqO x y && sameL a b)
    rw [← sameL_len (a := a) (b := b) (fun e => h (by simp [e]))]; simp
theorem sameL_step {a b : List OpT} {i : Nat} {x y : OpT} {z : Bool} (h : sameL (a.drop i) (b.drop i) = z) (hx : a[i]? = some x) (hy : b[i]? = some y) (he : eqO x y = true) : sameL (a.drop (i + 1)) (b.drop (i + 1)) = z := by
  rw [dropO_at hx, dropO_at hy] at h; unfold sameL at h; rwa [he, Bool.true_and] at h
theorem sameL_no {a b : List OpT} {i : Nat} {x y : OpT} {z : Bool} (h : sameL (a.drop i) (b.drop i) = z) (hx : a[i]? = some x) (hy : b[i]? = some y) (he : eqO x y = false) : false = z := by
  rw [dropO_at hx, dropO_at hy] at h; unfold sameL at h; rwa [he, Bool.false_and] at h
theorem sameL_end {a b : List OpT} {i : Nat} {z : Bool} (h : sameL (a.drop i) (b.drop i) = z) (hl : a.length = b.length) (hi : a.length ≤ i) : true = z := by
  rw [List.drop_eq_nil_of_le hi, List.drop_eq_nil_of_le (by omega)] at h; exact h
theorem eqO_of {x y : OpT} {b : Bool} (h : (!(x.1.toList == y.1.toList && x.2.1.toList == y.2.1.toList && x.2.2 == y.2.2)) = b) : eqO x y = !b := by unfold eqO; rw [← h]; simp
theorem eqO_refl (x : OpT) : eqO x x = true := by unfold eqO; simp
theorem sameL_refl : ∀ a : List OpT, sameL a a = true
  | [] => rfl
  | x :: a => by show (eqO x x && sameL a a) = true; rw [eqO_refl, sameL_refl a]; rfl
def sameB (c r : Int) (l : List OpT) (c2 r2 : Int) (l2 : List OpT) : Bool := if c = c2 ∧ r = r2 then sameL l l2 else false
theorem sameB_y {c r c2 r2 : Int} {l l2 : List OpT} (h : c = c2) (h1 : r = r2) : sameL l l2 = sameB c r l c2 r2 l2 := by unfold sameB; rw [if_pos ⟨h, h1⟩]
theorem sameB_n {c r c2 r2 : Int} {l l2 : List OpT} (h : ¬ (c = c2 ∧ r = r2)) : false = sameB c r l c2 r2 l2 := by unfold sameB; rw [if_neg h]
theorem sameB_refl (c r : Int) (l : List OpT) : sameB c r l c r l = true := by rw [← sameB_y rfl rfl, sameL_refl]
/-- The bytes of a batch. -/
def putO1 (o : OpT) : List UInt8 := (putL (o.1.size : Int) ++ o.1.data.toList) ++ [flagB o.2.2] ++ (putL (o.2.1.size : Int) ++ o.2.1.data.toList)
def putOs (l : List OpT) : List UInt8 := l.flatMap putO1
def putH (c r : Int) (l : List OpT) : List UInt8 := putL c ++ putL r ++ putL ((l.length : Nat) : Int)
def putB (c r : Int) (l : List OpT) : ByteArray := if chkB c r l = 0 then ⟨(putH c r l ++ putOs l).toArray⟩ else ⟨#[]⟩
theorem putB_ok {c r : Int} {l : List OpT} (h : chkB c r l = 0) : putB c r l = ⟨(putH c r l ++ putOs l).toArray⟩ := by unfold putB; rw [if_pos h]
theorem putB_err {c r : Int} {l : List OpT} (h : chkB c r l ≠ 0) : putB c r l = ⟨#[]⟩ := by unfold putB; rw [if_neg h]

set_option maxRecDepth 100000 in
theorem equalOp_any (v : Value) (l : List OpT) (v2 : Value) (l2 : List OpT) (w : World) (hs : SliceOf opE 3 w v l) (hs2 : SliceOf opE 3 w v2 l2) :
    Calls Tryz.prog 148 #[v, v2] w fun e w' => e = .returned (.bool (sameL l l2)) ∧ Below w.heap.size w w' := by
 have hB0 := Below.refl w.heap.size w
 have hl_hs := sl_len hs
 have hl_hs2 := sl_len hs2
 refine co_enter (n := 26) Tryz.func148 rfl rfl rfl [(0, v), (1, v2)] rfl (fun a h0 => ?_)
 refine co_seq ?_
 refine co_reg ?_
 refine pk0 (v := .bool false) h0 rfl fun a1 h1 => ?_; clear h0
 refine pl_nil ?_
 refine co_then ?_
 refine co_seq ?_
 refine co_seq ?_
 refine co_reg ?_
 refine pk0 (v := v) h1 rfl fun a2 h2 => ?_; clear h1
 refine pk (v := .int .i64 ((l.length : Nat) : Int)) h2 rfl (rn_len rfl rfl Tryz.underlying27 hs) fun a3 h3 => ?_; clear h2
 refine pk0 (v := v2) h3 rfl fun a4 h4 => ?_; clear h3
 refine pk (v := .int .i64 ((l2.length : Nat) : Int)) h4 rfl (rn_len rfl rfl Tryz.underlying27 hs2) fun a5 h5 => ?_; clear h4
 refine pk0 (v := .bool (((l.length : Nat) : Int) != ((l2.length : Nat) : Int))) h5 rfl fun a6 h6 => ?_; clear h5
 refine pl_nil ?_
 refine co_then ?_
 cases hc7 : (((l.length : Nat) : Int) != ((l2.length : Nat) : Int))
 ·
  rw [hc7] at h6
  have hp8 : ¬ (((l.length : Nat) : Int) ≠ ((l2.length : Nat) : Int)) := by first | simpa using hc7 | simpa [and_assoc] using hc7
  clear hc7
  refine co_false h6 rfl ?_
  refine wp_skip ?_
  refine co_then ?_
  refine co_seq ?_
  refine co_seq ?_
  refine co_reg ?_
  refine pk0 (v := v) h6 rfl fun a9 h9 => ?_; clear h6
  refine pk (v := .int .i64 ((l.length : Nat) : Int)) h9 rfl (rn_len rfl rfl Tryz.underlying27 hs) fun a10 h10 => ?_; clear h9
  refine pk0 (v := .int .i64 0) h10 rfl fun a11 h11 => ?_; clear h10
  refine pl_nil ?_
  refine co_then ?_
  refine wp_block ?_
  have h12 : Slots 26 [(0, v), (1, v2), (4, .bool false), (12, .int .i64 ((l.length : Nat) : Int)), (13, .int .i64 0)] _ := h11.sub ⟨rfl, rfl, rfl, rfl, rfl, trivial⟩; clear h11
  refine co_loop (fun mm a x => ∃ (i : Nat), Slots 26 [(0, v), (1, v2), (4, .bool false), (12, .int .i64 ((l.length : Nat) : Int)), (13, .int .i64 ((i : Nat) : Int))] a ∧ mm = l.length - i ∧ (i ≤ l.length) ∧ (l.length = l2.length) ∧ (sameL (l.drop i) (l2.drop i) = sameL l l2) ∧ Below w.heap.size w x) (l.length - 0) ?_ ?_
  · exact ⟨0, h12.sub ⟨rfl, rfl, rfl, rfl, (slot_eq rfl (congrArg (Value.int .i64) (by first | rfl | omega))), trivial⟩, rfl, by omega, by omega, by first | rfl | exact hL', hB0⟩
  · rintro k13 a14 w15 ⟨i, h14, rfl, hi16, hi17, hi18, hB19⟩
    have hz20 := hB19.size
    have hL : sameL (l.drop i) (l2.drop i) = sameL l l2 := by assumption
    refine co_seq ?_
    refine co_reg ?_
    refine pk0 (v := .bool (decide (((i : Nat) : Int) < ((l.length : Nat) : Int)))) h14 rfl fun a21 h21 => ?_; clear h14
    refine pl_nil ?_
    refine co_then ?_
    refine co_seq ?_
    cases hc22 : (decide (((i : Nat) : Int) < ((l.length : Nat) : Int)))
    ·
     rw [hc22] at h21
     have hp23 : ¬ (((i : Nat) : Int) < ((l.length : Nat) : Int)) := of_decide_eq_false hc22
     clear hc22
     refine co_false h21 rfl ?_
     refine wp_exit ?_
     refine co_thenX ?_
     refine co_thenX ?_
     refine co_blockX ?_
     refine co_then ?_
     refine co_seq ?_
     refine co_reg ?_
     refine pk0 (v := .bool true) h21 rfl fun a24 h24 => ?_; clear h21
     refine pl_nil ?_
     refine co_then ?_
     refine wp_ret ?_
     refine co_ret1 h24 rfl rfl ?_
     exact ⟨ret_bool (sameL_end (i := i) hL (by omega) (by omega)), hB19⟩
    ·
     rw [hc22] at h21
     have hp25 : ((i : Nat) : Int) < ((l.length : Nat) : Int) := of_decide_eq_true hc22
     clear hc22
     refine co_true h21 rfl ?_
     refine wp_skip ?_
     refine co_then ?_
     refine co_seq ?_
     refine wp_block ?_
     refine co_seq ?_
     refine co_reg ?_
     refine pk0 (v := .int .i64 ((i : Nat) : Int)) h21 rfl fun a26 h26 => ?_; clear h21
     refine pk0 (v := .int .i64 ((i : Nat) : Int)) h26 rfl fun a27 h27 => ?_; clear h26
     refine pl_nil ?_
     refine co_then ?_
     refine co_seq ?_
     refine dr_eq (by kernel_rfl) (fun w28 hg29 => ?_)
     have hz30 := hg29.size
     refine dk0 0 (v := v) h27 rfl rfl rfl fun a31 h31 => ?_; clear h27
     refine dk0 1 (v := .int .i64 ((i : Nat) : Int)) h31 rfl rfl rfl fun a32 h32 => ?_; clear h31
     have hB34 := hb_new hB19 hg29
     obtain ⟨y33, hy33⟩ : ∃ z, l[i]? = some z := ⟨_, List.getElem?_eq_getElem (by first | omega | (simp; done) | (simp; omega))⟩
     refine dk 2 (v := pt (blkOf v) (offOf v + i * 3)) h32 rfl rfl rfl (fun x hx => by subst hx; exact (rn_index rfl rfl rfl Tryz.underlying27 Tryz.sizeOf159 (hs.below hB34) (by omega) (by first | omega | (simp; done) | (simp; omega)))) fun a35 h35 => ?_; clear h32
     refine dk 3 (v := .agg #[.string y33.1, .string y33.2.1, .bool y33.2.2]) h35 rfl rfl rfl (fun x hx => by subst hx; exact (rn_loadN rfl rfl Tryz.underlying159 rfl (by kernel_rfl) (sl_at (hs.below hB34) hy33))) fun a36 h36 => ?_; clear h35
     refine dk0 4 (v := v2) h36 rfl rfl rfl fun a37 h37 => ?_; clear h36
     refine dk0 5 (v := .int .i64 ((i : Nat) : Int)) h37 rfl rfl rfl fun a38 h38 => ?_; clear h37
     obtain ⟨y39, hy39⟩ : ∃ z, l2[i]? = some z := ⟨_, List.getElem?_eq_getElem (by first | omega | (simp; done) | (simp; omega))⟩
     refine dk 6 (v := pt (blkOf v2) (offOf v2 + i * 3)) h38 rfl rfl rfl (fun x hx => by subst hx; exact (rn_index rfl rfl rfl Tryz.underlying27 Tryz.sizeOf159 (hs2.below hB34) (by omega) (by first | omega | (simp; done) | (simp; omega)))) fun a40 h40 => ?_; clear h38
     refine dk 7 (v := .agg #[.string y39.1, .string y39.2.1, .bool y39.2.2]) h40 rfl rfl rfl (fun x hx => by subst hx; exact (rn_loadN rfl rfl Tryz.underlying159 rfl (by kernel_rfl) (sl_at (hs2.below hB34) hy39))) fun a41 h41 => ?_; clear h40
     refine dk 8 (v := .bool (!(y33.1.toList == y39.1.toList && y33.2.1.toList == y39.2.1.toList && y33.2.2 == y39.2.2))) h41 rfl rfl rfl (fun x hx => by subst hx; exact (rn_neS rfl rfl rfl Tryz.eqGuardType159 (eq_op _ _ _ _ _ _ _))) fun a42 h42 => ?_; clear h41
     refine dr_done (by kernel_rfl) ?_
     refine co_then ?_
     cases hc43 : (!(y33.1.toList == y39.1.toList && y33.2.1.toList == y39.2.1.toList && y33.2.2 == y39.2.2))
     ·
      rw [hc43] at h42
      refine co_false h42 rfl ?_
      refine wp_skip ?_
      refine co_blockN ?_
      refine co_then ?_
      refine co_reg ?_
      refine pk (v := .int .i64 ((i + 1 : Nat) : Int)) h42 rfl (rn_arith' rfl rfl rfl rfl rfl rfl (IntWalk.i64_in _ (by omega)) (by omega)) fun a44 h44 => ?_; clear h42
      refine pk0 (v := .int .i64 ((i + 1 : Nat) : Int)) h44 rfl fun a45 h45 => ?_; clear h44
      refine pl_nil ?_
      refine co_then ?_
      refine ⟨(l.length - (i + 1)), by omega, ?_⟩
      have hL' := sameL_step (i := i) hL hy33 hy39 (eqO_of (b := false) (by assumption))
      exact ⟨i + 1, h45.sub ⟨rfl, rfl, rfl, rfl, rfl, trivial⟩, rfl, by omega, by omega, by first | rfl | exact hL', hB34⟩
     ·
      rw [hc43] at h42
      refine co_true h42 rfl ?_
      refine co_seq ?_
      refine co_reg ?_
      refine pk0 (v := .bool false) h42 rfl fun a46 h46 => ?_; clear h42
      refine pl_nil ?_
      refine co_then ?_
      refine wp_ret ?_
      refine co_blockR ?_
      refine co_thenR ?_
      refine co_thenR ?_
      refine co_blockR ?_
      refine co_thenR ?_
      refine co_ret1 h46 rfl rfl ?_
      exact ⟨ret_bool (sameL_no (i := i) hL hy33 hy39 (eqO_of (b := true) (by assumption))), hB34⟩
 ·
  rw [hc7] at h6
  have hp47 : ((l.length : Nat) : Int) ≠ ((l2.length : Nat) : Int) := by first | simpa using hc7 | simpa [and_assoc] using hc7
  clear hc7
  refine co_true h6 rfl ?_
  refine co_seq ?_
  refine co_reg ?_
  refine pk0 (v := .bool false) h6 rfl fun a48 h48 => ?_; clear h6
  refine pl_nil ?_
  refine co_then ?_
  refine wp_ret ?_
  refine co_thenR ?_
  refine co_ret1 h48 rfl rfl ?_
  exact ⟨ret_bool (sameL_len (by omega)), hB0⟩
set_option maxRecDepth 100000 in
theorem rsameOps_any (v : Value) (l : List OpT) (v2 : Value) (l2 : List OpT) (w : World) (hs : SliceOf opE 3 w v l) (hs2 : SliceOf opE 3 w v2 l2) :
    Calls Tryz.prog 109 #[v, v2] w fun e w' => e = .returned (.bool (sameL l l2)) ∧ Below w.heap.size w w' := by
 have hB0 := Below.refl w.heap.size w
 have hl_hs := sl_len hs
 have hl_hs2 := sl_len hs2
 refine co_enter (n := 32) Tryz.func109 rfl rfl rfl [(0, v), (1, v2)] rfl (fun a h0 => ?_)
 refine co_seq ?_
 refine co_reg ?_
 refine pk0 (v := .bool false) h0 rfl fun a1 h1 => ?_; clear h0
 refine pl_nil ?_
 refine co_then ?_
 refine co_seq ?_
 refine co_seq ?_
 refine co_reg ?_
 refine pk0 (v := v) h1 rfl fun a2 h2 => ?_; clear h1
 refine pk (v := .int .i64 ((l.length : Nat) : Int)) h2 rfl (rn_len rfl rfl Tryz.underlying27 hs) fun a3 h3 => ?_; clear h2
 refine pk0 (v := v2) h3 rfl fun a4 h4 => ?_; clear h3
 refine pk (v := .int .i64 ((l2.length : Nat) : Int)) h4 rfl (rn_len rfl rfl Tryz.underlying27 hs2) fun a5 h5 => ?_; clear h4
 refine pk0 (v := .bool (((l.length : Nat) : Int) != ((l2.length : Nat) : Int))) h5 rfl fun a6 h6 => ?_; clear h5
 refine pl_nil ?_
 refine co_then ?_
 cases hc7 : (((l.length : Nat) : Int) != ((l2.length : Nat) : Int))
 ·
  rw [hc7] at h6
  have hp8 : ¬ (((l.length : Nat) : Int) ≠ ((l2.length : Nat) : Int)) := by first | simpa using hc7 | simpa [and_assoc] using hc7
  clear hc7
  refine co_false h6 rfl ?_
  refine wp_skip ?_
  refine co_then ?_
  refine co_seq ?_
  refine co_seq ?_
  refine co_reg ?_
  refine pk0 (v := .int .i64 0) h6 rfl fun a9 h9 => ?_; clear h6
  refine pl_nil ?_
  refine co_then ?_
  refine wp_block ?_
  have h10 : Slots 32 [(0, v), (1, v2), (4, .bool false), (5, .int .i64 0)] _ := h9.sub ⟨rfl, rfl, rfl, rfl, trivial⟩; clear h9
  refine co_loop (fun mm a x => ∃ (i : Nat), Slots 32 [(0, v), (1, v2), (4, .bool false), (5, .int .i64 ((i : Nat) : Int))] a ∧ mm = l.length - i ∧ (i ≤ l.length) ∧ (l.length = l2.length) ∧ (sameL (l.drop i) (l2.drop i) = sameL l l2) ∧ Below w.heap.size w x) (l.length - 0) ?_ ?_
  · exact ⟨0, h10.sub ⟨rfl, rfl, rfl, (slot_eq rfl (congrArg (Value.int .i64) (by first | rfl | omega))), trivial⟩, rfl, by omega, by omega, by first | rfl | exact hL', hB0⟩
  · rintro k11 a12 w13 ⟨i, h12, rfl, hi14, hi15, hi16, hB17⟩
    have hz18 := hB17.size
    have hL : sameL (l.drop i) (l2.drop i) = sameL l l2 := by assumption
    refine co_seq ?_
    refine co_seq ?_
    refine co_reg ?_
    refine pk0 (v := .int .i64 ((i : Nat) : Int)) h12 rfl fun a19 h19 => ?_; clear h12
    refine pk0 (v := v) h19 rfl fun a20 h20 => ?_; clear h19
    refine pk (v := .int .i64 ((l.length : Nat) : Int)) h20 rfl (rn_len rfl rfl Tryz.underlying27 (hs.below hB17)) fun a21 h21 => ?_; clear h20
    refine pk0 (v := .bool (decide (((i : Nat) : Int) < ((l.length : Nat) : Int)))) h21 rfl fun a22 h22 => ?_; clear h21
    refine pk0 (v := .bool (decide (((i : Nat) : Int) < ((l.length : Nat) : Int)))) h22 rfl fun a23 h23 => ?_; clear h22
    cases hc24 : (decide (((i : Nat) : Int) < ((l.length : Nat) : Int)))
    ·
     rw [hc24] at h23
     have hp25 : ¬ (((i : Nat) : Int) < ((l.length : Nat) : Int)) := of_decide_eq_false hc24
     clear hc24
     refine psk h23 rfl fun a26 h26 => ?_; clear h23
     refine psk h26 rfl fun a27 h27 => ?_; clear h26
     refine psk h27 rfl fun a28 h28 => ?_; clear h27
     refine psk h28 rfl fun a29 h29 => ?_; clear h28
     refine pk0 (v := .bool false) h29 rfl fun a30 h30 => ?_; clear h29
     refine pl_nil ?_
     refine co_then ?_
     refine co_false h30 rfl ?_
     refine wp_exit ?_
     refine co_thenX ?_
     refine co_thenX ?_
     refine co_blockX ?_
     refine co_then ?_
     refine co_seq ?_
     refine co_reg ?_
     refine pk0 (v := .bool true) h30 rfl fun a31 h31 => ?_; clear h30
     refine pl_nil ?_
     refine co_then ?_
     refine wp_ret ?_
     refine co_ret1 h31 rfl rfl ?_
     exact ⟨ret_bool (sameL_end (i := i) hL (by omega) (by omega)), hB17⟩
    ·
     rw [hc24] at h23
     have hp32 : ((i : Nat) : Int) < ((l.length : Nat) : Int) := of_decide_eq_true hc24
     clear hc24
     refine pk0 (v := .int .i64 ((i : Nat) : Int)) h23 rfl fun a33 h33 => ?_; clear h23
     refine pk0 (v := v2) h33 rfl fun a34 h34 => ?_; clear h33
     refine pk (v := .int .i64 ((l2.length : Nat) : Int)) h34 rfl (rn_len rfl rfl Tryz.underlying27 (hs2.below hB17)) fun a35 h35 => ?_; clear h34
     refine pk0 (v := .bool (decide (((i : Nat) : Int) < ((l2.length : Nat) : Int)))) h35 rfl fun a36 h36 => ?_; clear h35
     refine pk0 (v := .bool (decide (((i : Nat) : Int) < ((l2.length : Nat) : Int)))) h36 rfl fun a37 h37 => ?_; clear h36
     refine pl_nil ?_
     refine co_then ?_
     have hc38 : (decide (((i : Nat) : Int) < ((l2.length : Nat) : Int))) = true := decide_eq_true (by omega)
     rw [hc38] at h37; clear hc38
     refine co_true h37 rfl ?_
     refine wp_skip ?_
     refine co_then ?_
     refine co_seq ?_
     refine wp_block ?_
     refine co_seq ?_
     refine dr_eq (by kernel_rfl) (fun w39 hg40 => ?_)
     have hz41 := hg40.size
     refine dk0 0 (v := v) h37 rfl rfl rfl fun a42 h42 => ?_; clear h37
     refine dk0 1 (v := .int .i64 ((i : Nat) : Int)) h42 rfl rfl rfl fun a43 h43 => ?_; clear h42
     have hB45 := hb_new hB17 hg40
     obtain ⟨y44, hy44⟩ : ∃ z, l[i]? = some z := ⟨_, List.getElem?_eq_getElem (by first | omega | (simp; done) | (simp; omega))⟩
     refine dk 2 (v := pt (blkOf v) (offOf v + i * 3)) h43 rfl rfl rfl (fun x hx => by subst hx; exact (rn_index rfl rfl rfl Tryz.underlying27 Tryz.sizeOf159 (hs.below hB45) (by omega) (by first | omega | (simp; done) | (simp; omega)))) fun a46 h46 => ?_; clear h43
     refine dk 3 (v := .agg #[.string y44.1, .string y44.2.1, .bool y44.2.2]) h46 rfl rfl rfl (fun x hx => by subst hx; exact (rn_loadN rfl rfl Tryz.underlying159 rfl (by kernel_rfl) (sl_at (hs.below hB45) hy44))) fun a47 h47 => ?_; clear h46
     refine dk0 4 (v := v2) h47 rfl rfl rfl fun a48 h48 => ?_; clear h47
     refine dk0 5 (v := .int .i64 ((i : Nat) : Int)) h48 rfl rfl rfl fun a49 h49 => ?_; clear h48
     obtain ⟨y50, hy50⟩ : ∃ z, l2[i]? = some z := ⟨_, List.getElem?_eq_getElem (by first | omega | (simp; done) | (simp; omega))⟩
     refine dk 6 (v := pt (blkOf v2) (offOf v2 + i * 3)) h49 rfl rfl rfl (fun x hx => by subst hx; exact (rn_index rfl rfl rfl Tryz.underlying27 Tryz.sizeOf159 (hs2.below hB45) (by omega) (by first | omega | (simp; done) | (simp; omega)))) fun a51 h51 => ?_; clear h49
     refine dk 7 (v := .agg #[.string y50.1, .string y50.2.1, .bool y50.2.2]) h51 rfl rfl rfl (fun x hx => by subst hx; exact (rn_loadN rfl rfl Tryz.underlying159 rfl (by kernel_rfl) (sl_at (hs2.below hB45) hy50))) fun a52 h52 => ?_; clear h51
     refine dk 8 (v := .bool (!(y44.1.toList == y50.1.toList && y44.2.1.toList == y50.2.1.toList && y44.2.2 == y50.2.2))) h52 rfl rfl rfl (fun x hx => by subst hx; exact (rn_neS rfl rfl rfl Tryz.eqGuardType159 (eq_op _ _ _ _ _ _ _))) fun a53 h53 => ?_; clear h52
     refine dr_done (by kernel_rfl) ?_
     refine co_then ?_
     cases hc54 : (!(y44.1.toList == y50.1.toList && y44.2.1.toList == y50.2.1.toList && y44.2.2 == y50.2.2))
     ·
      rw [hc54] at h53
      refine co_false h53 rfl ?_
      refine wp_skip ?_
      refine co_blockN ?_
      refine co_then ?_
      refine co_reg ?_
      refine pk0 (v := .int .i64 ((i : Nat) : Int)) h53 rfl fun a55 h55 => ?_; clear h53
      refine pk (v := .int .i64 ((i + 1 : Nat) : Int)) h55 rfl (rn_arith' rfl rfl rfl rfl rfl rfl (IntWalk.i64_in _ (by omega)) (by omega)) fun a56 h56 => ?_; clear h55
      refine pk0 (v := .int .i64 ((i + 1 : Nat) : Int)) h56 rfl fun a57 h57 => ?_; clear h56
      refine pl_nil ?_
      refine co_then ?_
      refine ⟨(l.length - (i + 1)), by omega, ?_⟩
      have hL' := sameL_step (i := i) hL hy44 hy50 (eqO_of (b := false) (by assumption))
      exact ⟨i + 1, h57.sub ⟨rfl, rfl, rfl, rfl, trivial⟩, rfl, by omega, by omega, by first | rfl | exact hL', hB45⟩
     ·
      rw [hc54] at h53
      refine co_true h53 rfl ?_
      refine co_seq ?_
      refine co_reg ?_
      refine pk0 (v := .bool false) h53 rfl fun a58 h58 => ?_; clear h53
      refine pl_nil ?_
      refine co_then ?_
      refine wp_ret ?_
      refine co_blockR ?_
      refine co_thenR ?_
      refine co_thenR ?_
      refine co_blockR ?_
      refine co_thenR ?_
      refine co_ret1 h58 rfl rfl ?_
      exact ⟨ret_bool (sameL_no (i := i) hL hy44 hy50 (eqO_of (b := true) (by assumption))), hB45⟩
 ·
  rw [hc7] at h6
  have hp59 : ((l.length : Nat) : Int) ≠ ((l2.length : Nat) : Int) := by first | simpa using hc7 | simpa [and_assoc] using hc7
  clear hc7
  refine co_true h6 rfl ?_
  refine co_seq ?_
  refine co_reg ?_
  refine pk0 (v := .bool false) h6 rfl fun a60 h60 => ?_; clear h6
  refine pl_nil ?_
  refine co_then ?_
  refine wp_ret ?_
  refine co_thenR ?_
  refine co_ret1 h60 rfl rfl ?_
  exact ⟨ret_bool (sameL_len (by omega)), hB0⟩
set_option maxRecDepth 100000 in
theorem opsSame_any (c : Int) (r : Int) (v : Value) (l : List OpT) (c2 : Int) (r2 : Int) (v2 : Value) (l2 : List OpT) (w : World) (hs : SliceOf opE 3 w v l) (hs2 : SliceOf opE 3 w v2 l2) :
    Calls Tryz.prog 112 #[.agg #[.int .i64 c, .int .i64 r, v], .agg #[.int .i64 c2, .int .i64 r2, v2]] w fun e w' => e = .returned (.bool (sameB c r l c2 r2 l2)) ∧ Below w.heap.size w w' := by
 have hB0 := Below.refl w.heap.size w
 have hl_hs := sl_len hs
 have hl_hs2 := sl_len hs2
 refine co_enter (n := 24) Tryz.func112 rfl rfl rfl [(0, .agg #[.int .i64 c, .int .i64 r, v]), (1, .agg #[.int .i64 c2, .int .i64 r2, v2])] rfl (fun a h0 => ?_)
 refine co_seq ?_
 refine co_reg ?_
 refine pw h0 rfl (op_new (v := fun N => pt N 0) (T := 29) (cs := #[.int .i64 c, .int .i64 r, v]) (by kernel_rfl) (by kernel_rfl) (by kernel_rfl)) ?_; clear h0
 rintro _ w2 a1 ⟨N3, rfl, hN6, hz7, hk5, hg4⟩ h1
 have hz8 := hg4.size
 try dsimp only at h1
 refine pw h1 rfl (op_new (v := fun N => pt N 0) (T := 29) (cs := #[.int .i64 c2, .int .i64 r2, v2]) (by kernel_rfl) (by kernel_rfl) (by kernel_rfl)) ?_; clear h1
 rintro _ w10 a9 ⟨N11, rfl, hN14, hz15, hk13, hg12⟩ h9
 have hz16 := hg12.size
 try dsimp only at h9
 refine pk0 (v := .bool false) h9 rfl fun a17 h17 => ?_; clear h9
 refine pl_nil ?_
 refine co_then ?_
 refine co_seq ?_
 refine co_reg ?_
 refine pk0 (v := pt N3 0) h17 rfl fun a18 h18 => ?_; clear h17
 have hk19 := hk5.kept hg12 (by simp)
 refine pk (v := .int .i64 c) h18 rfl (rn_load1 rfl rfl Tryz.isAgg3 (hk19.cell rfl)) fun a20 h20 => ?_; clear h18
 refine pk0 (v := pt N11 0) h20 rfl fun a21 h21 => ?_; clear h20
 refine pk (v := .int .i64 c2) h21 rfl (rn_load1 rfl rfl Tryz.isAgg3 (hk13.cell rfl)) fun a22 h22 => ?_; clear h21
 refine pk0 (v := .bool (c == c2)) h22 rfl fun a23 h23 => ?_; clear h22
 refine pk0 (v := .bool (c == c2)) h23 rfl fun a24 h24 => ?_; clear h23
 have hB26 := hb_new hB0 hg4
 have hB27 := hb_new hB26 hg12
 cases hc25 : (c == c2)
 ·
  rw [hc25] at h24
  have hp28 : ¬ (c = c2) := by first | simpa using hc25 | simpa [and_assoc] using hc25
  clear hc25
  refine psk h24 rfl fun a29 h29 => ?_; clear h24
  refine psk h29 rfl fun a30 h30 => ?_; clear h29
  refine psk h30 rfl fun a31 h31 => ?_; clear h30
  refine psk h31 rfl fun a32 h32 => ?_; clear h31
  refine psk h32 rfl fun a33 h33 => ?_; clear h32
  refine pk0 (v := .bool false) h33 rfl fun a34 h34 => ?_; clear h33
  refine pk0 (v := .bool false) h34 rfl fun a35 h35 => ?_; clear h34
  refine psk h35 rfl fun a36 h36 => ?_; clear h35
  refine psk h36 rfl fun a37 h37 => ?_; clear h36
  refine psk h37 rfl fun a38 h38 => ?_; clear h37
  refine psk h38 rfl fun a39 h39 => ?_; clear h38
  refine psk h39 rfl fun a40 h40 => ?_; clear h39
  refine pk0 (v := .bool false) h40 rfl fun a41 h41 => ?_; clear h40
  refine pk0 (v := .bool false) h41 rfl fun a42 h42 => ?_; clear h41
  refine pl_nil ?_
  refine co_then ?_
  refine wp_ret ?_
  refine co_ret1 h42 rfl rfl ?_
  exact ⟨ret_bool (sameB_n (fun hq => by omega)), hB27⟩
 ·
  rw [hc25] at h24
  have hp43 : c = c2 := by first | simpa using hc25 | simpa [and_assoc] using hc25
  clear hc25
  refine pk0 (v := pt N3 1) h24 rfl fun a44 h44 => ?_; clear h24
  refine pk (v := .int .i64 r) h44 rfl (rn_load1 rfl rfl Tryz.isAgg3 (hk19.cell rfl)) fun a45 h45 => ?_; clear h44
  refine pk0 (v := pt N11 1) h45 rfl fun a46 h46 => ?_; clear h45
  refine pk (v := .int .i64 r2) h46 rfl (rn_load1 rfl rfl Tryz.isAgg3 (hk13.cell rfl)) fun a47 h47 => ?_; clear h46
  refine pk0 (v := .bool (r == r2)) h47 rfl fun a48 h48 => ?_; clear h47
  refine pk0 (v := .bool (r == r2)) h48 rfl fun a49 h49 => ?_; clear h48
  refine pk0 (v := .bool (r == r2)) h49 rfl fun a50 h50 => ?_; clear h49
  cases hc51 : (r == r2)
  ·
   rw [hc51] at h50
   have hp52 : ¬ (r = r2) := by first | simpa using hc51 | simpa [and_assoc] using hc51
   clear hc51
   refine psk h50 rfl fun a53 h53 => ?_; clear h50
   refine psk h53 rfl fun a54 h54 => ?_; clear h53
   refine psk h54 rfl fun a55 h55 => ?_; clear h54
   refine psk h55 rfl fun a56 h56 => ?_; clear h55
   refine psk h56 rfl fun a57 h57 => ?_; clear h56
   refine pk0 (v := .bool false) h57 rfl fun a58 h58 => ?_; clear h57
   refine pk0 (v := .bool false) h58 rfl fun a59 h59 => ?_; clear h58
   refine pl_nil ?_
   refine co_then ?_
   refine wp_ret ?_
   refine co_ret1 h59 rfl rfl ?_
   exact ⟨ret_bool (sameB_n (fun hq => by omega)), hB27⟩
  ·
   rw [hc51] at h50
   have hp60 : r = r2 := by first | simpa using hc51 | simpa [and_assoc] using hc51
   clear hc51
   refine pk0 (v := pt N3 2) h50 rfl fun a61 h61 => ?_; clear h50
   refine pk (v := v) h61 rfl (rn_load1 rfl rfl Tryz.isAgg27 (hk19.cell rfl)) fun a62 h62 => ?_; clear h61
   refine pk0 (v := pt N11 2) h62 rfl fun a63 h63 => ?_; clear h62
   refine pk (v := v2) h63 rfl (rn_load1 rfl rfl Tryz.isAgg27 (hk13.cell rfl)) fun a64 h64 => ?_; clear h63
   refine pw h64 rfl (op_call (args := #[v, v2]) (R := fun res xw => res = .bool (sameL l l2) ∧ Below w10.heap.size w10 xw) rfl rfl rfl (by kernel_rfl) (by kernel_rfl) (Tryz.call148 _ _) (equalOp_any v l v2 l2 w10 (hs.below hB27) (hs2.below hB27)) (by rintro e x ⟨rfl, hb67⟩; exact ⟨_, rfl, ⟨rfl, hb67⟩⟩)) ?_; clear h64
   rintro _ w66 a65 ⟨rfl, hb67⟩ h65
   have hz68 := hb67.size
   refine pk0 (v := .bool (sameL l l2)) h65 rfl fun a69 h69 => ?_; clear h65
   refine pk0 (v := .bool (sameL l l2)) h69 rfl fun a70 h70 => ?_; clear h69
   refine pl_nil ?_
   refine co_then ?_
   refine wp_ret ?_
   refine co_ret1 h70 rfl rfl ?_
   have hB71 := hb_call hB27 hb67
   exact ⟨ret_bool (sameB_y (by omega) (by omega)), hB71⟩
set_option maxRecDepth 100000 in
theorem ropsSame_any (c : Int) (r : Int) (v : Value) (l : List OpT) (c2 : Int) (r2 : Int) (v2 : Value) (l2 : List OpT) (w : World) (hs : SliceOf opE 3 w v l) (hs2 : SliceOf opE 3 w v2 l2) :
    Calls Tryz.prog 42 #[.agg #[.int .i64 c, .int .i64 r, v], .agg #[.int .i64 c2, .int .i64 r2, v2]] w fun e w' => e = .returned (.bool (sameB c r l c2 r2 l2)) ∧ Below w.heap.size w w' := by
 have hB0 := Below.refl w.heap.size w
 have hl_hs := sl_len hs
 have hl_hs2 := sl_len hs2
 refine co_enter (n := 24) Tryz.func42 rfl rfl rfl [(0, .agg #[.int .i64 c, .int .i64 r, v]), (1, .agg #[.int .i64 c2, .int .i64 r2, v2])] rfl (fun a h0 => ?_)
 refine co_seq ?_
 refine co_reg ?_
 refine pw h0 rfl (op_new (v := fun N => pt N 0) (T := 29) (cs := #[.int .i64 c, .int .i64 r, v]) (by kernel_rfl) (by kernel_rfl) (by kernel_rfl)) ?_; clear h0
 rintro _ w2 a1 ⟨N3, rfl, hN6, hz7, hk5, hg4⟩ h1
 have hz8 := hg4.size
 try dsimp only at h1
 refine pw h1 rfl (op_new (v := fun N => pt N 0) (T := 29) (cs := #[.int .i64 c2, .int .i64 r2, v2]) (by kernel_rfl) (by kernel_rfl) (by kernel_rfl)) ?_; clear h1
 rintro _ w10 a9 ⟨N11, rfl, hN14, hz15, hk13, hg12⟩ h9
 have hz16 := hg12.size
 try dsimp only at h9
 refine pk0 (v := .bool false) h9 rfl fun a17 h17 => ?_; clear h9
 refine pl_nil ?_
 refine co_then ?_
 refine co_seq ?_
 refine co_reg ?_
 refine pk0 (v := pt N3 0) h17 rfl fun a18 h18 => ?_; clear h17
 have hk19 := hk5.kept hg12 (by simp)
 refine pk (v := .int .i64 c) h18 rfl (rn_load1 rfl rfl Tryz.isAgg3 (hk19.cell rfl)) fun a20 h20 => ?_; clear h18
 refine pk0 (v := pt N11 0) h20 rfl fun a21 h21 => ?_; clear h20
 refine pk (v := .int .i64 c2) h21 rfl (rn_load1 rfl rfl Tryz.isAgg3 (hk13.cell rfl)) fun a22 h22 => ?_; clear h21
 refine pk0 (v := .bool (c == c2)) h22 rfl fun a23 h23 => ?_; clear h22
 refine pk0 (v := .bool (c == c2)) h23 rfl fun a24 h24 => ?_; clear h23
 have hB26 := hb_new hB0 hg4
 have hB27 := hb_new hB26 hg12
 cases hc25 : (c == c2)
 ·
  rw [hc25] at h24
  have hp28 : ¬ (c = c2) := by first | simpa using hc25 | simpa [and_assoc] using hc25
  clear hc25
  refine psk h24 rfl fun a29 h29 => ?_; clear h24
  refine psk h29 rfl fun a30 h30 => ?_; clear h29
  refine psk h30 rfl fun a31 h31 => ?_; clear h30
  refine psk h31 rfl fun a32 h32 => ?_; clear h31
  refine psk h32 rfl fun a33 h33 => ?_; clear h32
  refine pk0 (v := .bool false) h33 rfl fun a34 h34 => ?_; clear h33
  refine pk0 (v := .bool false) h34 rfl fun a35 h35 => ?_; clear h34
  refine psk h35 rfl fun a36 h36 => ?_; clear h35
  refine psk h36 rfl fun a37 h37 => ?_; clear h36
  refine psk h37 rfl fun a38 h38 => ?_; clear h37
  refine psk h38 rfl fun a39 h39 => ?_; clear h38
  refine psk h39 rfl fun a40 h40 => ?_; clear h39
  refine pk0 (v := .bool false) h40 rfl fun a41 h41 => ?_; clear h40
  refine pk0 (v := .bool false) h41 rfl fun a42 h42 => ?_; clear h41
  refine pl_nil ?_
  refine co_then ?_
  refine wp_ret ?_
  refine co_ret1 h42 rfl rfl ?_
  exact ⟨ret_bool (sameB_n (fun hq => by omega)), hB27⟩
 ·
  rw [hc25] at h24
  have hp43 : c = c2 := by first | simpa using hc25 | simpa [and_assoc] using hc25
  clear hc25
  refine pk0 (v := pt N3 1) h24 rfl fun a44 h44 => ?_; clear h24
  refine pk (v := .int .i64 r) h44 rfl (rn_load1 rfl rfl Tryz.isAgg3 (hk19.cell rfl)) fun a45 h45 => ?_; clear h44
  refine pk0 (v := pt N11 1) h45 rfl fun a46 h46 => ?_; clear h45
  refine pk (v := .int .i64 r2) h46 rfl (rn_load1 rfl rfl Tryz.isAgg3 (hk13.cell rfl)) fun a47 h47 => ?_; clear h46
  refine pk0 (v := .bool (r == r2)) h47 rfl fun a48 h48 => ?_; clear h47
  refine pk0 (v := .bool (r == r2)) h48 rfl fun a49 h49 => ?_; clear h48
  refine pk0 (v := .bool (r == r2)) h49 rfl fun a50 h50 => ?_; clear h49
  cases hc51 : (r == r2)
  ·
   rw [hc51] at h50
   have hp52 : ¬ (r = r2) := by first | simpa using hc51 | simpa [and_assoc] using hc51
   clear hc51
   refine psk h50 rfl fun a53 h53 => ?_; clear h50
   refine psk h53 rfl fun a54 h54 => ?_; clear h53
   refine psk h54 rfl fun a55 h55 => ?_; clear h54
   refine psk h55 rfl fun a56 h56 => ?_; clear h55
   refine psk h56 rfl fun a57 h57 => ?_; clear h56
   refine pk0 (v := .bool false) h57 rfl fun a58 h58 => ?_; clear h57
   refine pk0 (v := .bool false) h58 rfl fun a59 h59 => ?_; clear h58
   refine pl_nil ?_
   refine co_then ?_
   refine wp_ret ?_
   refine co_ret1 h59 rfl rfl ?_
   exact ⟨ret_bool (sameB_n (fun hq => by omega)), hB27⟩
  ·
   rw [hc51] at h50
   have hp60 : r = r2 := by first | simpa using hc51 | simpa [and_assoc] using hc51
   clear hc51
   refine pk0 (v := pt N3 2) h50 rfl fun a61 h61 => ?_; clear h50
   refine pk (v := v) h61 rfl (rn_load1 rfl rfl Tryz.isAgg27 (hk19.cell rfl)) fun a62 h62 => ?_; clear h61
   refine pk0 (v := pt N11 2) h62 rfl fun a63 h63 => ?_; clear h62
   refine pk (v := v2) h63 rfl (rn_load1 rfl rfl Tryz.isAgg27 (hk13.cell rfl)) fun a64 h64 => ?_; clear h63
   refine pw h64 rfl (op_call (args := #[v, v2]) (R := fun res xw => res = .bool (sameL l l2) ∧ Below w10.heap.size w10 xw) rfl rfl rfl (by kernel_rfl) (by kernel_rfl) (Tryz.call109 _ _) (rsameOps_any v l v2 l2 w10 (hs.below hB27) (hs2.below hB27)) (by rintro e x ⟨rfl, hb67⟩; exact ⟨_, rfl, ⟨rfl, hb67⟩⟩)) ?_; clear h64
   rintro _ w66 a65 ⟨rfl, hb67⟩ h65
   have hz68 := hb67.size
   refine pk0 (v := .bool (sameL l l2)) h65 rfl fun a69 h69 => ?_; clear h65
   refine pk0 (v := .bool (sameL l l2)) h69 rfl fun a70 h70 => ?_; clear h69
   refine pl_nil ?_
   refine co_then ?_
   refine wp_ret ?_
   refine co_ret1 h70 rfl rfl ?_
   have hB71 := hb_call hB27 hb67
   exact ⟨ret_bool (sameB_y (by omega) (by omega)), hB71⟩
set_option maxRecDepth 100000 in
theorem opsPut_any (c : Int) (r : Int) (v : Value) (l : List OpT) (w : World) (hs : SliceOf opE 3 w v l) :
    Calls Tryz.prog 95 #[.agg #[.int .i64 c, .int .i64 r, v]] w fun e w' => e = .returned (.tuple #[.string (putB c r l), .int .i64 (chkB c r l)]) ∧ Below w.heap.size w w' := by
 have hcb : chkB c r l = 0 → ((0 ≤ c ∧ c < 3) ∧ (1 ≤ r ∧ r ≤ 1073741824) ∧ l.length ≤ 4) := fun h => ⟨(chkB_ok h).1, (chkB_ok h).2.1, (chkB_ok h).2.2.1⟩
 have hB0 := Below.refl w.heap.size w
 have hl_hs := sl_len hs
 refine co_enter (n := 46) Tryz.func95 rfl rfl rfl [(0, .agg #[.int .i64 c, .int .i64 r, v])] rfl (fun a h0 => ?_)
 refine co_seq ?_
 refine co_reg ?_
 refine pw h0 rfl (op_new (v := fun N => pt N 0) (T := 29) (cs := #[.int .i64 c, .int .i64 r, v]) (by kernel_rfl) (by kernel_rfl) (by kernel_rfl)) ?_; clear h0
 rintro _ w2 a1 ⟨N3, rfl, hN6, hz7, hk5, hg4⟩ h1
 have hz8 := hg4.size
 try dsimp only at h1
 refine pk0 (v := .string (⟨#[]⟩)) h1 rfl fun a9 h9 => ?_; clear h1
 refine pk0 (v := .int .i64 0) h9 rfl fun a10 h10 => ?_; clear h9
 refine pl_nil ?_
 refine co_then ?_
 refine co_seq ?_
 refine co_seq ?_
 refine co_reg ?_
 refine pk (v := .agg #[.int .i64 c, .int .i64 r, v]) h10 rfl (rn_loadN rfl rfl Tryz.underlying29 rfl (by kernel_rfl) hk5.all) fun a11 h11 => ?_; clear h10
 have hB14 := hb_new hB0 hg4
 refine pw h11 rfl (op_call (args := #[.agg #[.int .i64 c, .int .i64 r, v]]) (R := fun res xw => res = .int .i64 (chkB c r l) ∧ Below w2.heap.size w2 xw) rfl rfl rfl (by kernel_rfl) (by kernel_rfl) (Tryz.call100 _ _) (opsCheck_any c r v l w2 (hs.below hB14)) (by rintro e x ⟨rfl, hb15⟩; exact ⟨_, rfl, ⟨rfl, hb15⟩⟩)) ?_; clear h11
 rintro _ w13 a12 ⟨rfl, hb15⟩ h12
 have hz16 := hb15.size
 refine pk0 (v := .int .i64 (chkB c r l)) h12 rfl fun a17 h17 => ?_; clear h12
 refine pl_nil ?_
 refine co_then ?_
 refine co_seq ?_
 refine co_reg ?_
 refine pk0 (v := .int .i64 (chkB c r l)) h17 rfl fun a18 h18 => ?_; clear h17
 refine pk0 (v := .bool (chkB c r l != 0)) h18 rfl fun a19 h19 => ?_; clear h18
 refine pl_nil ?_
 refine co_then ?_
 have hB21 := hb_call hB14 hb15
 cases hc20 : (chkB c r l != 0)
 ·
  rw [hc20] at h19
  have hp22 : ¬ (chkB c r l ≠ 0) := by first | simpa using hc20 | simpa [and_assoc] using hc20
  clear hc20
  refine co_false h19 rfl ?_
  refine wp_skip ?_
  refine co_then ?_
  refine co_seq ?_
  refine dr_gen (fun x => Below w.heap.size w x ∧ Blk x N3 29 #[.int .i64 c, .int .i64 r, v]) (by kernel_rfl) (fun w23 hg24 => ?_) (fun w23 hg24 => ?_)
  ·
   have hz25 := hg24.size
   have hB26 := hb_new hB21 hg24
   have hk27 := hk5.below hb15
   have hk28 := hk27.kept hg24 (by simp)
   exact ⟨hB26, hk28⟩
  have hz29 := hg24.size
  have hB30 := hb_new hB21 hg24
  have hk31 := hk5.below hb15
  have hk32 := hk31.kept hg24 (by simp)
  refine dk0 1 (v := pt N3 0) h19 rfl rfl ⟨hB30, hk32⟩ fun a33 h33 => ?_; clear h19
  refine dk 2 (v := .int .i64 c) h33 rfl rfl ⟨hB30, hk32⟩ (fun x hx => (rn_load1 rfl rfl Tryz.isAgg3 (hx.2.cell rfl))) fun a34 h34 => ?_; clear h33
  refine dk0 4 (v := pt N3 1) h34 rfl rfl ⟨hB30, hk32⟩ fun a35 h35 => ?_; clear h34
  refine dk 5 (v := .int .i64 r) h35 rfl rfl ⟨hB30, hk32⟩ (fun x hx => (rn_load1 rfl rfl Tryz.isAgg3 (hx.2.cell rfl))) fun a36 h36 => ?_; clear h35
  refine dk0 7 (v := pt N3 2) h36 rfl rfl ⟨hB30, hk32⟩ fun a37 h37 => ?_; clear h36
  refine dk 8 (v := v) h37 rfl rfl ⟨hB30, hk32⟩ (fun x hx => (rn_load1 rfl rfl Tryz.isAgg27 (hx.2.cell rfl))) fun a38 h38 => ?_; clear h37
  refine dk 9 (v := .int .i64 ((l.length : Nat) : Int)) h38 rfl rfl ⟨hB30, hk32⟩ (fun x hx => (rn_len rfl rfl Tryz.underlying27 (hs.below hx.1))) fun a39 h39 => ?_; clear h38
  refine d1 0 h39 rfl rfl (op_call (args := #[]) (R := fun res xw => ∃ b : Nat, res = pt b 0 ∧ b = w23.heap.size ∧ OW b [] 0 xw ∧ Below w23.heap.size w23 xw) rfl rfl rfl (by kernel_rfl) (by kernel_rfl) (Tryz.call29 _ _) (ow_new w23) (by rintro e x ⟨b, rfl, h0, h1, h2⟩; exact ⟨_, rfl, b, rfl, h0, h1, h2⟩)) ?_ ?_; clear h39
  ·
   rintro _ w41 ⟨b42, rfl, hN43, ho44, hb45⟩
   have hz46 := hb45.size
   have hl47 := ho44.lt
   have hB48 := hb_call hB30 hb45
   have hk49 := hk32.below hb45
   exact ⟨hB48, hk49⟩
  rintro _ w41 a40 ⟨b42, rfl, hN43, ho44, hb45⟩ h40
  have hz46 := hb45.size
  have hl47 := ho44.lt
  have hB48 := hb_call hB30 hb45
  have hk49 := hk32.below hb45
  refine d1 3 h40 rfl rfl (op_call (args := #[pt b42 0, .int .i64 c]) (R := fun res xw => res = pt b42 0 ∧ OW b42 (([] : List UInt8) ++ putL c) (0 + 9) xw ∧ But (Rw w41 b42) w41 xw) rfl rfl rfl (by kernel_rfl) (by kernel_rfl) (Tryz.call30 _ _) (ow_num b42 ([]) 0 c w41 ho44 (by omega) (by omega) (by omega)) (by rintro e x ⟨rfl, h1, h2⟩; exact ⟨_, rfl, rfl, h1, h2⟩)) ?_ ?_; clear h40
  ·
   rintro _ w51 ⟨rfl, ho52, hx53⟩
   have hz54 := hx53.size
   have hl55 := ho52.lt
   have hB56 := hb_wr hB48 ho44 (by omega) hx53
   have hk57 := blk_wr hk49 ho44 (by decide) (by omega) hx53
   exact ⟨hB56, hk57⟩
  rintro _ w51 a50 ⟨rfl, ho52, hx53⟩ h50
  have hz54 := hx53.size
  have hl55 := ho52.lt
  have hB56 := hb_wr hB48 ho44 (by omega) hx53
  have hk57 := blk_wr hk49 ho44 (by decide) (by omega) hx53
  refine d1 6 h50 rfl rfl (op_call (args := #[pt b42 0, .int .i64 r]) (R := fun res xw => res = pt b42 0 ∧ OW b42 ((([] : List UInt8) ++ putL c) ++ putL r) (0 + 9 + 9) xw ∧ But (Rw w51 b42) w51 xw) rfl rfl rfl (by kernel_rfl) (by kernel_rfl) (Tryz.call30 _ _) (ow_num b42 (([] : List UInt8) ++ putL c) (0 + 9) r w51 ho52 (by omega) (by omega) (by omega)) (by rintro e x ⟨rfl, h1, h2⟩; exact ⟨_, rfl, rfl, h1, h2⟩)) ?_ ?_; clear h50
  ·
   rintro _ w59 ⟨rfl, ho60, hx61⟩
   have hz62 := hx61.size
   have hl63 := ho60.lt
   have hB64 := hb_wr hB56 ho52 (by omega) hx61
   have hk65 := blk_wr hk57 ho52 (by decide) (by omega) hx61
   exact ⟨hB64, hk65⟩
  rintro _ w59 a58 ⟨rfl, ho60, hx61⟩ h58
  have hz62 := hx61.size
  have hl63 := ho60.lt
  have hB64 := hb_wr hB56 ho52 (by omega) hx61
  have hk65 := blk_wr hk57 ho52 (by decide) (by omega) hx61
  refine d1 10 h58 rfl rfl (op_call (args := #[pt b42 0, .int .i64 ((l.length : Nat) : Int)]) (R := fun res xw => res = pt b42 0 ∧ OW b42 (((([] : List UInt8) ++ putL c) ++ putL r) ++ putL ((l.length : Nat) : Int)) (0 + 9 + 9 + 9) xw ∧ But (Rw w59 b42) w59 xw) rfl rfl rfl (by kernel_rfl) (by kernel_rfl) (Tryz.call30 _ _) (ow_num b42 ((([] : List UInt8) ++ putL c) ++ putL r) (0 + 9 + 9) ((l.length : Nat) : Int) w59 ho60 (by omega) (by omega) (by omega)) (by rintro e x ⟨rfl, h1, h2⟩; exact ⟨_, rfl, rfl, h1, h2⟩)) ?_ ?_; clear h58
  ·
   rintro _ w67 ⟨rfl, ho68, hx69⟩
   have hz70 := hx69.size
   have hl71 := ho68.lt
   have hB72 := hb_wr hB64 ho60 (by omega) hx69
   have hk73 := blk_wr hk65 ho60 (by decide) (by omega) hx69
   exact ⟨hB72, hk73⟩
  rintro _ w67 a66 ⟨rfl, ho68, hx69⟩ h66
  have hz70 := hx69.size
  have hl71 := ho68.lt
  have hB72 := hb_wr hB64 ho60 (by omega) hx69
  have hk73 := blk_wr hk65 ho60 (by decide) (by omega) hx69
  refine dk0 11 (v := pt b42 0) h66 rfl rfl ⟨hB72, hk73⟩ fun a74 h74 => ?_; clear h66
  refine dr_done (by kernel_rfl) ?_
  refine co_then ?_
  refine co_seq ?_
  refine co_seq ?_
  refine co_reg ?_
  refine pk0 (v := pt N3 2) h74 rfl fun a75 h75 => ?_; clear h74
  refine pk (v := v) h75 rfl (rn_load1 rfl rfl Tryz.isAgg27 (hk73.cell rfl)) fun a76 h76 => ?_; clear h75
  refine pk (v := .int .i64 ((l.length : Nat) : Int)) h76 rfl (rn_len rfl rfl Tryz.underlying27 (hs.below hB72)) fun a77 h77 => ?_; clear h76
  refine pk0 (v := .int .i64 0) h77 rfl fun a78 h78 => ?_; clear h77
  refine pl_nil ?_
  refine co_then ?_
  refine wp_block ?_
  have hck := chkB_all (c := c) (r := r) (l := l) (by omega)
  have h79 : Slots 46 [(1, pt N3 0), (2, .string (⟨#[]⟩)), (3, .int .i64 0), (5, pt b42 0), (25, v), (26, .int .i64 ((l.length : Nat) : Int)), (27, .int .i64 0)] _ := h78.sub ⟨rfl, rfl, rfl, rfl, rfl, rfl, rfl, trivial⟩; clear h78
  refine co_loop (fun mm a x => ∃ (i : Nat), Slots 46 [(1, pt N3 0), (2, .string (⟨#[]⟩)), (3, .int .i64 0), (5, pt b42 0), (25, v), (26, .int .i64 ((l.length : Nat) : Int)), (27, .int .i64 ((i : Nat) : Int))] a ∧ mm = l.length - i ∧ (i ≤ l.length) ∧ OW b42 (putH c r l ++ putOs (l.take i)) (27 + i * 35) x ∧ Below w.heap.size w x ∧ Blk x N3 29 #[.int .i64 c, .int .i64 r, v]) (l.length - 0) ?_ ?_
  · exact ⟨0, h79.sub ⟨rfl, rfl, rfl, rfl, rfl, rfl, (slot_eq rfl (congrArg (Value.int .i64) (by first | rfl | omega))), trivial⟩, rfl, by omega, (ho68.eq (by first | (simp [putH, putOs]; done) | (rw [takeO_at (by assumption)]; simp [putH, putOs, putO1])) (by first | omega | (simp; done) | (simp; omega))), hB72, hk73⟩
  · rintro k80 a81 w82 ⟨i, h81, rfl, hi83, hf84, hB85, hk86⟩
    have hz87 := hB85.size
    have hl88 := hk86.lt
    have hl89 := hf84.lt
    refine co_seq ?_
    refine co_reg ?_
    refine pk0 (v := .bool (decide (((i : Nat) : Int) < ((l.length : Nat) : Int)))) h81 rfl fun a90 h90 => ?_; clear h81
    refine pl_nil ?_
    refine co_then ?_
    refine co_seq ?_
    cases hc91 : (decide (((i : Nat) : Int) < ((l.length : Nat) : Int)))
    ·
     rw [hc91] at h90
     have hp92 : ¬ (((i : Nat) : Int) < ((l.length : Nat) : Int)) := of_decide_eq_false hc91
     clear hc91
     refine co_false h90 rfl ?_
     refine wp_exit ?_
     refine co_thenX ?_
     refine co_thenX ?_
     refine co_blockX ?_
     refine co_then ?_
     refine co_seq ?_
     refine co_reg ?_
     refine pk0 (v := pt b42 0) h90 rfl fun a93 h93 => ?_; clear h90
     refine pw h93 rfl (op_call (args := #[pt b42 0]) (R := fun res xw => res = .tuple #[.string (⟨(putH c r l ++ putOs (l.take i)).toArray⟩), .int .i64 0] ∧ Below w82.heap.size w82 xw) rfl rfl rfl (by kernel_rfl) (by kernel_rfl) (Tryz.call33 _ _) (ow_done b42 (putH c r l ++ putOs (l.take i)) (27 + i * 35) w82 hf84) (by rintro e x ⟨rfl, h2⟩; exact ⟨_, rfl, rfl, h2⟩)) ?_; clear h93
     rintro _ w95 a94 ⟨rfl, hb96⟩ h94
     have hz97 := hb96.size
     refine pk0 (v := .string (⟨(putH c r l ++ putOs (l.take i)).toArray⟩)) h94 rfl fun a98 h98 => ?_; clear h94
     refine pk0 (v := .int .i64 0) h98 rfl fun a99 h99 => ?_; clear h98
     refine pk0 (v := .string (⟨(putH c r l ++ putOs (l.take i)).toArray⟩)) h99 rfl fun a100 h100 => ?_; clear h99
     refine pk0 (v := .int .i64 0) h100 rfl fun a101 h101 => ?_; clear h100
     refine pl_nil ?_
     refine co_then ?_
     refine wp_ret ?_
     refine co_ret2 h101 rfl rfl rfl ?_
     have hB102 := hb_call hB85 hb96
     exact ⟨by rw [putB_ok (by omega), show chkB c r l = 0 by omega, List.take_of_length_le (show l.length ≤ i by omega)], hB102⟩
    ·
     rw [hc91] at h90
     have hp103 : ((i : Nat) : Int) < ((l.length : Nat) : Int) := of_decide_eq_true hc91
     clear hc91
     refine co_true h90 rfl ?_
     refine wp_skip ?_
     refine co_then ?_
     refine co_seq ?_
     refine wp_block ?_
     refine co_seq ?_
     refine co_reg ?_
     obtain ⟨y104, hy104⟩ : ∃ z, l[i]? = some z := ⟨_, List.getElem?_eq_getElem (by first | omega | (simp; done) | (simp; omega))⟩
     have oky104 := hck _ (List.mem_of_getElem? hy104)
     have k105 : y104.1.size ≤ 8 := oky104.1.2
     have k106 : y104.2.1.size ≤ 8 := oky104.2.1
     refine pk (v := pt (blkOf v) (offOf v + i * 3)) h90 rfl (rn_index rfl rfl rfl Tryz.underlying27 Tryz.sizeOf159 (hs.below hB85) (by omega) (by first | omega | (simp; done) | (simp; omega))) fun a107 h107 => ?_; clear h90
     refine pk (v := .agg #[.string y104.1, .string y104.2.1, .bool y104.2.2]) h107 rfl (rn_loadN rfl rfl Tryz.underlying159 rfl (by kernel_rfl) (sl_at (hs.below hB85) hy104)) fun a108 h108 => ?_; clear h107
     refine pw h108 rfl (op_new (v := fun N => pt N 0) (T := 159) (cs := #[.string (⟨#[]⟩), .string (⟨#[]⟩), .bool false]) (by kernel_rfl) (by kernel_rfl) (by kernel_rfl)) ?_; clear h108
     rintro _ w110 a109 ⟨N111, rfl, hN114, hz115, hk113, hg112⟩ h109
     have hz116 := hg112.size
     try dsimp only at h109
     refine pwD h109 rfl (op_storeN rfl rfl rfl (by kernel_rfl) (by kernel_rfl) hk113 rfl) ?_; clear h109
     rintro _ w118 a117 ⟨hk119, hz120, hg121⟩ h117
     have hk119' : Blk w118 N111 159 #[.string y104.1, .string y104.2.1, .bool y104.2.2] := hk119; clear hk119
     have hz122 := hg121.size
     refine pl_nil ?_
     refine co_then ?_
     refine dr_gen (fun x => Below w.heap.size w x ∧ Blk x N111 159 #[.string y104.1, .string y104.2.1, .bool y104.2.2]) (by kernel_rfl) (fun w123 hg124 => ?_) (fun w123 hg124 => ?_)
     ·
      have hz125 := hg124.size
      have hB126 := hb_new hB85 hg112
      have hB127 := hb_at hB126 hg121 (by omega)
      have hB128 := hb_new hB127 hg124
      have hk129 := hk119'.kept hg124 (by simp)
      exact ⟨hB128, hk129⟩
     have hz130 := hg124.size
     have hB131 := hb_new hB85 hg112
     have hB132 := hb_at hB131 hg121 (by omega)
     have hB133 := hb_new hB132 hg124
     have hk134 := hk119'.kept hg124 (by simp)
     refine dk0 0 (v := pt b42 0) h117 rfl rfl ⟨hB133, hk134⟩ fun a135 h135 => ?_; clear h117
     refine dk0 1 (v := pt N111 0) h135 rfl rfl ⟨hB133, hk134⟩ fun a136 h136 => ?_; clear h135
     refine dk 2 (v := .string y104.1) h136 rfl rfl ⟨hB133, hk134⟩ (fun x hx => (rn_load1 rfl rfl Tryz.isAgg9 (hx.2.cell rfl))) fun a137 h137 => ?_; clear h136
     refine dk0 4 (v := pt N111 2) h137 rfl rfl ⟨hB133, hk134⟩ fun a138 h138 => ?_; clear h137
     refine dk 5 (v := .bool y104.2.2) h138 rfl rfl ⟨hB133, hk134⟩ (fun x hx => (rn_load1 rfl rfl Tryz.isAgg4 (hx.2.cell rfl))) fun a139 h139 => ?_; clear h138
     refine dk0 7 (v := pt N111 1) h139 rfl rfl ⟨hB133, hk134⟩ fun a140 h140 => ?_; clear h139
     refine dk 8 (v := .string y104.2.1) h140 rfl rfl ⟨hB133, hk134⟩ (fun x hx => (rn_load1 rfl rfl Tryz.isAgg9 (hx.2.cell rfl))) fun a141 h141 => ?_; clear h140
     have ho146 := hf84.new hg112
     have ho147 := ho146.at hk113 (by decide) (by omega) hg121
     have ho148 := ho147.new hg124
     refine d1 3 h141 rfl rfl (op_call (args := #[pt b42 0, .string y104.1]) (R := fun res xw => res = pt b42 0 ∧ OW b42 ((putH c r l ++ putOs (l.take i)) ++ (putL (y104.1.size : Int) ++ y104.1.data.toList)) (27 + i * 35 + (9 + y104.1.size)) xw ∧ But (Rw w123 b42) w123 xw) rfl rfl rfl (by kernel_rfl) (by kernel_rfl) (Tryz.call67 _ _) (ow_text b42 (putH c r l ++ putOs (l.take i)) (27 + i * 35) y104.1 w123 ho148 (by first | omega | (simp; done) | (simp; omega))) (by rintro e x ⟨rfl, h1, h2⟩; exact ⟨_, rfl, rfl, h1, h2⟩)) ?_ ?_; clear h141
     ·
      rintro _ w143 ⟨rfl, ho144, hx145⟩
      have hz149 := hx145.size
      have hl150 := ho144.lt
      have hB151 := hb_wr hB133 ho148 (by omega) hx145
      have hk152 := blk_wr hk134 ho148 (by decide) (by omega) hx145
      exact ⟨hB151, hk152⟩
     rintro _ w143 a142 ⟨rfl, ho144, hx145⟩ h142
     have hz149 := hx145.size
     have hl150 := ho144.lt
     have hB151 := hb_wr hB133 ho148 (by omega) hx145
     have hk152 := blk_wr hk134 ho148 (by decide) (by omega) hx145
     refine d1 6 h142 rfl rfl (op_call (args := #[pt b42 0, .bool y104.2.2]) (R := fun res xw => res = pt b42 0 ∧ OW b42 (((putH c r l ++ putOs (l.take i)) ++ (putL (y104.1.size : Int) ++ y104.1.data.toList)) ++ [flagB y104.2.2]) (27 + i * 35 + (9 + y104.1.size) + 1) xw ∧ But (Rw w143 b42) w143 xw) rfl rfl rfl (by kernel_rfl) (by kernel_rfl) (Tryz.call94 _ _) (ow_flag b42 ((putH c r l ++ putOs (l.take i)) ++ (putL (y104.1.size : Int) ++ y104.1.data.toList)) (27 + i * 35 + (9 + y104.1.size)) y104.2.2 w143 ho144 (by omega)) (by rintro e x ⟨rfl, h1, h2⟩; exact ⟨_, rfl, rfl, h1, h2⟩)) ?_ ?_; clear h142
     ·
      rintro _ w154 ⟨rfl, ho155, hx156⟩
      have hz157 := hx156.size
      have hl158 := ho155.lt
      have hB159 := hb_wr hB151 ho144 (by omega) hx156
      have hk160 := blk_wr hk152 ho144 (by decide) (by omega) hx156
      exact ⟨hB159, hk160⟩
     rintro _ w154 a153 ⟨rfl, ho155, hx156⟩ h153
     have hz157 := hx156.size
     have hl158 := ho155.lt
     have hB159 := hb_wr hB151 ho144 (by omega) hx156
     have hk160 := blk_wr hk152 ho144 (by decide) (by omega) hx156
     refine d1 9 h153 rfl rfl (op_call (args := #[pt b42 0, .string y104.2.1]) (R := fun res xw => res = pt b42 0 ∧ OW b42 ((((putH c r l ++ putOs (l.take i)) ++ (putL (y104.1.size : Int) ++ y104.1.data.toList)) ++ [flagB y104.2.2]) ++ (putL (y104.2.1.size : Int) ++ y104.2.1.data.toList)) (27 + i * 35 + (9 + y104.1.size) + 1 + (9 + y104.2.1.size)) xw ∧ But (Rw w154 b42) w154 xw) rfl rfl rfl (by kernel_rfl) (by kernel_rfl) (Tryz.call67 _ _) (ow_text b42 (((putH c r l ++ putOs (l.take i)) ++ (putL (y104.1.size : Int) ++ y104.1.data.toList)) ++ [flagB y104.2.2]) (27 + i * 35 + (9 + y104.1.size) + 1) y104.2.1 w154 ho155 (by first | omega | (simp; done) | (simp; omega))) (by rintro e x ⟨rfl, h1, h2⟩; exact ⟨_, rfl, rfl, h1, h2⟩)) ?_ ?_; clear h153
     ·
      rintro _ w162 ⟨rfl, ho163, hx164⟩
      have hz165 := hx164.size
      have hl166 := ho163.lt
      have hB167 := hb_wr hB159 ho155 (by omega) hx164
      have hk168 := blk_wr hk160 ho155 (by decide) (by omega) hx164
      exact ⟨hB167, hk168⟩
     rintro _ w162 a161 ⟨rfl, ho163, hx164⟩ h161
     have hz165 := hx164.size
     have hl166 := ho163.lt
     refine dr_done (by kernel_rfl) ?_
     refine co_blockN ?_
     refine co_then ?_
     refine co_reg ?_
     refine pk (v := .int .i64 ((i + 1 : Nat) : Int)) h161 rfl (rn_arith' rfl rfl rfl rfl rfl rfl (IntWalk.i64_in _ (by omega)) (by omega)) fun a167 h167 => ?_; clear h161
     refine pk0 (v := .int .i64 ((i + 1 : Nat) : Int)) h167 rfl fun a168 h168 => ?_; clear h167
     refine pl_nil ?_
     refine co_then ?_
     refine ⟨(l.length - (i + 1)), by omega, ?_⟩
     have hB169 := hb_wr hB159 ho155 (by omega) hx164
     have hk170 := hk86.kept hg112 (by simp)
     have hk171 := hk170.kept hg121 (by simp; omega)
     have hk172 := hk171.kept hg124 (by simp)
     have hk173 := blk_wr hk172 ho148 (by decide) (by omega) hx145
     have hk174 := blk_wr hk173 ho144 (by decide) (by omega) hx156
     have hk175 := blk_wr hk174 ho155 (by decide) (by omega) hx164
     exact ⟨i + 1, h168.sub ⟨rfl, rfl, rfl, rfl, rfl, rfl, rfl, trivial⟩, rfl, by omega, (ho163.eq (by first | (simp [putH, putOs]; done) | (rw [takeO_at (by assumption)]; simp [putH, putOs, putO1])) (by first | omega | (simp; done) | (simp; omega))), hB169, hk175⟩
 ·
  rw [hc20] at h19
  have hp176 : chkB c r l ≠ 0 := by first | simpa using hc20 | simpa [and_assoc] using hc20
  clear hc20
  refine co_true h19 rfl ?_
  refine co_seq ?_
  refine co_reg ?_
  refine pk0 (v := .int .i64 (chkB c r l)) h19 rfl fun a177 h177 => ?_; clear h19
  refine pk0 (v := .string (⟨#[]⟩)) h177 rfl fun a178 h178 => ?_; clear h177
  refine pk0 (v := .int .i64 (chkB c r l)) h178 rfl fun a179 h179 => ?_; clear h178
  refine pl_nil ?_
  refine co_then ?_
  refine wp_ret ?_
  refine co_thenR ?_
  refine co_ret2 h179 rfl rfl rfl ?_
  exact ⟨by rw [putB_err (by assumption)], hB21⟩
set_option maxRecDepth 100000 in
theorem ropsPut_any (c : Int) (r : Int) (v : Value) (l : List OpT) (w : World) (hs : SliceOf opE 3 w v l) :
    Calls Tryz.prog 99 #[.agg #[.int .i64 c, .int .i64 r, v]] w fun e w' => e = .returned (.tuple #[.string (putB c r l), .int .i64 (chkB c r l)]) ∧ Below w.heap.size w w' := by
 have hcb : chkB c r l = 0 → ((0 ≤ c ∧ c < 3) ∧ (1 ≤ r ∧ r ≤ 1073741824) ∧ l.length ≤ 4) := fun h => ⟨(chkB_ok h).1, (chkB_ok h).2.1, (chkB_ok h).2.2.1⟩
 have hB0 := Below.refl w.heap.size w
 have hl_hs := sl_len hs
 refine co_enter (n := 62) Tryz.func99 rfl rfl rfl [(0, .agg #[.int .i64 c, .int .i64 r, v])] rfl (fun a h0 => ?_)
 refine co_seq ?_
 refine co_reg ?_
 refine pw h0 rfl (op_new (v := fun N => pt N 0) (T := 29) (cs := #[.int .i64 c, .int .i64 r, v]) (by kernel_rfl) (by kernel_rfl) (by kernel_rfl)) ?_; clear h0
 rintro _ w2 a1 ⟨N3, rfl, hN6, hz7, hk5, hg4⟩ h1
 have hz8 := hg4.size
 try dsimp only at h1
 refine pk0 (v := .string (⟨#[]⟩)) h1 rfl fun a9 h9 => ?_; clear h1
 refine pk0 (v := .int .i64 0) h9 rfl fun a10 h10 => ?_; clear h9
 refine pl_nil ?_
 refine co_then ?_
 refine co_seq ?_
 refine co_seq ?_
 refine co_reg ?_
 refine pk (v := .agg #[.int .i64 c, .int .i64 r, v]) h10 rfl (rn_loadN rfl rfl Tryz.underlying29 rfl (by kernel_rfl) hk5.all) fun a11 h11 => ?_; clear h10
 have hB14 := hb_new hB0 hg4
 refine pw h11 rfl (op_call (args := #[.agg #[.int .i64 c, .int .i64 r, v]]) (R := fun res xw => res = .int .i64 (chkB c r l) ∧ Below w2.heap.size w2 xw) rfl rfl rfl (by kernel_rfl) (by kernel_rfl) (Tryz.call106 _ _) (ropsCheck_any c r v l w2 (hs.below hB14)) (by rintro e x ⟨rfl, hb15⟩; exact ⟨_, rfl, ⟨rfl, hb15⟩⟩)) ?_; clear h11
 rintro _ w13 a12 ⟨rfl, hb15⟩ h12
 have hz16 := hb15.size
 refine pk0 (v := .int .i64 (chkB c r l)) h12 rfl fun a17 h17 => ?_; clear h12
 refine pl_nil ?_
 refine co_then ?_
 refine co_seq ?_
 refine co_reg ?_
 refine pk0 (v := .int .i64 (chkB c r l)) h17 rfl fun a18 h18 => ?_; clear h17
 refine pk0 (v := .bool (chkB c r l != 0)) h18 rfl fun a19 h19 => ?_; clear h18
 refine pl_nil ?_
 refine co_then ?_
 have hB21 := hb_call hB14 hb15
 cases hc20 : (chkB c r l != 0)
 ·
  rw [hc20] at h19
  have hp22 : ¬ (chkB c r l ≠ 0) := by first | simpa using hc20 | simpa [and_assoc] using hc20
  clear hc20
  refine co_false h19 rfl ?_
  refine wp_skip ?_
  refine co_then ?_
  refine co_seq ?_
  refine co_reg ?_
  refine pk0 (v := .agg #[.string (⟨#[]⟩), .int .i64 0]) h19 rfl fun a23 h23 => ?_; clear h19
  refine pw h23 rfl (op_new (v := fun N => pt N 0) (T := 76) (cs := #[.string (⟨#[]⟩), .int .i64 0]) (by kernel_rfl) (by kernel_rfl) (by kernel_rfl)) ?_; clear h23
  rintro _ w25 a24 ⟨N26, rfl, hN29, hz30, hk28, hg27⟩ h24
  have hz31 := hg27.size
  try dsimp only at h24
  refine pk0 (v := pt N26 0) h24 rfl fun a32 h32 => ?_; clear h24
  refine pl_nil ?_
  refine co_then ?_
  refine co_seq ?_
  refine co_reg ?_
  refine pk0 (v := pt N26 0) h32 rfl fun a33 h33 => ?_; clear h32
  refine pk0 (v := pt N3 0) h33 rfl fun a34 h34 => ?_; clear h33
  have hk35 := hk5.below hb15
  have hk36 := hk35.kept hg27 (by simp)
  refine pk (v := .int .i64 c) h34 rfl (rn_load1 rfl rfl Tryz.isAgg3 (hk36.cell rfl)) fun a37 h37 => ?_; clear h34
  have ho40 := ox_of hk28
  refine pw h37 rfl (op_call (args := #[pt N26 0, .int .i64 c]) (R := fun res xw => res = .tuple #[] ∧ OX N26 (([] : List UInt8) ++ putL c) (0 + 9) xw ∧ w25.grownBy xw (some N26)) rfl rfl rfl (by kernel_rfl) (by kernel_rfl) (Tryz.call34 _ _) (ox_num N26 ([]) 0 c w25 ho40 (by omega) (by omega) (by omega)) (by rintro e x ⟨rfl, h1, h2⟩; exact ⟨_, rfl, rfl, h1, h2⟩)) ?_; clear h37
  rintro _ w39 a38 ⟨rfl, ho41, hx42⟩ h38
  have hz43 := hx42.size
  have hl44 := ho41.lt
  refine pl_nil ?_
  refine co_then ?_
  refine co_seq ?_
  refine co_reg ?_
  refine pk0 (v := pt N26 0) h38 rfl fun a45 h45 => ?_; clear h38
  refine pk0 (v := pt N3 1) h45 rfl fun a46 h46 => ?_; clear h45
  have hk47 := hk36.kept hx42 (by simp; omega)
  refine pk (v := .int .i64 r) h46 rfl (rn_load1 rfl rfl Tryz.isAgg3 (hk47.cell rfl)) fun a48 h48 => ?_; clear h46
  refine pw h48 rfl (op_call (args := #[pt N26 0, .int .i64 r]) (R := fun res xw => res = .tuple #[] ∧ OX N26 ((([] : List UInt8) ++ putL c) ++ putL r) (0 + 9 + 9) xw ∧ w39.grownBy xw (some N26)) rfl rfl rfl (by kernel_rfl) (by kernel_rfl) (Tryz.call34 _ _) (ox_num N26 (([] : List UInt8) ++ putL c) (0 + 9) r w39 ho41 (by omega) (by omega) (by omega)) (by rintro e x ⟨rfl, h1, h2⟩; exact ⟨_, rfl, rfl, h1, h2⟩)) ?_; clear h48
  rintro _ w50 a49 ⟨rfl, ho51, hx52⟩ h49
  have hz53 := hx52.size
  have hl54 := ho51.lt
  refine pl_nil ?_
  refine co_then ?_
  refine co_seq ?_
  refine co_reg ?_
  refine pk0 (v := pt N26 0) h49 rfl fun a55 h55 => ?_; clear h49
  refine pk0 (v := pt N3 2) h55 rfl fun a56 h56 => ?_; clear h55
  have hk57 := hk47.kept hx52 (by simp; omega)
  refine pk (v := v) h56 rfl (rn_load1 rfl rfl Tryz.isAgg27 (hk57.cell rfl)) fun a58 h58 => ?_; clear h56
  have hB59 := hb_new hB21 hg27
  have hB60 := hb_at hB59 hx42 (by omega)
  have hB61 := hb_at hB60 hx52 (by omega)
  refine pk (v := .int .i64 ((l.length : Nat) : Int)) h58 rfl (rn_len rfl rfl Tryz.underlying27 (hs.below hB61)) fun a62 h62 => ?_; clear h58
  refine pw h62 rfl (op_call (args := #[pt N26 0, .int .i64 ((l.length : Nat) : Int)]) (R := fun res xw => res = .tuple #[] ∧ OX N26 (((([] : List UInt8) ++ putL c) ++ putL r) ++ putL ((l.length : Nat) : Int)) (0 + 9 + 9 + 9) xw ∧ w50.grownBy xw (some N26)) rfl rfl rfl (by kernel_rfl) (by kernel_rfl) (Tryz.call34 _ _) (ox_num N26 ((([] : List UInt8) ++ putL c) ++ putL r) (0 + 9 + 9) ((l.length : Nat) : Int) w50 ho51 (by omega) (by omega) (by omega)) (by rintro e x ⟨rfl, h1, h2⟩; exact ⟨_, rfl, rfl, h1, h2⟩)) ?_; clear h62
  rintro _ w64 a63 ⟨rfl, ho65, hx66⟩ h63
  have hz67 := hx66.size
  have hl68 := ho65.lt
  refine pl_nil ?_
  refine co_then ?_
  refine co_seq ?_
  refine co_seq ?_
  refine co_reg ?_
  refine pk0 (v := .int .i64 0) h63 rfl fun a69 h69 => ?_; clear h63
  refine pl_nil ?_
  refine co_then ?_
  refine wp_block ?_
  have hck := chkB_all (c := c) (r := r) (l := l) (by omega)
  have h70 : Slots 62 [(1, pt N3 0), (2, .string (⟨#[]⟩)), (3, .int .i64 0), (5, pt N26 0), (6, .int .i64 0)] _ := h69.sub ⟨rfl, rfl, rfl, rfl, rfl, trivial⟩; clear h69
  refine co_loop (fun mm a x => ∃ (i : Nat), Slots 62 [(1, pt N3 0), (2, .string (⟨#[]⟩)), (3, .int .i64 0), (5, pt N26 0), (6, .int .i64 ((i : Nat) : Int))] a ∧ mm = l.length - i ∧ (i ≤ l.length) ∧ OX N26 (putH c r l ++ putOs (l.take i)) (27 + i * 35) x ∧ Below w.heap.size w x ∧ Blk x N3 29 #[.int .i64 c, .int .i64 r, v]) (l.length - 0) ?_ ?_
  have hB71 := hb_at hB61 hx66 (by omega)
  have hk72 := hk57.kept hx66 (by simp; omega)
  · exact ⟨0, h70.sub ⟨rfl, rfl, rfl, rfl, (slot_eq rfl (congrArg (Value.int .i64) (by first | rfl | omega))), trivial⟩, rfl, by omega, (ho65.eq (by first | (simp [putH, putOs]; done) | (rw [takeO_at (by assumption)]; simp [putH, putOs, putO1])) (by first | omega | (simp; done) | (simp; omega))), hB71, hk72⟩
  · rintro k73 a74 w75 ⟨i, h74, rfl, hi76, hf77, hB78, hk79⟩
    have hz80 := hB78.size
    have hl81 := hk79.lt
    have hl82 := hf77.lt
    refine co_seq ?_
    refine co_seq ?_
    refine co_reg ?_
    refine pk0 (v := .int .i64 ((i : Nat) : Int)) h74 rfl fun a83 h83 => ?_; clear h74
    refine pk0 (v := pt N3 2) h83 rfl fun a84 h84 => ?_; clear h83
    refine pk (v := v) h84 rfl (rn_load1 rfl rfl Tryz.isAgg27 (hk79.cell rfl)) fun a85 h85 => ?_; clear h84
    refine pk (v := .int .i64 ((l.length : Nat) : Int)) h85 rfl (rn_len rfl rfl Tryz.underlying27 (hs.below hB78)) fun a86 h86 => ?_; clear h85
    refine pk0 (v := .bool (decide (((i : Nat) : Int) < ((l.length : Nat) : Int)))) h86 rfl fun a87 h87 => ?_; clear h86
    refine pl_nil ?_
    refine co_then ?_
    cases hc88 : (decide (((i : Nat) : Int) < ((l.length : Nat) : Int)))
    ·
     rw [hc88] at h87
     have hp89 : ¬ (((i : Nat) : Int) < ((l.length : Nat) : Int)) := of_decide_eq_false hc88
     clear hc88
     refine co_false h87 rfl ?_
     refine wp_exit ?_
     refine co_thenX ?_
     refine co_thenX ?_
     refine co_blockX ?_
     refine co_then ?_
     refine co_seq ?_
     refine co_reg ?_
     refine pk0 (v := pt N26 0) h87 rfl fun a90 h90 => ?_; clear h87
     refine pw h90 rfl (op_call (args := #[pt N26 0]) (R := fun res xw => res = .tuple #[.string (⟨(putH c r l ++ putOs (l.take i)).toArray⟩), .int .i64 0] ∧ Below w75.heap.size w75 xw) rfl rfl rfl (by kernel_rfl) (by kernel_rfl) (Tryz.call37 _ _) (ox_done N26 (putH c r l ++ putOs (l.take i)) (27 + i * 35) w75 hf77) (by rintro e x ⟨rfl, h2⟩; exact ⟨_, rfl, rfl, h2⟩)) ?_; clear h90
     rintro _ w92 a91 ⟨rfl, hb93⟩ h91
     have hz94 := hb93.size
     refine pk0 (v := .string (⟨(putH c r l ++ putOs (l.take i)).toArray⟩)) h91 rfl fun a95 h95 => ?_; clear h91
     refine pk0 (v := .int .i64 0) h95 rfl fun a96 h96 => ?_; clear h95
     refine pk0 (v := .string (⟨(putH c r l ++ putOs (l.take i)).toArray⟩)) h96 rfl fun a97 h97 => ?_; clear h96
     refine pk0 (v := .int .i64 0) h97 rfl fun a98 h98 => ?_; clear h97
     refine pl_nil ?_
     refine co_then ?_
     refine wp_ret ?_
     refine co_ret2 h98 rfl rfl rfl ?_
     have hB99 := hb_call hB78 hb93
     exact ⟨by rw [putB_ok (by omega), show chkB c r l = 0 by omega, List.take_of_length_le (show l.length ≤ i by omega)], hB99⟩
    ·
     rw [hc88] at h87
     have hp100 : ((i : Nat) : Int) < ((l.length : Nat) : Int) := of_decide_eq_true hc88
     clear hc88
     refine co_true h87 rfl ?_
     refine wp_skip ?_
     refine co_then ?_
     refine co_seq ?_
     refine wp_block ?_
     refine co_seq ?_
     refine co_reg ?_
     refine pk0 (v := pt N26 0) h87 rfl fun a101 h101 => ?_; clear h87
     refine pk0 (v := pt N3 2) h101 rfl fun a102 h102 => ?_; clear h101
     refine pk (v := v) h102 rfl (rn_load1 rfl rfl Tryz.isAgg27 (hk79.cell rfl)) fun a103 h103 => ?_; clear h102
     refine pk0 (v := .int .i64 ((i : Nat) : Int)) h103 rfl fun a104 h104 => ?_; clear h103
     obtain ⟨y105, hy105⟩ : ∃ z, l[i]? = some z := ⟨_, List.getElem?_eq_getElem (by first | omega | (simp; done) | (simp; omega))⟩
     have oky105 := hck _ (List.mem_of_getElem? hy105)
     have k106 : y105.1.size ≤ 8 := oky105.1.2
     have k107 : y105.2.1.size ≤ 8 := oky105.2.1
     refine pk (v := pt (blkOf v) (offOf v + i * 3)) h104 rfl (rn_index rfl rfl rfl Tryz.underlying27 Tryz.sizeOf159 (hs.below hB78) (by omega) (by first | omega | (simp; done) | (simp; omega))) fun a108 h108 => ?_; clear h104
     refine pk0 (v := pt (blkOf v) (offOf v + i * 3)) h108 rfl fun a109 h109 => ?_; clear h108
     refine pk (v := .string y105.1) h109 rfl (rn_load1 rfl rfl Tryz.isAgg9 ((sl_at (hs.below hB78) hy105) 0 _ rfl)) fun a110 h110 => ?_; clear h109
     refine pw h110 rfl (op_call (args := #[pt N26 0, .string y105.1]) (R := fun res xw => res = .tuple #[] ∧ OX N26 ((putH c r l ++ putOs (l.take i)) ++ (putL (y105.1.size : Int) ++ y105.1.data.toList)) (27 + i * 35 + (9 + y105.1.size)) xw ∧ w75.grownBy xw (some N26)) rfl rfl rfl (by kernel_rfl) (by kernel_rfl) (Tryz.call71 _ _) (ox_text N26 (putH c r l ++ putOs (l.take i)) (27 + i * 35) y105.1 w75 hf77 (by first | omega | (simp; done) | (simp; omega))) (by rintro e x ⟨rfl, h1, h2⟩; exact ⟨_, rfl, rfl, h1, h2⟩)) ?_; clear h110
     rintro _ w112 a111 ⟨rfl, ho113, hx114⟩ h111
     have hz115 := hx114.size
     have hl116 := ho113.lt
     refine pl_nil ?_
     refine co_then ?_
     refine co_seq ?_
     refine co_reg ?_
     refine pk0 (v := pt N26 0) h111 rfl fun a117 h117 => ?_; clear h111
     refine pk0 (v := pt N3 2) h117 rfl fun a118 h118 => ?_; clear h117
     have hk119 := hk79.kept hx114 (by simp; omega)
     refine pk (v := v) h118 rfl (rn_load1 rfl rfl Tryz.isAgg27 (hk119.cell rfl)) fun a120 h120 => ?_; clear h118
     refine pk0 (v := .int .i64 ((i : Nat) : Int)) h120 rfl fun a121 h121 => ?_; clear h120
     have hB122 := hb_at hB78 hx114 (by omega)
     refine pk (v := pt (blkOf v) (offOf v + i * 3)) h121 rfl (rn_index rfl rfl rfl Tryz.underlying27 Tryz.sizeOf159 (hs.below hB122) (by omega) (by first | omega | (simp; done) | (simp; omega))) fun a123 h123 => ?_; clear h121
     refine pk0 (v := pt (blkOf v) (offOf v + i * 3 + 2)) h123 rfl fun a124 h124 => ?_; clear h123
     refine pk (v := .bool y105.2.2) h124 rfl (rn_load1 rfl rfl Tryz.isAgg4 ((sl_at (hs.below hB122) hy105) 2 _ rfl)) fun a125 h125 => ?_; clear h124
     refine pw h125 rfl (op_call (args := #[pt N26 0, .bool y105.2.2]) (R := fun res xw => res = .tuple #[] ∧ OX N26 (((putH c r l ++ putOs (l.take i)) ++ (putL (y105.1.size : Int) ++ y105.1.data.toList)) ++ [flagB y105.2.2]) (27 + i * 35 + (9 + y105.1.size) + 1) xw ∧ w112.grownBy xw (some N26)) rfl rfl rfl (by kernel_rfl) (by kernel_rfl) (Tryz.call98 _ _) (ox_flag N26 ((putH c r l ++ putOs (l.take i)) ++ (putL (y105.1.size : Int) ++ y105.1.data.toList)) (27 + i * 35 + (9 + y105.1.size)) y105.2.2 w112 ho113 (by omega)) (by rintro e x ⟨rfl, h1, h2⟩; exact ⟨_, rfl, rfl, h1, h2⟩)) ?_; clear h125
     rintro _ w127 a126 ⟨rfl, ho128, hx129⟩ h126
     have hz130 := hx129.size
     have hl131 := ho128.lt
     refine pl_nil ?_
     refine co_then ?_
     refine co_reg ?_
     refine pk0 (v := pt N26 0) h126 rfl fun a132 h132 => ?_; clear h126
     refine pk0 (v := pt N3 2) h132 rfl fun a133 h133 => ?_; clear h132
     have hk134 := hk119.kept hx129 (by simp; omega)
     refine pk (v := v) h133 rfl (rn_load1 rfl rfl Tryz.isAgg27 (hk134.cell rfl)) fun a135 h135 => ?_; clear h133
     refine pk0 (v := .int .i64 ((i : Nat) : Int)) h135 rfl fun a136 h136 => ?_; clear h135
     have hB137 := hb_at hB122 hx129 (by omega)
     refine pk (v := pt (blkOf v) (offOf v + i * 3)) h136 rfl (rn_index rfl rfl rfl Tryz.underlying27 Tryz.sizeOf159 (hs.below hB137) (by omega) (by first | omega | (simp; done) | (simp; omega))) fun a138 h138 => ?_; clear h136
     refine pk0 (v := pt (blkOf v) (offOf v + i * 3 + 1)) h138 rfl fun a139 h139 => ?_; clear h138
     refine pk (v := .string y105.2.1) h139 rfl (rn_load1 rfl rfl Tryz.isAgg9 ((sl_at (hs.below hB137) hy105) 1 _ rfl)) fun a140 h140 => ?_; clear h139
     refine pw h140 rfl (op_call (args := #[pt N26 0, .string y105.2.1]) (R := fun res xw => res = .tuple #[] ∧ OX N26 ((((putH c r l ++ putOs (l.take i)) ++ (putL (y105.1.size : Int) ++ y105.1.data.toList)) ++ [flagB y105.2.2]) ++ (putL (y105.2.1.size : Int) ++ y105.2.1.data.toList)) (27 + i * 35 + (9 + y105.1.size) + 1 + (9 + y105.2.1.size)) xw ∧ w127.grownBy xw (some N26)) rfl rfl rfl (by kernel_rfl) (by kernel_rfl) (Tryz.call71 _ _) (ox_text N26 (((putH c r l ++ putOs (l.take i)) ++ (putL (y105.1.size : Int) ++ y105.1.data.toList)) ++ [flagB y105.2.2]) (27 + i * 35 + (9 + y105.1.size) + 1) y105.2.1 w127 ho128 (by first | omega | (simp; done) | (simp; omega))) (by rintro e x ⟨rfl, h1, h2⟩; exact ⟨_, rfl, rfl, h1, h2⟩)) ?_; clear h140
     rintro _ w142 a141 ⟨rfl, ho143, hx144⟩ h141
     have hz145 := hx144.size
     have hl146 := ho143.lt
     refine pl_nil ?_
     refine co_blockN ?_
     refine co_then ?_
     refine co_reg ?_
     refine pk0 (v := .int .i64 ((i : Nat) : Int)) h141 rfl fun a147 h147 => ?_; clear h141
     refine pk (v := .int .i64 ((i + 1 : Nat) : Int)) h147 rfl (rn_arith' rfl rfl rfl rfl rfl rfl (IntWalk.i64_in _ (by omega)) (by omega)) fun a148 h148 => ?_; clear h147
     refine pk0 (v := .int .i64 ((i + 1 : Nat) : Int)) h148 rfl fun a149 h149 => ?_; clear h148
     refine pl_nil ?_
     refine co_then ?_
     refine ⟨(l.length - (i + 1)), by omega, ?_⟩
     have hB150 := hb_at hB137 hx144 (by omega)
     have hk151 := hk134.kept hx144 (by simp; omega)
     exact ⟨i + 1, h149.sub ⟨rfl, rfl, rfl, rfl, rfl, trivial⟩, rfl, by omega, (ho143.eq (by first | (simp [putH, putOs]; done) | (rw [takeO_at (by assumption)]; simp [putH, putOs, putO1])) (by first | omega | (simp; done) | (simp; omega))), hB150, hk151⟩
 ·
  rw [hc20] at h19
  have hp152 : chkB c r l ≠ 0 := by first | simpa using hc20 | simpa [and_assoc] using hc20
  clear hc20
  refine co_true h19 rfl ?_
  refine co_seq ?_
  refine co_reg ?_
  refine pk0 (v := .int .i64 (chkB c r l)) h19 rfl fun a153 h153 => ?_; clear h19
  refine pk0 (v := .string (⟨#[]⟩)) h153 rfl fun a154 h154 => ?_; clear h153
  refine pk0 (v := .int .i64 (chkB c r l)) h154 rfl fun a155 h155 => ?_; clear h154
  refine pl_nil ?_
  refine co_then ?_
  refine wp_ret ?_
  refine co_thenR ?_
  refine co_ret2 h155 rfl rfl rfl ?_
  exact ⟨by rw [putB_err (by assumption)], hB21⟩
end Go.Proofs.YteioaaegooebpaaGreat
