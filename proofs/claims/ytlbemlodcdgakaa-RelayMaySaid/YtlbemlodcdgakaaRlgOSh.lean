/- Package ops: Check of both. Conditions: none. -/
import Derived.Test.YtlbemlodcdgakaaPexUSh
import Derived.Test.YtlbemlodcdgakaaSlSh
import Derived.PlainAid
import Derived.Laws.StructEq
namespace Go.Proofs.Ytlbemlodcdgakaa
open Go.RowKit Go.PlainAid
set_option linter.unusedVariables false


abbrev OpT := ByteArray × ByteArray × Bool
def opE (o : OpT) : List Value := [.string o.1, .string o.2.1, .bool o.2.2]
theorem opE_len (o : OpT) : (opE o).length = 3 := rfl
theorem opE_one (o : OpT) : ∀ u ∈ opE o, u.oneCell' = true := by intro u hu; simp [opE] at hu; rcases hu with rfl | rfl | rfl <;> rfl
/-- What a key's check answers; an operation's; those of all, each key above the one ahead of it. -/
def keyC (k : ByteArray) : Int := if ((k.size : Nat) : Int) < 1 ∨ ((k.size : Nat) : Int) > 8 then 10 else 0
def delV (o : OpT) : Bool := o.2.2 && !(o.2.1.toList == (⟨#[]⟩ : ByteArray).toList)
theorem delV_t {o : OpT} {b : Bool} (h : o.2.2 = true) (h2 : (!(o.2.1.toList == (⟨#[]⟩ : ByteArray).toList)) = b) : delV o = b := by unfold delV; rw [h, h2]; rfl
theorem delV_f {o : OpT} (h : o.2.2 = false) : delV o = false := by unfold delV; rw [h]; rfl
def chkOp (o : OpT) : Int := if keyC o.1 ≠ 0 then keyC o.1 else if ((o.2.1.size : Nat) : Int) > 8 then 3 else if delV o = true then 4 else 0
def keyUp (p : Option ByteArray) (k : ByteArray) : Bool := match p with | some q => Op.bytesLess q.toList k.toList | none => true
def chkL : Option ByteArray → List OpT → Int
  | _, [] => 0
  | p, o :: r => if chkOp o ≠ 0 then chkOp o else if keyUp p o.1 = true then chkL (some o.1) r else 18
def prevK (l : List OpT) (i : Nat) : Option ByteArray := if i = 0 then none else (l[i - 1]?).map (·.1)
def chkB (c r : Int) (l : List OpT) : Int := if c < 0 ∨ c ≥ 3 then 1 else if r < 1 ∨ r > 1073741824 then 5 else if ((l.length : Nat) : Int) > 4 then 6 else chkL none l
theorem prevK_succ {l : List OpT} {i : Nat} {y : OpT} (h : l[i]? = some y) : prevK l (i + 1) = some y.1 := by simp [prevK, h]
theorem prevK_pos {l : List OpT} {i j : Nat} {y : OpT} (hj : j = i - 1) (h0 : 0 < i) (h : l[j]? = some y) : prevK l i = some y.1 := by
  subst hj; simp [prevK, h]; omega
theorem dropO_at {l : List OpT} {i : Nat} {y : OpT} (h : l[i]? = some y) : l.drop i = y :: l.drop (i + 1) := by
  obtain ⟨hi, rfl⟩ := List.getElem?_eq_some_iff.1 h
  exact List.drop_eq_getElem_cons hi
theorem chkL_bad {l : List OpT} {i : Nat} {y : OpT} {z : Int} (h : chkL (prevK l i) (l.drop i) = z) (hy : l[i]? = some y) (hc : chkOp y ≠ 0) : chkOp y = z := by
  rw [dropO_at hy] at h; unfold chkL at h; rwa [if_pos hc] at h
theorem chkL_step {l : List OpT} {i : Nat} {y : OpT} {z : Int} (h : chkL (prevK l i) (l.drop i) = z) (hy : l[i]? = some y) (hc : chkOp y = 0) (hu : keyUp (prevK l i) y.1 = true) : chkL (prevK l (i + 1)) (l.drop (i + 1)) = z := by
  rw [dropO_at hy] at h; unfold chkL at h; rw [if_neg (by simp [hc]), if_pos hu] at h
  rw [prevK_succ hy]; exact h
theorem chkL_ord {l : List OpT} {i : Nat} {y : OpT} {z : Int} (h : chkL (prevK l i) (l.drop i) = z) (hy : l[i]? = some y) (hc : chkOp y = 0) (hu : keyUp (prevK l i) y.1 = false) : 18 = z := by
  rw [dropO_at hy] at h; unfold chkL at h; rwa [if_neg (by simp [hc]), if_neg (by simp [hu])] at h
theorem chkL_end {l : List OpT} {i : Nat} {z : Int} (h : chkL (prevK l i) (l.drop i) = z) (hi : l.length ≤ i) : 0 = z := by
  rw [List.drop_eq_nil_of_le hi] at h; simpa [chkL] using h
theorem keyUp_at {l : List OpT} {i j : Nat} {y y' : OpT} {b : Bool} (hj : j = i - 1) (h0 : 0 < i) (h : l[j]? = some y') (hb : Op.bytesLess y'.1.toList y.1.toList = b) : keyUp (prevK l i) y.1 = b := by rw [prevK_pos hj h0 h]; exact hb
theorem keyUp_0 {l : List OpT} {i : Nat} {k : ByteArray} (h0 : ¬ (0 : Int) < i) : keyUp (prevK l i) k = true := by
  obtain rfl : i = 0 := by omega
  rfl
theorem chkB_a {c r z : Int} {l : List OpT} (hz : chkB c r l = z) (h : c < 0 ∨ c ≥ 3) : 1 = z := by unfold chkB at hz; rwa [if_pos h] at hz
theorem chkB_b {c r z : Int} {l : List OpT} (hz : chkB c r l = z) (h : ¬ (c < 0 ∨ c ≥ 3)) (h1 : r < 1 ∨ r > 1073741824) : 5 = z := by unfold chkB at hz; rwa [if_neg h, if_pos h1] at hz
theorem chkB_c {c r z : Int} {l : List OpT} (hz : chkB c r l = z) (h : ¬ (c < 0 ∨ c ≥ 3)) (h1 : ¬ (r < 1 ∨ r > 1073741824)) (h2 : ((l.length : Nat) : Int) > 4) : 6 = z := by unfold chkB at hz; rwa [if_neg h, if_neg h1, if_pos h2] at hz
theorem chkB_d {c r z : Int} {l : List OpT} (hz : chkB c r l = z) (h : ¬ (c < 0 ∨ c ≥ 3)) (h1 : ¬ (r < 1 ∨ r > 1073741824)) (h2 : ¬ ((l.length : Nat) : Int) > 4) : chkL (prevK l 0) (l.drop 0) = z := by unfold chkB at hz; rwa [if_neg h, if_neg h1, if_neg h2] at hz
theorem chkOp_a {o : OpT} (h : keyC o.1 ≠ 0) : chkOp o = keyC o.1 := by unfold chkOp; rw [if_pos h]
theorem chkOp_b {o : OpT} (h : ¬ keyC o.1 ≠ 0) (h1 : ((o.2.1.size : Nat) : Int) > 8) : chkOp o = 3 := by unfold chkOp; rw [if_neg h, if_pos h1]
theorem chkOp_c {o : OpT} (h : ¬ keyC o.1 ≠ 0) (h1 : ¬ ((o.2.1.size : Nat) : Int) > 8) (h2 : delV o = true) : chkOp o = 4 := by unfold chkOp; rw [if_neg h, if_neg h1, if_pos h2]
theorem chkOp_d {o : OpT} (h : ¬ keyC o.1 ≠ 0) (h1 : ¬ ((o.2.1.size : Nat) : Int) > 8) (h2 : delV o = false) : chkOp o = 0 := by unfold chkOp; rw [if_neg h, if_neg h1, if_neg (by simp [h2])]
theorem keyC_ten {k : ByteArray} (h : keyC k ≠ 0) : keyC k = 10 := by unfold keyC at h ⊢; split <;> simp_all
set_option maxRecDepth 100000 in
theorem rKey_any (k : ByteArray) (w : World)  :
    Calls Try.prog 153 #[.string k] w fun e w' => e = .returned (.int .i64 (keyC k)) ∧ Below w.heap.size w w' := by
 have hB0 := Below.refl w.heap.size w
 refine co_enter (n := 11) Try.func153 rfl rfl rfl [(0, .string k)] rfl (fun a h0 => ?_)
 refine co_seq ?_
 refine co_reg ?_
 refine pk0 (v := .int .i64 0) h0 rfl fun a1 h1 => ?_; clear h0
 refine pl_nil ?_
 refine co_then ?_
 refine co_seq ?_
 refine co_seq ?_
 refine co_reg ?_
 refine pk0 (v := .string k) h1 rfl fun a2 h2 => ?_; clear h1
 refine pk (v := .int .i64 ((k.size : Nat) : Int)) h2 rfl (rn_lenStr rfl rfl Try.underlying9) fun a3 h3 => ?_; clear h2
 refine pk0 (v := .bool (decide (((k.size : Nat) : Int) < 1))) h3 rfl fun a4 h4 => ?_; clear h3
 refine pk0 (v := .bool (decide (((k.size : Nat) : Int) < 1))) h4 rfl fun a5 h5 => ?_; clear h4
 cases hc6 : (decide (((k.size : Nat) : Int) < 1))
 ·
  rw [hc6] at h5
  have hp7 : ¬ (((k.size : Nat) : Int) < 1) := of_decide_eq_false hc6
  clear hc6
  refine pk0 (v := .string k) h5 rfl fun a8 h8 => ?_; clear h5
  refine pk (v := .int .i64 ((k.size : Nat) : Int)) h8 rfl (rn_lenStr rfl rfl Try.underlying9) fun a9 h9 => ?_; clear h8
  refine pk0 (v := .bool (decide (((k.size : Nat) : Int) > 8))) h9 rfl fun a10 h10 => ?_; clear h9
  refine pk0 (v := .bool (decide (((k.size : Nat) : Int) > 8))) h10 rfl fun a11 h11 => ?_; clear h10
  refine pl_nil ?_
  refine co_then ?_
  cases hc12 : (decide (((k.size : Nat) : Int) > 8))
  ·
   rw [hc12] at h11
   have hp13 : ¬ (((k.size : Nat) : Int) > 8) := of_decide_eq_false hc12
   clear hc12
   refine co_false h11 rfl ?_
   refine wp_skip ?_
   refine co_then ?_
   refine co_seq ?_
   refine co_reg ?_
   refine pk0 (v := .int .i64 0) h11 rfl fun a14 h14 => ?_; clear h11
   refine pl_nil ?_
   refine co_then ?_
   refine wp_ret ?_
   refine co_ret1 h14 rfl rfl ?_
   exact ⟨ret_int (by unfold keyC; first | rw [if_pos (by omega)] | rw [if_neg (by omega)]), hB0⟩
  ·
   rw [hc12] at h11
   have hp15 : ((k.size : Nat) : Int) > 8 := of_decide_eq_true hc12
   clear hc12
   refine co_true h11 rfl ?_
   refine co_seq ?_
   refine co_reg ?_
   refine pk0 (v := .int .i64 10) h11 rfl fun a16 h16 => ?_; clear h11
   refine pl_nil ?_
   refine co_then ?_
   refine wp_ret ?_
   refine co_thenR ?_
   refine co_ret1 h16 rfl rfl ?_
   exact ⟨ret_int (by unfold keyC; first | rw [if_pos (by omega)] | rw [if_neg (by omega)]), hB0⟩
 ·
  rw [hc6] at h5
  have hp17 : ((k.size : Nat) : Int) < 1 := of_decide_eq_true hc6
  clear hc6
  refine psk h5 rfl fun a18 h18 => ?_; clear h5
  refine psk h18 rfl fun a19 h19 => ?_; clear h18
  refine psk h19 rfl fun a20 h20 => ?_; clear h19
  refine pk0 (v := .bool true) h20 rfl fun a21 h21 => ?_; clear h20
  refine pl_nil ?_
  refine co_then ?_
  refine co_true h21 rfl ?_
  refine co_seq ?_
  refine co_reg ?_
  refine pk0 (v := .int .i64 10) h21 rfl fun a22 h22 => ?_; clear h21
  refine pl_nil ?_
  refine co_then ?_
  refine wp_ret ?_
  refine co_thenR ?_
  refine co_ret1 h22 rfl rfl ?_
  exact ⟨ret_int (by unfold keyC; first | rw [if_pos (by omega)] | rw [if_neg (by omega)]), hB0⟩
set_option maxRecDepth 100000 in
theorem ropsCheck_any (c : Int) (r : Int) (v : Value) (l : List OpT) (w : World) (hs : SliceOf opE 3 w v l) :
    Calls Try.prog 125 #[.agg #[.int .i64 c, .int .i64 r, v]] w fun e w' => e = .returned (.int .i64 (chkB c r l)) ∧ Below w.heap.size w w' := by
 have hB0 := Below.refl w.heap.size w
 have hl_hs := sl_len hs
 refine co_enter (n := 66) Try.func125 rfl rfl rfl [(0, .agg #[.int .i64 c, .int .i64 r, v])] rfl (fun a h0 => ?_)
 refine co_seq ?_
 refine co_reg ?_
 refine pw h0 rfl (op_new (v := fun N => pt N 0) (T := 36) (cs := #[.int .i64 c, .int .i64 r, v]) (by kernel_rfl) (by kernel_rfl) (by kernel_rfl)) ?_; clear h0
 rintro _ w2 a1 ⟨N3, rfl, hN6, hz7, hk5, hg4⟩ h1
 have hz8 := hg4.size
 try dsimp only at h1
 refine pk0 (v := .int .i64 0) h1 rfl fun a9 h9 => ?_; clear h1
 refine pl_nil ?_
 refine co_then ?_
 refine co_seq ?_
 refine co_seq ?_
 refine co_reg ?_
 refine pk0 (v := pt N3 0) h9 rfl fun a10 h10 => ?_; clear h9
 refine pk (v := .int .i64 c) h10 rfl (rn_load1 rfl rfl Try.isAgg3 (hk5.cell rfl)) fun a11 h11 => ?_; clear h10
 refine pk0 (v := .bool (decide (c < 0))) h11 rfl fun a12 h12 => ?_; clear h11
 refine pk0 (v := .bool (decide (c < 0))) h12 rfl fun a13 h13 => ?_; clear h12
 have hB15 := hb_new hB0 hg4
 cases hc14 : (decide (c < 0))
 ·
  rw [hc14] at h13
  have hp16 : ¬ (c < 0) := of_decide_eq_false hc14
  clear hc14
  refine pk0 (v := pt N3 0) h13 rfl fun a17 h17 => ?_; clear h13
  refine pk (v := .int .i64 c) h17 rfl (rn_load1 rfl rfl Try.isAgg3 (hk5.cell rfl)) fun a18 h18 => ?_; clear h17
  refine pk0 (v := .bool (decide (c ≥ 3))) h18 rfl fun a19 h19 => ?_; clear h18
  refine pk0 (v := .bool (decide (c ≥ 3))) h19 rfl fun a20 h20 => ?_; clear h19
  refine pl_nil ?_
  refine co_then ?_
  cases hc21 : (decide (c ≥ 3))
  ·
   rw [hc21] at h20
   have hp22 : ¬ (c ≥ 3) := of_decide_eq_false hc21
   clear hc21
   refine co_false h20 rfl ?_
   refine wp_skip ?_
   refine co_then ?_
   refine co_seq ?_
   refine co_seq ?_
   refine co_reg ?_
   refine pk0 (v := pt N3 1) h20 rfl fun a23 h23 => ?_; clear h20
   refine pk (v := .int .i64 r) h23 rfl (rn_load1 rfl rfl Try.isAgg3 (hk5.cell rfl)) fun a24 h24 => ?_; clear h23
   refine pk0 (v := .bool (decide (r < 1))) h24 rfl fun a25 h25 => ?_; clear h24
   refine pk0 (v := .bool (decide (r < 1))) h25 rfl fun a26 h26 => ?_; clear h25
   cases hc27 : (decide (r < 1))
   ·
    rw [hc27] at h26
    have hp28 : ¬ (r < 1) := of_decide_eq_false hc27
    clear hc27
    refine pk0 (v := pt N3 1) h26 rfl fun a29 h29 => ?_; clear h26
    refine pk (v := .int .i64 r) h29 rfl (rn_load1 rfl rfl Try.isAgg3 (hk5.cell rfl)) fun a30 h30 => ?_; clear h29
    refine pk0 (v := .bool (decide (r > 1073741824))) h30 rfl fun a31 h31 => ?_; clear h30
    refine pk0 (v := .bool (decide (r > 1073741824))) h31 rfl fun a32 h32 => ?_; clear h31
    refine pl_nil ?_
    refine co_then ?_
    cases hc33 : (decide (r > 1073741824))
    ·
     rw [hc33] at h32
     have hp34 : ¬ (r > 1073741824) := of_decide_eq_false hc33
     clear hc33
     refine co_false h32 rfl ?_
     refine wp_skip ?_
     refine co_then ?_
     refine co_seq ?_
     refine co_seq ?_
     refine co_reg ?_
     refine pk0 (v := pt N3 2) h32 rfl fun a35 h35 => ?_; clear h32
     refine pk (v := v) h35 rfl (rn_load1 rfl rfl Try.isAgg34 (hk5.cell rfl)) fun a36 h36 => ?_; clear h35
     refine pk (v := .int .i64 ((l.length : Nat) : Int)) h36 rfl (rn_len rfl rfl Try.underlying34 (hs.below hB15)) fun a37 h37 => ?_; clear h36
     refine pk0 (v := .bool (decide (((l.length : Nat) : Int) > 4))) h37 rfl fun a38 h38 => ?_; clear h37
     refine pl_nil ?_
     refine co_then ?_
     cases hc39 : (decide (((l.length : Nat) : Int) > 4))
     ·
      rw [hc39] at h38
      have hp40 : ¬ (((l.length : Nat) : Int) > 4) := of_decide_eq_false hc39
      clear hc39
      refine co_false h38 rfl ?_
      refine wp_skip ?_
      refine co_then ?_
      refine co_seq ?_
      refine co_seq ?_
      refine co_reg ?_
      refine pk0 (v := .int .i64 0) h38 rfl fun a41 h41 => ?_; clear h38
      refine pl_nil ?_
      refine co_then ?_
      refine wp_block ?_
      have h42 : Slots 66 [(1, pt N3 0), (2, .int .i64 0), (3, .int .i64 0)] _ := h41.sub ⟨rfl, rfl, rfl, trivial⟩; clear h41
      refine co_loop (fun mm a x => ∃ (i : Nat), Slots 66 [(1, pt N3 0), (2, .int .i64 0), (3, .int .i64 ((i : Nat) : Int))] a ∧ mm = l.length - i ∧ (i ≤ l.length) ∧ (chkL (prevK l i) (l.drop i) = chkB c r l) ∧ Below w.heap.size w x ∧ Blk x N3 36 #[.int .i64 c, .int .i64 r, v]) (l.length - 0) ?_ ?_
      · exact ⟨0, h42.sub ⟨rfl, rfl, (slot_eq rfl (congrArg (Value.int .i64) (by first | rfl | omega))), trivial⟩, rfl, by omega, by first | exact chkB_d rfl (by omega) (by omega) (by omega) | exact hL', hB15, hk5⟩
      · rintro k43 a44 w45 ⟨i, h44, rfl, hi46, hi47, hB48, hk49⟩
        have hz50 := hB48.size
        have hl51 := hk49.lt
        have hL : chkL (prevK l i) (l.drop i) = chkB c r l := by assumption
        refine co_seq ?_
        refine co_seq ?_
        refine co_reg ?_
        refine pk0 (v := .int .i64 ((i : Nat) : Int)) h44 rfl fun a52 h52 => ?_; clear h44
        refine pk0 (v := pt N3 2) h52 rfl fun a53 h53 => ?_; clear h52
        refine pk (v := v) h53 rfl (rn_load1 rfl rfl Try.isAgg34 (hk49.cell rfl)) fun a54 h54 => ?_; clear h53
        refine pk (v := .int .i64 ((l.length : Nat) : Int)) h54 rfl (rn_len rfl rfl Try.underlying34 (hs.below hB48)) fun a55 h55 => ?_; clear h54
        refine pk0 (v := .bool (decide (((i : Nat) : Int) < ((l.length : Nat) : Int)))) h55 rfl fun a56 h56 => ?_; clear h55
        refine pl_nil ?_
        refine co_then ?_
        cases hc57 : (decide (((i : Nat) : Int) < ((l.length : Nat) : Int)))
        ·
         rw [hc57] at h56
         have hp58 : ¬ (((i : Nat) : Int) < ((l.length : Nat) : Int)) := of_decide_eq_false hc57
         clear hc57
         refine co_false h56 rfl ?_
         refine wp_exit ?_
         refine co_thenX ?_
         refine co_thenX ?_
         refine co_blockX ?_
         refine co_then ?_
         refine co_seq ?_
         refine co_reg ?_
         refine pk0 (v := .int .i64 0) h56 rfl fun a59 h59 => ?_; clear h56
         refine pl_nil ?_
         refine co_then ?_
         refine wp_ret ?_
         refine co_ret1 h59 rfl rfl ?_
         exact ⟨ret_int (chkL_end (i := i) hL (by omega)), hB48⟩
        ·
         rw [hc57] at h56
         have hp60 : ((i : Nat) : Int) < ((l.length : Nat) : Int) := of_decide_eq_true hc57
         clear hc57
         refine co_true h56 rfl ?_
         refine wp_skip ?_
         refine co_then ?_
         refine co_seq ?_
         refine wp_block ?_
         refine co_seq ?_
         refine co_reg ?_
         refine pk0 (v := pt N3 2) h56 rfl fun a61 h61 => ?_; clear h56
         refine pk (v := v) h61 rfl (rn_load1 rfl rfl Try.isAgg34 (hk49.cell rfl)) fun a62 h62 => ?_; clear h61
         refine pk0 (v := .int .i64 ((i : Nat) : Int)) h62 rfl fun a63 h63 => ?_; clear h62
         obtain ⟨y64, hy64⟩ : ∃ z, l[i]? = some z := ⟨_, List.getElem?_eq_getElem (by first | omega | (simp; done) | (simp; omega))⟩
         refine pk (v := pt (blkOf v) (offOf v + i * 3)) h63 rfl (rn_index rfl rfl rfl Try.underlying34 Try.sizeOf201 (hs.below hB48) (by omega) (by first | omega | (simp; done) | (simp; omega))) fun a65 h65 => ?_; clear h63
         refine pk (v := .agg #[.string y64.1, .string y64.2.1, .bool y64.2.2]) h65 rfl (rn_loadN rfl rfl Try.underlying201 rfl (by kernel_rfl) (sl_at (hs.below hB48) hy64)) fun a66 h66 => ?_; clear h65
         refine pw h66 rfl (op_new (v := fun N => pt N 0) (T := 201) (cs := #[.string (⟨#[]⟩), .string (⟨#[]⟩), .bool false]) (by kernel_rfl) (by kernel_rfl) (by kernel_rfl)) ?_; clear h66
         rintro _ w68 a67 ⟨N69, rfl, hN72, hz73, hk71, hg70⟩ h67
         have hz74 := hg70.size
         try dsimp only at h67
         refine pwD h67 rfl (op_storeN rfl rfl rfl (by kernel_rfl) (by kernel_rfl) hk71 rfl) ?_; clear h67
         rintro _ w76 a75 ⟨hk77, hz78, hg79⟩ h75
         have hk77' : Blk w76 N69 201 #[.string y64.1, .string y64.2.1, .bool y64.2.2] := hk77; clear hk77
         have hz80 := hg79.size
         refine pl_nil ?_
         refine co_then ?_
         refine co_seq ?_
         refine co_seq ?_
         refine co_reg ?_
         refine pk0 (v := pt N69 0) h75 rfl fun a81 h81 => ?_; clear h75
         refine pk (v := .string y64.1) h81 rfl (rn_load1 rfl rfl Try.isAgg9 (hk77'.cell rfl)) fun a82 h82 => ?_; clear h81
         refine pw h82 rfl (op_call (args := #[.string y64.1]) (R := fun res xw => res = .int .i64 (keyC y64.1) ∧ Below w76.heap.size w76 xw) rfl rfl rfl (by kernel_rfl) (by kernel_rfl) (Try.call153 _ _) (rKey_any y64.1 w76 ) (by rintro e x ⟨rfl, hb85⟩; exact ⟨_, rfl, ⟨rfl, hb85⟩⟩)) ?_; clear h82
         rintro _ w84 a83 ⟨rfl, hb85⟩ h83
         have hz86 := hb85.size
         refine pk0 (v := .bool (keyC y64.1 != 0)) h83 rfl fun a87 h87 => ?_; clear h83
         refine pl_nil ?_
         refine co_then ?_
         have hB89 := hb_new hB48 hg70
         have hB90 := hb_at hB89 hg79 (by omega)
         have hB91 := hb_call hB90 hb85
         have hk92 := hk49.kept hg70 (by simp)
         have hk93 := hk92.kept hg79 (by simp; omega)
         have hk94 := hk93.below hb85
         cases hc88 : (keyC y64.1 != 0)
         ·
          rw [hc88] at h87
          have hp95 : ¬ (keyC y64.1 ≠ 0) := by first | simpa using hc88 | simpa [and_assoc] using hc88
          clear hc88
          refine co_false h87 rfl ?_
          refine wp_skip ?_
          refine co_then ?_
          refine co_seq ?_
          refine co_seq ?_
          refine co_reg ?_
          refine pk0 (v := pt N69 1) h87 rfl fun a96 h96 => ?_; clear h87
          have hk97 := hk77'.below hb85
          refine pk (v := .string y64.2.1) h96 rfl (rn_load1 rfl rfl Try.isAgg9 (hk97.cell rfl)) fun a98 h98 => ?_; clear h96
          refine pk (v := .int .i64 ((y64.2.1.size : Nat) : Int)) h98 rfl (rn_lenStr rfl rfl Try.underlying9) fun a99 h99 => ?_; clear h98
          refine pk0 (v := .bool (decide (((y64.2.1.size : Nat) : Int) > 8))) h99 rfl fun a100 h100 => ?_; clear h99
          refine pl_nil ?_
          refine co_then ?_
          cases hc101 : (decide (((y64.2.1.size : Nat) : Int) > 8))
          ·
           rw [hc101] at h100
           have hp102 : ¬ (((y64.2.1.size : Nat) : Int) > 8) := of_decide_eq_false hc101
           clear hc101
           refine co_false h100 rfl ?_
           refine wp_skip ?_
           refine co_then ?_
           refine co_seq ?_
           refine co_seq ?_
           refine co_reg ?_
           refine pk0 (v := pt N69 2) h100 rfl fun a103 h103 => ?_; clear h100
           refine pk (v := .bool y64.2.2) h103 rfl (rn_load1 rfl rfl Try.isAgg4 (hk97.cell rfl)) fun a104 h104 => ?_; clear h103
           refine pk0 (v := .bool y64.2.2) h104 rfl fun a105 h105 => ?_; clear h104
           cases hc106 : (y64.2.2)
           ·
            rw [hc106] at h105
            refine psk h105 rfl fun a107 h107 => ?_; clear h105
            refine psk h107 rfl fun a108 h108 => ?_; clear h107
            refine psk h108 rfl fun a109 h109 => ?_; clear h108
            refine pk0 (v := .bool false) h109 rfl fun a110 h110 => ?_; clear h109
            refine pl_nil ?_
            refine co_then ?_
            refine co_false h110 rfl ?_
            refine wp_skip ?_
            refine co_then ?_
            refine co_seq ?_
            refine dr_eq (by kernel_rfl) (fun w111 hg112 => ?_)
            have hz113 := hg112.size
            refine dk0 0 (v := .int .i64 ((i : Nat) : Int)) h110 rfl rfl rfl fun a114 h114 => ?_; clear h110
            refine dk0 1 (v := .bool (decide (((i : Nat) : Int) > 0))) h114 rfl rfl rfl fun a115 h115 => ?_; clear h114
            refine dk0 2 (v := .bool (decide (((i : Nat) : Int) > 0))) h115 rfl rfl rfl fun a116 h116 => ?_; clear h115
            have hB118 := hb_new hB91 hg112
            cases hc117 : (decide (((i : Nat) : Int) > 0))
            ·
             rw [hc117] at h116
             have hp119 : ¬ (((i : Nat) : Int) > 0) := of_decide_eq_false hc117
             clear hc117
             refine dsk 3 h116 rfl rfl rfl fun a120 h120 => ?_; clear h116
             refine dsk 4 h120 rfl rfl rfl fun a121 h121 => ?_; clear h120
             refine dsk 5 h121 rfl rfl rfl fun a122 h122 => ?_; clear h121
             refine dsk 6 h122 rfl rfl rfl fun a123 h123 => ?_; clear h122
             refine dsk 7 h123 rfl rfl rfl fun a124 h124 => ?_; clear h123
             refine dsk 8 h124 rfl rfl rfl fun a125 h125 => ?_; clear h124
             refine dsk 9 h125 rfl rfl rfl fun a126 h126 => ?_; clear h125
             refine dsk 10 h126 rfl rfl rfl fun a127 h127 => ?_; clear h126
             refine dsk 11 h127 rfl rfl rfl fun a128 h128 => ?_; clear h127
             refine dsk 12 h128 rfl rfl rfl fun a129 h129 => ?_; clear h128
             refine dk0 13 (v := .bool false) h129 rfl rfl rfl fun a130 h130 => ?_; clear h129
             refine dr_done (by kernel_rfl) ?_
             refine co_then ?_
             refine co_false h130 rfl ?_
             refine wp_skip ?_
             refine co_blockN ?_
             refine co_then ?_
             refine co_reg ?_
             refine pk0 (v := .int .i64 ((i : Nat) : Int)) h130 rfl fun a131 h131 => ?_; clear h130
             refine pk (v := .int .i64 ((i + 1 : Nat) : Int)) h131 rfl (rn_arith' rfl rfl rfl rfl rfl rfl (IntWalk.i64_in _ (by omega)) (by omega)) fun a132 h132 => ?_; clear h131
             refine pk0 (v := .int .i64 ((i + 1 : Nat) : Int)) h132 rfl fun a133 h133 => ?_; clear h132
             refine pl_nil ?_
             refine co_then ?_
             refine ⟨(l.length - (i + 1)), by omega, ?_⟩
             have hO : chkOp y64 = 0 := chkOp_d (by assumption) (by assumption) (by first | exact delV_t (by assumption) (by assumption) | exact delV_f (by assumption))
             have hU : keyUp (prevK l i) y64.1 = true := (keyUp_0 (by omega))
             have hL' := chkL_step (i := i) hL hy64 hO hU
             have hk134 := hk94.kept hg112 (by simp)
             exact ⟨i + 1, h133.sub ⟨rfl, rfl, rfl, trivial⟩, rfl, by omega, by first | exact chkB_d rfl (by omega) (by omega) (by omega) | exact hL', hB118, hk134⟩
            ·
             rw [hc117] at h116
             have hp135 : ((i : Nat) : Int) > 0 := of_decide_eq_true hc117
             clear hc117
             refine dk0 3 (v := pt N3 2) h116 rfl rfl rfl fun a136 h136 => ?_; clear h116
             have hk137 := hk94.kept hg112 (by simp)
             refine dk 4 (v := v) h136 rfl rfl rfl (fun x hx => by subst hx; exact (rn_load1 rfl rfl Try.isAgg34 (hk137.cell rfl))) fun a138 h138 => ?_; clear h136
             refine dk0 5 (v := .int .i64 ((i : Nat) : Int)) h138 rfl rfl rfl fun a139 h139 => ?_; clear h138
             refine dk 6 (v := .int .i64 (((i : Nat) : Int) - 1)) h139 rfl rfl rfl (fun x hx => by subst hx; exact (rn_arith rfl rfl rfl rfl rfl rfl (IntWalk.i64_in _ (by omega)))) fun a140 h140 => ?_; clear h139
             obtain ⟨y141, hy141⟩ : ∃ z, l[(((i : Nat) : Int) - 1).toNat]? = some z := ⟨_, List.getElem?_eq_getElem (by first | omega | (simp; done) | (simp; omega))⟩
             refine dk 7 (v := pt (blkOf v) (offOf v + ((((i : Nat) : Int) - 1).toNat) * 3)) h140 rfl rfl rfl (fun x hx => by subst hx; exact (rn_index rfl rfl rfl Try.underlying34 Try.sizeOf201 (hs.below hB118) (by omega) (by first | omega | (simp; done) | (simp; omega)))) fun a142 h142 => ?_; clear h140
             refine dk0 8 (v := pt (blkOf v) (offOf v + ((((i : Nat) : Int) - 1).toNat) * 3)) h142 rfl rfl rfl fun a143 h143 => ?_; clear h142
             refine dk 9 (v := .string y141.1) h143 rfl rfl rfl (fun x hx => by subst hx; exact (rn_load1 rfl rfl Try.isAgg9 ((sl_at (hs.below hB118) hy141) 0 _ rfl))) fun a144 h144 => ?_; clear h143
             refine dk0 10 (v := pt N69 0) h144 rfl rfl rfl fun a145 h145 => ?_; clear h144
             have hk146 := hk97.kept hg112 (by simp)
             refine dk 11 (v := .string y64.1) h145 rfl rfl rfl (fun x hx => by subst hx; exact (rn_load1 rfl rfl Try.isAgg9 (hk146.cell rfl))) fun a147 h147 => ?_; clear h145
             refine dk0 12 (v := .bool (!(Op.bytesLess y141.1.toList y64.1.toList))) h147 rfl rfl rfl fun a148 h148 => ?_; clear h147
             refine dk0 13 (v := .bool (!(Op.bytesLess y141.1.toList y64.1.toList))) h148 rfl rfl rfl fun a149 h149 => ?_; clear h148
             refine dr_done (by kernel_rfl) ?_
             refine co_then ?_
             cases hc150 : (!(Op.bytesLess y141.1.toList y64.1.toList))
             ·
              rw [hc150] at h149
              refine co_false h149 rfl ?_
              refine wp_skip ?_
              refine co_blockN ?_
              refine co_then ?_
              refine co_reg ?_
              refine pk0 (v := .int .i64 ((i : Nat) : Int)) h149 rfl fun a151 h151 => ?_; clear h149
              refine pk (v := .int .i64 ((i + 1 : Nat) : Int)) h151 rfl (rn_arith' rfl rfl rfl rfl rfl rfl (IntWalk.i64_in _ (by omega)) (by omega)) fun a152 h152 => ?_; clear h151
              refine pk0 (v := .int .i64 ((i + 1 : Nat) : Int)) h152 rfl fun a153 h153 => ?_; clear h152
              refine pl_nil ?_
              refine co_then ?_
              refine ⟨(l.length - (i + 1)), by omega, ?_⟩
              have hO : chkOp y64 = 0 := chkOp_d (by assumption) (by assumption) (by first | exact delV_t (by assumption) (by assumption) | exact delV_f (by assumption))
              have hU : keyUp (prevK l i) y64.1 = true := (keyUp_at (l := l) (i := i) (y := y64) (j := (((i : Nat) : Int) - 1).toNat) (by omega) (by omega) hy141 (by simpa using hc150))
              have hL' := chkL_step (i := i) hL hy64 hO hU
              exact ⟨i + 1, h153.sub ⟨rfl, rfl, rfl, trivial⟩, rfl, by omega, by first | exact chkB_d rfl (by omega) (by omega) (by omega) | exact hL', hB118, hk137⟩
             ·
              rw [hc150] at h149
              refine co_true h149 rfl ?_
              refine co_seq ?_
              refine co_reg ?_
              refine pk0 (v := .int .i64 18) h149 rfl fun a154 h154 => ?_; clear h149
              refine pl_nil ?_
              refine co_then ?_
              refine wp_ret ?_
              refine co_blockR ?_
              refine co_thenR ?_
              refine co_thenR ?_
              refine co_blockR ?_
              refine co_thenR ?_
              refine co_ret1 h154 rfl rfl ?_
              have hO : chkOp y64 = 0 := chkOp_d (by assumption) (by assumption) (by first | exact delV_t (by assumption) (by assumption) | exact delV_f (by assumption))
              exact ⟨ret_int (chkL_ord (i := i) hL hy64 hO (keyUp_at (l := l) (i := i) (y := y64) (j := (((i : Nat) : Int) - 1).toNat) (by omega) (by omega) hy141 (by simpa using hc150))), hB118⟩
           ·
            rw [hc106] at h105
            refine pk0 (v := pt N69 1) h105 rfl fun a155 h155 => ?_; clear h105
            refine pk (v := .string y64.2.1) h155 rfl (rn_load1 rfl rfl Try.isAgg9 (hk97.cell rfl)) fun a156 h156 => ?_; clear h155
            refine pk0 (v := .bool (!(y64.2.1.toList == (⟨#[]⟩ : ByteArray).toList))) h156 rfl fun a157 h157 => ?_; clear h156
            refine pk0 (v := .bool (!(y64.2.1.toList == (⟨#[]⟩ : ByteArray).toList))) h157 rfl fun a158 h158 => ?_; clear h157
            refine pl_nil ?_
            refine co_then ?_
            cases hc159 : (!(y64.2.1.toList == (⟨#[]⟩ : ByteArray).toList))
            ·
             rw [hc159] at h158
             refine co_false h158 rfl ?_
             refine wp_skip ?_
             refine co_then ?_
             refine co_seq ?_
             refine dr_eq (by kernel_rfl) (fun w160 hg161 => ?_)
             have hz162 := hg161.size
             refine dk0 0 (v := .int .i64 ((i : Nat) : Int)) h158 rfl rfl rfl fun a163 h163 => ?_; clear h158
             refine dk0 1 (v := .bool (decide (((i : Nat) : Int) > 0))) h163 rfl rfl rfl fun a164 h164 => ?_; clear h163
             refine dk0 2 (v := .bool (decide (((i : Nat) : Int) > 0))) h164 rfl rfl rfl fun a165 h165 => ?_; clear h164
             have hB167 := hb_new hB91 hg161
             cases hc166 : (decide (((i : Nat) : Int) > 0))
             ·
              rw [hc166] at h165
              have hp168 : ¬ (((i : Nat) : Int) > 0) := of_decide_eq_false hc166
              clear hc166
              refine dsk 3 h165 rfl rfl rfl fun a169 h169 => ?_; clear h165
              refine dsk 4 h169 rfl rfl rfl fun a170 h170 => ?_; clear h169
              refine dsk 5 h170 rfl rfl rfl fun a171 h171 => ?_; clear h170
              refine dsk 6 h171 rfl rfl rfl fun a172 h172 => ?_; clear h171
              refine dsk 7 h172 rfl rfl rfl fun a173 h173 => ?_; clear h172
              refine dsk 8 h173 rfl rfl rfl fun a174 h174 => ?_; clear h173
              refine dsk 9 h174 rfl rfl rfl fun a175 h175 => ?_; clear h174
              refine dsk 10 h175 rfl rfl rfl fun a176 h176 => ?_; clear h175
              refine dsk 11 h176 rfl rfl rfl fun a177 h177 => ?_; clear h176
              refine dsk 12 h177 rfl rfl rfl fun a178 h178 => ?_; clear h177
              refine dk0 13 (v := .bool false) h178 rfl rfl rfl fun a179 h179 => ?_; clear h178
              refine dr_done (by kernel_rfl) ?_
              refine co_then ?_
              refine co_false h179 rfl ?_
              refine wp_skip ?_
              refine co_blockN ?_
              refine co_then ?_
              refine co_reg ?_
              refine pk0 (v := .int .i64 ((i : Nat) : Int)) h179 rfl fun a180 h180 => ?_; clear h179
              refine pk (v := .int .i64 ((i + 1 : Nat) : Int)) h180 rfl (rn_arith' rfl rfl rfl rfl rfl rfl (IntWalk.i64_in _ (by omega)) (by omega)) fun a181 h181 => ?_; clear h180
              refine pk0 (v := .int .i64 ((i + 1 : Nat) : Int)) h181 rfl fun a182 h182 => ?_; clear h181
              refine pl_nil ?_
              refine co_then ?_
              refine ⟨(l.length - (i + 1)), by omega, ?_⟩
              have hO : chkOp y64 = 0 := chkOp_d (by assumption) (by assumption) (by first | exact delV_t (by assumption) (by assumption) | exact delV_f (by assumption))
              have hU : keyUp (prevK l i) y64.1 = true := (keyUp_0 (by omega))
              have hL' := chkL_step (i := i) hL hy64 hO hU
              have hk183 := hk94.kept hg161 (by simp)
              exact ⟨i + 1, h182.sub ⟨rfl, rfl, rfl, trivial⟩, rfl, by omega, by first | exact chkB_d rfl (by omega) (by omega) (by omega) | exact hL', hB167, hk183⟩
             ·
              rw [hc166] at h165
              have hp184 : ((i : Nat) : Int) > 0 := of_decide_eq_true hc166
              clear hc166
              refine dk0 3 (v := pt N3 2) h165 rfl rfl rfl fun a185 h185 => ?_; clear h165
              have hk186 := hk94.kept hg161 (by simp)
              refine dk 4 (v := v) h185 rfl rfl rfl (fun x hx => by subst hx; exact (rn_load1 rfl rfl Try.isAgg34 (hk186.cell rfl))) fun a187 h187 => ?_; clear h185
              refine dk0 5 (v := .int .i64 ((i : Nat) : Int)) h187 rfl rfl rfl fun a188 h188 => ?_; clear h187
              refine dk 6 (v := .int .i64 (((i : Nat) : Int) - 1)) h188 rfl rfl rfl (fun x hx => by subst hx; exact (rn_arith rfl rfl rfl rfl rfl rfl (IntWalk.i64_in _ (by omega)))) fun a189 h189 => ?_; clear h188
              obtain ⟨y190, hy190⟩ : ∃ z, l[(((i : Nat) : Int) - 1).toNat]? = some z := ⟨_, List.getElem?_eq_getElem (by first | omega | (simp; done) | (simp; omega))⟩
              refine dk 7 (v := pt (blkOf v) (offOf v + ((((i : Nat) : Int) - 1).toNat) * 3)) h189 rfl rfl rfl (fun x hx => by subst hx; exact (rn_index rfl rfl rfl Try.underlying34 Try.sizeOf201 (hs.below hB167) (by omega) (by first | omega | (simp; done) | (simp; omega)))) fun a191 h191 => ?_; clear h189
              refine dk0 8 (v := pt (blkOf v) (offOf v + ((((i : Nat) : Int) - 1).toNat) * 3)) h191 rfl rfl rfl fun a192 h192 => ?_; clear h191
              refine dk 9 (v := .string y190.1) h192 rfl rfl rfl (fun x hx => by subst hx; exact (rn_load1 rfl rfl Try.isAgg9 ((sl_at (hs.below hB167) hy190) 0 _ rfl))) fun a193 h193 => ?_; clear h192
              refine dk0 10 (v := pt N69 0) h193 rfl rfl rfl fun a194 h194 => ?_; clear h193
              have hk195 := hk97.kept hg161 (by simp)
              refine dk 11 (v := .string y64.1) h194 rfl rfl rfl (fun x hx => by subst hx; exact (rn_load1 rfl rfl Try.isAgg9 (hk195.cell rfl))) fun a196 h196 => ?_; clear h194
              refine dk0 12 (v := .bool (!(Op.bytesLess y190.1.toList y64.1.toList))) h196 rfl rfl rfl fun a197 h197 => ?_; clear h196
              refine dk0 13 (v := .bool (!(Op.bytesLess y190.1.toList y64.1.toList))) h197 rfl rfl rfl fun a198 h198 => ?_; clear h197
              refine dr_done (by kernel_rfl) ?_
              refine co_then ?_
              cases hc199 : (!(Op.bytesLess y190.1.toList y64.1.toList))
              ·
               rw [hc199] at h198
               refine co_false h198 rfl ?_
               refine wp_skip ?_
               refine co_blockN ?_
               refine co_then ?_
               refine co_reg ?_
               refine pk0 (v := .int .i64 ((i : Nat) : Int)) h198 rfl fun a200 h200 => ?_; clear h198
               refine pk (v := .int .i64 ((i + 1 : Nat) : Int)) h200 rfl (rn_arith' rfl rfl rfl rfl rfl rfl (IntWalk.i64_in _ (by omega)) (by omega)) fun a201 h201 => ?_; clear h200
               refine pk0 (v := .int .i64 ((i + 1 : Nat) : Int)) h201 rfl fun a202 h202 => ?_; clear h201
               refine pl_nil ?_
               refine co_then ?_
               refine ⟨(l.length - (i + 1)), by omega, ?_⟩
               have hO : chkOp y64 = 0 := chkOp_d (by assumption) (by assumption) (by first | exact delV_t (by assumption) (by assumption) | exact delV_f (by assumption))
               have hU : keyUp (prevK l i) y64.1 = true := (keyUp_at (l := l) (i := i) (y := y64) (j := (((i : Nat) : Int) - 1).toNat) (by omega) (by omega) hy190 (by simpa using hc199))
               have hL' := chkL_step (i := i) hL hy64 hO hU
               exact ⟨i + 1, h202.sub ⟨rfl, rfl, rfl, trivial⟩, rfl, by omega, by first | exact chkB_d rfl (by omega) (by omega) (by omega) | exact hL', hB167, hk186⟩
              ·
               rw [hc199] at h198
               refine co_true h198 rfl ?_
               refine co_seq ?_
               refine co_reg ?_
               refine pk0 (v := .int .i64 18) h198 rfl fun a203 h203 => ?_; clear h198
               refine pl_nil ?_
               refine co_then ?_
               refine wp_ret ?_
               refine co_blockR ?_
               refine co_thenR ?_
               refine co_thenR ?_
               refine co_blockR ?_
               refine co_thenR ?_
               refine co_ret1 h203 rfl rfl ?_
               have hO : chkOp y64 = 0 := chkOp_d (by assumption) (by assumption) (by first | exact delV_t (by assumption) (by assumption) | exact delV_f (by assumption))
               exact ⟨ret_int (chkL_ord (i := i) hL hy64 hO (keyUp_at (l := l) (i := i) (y := y64) (j := (((i : Nat) : Int) - 1).toNat) (by omega) (by omega) hy190 (by simpa using hc199))), hB167⟩
            ·
             rw [hc159] at h158
             refine co_true h158 rfl ?_
             refine co_seq ?_
             refine co_reg ?_
             refine pk0 (v := .int .i64 4) h158 rfl fun a204 h204 => ?_; clear h158
             refine pl_nil ?_
             refine co_then ?_
             refine wp_ret ?_
             refine co_thenR ?_
             refine co_blockR ?_
             refine co_thenR ?_
             refine co_thenR ?_
             refine co_blockR ?_
             refine co_thenR ?_
             refine co_ret1 h204 rfl rfl ?_
             have hO : chkOp y64 = 4 := chkOp_c (by assumption) (by assumption) (by first | exact delV_t (by assumption) (by assumption) | exact delV_f (by assumption))
             exact ⟨ret_int (hO.symm.trans (chkL_bad (i := i) hL hy64 (by omega))), hB91⟩
          ·
           rw [hc101] at h100
           have hp205 : ((y64.2.1.size : Nat) : Int) > 8 := of_decide_eq_true hc101
           clear hc101
           refine co_true h100 rfl ?_
           refine co_seq ?_
           refine co_reg ?_
           refine pk0 (v := .int .i64 3) h100 rfl fun a206 h206 => ?_; clear h100
           refine pl_nil ?_
           refine co_then ?_
           refine wp_ret ?_
           refine co_thenR ?_
           refine co_blockR ?_
           refine co_thenR ?_
           refine co_thenR ?_
           refine co_blockR ?_
           refine co_thenR ?_
           refine co_ret1 h206 rfl rfl ?_
           have hO : chkOp y64 = 3 := chkOp_b (by assumption) (by assumption)
           exact ⟨ret_int (hO.symm.trans (chkL_bad (i := i) hL hy64 (by omega))), hB91⟩
         ·
          rw [hc88] at h87
          have hp207 : keyC y64.1 ≠ 0 := by first | simpa using hc88 | simpa [and_assoc] using hc88
          clear hc88
          refine co_true h87 rfl ?_
          refine co_seq ?_
          refine co_reg ?_
          refine pk0 (v := .int .i64 10) h87 rfl fun a208 h208 => ?_; clear h87
          refine pl_nil ?_
          refine co_then ?_
          refine wp_ret ?_
          refine co_thenR ?_
          refine co_blockR ?_
          refine co_thenR ?_
          refine co_thenR ?_
          refine co_blockR ?_
          refine co_thenR ?_
          refine co_ret1 h208 rfl rfl ?_
          have hO : chkOp y64 = 10 := by rw [chkOp_a (by assumption), keyC_ten (by assumption)]
          exact ⟨ret_int (hO.symm.trans (chkL_bad (i := i) hL hy64 (by omega))), hB91⟩
     ·
      rw [hc39] at h38
      have hp209 : ((l.length : Nat) : Int) > 4 := of_decide_eq_true hc39
      clear hc39
      refine co_true h38 rfl ?_
      refine co_seq ?_
      refine co_reg ?_
      refine pk0 (v := .int .i64 6) h38 rfl fun a210 h210 => ?_; clear h38
      refine pl_nil ?_
      refine co_then ?_
      refine wp_ret ?_
      refine co_thenR ?_
      refine co_ret1 h210 rfl rfl ?_
      exact ⟨ret_int (chkB_c rfl (by omega) (by omega) (by omega)), hB15⟩
    ·
     rw [hc33] at h32
     have hp211 : r > 1073741824 := of_decide_eq_true hc33
     clear hc33
     refine co_true h32 rfl ?_
     refine co_seq ?_
     refine co_reg ?_
     refine pk0 (v := .int .i64 5) h32 rfl fun a212 h212 => ?_; clear h32
     refine pl_nil ?_
     refine co_then ?_
     refine wp_ret ?_
     refine co_thenR ?_
     refine co_ret1 h212 rfl rfl ?_
     exact ⟨ret_int (chkB_b rfl (by omega) (by omega)), hB15⟩
   ·
    rw [hc27] at h26
    have hp213 : r < 1 := of_decide_eq_true hc27
    clear hc27
    refine psk h26 rfl fun a214 h214 => ?_; clear h26
    refine psk h214 rfl fun a215 h215 => ?_; clear h214
    refine psk h215 rfl fun a216 h216 => ?_; clear h215
    refine pk0 (v := .bool true) h216 rfl fun a217 h217 => ?_; clear h216
    refine pl_nil ?_
    refine co_then ?_
    refine co_true h217 rfl ?_
    refine co_seq ?_
    refine co_reg ?_
    refine pk0 (v := .int .i64 5) h217 rfl fun a218 h218 => ?_; clear h217
    refine pl_nil ?_
    refine co_then ?_
    refine wp_ret ?_
    refine co_thenR ?_
    refine co_ret1 h218 rfl rfl ?_
    exact ⟨ret_int (chkB_b rfl (by omega) (by omega)), hB15⟩
  ·
   rw [hc21] at h20
   have hp219 : c ≥ 3 := of_decide_eq_true hc21
   clear hc21
   refine co_true h20 rfl ?_
   refine co_seq ?_
   refine co_reg ?_
   refine pk0 (v := .int .i64 1) h20 rfl fun a220 h220 => ?_; clear h20
   refine pl_nil ?_
   refine co_then ?_
   refine wp_ret ?_
   refine co_thenR ?_
   refine co_ret1 h220 rfl rfl ?_
   exact ⟨ret_int (chkB_a rfl (by omega)), hB15⟩
 ·
  rw [hc14] at h13
  have hp221 : c < 0 := of_decide_eq_true hc14
  clear hc14
  refine psk h13 rfl fun a222 h222 => ?_; clear h13
  refine psk h222 rfl fun a223 h223 => ?_; clear h222
  refine psk h223 rfl fun a224 h224 => ?_; clear h223
  refine pk0 (v := .bool true) h224 rfl fun a225 h225 => ?_; clear h224
  refine pl_nil ?_
  refine co_then ?_
  refine co_true h225 rfl ?_
  refine co_seq ?_
  refine co_reg ?_
  refine pk0 (v := .int .i64 1) h225 rfl fun a226 h226 => ?_; clear h225
  refine pl_nil ?_
  refine co_then ?_
  refine wp_ret ?_
  refine co_thenR ?_
  refine co_ret1 h226 rfl rfl ?_
  exact ⟨ret_int (chkB_a rfl (by omega)), hB15⟩
end Go.Proofs.Ytlbemlodcdgakaa
