/- Package link: may, In. Conditions: none. -/
import Derived.Test.YthmljllgfigebaaLinkELo
import Derived.RangeFuncNested
import Derived.RangeFuncBound
import Derived.RangeFuncCalls
import Derived.RangeFuncLeaves
import Derived.RangeFuncBox
import Derived.Shelf.Abstract
import Derived.Shelf.RegionOpen
import Derived.WalkKit
import Derived.OwnWalkIn
import Derived.TacticsInMore
import Derived.LoopNIn
import Derived.LoopIn
import Derived.ScopeJumps
namespace Go.Proofs.Ythmljllgfigebaa
open Go.RowKit Go.PlainAid
set_option linter.unusedVariables false


set_option maxRecDepth 100000 in
set_option maxHeartbeats 3200000 in
theorem lkMay_any (s : SegT) (w : World) : Calls Try.prog 74 #[segV s] w fun e w' => e = .returned (.bool (mayT s)) ∧ Below w.heap.size w w' := by
  obtain ⟨N, hN⟩ : ∃ N, N = w.heap.size := ⟨_, rfl⟩
  have hb : Blk (w.alloc (.cells #[.int .i64 s.boot, .int .i64 s.stream, .int .i64 s.seq, .int .i64 s.ab, .int .i64 s.ast, .int .i64 s.asq, .bool s.has, .string s.body] 61)) N 61 #[.int .i64 s.boot, .int .i64 s.stream, .int .i64 s.seq, .int .i64 s.ab, .int .i64 s.ast, .int .i64 s.asq, .bool s.has, .string s.body] := by rw [hN]; exact World.alloc_heap_new w _
  have hB0 : Below w.heap.size w (w.alloc (.cells #[.int .i64 s.boot, .int .i64 s.stream, .int .i64 s.seq, .int .i64 s.ab, .int .i64 s.ast, .int .i64 s.asq, .bool s.has, .string s.body] 61)) := (Below.refl _ w).alloc (Nat.le_refl _) _
  have c0 := hb.cell (k := 0) rfl; have c1 := hb.cell (k := 1) rfl; have c2 := hb.cell (k := 2) rfl; have c3 := hb.cell (k := 3) rfl; have c4 := hb.cell (k := 4) rfl; have c5 := hb.cell (k := 5) rfl
  have HC := Lib.hid hb; have HB0 := Lib.hid hB0; clear hb hB0
  have ix0 : ∀ w : World, (Instr.index 175 (.agg #[.int .i64 s.boot, .int .i64 s.stream, .int .i64 s.seq, .int .i64 s.ab, .int .i64 s.ast, .int .i64 s.asq]) (.int .i64 0)).run Try.prog w = .ok (.int .i64 s.boot) w := fun w => by kernel_rfl
  have ix1 : ∀ w : World, (Instr.index 175 (.agg #[.int .i64 s.boot, .int .i64 s.stream, .int .i64 s.seq, .int .i64 s.ab, .int .i64 s.ast, .int .i64 s.asq]) (.int .i64 1)).run Try.prog w = .ok (.int .i64 s.stream) w := fun w => by kernel_rfl
  have ix2 : ∀ w : World, (Instr.index 175 (.agg #[.int .i64 s.boot, .int .i64 s.stream, .int .i64 s.seq, .int .i64 s.ab, .int .i64 s.ast, .int .i64 s.asq]) (.int .i64 2)).run Try.prog w = .ok (.int .i64 s.seq) w := fun w => by kernel_rfl
  have ix3 : ∀ w : World, (Instr.index 175 (.agg #[.int .i64 s.boot, .int .i64 s.stream, .int .i64 s.seq, .int .i64 s.ab, .int .i64 s.ast, .int .i64 s.asq]) (.int .i64 3)).run Try.prog w = .ok (.int .i64 s.ab) w := fun w => by kernel_rfl
  have ix4 : ∀ w : World, (Instr.index 175 (.agg #[.int .i64 s.boot, .int .i64 s.stream, .int .i64 s.seq, .int .i64 s.ab, .int .i64 s.ast, .int .i64 s.asq]) (.int .i64 4)).run Try.prog w = .ok (.int .i64 s.ast) w := fun w => by kernel_rfl
  have ix5 : ∀ w : World, (Instr.index 175 (.agg #[.int .i64 s.boot, .int .i64 s.stream, .int .i64 s.seq, .int .i64 s.ab, .int .i64 s.ast, .int .i64 s.asq]) (.int .i64 5)).run Try.prog w = .ok (.int .i64 s.asq) w := fun w => by kernel_rfl
  go_enter Try.func74, Try.ntmps74
  unfold segV
  rw [hN] at c0 c1 c2 c3 c4 c5 HC
  go_wp2
  clear c0 c1 c2 c3 c4 c5
  go_loopg [18] 7 (fun g s18 wr => ∃ i : Nat, s18 = .int .i64 i ∧ i ≤ 6 ∧ 7 ≤ i + g ∧ bn s i = true ∧ Hid (Below w.heap.size w wr) ∧ Hid (Blk wr w.heap.size 61 #[.int .i64 s.boot, .int .i64 s.stream, .int .i64 s.seq, .int .i64 s.ab, .int .i64 s.ast, .int .i64 s.asq, .bool s.has, .string s.body]))
  case atStart => exact ⟨0, rfl, by omega, by omega, rfl, HB0, HC⟩
  case round =>
    obtain ⟨i, rfl, hi, hg, hbn, HB, HC⟩ := hrel
    have h7 : i = 6 ∨ i = 0 ∨ i = 1 ∨ i = 2 ∨ i = 3 ∨ i = 4 ∨ i = 5 := by omega
    rcases h7 with h | h | h | h | h | h | h
    · obtain rfl : i = 6 := h
      have c0 := HC.out.cell (k := 0) rfl
      go_wp2
      go_ret
      refine ⟨?_, HB.out⟩
      by_cases h0 : s.boot = 0
      · rw [may_zero h0, h0]; rfl
      · rw [may_yes hbn h0]; simp [h0]
    · obtain rfl : i = 0 := by omega
      have e0 : (l6 s)[0]? = some s.boot := rfl
      by_cases q1 : s.boot < 0
      · have d1 : decide (s.boot < 0) = true := decide_eq_true q1
        go_wp2
        go_ret
        exact ⟨by rw [may_out e0 (.inl q1)]; rfl, HB.out⟩
      · have d1 : decide (s.boot < 0) = false := decide_eq_false q1
        by_cases q2 : s.boot > 1073741824
        · have d2 : decide (s.boot > 1073741824) = true := decide_eq_true q2
          go_wp2
          go_ret
          exact ⟨by rw [may_out e0 (.inr q2)]; rfl, HB.out⟩
        · have d2 : decide (s.boot > 1073741824) = false := decide_eq_false q2
          go_wp2
          go_roundg (gk - 1)
          case rel => exact ⟨1, rfl, by omega, by omega, bn_step hbn e0 (by omega), HB, HC⟩
          case measure => omega
    · obtain rfl : i = 1 := by omega
      have e1 : (l6 s)[1]? = some s.stream := rfl
      by_cases q1 : s.stream < 0
      · have d1 : decide (s.stream < 0) = true := decide_eq_true q1
        go_wp2
        go_ret
        exact ⟨by rw [may_out e1 (.inl q1)]; rfl, HB.out⟩
      · have d1 : decide (s.stream < 0) = false := decide_eq_false q1
        by_cases q2 : s.stream > 1073741824
        · have d2 : decide (s.stream > 1073741824) = true := decide_eq_true q2
          go_wp2
          go_ret
          exact ⟨by rw [may_out e1 (.inr q2)]; rfl, HB.out⟩
        · have d2 : decide (s.stream > 1073741824) = false := decide_eq_false q2
          go_wp2
          go_roundg (gk - 1)
          case rel => exact ⟨2, rfl, by omega, by omega, bn_step hbn e1 (by omega), HB, HC⟩
          case measure => omega
    · obtain rfl : i = 2 := by omega
      have e2 : (l6 s)[2]? = some s.seq := rfl
      by_cases q1 : s.seq < 0
      · have d1 : decide (s.seq < 0) = true := decide_eq_true q1
        go_wp2
        go_ret
        exact ⟨by rw [may_out e2 (.inl q1)]; rfl, HB.out⟩
      · have d1 : decide (s.seq < 0) = false := decide_eq_false q1
        by_cases q2 : s.seq > 1073741824
        · have d2 : decide (s.seq > 1073741824) = true := decide_eq_true q2
          go_wp2
          go_ret
          exact ⟨by rw [may_out e2 (.inr q2)]; rfl, HB.out⟩
        · have d2 : decide (s.seq > 1073741824) = false := decide_eq_false q2
          go_wp2
          go_roundg (gk - 1)
          case rel => exact ⟨3, rfl, by omega, by omega, bn_step hbn e2 (by omega), HB, HC⟩
          case measure => omega
    · obtain rfl : i = 3 := by omega
      have e3 : (l6 s)[3]? = some s.ab := rfl
      by_cases q1 : s.ab < 0
      · have d1 : decide (s.ab < 0) = true := decide_eq_true q1
        go_wp2
        go_ret
        exact ⟨by rw [may_out e3 (.inl q1)]; rfl, HB.out⟩
      · have d1 : decide (s.ab < 0) = false := decide_eq_false q1
        by_cases q2 : s.ab > 1073741824
        · have d2 : decide (s.ab > 1073741824) = true := decide_eq_true q2
          go_wp2
          go_ret
          exact ⟨by rw [may_out e3 (.inr q2)]; rfl, HB.out⟩
        · have d2 : decide (s.ab > 1073741824) = false := decide_eq_false q2
          go_wp2
          go_roundg (gk - 1)
          case rel => exact ⟨4, rfl, by omega, by omega, bn_step hbn e3 (by omega), HB, HC⟩
          case measure => omega
    · obtain rfl : i = 4 := by omega
      have e4 : (l6 s)[4]? = some s.ast := rfl
      by_cases q1 : s.ast < 0
      · have d1 : decide (s.ast < 0) = true := decide_eq_true q1
        go_wp2
        go_ret
        exact ⟨by rw [may_out e4 (.inl q1)]; rfl, HB.out⟩
      · have d1 : decide (s.ast < 0) = false := decide_eq_false q1
        by_cases q2 : s.ast > 1073741824
        · have d2 : decide (s.ast > 1073741824) = true := decide_eq_true q2
          go_wp2
          go_ret
          exact ⟨by rw [may_out e4 (.inr q2)]; rfl, HB.out⟩
        · have d2 : decide (s.ast > 1073741824) = false := decide_eq_false q2
          go_wp2
          go_roundg (gk - 1)
          case rel => exact ⟨5, rfl, by omega, by omega, bn_step hbn e4 (by omega), HB, HC⟩
          case measure => omega
    · obtain rfl : i = 5 := by omega
      have e5 : (l6 s)[5]? = some s.asq := rfl
      by_cases q1 : s.asq < 0
      · have d1 : decide (s.asq < 0) = true := decide_eq_true q1
        go_wp2
        go_ret
        exact ⟨by rw [may_out e5 (.inl q1)]; rfl, HB.out⟩
      · have d1 : decide (s.asq < 0) = false := decide_eq_false q1
        by_cases q2 : s.asq > 1073741824
        · have d2 : decide (s.asq > 1073741824) = true := decide_eq_true q2
          go_wp2
          go_ret
          exact ⟨by rw [may_out e5 (.inr q2)]; rfl, HB.out⟩
        · have d2 : decide (s.asq > 1073741824) = false := decide_eq_false q2
          go_wp2
          go_roundg (gk - 1)
          case rel => exact ⟨6, rfl, by omega, by omega, bn_step hbn e5 (by omega), HB, HC⟩
          case measure => omega

set_option maxRecDepth 100000 in
set_option maxHeartbeats 1600000 in
theorem lkIn_any (S : Nat → Prop) (b : Nat) (u : Value) (L : LnT) (s : SegT) (w : World) (hU : LkU 102 S w b u L) :
    Calls Try.prog 39 #[pt b 0, .agg #[.int .i64 s.boot, .int .i64 s.stream, .int .i64 s.seq, .int .i64 s.ab, .int .i64 s.ast, .int .i64 s.asq, .bool s.has, .string s.body]] w fun e w' => ∃ (u' : Value) (v : Value), e = .returned (.tuple #[v, .int .i64 ((inT L s).2.1)]) ∧ (∃ S' : Nat → Prop, LkU 102 S' w' b u' (inT L s).2.2 ∧ Grew S S' w w' ∧ w'.ownsRow w.heap.size 9 1 v (inT L s).1.length ((inT L s).1.flatMap strE) ∧ ∀ i, v.ownBlock = some i → ¬ S' i) ∧ But (S) w w' := by
 obtain ⟨K, hK⟩ : ∃ K, K = knowT L s := ⟨_, rfl⟩
 obtain ⟨A, hA⟩ : ∃ A, A = ackT K s := ⟨_, rfl⟩
 have hB0 := But.refl (S) w
 obtain ⟨hB, ⟨B0, hR⟩, hSS, hbu, hok⟩ := id hU
 have hB : Blk w b 102 #[.int .i64 L.boot, .int .i64 L.stream, .int .i64 L.first, u, .int .i64 L.told, .int .i64 L.peer, .int .i64 L.in0, .int .i64 L.next, .bool L.owes] := hB
 have hl_B := hB.lt
 have hR := row_lows hR (Nat.zero_le _)
 have hsb : S b := (hSS b).2 (.inl rfl)
 have hSb : S b ∨ w.heap.size ≤ b := .inl hsb
 obtain ⟨⟨k1, k2⟩, ⟨k3, k4⟩, ⟨k5, k6⟩, ⟨k7, k8⟩, ⟨k9, k10⟩, ⟨k11, k12⟩, ⟨k13, k14⟩, k15, k16⟩ := id hok
 refine co_enter (n := 90) Try.func39 rfl rfl rfl [(0, pt b 0), (1, .agg #[.int .i64 s.boot, .int .i64 s.stream, .int .i64 s.seq, .int .i64 s.ab, .int .i64 s.ast, .int .i64 s.asq, .bool s.has, .string s.body])] rfl (fun a h0 => ?_)
 refine co_seq ?_
 refine co_reg ?_
 refine pw h0 rfl (op_new (v := fun N => pt N 0) (T := 61) (cs := #[.int .i64 s.boot, .int .i64 s.stream, .int .i64 s.seq, .int .i64 s.ab, .int .i64 s.ast, .int .i64 s.asq, .bool s.has, .string s.body]) (by kernel_rfl) (by kernel_rfl) (by kernel_rfl)) ?_; clear h0
 rintro _ w2 a1 ⟨N3, rfl, hN6, hz7, hk5, hg4⟩ h1
 have ha8 := row_fresh hR hN6
 have hu9 := row_under hR hN6
 have hz10 := hg4.size
 try dsimp only at h1
 refine pk0 (v := .slice none 0 0) h1 rfl fun a11 h11 => ?_; clear h1
 refine pk0 (v := .int .i64 0) h11 rfl fun a12 h12 => ?_; clear h11
 refine pl_nil ?_
 refine co_then ?_
 refine co_seq ?_
 refine co_seq ?_
 refine co_reg ?_
 refine pk0 (v := pt b 0) h12 rfl fun a13 h13 => ?_; clear h12
 have hk16 := hB.kept hg4 (by simp)
 refine pw h13 rfl (op_call (args := #[pt b 0]) (R := fun res xw => res = .bool false ∧ w2 = xw) rfl rfl rfl (by kernel_rfl) (by kernel_rfl) (Try.call71 _ _) (lkZero_blk b u _ w2 hk16 hok) (by rintro e x ⟨rfl, rfl⟩; exact ⟨_, rfl, ⟨rfl, rfl⟩⟩)) ?_; clear h13
 rintro _ _ a14 ⟨rfl, rfl⟩ h14
 refine pl_nil ?_
 refine co_then ?_
 refine co_false h14 rfl ?_
 refine wp_skip ?_
 refine co_then ?_
 refine co_seq ?_
 refine co_seq ?_
 refine co_reg ?_
 refine pk (v := .agg #[.int .i64 s.boot, .int .i64 s.stream, .int .i64 s.seq, .int .i64 s.ab, .int .i64 s.ast, .int .i64 s.asq, .bool s.has, .string s.body]) h14 rfl (rn_loadN rfl rfl Try.underlying61 rfl (by kernel_rfl) hk5.all) fun a18 h18 => ?_; clear h14
 have hB21 := fbU_new hB0 hg4
 refine pw h18 rfl (op_call (args := #[.agg #[.int .i64 s.boot, .int .i64 s.stream, .int .i64 s.seq, .int .i64 s.ab, .int .i64 s.ast, .int .i64 s.asq, .bool s.has, .string s.body]]) (R := fun res xw => res = .bool (mayT s) ∧ Below w2.heap.size w2 xw) rfl rfl rfl (by kernel_rfl) (by kernel_rfl) (Try.call74 _ _) (lkMay_any s w2) (by rintro e x ⟨rfl, h⟩; exact ⟨_, rfl, rfl, h⟩)) ?_; clear h18
 rintro _ w20 a19 ⟨rfl, hb22⟩ h19
 have hz23 := hb22.size
 have hB25 := fbU_call hB21 hb22
 have hr26 := row_kept_new hR hg4
 have hr27 := row_kept_new hr26 (below_grown hb22)
 cases hc24 : (mayT s)
 ·
  rw [hc24] at h19
  refine pk0 (v := .bool true) h19 rfl fun a28 h28 => ?_; clear h19
  refine pl_nil ?_
  refine co_then ?_
  refine co_true h28 rfl ?_
  refine co_seq ?_
  refine co_reg ?_
  refine pk0 (v := .slice none 0 0) h28 rfl fun a29 h29 => ?_; clear h28
  refine pk0 (v := .int .i64 1) h29 rfl fun a30 h30 => ?_; clear h29
  refine pl_nil ?_
  refine co_then ?_
  refine wp_ret ?_
  refine co_thenR ?_
  refine co_ret2 h30 rfl rfl rfl ?_
  have hk31 := hk16.below hb22
  have hE := (inT_a (by first | exact may_zero (by omega) | exact may_out (by assumption) (by omega) | assumption) : inT L s = ([], 1, L))
  rw [hE]
  exact ⟨u, _, rfl, ⟨S, (LkU.same' hU hB25 hk31 hr27).1, (LkU.same' hU hB25 hk31 hr27).2, World.ownsRow_nil _ _ _ _, by simp [Value.ownBlock]⟩, hB25⟩
 ·
  rw [hc24] at h19
  refine pk0 (v := .bool false) h19 rfl fun a32 h32 => ?_; clear h19
  refine pl_nil ?_
  refine co_then ?_
  refine co_false h32 rfl ?_
  refine wp_skip ?_
  refine co_then ?_
  refine co_seq ?_
  refine co_seq ?_
  refine dr_eq (by kernel_rfl) (fun w33 hg34 => ?_)
  have hz35 := hg34.size
  refine dk0 0 (v := pt N3 0) h32 rfl rfl rfl fun a36 h36 => ?_; clear h32
  have hk37 := hk5.below hb22
  have hk38 := hk37.kept hg34 (by simp)
  refine dk 1 (v := .int .i64 s.boot) h36 rfl rfl rfl (fun x hx => by subst hx; exact (rn_load1 rfl rfl Try.isAgg3 (hk38.cell rfl))) fun a39 h39 => ?_; clear h36
  refine dk0 2 (v := pt b 0) h39 rfl rfl rfl fun a40 h40 => ?_; clear h39
  refine dk0 3 (v := pt b 0) h40 rfl rfl rfl fun a41 h41 => ?_; clear h40
  refine dk0 4 (v := pt b 5) h41 rfl rfl rfl fun a42 h42 => ?_; clear h41
  have hk43 := hk16.below hb22
  have hk44 := hk43.kept hg34 (by simp)
  refine dk 5 (v := .int .i64 L.peer) h42 rfl rfl rfl (fun x hx => by subst hx; exact (rn_load1 rfl rfl Try.isAgg3 (hk44.cell rfl))) fun a45 h45 => ?_; clear h42
  refine dk0 6 (v := .bool (decide (s.boot < L.peer))) h45 rfl rfl rfl fun a46 h46 => ?_; clear h45
  refine dr_done (by kernel_rfl) ?_
  refine co_then ?_
  have hB48 := fbU_new hB25 hg34
  cases hc47 : (decide (s.boot < L.peer))
  ·
   rw [hc47] at h46
   have hp49 : ¬ (s.boot < L.peer) := of_decide_eq_false hc47
   clear hc47
   refine co_false h46 rfl ?_
   refine wp_skip ?_
   refine co_then ?_
   refine co_seq ?_
   refine co_reg ?_
   refine pk0 (v := pt b 0) h46 rfl fun a50 h50 => ?_; clear h46
   refine pk (v := .agg #[.int .i64 s.boot, .int .i64 s.stream, .int .i64 s.seq, .int .i64 s.ab, .int .i64 s.ast, .int .i64 s.asq, .bool s.has, .string s.body]) h50 rfl (rn_loadN rfl rfl Try.underlying61 rfl (by kernel_rfl) hk38.all) fun a51 h51 => ?_; clear h50
   have hm : mayT s = true := by assumption
   have hmI := mayT_iff.1 hm
   have hmq : 0 ≤ s.asq ∧ s.asq ≤ 1073741824 := hmI.2.2.2.2.2.1
   have hKok : LnOk K := hK ▸ knowT_ok hok hm
   obtain ⟨⟨m1, m2⟩, ⟨m3, m4⟩, ⟨m5, m6⟩, ⟨m7, m8⟩, ⟨m9, m10⟩, ⟨m11, m12⟩, ⟨m13, m14⟩, m15, m16⟩ := id hKok
   obtain ⟨hKq, hKb, hKo⟩ : K.q = L.q ∧ K.boot = L.boot ∧ K.owes = L.owes := hK ▸ knowT_q L s
   refine pw h51 rfl (op_call (args := #[pt b 0, .agg #[.int .i64 s.boot, .int .i64 s.stream, .int .i64 s.seq, .int .i64 s.ab, .int .i64 s.ast, .int .i64 s.asq, .bool s.has, .string s.body]]) (R := fun res xw => res = .tuple #[] ∧ Blk xw b 102 (lnC K u) ∧ But (fun q => q = b) w33 xw) rfl rfl rfl (by kernel_rfl) (by kernel_rfl) (Try.call75 _ _) (lkKnow_blk b u L s w33 hk44 hok ⟨by omega, by omega⟩) (by rintro e x ⟨rfl, h1, h2⟩; rw [← hK] at h1; exact ⟨_, rfl, rfl, h1, h2⟩)) ?_; clear h51
   rintro _ w53 a52 ⟨rfl, hkK54, hx55⟩ h52
   have hz56 := hx55.size
   have hkK54' : Blk w53 b 102 #[.int .i64 K.boot, .int .i64 K.stream, .int .i64 K.first, u, .int .i64 K.told, .int .i64 K.peer, .int .i64 K.in0, .int .i64 K.next, .bool K.owes] := hkK54
   have hr58 := row_kept_new hr27 hg34
   have hr59 := own_but hr58 hx55 (fun i hi hS => by (try simp at hS); subst hS; exact absurd hi (hbu))
   have hr57 := row_eq hr59 hKq.symm
   refine pl_nil ?_
   refine co_then ?_
   refine co_seq ?_
   refine dr_eq (by kernel_rfl) (fun w60 hg61 => ?_)
   have hz62 := hg61.size
   refine dk0 0 (v := pt N3 3) h52 rfl rfl rfl fun a63 h63 => ?_; clear h52
   have hk64 := hk38.but hx55 (by first | omega | (simp; omega))
   have hk65 := hk64.kept hg61 (by simp)
   refine dk 1 (v := .int .i64 s.ab) h63 rfl rfl rfl (fun x hx => by subst hx; exact (rn_load1 rfl rfl Try.isAgg3 (hk65.cell rfl))) fun a66 h66 => ?_; clear h63
   refine dk0 2 (v := pt b 0) h66 rfl rfl rfl fun a67 h67 => ?_; clear h66
   refine dk0 3 (v := pt b 0) h67 rfl rfl rfl fun a68 h68 => ?_; clear h67
   refine dk0 4 (v := pt b 0) h68 rfl rfl rfl fun a69 h69 => ?_; clear h68
   have hk70 := hkK54'.kept hg61 (by simp)
   refine dk 5 (v := .int .i64 K.boot) h69 rfl rfl rfl (fun x hx => by subst hx; exact (rn_load1 rfl rfl Try.isAgg3 (hk70.cell rfl))) fun a71 h71 => ?_; clear h69
   refine dk0 6 (v := .bool (s.ab == K.boot)) h71 rfl rfl rfl fun a72 h72 => ?_; clear h71
   refine dk0 7 (v := .bool (s.ab == K.boot)) h72 rfl rfl rfl fun a73 h73 => ?_; clear h72
   refine dr_done (by kernel_rfl) ?_
   refine co_then ?_
   have hB74 := fbU_foot hB48 hx55 (fun i hlt hS => by (try simp at hS); first | omega | (simp; omega) | simp_all)
   have hB75 := fbU_new hB74 hg61
   refine co_cut (fun a x => ∃ (u2 : Value), Slots 90 [(0, pt b 0), (3, pt N3 0), (6, .bool (s.ab == K.boot))] a ∧ (InS S w.heap.size u2) ∧ (u2.ownBlock ≠ some b) ∧ Blk x b 102 #[.int .i64 A.boot, .int .i64 A.stream, .int .i64 A.first, u2, .int .i64 A.told, .int .i64 A.peer, .int .i64 A.in0, .int .i64 A.next, .bool A.owes] ∧ x.ownsRow 0 9 1 u2 A.q.length (A.q.flatMap strE) ∧ Blk x N3 61 #[.int .i64 s.boot, .int .i64 s.stream, .int .i64 s.seq, .int .i64 s.ab, .int .i64 s.ast, .int .i64 s.asq, .bool s.has, .string s.body] ∧ But (S) w x) ?_ ?_
   ·
    refine co_seq ?_
    refine dr_eq (by kernel_rfl) (fun w76 hg77 => ?_)
    have hz78 := hg77.size
    refine dk0 0 (v := .bool (s.ab == K.boot)) h73 rfl rfl rfl fun a79 h79 => ?_; clear h73
    refine dk0 1 (v := .bool (s.ab == K.boot)) h79 rfl rfl rfl fun a80 h80 => ?_; clear h79
    have hB82 := fbU_new hB75 hg77
    have hr83 := row_kept_new hr57 hg61
    have hr84 := row_kept_new hr83 hg77
    cases hc81 : (s.ab == K.boot)
    ·
     rw [hc81] at h80
     have hp85 : ¬ (s.ab = K.boot) := by first | simpa using hc81 | simpa [and_assoc] using hc81
     clear hc81
     refine dsk 2 h80 rfl rfl rfl fun a86 h86 => ?_; clear h80
     refine dsk 3 h86 rfl rfl rfl fun a87 h87 => ?_; clear h86
     refine dsk 4 h87 rfl rfl rfl fun a88 h88 => ?_; clear h87
     refine dsk 5 h88 rfl rfl rfl fun a89 h89 => ?_; clear h88
     refine dsk 6 h89 rfl rfl rfl fun a90 h90 => ?_; clear h89
     refine dsk 7 h90 rfl rfl rfl fun a91 h91 => ?_; clear h90
     refine dsk 8 h91 rfl rfl rfl fun a92 h92 => ?_; clear h91
     refine dk0 9 (v := .bool false) h92 rfl rfl rfl fun a93 h93 => ?_; clear h92
     refine dr_done (by kernel_rfl) ?_
     refine co_then ?_
     refine co_false h93 rfl ?_
     refine wp_skip ?_
     refine co_then ?_
     have hAA : A.first = K.first ∧ A.q = K.q ∧ A.told = K.told := (by rw [ack_n hA hKok (by omega)]; exact ⟨rfl, rfl, rfl⟩)
     have hcA := ackT_c K s; rw [← hA] at hcA
     have hk94 := hk70.kept hg77 (by simp)
     have hk95 := hk65.kept hg77 (by simp)
     exact ⟨u, h93.sub ⟨rfl, rfl, (slot_eq rfl (by first | rfl | (congr 1; symm; first | (simp; done) | (simp; omega)))), trivial⟩, ((InS.of (fun i hi => (hSS i).2 (.inr hi)))), hbu, (by rw [hcA.1, hcA.2.1, hAA.1, hAA.2.2, hcA.2.2.1, hcA.2.2.2.1, hcA.2.2.2.2.1, hcA.2.2.2.2.2]; exact hk94), (row_eq (row_lows hr84 (Nat.zero_le _)) hAA.2.1.symm), hk95, hB82⟩
    ·
     rw [hc81] at h80
     have hp96 : s.ab = K.boot := by first | simpa using hc81 | simpa [and_assoc] using hc81
     clear hc81
     refine dk0 2 (v := pt N3 4) h80 rfl rfl rfl fun a97 h97 => ?_; clear h80
     have hk98 := hk65.kept hg77 (by simp)
     refine dk 3 (v := .int .i64 s.ast) h97 rfl rfl rfl (fun x hx => by subst hx; exact (rn_load1 rfl rfl Try.isAgg3 (hk98.cell rfl))) fun a99 h99 => ?_; clear h97
     refine dk0 4 (v := pt b 0) h99 rfl rfl rfl fun a100 h100 => ?_; clear h99
     refine dk0 5 (v := pt b 0) h100 rfl rfl rfl fun a101 h101 => ?_; clear h100
     refine dk0 6 (v := pt b 1) h101 rfl rfl rfl fun a102 h102 => ?_; clear h101
     have hk103 := hk70.kept hg77 (by simp)
     refine dk 7 (v := .int .i64 K.stream) h102 rfl rfl rfl (fun x hx => by subst hx; exact (rn_load1 rfl rfl Try.isAgg3 (hk103.cell rfl))) fun a104 h104 => ?_; clear h102
     refine dk0 8 (v := .bool (s.ast == K.stream)) h104 rfl rfl rfl fun a105 h105 => ?_; clear h104
     refine dk0 9 (v := .bool (s.ast == K.stream)) h105 rfl rfl rfl fun a106 h106 => ?_; clear h105
     refine dr_done (by kernel_rfl) ?_
     refine co_then ?_
     cases hc107 : (s.ast == K.stream)
     ·
      rw [hc107] at h106
      have hp108 : ¬ (s.ast = K.stream) := by first | simpa using hc107 | simpa [and_assoc] using hc107
      clear hc107
      refine co_false h106 rfl ?_
      refine wp_skip ?_
      refine co_then ?_
      have hAA : A.first = K.first ∧ A.q = K.q ∧ A.told = K.told := (by rw [ack_n hA hKok (by omega)]; exact ⟨rfl, rfl, rfl⟩)
      have hcA := ackT_c K s; rw [← hA] at hcA
      exact ⟨u, h106.sub ⟨rfl, rfl, (slot_eq rfl (by first | rfl | (congr 1; symm; first | (simp; done) | (simp; omega)))), trivial⟩, ((InS.of (fun i hi => (hSS i).2 (.inr hi)))), hbu, (by rw [hcA.1, hcA.2.1, hAA.1, hAA.2.2, hcA.2.2.1, hcA.2.2.2.1, hcA.2.2.2.2.1, hcA.2.2.2.2.2]; exact hk103), (row_eq (row_lows hr84 (Nat.zero_le _)) hAA.2.1.symm), hk98, hB82⟩
     ·
      rw [hc107] at h106
      have hp109 : s.ast = K.stream := by first | simpa using hc107 | simpa [and_assoc] using hc107
      clear hc107
      refine co_true h106 rfl ?_
      refine dr_gen (fun x => But (S) w x ∧ Blk x N3 61 #[.int .i64 s.boot, .int .i64 s.stream, .int .i64 s.seq, .int .i64 s.ab, .int .i64 s.ast, .int .i64 s.asq, .bool s.has, .string s.body]) (by kernel_rfl) (fun w110 hg111 => ?_) (fun w110 hg111 => ?_)
      ·
       have hz112 := hg111.size
       have hB113 := fbU_new hB82 hg111
       have hk114 := hk98.kept hg111 (by simp)
       exact ⟨hB113, hk114⟩
      have hz115 := hg111.size
      have hB116 := fbU_new hB82 hg111
      have hk117 := hk98.kept hg111 (by simp)
      refine dk0 0 (v := pt b 0) h106 rfl rfl ⟨hB116, hk117⟩ fun a118 h118 => ?_; clear h106
      refine dk0 1 (v := pt b 0) h118 rfl rfl ⟨hB116, hk117⟩ fun a119 h119 => ?_; clear h118
      refine dk0 2 (v := pt b 0) h119 rfl rfl ⟨hB116, hk117⟩ fun a120 h120 => ?_; clear h119
      refine dk0 3 (v := pt b 4) h120 rfl rfl ⟨hB116, hk117⟩ fun a121 h121 => ?_; clear h120
      refine dk0 5 (v := pt b 0) h121 rfl rfl ⟨hB116, hk117⟩ fun a122 h122 => ?_; clear h121
      refine dk0 6 (v := pt b 0) h122 rfl rfl ⟨hB116, hk117⟩ fun a123 h123 => ?_; clear h122
      refine dk0 7 (v := pt b 2) h123 rfl rfl ⟨hB116, hk117⟩ fun a124 h124 => ?_; clear h123
      refine dk0 8 (v := pt N3 5) h124 rfl rfl ⟨hB116, hk117⟩ fun a125 h125 => ?_; clear h124
      refine dk 9 (v := .int .i64 s.asq) h125 rfl rfl ⟨hB116, hk117⟩ (fun x hx => (rn_load1 rfl rfl Try.isAgg3 (hx.2.cell rfl))) fun a126 h126 => ?_; clear h125
      refine dr_many [4, 10] (by kernel_rfl) (by simp) ⟨?_, ?_, trivial⟩
      ·
       have hk127 := hk103.kept hg111 (by simp)
       refine dr_opVal (i := 4) (v := .int .i64 K.told) h126 rfl rfl rfl rfl (by kernel_rfl) rfl (rn_load1 rfl rfl Try.isAgg3 (hk127.cell rfl)) ⟨hB116, hk117⟩ (fun a128 h128 => ?_); clear h126
       have hgl := goneN_le K s.asq
       have hr136 := row_kept_new hr84 hg111
       refine d1 10 h128 rfl rfl (op_call (args := #[pt b 2, .int .i64 s.asq]) (R := fun res xw => ∃ u', res = .int .i64 (goneN K s.asq : Int) ∧ Blk xw b 102 #[.int .i64 K.boot, .int .i64 K.stream, .int .i64 (K.first + (goneN K s.asq : Int)), u', .int .i64 K.told, .int .i64 K.peer, .int .i64 K.in0, .int .i64 K.next, .bool K.owes] ∧ xw.ownsRow w110.heap.size 9 1 u' (K.q.drop (goneN K s.asq)).length ((K.q.drop (goneN K s.asq)).flatMap strE) ∧ But (fun q => q = b) w110 xw) rfl rfl rfl (by kernel_rfl) (by kernel_rfl) (Try.call76 _ _) (lkBelow_blk b u K 0 s.asq w110 hk127 hKok hr136 ⟨by omega, by omega⟩ hbu) (by rintro e x ⟨u', rfl, h⟩; exact ⟨_, rfl, u', rfl, h⟩)) ?_ ?_; clear h128
       ·
        rintro _ w130 ⟨u134, rfl, hkA131, hr133, hx132⟩
        have hz137 := hx132.size
        have hkA131' : Blk w130 b 102 #[.int .i64 K.boot, .int .i64 K.stream, .int .i64 (K.first + (goneN K s.asq : Int)), u134, .int .i64 K.told, .int .i64 K.peer, .int .i64 K.in0, .int .i64 K.next, .bool K.owes] := hkA131
        have hB138 := fbU_foot hB116 hx132 (fun i hlt hS => by (try simp at hS); first | omega | (simp; omega) | simp_all)
        have hk139 := hk117.but hx132 (by first | omega | (simp; omega))
        exact ⟨hB138, hk139⟩
       rintro _ w130 a129 ⟨u134, rfl, hkA131, hr133, hx132⟩ h129
       have hz137 := hx132.size
       have hkA131' : Blk w130 b 102 #[.int .i64 K.boot, .int .i64 K.stream, .int .i64 (K.first + (goneN K s.asq : Int)), u134, .int .i64 K.told, .int .i64 K.peer, .int .i64 K.in0, .int .i64 K.next, .bool K.owes] := hkA131
       have hB138 := fbU_foot hB116 hx132 (fun i hlt hS => by (try simp at hS); first | omega | (simp; omega) | simp_all)
       have hk139 := hk117.but hx132 (by first | omega | (simp; omega))
       refine dk 11 (v := .int .i64 (K.told - (goneN K s.asq : Int))) h129 rfl rfl ⟨hB138, hk139⟩ (fun x hx => (rn_arith rfl rfl rfl rfl rfl rfl (IntWalk.i64_in _ (by omega)))) fun a140 h140 => ?_; clear h129
       by_cases hs141 : K.told - (goneN K s.asq : Int) < 0
       ·
        refine dk 12 (v := .int .i64 0) h140 rfl rfl ⟨hB138, hk139⟩ (fun x hx => (rn_max2 rfl rfl rfl rfl (by omega))) fun a142 h142 => ?_; clear h140
        refine dk0 13 (v := pt b 0) h142 rfl rfl ⟨hB138, hk139⟩ fun a143 h143 => ?_; clear h142
        refine dk0 14 (v := pt b 4) h143 rfl rfl ⟨hB138, hk139⟩ fun a144 h144 => ?_; clear h143
        refine d1D 15 h144 rfl rfl (op_store1 rfl rfl rfl rfl Try.sizeOf3 hkA131' rfl) ?_ ?_; clear h144
        ·
         rintro _ w146 ⟨hk147, hz148, hg149⟩
         have hk147' : Blk w146 b 102 #[.int .i64 K.boot, .int .i64 K.stream, .int .i64 (K.first + (goneN K s.asq : Int)), u134, .int .i64 0, .int .i64 K.peer, .int .i64 K.in0, .int .i64 K.next, .bool K.owes] := hk147; clear hk147
         have hz150 := hg149.size
         have hB151 := fbU_at hB138 hg149 (fun hlt => by rcases hSb with hq | hq; exact hq; omega)
         have hk152 := hk139.kept hg149 (by simp; omega)
         exact ⟨hB151, hk152⟩
        rintro _ w146 a145 ⟨hk147, hz148, hg149⟩ h145
        have hk147' : Blk w146 b 102 #[.int .i64 K.boot, .int .i64 K.stream, .int .i64 (K.first + (goneN K s.asq : Int)), u134, .int .i64 0, .int .i64 K.peer, .int .i64 K.in0, .int .i64 K.next, .bool K.owes] := hk147; clear hk147
        have hz150 := hg149.size
        refine dr_done (by kernel_rfl) ?_
        refine co_then ?_
        have hAA : A.first = K.first + (goneN K s.asq : Int) ∧ A.q = (K.q.drop (goneN K s.asq)) ∧ A.told = 0 := (by rw [ack_y hA (by omega)]; refine ⟨rfl, rfl, ?_⟩; show max (K.told - (goneN K s.asq : Int)) 0 = _; omega)
        have hcA := ackT_c K s; rw [← hA] at hcA
        have hr151 := row_kept_at hr133 hg149 (own_neT hr133 hkA131' (by decide))
        have hk152 := hk139.kept hg149 (by simp; omega)
        have hB153 := fbU_at hB138 hg149 (fun hlt => by rcases hSb with hq | hq; exact hq; omega)
        exact ⟨u134, h145.sub ⟨rfl, rfl, (slot_eq rfl (by first | rfl | (congr 1; symm; first | (simp; done) | (simp; omega)))), trivial⟩, (InS.low hr151 (by omega)), (own_neT hr151 hk147' (by decide)), (by rw [hcA.1, hcA.2.1, hAA.1, hAA.2.2, hcA.2.2.1, hcA.2.2.2.1, hcA.2.2.2.2.1, hcA.2.2.2.2.2]; exact hk147'), (row_eq (row_lows hr151 (Nat.zero_le _)) hAA.2.1.symm), hk152, hB153⟩
       ·
        refine dk 12 (v := .int .i64 (K.told - (goneN K s.asq : Int))) h140 rfl rfl ⟨hB138, hk139⟩ (fun x hx => (rn_max1 rfl rfl rfl rfl (by omega))) fun a154 h154 => ?_; clear h140
        refine dk0 13 (v := pt b 0) h154 rfl rfl ⟨hB138, hk139⟩ fun a155 h155 => ?_; clear h154
        refine dk0 14 (v := pt b 4) h155 rfl rfl ⟨hB138, hk139⟩ fun a156 h156 => ?_; clear h155
        refine d1D 15 h156 rfl rfl (op_store1 rfl rfl rfl rfl Try.sizeOf3 hkA131' rfl) ?_ ?_; clear h156
        ·
         rintro _ w158 ⟨hk159, hz160, hg161⟩
         have hk159' : Blk w158 b 102 #[.int .i64 K.boot, .int .i64 K.stream, .int .i64 (K.first + (goneN K s.asq : Int)), u134, .int .i64 (K.told - (goneN K s.asq : Int)), .int .i64 K.peer, .int .i64 K.in0, .int .i64 K.next, .bool K.owes] := hk159; clear hk159
         have hz162 := hg161.size
         have hB163 := fbU_at hB138 hg161 (fun hlt => by rcases hSb with hq | hq; exact hq; omega)
         have hk164 := hk139.kept hg161 (by simp; omega)
         exact ⟨hB163, hk164⟩
        rintro _ w158 a157 ⟨hk159, hz160, hg161⟩ h157
        have hk159' : Blk w158 b 102 #[.int .i64 K.boot, .int .i64 K.stream, .int .i64 (K.first + (goneN K s.asq : Int)), u134, .int .i64 (K.told - (goneN K s.asq : Int)), .int .i64 K.peer, .int .i64 K.in0, .int .i64 K.next, .bool K.owes] := hk159; clear hk159
        have hz162 := hg161.size
        refine dr_done (by kernel_rfl) ?_
        refine co_then ?_
        have hAA : A.first = K.first + (goneN K s.asq : Int) ∧ A.q = (K.q.drop (goneN K s.asq)) ∧ A.told = K.told - (goneN K s.asq : Int) := (by rw [ack_y hA (by omega)]; refine ⟨rfl, rfl, ?_⟩; show max (K.told - (goneN K s.asq : Int)) 0 = _; omega)
        have hcA := ackT_c K s; rw [← hA] at hcA
        have hr163 := row_kept_at hr133 hg161 (own_neT hr133 hkA131' (by decide))
        have hk164 := hk139.kept hg161 (by simp; omega)
        have hB165 := fbU_at hB138 hg161 (fun hlt => by rcases hSb with hq | hq; exact hq; omega)
        exact ⟨u134, h157.sub ⟨rfl, rfl, (slot_eq rfl (by first | rfl | (congr 1; symm; first | (simp; done) | (simp; omega)))), trivial⟩, (InS.low hr163 (by omega)), (own_neT hr163 hk159' (by decide)), (by rw [hcA.1, hcA.2.1, hAA.1, hAA.2.2, hcA.2.2.1, hcA.2.2.2.1, hcA.2.2.2.2.1, hcA.2.2.2.2.2]; exact hk159'), (row_eq (row_lows hr163 (Nat.zero_le _)) hAA.2.1.symm), hk164, hB165⟩
      ·
       have hgl := goneN_le K s.asq
       have hk173 := hk103.kept hg111 (by simp)
       have hr174 := row_kept_new hr84 hg111
       refine dr_op (i := 10) h126 rfl rfl rfl rfl (op_call (args := #[pt b 2, .int .i64 s.asq]) (R := fun res xw => ∃ u', res = .int .i64 (goneN K s.asq : Int) ∧ Blk xw b 102 #[.int .i64 K.boot, .int .i64 K.stream, .int .i64 (K.first + (goneN K s.asq : Int)), u', .int .i64 K.told, .int .i64 K.peer, .int .i64 K.in0, .int .i64 K.next, .bool K.owes] ∧ xw.ownsRow w110.heap.size 9 1 u' (K.q.drop (goneN K s.asq)).length ((K.q.drop (goneN K s.asq)).flatMap strE) ∧ But (fun q => q = b) w110 xw) rfl rfl rfl (by kernel_rfl) (by kernel_rfl) (Try.call76 _ _) (lkBelow_blk b u K 0 s.asq w110 hk173 hKok hr174 ⟨by omega, by omega⟩ hbu) (by rintro e x ⟨u', rfl, h⟩; exact ⟨_, rfl, u', rfl, h⟩)) ?_ ?_; clear h126
       ·
        rintro _ w167 ⟨u171, rfl, hkA168, hr170, hx169⟩
        have hz175 := hx169.size
        have hkA168' : Blk w167 b 102 #[.int .i64 K.boot, .int .i64 K.stream, .int .i64 (K.first + (goneN K s.asq : Int)), u171, .int .i64 K.told, .int .i64 K.peer, .int .i64 K.in0, .int .i64 K.next, .bool K.owes] := hkA168
        have hB176 := fbU_foot hB116 hx169 (fun i hlt hS => by (try simp at hS); first | omega | (simp; omega) | simp_all)
        have hk177 := hk117.but hx169 (by first | omega | (simp; omega))
        exact ⟨hB176, hk177⟩
       rintro _ w167 a166 ⟨u171, rfl, hkA168, hr170, hx169⟩ h166
       have hz175 := hx169.size
       have hkA168' : Blk w167 b 102 #[.int .i64 K.boot, .int .i64 K.stream, .int .i64 (K.first + (goneN K s.asq : Int)), u171, .int .i64 K.told, .int .i64 K.peer, .int .i64 K.in0, .int .i64 K.next, .bool K.owes] := hkA168
       have hB176 := fbU_foot hB116 hx169 (fun i hlt hS => by (try simp at hS); first | omega | (simp; omega) | simp_all)
       have hk177 := hk117.but hx169 (by first | omega | (simp; omega))
       refine dr_many [4] (by kernel_rfl) (by simp) ⟨?_, trivial⟩
       ·
        refine dr_opVal (i := 4) (v := .int .i64 K.told) h166 rfl rfl rfl rfl (by kernel_rfl) rfl (rn_load1 rfl rfl Try.isAgg3 (hkA168'.cell rfl)) ⟨hB176, hk177⟩ (fun a178 h178 => ?_); clear h166
        refine dk 11 (v := .int .i64 (K.told - (goneN K s.asq : Int))) h178 rfl rfl ⟨hB176, hk177⟩ (fun x hx => (rn_arith rfl rfl rfl rfl rfl rfl (IntWalk.i64_in _ (by omega)))) fun a179 h179 => ?_; clear h178
        by_cases hs180 : K.told - (goneN K s.asq : Int) < 0
        ·
         refine dk 12 (v := .int .i64 0) h179 rfl rfl ⟨hB176, hk177⟩ (fun x hx => (rn_max2 rfl rfl rfl rfl (by omega))) fun a181 h181 => ?_; clear h179
         refine dk0 13 (v := pt b 0) h181 rfl rfl ⟨hB176, hk177⟩ fun a182 h182 => ?_; clear h181
         refine dk0 14 (v := pt b 4) h182 rfl rfl ⟨hB176, hk177⟩ fun a183 h183 => ?_; clear h182
         refine d1D 15 h183 rfl rfl (op_store1 rfl rfl rfl rfl Try.sizeOf3 hkA168' rfl) ?_ ?_; clear h183
         ·
          rintro _ w185 ⟨hk186, hz187, hg188⟩
          have hk186' : Blk w185 b 102 #[.int .i64 K.boot, .int .i64 K.stream, .int .i64 (K.first + (goneN K s.asq : Int)), u171, .int .i64 0, .int .i64 K.peer, .int .i64 K.in0, .int .i64 K.next, .bool K.owes] := hk186; clear hk186
          have hz189 := hg188.size
          have hB190 := fbU_at hB176 hg188 (fun hlt => by rcases hSb with hq | hq; exact hq; omega)
          have hk191 := hk177.kept hg188 (by simp; omega)
          exact ⟨hB190, hk191⟩
         rintro _ w185 a184 ⟨hk186, hz187, hg188⟩ h184
         have hk186' : Blk w185 b 102 #[.int .i64 K.boot, .int .i64 K.stream, .int .i64 (K.first + (goneN K s.asq : Int)), u171, .int .i64 0, .int .i64 K.peer, .int .i64 K.in0, .int .i64 K.next, .bool K.owes] := hk186; clear hk186
         have hz189 := hg188.size
         refine dr_done (by kernel_rfl) ?_
         refine co_then ?_
         have hAA : A.first = K.first + (goneN K s.asq : Int) ∧ A.q = (K.q.drop (goneN K s.asq)) ∧ A.told = 0 := (by rw [ack_y hA (by omega)]; refine ⟨rfl, rfl, ?_⟩; show max (K.told - (goneN K s.asq : Int)) 0 = _; omega)
         have hcA := ackT_c K s; rw [← hA] at hcA
         have hr190 := row_kept_at hr170 hg188 (own_neT hr170 hkA168' (by decide))
         have hk191 := hk177.kept hg188 (by simp; omega)
         have hB192 := fbU_at hB176 hg188 (fun hlt => by rcases hSb with hq | hq; exact hq; omega)
         exact ⟨u171, h184.sub ⟨rfl, rfl, (slot_eq rfl (by first | rfl | (congr 1; symm; first | (simp; done) | (simp; omega)))), trivial⟩, (InS.low hr190 (by omega)), (own_neT hr190 hk186' (by decide)), (by rw [hcA.1, hcA.2.1, hAA.1, hAA.2.2, hcA.2.2.1, hcA.2.2.2.1, hcA.2.2.2.2.1, hcA.2.2.2.2.2]; exact hk186'), (row_eq (row_lows hr190 (Nat.zero_le _)) hAA.2.1.symm), hk191, hB192⟩
        ·
         refine dk 12 (v := .int .i64 (K.told - (goneN K s.asq : Int))) h179 rfl rfl ⟨hB176, hk177⟩ (fun x hx => (rn_max1 rfl rfl rfl rfl (by omega))) fun a193 h193 => ?_; clear h179
         refine dk0 13 (v := pt b 0) h193 rfl rfl ⟨hB176, hk177⟩ fun a194 h194 => ?_; clear h193
         refine dk0 14 (v := pt b 4) h194 rfl rfl ⟨hB176, hk177⟩ fun a195 h195 => ?_; clear h194
         refine d1D 15 h195 rfl rfl (op_store1 rfl rfl rfl rfl Try.sizeOf3 hkA168' rfl) ?_ ?_; clear h195
         ·
          rintro _ w197 ⟨hk198, hz199, hg200⟩
          have hk198' : Blk w197 b 102 #[.int .i64 K.boot, .int .i64 K.stream, .int .i64 (K.first + (goneN K s.asq : Int)), u171, .int .i64 (K.told - (goneN K s.asq : Int)), .int .i64 K.peer, .int .i64 K.in0, .int .i64 K.next, .bool K.owes] := hk198; clear hk198
          have hz201 := hg200.size
          have hB202 := fbU_at hB176 hg200 (fun hlt => by rcases hSb with hq | hq; exact hq; omega)
          have hk203 := hk177.kept hg200 (by simp; omega)
          exact ⟨hB202, hk203⟩
         rintro _ w197 a196 ⟨hk198, hz199, hg200⟩ h196
         have hk198' : Blk w197 b 102 #[.int .i64 K.boot, .int .i64 K.stream, .int .i64 (K.first + (goneN K s.asq : Int)), u171, .int .i64 (K.told - (goneN K s.asq : Int)), .int .i64 K.peer, .int .i64 K.in0, .int .i64 K.next, .bool K.owes] := hk198; clear hk198
         have hz201 := hg200.size
         refine dr_done (by kernel_rfl) ?_
         refine co_then ?_
         have hAA : A.first = K.first + (goneN K s.asq : Int) ∧ A.q = (K.q.drop (goneN K s.asq)) ∧ A.told = K.told - (goneN K s.asq : Int) := (by rw [ack_y hA (by omega)]; refine ⟨rfl, rfl, ?_⟩; show max (K.told - (goneN K s.asq : Int)) 0 = _; omega)
         have hcA := ackT_c K s; rw [← hA] at hcA
         have hr202 := row_kept_at hr170 hg200 (own_neT hr170 hkA168' (by decide))
         have hk203 := hk177.kept hg200 (by simp; omega)
         have hB204 := fbU_at hB176 hg200 (fun hlt => by rcases hSb with hq | hq; exact hq; omega)
         exact ⟨u171, h196.sub ⟨rfl, rfl, (slot_eq rfl (by first | rfl | (congr 1; symm; first | (simp; done) | (simp; omega)))), trivial⟩, (InS.low hr202 (by omega)), (own_neT hr202 hk198' (by decide)), (by rw [hcA.1, hcA.2.1, hAA.1, hAA.2.2, hcA.2.2.1, hcA.2.2.2.1, hcA.2.2.2.2.1, hcA.2.2.2.2.2]; exact hk198'), (row_eq (row_lows hr202 (Nat.zero_le _)) hAA.2.1.symm), hk203, hB204⟩
   rintro a205 w206 ⟨u2, h205, hi207, hi208, hf209, hf210, hf211, hB212⟩
   have hz213 := hB212.size
   have hl214 := hf209.lt
   have hl215 := hf211.lt
   have hI2 := hi207
   have hn2 := hi208
   have hAok : LnOk A := hA ▸ ackT_ok hKok hm
   have hcA := ackT_c K s; rw [← hA] at hcA
   have hAn := hAok.next
   refine co_seq ?_
   refine co_seq ?_
   refine co_reg ?_
   refine pk0 (v := pt N3 6) h205 rfl fun a216 h216 => ?_; clear h205
   refine pk (v := .bool s.has) h216 rfl (rn_load1 rfl rfl Try.isAgg4 (hf211.cell rfl)) fun a217 h217 => ?_; clear h216
   cases hc218 : (s.has)
   ·
    rw [hc218] at h217
    refine pk0 (v := .bool true) h217 rfl fun a219 h219 => ?_; clear h217
    refine pl_nil ?_
    refine co_then ?_
    refine co_true h219 rfl ?_
    refine co_seq ?_
    refine co_reg ?_
    refine pk0 (v := .slice none 0 0) h219 rfl fun a220 h220 => ?_; clear h219
    refine pk0 (v := .int .i64 0) h220 rfl fun a221 h221 => ?_; clear h220
    refine pl_nil ?_
    refine co_then ?_
    refine wp_ret ?_
    refine co_thenR ?_
    refine co_ret2 h221 rfl rfl rfl ?_
    have hE : inT L s = ([], 0, A) := inT_c hm (by omega) (hA.trans (by rw [hK])) (by simp_all)
    rw [hE]
    have hok2 : LnOk A := by have h := inT_ok hok s; rw [hE] at h; exact h
    have hbl : Blk w206 b 102 (lnC A u2) := hf209
    obtain ⟨S', hq1, hq2, hq3⟩ := LkU.row3 (L' := A) hU hbl hf210 hI2 (own_neT hf210 hf209 (by decide)) hB212 hok2
    exact ⟨_, _, rfl, ⟨S', hq1, hq2, World.ownsRow_nil _ _ _ _, by simp [Value.ownBlock]⟩, hB212⟩
   ·
    rw [hc218] at h217
    refine pk0 (v := .bool false) h217 rfl fun a222 h222 => ?_; clear h217
    refine pl_nil ?_
    refine co_then ?_
    refine co_false h222 rfl ?_
    refine wp_skip ?_
    refine co_then ?_
    refine co_seq ?_
    refine co_reg ?_
    refine pk0 (v := pt b 0) h222 rfl fun a223 h223 => ?_; clear h222
    refine pk0 (v := pt b 0) h223 rfl fun a224 h224 => ?_; clear h223
    refine pk0 (v := pt b 8) h224 rfl fun a225 h225 => ?_; clear h224
    refine pwD h225 rfl (op_store1 rfl rfl rfl rfl Try.sizeOf4 hf209 rfl) ?_; clear h225
    rintro _ w227 a226 ⟨hk228, hz229, hg230⟩ h226
    have hk228' : Blk w227 b 102 #[.int .i64 A.boot, .int .i64 A.stream, .int .i64 A.first, u2, .int .i64 A.told, .int .i64 A.peer, .int .i64 A.in0, .int .i64 A.next, .bool true] := hk228; clear hk228
    have hz231 := hg230.size
    refine pl_nil ?_
    refine co_then ?_
    refine co_seq ?_
    refine co_seq ?_
    refine dr_eq (by kernel_rfl) (fun w232 hg233 => ?_)
    have hz234 := hg233.size
    refine dk0 0 (v := .bool (s.ab == K.boot)) h226 rfl rfl rfl fun a235 h235 => ?_; clear h226
    have hB237 := fbU_at hB212 hg230 (fun hlt => by rcases hSb with hq | hq; exact hq; omega)
    have hB238 := fbU_new hB237 hg233
    have hr239 := row_kept_at hf210 hg230 (hn2)
    have hr240 := row_kept_new hr239 hg233
    have hk241 := hf211.kept hg230 (by simp; omega)
    have hk242 := hk241.kept hg233 (by simp)
    cases hc236 : (s.ab == K.boot)
    ·
     rw [hc236] at h235
     refine dk0 1 (v := .bool true) h235 rfl rfl rfl fun a243 h243 => ?_; clear h235
     refine dk0 2 (v := .bool true) h243 rfl rfl rfl fun a244 h244 => ?_; clear h243
     refine dsk 3 h244 rfl rfl rfl fun a245 h245 => ?_; clear h244
     refine dsk 4 h245 rfl rfl rfl fun a246 h246 => ?_; clear h245
     refine dsk 5 h246 rfl rfl rfl fun a247 h247 => ?_; clear h246
     refine dsk 6 h247 rfl rfl rfl fun a248 h248 => ?_; clear h247
     refine dsk 7 h248 rfl rfl rfl fun a249 h249 => ?_; clear h248
     refine dsk 8 h249 rfl rfl rfl fun a250 h250 => ?_; clear h249
     refine dsk 9 h250 rfl rfl rfl fun a251 h251 => ?_; clear h250
     refine dk0 10 (v := .bool true) h251 rfl rfl rfl fun a252 h252 => ?_; clear h251
     refine dk0 11 (v := .bool true) h252 rfl rfl rfl fun a253 h253 => ?_; clear h252
     refine dsk 12 h253 rfl rfl rfl fun a254 h254 => ?_; clear h253
     refine dsk 13 h254 rfl rfl rfl fun a255 h255 => ?_; clear h254
     refine dsk 14 h255 rfl rfl rfl fun a256 h256 => ?_; clear h255
     refine dsk 15 h256 rfl rfl rfl fun a257 h257 => ?_; clear h256
     refine dsk 16 h257 rfl rfl rfl fun a258 h258 => ?_; clear h257
     refine dsk 17 h258 rfl rfl rfl fun a259 h259 => ?_; clear h258
     refine dsk 18 h259 rfl rfl rfl fun a260 h260 => ?_; clear h259
     refine dk0 19 (v := .bool true) h260 rfl rfl rfl fun a261 h261 => ?_; clear h260
     refine dr_done (by kernel_rfl) ?_
     refine co_then ?_
     refine co_true h261 rfl ?_
     refine co_seq ?_
     refine co_reg ?_
     refine pk0 (v := .slice none 0 0) h261 rfl fun a262 h262 => ?_; clear h261
     refine pk0 (v := .int .i64 0) h262 rfl fun a263 h263 => ?_; clear h262
     refine pl_nil ?_
     refine co_then ?_
     refine wp_ret ?_
     refine co_thenR ?_
     refine co_ret2 h263 rfl rfl rfl ?_
     have hk264 := hk228'.kept hg233 (by simp)
     have hE : inT L s = ([], 0, { A with owes := true }) := inT_d hm (by omega) (hA.trans (by rw [hK])) (by simp_all) (by first | omega | (simp only [beq_iff_eq, beq_eq_false_iff_ne, ne_eq] at *; omega))
     rw [hE]
     have hok2 : LnOk ({ A with owes := true }) := by have h := inT_ok hok s; rw [hE] at h; exact h
     have hbl : Blk w232 b 102 (lnC ({ A with owes := true }) u2) := hk264
     obtain ⟨S', hq1, hq2, hq3⟩ := LkU.row3 (L' := { A with owes := true }) hU hbl hr240 hI2 (own_neT hr240 hk264 (by decide)) hB238 hok2
     exact ⟨_, _, rfl, ⟨S', hq1, hq2, World.ownsRow_nil _ _ _ _, by simp [Value.ownBlock]⟩, hB238⟩
    ·
     rw [hc236] at h235
     refine dk0 1 (v := .bool false) h235 rfl rfl rfl fun a265 h265 => ?_; clear h235
     refine dk0 2 (v := .bool false) h265 rfl rfl rfl fun a266 h266 => ?_; clear h265
     refine dk0 3 (v := pt N3 1) h266 rfl rfl rfl fun a267 h267 => ?_; clear h266
     refine dk 4 (v := .int .i64 s.stream) h267 rfl rfl rfl (fun x hx => by subst hx; exact (rn_load1 rfl rfl Try.isAgg3 (hk242.cell rfl))) fun a268 h268 => ?_; clear h267
     refine dk0 5 (v := pt b 0) h268 rfl rfl rfl fun a269 h269 => ?_; clear h268
     refine dk0 6 (v := pt b 0) h269 rfl rfl rfl fun a270 h270 => ?_; clear h269
     refine dk0 7 (v := pt b 6) h270 rfl rfl rfl fun a271 h271 => ?_; clear h270
     have hk272 := hk228'.kept hg233 (by simp)
     refine dk 8 (v := .int .i64 A.in0) h271 rfl rfl rfl (fun x hx => by subst hx; exact (rn_load1 rfl rfl Try.isAgg3 (hk272.cell rfl))) fun a273 h273 => ?_; clear h271
     refine dk0 9 (v := .bool (s.stream != A.in0)) h273 rfl rfl rfl fun a274 h274 => ?_; clear h273
     refine dk0 10 (v := .bool (s.stream != A.in0)) h274 rfl rfl rfl fun a275 h275 => ?_; clear h274
     refine dk0 11 (v := .bool (s.stream != A.in0)) h275 rfl rfl rfl fun a276 h276 => ?_; clear h275
     cases hc277 : (s.stream != A.in0)
     ·
      rw [hc277] at h276
      have hp278 : ¬ (s.stream ≠ A.in0) := by first | simpa using hc277 | simpa [and_assoc] using hc277
      clear hc277
      refine dk0 12 (v := pt N3 2) h276 rfl rfl rfl fun a279 h279 => ?_; clear h276
      refine dk 13 (v := .int .i64 s.seq) h279 rfl rfl rfl (fun x hx => by subst hx; exact (rn_load1 rfl rfl Try.isAgg3 (hk242.cell rfl))) fun a280 h280 => ?_; clear h279
      refine dk0 14 (v := pt b 0) h280 rfl rfl rfl fun a281 h281 => ?_; clear h280
      refine dk0 15 (v := pt b 0) h281 rfl rfl rfl fun a282 h282 => ?_; clear h281
      refine dk0 16 (v := pt b 7) h282 rfl rfl rfl fun a283 h283 => ?_; clear h282
      refine dk 17 (v := .int .i64 A.next) h283 rfl rfl rfl (fun x hx => by subst hx; exact (rn_load1 rfl rfl Try.isAgg3 (hk272.cell rfl))) fun a284 h284 => ?_; clear h283
      refine dk0 18 (v := .bool (s.seq != A.next)) h284 rfl rfl rfl fun a285 h285 => ?_; clear h284
      refine dk0 19 (v := .bool (s.seq != A.next)) h285 rfl rfl rfl fun a286 h286 => ?_; clear h285
      refine dr_done (by kernel_rfl) ?_
      refine co_then ?_
      cases hc287 : (s.seq != A.next)
      ·
       rw [hc287] at h286
       have hp288 : ¬ (s.seq ≠ A.next) := by first | simpa using hc287 | simpa [and_assoc] using hc287
       clear hc287
       refine co_false h286 rfl ?_
       refine wp_skip ?_
       refine co_then ?_
       refine co_seq ?_
       refine co_reg ?_
       refine pk0 (v := pt b 0) h286 rfl fun a289 h289 => ?_; clear h286
       refine pk0 (v := pt b 0) h289 rfl fun a290 h290 => ?_; clear h289
       refine pk0 (v := pt b 7) h290 rfl fun a291 h291 => ?_; clear h290
       refine pk (v := .int .i64 A.next) h291 rfl (rn_load1 rfl rfl Try.isAgg3 (hk272.cell rfl)) fun a292 h292 => ?_; clear h291
       refine pk (v := .int .i64 (A.next + 1)) h292 rfl (rn_arith rfl rfl rfl rfl rfl rfl (IntWalk.i64_in _ (by omega))) fun a293 h293 => ?_; clear h292
       refine pk0 (v := pt b 0) h293 rfl fun a294 h294 => ?_; clear h293
       refine pk0 (v := pt b 7) h294 rfl fun a295 h295 => ?_; clear h294
       refine pwD h295 rfl (op_store1 rfl rfl rfl rfl Try.sizeOf3 hk272 rfl) ?_; clear h295
       rintro _ w297 a296 ⟨hk298, hz299, hg300⟩ h296
       have hk298' : Blk w297 b 102 #[.int .i64 A.boot, .int .i64 A.stream, .int .i64 A.first, u2, .int .i64 A.told, .int .i64 A.peer, .int .i64 A.in0, .int .i64 (A.next + 1), .bool true] := hk298; clear hk298
       have hz301 := hg300.size
       refine pl_nil ?_
       refine co_then ?_
       refine co_seq ?_
       refine co_reg ?_
       refine pk0 (v := pt N3 7) h296 rfl fun a302 h302 => ?_; clear h296
       have hk303 := hk242.kept hg300 (by simp; omega)
       refine pk (v := .string s.body) h302 rfl (rn_load1 rfl rfl Try.isAgg9 (hk303.cell rfl)) fun a304 h304 => ?_; clear h302
       refine pw h304 rfl (op_new (v := fun N => .slice (some ⟨N, 0, none⟩) 1 1) (T := 9) (cs := #[.string s.body]) (by kernel_rfl) (by kernel_rfl) (by kernel_rfl)) ?_; clear h304
       rintro _ w306 a305 ⟨N307, rfl, hN310, hz311, hk309, hg308⟩ h305
       have hr313 := row_kept_at hr240 hg300 (hn2)
       have ha312 := row_fresh hr313 hN310
       have hu314 := row_under hr313 hN310
       have hz315 := hg308.size
       try dsimp only at h305
       refine pk0 (v := .slice (some ⟨N307, 0, none⟩) 1 1) h305 rfl fun a316 h316 => ?_; clear h305
       refine pk0 (v := .int .i64 0) h316 rfl fun a317 h317 => ?_; clear h316
       refine pl_nil ?_
       refine co_then ?_
       refine wp_ret ?_
       refine co_ret2 h317 rfl rfl rfl ?_
       have hr318 := row_kept_new hr313 hg308
       have hk319 := hk298'.kept hg308 (by simp)
       have hB320 := fbU_at hB238 hg300 (fun hlt => by rcases hSb with hq | hq; exact hq; omega)
       have hB321 := fbU_new hB320 hg308
       have hE : inT L s = ([s.body], 0, { A with owes := true, next := A.next + 1 }) := inT_e hm (by omega) (hA.trans (by rw [hK])) (by simp_all) (by first | omega | (simp only [beq_iff_eq, beq_eq_false_iff_ne, ne_eq] at *; omega))
       rw [hE]
       have hok2 : LnOk ({ A with owes := true, next := A.next + 1 }) := by have h := inT_ok hok s; rw [hE] at h; exact h
       have hbl : Blk w306 b 102 (lnC ({ A with owes := true, next := A.next + 1 }) u2) := hk319
       obtain ⟨S', hq1, hq2, hq3⟩ := LkU.row3 (L' := { A with owes := true, next := A.next + 1 }) hU hbl hr318 hI2 (own_neT hr318 hk319 (by decide)) hB321 hok2
       have hrv := row_of_cells (enc := strE) (sz := 1) ([s.body] : List ByteArray) hk309 (Nat.le_refl _) rfl rfl (by unfold maxLen; simp)
       exact ⟨_, _, rfl, ⟨S', hq1, hq2, row_lows hrv (by omega), fun i hi => by simp only [Value.ownBlock, Option.some.injEq] at hi; subst hi; exact hq3 _ (by omega) ha312⟩, hB321⟩
      ·
       rw [hc287] at h286
       have hp322 : s.seq ≠ A.next := by first | simpa using hc287 | simpa [and_assoc] using hc287
       clear hc287
       refine co_true h286 rfl ?_
       refine co_seq ?_
       refine co_reg ?_
       refine pk0 (v := .slice none 0 0) h286 rfl fun a323 h323 => ?_; clear h286
       refine pk0 (v := .int .i64 0) h323 rfl fun a324 h324 => ?_; clear h323
       refine pl_nil ?_
       refine co_then ?_
       refine wp_ret ?_
       refine co_thenR ?_
       refine co_ret2 h324 rfl rfl rfl ?_
       have hE : inT L s = ([], 0, { A with owes := true }) := inT_d hm (by omega) (hA.trans (by rw [hK])) (by simp_all) (by first | omega | (simp only [beq_iff_eq, beq_eq_false_iff_ne, ne_eq] at *; omega))
       rw [hE]
       have hok2 : LnOk ({ A with owes := true }) := by have h := inT_ok hok s; rw [hE] at h; exact h
       have hbl : Blk w232 b 102 (lnC ({ A with owes := true }) u2) := hk272
       obtain ⟨S', hq1, hq2, hq3⟩ := LkU.row3 (L' := { A with owes := true }) hU hbl hr240 hI2 (own_neT hr240 hk272 (by decide)) hB238 hok2
       exact ⟨_, _, rfl, ⟨S', hq1, hq2, World.ownsRow_nil _ _ _ _, by simp [Value.ownBlock]⟩, hB238⟩
     ·
      rw [hc277] at h276
      have hp325 : s.stream ≠ A.in0 := by first | simpa using hc277 | simpa [and_assoc] using hc277
      clear hc277
      refine dsk 12 h276 rfl rfl rfl fun a326 h326 => ?_; clear h276
      refine dsk 13 h326 rfl rfl rfl fun a327 h327 => ?_; clear h326
      refine dsk 14 h327 rfl rfl rfl fun a328 h328 => ?_; clear h327
      refine dsk 15 h328 rfl rfl rfl fun a329 h329 => ?_; clear h328
      refine dsk 16 h329 rfl rfl rfl fun a330 h330 => ?_; clear h329
      refine dsk 17 h330 rfl rfl rfl fun a331 h331 => ?_; clear h330
      refine dsk 18 h331 rfl rfl rfl fun a332 h332 => ?_; clear h331
      refine dk0 19 (v := .bool true) h332 rfl rfl rfl fun a333 h333 => ?_; clear h332
      refine dr_done (by kernel_rfl) ?_
      refine co_then ?_
      refine co_true h333 rfl ?_
      refine co_seq ?_
      refine co_reg ?_
      refine pk0 (v := .slice none 0 0) h333 rfl fun a334 h334 => ?_; clear h333
      refine pk0 (v := .int .i64 0) h334 rfl fun a335 h335 => ?_; clear h334
      refine pl_nil ?_
      refine co_then ?_
      refine wp_ret ?_
      refine co_thenR ?_
      refine co_ret2 h335 rfl rfl rfl ?_
      have hE : inT L s = ([], 0, { A with owes := true }) := inT_d hm (by omega) (hA.trans (by rw [hK])) (by simp_all) (by first | omega | (simp only [beq_iff_eq, beq_eq_false_iff_ne, ne_eq] at *; omega))
      rw [hE]
      have hok2 : LnOk ({ A with owes := true }) := by have h := inT_ok hok s; rw [hE] at h; exact h
      have hbl : Blk w232 b 102 (lnC ({ A with owes := true }) u2) := hk272
      obtain ⟨S', hq1, hq2, hq3⟩ := LkU.row3 (L' := { A with owes := true }) hU hbl hr240 hI2 (own_neT hr240 hk272 (by decide)) hB238 hok2
      exact ⟨_, _, rfl, ⟨S', hq1, hq2, World.ownsRow_nil _ _ _ _, by simp [Value.ownBlock]⟩, hB238⟩
  ·
   rw [hc47] at h46
   have hp336 : s.boot < L.peer := of_decide_eq_true hc47
   clear hc47
   refine co_true h46 rfl ?_
   refine co_seq ?_
   refine co_reg ?_
   refine pk0 (v := .slice none 0 0) h46 rfl fun a337 h337 => ?_; clear h46
   refine pk0 (v := .int .i64 0) h337 rfl fun a338 h338 => ?_; clear h337
   refine pl_nil ?_
   refine co_then ?_
   refine wp_ret ?_
   refine co_thenR ?_
   refine co_ret2 h338 rfl rfl rfl ?_
   have hr339 := row_kept_new hr27 hg34
   have hE := (inT_b (by first | assumption | exact may_yes (bn_6 (by assumption) (by omega)) (by omega)) (by omega) : inT L s = ([], 0, L))
   rw [hE]
   exact ⟨u, _, rfl, ⟨S, (LkU.same' hU hB48 hk44 hr339).1, (LkU.same' hU hB48 hk44 hr339).2, World.ownsRow_nil _ _ _ _, by simp [Value.ownBlock]⟩, hB48⟩
end Go.Proofs.Ythmljllgfigebaa
