/- Package link: may, In. Conditions: none. -/
import Derived.Test.YthmljllgfigebaaLinkE
import Derived.RangeFuncNested
import Derived.RangeFuncBound
import Derived.RangeFuncCalls
import Derived.RangeFuncLeaves
import Derived.RangeFuncBox
import Derived.Shelf.Abstract
import Derived.Shelf.RegionOpen
import Derived.WalkKit
import Derived.OwnWalkIn
import Derived.TacticsInMore
import Derived.LoopNIn
import Derived.LoopIn
import Derived.ScopeJumps
namespace Go.Proofs.Ythmljllgfigebaa
open Go.RowKit Go.PlainAid
set_option linter.unusedVariables false


set_option maxRecDepth 100000 in
set_option maxHeartbeats 3200000 in
theorem lkMay_any (s : SegT) (w : World) : Calls Try.prog 74 #[segV s] w fun e w' => e = .returned (.bool (mayT s)) ∧ Below w.heap.size w w' := by
  obtain ⟨N, hN⟩ : ∃ N, N = w.heap.size := ⟨_, rfl⟩
  have hb : Blk (w.alloc (.cells #[.int .i64 s.boot, .int .i64 s.stream, .int .i64 s.seq, .int .i64 s.ab, .int .i64 s.ast, .int .i64 s.asq, .bool s.has, .string s.body] 61)) N 61 #[.int .i64 s.boot, .int .i64 s.stream, .int .i64 s.seq, .int .i64 s.ab, .int .i64 s.ast, .int .i64 s.asq, .bool s.has, .string s.body] := by rw [hN]; exact World.alloc_heap_new w _
  have hB0 : Below w.heap.size w (w.alloc (.cells #[.int .i64 s.boot, .int .i64 s.stream, .int .i64 s.seq, .int .i64 s.ab, .int .i64 s.ast, .int .i64 s.asq, .bool s.has, .string s.body] 61)) := (Below.refl _ w).alloc (Nat.le_refl _) _
  have c0 := hb.cell (k := 0) rfl; have c1 := hb.cell (k := 1) rfl; have c2 := hb.cell (k := 2) rfl; have c3 := hb.cell (k := 3) rfl; have c4 := hb.cell (k := 4) rfl; have c5 := hb.cell (k := 5) rfl
  have HC := Lib.hid hb; have HB0 := Lib.hid hB0; clear hb hB0
  have ix0 : ∀ w : World, (Instr.index 175 (.agg #[.int .i64 s.boot, .int .i64 s.stream, .int .i64 s.seq, .int .i64 s.ab, .int .i64 s.ast, .int .i64 s.asq]) (.int .i64 0)).run Try.prog w = .ok (.int .i64 s.boot) w := fun w => by kernel_rfl
  have ix1 : ∀ w : World, (Instr.index 175 (.agg #[.int .i64 s.boot, .int .i64 s.stream, .int .i64 s.seq, .int .i64 s.ab, .int .i64 s.ast, .int .i64 s.asq]) (.int .i64 1)).run Try.prog w = .ok (.int .i64 s.stream) w := fun w => by kernel_rfl
  have ix2 : ∀ w : World, (Instr.index 175 (.agg #[.int .i64 s.boot, .int .i64 s.stream, .int .i64 s.seq, .int .i64 s.ab, .int .i64 s.ast, .int .i64 s.asq]) (.int .i64 2)).run Try.prog w = .ok (.int .i64 s.seq) w := fun w => by kernel_rfl
  have ix3 : ∀ w : World, (Instr.index 175 (.agg #[.int .i64 s.boot, .int .i64 s.stream, .int .i64 s.seq, .int .i64 s.ab, .int .i64 s.ast, .int .i64 s.asq]) (.int .i64 3)).run Try.prog w = .ok (.int .i64 s.ab) w := fun w => by kernel_rfl
  have ix4 : ∀ w : World, (Instr.index 175 (.agg #[.int .i64 s.boot, .int .i64 s.stream, .int .i64 s.seq, .int .i64 s.ab, .int .i64 s.ast, .int .i64 s.asq]) (.int .i64 4)).run Try.prog w = .ok (.int .i64 s.ast) w := fun w => by kernel_rfl
  have ix5 : ∀ w : World, (Instr.index 175 (.agg #[.int .i64 s.boot, .int .i64 s.stream, .int .i64 s.seq, .int .i64 s.ab, .int .i64 s.ast, .int .i64 s.asq]) (.int .i64 5)).run Try.prog w = .ok (.int .i64 s.asq) w := fun w => by kernel_rfl
  go_enter Try.func74, Try.ntmps74
  unfold segV
  rw [hN] at c0 c1 c2 c3 c4 c5 HC
  go_wp2
  clear c0 c1 c2 c3 c4 c5
  go_loopg [18] 7 (fun g s18 wr => ∃ i : Nat, s18 = .int .i64 i ∧ i ≤ 6 ∧ 7 ≤ i + g ∧ bn s i = true ∧ Hid (Below w.heap.size w wr) ∧ Hid (Blk wr w.heap.size 61 #[.int .i64 s.boot, .int .i64 s.stream, .int .i64 s.seq, .int .i64 s.ab, .int .i64 s.ast, .int .i64 s.asq, .bool s.has, .string s.body]))
  case atStart => exact ⟨0, rfl, by omega, by omega, rfl, HB0, HC⟩
  case round =>
    obtain ⟨i, rfl, hi, hg, hbn, HB, HC⟩ := hrel
    have h7 : i = 6 ∨ i = 0 ∨ i = 1 ∨ i = 2 ∨ i = 3 ∨ i = 4 ∨ i = 5 := by omega
    rcases h7 with h | h | h | h | h | h | h
    · obtain rfl : i = 6 := h
      have c0 := HC.out.cell (k := 0) rfl
      go_wp2
      go_ret
      refine ⟨?_, HB.out⟩
      by_cases h0 : s.boot = 0
      · rw [may_zero h0, h0]; rfl
      · rw [may_yes hbn h0]; simp [h0]
    · obtain rfl : i = 0 := by omega
      have e0 : (l6 s)[0]? = some s.boot := rfl
      by_cases q1 : s.boot < 0
      · have d1 : decide (s.boot < 0) = true := decide_eq_true q1
        go_wp2
        go_ret
        exact ⟨by rw [may_out e0 (.inl q1)]; rfl, HB.out⟩
      · have d1 : decide (s.boot < 0) = false := decide_eq_false q1
        by_cases q2 : s.boot > 1073741824
        · have d2 : decide (s.boot > 1073741824) = true := decide_eq_true q2
          go_wp2
          go_ret
          exact ⟨by rw [may_out e0 (.inr q2)]; rfl, HB.out⟩
        · have d2 : decide (s.boot > 1073741824) = false := decide_eq_false q2
          go_wp2
          go_roundg (gk - 1)
          case rel => exact ⟨1, rfl, by omega, by omega, bn_step hbn e0 (by omega), HB, HC⟩
          case measure => omega
    · obtain rfl : i = 1 := by omega
      have e1 : (l6 s)[1]? = some s.stream := rfl
      by_cases q1 : s.stream < 0
      · have d1 : decide (s.stream < 0) = true := decide_eq_true q1
        go_wp2
        go_ret
        exact ⟨by rw [may_out e1 (.inl q1)]; rfl, HB.out⟩
      · have d1 : decide (s.stream < 0) = false := decide_eq_false q1
        by_cases q2 : s.stream > 1073741824
        · have d2 : decide (s.stream > 1073741824) = true := decide_eq_true q2
          go_wp2
          go_ret
          exact ⟨by rw [may_out e1 (.inr q2)]; rfl, HB.out⟩
        · have d2 : decide (s.stream > 1073741824) = false := decide_eq_false q2
          go_wp2
          go_roundg (gk - 1)
          case rel => exact ⟨2, rfl, by omega, by omega, bn_step hbn e1 (by omega), HB, HC⟩
          case measure => omega
    · obtain rfl : i = 2 := by omega
      have e2 : (l6 s)[2]? = some s.seq := rfl
      by_cases q1 : s.seq < 0
      · have d1 : decide (s.seq < 0) = true := decide_eq_true q1
        go_wp2
        go_ret
        exact ⟨by rw [may_out e2 (.inl q1)]; rfl, HB.out⟩
      · have d1 : decide (s.seq < 0) = false := decide_eq_false q1
        by_cases q2 : s.seq > 1073741824
        · have d2 : decide (s.seq > 1073741824) = true := decide_eq_true q2
          go_wp2
          go_ret
          exact ⟨by rw [may_out e2 (.inr q2)]; rfl, HB.out⟩
        · have d2 : decide (s.seq > 1073741824) = false := decide_eq_false q2
          go_wp2
          go_roundg (gk - 1)
          case rel => exact ⟨3, rfl, by omega, by omega, bn_step hbn e2 (by omega), HB, HC⟩
          case measure => omega
    · obtain rfl : i = 3 := by omega
      have e3 : (l6 s)[3]? = some s.ab := rfl
      by_cases q1 : s.ab < 0
      · have d1 : decide (s.ab < 0) = true := decide_eq_true q1
        go_wp2
        go_ret
        exact ⟨by rw [may_out e3 (.inl q1)]; rfl, HB.out⟩
      · have d1 : decide (s.ab < 0) = false := decide_eq_false q1
        by_cases q2 : s.ab > 1073741824
        · have d2 : decide (s.ab > 1073741824) = true := decide_eq_true q2
          go_wp2
          go_ret
          exact ⟨by rw [may_out e3 (.inr q2)]; rfl, HB.out⟩
        · have d2 : decide (s.ab > 1073741824) = false := decide_eq_false q2
          go_wp2
          go_roundg (gk - 1)
          case rel => exact ⟨4, rfl, by omega, by omega, bn_step hbn e3 (by omega), HB, HC⟩
          case measure => omega
    · obtain rfl : i = 4 := by omega
      have e4 : (l6 s)[4]? = some s.ast := rfl
      by_cases q1 : s.ast < 0
      · have d1 : decide (s.ast < 0) = true := decide_eq_true q1
        go_wp2
        go_ret
        exact ⟨by rw [may_out e4 (.inl q1)]; rfl, HB.out⟩
      · have d1 : decide (s.ast < 0) = false := decide_eq_false q1
        by_cases q2 : s.ast > 1073741824
        · have d2 : decide (s.ast > 1073741824) = true := decide_eq_true q2
          go_wp2
          go_ret
          exact ⟨by rw [may_out e4 (.inr q2)]; rfl, HB.out⟩
        · have d2 : decide (s.ast > 1073741824) = false := decide_eq_false q2
          go_wp2
          go_roundg (gk - 1)
          case rel => exact ⟨5, rfl, by omega, by omega, bn_step hbn e4 (by omega), HB, HC⟩
          case measure => omega
    · obtain rfl : i = 5 := by omega
      have e5 : (l6 s)[5]? = some s.asq := rfl
      by_cases q1 : s.asq < 0
      · have d1 : decide (s.asq < 0) = true := decide_eq_true q1
        go_wp2
        go_ret
        exact ⟨by rw [may_out e5 (.inl q1)]; rfl, HB.out⟩
      · have d1 : decide (s.asq < 0) = false := decide_eq_false q1
        by_cases q2 : s.asq > 1073741824
        · have d2 : decide (s.asq > 1073741824) = true := decide_eq_true q2
          go_wp2
          go_ret
          exact ⟨by rw [may_out e5 (.inr q2)]; rfl, HB.out⟩
        · have d2 : decide (s.asq > 1073741824) = false := decide_eq_false q2
          go_wp2
          go_roundg (gk - 1)
          case rel => exact ⟨6, rfl, by omega, by omega, bn_step hbn e5 (by omega), HB, HC⟩
          case measure => omega

set_option maxRecDepth 100000 in
set_option maxHeartbeats 1600000 in
theorem lkIn_any (S : Nat → Prop) (b : Nat) (u : Value) (L : LnT) (s : SegT) (w : World) (hU : LkU 102 S w b u L) :
    Calls Try.prog 39 #[pt b 0, .agg #[.int .i64 s.boot, .int .i64 s.stream, .int .i64 s.seq, .int .i64 s.ab, .int .i64 s.ast, .int .i64 s.asq, .bool s.has, .string s.body]] w fun e w' => ∃ (u' : Value) (v : Value), e = .returned (.tuple #[v, .int .i64 ((inT L s).2.1)]) ∧ (∃ S' : Nat → Prop, LkU 102 S' w' b u' (inT L s).2.2 ∧ Grew S S' w w' ∧ w'.ownsRow w.heap.size 9 1 v (inT L s).1.length ((inT L s).1.flatMap strE) ∧ ∀ i, v.ownBlock = some i → ¬ S' i) ∧ But (S) w w' := by
 obtain ⟨K, hK⟩ : ∃ K, K = knowT L s := ⟨_, rfl⟩
 obtain ⟨A, hA⟩ : ∃ A, A = ackT K s := ⟨_, rfl⟩
 have hB0 := But.refl (S) w
 obtain ⟨hB, ⟨B0, hR⟩, hSS, hbu, hok⟩ := id hU
 have hB : Blk w b 102 #[.int .i64 L.boot, .int .i64 L.stream, .int .i64 L.first, u, .int .i64 L.told, .int .i64 L.peer, .int .i64 L.in0, .int .i64 L.next, .bool L.owes] := hB
 have hl_B := hB.lt
 have hR := row_lows hR (Nat.zero_le _)
 have hsb : S b := (hSS b).2 (.inl rfl)
 have hSb : S b ∨ w.heap.size ≤ b := .inl hsb
 obtain ⟨⟨k1, k2⟩, ⟨k3, k4⟩, ⟨k5, k6⟩, ⟨k7, k8⟩, ⟨k9, k10⟩, ⟨k11, k12⟩, ⟨k13, k14⟩, k15, k16⟩ := id hok
 refine co_enter (n := 90) Try.func39 rfl rfl rfl [(0, pt b 0), (1, .agg #[.int .i64 s.boot, .int .i64 s.stream, .int .i64 s.seq, .int .i64 s.ab, .int .i64 s.ast, .int .i64 s.asq, .bool s.has, .string s.body])] rfl (fun a h0 => ?_)
 refine co_seq ?_
 refine co_reg ?_
 refine pw h0 rfl (op_new (v := fun N => pt N 0) (T := 61) (cs := #[.int .i64 s.boot, .int .i64 s.stream, .int .i64 s.seq, .int .i64 s.ab, .int .i64 s.ast, .int .i64 s.asq, .bool s.has, .string s.body]) (by kernel_rfl) (by kernel_rfl) (by kernel_rfl)) ?_; clear h0
 rintro _ w2 a1 ⟨N3, rfl, hN6, hz7, hk5, hg4⟩ h1
 have ha8 := row_fresh hR hN6
 have hu9 := row_under hR hN6
 have hz10 := hg4.size
 try dsimp only at h1
 refine pk0 (v := .slice none 0 0) h1 rfl fun a11 h11 => ?_; clear h1
 refine pk0 (v := .int .i64 0) h11 rfl fun a12 h12 => ?_; clear h11
 refine pl_nil ?_
 refine co_then ?_
 refine co_seq ?_
 refine co_seq ?_
 refine co_reg ?_
 refine pk0 (v := pt b 0) h12 rfl fun a13 h13 => ?_; clear h12
 have hk16 := hB.kept hg4 (by simp)
 refine pw h13 rfl (op_call (args := #[pt b 0]) (R := fun res xw => res = .bool false ∧ w2 = xw) rfl rfl rfl (by kernel_rfl) (by kernel_rfl) (Try.call71 _ _) (lkZero_blk b u _ w2 hk16 hok) (by rintro e x ⟨rfl, rfl⟩; exact ⟨_, rfl, ⟨rfl, rfl⟩⟩)) ?_; clear h13
 rintro _ _ a14 ⟨rfl, rfl⟩ h14
 refine pl_nil ?_
 refine co_then ?_
 refine co_false h14 rfl ?_
 refine wp_skip ?_
 refine co_then ?_
 refine co_seq ?_
 refine co_seq ?_
 refine co_reg ?_
 refine pk (v := .agg #[.int .i64 s.boot, .int .i64 s.stream, .int .i64 s.seq, .int .i64 s.ab, .int .i64 s.ast, .int .i64 s.asq, .bool s.has, .string s.body]) h14 rfl (rn_loadN rfl rfl Try.underlying61 rfl (by kernel_rfl) hk5.all) fun a18 h18 => ?_; clear h14
 have hB21 := fbU_new hB0 hg4
 refine pw h18 rfl (op_call (args := #[.agg #[.int .i64 s.boot, .int .i64 s.stream, .int .i64 s.seq, .int .i64 s.ab, .int .i64 s.ast, .int .i64 s.asq, .bool s.has, .string s.body]]) (R := fun res xw => res = .bool (mayT s) ∧ Below w2.heap.size w2 xw) rfl rfl rfl (by kernel_rfl) (by kernel_rfl) (Try.call74 _ _) (lkMay_any s w2) (by rintro e x ⟨rfl, h⟩; exact ⟨_, rfl, rfl, h⟩)) ?_; clear h18
 rintro _ w20 a19 ⟨rfl, hb22⟩ h19
 have hz23 := hb22.size
 have hB25 := fbU_call hB21 hb22
 have hr26 := row_kept_new hR hg4
 have hr27 := row_kept_new hr26 (below_grown hb22)
 cases hc24 : (mayT s)
 ·
  rw [hc24] at h19
  refine pk0 (v := .bool true) h19 rfl fun a28 h28 => ?_; clear h19
  refine pl_nil ?_
  refine co_then ?_
  refine co_true h28 rfl ?_
  refine co_seq ?_
  refine co_reg ?_
  refine pk0 (v := .slice none 0 0) h28 rfl fun a29 h29 => ?_; clear h28
  refine pk0 (v := .int .i64 1) h29 rfl fun a30 h30 => ?_; clear h29
  refine pl_nil ?_
  refine co_then ?_
  refine wp_ret ?_
  refine co_thenR ?_
  refine co_ret2 h30 rfl rfl rfl ?_
  have hk31 := hk16.below hb22
  have hE := (inT_a (by first | exact may_zero (by omega) | exact may_out (by assumption) (by omega) | assumption) : inT L s = ([], 1, L))
  rw [hE]
  exact ⟨u, _, rfl, ⟨S, (LkU.same' hU hB25 hk31 hr27).1, (LkU.same' hU hB25 hk31 hr27).2, World.ownsRow_nil _ _ _ _, by simp [Value.ownBlock]⟩, hB25⟩
 ·
  rw [hc24] at h19
  refine pk0 (v := .bool false) h19 rfl fun a32 h32 => ?_; clear h19
  refine pl_nil ?_
  refine co_then ?_
  refine co_false h32 rfl ?_
  refine wp_skip ?_
  refine co_then ?_
  refine co_seq ?_
  refine co_seq ?_
  refine dr_eq (by kernel_rfl) (fun w33 hg34 => ?_)
  have hz35 := hg34.size
  refine dk0 0 (v := pt N3 0) h32 rfl rfl rfl fun a36 h36 => ?_; clear h32
  have hk37 := hk5.below hb22
  have hk38 := hk37.kept hg34 (by simp)
  refine dk 1 (v := .int .i64 s.boot) h36 rfl rfl rfl (fun x hx => by subst hx; exact (rn_load1 rfl rfl Try.isAgg3 (hk38.cell rfl))) fun a39 h39 => ?_; clear h36
  refine dk0 2 (v := pt b 0) h39 rfl rfl rfl fun a40 h40 => ?_; clear h39
  refine dk0 3 (v := pt b 0) h40 rfl rfl rfl fun a41 h41 => ?_; clear h40
  refine dk0 4 (v := pt b 5) h41 rfl rfl rfl fun a42 h42 => ?_; clear h41
  have hk43 := hk16.below hb22
  have hk44 := hk43.kept hg34 (by simp)
  refine dk 5 (v := .int .i64 L.peer) h42 rfl rfl rfl (fun x hx => by subst hx; exact (rn_load1 rfl rfl Try.isAgg3 (hk44.cell rfl))) fun a45 h45 => ?_; clear h42
  refine dk0 6 (v := .bool (decide (s.boot < L.peer))) h45 rfl rfl rfl fun a46 h46 => ?_; clear h45
  refine dr_done (by kernel_rfl) ?_
  refine co_then ?_
  have hB48 := fbU_new hB25 hg34
  cases hc47 : (decide (s.boot < L.peer))
  ·
   rw [hc47] at h46
   have hp49 : ¬ (s.boot < L.peer) := of_decide_eq_false hc47
   clear hc47
   refine co_false h46 rfl ?_
   refine wp_skip ?_
   refine co_then ?_
   refine co_seq ?_
   refine co_reg ?_
   refine pk0 (v := pt b 0) h46 rfl fun a50 h50 => ?_; clear h46
   refine pk (v := .agg #[.int .i64 s.boot, .int .i64 s.stream, .int .i64 s.seq, .int .i64 s.ab, .int .i64 s.ast, .int .i64 s.asq, .bool s.has, .string s.body]) h50 rfl (rn_loadN rfl rfl Try.underlying61 rfl (by kernel_rfl) hk38.all) fun a51 h51 => ?_; clear h50
   have hm : mayT s = true := by assumption
   have hmI := mayT_iff.1 hm
   have hmq : 0 ≤ s.asq ∧ s.asq ≤ 1073741824 := hmI.2.2.2.2.2.1
   have hKok : LnOk K := hK ▸ knowT_ok hok hm
   obtain ⟨⟨m1, m2⟩, ⟨m3, m4⟩, ⟨m5, m6⟩, ⟨m7, m8⟩, ⟨m9, m10⟩, ⟨m11, m12⟩, ⟨m13, m14⟩, m15, m16⟩ := id hKok
   obtain ⟨hKq, hKb, hKo⟩ : K.q = L.q ∧ K.boot = L.boot ∧ K.owes = L.owes := hK ▸ knowT_q L s
   refine pw h51 rfl (op_call (args := #[pt b 0, .agg #[.int .i64 s.boot, .int .i64 s.stream, .int .i64 s.seq, .int .i64 s.ab, .int .i64 s.ast, .int .i64 s.asq, .bool s.has, .string s.body]]) (R := fun res xw => res = .tuple #[] ∧ Blk xw b 102 (lnC K u) ∧ But (fun q => q = b) w33 xw) rfl rfl rfl (by kernel_rfl) (by kernel_rfl) (Try.call75 _ _) (lkKnow_blk b u L s w33 hk44 hok ⟨by omega, by omega⟩) (by rintro e x ⟨rfl, h1, h2⟩; rw [← hK] at h1; exact ⟨_, rfl, rfl, h1, h2⟩)) ?_; clear h51
   rintro _ w53 a52 ⟨rfl, hkK54, hx55⟩ h52
   have hz56 := hx55.size
   have hkK54' : Blk w53 b 102 #[.int .i64 K.boot, .int .i64 K.stream, .int .i64 K.first, u, .int .i64 K.told, .int .i64 K.peer, .int .i64 K.in0, .int .i64 K.next, .bool K.owes] := hkK54
   have hr58 := row_kept_new hr27 hg34
   have hr59 := own_but hr58 hx55 (fun i hi hS => by (try simp at hS); subst hS; exact absurd hi (hbu))
   have hr57 := row_eq hr59 hKq.symm
   refine pl_nil ?_
   refine co_then ?_
   refine co_seq ?_
   refine dr_eq (by kernel_rfl) (fun w60 hg61 => ?_)
   have hz62 := hg61.size
   refine dk0 0 (v := pt N3 3) h52 rfl rfl rfl fun a63 h63 => ?_; clear h52
   have hk64 := hk38.but hx55 (by first | omega | (simp; omega))
   have hk65 := hk64.kept hg61 (by simp)
   refine dk 1 (v := .int .i64 s.ab) h63 rfl rfl rfl (fun x hx => by subst hx; exact (rn_load1 rfl rfl Try.isAgg3 (hk65.cell rfl))) fun a66 h66 => ?_; clear h63
   refine dk0 2 (v := pt b 0) h66 rfl rfl rfl fun a67 h67 => ?_; clear h66
   refine dk0 3 (v := pt b 0) h67 rfl rfl rfl fun a68 h68 => ?_; clear h67
   refine dk0 4 (v := pt b 0) h68 rfl rfl rfl fun a69 h69 => ?_; clear h68
   have hk70 := hkK54'.kept hg61 (by simp)
   refine dk 5 (v := .int .i64 K.boot) h69 rfl rfl rfl (fun x hx => by subst hx; exact (rn_load1 rfl rfl Try.isAgg3 (hk70.cell rfl))) fun a71 h71 => ?_; clear h69
   refine dk0 6 (v := .bool (s.ab == K.boot)) h71 rfl rfl rfl fun a72 h72 => ?_; clear h71
   refine dk0 7 (v := .bool (s.ab == K.boot)) h72 rfl rfl rfl fun a73 h73 => ?_; clear h72
   refine dr_done (by kernel_rfl) ?_
   refine co_then ?_
   have hB74 := fbU_foot hB48 hx55 (fun i hlt hS => by (try simp at hS); first | omega | (simp; omega) | simp_all)
   have hB75 := fbU_new hB74 hg61
   refine co_cut (fun a x => ∃ (u2 : Value), Slots 90 [(0, pt b 0), (3, pt N3 0), (6, .bool (s.ab == K.boot))] a ∧ (InS S w.heap.size u2) ∧ (u2.ownBlock ≠ some b) ∧ Blk x b 102 #[.int .i64 A.boot, .int .i64 A.stream, .int .i64 A.first, u2, .int .i64 A.told, .int .i64 A.peer, .int .i64 A.in0, .int .i64 A.next, .bool A.owes] ∧ x.ownsRow 0 9 1 u2 A.q.length (A.q.flatMap strE) ∧ Blk x N3 61 #[.int .i64 s.boot, .int .i64 s.stream, .int .i64 s.seq, .int .i64 s.ab, .int .i64 s.ast, .int .i64 s.asq, .bool s.has, .string s.body] ∧ But (S) w x) ?_ ?_
   ·
    refine co_seq ?_
    refine dr_eq (by kernel_rfl) (fun w76 hg77 => ?_)
    have hz78 := hg77.size
    refine dk0 0 (v := .bool (s.ab == K.boot)) h73 rfl rfl rfl fun a79 h79 => ?_; clear h73
    refine dk0 1 (v := .bool (s.ab == K.boot)) h79 rfl rfl rfl fun a80 h80 => ?_; clear h79
    have hB82 := fbU_new hB75 hg77
    have hr83 := row_kept_new hr57 hg61
    have hr84 := row_kept_new hr83 hg77
    cases hc81 : (s.ab == K.boot)
    ·
     rw [hc81] at h80
     have hp85 : ¬ (s.ab = K.boot) := by first | simpa using hc81 | simpa [and_assoc] using hc81
     clear hc81
     refine dsk 2 h80 rfl rfl rfl fun a86 h86 => ?_; clear h80
     refine dsk 3 h86 rfl rfl rfl fun a87 h87 => ?_; clear h86
     refine dsk 4 h87 rfl rfl rfl fun a88 h88 => ?_; clear h87
     refine dsk 5 h88 rfl rfl rfl fun a89 h89 => ?_; clear h88
     refine dsk 6 h89 rfl rfl rfl fun a90 h90 => ?_; clear h89
     refine dsk 7 h90 rfl rfl rfl fun a91 h91 => ?_; clear h90
     refine dsk 8 h91 rfl rfl rfl fun a92 h92 => ?_; clear h91
     refine dk0 9 (v := .bool false) h92 rfl rfl rfl fun a93 h93 => ?_; clear h92
     refine dr_done (by kernel_rfl) ?_
     refine co_then ?_
     refine co_false h93 rfl ?_
     refine wp_skip ?_
     refine co_then ?_
     have hAA : A.first = K.first ∧ A.q = K.q ∧ A.told = K.told := (by rw [ack_n hA hKok (by omega)]; exact ⟨rfl, rfl, rfl⟩)
     have hcA := ackT_c K s; rw [← hA] at hcA
     have hk94 := hk70.kept hg77 (by simp)
     have hk95 := hk65.kept hg77 (by simp)
     exact ⟨u, h93.sub ⟨rfl, rfl, (slot_eq rfl (by first | rfl | (congr 1; symm; first | (simp; done) | (simp; omega)))), trivial⟩, ((InS.of (fun i hi => (hSS i).2 (.inr hi)))), hbu, (by rw [hcA.1, hcA.2.1, hAA.1, hAA.2.2, hcA.2.2.1, hcA.2.2.2.1, hcA.2.2.2.2.1, hcA.2.2.2.2.2]; exact hk94), (row_eq (row_lows hr84 (Nat.zero_le _)) hAA.2.1.symm), hk95, hB82⟩
    ·
     rw [hc81] at h80
     have hp96 : s.ab = K.boot := by first | simpa using hc81 | simpa [and_assoc] using hc81
     clear hc81
     refine dk0 2 (v := pt N3 4) h80 rfl rfl rfl fun a97 h97 => ?_; clear h80
     have hk98 := hk65.kept hg77 (by simp)
     refine dk 3 (v := .int .i64 s.ast) h97 rfl rfl rfl (fun x hx => by subst hx; exact (rn_load1 rfl rfl Try.isAgg3 (hk98.cell rfl))) fun a99 h99 => ?_; clear h97
     refine dk0 4 (v := pt b 0) h99 rfl rfl rfl fun a100 h100 => ?_; clear h99
     refine dk0 5 (v := pt b 0) h100 rfl rfl rfl fun a101 h101 => ?_; clear h100
     refine dk0 6 (v := pt b 1) h101 rfl rfl rfl fun a102 h102 => ?_; clear h101
     have hk103 := hk70.kept hg77 (by simp)
     refine dk 7 (v := .int .i64 K.stream) h102 rfl rfl rfl (fun x hx => by subst hx; exact (rn_load1 rfl rfl Try.isAgg3 (hk103.cell rfl))) fun a104 h104 => ?_; clear h102
     refine dk0 8 (v := .bool (s.ast == K.stream)) h104 rfl rfl rfl fun a105 h105 => ?_; clear h104
     refine dk0 9 (v := .bool (s.ast == K.stream)) h105 rfl rfl rfl fun a106 h106 => ?_; clear h105
     refine dr_done (by kernel_rfl) ?_
     refine co_then ?_
     cases hc107 : (s.ast == K.stream)
     ·
      rw [hc107] at h106
      have hp108 : ¬ (s.ast = K.stream) := by first | simpa using hc107 | simpa [and_assoc] using hc107
      clear hc107
      refine co_false h106 rfl ?_
      refine wp_skip ?_
      refine co_then ?_
      have hAA : A.first = K.first ∧ A.q = K.q ∧ A.told = K.told := (by rw [ack_n hA hKok (by omega)]; exact ⟨rfl, rfl, rfl⟩)
      have hcA := ackT_c K s; rw [← hA] at hcA
      exact ⟨u, h106.sub ⟨rfl, rfl, (slot_eq rfl (by first | rfl | (congr 1; symm; first | (simp; done) | (simp; omega)))), trivial⟩, ((InS.of (fun i hi => (hSS i).2 (.inr hi)))), hbu, (by rw [hcA.1, hcA.2.1, hAA.1, hAA.2.2, hcA.2.2.1, hcA.2.2.2.1, hcA.2.2.2.2.1, hcA.2.2.2.2.2]; exact hk103), (row_eq (row_lows hr84 (Nat.zero_le _)) hAA.2.1.symm), hk98, hB82⟩
     ·
      rw [hc107] at h106
      have hp109 : s.ast = K.stream := by first | simpa using hc107 | simpa [and_assoc] using hc107
      clear hc107
      refine co_true h106 rfl ?_
      refine dr_gen (fun x => But (S) w x ∧ Blk x N3 61 #[.int .i64 s.boot, .int .i64 s.stream, .int .i64 s.seq, .int .i64 s.ab, .int .i64 s.ast, .int .i64 s.asq, .bool s.has, .string s.body]) (by kernel_rfl) (fun w110 hg111 => ?_) (fun w110 hg111 => ?_)
      ·
       have hz112 := hg111.size
       have hB113 := fbU_new hB82 hg111
       have hk114 := hk98.kept hg111 (by simp)
       exact ⟨hB113, hk114⟩
      have hz115 := hg111.size
      have hB116 := fbU_new hB82 hg111
      have hk117 := hk98.kept hg111 (by simp)
      refine dk0 0 (v := pt b 0) h106 rfl rfl ⟨hB116, hk117⟩ fun a118 h118 => ?_; clear h106
      refine dk0 1 (v := pt b 0) h118 rfl rfl ⟨hB116, hk117⟩ fun a119 h119 => ?_; clear h118
      refine dk0 2 (v := pt b 0) h119 rfl rfl ⟨hB116, hk117⟩ fun a120 h120 => ?_; clear h119
      refine dk0 3 (v := pt b 4) h120 rfl rfl ⟨hB116, hk117⟩ fun a121 h121 => ?_; clear h120
      refine dk0 5 (v := pt b 0) h121 rfl rfl ⟨hB116, hk117⟩ fun a122 h122 => ?_; clear h121
      refine dk0 6 (v := pt b 0) h122 rfl rfl ⟨hB116, hk117⟩ fun a123 h123 => ?_; clear h122
      refine dk0 7 (v := pt b 2) h123 rfl rfl ⟨hB116, hk117⟩ fun a124 h124 => ?_; clear h123
      refine dk0 8 (v := pt N3 5) h124 rfl rfl ⟨hB116, hk117⟩ fun a125 h125 => ?_; clear h124
      refine dr_many [4, 9] (by kernel_rfl) (by simp) ⟨?_, ?_, trivial⟩
      ·
       have hk126 := hk103.kept hg111 (by simp)
       refine dr_opVal (i := 4) (v := .int .i64 K.told) h125 rfl rfl rfl rfl (by kernel_rfl) rfl (rn_load1 rfl rfl Try.isAgg3 (hk126.cell rfl)) ⟨hB116, hk117⟩ (fun a127 h127 => ?_); clear h125
       refine dr_many [9] (by kernel_rfl) (by simp) ⟨?_, trivial⟩
       ·
        refine dr_opVal (i := 9) (v := .int .i64 s.asq) h127 rfl rfl rfl rfl (by kernel_rfl) rfl (rn_load1 rfl rfl Try.isAgg3 (hk117.cell rfl)) ⟨hB116, hk117⟩ (fun a128 h128 => ?_); clear h127
        have hgl := goneN_le K s.asq
        have hr136 := row_kept_new hr84 hg111
        refine d1 10 h128 rfl rfl (op_call (args := #[pt b 2, .int .i64 s.asq]) (R := fun res xw => ∃ u', res = .int .i64 (goneN K s.asq : Int) ∧ Blk xw b 102 #[.int .i64 K.boot, .int .i64 K.stream, .int .i64 (K.first + (goneN K s.asq : Int)), u', .int .i64 K.told, .int .i64 K.peer, .int .i64 K.in0, .int .i64 K.next, .bool K.owes] ∧ xw.ownsRow w110.heap.size 9 1 u' (K.q.drop (goneN K s.asq)).length ((K.q.drop (goneN K s.asq)).flatMap strE) ∧ But (fun q => q = b) w110 xw) rfl rfl rfl (by kernel_rfl) (by kernel_rfl) (Try.call76 _ _) (lkBelow_blk b u K 0 s.asq w110 hk126 hKok hr136 ⟨by omega, by omega⟩ hbu) (by rintro e x ⟨u', rfl, h⟩; exact ⟨_, rfl, u', rfl, h⟩)) ?_ ?_; clear h128
        ·
         rintro _ w130 ⟨u134, rfl, hkA131, hr133, hx132⟩
         have hz137 := hx132.size
         have hkA131' : Blk w130 b 102 #[.int .i64 K.boot, .int .i64 K.stream, .int .i64 (K.first + (goneN K s.asq : Int)), u134, .int .i64 K.told, .int .i64 K.peer, .int .i64 K.in0, .int .i64 K.next, .bool K.owes] := hkA131
         have hB138 := fbU_foot hB116 hx132 (fun i hlt hS => by (try simp at hS); first | omega | (simp; omega) | simp_all)
         have hk139 := hk117.but hx132 (by first | omega | (simp; omega))
         exact ⟨hB138, hk139⟩
        rintro _ w130 a129 ⟨u134, rfl, hkA131, hr133, hx132⟩ h129
        have hz137 := hx132.size
        have hkA131' : Blk w130 b 102 #[.int .i64 K.boot, .int .i64 K.stream, .int .i64 (K.first + (goneN K s.asq : Int)), u134, .int .i64 K.told, .int .i64 K.peer, .int .i64 K.in0, .int .i64 K.next, .bool K.owes] := hkA131
        have hB138 := fbU_foot hB116 hx132 (fun i hlt hS => by (try simp at hS); first | omega | (simp; omega) | simp_all)
        have hk139 := hk117.but hx132 (by first | omega | (simp; omega))
        refine dk 11 (v := .int .i64 (K.told - (goneN K s.asq : Int))) h129 rfl rfl ⟨hB138, hk139⟩ (fun x hx => (rn_arith rfl rfl rfl rfl rfl rfl (IntWalk.i64_in _ (by omega)))) fun a140 h140 => ?_; clear h129
        by_cases hs141 : K.told - (goneN K s.asq : Int) < 0
        ·
         refine dk 12 (v := .int .i64 0) h140 rfl rfl ⟨hB138, hk139⟩ (fun x hx => (rn_max2 rfl rfl rfl rfl (by omega))) fun a142 h142 => ?_; clear h140
         refine dk0 13 (v := pt b 0) h142 rfl rfl ⟨hB138, hk139⟩ fun a143 h143 => ?_; clear h142
         refine dk0 14 (v := pt b 4) h143 rfl rfl ⟨hB138, hk139⟩ fun a144 h144 => ?_; clear h143
         refine d1D 15 h144 rfl rfl (op_store1 rfl rfl rfl rfl Try.sizeOf3 hkA131' rfl) ?_ ?_; clear h144
         ·
          rintro _ w146 ⟨hk147, hz148, hg149⟩
          have hk147' : Blk w146 b 102 #[.int .i64 K.boot, .int .i64 K.stream, .int .i64 (K.first + (goneN K s.asq : Int)), u134, .int .i64 0, .int .i64 K.peer, .int .i64 K.in0, .int .i64 K.next, .bool K.owes] := hk147; clear hk147
          have hz150 := hg149.size
          have hB151 := fbU_at hB138 hg149 (fun hlt => by rcases hSb with hq | hq; exact hq; omega)
          have hk152 := hk139.kept hg149 (by simp; omega)
          exact ⟨hB151, hk152⟩
         rintro _ w146 a145 ⟨hk147, hz148, hg149⟩ h145
         have hk147' : Blk w146 b 102 #[.int .i64 K.boot, .int .i64 K.stream, .int .i64 (K.first + (goneN K s.asq : Int)), u134, .int .i64 0, .int .i64 K.peer, .int .i64 K.in0, .int .i64 K.next, .bool K.owes] := hk147; clear hk147
         have hz150 := hg149.size
         refine dr_done (by kernel_rfl) ?_
         refine co_then ?_
         have hAA : A.first = K.first + (goneN K s.asq : Int) ∧ A.q = (K.q.drop (goneN K s.asq)) ∧ A.told = 0 := (by rw [ack_y hA (by omega)]; refine ⟨rfl, rfl, ?_⟩; show max (K.told - (goneN K s.asq : Int)) 0 = _; omega)
         have hcA := ackT_c K s; rw [← hA] at hcA
         have hr151 := row_kept_at hr133 hg149 (own_neT hr133 hkA131' (by decide))
         have hk152 := hk139.kept hg149 (by simp; omega)
         have hB153 := fbU_at hB138 hg149 (fun hlt => by rcases hSb with hq | hq; exact hq; omega)
         exact ⟨u134, h145.sub ⟨rfl, rfl, (slot_eq rfl (by first | rfl | (congr 1; symm; first | (simp; done) | (simp; omega)))), trivial⟩, (InS.low hr151 (by omega)), (own_neT hr151 hk147' (by decide)), (by rw [hcA.1, hcA.2.1, hAA.1, hAA.2.2, hcA.2.2.1, hcA.2.2.2.1, hcA.2.2.2.2.1, hcA.2.2.2.2.2]; exact hk147'), (row_eq (row_lows hr151 (Nat.zero_le _)) hAA.2.1.symm), hk152, hB153⟩
        ·
         refine dk 12 (v := .int .i64 (K.told - (goneN K s.asq : Int))) h140 rfl rfl ⟨hB138, hk139⟩ (fun x hx => (rn_max1 rfl rfl rfl rfl (by omega))) fun a154 h154 => ?_; clear h140
         refine dk0 13 (v := pt b 0) h154 rfl rfl ⟨hB138, hk139⟩ fun a155 h155 => ?_; clear h154
         refine dk0 14 (v := pt b 4) h155 rfl rfl ⟨hB138, hk139⟩ fun a156 h156 => ?_; clear h155
         refine d1D 15 h156 rfl rfl (op_store1 rfl rfl rfl rfl Try.sizeOf3 hkA131' rfl) ?_ ?_; clear h156
         ·
          rintro _ w158 ⟨hk159, hz160, hg161⟩
          have hk159' : Blk w158 b 102 #[.int .i64 K.boot, .int .i64 K.stream, .int .i64 (K.first + (goneN K s.asq : Int)), u134, .int .i64 (K.told - (goneN K s.asq : Int)), .int .i64 K.peer, .int .i64 K.in0, .int .i64 K.next, .bool K.owes] := hk159; clear hk159
          have hz162 := hg161.size
          have hB163 := fbU_at hB138 hg161 (fun hlt => by rcases hSb with hq | hq; exact hq; omega)
          have hk164 := hk139.kept hg161 (by simp; omega)
          exact ⟨hB163, hk164⟩
         rintro _ w158 a157 ⟨hk159, hz160, hg161⟩ h157
         have hk159' : Blk w158 b 102 #[.int .i64 K.boot, .int .i64 K.stream, .int .i64 (K.first + (goneN K s.asq : Int)), u134, .int .i64 (K.told - (goneN K s.asq : Int)), .int .i64 K.peer, .int .i64 K.in0, .int .i64 K.next, .bool K.owes] := hk159; clear hk159
         have hz162 := hg161.size
         refine dr_done (by kernel_rfl) ?_
         refine co_then ?_
         have hAA : A.first = K.first + (goneN K s.asq : Int) ∧ A.q = (K.q.drop (goneN K s.asq)) ∧ A.told = K.told - (goneN K s.asq : Int) := (by rw [ack_y hA (by omega)]; refine ⟨rfl, rfl, ?_⟩; show max (K.told - (goneN K s.asq : Int)) 0 = _; omega)
         have hcA := ackT_c K s; rw [← hA] at hcA
         have hr163 := row_kept_at hr133 hg161 (own_neT hr133 hkA131' (by decide))
         have hk164 := hk139.kept hg161 (by simp; omega)
         have hB165 := fbU_at hB138 hg161 (fun hlt => by rcases hSb with hq | hq; exact hq; omega)
         exact ⟨u134, h157.sub ⟨rfl, rfl, (slot_eq rfl (by first | rfl | (congr 1; symm; first | (simp; done) | (simp; omega)))), trivial⟩, (InS.low hr163 (by omega)), (own_neT hr163 hk159' (by decide)), (by rw [hcA.1, hcA.2.1, hAA.1, hAA.2.2, hcA.2.2.1, hcA.2.2.2.1, hcA.2.2.2.2.1, hcA.2.2.2.2.2]; exact hk159'), (row_eq (row_lows hr163 (Nat.zero_le _)) hAA.2.1.symm), hk164, hB165⟩
      ·
       refine dr_opVal (i := 9) (v := .int .i64 s.asq) h125 rfl rfl rfl rfl (by kernel_rfl) rfl (rn_load1 rfl rfl Try.isAgg3 (hk117.cell rfl)) ⟨hB116, hk117⟩ (fun a166 h166 => ?_); clear h125
       refine dr_many [4, 10] (by kernel_rfl) (by simp) ⟨?_, ?_, trivial⟩
       ·
        have hk167 := hk103.kept hg111 (by simp)
        refine dr_opVal (i := 4) (v := .int .i64 K.told) h166 rfl rfl rfl rfl (by kernel_rfl) rfl (rn_load1 rfl rfl Try.isAgg3 (hk167.cell rfl)) ⟨hB116, hk117⟩ (fun a168 h168 => ?_); clear h166
        have hgl := goneN_le K s.asq
        have hr176 := row_kept_new hr84 hg111
        refine d1 10 h168 rfl rfl (op_call (args := #[pt b 2, .int .i64 s.asq]) (R := fun res xw => ∃ u', res = .int .i64 (goneN K s.asq : Int) ∧ Blk xw b 102 #[.int .i64 K.boot, .int .i64 K.stream, .int .i64 (K.first + (goneN K s.asq : Int)), u', .int .i64 K.told, .int .i64 K.peer, .int .i64 K.in0, .int .i64 K.next, .bool K.owes] ∧ xw.ownsRow w110.heap.size 9 1 u' (K.q.drop (goneN K s.asq)).length ((K.q.drop (goneN K s.asq)).flatMap strE) ∧ But (fun q => q = b) w110 xw) rfl rfl rfl (by kernel_rfl) (by kernel_rfl) (Try.call76 _ _) (lkBelow_blk b u K 0 s.asq w110 hk167 hKok hr176 ⟨by omega, by omega⟩ hbu) (by rintro e x ⟨u', rfl, h⟩; exact ⟨_, rfl, u', rfl, h⟩)) ?_ ?_; clear h168
        ·
         rintro _ w170 ⟨u174, rfl, hkA171, hr173, hx172⟩
         have hz177 := hx172.size
         have hkA171' : Blk w170 b 102 #[.int .i64 K.boot, .int .i64 K.stream, .int .i64 (K.first + (goneN K s.asq : Int)), u174, .int .i64 K.told, .int .i64 K.peer, .int .i64 K.in0, .int .i64 K.next, .bool K.owes] := hkA171
         have hB178 := fbU_foot hB116 hx172 (fun i hlt hS => by (try simp at hS); first | omega | (simp; omega) | simp_all)
         have hk179 := hk117.but hx172 (by first | omega | (simp; omega))
         exact ⟨hB178, hk179⟩
        rintro _ w170 a169 ⟨u174, rfl, hkA171, hr173, hx172⟩ h169
        have hz177 := hx172.size
        have hkA171' : Blk w170 b 102 #[.int .i64 K.boot, .int .i64 K.stream, .int .i64 (K.first + (goneN K s.asq : Int)), u174, .int .i64 K.told, .int .i64 K.peer, .int .i64 K.in0, .int .i64 K.next, .bool K.owes] := hkA171
        have hB178 := fbU_foot hB116 hx172 (fun i hlt hS => by (try simp at hS); first | omega | (simp; omega) | simp_all)
        have hk179 := hk117.but hx172 (by first | omega | (simp; omega))
        refine dk 11 (v := .int .i64 (K.told - (goneN K s.asq : Int))) h169 rfl rfl ⟨hB178, hk179⟩ (fun x hx => (rn_arith rfl rfl rfl rfl rfl rfl (IntWalk.i64_in _ (by omega)))) fun a180 h180 => ?_; clear h169
        by_cases hs181 : K.told - (goneN K s.asq : Int) < 0
        ·
         refine dk 12 (v := .int .i64 0) h180 rfl rfl ⟨hB178, hk179⟩ (fun x hx => (rn_max2 rfl rfl rfl rfl (by omega))) fun a182 h182 => ?_; clear h180
         refine dk0 13 (v := pt b 0) h182 rfl rfl ⟨hB178, hk179⟩ fun a183 h183 => ?_; clear h182
         refine dk0 14 (v := pt b 4) h183 rfl rfl ⟨hB178, hk179⟩ fun a184 h184 => ?_; clear h183
         refine d1D 15 h184 rfl rfl (op_store1 rfl rfl rfl rfl Try.sizeOf3 hkA171' rfl) ?_ ?_; clear h184
         ·
          rintro _ w186 ⟨hk187, hz188, hg189⟩
          have hk187' : Blk w186 b 102 #[.int .i64 K.boot, .int .i64 K.stream, .int .i64 (K.first + (goneN K s.asq : Int)), u174, .int .i64 0, .int .i64 K.peer, .int .i64 K.in0, .int .i64 K.next, .bool K.owes] := hk187; clear hk187
          have hz190 := hg189.size
          have hB191 := fbU_at hB178 hg189 (fun hlt => by rcases hSb with hq | hq; exact hq; omega)
          have hk192 := hk179.kept hg189 (by simp; omega)
          exact ⟨hB191, hk192⟩
         rintro _ w186 a185 ⟨hk187, hz188, hg189⟩ h185
         have hk187' : Blk w186 b 102 #[.int .i64 K.boot, .int .i64 K.stream, .int .i64 (K.first + (goneN K s.asq : Int)), u174, .int .i64 0, .int .i64 K.peer, .int .i64 K.in0, .int .i64 K.next, .bool K.owes] := hk187; clear hk187
         have hz190 := hg189.size
         refine dr_done (by kernel_rfl) ?_
         refine co_then ?_
         have hAA : A.first = K.first + (goneN K s.asq : Int) ∧ A.q = (K.q.drop (goneN K s.asq)) ∧ A.told = 0 := (by rw [ack_y hA (by omega)]; refine ⟨rfl, rfl, ?_⟩; show max (K.told - (goneN K s.asq : Int)) 0 = _; omega)
         have hcA := ackT_c K s; rw [← hA] at hcA
         have hr191 := row_kept_at hr173 hg189 (own_neT hr173 hkA171' (by decide))
         have hk192 := hk179.kept hg189 (by simp; omega)
         have hB193 := fbU_at hB178 hg189 (fun hlt => by rcases hSb with hq | hq; exact hq; omega)
         exact ⟨u174, h185.sub ⟨rfl, rfl, (slot_eq rfl (by first | rfl | (congr 1; symm; first | (simp; done) | (simp; omega)))), trivial⟩, (InS.low hr191 (by omega)), (own_neT hr191 hk187' (by decide)), (by rw [hcA.1, hcA.2.1, hAA.1, hAA.2.2, hcA.2.2.1, hcA.2.2.2.1, hcA.2.2.2.2.1, hcA.2.2.2.2.2]; exact hk187'), (row_eq (row_lows hr191 (Nat.zero_le _)) hAA.2.1.symm), hk192, hB193⟩
        ·
         refine dk 12 (v := .int .i64 (K.told - (goneN K s.asq : Int))) h180 rfl rfl ⟨hB178, hk179⟩ (fun x hx => (rn_max1 rfl rfl rfl rfl (by omega))) fun a194 h194 => ?_; clear h180
         refine dk0 13 (v := pt b 0) h194 rfl rfl ⟨hB178, hk179⟩ fun a195 h195 => ?_; clear h194
         refine dk0 14 (v := pt b 4) h195 rfl rfl ⟨hB178, hk179⟩ fun a196 h196 => ?_; clear h195
         refine d1D 15 h196 rfl rfl (op_store1 rfl rfl rfl rfl Try.sizeOf3 hkA171' rfl) ?_ ?_; clear h196
         ·
          rintro _ w198 ⟨hk199, hz200, hg201⟩
          have hk199' : Blk w198 b 102 #[.int .i64 K.boot, .int .i64 K.stream, .int .i64 (K.first + (goneN K s.asq : Int)), u174, .int .i64 (K.told - (goneN K s.asq : Int)), .int .i64 K.peer, .int .i64 K.in0, .int .i64 K.next, .bool K.owes] := hk199; clear hk199
          have hz202 := hg201.size
          have hB203 := fbU_at hB178 hg201 (fun hlt => by rcases hSb with hq | hq; exact hq; omega)
          have hk204 := hk179.kept hg201 (by simp; omega)
          exact ⟨hB203, hk204⟩
         rintro _ w198 a197 ⟨hk199, hz200, hg201⟩ h197
         have hk199' : Blk w198 b 102 #[.int .i64 K.boot, .int .i64 K.stream, .int .i64 (K.first + (goneN K s.asq : Int)), u174, .int .i64 (K.told - (goneN K s.asq : Int)), .int .i64 K.peer, .int .i64 K.in0, .int .i64 K.next, .bool K.owes] := hk199; clear hk199
         have hz202 := hg201.size
         refine dr_done (by kernel_rfl) ?_
         refine co_then ?_
         have hAA : A.first = K.first + (goneN K s.asq : Int) ∧ A.q = (K.q.drop (goneN K s.asq)) ∧ A.told = K.told - (goneN K s.asq : Int) := (by rw [ack_y hA (by omega)]; refine ⟨rfl, rfl, ?_⟩; show max (K.told - (goneN K s.asq : Int)) 0 = _; omega)
         have hcA := ackT_c K s; rw [← hA] at hcA
         have hr203 := row_kept_at hr173 hg201 (own_neT hr173 hkA171' (by decide))
         have hk204 := hk179.kept hg201 (by simp; omega)
         have hB205 := fbU_at hB178 hg201 (fun hlt => by rcases hSb with hq | hq; exact hq; omega)
         exact ⟨u174, h197.sub ⟨rfl, rfl, (slot_eq rfl (by first | rfl | (congr 1; symm; first | (simp; done) | (simp; omega)))), trivial⟩, (InS.low hr203 (by omega)), (own_neT hr203 hk199' (by decide)), (by rw [hcA.1, hcA.2.1, hAA.1, hAA.2.2, hcA.2.2.1, hcA.2.2.2.1, hcA.2.2.2.2.1, hcA.2.2.2.2.2]; exact hk199'), (row_eq (row_lows hr203 (Nat.zero_le _)) hAA.2.1.symm), hk204, hB205⟩
       ·
        have hgl := goneN_le K s.asq
        have hk213 := hk103.kept hg111 (by simp)
        have hr214 := row_kept_new hr84 hg111
        refine dr_op (i := 10) h166 rfl rfl rfl rfl (op_call (args := #[pt b 2, .int .i64 s.asq]) (R := fun res xw => ∃ u', res = .int .i64 (goneN K s.asq : Int) ∧ Blk xw b 102 #[.int .i64 K.boot, .int .i64 K.stream, .int .i64 (K.first + (goneN K s.asq : Int)), u', .int .i64 K.told, .int .i64 K.peer, .int .i64 K.in0, .int .i64 K.next, .bool K.owes] ∧ xw.ownsRow w110.heap.size 9 1 u' (K.q.drop (goneN K s.asq)).length ((K.q.drop (goneN K s.asq)).flatMap strE) ∧ But (fun q => q = b) w110 xw) rfl rfl rfl (by kernel_rfl) (by kernel_rfl) (Try.call76 _ _) (lkBelow_blk b u K 0 s.asq w110 hk213 hKok hr214 ⟨by omega, by omega⟩ hbu) (by rintro e x ⟨u', rfl, h⟩; exact ⟨_, rfl, u', rfl, h⟩)) ?_ ?_; clear h166
        ·
         rintro _ w207 ⟨u211, rfl, hkA208, hr210, hx209⟩
         have hz215 := hx209.size
         have hkA208' : Blk w207 b 102 #[.int .i64 K.boot, .int .i64 K.stream, .int .i64 (K.first + (goneN K s.asq : Int)), u211, .int .i64 K.told, .int .i64 K.peer, .int .i64 K.in0, .int .i64 K.next, .bool K.owes] := hkA208
         have hB216 := fbU_foot hB116 hx209 (fun i hlt hS => by (try simp at hS); first | omega | (simp; omega) | simp_all)
         have hk217 := hk117.but hx209 (by first | omega | (simp; omega))
         exact ⟨hB216, hk217⟩
        rintro _ w207 a206 ⟨u211, rfl, hkA208, hr210, hx209⟩ h206
        have hz215 := hx209.size
        have hkA208' : Blk w207 b 102 #[.int .i64 K.boot, .int .i64 K.stream, .int .i64 (K.first + (goneN K s.asq : Int)), u211, .int .i64 K.told, .int .i64 K.peer, .int .i64 K.in0, .int .i64 K.next, .bool K.owes] := hkA208
        have hB216 := fbU_foot hB116 hx209 (fun i hlt hS => by (try simp at hS); first | omega | (simp; omega) | simp_all)
        have hk217 := hk117.but hx209 (by first | omega | (simp; omega))
        refine dr_many [4] (by kernel_rfl) (by simp) ⟨?_, trivial⟩
        ·
         refine dr_opVal (i := 4) (v := .int .i64 K.told) h206 rfl rfl rfl rfl (by kernel_rfl) rfl (rn_load1 rfl rfl Try.isAgg3 (hkA208'.cell rfl)) ⟨hB216, hk217⟩ (fun a218 h218 => ?_); clear h206
         refine dk 11 (v := .int .i64 (K.told - (goneN K s.asq : Int))) h218 rfl rfl ⟨hB216, hk217⟩ (fun x hx => (rn_arith rfl rfl rfl rfl rfl rfl (IntWalk.i64_in _ (by omega)))) fun a219 h219 => ?_; clear h218
         by_cases hs220 : K.told - (goneN K s.asq : Int) < 0
         ·
          refine dk 12 (v := .int .i64 0) h219 rfl rfl ⟨hB216, hk217⟩ (fun x hx => (rn_max2 rfl rfl rfl rfl (by omega))) fun a221 h221 => ?_; clear h219
          refine dk0 13 (v := pt b 0) h221 rfl rfl ⟨hB216, hk217⟩ fun a222 h222 => ?_; clear h221
          refine dk0 14 (v := pt b 4) h222 rfl rfl ⟨hB216, hk217⟩ fun a223 h223 => ?_; clear h222
          refine d1D 15 h223 rfl rfl (op_store1 rfl rfl rfl rfl Try.sizeOf3 hkA208' rfl) ?_ ?_; clear h223
          ·
           rintro _ w225 ⟨hk226, hz227, hg228⟩
           have hk226' : Blk w225 b 102 #[.int .i64 K.boot, .int .i64 K.stream, .int .i64 (K.first + (goneN K s.asq : Int)), u211, .int .i64 0, .int .i64 K.peer, .int .i64 K.in0, .int .i64 K.next, .bool K.owes] := hk226; clear hk226
           have hz229 := hg228.size
           have hB230 := fbU_at hB216 hg228 (fun hlt => by rcases hSb with hq | hq; exact hq; omega)
           have hk231 := hk217.kept hg228 (by simp; omega)
           exact ⟨hB230, hk231⟩
          rintro _ w225 a224 ⟨hk226, hz227, hg228⟩ h224
          have hk226' : Blk w225 b 102 #[.int .i64 K.boot, .int .i64 K.stream, .int .i64 (K.first + (goneN K s.asq : Int)), u211, .int .i64 0, .int .i64 K.peer, .int .i64 K.in0, .int .i64 K.next, .bool K.owes] := hk226; clear hk226
          have hz229 := hg228.size
          refine dr_done (by kernel_rfl) ?_
          refine co_then ?_
          have hAA : A.first = K.first + (goneN K s.asq : Int) ∧ A.q = (K.q.drop (goneN K s.asq)) ∧ A.told = 0 := (by rw [ack_y hA (by omega)]; refine ⟨rfl, rfl, ?_⟩; show max (K.told - (goneN K s.asq : Int)) 0 = _; omega)
          have hcA := ackT_c K s; rw [← hA] at hcA
          have hr230 := row_kept_at hr210 hg228 (own_neT hr210 hkA208' (by decide))
          have hk231 := hk217.kept hg228 (by simp; omega)
          have hB232 := fbU_at hB216 hg228 (fun hlt => by rcases hSb with hq | hq; exact hq; omega)
          exact ⟨u211, h224.sub ⟨rfl, rfl, (slot_eq rfl (by first | rfl | (congr 1; symm; first | (simp; done) | (simp; omega)))), trivial⟩, (InS.low hr230 (by omega)), (own_neT hr230 hk226' (by decide)), (by rw [hcA.1, hcA.2.1, hAA.1, hAA.2.2, hcA.2.2.1, hcA.2.2.2.1, hcA.2.2.2.2.1, hcA.2.2.2.2.2]; exact hk226'), (row_eq (row_lows hr230 (Nat.zero_le _)) hAA.2.1.symm), hk231, hB232⟩
         ·
          refine dk 12 (v := .int .i64 (K.told - (goneN K s.asq : Int))) h219 rfl rfl ⟨hB216, hk217⟩ (fun x hx => (rn_max1 rfl rfl rfl rfl (by omega))) fun a233 h233 => ?_; clear h219
          refine dk0 13 (v := pt b 0) h233 rfl rfl ⟨hB216, hk217⟩ fun a234 h234 => ?_; clear h233
          refine dk0 14 (v := pt b 4) h234 rfl rfl ⟨hB216, hk217⟩ fun a235 h235 => ?_; clear h234
          refine d1D 15 h235 rfl rfl (op_store1 rfl rfl rfl rfl Try.sizeOf3 hkA208' rfl) ?_ ?_; clear h235
          ·
           rintro _ w237 ⟨hk238, hz239, hg240⟩
           have hk238' : Blk w237 b 102 #[.int .i64 K.boot, .int .i64 K.stream, .int .i64 (K.first + (goneN K s.asq : Int)), u211, .int .i64 (K.told - (goneN K s.asq : Int)), .int .i64 K.peer, .int .i64 K.in0, .int .i64 K.next, .bool K.owes] := hk238; clear hk238
           have hz241 := hg240.size
           have hB242 := fbU_at hB216 hg240 (fun hlt => by rcases hSb with hq | hq; exact hq; omega)
           have hk243 := hk217.kept hg240 (by simp; omega)
           exact ⟨hB242, hk243⟩
          rintro _ w237 a236 ⟨hk238, hz239, hg240⟩ h236
          have hk238' : Blk w237 b 102 #[.int .i64 K.boot, .int .i64 K.stream, .int .i64 (K.first + (goneN K s.asq : Int)), u211, .int .i64 (K.told - (goneN K s.asq : Int)), .int .i64 K.peer, .int .i64 K.in0, .int .i64 K.next, .bool K.owes] := hk238; clear hk238
          have hz241 := hg240.size
          refine dr_done (by kernel_rfl) ?_
          refine co_then ?_
          have hAA : A.first = K.first + (goneN K s.asq : Int) ∧ A.q = (K.q.drop (goneN K s.asq)) ∧ A.told = K.told - (goneN K s.asq : Int) := (by rw [ack_y hA (by omega)]; refine ⟨rfl, rfl, ?_⟩; show max (K.told - (goneN K s.asq : Int)) 0 = _; omega)
          have hcA := ackT_c K s; rw [← hA] at hcA
          have hr242 := row_kept_at hr210 hg240 (own_neT hr210 hkA208' (by decide))
          have hk243 := hk217.kept hg240 (by simp; omega)
          have hB244 := fbU_at hB216 hg240 (fun hlt => by rcases hSb with hq | hq; exact hq; omega)
          exact ⟨u211, h236.sub ⟨rfl, rfl, (slot_eq rfl (by first | rfl | (congr 1; symm; first | (simp; done) | (simp; omega)))), trivial⟩, (InS.low hr242 (by omega)), (own_neT hr242 hk238' (by decide)), (by rw [hcA.1, hcA.2.1, hAA.1, hAA.2.2, hcA.2.2.1, hcA.2.2.2.1, hcA.2.2.2.2.1, hcA.2.2.2.2.2]; exact hk238'), (row_eq (row_lows hr242 (Nat.zero_le _)) hAA.2.1.symm), hk243, hB244⟩
   rintro a245 w246 ⟨u2, h245, hi247, hi248, hf249, hf250, hf251, hB252⟩
   have hz253 := hB252.size
   have hl254 := hf249.lt
   have hl255 := hf251.lt
   have hI2 := hi247
   have hn2 := hi248
   have hAok : LnOk A := hA ▸ ackT_ok hKok hm
   have hcA := ackT_c K s; rw [← hA] at hcA
   have hAn := hAok.next
   refine co_seq ?_
   refine co_seq ?_
   refine co_reg ?_
   refine pk0 (v := pt N3 6) h245 rfl fun a256 h256 => ?_; clear h245
   refine pk (v := .bool s.has) h256 rfl (rn_load1 rfl rfl Try.isAgg4 (hf251.cell rfl)) fun a257 h257 => ?_; clear h256
   cases hc258 : (s.has)
   ·
    rw [hc258] at h257
    refine pk0 (v := .bool true) h257 rfl fun a259 h259 => ?_; clear h257
    refine pl_nil ?_
    refine co_then ?_
    refine co_true h259 rfl ?_
    refine co_seq ?_
    refine co_reg ?_
    refine pk0 (v := .slice none 0 0) h259 rfl fun a260 h260 => ?_; clear h259
    refine pk0 (v := .int .i64 0) h260 rfl fun a261 h261 => ?_; clear h260
    refine pl_nil ?_
    refine co_then ?_
    refine wp_ret ?_
    refine co_thenR ?_
    refine co_ret2 h261 rfl rfl rfl ?_
    have hE : inT L s = ([], 0, A) := inT_c hm (by omega) (hA.trans (by rw [hK])) (by simp_all)
    rw [hE]
    have hok2 : LnOk A := by have h := inT_ok hok s; rw [hE] at h; exact h
    have hbl : Blk w246 b 102 (lnC A u2) := hf249
    obtain ⟨S', hq1, hq2, hq3⟩ := LkU.row3 (L' := A) hU hbl hf250 hI2 (own_neT hf250 hf249 (by decide)) hB252 hok2
    exact ⟨_, _, rfl, ⟨S', hq1, hq2, World.ownsRow_nil _ _ _ _, by simp [Value.ownBlock]⟩, hB252⟩
   ·
    rw [hc258] at h257
    refine pk0 (v := .bool false) h257 rfl fun a262 h262 => ?_; clear h257
    refine pl_nil ?_
    refine co_then ?_
    refine co_false h262 rfl ?_
    refine wp_skip ?_
    refine co_then ?_
    refine co_seq ?_
    refine co_reg ?_
    refine pk0 (v := pt b 0) h262 rfl fun a263 h263 => ?_; clear h262
    refine pk0 (v := pt b 0) h263 rfl fun a264 h264 => ?_; clear h263
    refine pk0 (v := pt b 8) h264 rfl fun a265 h265 => ?_; clear h264
    refine pwD h265 rfl (op_store1 rfl rfl rfl rfl Try.sizeOf4 hf249 rfl) ?_; clear h265
    rintro _ w267 a266 ⟨hk268, hz269, hg270⟩ h266
    have hk268' : Blk w267 b 102 #[.int .i64 A.boot, .int .i64 A.stream, .int .i64 A.first, u2, .int .i64 A.told, .int .i64 A.peer, .int .i64 A.in0, .int .i64 A.next, .bool true] := hk268; clear hk268
    have hz271 := hg270.size
    refine pl_nil ?_
    refine co_then ?_
    refine co_seq ?_
    refine co_seq ?_
    refine dr_eq (by kernel_rfl) (fun w272 hg273 => ?_)
    have hz274 := hg273.size
    refine dk0 0 (v := .bool (s.ab == K.boot)) h266 rfl rfl rfl fun a275 h275 => ?_; clear h266
    have hB277 := fbU_at hB252 hg270 (fun hlt => by rcases hSb with hq | hq; exact hq; omega)
    have hB278 := fbU_new hB277 hg273
    have hr279 := row_kept_at hf250 hg270 (hn2)
    have hr280 := row_kept_new hr279 hg273
    have hk281 := hf251.kept hg270 (by simp; omega)
    have hk282 := hk281.kept hg273 (by simp)
    cases hc276 : (s.ab == K.boot)
    ·
     rw [hc276] at h275
     refine dk0 1 (v := .bool true) h275 rfl rfl rfl fun a283 h283 => ?_; clear h275
     refine dk0 2 (v := .bool true) h283 rfl rfl rfl fun a284 h284 => ?_; clear h283
     refine dsk 3 h284 rfl rfl rfl fun a285 h285 => ?_; clear h284
     refine dsk 4 h285 rfl rfl rfl fun a286 h286 => ?_; clear h285
     refine dsk 5 h286 rfl rfl rfl fun a287 h287 => ?_; clear h286
     refine dsk 6 h287 rfl rfl rfl fun a288 h288 => ?_; clear h287
     refine dsk 7 h288 rfl rfl rfl fun a289 h289 => ?_; clear h288
     refine dsk 8 h289 rfl rfl rfl fun a290 h290 => ?_; clear h289
     refine dsk 9 h290 rfl rfl rfl fun a291 h291 => ?_; clear h290
     refine dk0 10 (v := .bool true) h291 rfl rfl rfl fun a292 h292 => ?_; clear h291
     refine dk0 11 (v := .bool true) h292 rfl rfl rfl fun a293 h293 => ?_; clear h292
     refine dsk 12 h293 rfl rfl rfl fun a294 h294 => ?_; clear h293
     refine dsk 13 h294 rfl rfl rfl fun a295 h295 => ?_; clear h294
     refine dsk 14 h295 rfl rfl rfl fun a296 h296 => ?_; clear h295
     refine dsk 15 h296 rfl rfl rfl fun a297 h297 => ?_; clear h296
     refine dsk 16 h297 rfl rfl rfl fun a298 h298 => ?_; clear h297
     refine dsk 17 h298 rfl rfl rfl fun a299 h299 => ?_; clear h298
     refine dsk 18 h299 rfl rfl rfl fun a300 h300 => ?_; clear h299
     refine dk0 19 (v := .bool true) h300 rfl rfl rfl fun a301 h301 => ?_; clear h300
     refine dr_done (by kernel_rfl) ?_
     refine co_then ?_
     refine co_true h301 rfl ?_
     refine co_seq ?_
     refine co_reg ?_
     refine pk0 (v := .slice none 0 0) h301 rfl fun a302 h302 => ?_; clear h301
     refine pk0 (v := .int .i64 0) h302 rfl fun a303 h303 => ?_; clear h302
     refine pl_nil ?_
     refine co_then ?_
     refine wp_ret ?_
     refine co_thenR ?_
     refine co_ret2 h303 rfl rfl rfl ?_
     have hk304 := hk268'.kept hg273 (by simp)
     have hE : inT L s = ([], 0, { A with owes := true }) := inT_d hm (by omega) (hA.trans (by rw [hK])) (by simp_all) (by first | omega | (simp only [beq_iff_eq, beq_eq_false_iff_ne, ne_eq] at *; omega))
     rw [hE]
     have hok2 : LnOk ({ A with owes := true }) := by have h := inT_ok hok s; rw [hE] at h; exact h
     have hbl : Blk w272 b 102 (lnC ({ A with owes := true }) u2) := hk304
     obtain ⟨S', hq1, hq2, hq3⟩ := LkU.row3 (L' := { A with owes := true }) hU hbl hr280 hI2 (own_neT hr280 hk304 (by decide)) hB278 hok2
     exact ⟨_, _, rfl, ⟨S', hq1, hq2, World.ownsRow_nil _ _ _ _, by simp [Value.ownBlock]⟩, hB278⟩
    ·
     rw [hc276] at h275
     refine dk0 1 (v := .bool false) h275 rfl rfl rfl fun a305 h305 => ?_; clear h275
     refine dk0 2 (v := .bool false) h305 rfl rfl rfl fun a306 h306 => ?_; clear h305
     refine dk0 3 (v := pt N3 1) h306 rfl rfl rfl fun a307 h307 => ?_; clear h306
     refine dk 4 (v := .int .i64 s.stream) h307 rfl rfl rfl (fun x hx => by subst hx; exact (rn_load1 rfl rfl Try.isAgg3 (hk282.cell rfl))) fun a308 h308 => ?_; clear h307
     refine dk0 5 (v := pt b 0) h308 rfl rfl rfl fun a309 h309 => ?_; clear h308
     refine dk0 6 (v := pt b 0) h309 rfl rfl rfl fun a310 h310 => ?_; clear h309
     refine dk0 7 (v := pt b 6) h310 rfl rfl rfl fun a311 h311 => ?_; clear h310
     have hk312 := hk268'.kept hg273 (by simp)
     refine dk 8 (v := .int .i64 A.in0) h311 rfl rfl rfl (fun x hx => by subst hx; exact (rn_load1 rfl rfl Try.isAgg3 (hk312.cell rfl))) fun a313 h313 => ?_; clear h311
     refine dk0 9 (v := .bool (s.stream != A.in0)) h313 rfl rfl rfl fun a314 h314 => ?_; clear h313
     refine dk0 10 (v := .bool (s.stream != A.in0)) h314 rfl rfl rfl fun a315 h315 => ?_; clear h314
     refine dk0 11 (v := .bool (s.stream != A.in0)) h315 rfl rfl rfl fun a316 h316 => ?_; clear h315
     cases hc317 : (s.stream != A.in0)
     ·
      rw [hc317] at h316
      have hp318 : ¬ (s.stream ≠ A.in0) := by first | simpa using hc317 | simpa [and_assoc] using hc317
      clear hc317
      refine dk0 12 (v := pt N3 2) h316 rfl rfl rfl fun a319 h319 => ?_; clear h316
      refine dk 13 (v := .int .i64 s.seq) h319 rfl rfl rfl (fun x hx => by subst hx; exact (rn_load1 rfl rfl Try.isAgg3 (hk282.cell rfl))) fun a320 h320 => ?_; clear h319
      refine dk0 14 (v := pt b 0) h320 rfl rfl rfl fun a321 h321 => ?_; clear h320
      refine dk0 15 (v := pt b 0) h321 rfl rfl rfl fun a322 h322 => ?_; clear h321
      refine dk0 16 (v := pt b 7) h322 rfl rfl rfl fun a323 h323 => ?_; clear h322
      refine dk 17 (v := .int .i64 A.next) h323 rfl rfl rfl (fun x hx => by subst hx; exact (rn_load1 rfl rfl Try.isAgg3 (hk312.cell rfl))) fun a324 h324 => ?_; clear h323
      refine dk0 18 (v := .bool (s.seq != A.next)) h324 rfl rfl rfl fun a325 h325 => ?_; clear h324
      refine dk0 19 (v := .bool (s.seq != A.next)) h325 rfl rfl rfl fun a326 h326 => ?_; clear h325
      refine dr_done (by kernel_rfl) ?_
      refine co_then ?_
      cases hc327 : (s.seq != A.next)
      ·
       rw [hc327] at h326
       have hp328 : ¬ (s.seq ≠ A.next) := by first | simpa using hc327 | simpa [and_assoc] using hc327
       clear hc327
       refine co_false h326 rfl ?_
       refine wp_skip ?_
       refine co_then ?_
       refine co_seq ?_
       refine co_reg ?_
       refine pk0 (v := pt b 0) h326 rfl fun a329 h329 => ?_; clear h326
       refine pk0 (v := pt b 0) h329 rfl fun a330 h330 => ?_; clear h329
       refine pk0 (v := pt b 7) h330 rfl fun a331 h331 => ?_; clear h330
       refine pk (v := .int .i64 A.next) h331 rfl (rn_load1 rfl rfl Try.isAgg3 (hk312.cell rfl)) fun a332 h332 => ?_; clear h331
       refine pk (v := .int .i64 (A.next + 1)) h332 rfl (rn_arith rfl rfl rfl rfl rfl rfl (IntWalk.i64_in _ (by omega))) fun a333 h333 => ?_; clear h332
       refine pk0 (v := pt b 0) h333 rfl fun a334 h334 => ?_; clear h333
       refine pk0 (v := pt b 7) h334 rfl fun a335 h335 => ?_; clear h334
       refine pwD h335 rfl (op_store1 rfl rfl rfl rfl Try.sizeOf3 hk312 rfl) ?_; clear h335
       rintro _ w337 a336 ⟨hk338, hz339, hg340⟩ h336
       have hk338' : Blk w337 b 102 #[.int .i64 A.boot, .int .i64 A.stream, .int .i64 A.first, u2, .int .i64 A.told, .int .i64 A.peer, .int .i64 A.in0, .int .i64 (A.next + 1), .bool true] := hk338; clear hk338
       have hz341 := hg340.size
       refine pl_nil ?_
       refine co_then ?_
       refine co_seq ?_
       refine co_reg ?_
       refine pk0 (v := pt N3 7) h336 rfl fun a342 h342 => ?_; clear h336
       have hk343 := hk282.kept hg340 (by simp; omega)
       refine pk (v := .string s.body) h342 rfl (rn_load1 rfl rfl Try.isAgg9 (hk343.cell rfl)) fun a344 h344 => ?_; clear h342
       refine pw h344 rfl (op_new (v := fun N => .slice (some ⟨N, 0, none⟩) 1 1) (T := 9) (cs := #[.string s.body]) (by kernel_rfl) (by kernel_rfl) (by kernel_rfl)) ?_; clear h344
       rintro _ w346 a345 ⟨N347, rfl, hN350, hz351, hk349, hg348⟩ h345
       have hr353 := row_kept_at hr280 hg340 (hn2)
       have ha352 := row_fresh hr353 hN350
       have hu354 := row_under hr353 hN350
       have hz355 := hg348.size
       try dsimp only at h345
       refine pk0 (v := .slice (some ⟨N347, 0, none⟩) 1 1) h345 rfl fun a356 h356 => ?_; clear h345
       refine pk0 (v := .int .i64 0) h356 rfl fun a357 h357 => ?_; clear h356
       refine pl_nil ?_
       refine co_then ?_
       refine wp_ret ?_
       refine co_ret2 h357 rfl rfl rfl ?_
       have hr358 := row_kept_new hr353 hg348
       have hk359 := hk338'.kept hg348 (by simp)
       have hB360 := fbU_at hB278 hg340 (fun hlt => by rcases hSb with hq | hq; exact hq; omega)
       have hB361 := fbU_new hB360 hg348
       have hE : inT L s = ([s.body], 0, { A with owes := true, next := A.next + 1 }) := inT_e hm (by omega) (hA.trans (by rw [hK])) (by simp_all) (by first | omega | (simp only [beq_iff_eq, beq_eq_false_iff_ne, ne_eq] at *; omega))
       rw [hE]
       have hok2 : LnOk ({ A with owes := true, next := A.next + 1 }) := by have h := inT_ok hok s; rw [hE] at h; exact h
       have hbl : Blk w346 b 102 (lnC ({ A with owes := true, next := A.next + 1 }) u2) := hk359
       obtain ⟨S', hq1, hq2, hq3⟩ := LkU.row3 (L' := { A with owes := true, next := A.next + 1 }) hU hbl hr358 hI2 (own_neT hr358 hk359 (by decide)) hB361 hok2
       have hrv := row_of_cells (enc := strE) (sz := 1) ([s.body] : List ByteArray) hk349 (Nat.le_refl _) rfl rfl (by unfold maxLen; simp)
       exact ⟨_, _, rfl, ⟨S', hq1, hq2, row_lows hrv (by omega), fun i hi => by simp only [Value.ownBlock, Option.some.injEq] at hi; subst hi; exact hq3 _ (by omega) ha352⟩, hB361⟩
      ·
       rw [hc327] at h326
       have hp362 : s.seq ≠ A.next := by first | simpa using hc327 | simpa [and_assoc] using hc327
       clear hc327
       refine co_true h326 rfl ?_
       refine co_seq ?_
       refine co_reg ?_
       refine pk0 (v := .slice none 0 0) h326 rfl fun a363 h363 => ?_; clear h326
       refine pk0 (v := .int .i64 0) h363 rfl fun a364 h364 => ?_; clear h363
       refine pl_nil ?_
       refine co_then ?_
       refine wp_ret ?_
       refine co_thenR ?_
       refine co_ret2 h364 rfl rfl rfl ?_
       have hE : inT L s = ([], 0, { A with owes := true }) := inT_d hm (by omega) (hA.trans (by rw [hK])) (by simp_all) (by first | omega | (simp only [beq_iff_eq, beq_eq_false_iff_ne, ne_eq] at *; omega))
       rw [hE]
       have hok2 : LnOk ({ A with owes := true }) := by have h := inT_ok hok s; rw [hE] at h; exact h
       have hbl : Blk w272 b 102 (lnC ({ A with owes := true }) u2) := hk312
       obtain ⟨S', hq1, hq2, hq3⟩ := LkU.row3 (L' := { A with owes := true }) hU hbl hr280 hI2 (own_neT hr280 hk312 (by decide)) hB278 hok2
       exact ⟨_, _, rfl, ⟨S', hq1, hq2, World.ownsRow_nil _ _ _ _, by simp [Value.ownBlock]⟩, hB278⟩
     ·
      rw [hc317] at h316
      have hp365 : s.stream ≠ A.in0 := by first | simpa using hc317 | simpa [and_assoc] using hc317
      clear hc317
      refine dsk 12 h316 rfl rfl rfl fun a366 h366 => ?_; clear h316
      refine dsk 13 h366 rfl rfl rfl fun a367 h367 => ?_; clear h366
      refine dsk 14 h367 rfl rfl rfl fun a368 h368 => ?_; clear h367
      refine dsk 15 h368 rfl rfl rfl fun a369 h369 => ?_; clear h368
      refine dsk 16 h369 rfl rfl rfl fun a370 h370 => ?_; clear h369
      refine dsk 17 h370 rfl rfl rfl fun a371 h371 => ?_; clear h370
      refine dsk 18 h371 rfl rfl rfl fun a372 h372 => ?_; clear h371
      refine dk0 19 (v := .bool true) h372 rfl rfl rfl fun a373 h373 => ?_; clear h372
      refine dr_done (by kernel_rfl) ?_
      refine co_then ?_
      refine co_true h373 rfl ?_
      refine co_seq ?_
      refine co_reg ?_
      refine pk0 (v := .slice none 0 0) h373 rfl fun a374 h374 => ?_; clear h373
      refine pk0 (v := .int .i64 0) h374 rfl fun a375 h375 => ?_; clear h374
      refine pl_nil ?_
      refine co_then ?_
      refine wp_ret ?_
      refine co_thenR ?_
      refine co_ret2 h375 rfl rfl rfl ?_
      have hE : inT L s = ([], 0, { A with owes := true }) := inT_d hm (by omega) (hA.trans (by rw [hK])) (by simp_all) (by first | omega | (simp only [beq_iff_eq, beq_eq_false_iff_ne, ne_eq] at *; omega))
      rw [hE]
      have hok2 : LnOk ({ A with owes := true }) := by have h := inT_ok hok s; rw [hE] at h; exact h
      have hbl : Blk w272 b 102 (lnC ({ A with owes := true }) u2) := hk312
      obtain ⟨S', hq1, hq2, hq3⟩ := LkU.row3 (L' := { A with owes := true }) hU hbl hr280 hI2 (own_neT hr280 hk312 (by decide)) hB278 hok2
      exact ⟨_, _, rfl, ⟨S', hq1, hq2, World.ownsRow_nil _ _ _ _, by simp [Value.ownBlock]⟩, hB278⟩
  ·
   rw [hc47] at h46
   have hp376 : s.boot < L.peer := of_decide_eq_true hc47
   clear hc47
   refine co_true h46 rfl ?_
   refine co_seq ?_
   refine co_reg ?_
   refine pk0 (v := .slice none 0 0) h46 rfl fun a377 h377 => ?_; clear h46
   refine pk0 (v := .int .i64 0) h377 rfl fun a378 h378 => ?_; clear h377
   refine pl_nil ?_
   refine co_then ?_
   refine wp_ret ?_
   refine co_thenR ?_
   refine co_ret2 h378 rfl rfl rfl ?_
   have hr379 := row_kept_new hr27 hg34
   have hE := (inT_b (by first | assumption | exact may_yes (bn_6 (by assumption) (by omega)) (by omega)) (by omega) : inT L s = ([], 0, L))
   rw [hE]
   exact ⟨u, _, rfl, ⟨S, (LkU.same' hU hB48 hk44 hr379).1, (LkU.same' hU hB48 hk44 hr379).2, World.ownsRow_nil _ _ _ _, by simp [Value.ownBlock]⟩, hB48⟩
end Go.Proofs.Ythmljllgfigebaa
