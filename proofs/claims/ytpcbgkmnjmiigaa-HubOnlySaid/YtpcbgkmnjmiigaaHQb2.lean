/- Put together: LinkFHQa, LinkK0HQa, RfHQa, LinkGHQa, LinkHHQa, LinkIHQa, LinkJHQa, LinkLHQa, LinkMpHQa, LinkMHQa, HubAHQa, VnAHQa, WireAHQa, WireBHQa, WireCHQa, WireDHQa, WireEHQa, WireFHQa, VnBHQa, WireGHQa, WireHHQa, WireIHQa, StrOpsHQa. Conditions: as each says. -/
import Derived.Test.YtpcbgkmnjmiigaaHQb1
import Derived.RangeFuncNested
import Derived.RangeFuncBound
import Derived.RangeFuncCalls
import Derived.RangeFuncLeaves
import Derived.RangeFuncBox
import Derived.Shelf.Abstract
import Derived.Shelf.RegionOpen
import Derived.WalkKit
import Derived.OwnWalkIn
import Derived.TacticsInMore
import Derived.LoopNIn
import Derived.LoopIn
import Derived.ScopeJumps
import Derived.Defers
import Derived.Recover
import Derived.Laws.Pointers
import Derived.WalkLawsBesides
import Derived.Laws.BytesArg
import Derived.Deep.QuietTactic
import Derived.BigQuiet
import Derived.Deep.RegionHeld3
import Derived.Laws.Concat
/- Package link: may, In. Conditions: none. -/
namespace Go.Proofs.Ytpcbgkmnjmiigaa
open Go.RowKit Go.PlainAid
set_option linter.unusedVariables false


set_option maxRecDepth 100000 in
set_option maxHeartbeats 3200000 in
theorem lkMay_any (s : SegT) (w : World) : Calls Try.prog 54 #[segV s] w fun e w' => e = .returned (.bool (mayT s)) ∧ Below w.heap.size w w' := by
  obtain ⟨N, hN⟩ : ∃ N, N = w.heap.size := ⟨_, rfl⟩
  have hb : Blk (w.alloc (.cells #[.int .i64 s.boot, .int .i64 s.stream, .int .i64 s.seq, .int .i64 s.ab, .int .i64 s.ast, .int .i64 s.asq, .bool s.has, .string s.body] 73)) N 73 #[.int .i64 s.boot, .int .i64 s.stream, .int .i64 s.seq, .int .i64 s.ab, .int .i64 s.ast, .int .i64 s.asq, .bool s.has, .string s.body] := by rw [hN]; exact World.alloc_heap_new w _
  have hB0 : Below w.heap.size w (w.alloc (.cells #[.int .i64 s.boot, .int .i64 s.stream, .int .i64 s.seq, .int .i64 s.ab, .int .i64 s.ast, .int .i64 s.asq, .bool s.has, .string s.body] 73)) := (Below.refl _ w).alloc (Nat.le_refl _) _
  have c0 := hb.cell (k := 0) rfl; have c1 := hb.cell (k := 1) rfl; have c2 := hb.cell (k := 2) rfl; have c3 := hb.cell (k := 3) rfl; have c4 := hb.cell (k := 4) rfl; have c5 := hb.cell (k := 5) rfl
  have HC := Lib.hid hb; have HB0 := Lib.hid hB0; clear hb hB0
  have ix0 : ∀ w : World, (Instr.index 132 (.agg #[.int .i64 s.boot, .int .i64 s.stream, .int .i64 s.seq, .int .i64 s.ab, .int .i64 s.ast, .int .i64 s.asq]) (.int .i64 0)).run Try.prog w = .ok (.int .i64 s.boot) w := fun w => by kernel_rfl
  have ix1 : ∀ w : World, (Instr.index 132 (.agg #[.int .i64 s.boot, .int .i64 s.stream, .int .i64 s.seq, .int .i64 s.ab, .int .i64 s.ast, .int .i64 s.asq]) (.int .i64 1)).run Try.prog w = .ok (.int .i64 s.stream) w := fun w => by kernel_rfl
  have ix2 : ∀ w : World, (Instr.index 132 (.agg #[.int .i64 s.boot, .int .i64 s.stream, .int .i64 s.seq, .int .i64 s.ab, .int .i64 s.ast, .int .i64 s.asq]) (.int .i64 2)).run Try.prog w = .ok (.int .i64 s.seq) w := fun w => by kernel_rfl
  have ix3 : ∀ w : World, (Instr.index 132 (.agg #[.int .i64 s.boot, .int .i64 s.stream, .int .i64 s.seq, .int .i64 s.ab, .int .i64 s.ast, .int .i64 s.asq]) (.int .i64 3)).run Try.prog w = .ok (.int .i64 s.ab) w := fun w => by kernel_rfl
  have ix4 : ∀ w : World, (Instr.index 132 (.agg #[.int .i64 s.boot, .int .i64 s.stream, .int .i64 s.seq, .int .i64 s.ab, .int .i64 s.ast, .int .i64 s.asq]) (.int .i64 4)).run Try.prog w = .ok (.int .i64 s.ast) w := fun w => by kernel_rfl
  have ix5 : ∀ w : World, (Instr.index 132 (.agg #[.int .i64 s.boot, .int .i64 s.stream, .int .i64 s.seq, .int .i64 s.ab, .int .i64 s.ast, .int .i64 s.asq]) (.int .i64 5)).run Try.prog w = .ok (.int .i64 s.asq) w := fun w => by kernel_rfl
  go_enter Try.func54, Try.ntmps54
  unfold segV
  rw [hN] at c0 c1 c2 c3 c4 c5 HC
  go_wp2
  clear c0 c1 c2 c3 c4 c5
  go_loopg [18] 7 (fun g s18 wr => ∃ i : Nat, s18 = .int .i64 i ∧ i ≤ 6 ∧ 7 ≤ i + g ∧ bn s i = true ∧ Hid (Below w.heap.size w wr) ∧ Hid (Blk wr w.heap.size 73 #[.int .i64 s.boot, .int .i64 s.stream, .int .i64 s.seq, .int .i64 s.ab, .int .i64 s.ast, .int .i64 s.asq, .bool s.has, .string s.body]))
  case atStart => exact ⟨0, rfl, by omega, by omega, rfl, HB0, HC⟩
  case round =>
    obtain ⟨i, rfl, hi, hg, hbn, HB, HC⟩ := hrel
    have h7 : i = 6 ∨ i = 0 ∨ i = 1 ∨ i = 2 ∨ i = 3 ∨ i = 4 ∨ i = 5 := by omega
    rcases h7 with h | h | h | h | h | h | h
    · obtain rfl : i = 6 := h
      have c0 := HC.out.cell (k := 0) rfl
      go_wp2
      go_ret
      refine ⟨?_, HB.out⟩
      by_cases h0 : s.boot = 0
      · rw [may_zero h0, h0]; rfl
      · rw [may_yes hbn h0]; simp [h0]
    · obtain rfl : i = 0 := by omega
      have e0 : (l6 s)[0]? = some s.boot := rfl
      by_cases q1 : s.boot < 0
      · have d1 : decide (s.boot < 0) = true := decide_eq_true q1
        go_wp2
        go_ret
        exact ⟨by rw [may_out e0 (.inl q1)]; rfl, HB.out⟩
      · have d1 : decide (s.boot < 0) = false := decide_eq_false q1
        by_cases q2 : s.boot > 1073741824
        · have d2 : decide (s.boot > 1073741824) = true := decide_eq_true q2
          go_wp2
          go_ret
          exact ⟨by rw [may_out e0 (.inr q2)]; rfl, HB.out⟩
        · have d2 : decide (s.boot > 1073741824) = false := decide_eq_false q2
          go_wp2
          go_roundg (gk - 1)
          case rel => exact ⟨1, rfl, by omega, by omega, bn_step hbn e0 (by omega), HB, HC⟩
          case measure => omega
    · obtain rfl : i = 1 := by omega
      have e1 : (l6 s)[1]? = some s.stream := rfl
      by_cases q1 : s.stream < 0
      · have d1 : decide (s.stream < 0) = true := decide_eq_true q1
        go_wp2
        go_ret
        exact ⟨by rw [may_out e1 (.inl q1)]; rfl, HB.out⟩
      · have d1 : decide (s.stream < 0) = false := decide_eq_false q1
        by_cases q2 : s.stream > 1073741824
        · have d2 : decide (s.stream > 1073741824) = true := decide_eq_true q2
          go_wp2
          go_ret
          exact ⟨by rw [may_out e1 (.inr q2)]; rfl, HB.out⟩
        · have d2 : decide (s.stream > 1073741824) = false := decide_eq_false q2
          go_wp2
          go_roundg (gk - 1)
          case rel => exact ⟨2, rfl, by omega, by omega, bn_step hbn e1 (by omega), HB, HC⟩
          case measure => omega
    · obtain rfl : i = 2 := by omega
      have e2 : (l6 s)[2]? = some s.seq := rfl
      by_cases q1 : s.seq < 0
      · have d1 : decide (s.seq < 0) = true := decide_eq_true q1
        go_wp2
        go_ret
        exact ⟨by rw [may_out e2 (.inl q1)]; rfl, HB.out⟩
      · have d1 : decide (s.seq < 0) = false := decide_eq_false q1
        by_cases q2 : s.seq > 1073741824
        · have d2 : decide (s.seq > 1073741824) = true := decide_eq_true q2
          go_wp2
          go_ret
          exact ⟨by rw [may_out e2 (.inr q2)]; rfl, HB.out⟩
        · have d2 : decide (s.seq > 1073741824) = false := decide_eq_false q2
          go_wp2
          go_roundg (gk - 1)
          case rel => exact ⟨3, rfl, by omega, by omega, bn_step hbn e2 (by omega), HB, HC⟩
          case measure => omega
    · obtain rfl : i = 3 := by omega
      have e3 : (l6 s)[3]? = some s.ab := rfl
      by_cases q1 : s.ab < 0
      · have d1 : decide (s.ab < 0) = true := decide_eq_true q1
        go_wp2
        go_ret
        exact ⟨by rw [may_out e3 (.inl q1)]; rfl, HB.out⟩
      · have d1 : decide (s.ab < 0) = false := decide_eq_false q1
        by_cases q2 : s.ab > 1073741824
        · have d2 : decide (s.ab > 1073741824) = true := decide_eq_true q2
          go_wp2
          go_ret
          exact ⟨by rw [may_out e3 (.inr q2)]; rfl, HB.out⟩
        · have d2 : decide (s.ab > 1073741824) = false := decide_eq_false q2
          go_wp2
          go_roundg (gk - 1)
          case rel => exact ⟨4, rfl, by omega, by omega, bn_step hbn e3 (by omega), HB, HC⟩
          case measure => omega
    · obtain rfl : i = 4 := by omega
      have e4 : (l6 s)[4]? = some s.ast := rfl
      by_cases q1 : s.ast < 0
      · have d1 : decide (s.ast < 0) = true := decide_eq_true q1
        go_wp2
        go_ret
        exact ⟨by rw [may_out e4 (.inl q1)]; rfl, HB.out⟩
      · have d1 : decide (s.ast < 0) = false := decide_eq_false q1
        by_cases q2 : s.ast > 1073741824
        · have d2 : decide (s.ast > 1073741824) = true := decide_eq_true q2
          go_wp2
          go_ret
          exact ⟨by rw [may_out e4 (.inr q2)]; rfl, HB.out⟩
        · have d2 : decide (s.ast > 1073741824) = false := decide_eq_false q2
          go_wp2
          go_roundg (gk - 1)
          case rel => exact ⟨5, rfl, by omega, by omega, bn_step hbn e4 (by omega), HB, HC⟩
          case measure => omega
    · obtain rfl : i = 5 := by omega
      have e5 : (l6 s)[5]? = some s.asq := rfl
      by_cases q1 : s.asq < 0
      · have d1 : decide (s.asq < 0) = true := decide_eq_true q1
        go_wp2
        go_ret
        exact ⟨by rw [may_out e5 (.inl q1)]; rfl, HB.out⟩
      · have d1 : decide (s.asq < 0) = false := decide_eq_false q1
        by_cases q2 : s.asq > 1073741824
        · have d2 : decide (s.asq > 1073741824) = true := decide_eq_true q2
          go_wp2
          go_ret
          exact ⟨by rw [may_out e5 (.inr q2)]; rfl, HB.out⟩
        · have d2 : decide (s.asq > 1073741824) = false := decide_eq_false q2
          go_wp2
          go_roundg (gk - 1)
          case rel => exact ⟨6, rfl, by omega, by omega, bn_step hbn e5 (by omega), HB, HC⟩
          case measure => omega

set_option maxRecDepth 100000 in
set_option maxHeartbeats 1600000 in
theorem lkIn_any (S : Nat → Prop) (b : Nat) (u : Value) (L : LnT) (s : SegT) (w : World) (hU : LkU 90 S w b u L) :
    Calls Try.prog 31 #[pt b 0, .agg #[.int .i64 s.boot, .int .i64 s.stream, .int .i64 s.seq, .int .i64 s.ab, .int .i64 s.ast, .int .i64 s.asq, .bool s.has, .string s.body]] w fun e w' => ∃ (u' : Value) (v : Value), e = .returned (.tuple #[v, .int .i64 ((inT L s).2.1)]) ∧ (∃ S' : Nat → Prop, LkU 90 S' w' b u' (inT L s).2.2 ∧ Grew S S' w w' ∧ w'.ownsRow w.heap.size 9 1 v (inT L s).1.length ((inT L s).1.flatMap strE) ∧ ∀ i, v.ownBlock = some i → ¬ S' i) ∧ But (S) w w' := by
 obtain ⟨K, hK⟩ : ∃ K, K = knowT L s := ⟨_, rfl⟩
 obtain ⟨A, hA⟩ : ∃ A, A = ackT K s := ⟨_, rfl⟩
 have hB0 := But.refl (S) w
 obtain ⟨hB, ⟨B0, hR⟩, hSS, hbu, hok⟩ := id hU
 have hB : Blk w b 90 #[.int .i64 L.boot, .int .i64 L.stream, .int .i64 L.first, u, .int .i64 L.told, .int .i64 L.peer, .int .i64 L.in0, .int .i64 L.next, .bool L.owes] := hB
 have hl_B := hB.lt
 have hR := row_lows hR (Nat.zero_le _)
 have hsb : S b := (hSS b).2 (.inl rfl)
 have hSb : S b ∨ w.heap.size ≤ b := .inl hsb
 obtain ⟨⟨k1, k2⟩, ⟨k3, k4⟩, ⟨k5, k6⟩, ⟨k7, k8⟩, ⟨k9, k10⟩, ⟨k11, k12⟩, ⟨k13, k14⟩, k15, k16⟩ := id hok
 refine co_enter (n := 90) Try.func31 rfl rfl rfl [(0, pt b 0), (1, .agg #[.int .i64 s.boot, .int .i64 s.stream, .int .i64 s.seq, .int .i64 s.ab, .int .i64 s.ast, .int .i64 s.asq, .bool s.has, .string s.body])] rfl (fun a h0 => ?_)
 refine co_seq ?_
 refine co_reg ?_
 refine pw h0 rfl (op_new (v := fun N => pt N 0) (T := 73) (cs := #[.int .i64 s.boot, .int .i64 s.stream, .int .i64 s.seq, .int .i64 s.ab, .int .i64 s.ast, .int .i64 s.asq, .bool s.has, .string s.body]) (by kernel_rfl) (by kernel_rfl) (by kernel_rfl)) ?_; clear h0
 rintro _ w2 a1 ⟨N3, rfl, hN6, hz7, hk5, hg4⟩ h1
 have ha8 := row_fresh hR hN6
 have hu9 := row_under hR hN6
 have hz10 := hg4.size
 try dsimp only at h1
 refine pk0 (v := .slice none 0 0) h1 rfl fun a11 h11 => ?_; clear h1
 refine pk0 (v := .int .i64 0) h11 rfl fun a12 h12 => ?_; clear h11
 refine pl_nil ?_
 refine co_then ?_
 refine co_seq ?_
 refine co_seq ?_
 refine co_reg ?_
 refine pk0 (v := pt b 0) h12 rfl fun a13 h13 => ?_; clear h12
 have hk16 := hB.kept hg4 (by simp)
 refine pw h13 rfl (op_call (args := #[pt b 0]) (R := fun res xw => res = .bool false ∧ w2 = xw) rfl rfl rfl (by kernel_rfl) (by kernel_rfl) (Try.call37 _ _) (lkZero_blk b u _ w2 hk16 hok) (by rintro e x ⟨rfl, rfl⟩; exact ⟨_, rfl, ⟨rfl, rfl⟩⟩)) ?_; clear h13
 rintro _ _ a14 ⟨rfl, rfl⟩ h14
 refine pl_nil ?_
 refine co_then ?_
 refine co_false h14 rfl ?_
 refine wp_skip ?_
 refine co_then ?_
 refine co_seq ?_
 refine co_seq ?_
 refine co_reg ?_
 refine pk (v := .agg #[.int .i64 s.boot, .int .i64 s.stream, .int .i64 s.seq, .int .i64 s.ab, .int .i64 s.ast, .int .i64 s.asq, .bool s.has, .string s.body]) h14 rfl (rn_loadN rfl rfl Try.underlying73 rfl (by kernel_rfl) hk5.all) fun a18 h18 => ?_; clear h14
 have hB21 := fbU_new hB0 hg4
 refine pw h18 rfl (op_call (args := #[.agg #[.int .i64 s.boot, .int .i64 s.stream, .int .i64 s.seq, .int .i64 s.ab, .int .i64 s.ast, .int .i64 s.asq, .bool s.has, .string s.body]]) (R := fun res xw => res = .bool (mayT s) ∧ Below w2.heap.size w2 xw) rfl rfl rfl (by kernel_rfl) (by kernel_rfl) (Try.call54 _ _) (lkMay_any s w2) (by rintro e x ⟨rfl, h⟩; exact ⟨_, rfl, rfl, h⟩)) ?_; clear h18
 rintro _ w20 a19 ⟨rfl, hb22⟩ h19
 have hz23 := hb22.size
 have hB25 := fbU_call hB21 hb22
 have hr26 := row_kept_new hR hg4
 have hr27 := row_kept_new hr26 (below_grown hb22)
 cases hc24 : (mayT s)
 ·
  rw [hc24] at h19
  refine pk0 (v := .bool true) h19 rfl fun a28 h28 => ?_; clear h19
  refine pl_nil ?_
  refine co_then ?_
  refine co_true h28 rfl ?_
  refine co_seq ?_
  refine co_reg ?_
  refine pk0 (v := .slice none 0 0) h28 rfl fun a29 h29 => ?_; clear h28
  refine pk0 (v := .int .i64 1) h29 rfl fun a30 h30 => ?_; clear h29
  refine pl_nil ?_
  refine co_then ?_
  refine wp_ret ?_
  refine co_thenR ?_
  refine co_ret2 h30 rfl rfl rfl ?_
  have hk31 := hk16.below hb22
  have hE := (inT_a (by first | exact may_zero (by omega) | exact may_out (by assumption) (by omega) | assumption) : inT L s = ([], 1, L))
  rw [hE]
  exact ⟨u, _, rfl, ⟨S, (LkU.same' hU hB25 hk31 hr27).1, (LkU.same' hU hB25 hk31 hr27).2, World.ownsRow_nil _ _ _ _, by simp [Value.ownBlock]⟩, hB25⟩
 ·
  rw [hc24] at h19
  refine pk0 (v := .bool false) h19 rfl fun a32 h32 => ?_; clear h19
  refine pl_nil ?_
  refine co_then ?_
  refine co_false h32 rfl ?_
  refine wp_skip ?_
  refine co_then ?_
  refine co_seq ?_
  refine co_seq ?_
  refine dr_eq (by kernel_rfl) (fun w33 hg34 => ?_)
  have hz35 := hg34.size
  refine dk0 0 (v := pt N3 0) h32 rfl rfl rfl fun a36 h36 => ?_; clear h32
  have hk37 := hk5.below hb22
  have hk38 := hk37.kept hg34 (by simp)
  refine dk 1 (v := .int .i64 s.boot) h36 rfl rfl rfl (fun x hx => by subst hx; exact (rn_load1 rfl rfl Try.isAgg3 (hk38.cell rfl))) fun a39 h39 => ?_; clear h36
  refine dk0 2 (v := pt b 0) h39 rfl rfl rfl fun a40 h40 => ?_; clear h39
  refine dk0 3 (v := pt b 0) h40 rfl rfl rfl fun a41 h41 => ?_; clear h40
  refine dk0 4 (v := pt b 5) h41 rfl rfl rfl fun a42 h42 => ?_; clear h41
  have hk43 := hk16.below hb22
  have hk44 := hk43.kept hg34 (by simp)
  refine dk 5 (v := .int .i64 L.peer) h42 rfl rfl rfl (fun x hx => by subst hx; exact (rn_load1 rfl rfl Try.isAgg3 (hk44.cell rfl))) fun a45 h45 => ?_; clear h42
  refine dk0 6 (v := .bool (decide (s.boot < L.peer))) h45 rfl rfl rfl fun a46 h46 => ?_; clear h45
  refine dr_done (by kernel_rfl) ?_
  refine co_then ?_
  have hB48 := fbU_new hB25 hg34
  cases hc47 : (decide (s.boot < L.peer))
  ·
   rw [hc47] at h46
   have hp49 : ¬ (s.boot < L.peer) := of_decide_eq_false hc47
   clear hc47
   refine co_false h46 rfl ?_
   refine wp_skip ?_
   refine co_then ?_
   refine co_seq ?_
   refine co_reg ?_
   refine pk0 (v := pt b 0) h46 rfl fun a50 h50 => ?_; clear h46
   refine pk (v := .agg #[.int .i64 s.boot, .int .i64 s.stream, .int .i64 s.seq, .int .i64 s.ab, .int .i64 s.ast, .int .i64 s.asq, .bool s.has, .string s.body]) h50 rfl (rn_loadN rfl rfl Try.underlying73 rfl (by kernel_rfl) hk38.all) fun a51 h51 => ?_; clear h50
   have hm : mayT s = true := by assumption
   have hmI := mayT_iff.1 hm
   have hmq : 0 ≤ s.asq ∧ s.asq ≤ 1073741824 := hmI.2.2.2.2.2.1
   have hKok : LnOk K := hK ▸ knowT_ok hok hm
   obtain ⟨⟨m1, m2⟩, ⟨m3, m4⟩, ⟨m5, m6⟩, ⟨m7, m8⟩, ⟨m9, m10⟩, ⟨m11, m12⟩, ⟨m13, m14⟩, m15, m16⟩ := id hKok
   obtain ⟨hKq, hKb, hKo⟩ : K.q = L.q ∧ K.boot = L.boot ∧ K.owes = L.owes := hK ▸ knowT_q L s
   refine pw h51 rfl (op_call (args := #[pt b 0, .agg #[.int .i64 s.boot, .int .i64 s.stream, .int .i64 s.seq, .int .i64 s.ab, .int .i64 s.ast, .int .i64 s.asq, .bool s.has, .string s.body]]) (R := fun res xw => res = .tuple #[] ∧ Blk xw b 90 (lnC K u) ∧ But (fun q => q = b) w33 xw) rfl rfl rfl (by kernel_rfl) (by kernel_rfl) (Try.call55 _ _) (lkKnow_blk b u L s w33 hk44 hok ⟨by omega, by omega⟩) (by rintro e x ⟨rfl, h1, h2⟩; rw [← hK] at h1; exact ⟨_, rfl, rfl, h1, h2⟩)) ?_; clear h51
   rintro _ w53 a52 ⟨rfl, hkK54, hx55⟩ h52
   have hz56 := hx55.size
   have hkK54' : Blk w53 b 90 #[.int .i64 K.boot, .int .i64 K.stream, .int .i64 K.first, u, .int .i64 K.told, .int .i64 K.peer, .int .i64 K.in0, .int .i64 K.next, .bool K.owes] := hkK54
   have hr58 := row_kept_new hr27 hg34
   have hr59 := own_but hr58 hx55 (fun i hi hS => by (try simp at hS); subst hS; exact absurd hi (hbu))
   have hr57 := row_eq hr59 hKq.symm
   refine pl_nil ?_
   refine co_then ?_
   refine co_seq ?_
   refine dr_eq (by kernel_rfl) (fun w60 hg61 => ?_)
   have hz62 := hg61.size
   refine dk0 0 (v := pt N3 3) h52 rfl rfl rfl fun a63 h63 => ?_; clear h52
   have hk64 := hk38.but hx55 (by first | omega | (simp; omega))
   have hk65 := hk64.kept hg61 (by simp)
   refine dk 1 (v := .int .i64 s.ab) h63 rfl rfl rfl (fun x hx => by subst hx; exact (rn_load1 rfl rfl Try.isAgg3 (hk65.cell rfl))) fun a66 h66 => ?_; clear h63
   refine dk0 2 (v := pt b 0) h66 rfl rfl rfl fun a67 h67 => ?_; clear h66
   refine dk0 3 (v := pt b 0) h67 rfl rfl rfl fun a68 h68 => ?_; clear h67
   refine dk0 4 (v := pt b 0) h68 rfl rfl rfl fun a69 h69 => ?_; clear h68
   have hk70 := hkK54'.kept hg61 (by simp)
   refine dk 5 (v := .int .i64 K.boot) h69 rfl rfl rfl (fun x hx => by subst hx; exact (rn_load1 rfl rfl Try.isAgg3 (hk70.cell rfl))) fun a71 h71 => ?_; clear h69
   refine dk0 6 (v := .bool (s.ab == K.boot)) h71 rfl rfl rfl fun a72 h72 => ?_; clear h71
   refine dk0 7 (v := .bool (s.ab == K.boot)) h72 rfl rfl rfl fun a73 h73 => ?_; clear h72
   refine dr_done (by kernel_rfl) ?_
   refine co_then ?_
   have hB74 := fbU_foot hB48 hx55 (fun i hlt hS => by (try simp at hS); first | omega | (simp; omega) | simp_all)
   have hB75 := fbU_new hB74 hg61
   refine co_cut (fun a x => ∃ (u2 : Value), Slots 90 [(0, pt b 0), (3, pt N3 0), (6, .bool (s.ab == K.boot))] a ∧ (InS S w.heap.size u2) ∧ (u2.ownBlock ≠ some b) ∧ Blk x b 90 #[.int .i64 A.boot, .int .i64 A.stream, .int .i64 A.first, u2, .int .i64 A.told, .int .i64 A.peer, .int .i64 A.in0, .int .i64 A.next, .bool A.owes] ∧ x.ownsRow 0 9 1 u2 A.q.length (A.q.flatMap strE) ∧ Blk x N3 73 #[.int .i64 s.boot, .int .i64 s.stream, .int .i64 s.seq, .int .i64 s.ab, .int .i64 s.ast, .int .i64 s.asq, .bool s.has, .string s.body] ∧ But (S) w x) ?_ ?_
   ·
    refine co_seq ?_
    refine dr_eq (by kernel_rfl) (fun w76 hg77 => ?_)
    have hz78 := hg77.size
    refine dk0 0 (v := .bool (s.ab == K.boot)) h73 rfl rfl rfl fun a79 h79 => ?_; clear h73
    refine dk0 1 (v := .bool (s.ab == K.boot)) h79 rfl rfl rfl fun a80 h80 => ?_; clear h79
    have hB82 := fbU_new hB75 hg77
    have hr83 := row_kept_new hr57 hg61
    have hr84 := row_kept_new hr83 hg77
    cases hc81 : (s.ab == K.boot)
    ·
     rw [hc81] at h80
     have hp85 : ¬ (s.ab = K.boot) := by first | simpa using hc81 | simpa [and_assoc] using hc81
     clear hc81
     refine dsk 2 h80 rfl rfl rfl fun a86 h86 => ?_; clear h80
     refine dsk 3 h86 rfl rfl rfl fun a87 h87 => ?_; clear h86
     refine dsk 4 h87 rfl rfl rfl fun a88 h88 => ?_; clear h87
     refine dsk 5 h88 rfl rfl rfl fun a89 h89 => ?_; clear h88
     refine dsk 6 h89 rfl rfl rfl fun a90 h90 => ?_; clear h89
     refine dsk 7 h90 rfl rfl rfl fun a91 h91 => ?_; clear h90
     refine dsk 8 h91 rfl rfl rfl fun a92 h92 => ?_; clear h91
     refine dk0 9 (v := .bool false) h92 rfl rfl rfl fun a93 h93 => ?_; clear h92
     refine dr_done (by kernel_rfl) ?_
     refine co_then ?_
     refine co_false h93 rfl ?_
     refine wp_skip ?_
     refine co_then ?_
     have hAA : A.first = K.first ∧ A.q = K.q ∧ A.told = K.told := (by rw [ack_n hA hKok (by omega)]; exact ⟨rfl, rfl, rfl⟩)
     have hcA := ackT_c K s; rw [← hA] at hcA
     have hk94 := hk70.kept hg77 (by simp)
     have hk95 := hk65.kept hg77 (by simp)
     exact ⟨u, h93.sub ⟨rfl, rfl, (slot_eq rfl (by first | rfl | (congr 1; symm; first | (simp; done) | (simp; omega)))), trivial⟩, ((InS.of (fun i hi => (hSS i).2 (.inr hi)))), hbu, (by rw [hcA.1, hcA.2.1, hAA.1, hAA.2.2, hcA.2.2.1, hcA.2.2.2.1, hcA.2.2.2.2.1, hcA.2.2.2.2.2]; exact hk94), (row_eq (row_lows hr84 (Nat.zero_le _)) hAA.2.1.symm), hk95, hB82⟩
    ·
     rw [hc81] at h80
     have hp96 : s.ab = K.boot := by first | simpa using hc81 | simpa [and_assoc] using hc81
     clear hc81
     refine dk0 2 (v := pt N3 4) h80 rfl rfl rfl fun a97 h97 => ?_; clear h80
     have hk98 := hk65.kept hg77 (by simp)
     refine dk 3 (v := .int .i64 s.ast) h97 rfl rfl rfl (fun x hx => by subst hx; exact (rn_load1 rfl rfl Try.isAgg3 (hk98.cell rfl))) fun a99 h99 => ?_; clear h97
     refine dk0 4 (v := pt b 0) h99 rfl rfl rfl fun a100 h100 => ?_; clear h99
     refine dk0 5 (v := pt b 0) h100 rfl rfl rfl fun a101 h101 => ?_; clear h100
     refine dk0 6 (v := pt b 1) h101 rfl rfl rfl fun a102 h102 => ?_; clear h101
     have hk103 := hk70.kept hg77 (by simp)
     refine dk 7 (v := .int .i64 K.stream) h102 rfl rfl rfl (fun x hx => by subst hx; exact (rn_load1 rfl rfl Try.isAgg3 (hk103.cell rfl))) fun a104 h104 => ?_; clear h102
     refine dk0 8 (v := .bool (s.ast == K.stream)) h104 rfl rfl rfl fun a105 h105 => ?_; clear h104
     refine dk0 9 (v := .bool (s.ast == K.stream)) h105 rfl rfl rfl fun a106 h106 => ?_; clear h105
     refine dr_done (by kernel_rfl) ?_
     refine co_then ?_
     cases hc107 : (s.ast == K.stream)
     ·
      rw [hc107] at h106
      have hp108 : ¬ (s.ast = K.stream) := by first | simpa using hc107 | simpa [and_assoc] using hc107
      clear hc107
      refine co_false h106 rfl ?_
      refine wp_skip ?_
      refine co_then ?_
      have hAA : A.first = K.first ∧ A.q = K.q ∧ A.told = K.told := (by rw [ack_n hA hKok (by omega)]; exact ⟨rfl, rfl, rfl⟩)
      have hcA := ackT_c K s; rw [← hA] at hcA
      exact ⟨u, h106.sub ⟨rfl, rfl, (slot_eq rfl (by first | rfl | (congr 1; symm; first | (simp; done) | (simp; omega)))), trivial⟩, ((InS.of (fun i hi => (hSS i).2 (.inr hi)))), hbu, (by rw [hcA.1, hcA.2.1, hAA.1, hAA.2.2, hcA.2.2.1, hcA.2.2.2.1, hcA.2.2.2.2.1, hcA.2.2.2.2.2]; exact hk103), (row_eq (row_lows hr84 (Nat.zero_le _)) hAA.2.1.symm), hk98, hB82⟩
     ·
      rw [hc107] at h106
      have hp109 : s.ast = K.stream := by first | simpa using hc107 | simpa [and_assoc] using hc107
      clear hc107
      refine co_true h106 rfl ?_
      refine dr_gen (fun x => But (S) w x ∧ Blk x N3 73 #[.int .i64 s.boot, .int .i64 s.stream, .int .i64 s.seq, .int .i64 s.ab, .int .i64 s.ast, .int .i64 s.asq, .bool s.has, .string s.body]) (by kernel_rfl) (fun w110 hg111 => ?_) (fun w110 hg111 => ?_)
      ·
       have hz112 := hg111.size
       have hB113 := fbU_new hB82 hg111
       have hk114 := hk98.kept hg111 (by simp)
       exact ⟨hB113, hk114⟩
      have hz115 := hg111.size
      have hB116 := fbU_new hB82 hg111
      have hk117 := hk98.kept hg111 (by simp)
      refine dk0 0 (v := pt b 0) h106 rfl rfl ⟨hB116, hk117⟩ fun a118 h118 => ?_; clear h106
      refine dk0 1 (v := pt b 0) h118 rfl rfl ⟨hB116, hk117⟩ fun a119 h119 => ?_; clear h118
      refine dk0 2 (v := pt b 0) h119 rfl rfl ⟨hB116, hk117⟩ fun a120 h120 => ?_; clear h119
      refine dk0 3 (v := pt b 4) h120 rfl rfl ⟨hB116, hk117⟩ fun a121 h121 => ?_; clear h120
      refine dk0 5 (v := pt b 0) h121 rfl rfl ⟨hB116, hk117⟩ fun a122 h122 => ?_; clear h121
      refine dk0 6 (v := pt b 0) h122 rfl rfl ⟨hB116, hk117⟩ fun a123 h123 => ?_; clear h122
      refine dk0 7 (v := pt b 2) h123 rfl rfl ⟨hB116, hk117⟩ fun a124 h124 => ?_; clear h123
      refine dk0 8 (v := pt N3 5) h124 rfl rfl ⟨hB116, hk117⟩ fun a125 h125 => ?_; clear h124
      refine dk 9 (v := .int .i64 s.asq) h125 rfl rfl ⟨hB116, hk117⟩ (fun x hx => (rn_load1 rfl rfl Try.isAgg3 (hx.2.cell rfl))) fun a126 h126 => ?_; clear h125
      refine dr_many [4, 10] (by kernel_rfl) (by simp) ⟨?_, ?_, trivial⟩
      ·
       have hk127 := hk103.kept hg111 (by simp)
       refine dr_opVal (i := 4) (v := .int .i64 K.told) h126 rfl rfl rfl rfl (by kernel_rfl) rfl (rn_load1 rfl rfl Try.isAgg3 (hk127.cell rfl)) ⟨hB116, hk117⟩ (fun a128 h128 => ?_); clear h126
       have hgl := goneN_le K s.asq
       have hr136 := row_kept_new hr84 hg111
       refine d1 10 h128 rfl rfl (op_call (args := #[pt b 2, .int .i64 s.asq]) (R := fun res xw => ∃ u', res = .int .i64 (goneN K s.asq : Int) ∧ Blk xw b 90 #[.int .i64 K.boot, .int .i64 K.stream, .int .i64 (K.first + (goneN K s.asq : Int)), u', .int .i64 K.told, .int .i64 K.peer, .int .i64 K.in0, .int .i64 K.next, .bool K.owes] ∧ xw.ownsRow w110.heap.size 9 1 u' (K.q.drop (goneN K s.asq)).length ((K.q.drop (goneN K s.asq)).flatMap strE) ∧ But (fun q => q = b) w110 xw) rfl rfl rfl (by kernel_rfl) (by kernel_rfl) (Try.call56 _ _) (lkBelow_blk b u K 0 s.asq w110 hk127 hKok hr136 ⟨by omega, by omega⟩ hbu) (by rintro e x ⟨u', rfl, h⟩; exact ⟨_, rfl, u', rfl, h⟩)) ?_ ?_; clear h128
       ·
        rintro _ w130 ⟨u134, rfl, hkA131, hr133, hx132⟩
        have hz137 := hx132.size
        have hkA131' : Blk w130 b 90 #[.int .i64 K.boot, .int .i64 K.stream, .int .i64 (K.first + (goneN K s.asq : Int)), u134, .int .i64 K.told, .int .i64 K.peer, .int .i64 K.in0, .int .i64 K.next, .bool K.owes] := hkA131
        have hB138 := fbU_foot hB116 hx132 (fun i hlt hS => by (try simp at hS); first | omega | (simp; omega) | simp_all)
        have hk139 := hk117.but hx132 (by first | omega | (simp; omega))
        exact ⟨hB138, hk139⟩
       rintro _ w130 a129 ⟨u134, rfl, hkA131, hr133, hx132⟩ h129
       have hz137 := hx132.size
       have hkA131' : Blk w130 b 90 #[.int .i64 K.boot, .int .i64 K.stream, .int .i64 (K.first + (goneN K s.asq : Int)), u134, .int .i64 K.told, .int .i64 K.peer, .int .i64 K.in0, .int .i64 K.next, .bool K.owes] := hkA131
       have hB138 := fbU_foot hB116 hx132 (fun i hlt hS => by (try simp at hS); first | omega | (simp; omega) | simp_all)
       have hk139 := hk117.but hx132 (by first | omega | (simp; omega))
       refine dk 11 (v := .int .i64 (K.told - (goneN K s.asq : Int))) h129 rfl rfl ⟨hB138, hk139⟩ (fun x hx => (rn_arith rfl rfl rfl rfl rfl rfl (IntWalk.i64_in _ (by omega)))) fun a140 h140 => ?_; clear h129
       by_cases hs141 : K.told - (goneN K s.asq : Int) < 0
       ·
        refine dk 12 (v := .int .i64 0) h140 rfl rfl ⟨hB138, hk139⟩ (fun x hx => (rn_max2 rfl rfl rfl rfl (by omega))) fun a142 h142 => ?_; clear h140
        refine dk0 13 (v := pt b 0) h142 rfl rfl ⟨hB138, hk139⟩ fun a143 h143 => ?_; clear h142
        refine dk0 14 (v := pt b 4) h143 rfl rfl ⟨hB138, hk139⟩ fun a144 h144 => ?_; clear h143
        refine d1D 15 h144 rfl rfl (op_store1 rfl rfl rfl rfl Try.sizeOf3 hkA131' rfl) ?_ ?_; clear h144
        ·
         rintro _ w146 ⟨hk147, hz148, hg149⟩
         have hk147' : Blk w146 b 90 #[.int .i64 K.boot, .int .i64 K.stream, .int .i64 (K.first + (goneN K s.asq : Int)), u134, .int .i64 0, .int .i64 K.peer, .int .i64 K.in0, .int .i64 K.next, .bool K.owes] := hk147; clear hk147
         have hz150 := hg149.size
         have hB151 := fbU_at hB138 hg149 (fun hlt => by rcases hSb with hq | hq; exact hq; omega)
         have hk152 := hk139.kept hg149 (by simp; omega)
         exact ⟨hB151, hk152⟩
        rintro _ w146 a145 ⟨hk147, hz148, hg149⟩ h145
        have hk147' : Blk w146 b 90 #[.int .i64 K.boot, .int .i64 K.stream, .int .i64 (K.first + (goneN K s.asq : Int)), u134, .int .i64 0, .int .i64 K.peer, .int .i64 K.in0, .int .i64 K.next, .bool K.owes] := hk147; clear hk147
        have hz150 := hg149.size
        refine dr_done (by kernel_rfl) ?_
        refine co_then ?_
        have hAA : A.first = K.first + (goneN K s.asq : Int) ∧ A.q = (K.q.drop (goneN K s.asq)) ∧ A.told = 0 := (by rw [ack_y hA (by omega)]; refine ⟨rfl, rfl, ?_⟩; show max (K.told - (goneN K s.asq : Int)) 0 = _; omega)
        have hcA := ackT_c K s; rw [← hA] at hcA
        have hr151 := row_kept_at hr133 hg149 (own_neT hr133 hkA131' (by decide))
        have hk152 := hk139.kept hg149 (by simp; omega)
        have hB153 := fbU_at hB138 hg149 (fun hlt => by rcases hSb with hq | hq; exact hq; omega)
        exact ⟨u134, h145.sub ⟨rfl, rfl, (slot_eq rfl (by first | rfl | (congr 1; symm; first | (simp; done) | (simp; omega)))), trivial⟩, (InS.low hr151 (by omega)), (own_neT hr151 hk147' (by decide)), (by rw [hcA.1, hcA.2.1, hAA.1, hAA.2.2, hcA.2.2.1, hcA.2.2.2.1, hcA.2.2.2.2.1, hcA.2.2.2.2.2]; exact hk147'), (row_eq (row_lows hr151 (Nat.zero_le _)) hAA.2.1.symm), hk152, hB153⟩
       ·
        refine dk 12 (v := .int .i64 (K.told - (goneN K s.asq : Int))) h140 rfl rfl ⟨hB138, hk139⟩ (fun x hx => (rn_max1 rfl rfl rfl rfl (by omega))) fun a154 h154 => ?_; clear h140
        refine dk0 13 (v := pt b 0) h154 rfl rfl ⟨hB138, hk139⟩ fun a155 h155 => ?_; clear h154
        refine dk0 14 (v := pt b 4) h155 rfl rfl ⟨hB138, hk139⟩ fun a156 h156 => ?_; clear h155
        refine d1D 15 h156 rfl rfl (op_store1 rfl rfl rfl rfl Try.sizeOf3 hkA131' rfl) ?_ ?_; clear h156
        ·
         rintro _ w158 ⟨hk159, hz160, hg161⟩
         have hk159' : Blk w158 b 90 #[.int .i64 K.boot, .int .i64 K.stream, .int .i64 (K.first + (goneN K s.asq : Int)), u134, .int .i64 (K.told - (goneN K s.asq : Int)), .int .i64 K.peer, .int .i64 K.in0, .int .i64 K.next, .bool K.owes] := hk159; clear hk159
         have hz162 := hg161.size
         have hB163 := fbU_at hB138 hg161 (fun hlt => by rcases hSb with hq | hq; exact hq; omega)
         have hk164 := hk139.kept hg161 (by simp; omega)
         exact ⟨hB163, hk164⟩
        rintro _ w158 a157 ⟨hk159, hz160, hg161⟩ h157
        have hk159' : Blk w158 b 90 #[.int .i64 K.boot, .int .i64 K.stream, .int .i64 (K.first + (goneN K s.asq : Int)), u134, .int .i64 (K.told - (goneN K s.asq : Int)), .int .i64 K.peer, .int .i64 K.in0, .int .i64 K.next, .bool K.owes] := hk159; clear hk159
        have hz162 := hg161.size
        refine dr_done (by kernel_rfl) ?_
        refine co_then ?_
        have hAA : A.first = K.first + (goneN K s.asq : Int) ∧ A.q = (K.q.drop (goneN K s.asq)) ∧ A.told = K.told - (goneN K s.asq : Int) := (by rw [ack_y hA (by omega)]; refine ⟨rfl, rfl, ?_⟩; show max (K.told - (goneN K s.asq : Int)) 0 = _; omega)
        have hcA := ackT_c K s; rw [← hA] at hcA
        have hr163 := row_kept_at hr133 hg161 (own_neT hr133 hkA131' (by decide))
        have hk164 := hk139.kept hg161 (by simp; omega)
        have hB165 := fbU_at hB138 hg161 (fun hlt => by rcases hSb with hq | hq; exact hq; omega)
        exact ⟨u134, h157.sub ⟨rfl, rfl, (slot_eq rfl (by first | rfl | (congr 1; symm; first | (simp; done) | (simp; omega)))), trivial⟩, (InS.low hr163 (by omega)), (own_neT hr163 hk159' (by decide)), (by rw [hcA.1, hcA.2.1, hAA.1, hAA.2.2, hcA.2.2.1, hcA.2.2.2.1, hcA.2.2.2.2.1, hcA.2.2.2.2.2]; exact hk159'), (row_eq (row_lows hr163 (Nat.zero_le _)) hAA.2.1.symm), hk164, hB165⟩
      ·
       have hgl := goneN_le K s.asq
       have hk173 := hk103.kept hg111 (by simp)
       have hr174 := row_kept_new hr84 hg111
       refine dr_op (i := 10) h126 rfl rfl rfl rfl (op_call (args := #[pt b 2, .int .i64 s.asq]) (R := fun res xw => ∃ u', res = .int .i64 (goneN K s.asq : Int) ∧ Blk xw b 90 #[.int .i64 K.boot, .int .i64 K.stream, .int .i64 (K.first + (goneN K s.asq : Int)), u', .int .i64 K.told, .int .i64 K.peer, .int .i64 K.in0, .int .i64 K.next, .bool K.owes] ∧ xw.ownsRow w110.heap.size 9 1 u' (K.q.drop (goneN K s.asq)).length ((K.q.drop (goneN K s.asq)).flatMap strE) ∧ But (fun q => q = b) w110 xw) rfl rfl rfl (by kernel_rfl) (by kernel_rfl) (Try.call56 _ _) (lkBelow_blk b u K 0 s.asq w110 hk173 hKok hr174 ⟨by omega, by omega⟩ hbu) (by rintro e x ⟨u', rfl, h⟩; exact ⟨_, rfl, u', rfl, h⟩)) ?_ ?_; clear h126
       ·
        rintro _ w167 ⟨u171, rfl, hkA168, hr170, hx169⟩
        have hz175 := hx169.size
        have hkA168' : Blk w167 b 90 #[.int .i64 K.boot, .int .i64 K.stream, .int .i64 (K.first + (goneN K s.asq : Int)), u171, .int .i64 K.told, .int .i64 K.peer, .int .i64 K.in0, .int .i64 K.next, .bool K.owes] := hkA168
        have hB176 := fbU_foot hB116 hx169 (fun i hlt hS => by (try simp at hS); first | omega | (simp; omega) | simp_all)
        have hk177 := hk117.but hx169 (by first | omega | (simp; omega))
        exact ⟨hB176, hk177⟩
       rintro _ w167 a166 ⟨u171, rfl, hkA168, hr170, hx169⟩ h166
       have hz175 := hx169.size
       have hkA168' : Blk w167 b 90 #[.int .i64 K.boot, .int .i64 K.stream, .int .i64 (K.first + (goneN K s.asq : Int)), u171, .int .i64 K.told, .int .i64 K.peer, .int .i64 K.in0, .int .i64 K.next, .bool K.owes] := hkA168
       have hB176 := fbU_foot hB116 hx169 (fun i hlt hS => by (try simp at hS); first | omega | (simp; omega) | simp_all)
       have hk177 := hk117.but hx169 (by first | omega | (simp; omega))
       refine dr_many [4] (by kernel_rfl) (by simp) ⟨?_, trivial⟩
       ·
        refine dr_opVal (i := 4) (v := .int .i64 K.told) h166 rfl rfl rfl rfl (by kernel_rfl) rfl (rn_load1 rfl rfl Try.isAgg3 (hkA168'.cell rfl)) ⟨hB176, hk177⟩ (fun a178 h178 => ?_); clear h166
        refine dk 11 (v := .int .i64 (K.told - (goneN K s.asq : Int))) h178 rfl rfl ⟨hB176, hk177⟩ (fun x hx => (rn_arith rfl rfl rfl rfl rfl rfl (IntWalk.i64_in _ (by omega)))) fun a179 h179 => ?_; clear h178
        by_cases hs180 : K.told - (goneN K s.asq : Int) < 0
        ·
         refine dk 12 (v := .int .i64 0) h179 rfl rfl ⟨hB176, hk177⟩ (fun x hx => (rn_max2 rfl rfl rfl rfl (by omega))) fun a181 h181 => ?_; clear h179
         refine dk0 13 (v := pt b 0) h181 rfl rfl ⟨hB176, hk177⟩ fun a182 h182 => ?_; clear h181
         refine dk0 14 (v := pt b 4) h182 rfl rfl ⟨hB176, hk177⟩ fun a183 h183 => ?_; clear h182
         refine d1D 15 h183 rfl rfl (op_store1 rfl rfl rfl rfl Try.sizeOf3 hkA168' rfl) ?_ ?_; clear h183
         ·
          rintro _ w185 ⟨hk186, hz187, hg188⟩
          have hk186' : Blk w185 b 90 #[.int .i64 K.boot, .int .i64 K.stream, .int .i64 (K.first + (goneN K s.asq : Int)), u171, .int .i64 0, .int .i64 K.peer, .int .i64 K.in0, .int .i64 K.next, .bool K.owes] := hk186; clear hk186
          have hz189 := hg188.size
          have hB190 := fbU_at hB176 hg188 (fun hlt => by rcases hSb with hq | hq; exact hq; omega)
          have hk191 := hk177.kept hg188 (by simp; omega)
          exact ⟨hB190, hk191⟩
         rintro _ w185 a184 ⟨hk186, hz187, hg188⟩ h184
         have hk186' : Blk w185 b 90 #[.int .i64 K.boot, .int .i64 K.stream, .int .i64 (K.first + (goneN K s.asq : Int)), u171, .int .i64 0, .int .i64 K.peer, .int .i64 K.in0, .int .i64 K.next, .bool K.owes] := hk186; clear hk186
         have hz189 := hg188.size
         refine dr_done (by kernel_rfl) ?_
         refine co_then ?_
         have hAA : A.first = K.first + (goneN K s.asq : Int) ∧ A.q = (K.q.drop (goneN K s.asq)) ∧ A.told = 0 := (by rw [ack_y hA (by omega)]; refine ⟨rfl, rfl, ?_⟩; show max (K.told - (goneN K s.asq : Int)) 0 = _; omega)
         have hcA := ackT_c K s; rw [← hA] at hcA
         have hr190 := row_kept_at hr170 hg188 (own_neT hr170 hkA168' (by decide))
         have hk191 := hk177.kept hg188 (by simp; omega)
         have hB192 := fbU_at hB176 hg188 (fun hlt => by rcases hSb with hq | hq; exact hq; omega)
         exact ⟨u171, h184.sub ⟨rfl, rfl, (slot_eq rfl (by first | rfl | (congr 1; symm; first | (simp; done) | (simp; omega)))), trivial⟩, (InS.low hr190 (by omega)), (own_neT hr190 hk186' (by decide)), (by rw [hcA.1, hcA.2.1, hAA.1, hAA.2.2, hcA.2.2.1, hcA.2.2.2.1, hcA.2.2.2.2.1, hcA.2.2.2.2.2]; exact hk186'), (row_eq (row_lows hr190 (Nat.zero_le _)) hAA.2.1.symm), hk191, hB192⟩
        ·
         refine dk 12 (v := .int .i64 (K.told - (goneN K s.asq : Int))) h179 rfl rfl ⟨hB176, hk177⟩ (fun x hx => (rn_max1 rfl rfl rfl rfl (by omega))) fun a193 h193 => ?_; clear h179
         refine dk0 13 (v := pt b 0) h193 rfl rfl ⟨hB176, hk177⟩ fun a194 h194 => ?_; clear h193
         refine dk0 14 (v := pt b 4) h194 rfl rfl ⟨hB176, hk177⟩ fun a195 h195 => ?_; clear h194
         refine d1D 15 h195 rfl rfl (op_store1 rfl rfl rfl rfl Try.sizeOf3 hkA168' rfl) ?_ ?_; clear h195
         ·
          rintro _ w197 ⟨hk198, hz199, hg200⟩
          have hk198' : Blk w197 b 90 #[.int .i64 K.boot, .int .i64 K.stream, .int .i64 (K.first + (goneN K s.asq : Int)), u171, .int .i64 (K.told - (goneN K s.asq : Int)), .int .i64 K.peer, .int .i64 K.in0, .int .i64 K.next, .bool K.owes] := hk198; clear hk198
          have hz201 := hg200.size
          have hB202 := fbU_at hB176 hg200 (fun hlt => by rcases hSb with hq | hq; exact hq; omega)
          have hk203 := hk177.kept hg200 (by simp; omega)
          exact ⟨hB202, hk203⟩
         rintro _ w197 a196 ⟨hk198, hz199, hg200⟩ h196
         have hk198' : Blk w197 b 90 #[.int .i64 K.boot, .int .i64 K.stream, .int .i64 (K.first + (goneN K s.asq : Int)), u171, .int .i64 (K.told - (goneN K s.asq : Int)), .int .i64 K.peer, .int .i64 K.in0, .int .i64 K.next, .bool K.owes] := hk198; clear hk198
         have hz201 := hg200.size
         refine dr_done (by kernel_rfl) ?_
         refine co_then ?_
         have hAA : A.first = K.first + (goneN K s.asq : Int) ∧ A.q = (K.q.drop (goneN K s.asq)) ∧ A.told = K.told - (goneN K s.asq : Int) := (by rw [ack_y hA (by omega)]; refine ⟨rfl, rfl, ?_⟩; show max (K.told - (goneN K s.asq : Int)) 0 = _; omega)
         have hcA := ackT_c K s; rw [← hA] at hcA
         have hr202 := row_kept_at hr170 hg200 (own_neT hr170 hkA168' (by decide))
         have hk203 := hk177.kept hg200 (by simp; omega)
         have hB204 := fbU_at hB176 hg200 (fun hlt => by rcases hSb with hq | hq; exact hq; omega)
         exact ⟨u171, h196.sub ⟨rfl, rfl, (slot_eq rfl (by first | rfl | (congr 1; symm; first | (simp; done) | (simp; omega)))), trivial⟩, (InS.low hr202 (by omega)), (own_neT hr202 hk198' (by decide)), (by rw [hcA.1, hcA.2.1, hAA.1, hAA.2.2, hcA.2.2.1, hcA.2.2.2.1, hcA.2.2.2.2.1, hcA.2.2.2.2.2]; exact hk198'), (row_eq (row_lows hr202 (Nat.zero_le _)) hAA.2.1.symm), hk203, hB204⟩
   rintro a205 w206 ⟨u2, h205, hi207, hi208, hf209, hf210, hf211, hB212⟩
   have hz213 := hB212.size
   have hl214 := hf209.lt
   have hl215 := hf211.lt
   have hI2 := hi207
   have hn2 := hi208
   have hAok : LnOk A := hA ▸ ackT_ok hKok hm
   have hcA := ackT_c K s; rw [← hA] at hcA
   have hAn := hAok.next
   refine co_seq ?_
   refine co_seq ?_
   refine co_reg ?_
   refine pk0 (v := pt N3 6) h205 rfl fun a216 h216 => ?_; clear h205
   refine pk (v := .bool s.has) h216 rfl (rn_load1 rfl rfl Try.isAgg4 (hf211.cell rfl)) fun a217 h217 => ?_; clear h216
   cases hc218 : (s.has)
   ·
    rw [hc218] at h217
    refine pk0 (v := .bool true) h217 rfl fun a219 h219 => ?_; clear h217
    refine pl_nil ?_
    refine co_then ?_
    refine co_true h219 rfl ?_
    refine co_seq ?_
    refine co_reg ?_
    refine pk0 (v := .slice none 0 0) h219 rfl fun a220 h220 => ?_; clear h219
    refine pk0 (v := .int .i64 0) h220 rfl fun a221 h221 => ?_; clear h220
    refine pl_nil ?_
    refine co_then ?_
    refine wp_ret ?_
    refine co_thenR ?_
    refine co_ret2 h221 rfl rfl rfl ?_
    have hE : inT L s = ([], 0, A) := inT_c hm (by omega) (hA.trans (by rw [hK])) (by simp_all)
    rw [hE]
    have hok2 : LnOk A := by have h := inT_ok hok s; rw [hE] at h; exact h
    have hbl : Blk w206 b 90 (lnC A u2) := hf209
    obtain ⟨S', hq1, hq2, hq3⟩ := LkU.row3 (L' := A) hU hbl hf210 hI2 (own_neT hf210 hf209 (by decide)) hB212 hok2
    exact ⟨_, _, rfl, ⟨S', hq1, hq2, World.ownsRow_nil _ _ _ _, by simp [Value.ownBlock]⟩, hB212⟩
   ·
    rw [hc218] at h217
    refine pk0 (v := .bool false) h217 rfl fun a222 h222 => ?_; clear h217
    refine pl_nil ?_
    refine co_then ?_
    refine co_false h222 rfl ?_
    refine wp_skip ?_
    refine co_then ?_
    refine co_seq ?_
    refine co_reg ?_
    refine pk0 (v := pt b 0) h222 rfl fun a223 h223 => ?_; clear h222
    refine pk0 (v := pt b 0) h223 rfl fun a224 h224 => ?_; clear h223
    refine pk0 (v := pt b 8) h224 rfl fun a225 h225 => ?_; clear h224
    refine pwD h225 rfl (op_store1 rfl rfl rfl rfl Try.sizeOf4 hf209 rfl) ?_; clear h225
    rintro _ w227 a226 ⟨hk228, hz229, hg230⟩ h226
    have hk228' : Blk w227 b 90 #[.int .i64 A.boot, .int .i64 A.stream, .int .i64 A.first, u2, .int .i64 A.told, .int .i64 A.peer, .int .i64 A.in0, .int .i64 A.next, .bool true] := hk228; clear hk228
    have hz231 := hg230.size
    refine pl_nil ?_
    refine co_then ?_
    refine co_seq ?_
    refine co_seq ?_
    refine dr_eq (by kernel_rfl) (fun w232 hg233 => ?_)
    have hz234 := hg233.size
    refine dk0 0 (v := .bool (s.ab == K.boot)) h226 rfl rfl rfl fun a235 h235 => ?_; clear h226
    have hB237 := fbU_at hB212 hg230 (fun hlt => by rcases hSb with hq | hq; exact hq; omega)
    have hB238 := fbU_new hB237 hg233
    have hr239 := row_kept_at hf210 hg230 (hn2)
    have hr240 := row_kept_new hr239 hg233
    have hk241 := hf211.kept hg230 (by simp; omega)
    have hk242 := hk241.kept hg233 (by simp)
    cases hc236 : (s.ab == K.boot)
    ·
     rw [hc236] at h235
     refine dk0 1 (v := .bool true) h235 rfl rfl rfl fun a243 h243 => ?_; clear h235
     refine dk0 2 (v := .bool true) h243 rfl rfl rfl fun a244 h244 => ?_; clear h243
     refine dsk 3 h244 rfl rfl rfl fun a245 h245 => ?_; clear h244
     refine dsk 4 h245 rfl rfl rfl fun a246 h246 => ?_; clear h245
     refine dsk 5 h246 rfl rfl rfl fun a247 h247 => ?_; clear h246
     refine dsk 6 h247 rfl rfl rfl fun a248 h248 => ?_; clear h247
     refine dsk 7 h248 rfl rfl rfl fun a249 h249 => ?_; clear h248
     refine dsk 8 h249 rfl rfl rfl fun a250 h250 => ?_; clear h249
     refine dsk 9 h250 rfl rfl rfl fun a251 h251 => ?_; clear h250
     refine dk0 10 (v := .bool true) h251 rfl rfl rfl fun a252 h252 => ?_; clear h251
     refine dk0 11 (v := .bool true) h252 rfl rfl rfl fun a253 h253 => ?_; clear h252
     refine dsk 12 h253 rfl rfl rfl fun a254 h254 => ?_; clear h253
     refine dsk 13 h254 rfl rfl rfl fun a255 h255 => ?_; clear h254
     refine dsk 14 h255 rfl rfl rfl fun a256 h256 => ?_; clear h255
     refine dsk 15 h256 rfl rfl rfl fun a257 h257 => ?_; clear h256
     refine dsk 16 h257 rfl rfl rfl fun a258 h258 => ?_; clear h257
     refine dsk 17 h258 rfl rfl rfl fun a259 h259 => ?_; clear h258
     refine dsk 18 h259 rfl rfl rfl fun a260 h260 => ?_; clear h259
     refine dk0 19 (v := .bool true) h260 rfl rfl rfl fun a261 h261 => ?_; clear h260
     refine dr_done (by kernel_rfl) ?_
     refine co_then ?_
     refine co_true h261 rfl ?_
     refine co_seq ?_
     refine co_reg ?_
     refine pk0 (v := .slice none 0 0) h261 rfl fun a262 h262 => ?_; clear h261
     refine pk0 (v := .int .i64 0) h262 rfl fun a263 h263 => ?_; clear h262
     refine pl_nil ?_
     refine co_then ?_
     refine wp_ret ?_
     refine co_thenR ?_
     refine co_ret2 h263 rfl rfl rfl ?_
     have hk264 := hk228'.kept hg233 (by simp)
     have hE : inT L s = ([], 0, { A with owes := true }) := inT_d hm (by omega) (hA.trans (by rw [hK])) (by simp_all) (by first | omega | (simp only [beq_iff_eq, beq_eq_false_iff_ne, ne_eq] at *; omega))
     rw [hE]
     have hok2 : LnOk ({ A with owes := true }) := by have h := inT_ok hok s; rw [hE] at h; exact h
     have hbl : Blk w232 b 90 (lnC ({ A with owes := true }) u2) := hk264
     obtain ⟨S', hq1, hq2, hq3⟩ := LkU.row3 (L' := { A with owes := true }) hU hbl hr240 hI2 (own_neT hr240 hk264 (by decide)) hB238 hok2
     exact ⟨_, _, rfl, ⟨S', hq1, hq2, World.ownsRow_nil _ _ _ _, by simp [Value.ownBlock]⟩, hB238⟩
    ·
     rw [hc236] at h235
     refine dk0 1 (v := .bool false) h235 rfl rfl rfl fun a265 h265 => ?_; clear h235
     refine dk0 2 (v := .bool false) h265 rfl rfl rfl fun a266 h266 => ?_; clear h265
     refine dk0 3 (v := pt N3 1) h266 rfl rfl rfl fun a267 h267 => ?_; clear h266
     refine dk 4 (v := .int .i64 s.stream) h267 rfl rfl rfl (fun x hx => by subst hx; exact (rn_load1 rfl rfl Try.isAgg3 (hk242.cell rfl))) fun a268 h268 => ?_; clear h267
     refine dk0 5 (v := pt b 0) h268 rfl rfl rfl fun a269 h269 => ?_; clear h268
     refine dk0 6 (v := pt b 0) h269 rfl rfl rfl fun a270 h270 => ?_; clear h269
     refine dk0 7 (v := pt b 6) h270 rfl rfl rfl fun a271 h271 => ?_; clear h270
     have hk272 := hk228'.kept hg233 (by simp)
     refine dk 8 (v := .int .i64 A.in0) h271 rfl rfl rfl (fun x hx => by subst hx; exact (rn_load1 rfl rfl Try.isAgg3 (hk272.cell rfl))) fun a273 h273 => ?_; clear h271
     refine dk0 9 (v := .bool (s.stream != A.in0)) h273 rfl rfl rfl fun a274 h274 => ?_; clear h273
     refine dk0 10 (v := .bool (s.stream != A.in0)) h274 rfl rfl rfl fun a275 h275 => ?_; clear h274
     refine dk0 11 (v := .bool (s.stream != A.in0)) h275 rfl rfl rfl fun a276 h276 => ?_; clear h275
     cases hc277 : (s.stream != A.in0)
     ·
      rw [hc277] at h276
      have hp278 : ¬ (s.stream ≠ A.in0) := by first | simpa using hc277 | simpa [and_assoc] using hc277
      clear hc277
      refine dk0 12 (v := pt N3 2) h276 rfl rfl rfl fun a279 h279 => ?_; clear h276
      refine dk 13 (v := .int .i64 s.seq) h279 rfl rfl rfl (fun x hx => by subst hx; exact (rn_load1 rfl rfl Try.isAgg3 (hk242.cell rfl))) fun a280 h280 => ?_; clear h279
      refine dk0 14 (v := pt b 0) h280 rfl rfl rfl fun a281 h281 => ?_; clear h280
      refine dk0 15 (v := pt b 0) h281 rfl rfl rfl fun a282 h282 => ?_; clear h281
      refine dk0 16 (v := pt b 7) h282 rfl rfl rfl fun a283 h283 => ?_; clear h282
      refine dk 17 (v := .int .i64 A.next) h283 rfl rfl rfl (fun x hx => by subst hx; exact (rn_load1 rfl rfl Try.isAgg3 (hk272.cell rfl))) fun a284 h284 => ?_; clear h283
      refine dk0 18 (v := .bool (s.seq != A.next)) h284 rfl rfl rfl fun a285 h285 => ?_; clear h284
      refine dk0 19 (v := .bool (s.seq != A.next)) h285 rfl rfl rfl fun a286 h286 => ?_; clear h285
      refine dr_done (by kernel_rfl) ?_
      refine co_then ?_
      cases hc287 : (s.seq != A.next)
      ·
       rw [hc287] at h286
       have hp288 : ¬ (s.seq ≠ A.next) := by first | simpa using hc287 | simpa [and_assoc] using hc287
       clear hc287
       refine co_false h286 rfl ?_
       refine wp_skip ?_
       refine co_then ?_
       refine co_seq ?_
       refine co_reg ?_
       refine pk0 (v := pt b 0) h286 rfl fun a289 h289 => ?_; clear h286
       refine pk0 (v := pt b 0) h289 rfl fun a290 h290 => ?_; clear h289
       refine pk0 (v := pt b 7) h290 rfl fun a291 h291 => ?_; clear h290
       refine pk (v := .int .i64 A.next) h291 rfl (rn_load1 rfl rfl Try.isAgg3 (hk272.cell rfl)) fun a292 h292 => ?_; clear h291
       refine pk (v := .int .i64 (A.next + 1)) h292 rfl (rn_arith rfl rfl rfl rfl rfl rfl (IntWalk.i64_in _ (by omega))) fun a293 h293 => ?_; clear h292
       refine pk0 (v := pt b 0) h293 rfl fun a294 h294 => ?_; clear h293
       refine pk0 (v := pt b 7) h294 rfl fun a295 h295 => ?_; clear h294
       refine pwD h295 rfl (op_store1 rfl rfl rfl rfl Try.sizeOf3 hk272 rfl) ?_; clear h295
       rintro _ w297 a296 ⟨hk298, hz299, hg300⟩ h296
       have hk298' : Blk w297 b 90 #[.int .i64 A.boot, .int .i64 A.stream, .int .i64 A.first, u2, .int .i64 A.told, .int .i64 A.peer, .int .i64 A.in0, .int .i64 (A.next + 1), .bool true] := hk298; clear hk298
       have hz301 := hg300.size
       refine pl_nil ?_
       refine co_then ?_
       refine co_seq ?_
       refine co_reg ?_
       refine pk0 (v := pt N3 7) h296 rfl fun a302 h302 => ?_; clear h296
       have hk303 := hk242.kept hg300 (by simp; omega)
       refine pk (v := .string s.body) h302 rfl (rn_load1 rfl rfl Try.isAgg9 (hk303.cell rfl)) fun a304 h304 => ?_; clear h302
       refine pw h304 rfl (op_new (v := fun N => .slice (some ⟨N, 0, none⟩) 1 1) (T := 9) (cs := #[.string s.body]) (by kernel_rfl) (by kernel_rfl) (by kernel_rfl)) ?_; clear h304
       rintro _ w306 a305 ⟨N307, rfl, hN310, hz311, hk309, hg308⟩ h305
       have hr313 := row_kept_at hr240 hg300 (hn2)
       have ha312 := row_fresh hr313 hN310
       have hu314 := row_under hr313 hN310
       have hz315 := hg308.size
       try dsimp only at h305
       refine pk0 (v := .slice (some ⟨N307, 0, none⟩) 1 1) h305 rfl fun a316 h316 => ?_; clear h305
       refine pk0 (v := .int .i64 0) h316 rfl fun a317 h317 => ?_; clear h316
       refine pl_nil ?_
       refine co_then ?_
       refine wp_ret ?_
       refine co_ret2 h317 rfl rfl rfl ?_
       have hr318 := row_kept_new hr313 hg308
       have hk319 := hk298'.kept hg308 (by simp)
       have hB320 := fbU_at hB238 hg300 (fun hlt => by rcases hSb with hq | hq; exact hq; omega)
       have hB321 := fbU_new hB320 hg308
       have hE : inT L s = ([s.body], 0, { A with owes := true, next := A.next + 1 }) := inT_e hm (by omega) (hA.trans (by rw [hK])) (by simp_all) (by first | omega | (simp only [beq_iff_eq, beq_eq_false_iff_ne, ne_eq] at *; omega))
       rw [hE]
       have hok2 : LnOk ({ A with owes := true, next := A.next + 1 }) := by have h := inT_ok hok s; rw [hE] at h; exact h
       have hbl : Blk w306 b 90 (lnC ({ A with owes := true, next := A.next + 1 }) u2) := hk319
       obtain ⟨S', hq1, hq2, hq3⟩ := LkU.row3 (L' := { A with owes := true, next := A.next + 1 }) hU hbl hr318 hI2 (own_neT hr318 hk319 (by decide)) hB321 hok2
       have hrv := row_of_cells (enc := strE) (sz := 1) ([s.body] : List ByteArray) hk309 (Nat.le_refl _) rfl rfl (by unfold maxLen; simp)
       exact ⟨_, _, rfl, ⟨S', hq1, hq2, row_lows hrv (by omega), fun i hi => by simp only [Value.ownBlock, Option.some.injEq] at hi; subst hi; exact hq3 _ (by omega) ha312⟩, hB321⟩
      ·
       rw [hc287] at h286
       have hp322 : s.seq ≠ A.next := by first | simpa using hc287 | simpa [and_assoc] using hc287
       clear hc287
       refine co_true h286 rfl ?_
       refine co_seq ?_
       refine co_reg ?_
       refine pk0 (v := .slice none 0 0) h286 rfl fun a323 h323 => ?_; clear h286
       refine pk0 (v := .int .i64 0) h323 rfl fun a324 h324 => ?_; clear h323
       refine pl_nil ?_
       refine co_then ?_
       refine wp_ret ?_
       refine co_thenR ?_
       refine co_ret2 h324 rfl rfl rfl ?_
       have hE : inT L s = ([], 0, { A with owes := true }) := inT_d hm (by omega) (hA.trans (by rw [hK])) (by simp_all) (by first | omega | (simp only [beq_iff_eq, beq_eq_false_iff_ne, ne_eq] at *; omega))
       rw [hE]
       have hok2 : LnOk ({ A with owes := true }) := by have h := inT_ok hok s; rw [hE] at h; exact h
       have hbl : Blk w232 b 90 (lnC ({ A with owes := true }) u2) := hk272
       obtain ⟨S', hq1, hq2, hq3⟩ := LkU.row3 (L' := { A with owes := true }) hU hbl hr240 hI2 (own_neT hr240 hk272 (by decide)) hB238 hok2
       exact ⟨_, _, rfl, ⟨S', hq1, hq2, World.ownsRow_nil _ _ _ _, by simp [Value.ownBlock]⟩, hB238⟩
     ·
      rw [hc277] at h276
      have hp325 : s.stream ≠ A.in0 := by first | simpa using hc277 | simpa [and_assoc] using hc277
      clear hc277
      refine dsk 12 h276 rfl rfl rfl fun a326 h326 => ?_; clear h276
      refine dsk 13 h326 rfl rfl rfl fun a327 h327 => ?_; clear h326
      refine dsk 14 h327 rfl rfl rfl fun a328 h328 => ?_; clear h327
      refine dsk 15 h328 rfl rfl rfl fun a329 h329 => ?_; clear h328
      refine dsk 16 h329 rfl rfl rfl fun a330 h330 => ?_; clear h329
      refine dsk 17 h330 rfl rfl rfl fun a331 h331 => ?_; clear h330
      refine dsk 18 h331 rfl rfl rfl fun a332 h332 => ?_; clear h331
      refine dk0 19 (v := .bool true) h332 rfl rfl rfl fun a333 h333 => ?_; clear h332
      refine dr_done (by kernel_rfl) ?_
      refine co_then ?_
      refine co_true h333 rfl ?_
      refine co_seq ?_
      refine co_reg ?_
      refine pk0 (v := .slice none 0 0) h333 rfl fun a334 h334 => ?_; clear h333
      refine pk0 (v := .int .i64 0) h334 rfl fun a335 h335 => ?_; clear h334
      refine pl_nil ?_
      refine co_then ?_
      refine wp_ret ?_
      refine co_thenR ?_
      refine co_ret2 h335 rfl rfl rfl ?_
      have hE : inT L s = ([], 0, { A with owes := true }) := inT_d hm (by omega) (hA.trans (by rw [hK])) (by simp_all) (by first | omega | (simp only [beq_iff_eq, beq_eq_false_iff_ne, ne_eq] at *; omega))
      rw [hE]
      have hok2 : LnOk ({ A with owes := true }) := by have h := inT_ok hok s; rw [hE] at h; exact h
      have hbl : Blk w232 b 90 (lnC ({ A with owes := true }) u2) := hk272
      obtain ⟨S', hq1, hq2, hq3⟩ := LkU.row3 (L' := { A with owes := true }) hU hbl hr240 hI2 (own_neT hr240 hk272 (by decide)) hB238 hok2
      exact ⟨_, _, rfl, ⟨S', hq1, hq2, World.ownsRow_nil _ _ _ _, by simp [Value.ownBlock]⟩, hB238⟩
  ·
   rw [hc47] at h46
   have hp336 : s.boot < L.peer := of_decide_eq_true hc47
   clear hc47
   refine co_true h46 rfl ?_
   refine co_seq ?_
   refine co_reg ?_
   refine pk0 (v := .slice none 0 0) h46 rfl fun a337 h337 => ?_; clear h46
   refine pk0 (v := .int .i64 0) h337 rfl fun a338 h338 => ?_; clear h337
   refine pl_nil ?_
   refine co_then ?_
   refine wp_ret ?_
   refine co_thenR ?_
   refine co_ret2 h338 rfl rfl rfl ?_
   have hr339 := row_kept_new hr27 hg34
   have hE := (inT_b (by first | assumption | exact may_yes (bn_6 (by assumption) (by omega)) (by omega)) (by omega) : inT L s = ([], 0, L))
   rw [hE]
   exact ⟨u, _, rfl, ⟨S, (LkU.same' hU hB48 hk44 hr339).1, (LkU.same' hU hB48 hk44 hr339).2, World.ownsRow_nil _ _ _ _, by simp [Value.ownBlock]⟩, hB48⟩
end Go.Proofs.Ytpcbgkmnjmiigaa

/- A link's segments, what goes out. Conditions: none. -/
namespace Go.Proofs.Ytpcbgkmnjmiigaa
open Go.RowKit Go.PlainAid
set_option linter.unusedVariables false


theorem segE_len (s : SegT) : (segE s).length = 8 := rfl
end Go.Proofs.Ytpcbgkmnjmiigaa

/- A range over a function that goes to its end, whose iterator may range over a function itself. Conditions: no round breaks. -/
namespace Go.Proofs.Ytpcbgkmnjmiigaa
open Go.RowKit Go.Shelf
set_option linter.unusedVariables false

/-- It yields ks, to whatever goes on always; what holds of the worlds between may lean on all that lay at the start. -/
def SeqE {α : Type} (P : Program) (gf : Nat) (lb : Array Value) (encs : α → Array Value) (Kp : World → World → Prop) (ks : List α) (w : World) : Prop :=
  ∀ (l : Nat) (J : List α → World → Prop) (W : World), Below w.heap.size w W → w.heap.size + 2 ≤ W.heap.size →
    (∀ pre A B row, J pre A → A.grownBy B row → (∀ r, row = some r → W.heap.size ≤ r ∧ ∃ o : Obj, A.heap[r]? = some o ∧ o.isCells = false) → J pre B) →
    (∀ pre x A, J pre A → (pre ++ [x]) <+: ks → YieldAt Fence.wide 1 P l (encs x) A fun e B => e = .returned (.bool true) ∧ J (pre ++ [x]) B ∧ Kp A B) →
    J [] W → CallsIn Fence.wide 2 P gf (#[.func (.yield l) #[] #[]] ++ lb) W fun e B => (∃ v, e = .returned v) ∧ J ks B
/-- A round ends so. -/
def rfPost {α : Type} (B : Nat) (Kp : World → World → Prop) (I : List α → World → Prop) (pre : List α) (W : World) : Exit → Act → World → Prop
  | .normal, _, W' => KeepsFrom B W W' ∧ Kp W W' ∧ I pre W'
  | _, _, _ => False
theorem rf_all {α : Type} {P : Program} {n : Nat} {g : Operand} {ps : Array Tmp} {assign body : Code} {Q : Exit → Act → World → Prop} {a : Act} {w : World} {gf : Nat} {lb : Array Value} (hg : a.eval g = .func (.func gf) #[] lb)
    (eg : ∀ args w, (callFunc gf args).run P w = .ok (.enter gf args) w) {encs : α → Array Value} {Kp : World → World → Prop} {ks : List α} (hseq : SeqE P gf lb encs Kp ks w) (hps : ∀ x, (encs x).size = ps.size)
    (hKt : ∀ {A B C : World}, Kp A B → Kp B C → Kp A C) (hKb : ∀ (W : World) (o o' : Obj), W.heap[w.heap.size + 1]? = some o → o.isCells = false → Kp W (W.putObj (w.heap.size + 1) o'))
    (I : List α → World → Prop) (hI : OwnFrom w.heap.size I) (h0 : I [] w) (Ax : α → Act → World → Prop) (hAx : ∀ x a', OwnFrom w.heap.size (fun (_ : Unit) W => Ax x a' W))
    (hassign : ∀ (l : Nat) (pre : List α) (x : α) (W : World) (K : Act → World → Prop), I pre W → (∀ a' W', KeepsFrom w.heap.size W W' → Kp W W' → I pre W' → Ax x a' W' → K a' W') →
      assign.wpIn (Fence.wide.inRound l) 1 P (Exit.then K (fun _ _ _ => False)) { tmps := (ps.zip (encs x)).foldl (fun t (p, v) => t.setIfInBounds p v) a.tmps, defers := [] } W)
    (hbody : ∀ (l : Nat) (pre : List α) (x : α) (a' : Act) (W : World), w.heap.size + 1 = l → l < W.heap.size → I pre W → Ax x a' W → (pre ++ [x]) <+: ks → body.wpIn (Fence.wide.inRound l) 1 P (rfPost w.heap.size Kp I (pre ++ [x]) W) a' W)
    (hdone : ∀ (D : Nat) (W : World), w.heap.size ≤ D → I ks W → W.heap[D]? = some (.deferred (some [])) → Q .normal { a with defers := { target := .collected D, args := #[] } :: a.defers } W) :
    (Code.rangeFunc g ps assign body).wpIn Fence.wide n P Q a w := by
  refine wpIn_rangeFunc fun fn hfn => ?_
  let R : LoopState → Option Code → Loop := fun st pe => { state := st, pending := pe, fn := fn, tmps := a.tmps, params := ps, assign := assign, body := body, defers := w.heap.size }
  obtain ⟨V, hV⟩ : ∃ V, V = (w.alloc (.deferred (some []))).alloc (.loop (R .ready none)) := ⟨_, rfl⟩
  have vL : V.heap[w.heap.size + 1]? = some (.loop (R .ready none)) := by rw [hV]; have := World.alloc_heap_new (w.alloc (.deferred (some []))) (.loop (R .ready none)); rwa [World.size_alloc] at this
  have vD : V.heap[w.heap.size]? = some (.deferred (some [])) := by rw [hV]; exact (Below.heap_alloc _ _ _ (by simp)).trans (World.alloc_heap_new w _)
  have vS : V.heap.size = w.heap.size + 2 := by rw [hV]; simp
  have vI : I [] V := by rw [hV]; exact hI.alloc _ (hI.alloc _ h0)
  have vB : Below w.heap.size w V := by rw [hV]; exact ((Below.refl _ w).alloc (Nat.le_refl _) _).alloc (by simp) _
  refine ⟨w.heap.size + 1, [{ target := .collected w.heap.size, args := #[] }], V, { target := .fn (.func gf) lb, args := #[.func (.yield (w.heap.size + 1)) #[] #[]] }, V, gf,
    #[.func (.yield (w.heap.size + 1)) #[] #[]] ++ lb, V, by rw [hV]; exact run_enterLoop_outer _ _ _ _ _, by simp only [resolve, hg]; simp [go_sem], (fun f' hf' => by simp [Target.leads] at hf'; subst hf'; trivial), by simp [invoke, go_sem, eg], (fun h => by cases h), ?_⟩
  refine (callsIn_wide.2 (callsIn_wide.1 (hseq (w.heap.size + 1) (fun pre W => I pre W ∧ W.heap[w.heap.size + 1]? = some (.loop (R .ready none)) ∧ W.heap[w.heap.size]? = some (.deferred (some []))) V vB (by omega) ?_ ?_ ⟨vI, vL, vD⟩))).mono ?_
  · rintro pre A B row ⟨h1, h2, h3⟩ hg' hr
    refine ⟨hI pre A B row h1 hg' (fun r e => ⟨by have := (hr r e).1; omega, (hr r e).2⟩), ?_, ?_⟩
    · exact (hg'.block _ (Array.getElem?_eq_some_iff.1 h2).1 (fun e => by have := (hr _ e.symm).1; omega)).trans h2
    · exact (hg'.block _ (Array.getElem?_eq_some_iff.1 h3).1 (fun e => by have := (hr _ e.symm).1; omega)).trans h3
  · rintro pre x A ⟨h1, h2, h3⟩ hp
    have hy := run_yield (P := P) (args := encs x) h2 (hps x)
    refine ⟨fn, _, assign, body, hy, ?_⟩
    refine roundIn_of_wpIn hfn ?_
    refine hassign _ pre x A _ h1 fun a' B kf kp h1' hax => ?_
    have b2 := kf.same _ _ (by omega) h2 rfl
    have b3 := kf.same _ _ (Nat.le_refl _) h3 rfl
    have hlt : w.heap.size + 1 < B.heap.size := (Array.getElem?_eq_some_iff.1 b2).1
    refine ⟨_, run_beginRound b2 rfl, ?_⟩
    have c2 : (B.putObj (w.heap.size + 1) (.loop (R .busy none))).heap[w.heap.size + 1]? = some (.loop (R .busy none)) := World.putObj_heap_same hlt
    have c3 : (B.putObj (w.heap.size + 1) (.loop (R .busy none))).heap[w.heap.size]? = some (.deferred (some [])) := (World.putObj_heap_other (by omega)).trans b3
    refine wpIn_mono (hbody _ pre x a' (B.putObj (w.heap.size + 1) (.loop (R .busy none))) rfl (Array.getElem?_eq_some_iff.1 c2).1 (hI.putObj _ h1' (by omega) b2 rfl) ((hAx x a').putObj (s := ()) _ hax (by omega) b2 rfl) hp) ?_
    rintro e a3 C hq
    cases e with
    | normal =>
      obtain ⟨q1, q2, q3⟩ := hq
      have d2 := q1.same _ _ (by omega) c2 rfl
      have d3 := q1.same _ _ (Nat.le_refl _) c3 rfl
      refine ⟨_, _, run_endRound none d2, rfl, ⟨hI.putObj _ q3 (by omega) d2 rfl, World.putObj_heap_same (Array.getElem?_eq_some_iff.1 d2).1, (World.putObj_heap_other (by omega)).trans d3⟩, ?_⟩
      exact hKt kp (hKt (hKt (hKb _ _ _ b2 rfl) q2) (hKb _ _ _ d2 rfl))
    | ret => exact hq.elim
    | exit id => exact hq.elim
    | goto t => exact hq.elim
    | panic ch => exact hq.elim
    | outgrown => exact hq.elim
  · rintro e B ⟨⟨v, rfl⟩, h1, h2, h3⟩
    exact ⟨none, _, run_endLoop h2 (by simp [R]), hdone _ _ (Nat.le_refl _) (hI.putObj _ h1 (by omega) h2 rfl) ((World.putObj_heap_other (by omega)).trans h3)⟩
end Go.Proofs.Ytpcbgkmnjmiigaa

/- Package link: segment. Conditions: none. -/
namespace Go.Proofs.Ytpcbgkmnjmiigaa
open Go.RowKit Go.PlainAid
set_option linter.unusedVariables false

set_option maxRecDepth 100000 in
theorem lkSegment_blk (b : Nat) (u : Value) (L : LnT) (q : Int) (h : Bool) (y : ByteArray) (w : World) (hB : Blk w b 90 #[.int .i64 L.boot, .int .i64 L.stream, .int .i64 L.first, u, .int .i64 L.told, .int .i64 L.peer, .int .i64 L.in0, .int .i64 L.next, .bool L.owes]) (hok : LnOk L) :
    Calls Try.prog 64 #[pt b 0, .int .i64 q, .bool h, .string y] w fun e w' => e = .returned (.agg #[.int .i64 L.boot, .int .i64 L.stream, .int .i64 q, .int .i64 L.peer, .int .i64 L.in0, .int .i64 L.next, .bool h, .string y]) ∧ Below w.heap.size w w' := by
 have hB0 := Below.refl w.heap.size w
 have hl_hB := hB.lt
 refine co_enter (n := 33) Try.func64 rfl rfl rfl [(0, pt b 0), (1, .int .i64 q), (2, .bool h), (3, .string y)] rfl (fun a h0 => ?_)
 refine co_seq ?_
 refine co_reg ?_
 refine pw h0 rfl (op_new (v := fun N => pt N 0) (T := 73) (cs := #[.int .i64 0, .int .i64 0, .int .i64 0, .int .i64 0, .int .i64 0, .int .i64 0, .bool false, .string (⟨#[]⟩)]) (by kernel_rfl) (by kernel_rfl) (by kernel_rfl)) ?_; clear h0
 rintro _ w2 a1 ⟨N3, rfl, hN6, hz7, hk5, hg4⟩ h1
 have hz8 := hg4.size
 try dsimp only at h1
 refine pl_nil ?_
 refine co_then ?_
 refine co_seq ?_
 refine dr_gen (fun x => Below w.heap.size w x ∧ Blk x b 90 #[.int .i64 L.boot, .int .i64 L.stream, .int .i64 L.first, u, .int .i64 L.told, .int .i64 L.peer, .int .i64 L.in0, .int .i64 L.next, .bool L.owes]) (by kernel_rfl) (fun w9 hg10 => ?_) (fun w9 hg10 => ?_)
 ·
  have hz11 := hg10.size
  have hB12 := hb_new hB0 hg4
  have hB13 := hb_new hB12 hg10
  have hk14 := hB.kept hg4 (by simp)
  have hk15 := hk14.kept hg10 (by simp)
  exact ⟨hB13, hk15⟩
 have hz16 := hg10.size
 have hB17 := hb_new hB0 hg4
 have hB18 := hb_new hB17 hg10
 have hk19 := hB.kept hg4 (by simp)
 have hk20 := hk19.kept hg10 (by simp)
 refine dk0 0 (v := pt b 0) h1 rfl rfl ⟨hB18, hk20⟩ fun a21 h21 => ?_; clear h1
 refine dk0 1 (v := pt b 0) h21 rfl rfl ⟨hB18, hk20⟩ fun a22 h22 => ?_; clear h21
 refine dk0 2 (v := pt b 0) h22 rfl rfl ⟨hB18, hk20⟩ fun a23 h23 => ?_; clear h22
 refine dk 3 (v := .int .i64 L.boot) h23 rfl rfl ⟨hB18, hk20⟩ (fun x hx => (rn_load1 rfl rfl Try.isAgg3 (hx.2.cell rfl))) fun a24 h24 => ?_; clear h23
 refine dk0 4 (v := pt b 0) h24 rfl rfl ⟨hB18, hk20⟩ fun a25 h25 => ?_; clear h24
 refine dk0 5 (v := pt b 0) h25 rfl rfl ⟨hB18, hk20⟩ fun a26 h26 => ?_; clear h25
 refine dk0 6 (v := pt b 1) h26 rfl rfl ⟨hB18, hk20⟩ fun a27 h27 => ?_; clear h26
 refine dk 7 (v := .int .i64 L.stream) h27 rfl rfl ⟨hB18, hk20⟩ (fun x hx => (rn_load1 rfl rfl Try.isAgg3 (hx.2.cell rfl))) fun a28 h28 => ?_; clear h27
 refine dk0 8 (v := .int .i64 q) h28 rfl rfl ⟨hB18, hk20⟩ fun a29 h29 => ?_; clear h28
 refine dk0 9 (v := pt b 0) h29 rfl rfl ⟨hB18, hk20⟩ fun a30 h30 => ?_; clear h29
 refine dk0 10 (v := pt b 0) h30 rfl rfl ⟨hB18, hk20⟩ fun a31 h31 => ?_; clear h30
 refine dk0 11 (v := pt b 5) h31 rfl rfl ⟨hB18, hk20⟩ fun a32 h32 => ?_; clear h31
 refine dk 12 (v := .int .i64 L.peer) h32 rfl rfl ⟨hB18, hk20⟩ (fun x hx => (rn_load1 rfl rfl Try.isAgg3 (hx.2.cell rfl))) fun a33 h33 => ?_; clear h32
 refine dk0 13 (v := pt b 0) h33 rfl rfl ⟨hB18, hk20⟩ fun a34 h34 => ?_; clear h33
 refine dk0 14 (v := pt b 0) h34 rfl rfl ⟨hB18, hk20⟩ fun a35 h35 => ?_; clear h34
 refine dk0 15 (v := pt b 6) h35 rfl rfl ⟨hB18, hk20⟩ fun a36 h36 => ?_; clear h35
 refine dk 16 (v := .int .i64 L.in0) h36 rfl rfl ⟨hB18, hk20⟩ (fun x hx => (rn_load1 rfl rfl Try.isAgg3 (hx.2.cell rfl))) fun a37 h37 => ?_; clear h36
 refine dk0 17 (v := pt b 0) h37 rfl rfl ⟨hB18, hk20⟩ fun a38 h38 => ?_; clear h37
 refine dk0 18 (v := pt b 0) h38 rfl rfl ⟨hB18, hk20⟩ fun a39 h39 => ?_; clear h38
 refine dk0 19 (v := pt b 7) h39 rfl rfl ⟨hB18, hk20⟩ fun a40 h40 => ?_; clear h39
 refine dk 20 (v := .int .i64 L.next) h40 rfl rfl ⟨hB18, hk20⟩ (fun x hx => (rn_load1 rfl rfl Try.isAgg3 (hx.2.cell rfl))) fun a41 h41 => ?_; clear h40
 refine dk0 21 (v := .bool h) h41 rfl rfl ⟨hB18, hk20⟩ fun a42 h42 => ?_; clear h41
 refine dk0 22 (v := .string y) h42 rfl rfl ⟨hB18, hk20⟩ fun a43 h43 => ?_; clear h42
 refine dk0 23 (v := .agg #[.int .i64 L.boot, .int .i64 L.stream, .int .i64 q, .int .i64 L.peer, .int .i64 L.in0, .int .i64 L.next, .bool h, .string y]) h43 rfl rfl ⟨hB18, hk20⟩ fun a44 h44 => ?_; clear h43
 have hk50 := hk5.kept hg10 (by simp)
 refine d1D 24 h44 rfl rfl (op_storeN rfl rfl rfl (by kernel_rfl) (by kernel_rfl) hk50 rfl) ?_ ?_; clear h44
 ·
  rintro _ w46 ⟨hk47, hz48, hg49⟩
  have hk47' : Blk w46 N3 73 #[.int .i64 L.boot, .int .i64 L.stream, .int .i64 q, .int .i64 L.peer, .int .i64 L.in0, .int .i64 L.next, .bool h, .string y] := hk47; clear hk47
  have hz51 := hg49.size
  have hB52 := hb_at hB18 hg49 (by omega)
  have hk53 := hk20.kept hg49 (by simp; omega)
  exact ⟨hB52, hk53⟩
 rintro _ w46 a45 ⟨hk47, hz48, hg49⟩ h45
 have hk47' : Blk w46 N3 73 #[.int .i64 L.boot, .int .i64 L.stream, .int .i64 q, .int .i64 L.peer, .int .i64 L.in0, .int .i64 L.next, .bool h, .string y] := hk47; clear hk47
 have hz51 := hg49.size
 refine dr_done (by kernel_rfl) ?_
 refine co_then ?_
 refine wp_ret ?_
 refine co_retC (Q := fun _ _ _ => True) h45 rfl rfl hk47' Try.underlying73 rfl (by kernel_rfl) ?_
 have hB52 := hb_at hB18 hg49 (by omega)
 exact ⟨rfl, hB52⟩
end Go.Proofs.Ytpcbgkmnjmiigaa

/- Package link: each, segments as iterators. Conditions: none. -/
namespace Go.Proofs.Ytpcbgkmnjmiigaa
open Go.RowKit Go.Shelf
attribute [local go_sem] Oper.semAt_some
set_option linter.unusedVariables false

theorem roundIn_nL {m m' : Nat} {P : Program} {l : Nat} {f : FuncId} {tmps : Array Value} {asg bd : Code} {w : World} {R : Ending → World → Prop} (h : RoundIn Fence.wide m P l f tmps asg bd w R) : RoundIn Fence.wide m' P l f tmps asg bd w R :=
  ⟨trivial, fun c cs _ => h.2 c cs (room_wide _)⟩
theorem roundIn_rL {m m' l0 : Nat} {P : Program} {l : Nat} {f : FuncId} {tmps : Array Value} {asg bd : Code} {w : World} {R : Ending → World → Prop} (h : RoundIn Fence.wide m P l f tmps asg bd w R) : RoundIn (Fence.wide.inRound l0) m' P l f tmps asg bd w R :=
  ⟨trivial, fun c cs _ => h.2 c cs (room_wide _)⟩
/-- Between two worlds: what lay below n₀, and all blocks but segments and lists of them, and the records from B₀ on, are as they were. -/
structure KT (n₀ B₀ : Nat) (A C : World) : Prop where
  below : Below n₀ A C
  keep : ∀ i T cs, Blk A i T cs → T ≠ 73 → T ≠ 70 → Blk C i T cs
  others : ∀ k o, B₀ ≤ k → A.heap[k]? = some o → o.isCells = false → C.heap[k]? = some o
theorem KT.refl (n₀ B₀ : Nat) (A : World) : KT n₀ B₀ A A := ⟨Below.refl _ _, fun _ _ _ h _ _ => h, fun _ _ _ h _ => h⟩
theorem KT.trans {n₀ B₀ : Nat} {A B C : World} (h : KT n₀ B₀ A B) (k : KT n₀ B₀ B C) : KT n₀ B₀ A C := ⟨h.below.trans k.below, fun i T cs x y z => k.keep i T cs (h.keep i T cs x y z) y z, fun i o hB hi ho => k.others i o hB (h.others i o hB hi ho) ho⟩
theorem KT.mono {n₀ B₀ B₁ : Nat} {A C : World} (h : KT n₀ B₀ A C) (hB : B₀ ≤ B₁) : KT n₀ B₁ A C := ⟨h.below, h.keep, fun i o hi => h.others i o (by omega)⟩
theorem KT.of_below {n₀ B₀ : Nat} {A C : World} (h : Below A.heap.size A C) (hn : n₀ ≤ A.heap.size) : KT n₀ B₀ A C :=
  ⟨h.mono hn, fun i T cs hb _ _ => hb.below h, fun k o _ hk _ => (h.block k (Array.getElem?_eq_some_iff.1 hk).1).trans hk⟩
theorem KT.putObj {n₀ B₀ l : Nat} {W : World} {o : Obj} (o' : Obj) (h : W.heap[l]? = some o) (hc : o.isCells = false) (hn : n₀ ≤ l) (hB : l < B₀) : KT n₀ B₀ W (W.putObj l o') := by
  have hg := grownBy_putObj' W l o'
  refine ⟨(Below.refl n₀ W).grown hg (by have := (Array.getElem?_eq_some_iff.1 h).1; omega) (fun k e => by cases e; omega), fun i T cs hb _ _ => ?_, fun k o2 hk h2 _ => ?_⟩
  · refine hb.kept hg (fun e => ?_)
    cases e
    unfold Blk at hb; rw [hb] at h; cases h; cases hc
  · exact (hg.block k (Array.getElem?_eq_some_iff.1 h2).1 (fun e => by cases e; omega)).trans h2
theorem KT.from {n₀ B₀ B : Nat} {A C : World} (h : KT n₀ B₀ A C) (hB : B₀ ≤ B) : KeepsFrom B A C := ⟨h.below.size, fun k o hk hi ho => h.others k o (by omega) hi ho⟩
theorem KT.box {n₀ B₀ : Nat} {A C : World} (h : KT n₀ B₀ A C) {B : Nat} {t : TypeId} {v : Value} (hb : Boxed A B t v) (h1 : t ≠ 73) (h2 : t ≠ 70) : Boxed C B t v := h.keep B t #[v] hb h1 h2
/-- The first of them. -/
def eachK (L : LnT) (f k : Nat) : List (Int × ByteArray) := (List.range' f k).map fun i : Nat => (L.first + (i : Int), L.q.getD i ⟨#[]⟩)
theorem eachK_snoc (L : LnT) (f k : Nat) : eachK L f (k + 1) = eachK L f k ++ [(L.first + ((f + k : Nat) : Int), L.q.getD (f + k) ⟨#[]⟩)] := by
  unfold eachK; rw [List.range'_1_concat, List.map_append]; rfl
theorem eachK_pre (L : LnT) (f t k : Nat) (h : k ≤ t - f) : eachK L f k <+: eachL L f t := by
  unfold eachK eachL
  refine List.IsPrefix.map _ ?_
  obtain ⟨d, hd⟩ : ∃ d, t - f = k + d := ⟨t - f - k, by omega⟩
  rw [hd, ← List.range'_append_1]
  exact List.prefix_append _ _
theorem strAtL {w : World} {ao : Option Addr} {n cap : Nat} {l : List ByteArray} (h : SliceOf strE 1 w (.slice ao n cap) l) (i : Nat) (hi : i < l.length) : ∃ b off, ao = some ⟨b, off, none⟩ ∧ w.cell? ⟨b, off + i, none⟩ = some (.string (l.getD i ⟨#[]⟩)) := by
  obtain ⟨a', c', e1, _, _, _, hx⟩ := h
  obtain ⟨b, off, e2, hr⟩ := hx i hi
  simp only [Value.slice.injEq] at e1
  refine ⟨b, off, by rw [e1.1, e2], ?_⟩
  rw [List.getD_eq_getElem?_getD, List.getElem?_eq_getElem hi, Option.getD_some]
  simpa using hr 0 _ rfl
set_option maxRecDepth 100000 in
set_option maxHeartbeats 2000000 in
theorem each_in (lp n₀ B₀ Bf Bt Bq b : Nat) (S : Nat → Prop) (u : Value) (L : LnT) (f t : Nat) (J : List (Int × ByteArray) → World → Prop) (ht : t ≤ L.q.length)
    (hY : ∀ pre x A, J pre A → (pre ++ [x]) <+: eachL L f t → YieldAt Fence.wide 1 Try.prog lp #[.int .i64 x.1, .string x.2] A fun e B => e = .returned (.bool true) ∧ J (pre ++ [x]) B ∧ KT n₀ B₀ A B)
    (hJd : ∀ pre X, J pre X → J pre X.drew) (W : World) (hO : LkU 90 S W b u L) (hS : ∀ q, S q → q < n₀) (hn : n₀ ≤ W.heap.size) (hJ : J [] W)
    (hf : Boxed W Bf 3 (.int .i64 f)) (htt : Boxed W Bt 3 (.int .i64 t)) (hq : Boxed W Bq 117 (pt b 2)) :
    CallsIn Fence.wide 2 Try.prog 80 #[.func (.yield lp) #[] #[], .pointer (some ⟨Bf, 0, none⟩), .pointer (some ⟨Bt, 0, none⟩), .pointer (some ⟨Bq, 0, none⟩)] W fun e B => (∃ v, e = .returned v) ∧ J (eachL L f t) B := by
  have cf := hf.cell
  have hok := hO.ok
  have h8 := hok.len; have hfi := hok.first
  have HY := Lib.hid hY; have HD := Lib.hid hJd; have HO := Lib.hid hO; have HS := Lib.hid hS; have HOK := Lib.hid hok
  have HT := Lib.hid htt; have HQ := Lib.hid hq
  clear hY hJd hO hS hf htt hq hok
  refine callsIn_of_wp Try.func80 rfl trivial ?_ rfl
  simp only [Try.ntmps80, List.size_toArray, List.length_cons, List.length_nil, Nat.reduceAdd, Nat.reduceSub, Array.replicate_succ, Array.replicate_zero, List.push_toArray, List.append_toArray, List.nil_append, List.cons_append]
  gi_wp2
  have hmix : Try.prog.follows .mixedOrders = true := by kernel_rfl
  gi_loopw [5] (fun p wr => ∃ k i : Nat, i = f + k ∧ p = .int .i64 (i : Int) ∧ k ≤ t - f ∧ J (eachK L f k) wr ∧ Hid (KT n₀ B₀ W wr)) (fun p wr => t - (intOf p).toNat)
  case atStart => exact ⟨0, f, rfl, rfl, Nat.zero_le _, hJ, Lib.hid (KT.refl _ _ _)⟩
  case round =>
    obtain ⟨k, i, hi, rfl, hk, hJs, HK⟩ := hrel
    have HI := Lib.hid hi
    have ct := (HK.out.box HT.out (by decide) (by decide)).cell
    have cq := (HK.out.box HQ.out (by decide) (by decide)).cell
    simp only [pt] at cq
    by_cases hlt : i < t
    · have hd : decide ((i : Int) < (t : Int)) = true := decide_eq_true (by omega)
      have HU := Lib.hid (HO.out.below HK.out.below HS.out)
      have c2 : wr.cell? ⟨b, 2, none⟩ = some (.int .i64 L.first) := HU.out.blk.cell (k := 2) rfl
      have c3 : wr.cell? ⟨b, 3, none⟩ = some u := HU.out.blk.cell (k := 3) rfl
      have hsl := HU.out.sl
      have hsl' := hsl
      obtain ⟨ao, cap, rfl, hc1, hc2, -, -⟩ := hsl'
      obtain ⟨rb, off, rfl, c4⟩ := strAtL hsl i (by omega)
      obtain ⟨x, hx⟩ : ∃ x, x = L.q.getD i ⟨#[]⟩ := ⟨_, rfl⟩
      rw [← hx] at c4
      have hsn : eachK L f (k + 1) = eachK L f k ++ [(L.first + (i : Int), x)] := by rw [hx, hi]; exact eachK_snoc L f k
      have hp : (eachK L f k ++ [(L.first + (i : Int), x)]) <+: eachL L f t := by rw [← hsn]; exact eachK_pre L f t (k + 1) (by omega)
      obtain ⟨fn, tmps, assign, body, hy, hR⟩ := HY.out _ _ wr.drew (HD.out _ _ hJs) hp
      have HP := Lib.hid hp
      clear hp hsl
      have hw : IntKind.i64.wrap (L.first + (i : Int)) = L.first + (i : Int) := IntWalk.i64_in _ (by omega)
      have hw2 : IntKind.i64.wrap ((i : Int) + 1) = (i : Int) + 1 := IntWalk.i64_in _ (by omega)
      have HSN := Lib.hid hsn
      clear hi hx hsn
      gi_wp2_with fail
      gi_region_with_o (refine (roundIn_nL hR).mono ?_; rintro e W3 ⟨rfl, hJ3, hk3⟩; have HJ3 := Lib.hid hJ3; have HK3 := Lib.hid hk3; clear hJ3 hk3)
      all_goals
        gi_wp2
        go_roundw
        case rel => exact ⟨k + 1, i + 1, by have := HI.out; omega, by go_num, by have := HI.out; omega, by rw [HSN.out]; exact HJ3.out, Lib.hid (HK.out.trans ((KT.of_below (grown_below (drew_grown _)) (by have := HK.out.below.size; omega)).trans HK3.out))⟩
        case measure =>
          show t - ((i : Int) + 1).toNat < t - ((i : Int)).toNat
          omega
    · have hd : decide ((i : Int) < (t : Int)) = false := decide_eq_false (by omega)
      gi_wp2
      go_end0
      refine ⟨⟨_, rfl⟩, ?_⟩
      have : k = t - f := by omega
      subst this
      exact hJs
end Go.Proofs.Ytpcbgkmnjmiigaa

/- Package link: segments as an iterator. Conditions: none. -/
namespace Go.Proofs.Ytpcbgkmnjmiigaa
open Go.RowKit Go.Shelf
attribute [local go_sem] Oper.semAt_some
set_option linter.unusedVariables false
/-- A region whose ways all end alike. -/
theorem reg_cut {F : Fence} {n : Nat} {P : Program} {c : Code} {Q : Exit → Act → World → Prop} {a : Act} {w : World} (A : Act) (W : World) (h : c.wpIn F n P (Exit.then (fun a' w' => a' = A ∧ w' = W) (fun _ _ _ => False)) a w) (hQ : Q .normal A W) : c.wpIn F n P Q a w :=
  wpIn_mono h fun e a' w' he => by
    cases e with
    | normal => obtain ⟨rfl, rfl⟩ := he; exact hQ
    | ret => exact he.elim
    | exit id => exact he.elim
    | goto t => exact he.elim
    | panic ch => exact he.elim
    | outgrown => exact he.elim
theorem reg_cutM {F : Fence} {n : Nat} {P : Program} {c : Code} {Q : Exit → Act → World → Prop} {a : Act} {w : World} (M : World → Prop) (A : Act) (h : c.wpIn F n P (Exit.then (fun a' w' => a' = A ∧ M w') (fun _ _ _ => False)) a w) (hQ : ∀ W, M W → Q .normal A W) : c.wpIn F n P Q a w :=
  wpIn_mono h fun e a' w' he => by
    cases e with
    | normal => obtain ⟨rfl, hm⟩ := he; exact hQ _ hm
    | ret => exact he.elim
    | exit id => exact he.elim
    | goto t => exact he.elim
    | panic ch => exact he.elim
    | outgrown => exact he.elim
set_option maxHeartbeats 1000000 in
theorem each_any (b : Nat) (f t : Nat) (w : World) :
    CallsIn Fence.wide 2 Try.prog 63 #[pt b 2, .int .i64 f, .int .i64 t] w fun e w' => e = .returned (.func (.func 80) #[] #[.pointer (some ⟨w.heap.size + 1, 0, none⟩), .pointer (some ⟨w.heap.size + 1 + 1, 0, none⟩), .pointer (some ⟨w.heap.size, 0, none⟩)]) ∧
      w' = ((w.alloc (.cells #[pt b 2] 117)).alloc (.cells #[.int .i64 f] 3)).alloc (.cells #[.int .i64 t] 3) := by
  refine callsIn_of_wp Try.func63 rfl trivial ?_ rfl
  simp only [pt, Try.ntmps63, List.size_toArray, List.length_cons, List.length_nil, Nat.reduceAdd, Nat.reduceSub, Array.replicate_succ, Array.replicate_zero, List.push_toArray, List.append_toArray, List.nil_append, List.cons_append]
  gi_wp2
  go_ret
  exact ⟨rfl, rfl⟩
set_option maxHeartbeats 1000000 in
theorem segments_any (b : Nat) (f t : Nat) (w : World) :
    CallsIn Fence.wide 2 Try.prog 39 #[pt b 0, .int .i64 f, .int .i64 t] w fun e w' => e = .returned (.func (.func 62) #[] #[.pointer (some ⟨w.heap.size, 0, none⟩), .pointer (some ⟨w.heap.size + 1, 0, none⟩), .pointer (some ⟨w.heap.size + 1 + 1, 0, none⟩)]) ∧
      w' = ((w.alloc (.cells #[pt b 0] 53)).alloc (.cells #[.int .i64 f] 3)).alloc (.cells #[.int .i64 t] 3) := by
  refine callsIn_of_wp Try.func39 rfl trivial ?_ rfl
  simp only [pt, Try.ntmps39, List.size_toArray, List.length_cons, List.length_nil, Nat.reduceAdd, Nat.reduceSub, Array.replicate_succ, Array.replicate_zero, List.push_toArray, List.append_toArray, List.nil_append, List.cons_append]
  gi_wp2
  go_ret
  exact ⟨rfl, rfl⟩
theorem KT.grown {n₀ B₀ : Nat} {A X Y : World} {row : Option Nat} (h : KT n₀ B₀ A X) (hg : X.grownBy Y row) (hr : ∀ r, row = some r → A.heap.size ≤ r) (hn : n₀ ≤ A.heap.size) : KT n₀ B₀ A Y :=
  ⟨h.below.grown hg (Nat.le_trans hn h.below.size) (fun k e => Nat.le_trans hn (hr k e)), fun i T cs hb h1 h2 => (h.keep i T cs hb h1 h2).kept hg (fun e => by have := hr i e; have := hb.lt; omega),
   fun k o hB hk ho => (hg.block k (Array.getElem?_eq_some_iff.1 (h.others k o hB hk ho)).1 (fun e => by have := hr k e.symm; have := (Array.getElem?_eq_some_iff.1 hk).1; omega)).trans (h.others k o hB hk ho)⟩
theorem each_seq (n₀ B₀ Bf Bt Bq b : Nat) (S : Nat → Prop) (u : Value) (L : LnT) (f t : Nat) (w0 : World) (ht : t ≤ L.q.length) (hO : LkU 90 S w0 b u L) (hS : ∀ q, S q → q < n₀) (hn : n₀ ≤ w0.heap.size)
    (hf : Boxed w0 Bf 3 (.int .i64 f)) (htt : Boxed w0 Bt 3 (.int .i64 t)) (hq : Boxed w0 Bq 117 (pt b 2)) :
    SeqE Try.prog 80 #[.pointer (some ⟨Bf, 0, none⟩), .pointer (some ⟨Bt, 0, none⟩), .pointer (some ⟨Bq, 0, none⟩)] (fun x : Int × ByteArray => #[.int .i64 x.1, .string x.2]) (KT n₀ B₀) (eachL L f t) w0 :=
  fun lp J W hW _ hJ hY h0 => each_in lp n₀ B₀ Bf Bt Bq b S u L f t J ht hY (fun pre X h => hJ pre X X.drew none h (drew_grown X) (fun _ e => nomatch e)) W (hO.gr (below_grown hW) (fun q e => nomatch e)) hS (Nat.le_trans hn hW.size) h0
    (hf.kept (below_grown hW) (by simp)) (htt.kept (below_grown hW) (by simp)) (hq.kept (below_grown hW) (by simp))
theorem seg_in (b : Nat) (u : Value) (L : LnT) (q : Int) (h : Bool) (y : ByteArray) (w : World) (hB : Blk w b 90 (lnC L u)) (hok : LnOk L) (n : Nat) :
    CallsIn Fence.wide n Try.prog 64 #[.pointer (some ⟨b, 0, none⟩), .int .i64 q, .bool h, .string y] w fun e w' => e = .returned (.agg #[.int .i64 L.boot, .int .i64 L.stream, .int .i64 q, .int .i64 L.peer, .int .i64 L.in0, .int .i64 L.next, .bool h, .string y]) ∧ Below w.heap.size w w' :=
  callsIn_wide.2 (lkSegment_blk b u L q h y w hB hok)
theorem eachL_len (L : LnT) (f t : Nat) : (eachL L f t).length = t - f := by unfold eachL; simp
set_option maxRecDepth 100000 in
set_option maxHeartbeats 2000000 in
theorem segs_seq (n₀ Bl Bf Bt b : Nat) (S : Nat → Prop) (u : Value) (L : LnT) (f t : Nat) (w0 : World) (hO : LkU 90 S w0 b u L) (hS : ∀ q, S q → q < n₀) (hn : n₀ ≤ w0.heap.size) (ht : t ≤ L.q.length)
    (hl : Boxed w0 Bl 53 (pt b 0)) (hf : Boxed w0 Bf 3 (.int .i64 f)) (htt : Boxed w0 Bt 3 (.int .i64 t)) :
    SeqE Try.prog 62 #[.pointer (some ⟨Bl, 0, none⟩), .pointer (some ⟨Bf, 0, none⟩), .pointer (some ⟨Bt, 0, none⟩)] (fun g : SegT => #[segV g]) (KT n₀ (w0.heap.size + 2)) (segsL L f t) w0 := by
  intro lp J W hW hW2 hJ hY h0
  have hO1 := hO.gr (below_grown hW) (fun q e => nomatch e)
  have hl1 := hl.kept (below_grown hW) (by simp); have hf1 := hf.kept (below_grown hW) (by simp); have ht1 := htt.kept (below_grown hW) (by simp)
  obtain ⟨N, hN⟩ : ∃ N, N = W.heap.size := ⟨_, rfl⟩
  obtain ⟨W1, hW1⟩ : ∃ W1, W1 = W.alloc (.cells #[.func (.yield lp) #[] #[]] 112) := ⟨_, rfl⟩
  have bY : Boxed W1 N 112 (.func (.yield lp) #[] #[]) := by rw [hW1, hN]; exact Boxed.new W _ _
  have hb1 : Below W.heap.size W W1 := by rw [hW1]; exact (Below.refl _ W).alloc (Nat.le_refl _) _
  have hz1 : W1.heap.size = N + 1 := by rw [hW1, hN]; simp
  have hO1 := hO1.gr (below_grown hb1) (fun q e => nomatch e)
  have hl1 := hl1.kept (below_grown hb1) (by simp); have hf1 := hf1.kept (below_grown hb1) (by simp); have ht1 := ht1.kept (below_grown hb1) (by simp)
  have h0 := hJ _ _ _ none h0 (below_grown hb1) (fun r e => nomatch e)
  have cl := hl1.cell; have cf := hf1.cell; have ct := ht1.cell
  have HO := Lib.hid hO1; have HS := Lib.hid hS; have HL := Lib.hid hl1; have HF := Lib.hid hf1; have HT := Lib.hid ht1; have HY := Lib.hid hY; have HJ := Lib.hid hJ; have HN := Lib.hid hN; have HB1 := Lib.hid hb1; have BY := Lib.hid bY; have HZ1 := Lib.hid hz1
  clear hO hl hf htt hO1 hl1 hf1 ht1 hY hJ hS hW hN hb1 bY hz1
  simp only [pt] at cl
  refine callsIn_of_wp_marks Try.func62 rfl trivial ?_ rfl
  simp only [Try.ntmps62, List.size_toArray, List.length_cons, List.length_nil, Nat.reduceAdd, Nat.reduceSub, Array.replicate_succ, Array.replicate_zero, List.push_toArray, List.append_toArray, List.nil_append, List.cons_append]
  have hmix : Try.prog.follows .mixedOrders = true := by kernel_rfl
  gi_wp2_with fail
  rw [← HN.out, ← hW1]; clear hW1
  apply reg_cut
  · gi_region_with_o (refine ⟨trivial, ?_⟩; gi_at_call 63; refine (callsIn_wide.2 (callsIn_wide.1 (each_any b f t _))).mono ?_; rintro e w' ⟨rfl, rfl⟩)
    all_goals exact ⟨rfl, rfl⟩
  gi_wp2_with fail
  obtain ⟨W2, hW2'⟩ : ∃ W2, W2 = (((W1.alloc (.cells #[pt b 2] 117)).alloc (.cells #[.int .i64 f] 3)).alloc (.cells #[.int .i64 t] 3)).drew := ⟨_, rfl⟩
  have bQ : Boxed W2 W1.heap.size 117 (pt b 2) := by rw [hW2']; exact (((Boxed.new W1 _ _).alloc _).alloc _).kept (drew_grown _) (by simp)
  have bF : Boxed W2 (W1.heap.size + 1) 3 (.int .i64 f) := by
    have h := ((Boxed.new (W1.alloc (.cells #[pt b 2] 117)) 3 (.int .i64 f)).alloc (.cells #[.int .i64 t] 3)).kept (drew_grown _) (by simp)
    rw [World.size_alloc] at h; rw [hW2']; exact h
  have bT : Boxed W2 (W1.heap.size + 1 + 1) 3 (.int .i64 t) := by
    have h := (Boxed.new ((W1.alloc (.cells #[pt b 2] 117)).alloc (.cells #[.int .i64 f] 3)) 3 (.int .i64 t)).kept (drew_grown _) (by simp)
    rw [World.size_alloc, World.size_alloc] at h; rw [hW2']; exact h
  have hb2 : Below W1.heap.size W1 W2 := by rw [hW2']; exact ((((Below.refl _ W1).alloc (Nat.le_refl _) _).alloc (by simp) _).alloc (by simp; omega) _).trans ((grown_below (drew_grown _)).mono (by simp; omega))
  have hz2 : W2.heap.size = W1.heap.size + 3 := by rw [hW2']; show ((((W1.alloc _).alloc _).alloc _).heap.size) = _; simp
  rw [← hW2']; clear hW2'
  have hO2 := HO.out.gr (below_grown hb2) (fun q e => nomatch e)
  have h02 := HJ.out _ _ _ none h0 (below_grown hb2) (fun r e => nomatch e)
  have hl2 := HL.out.kept (below_grown hb2) (by simp); have hf2 := HF.out.kept (below_grown hb2) (by simp); have ht2 := HT.out.kept (below_grown hb2) (by simp); have hy2 := BY.out.kept (below_grown hb2) (by simp)
  have hWs : W.heap.size ≤ W2.heap.size := by have := HB1.out.size; omega
  have hn2 : n₀ ≤ W2.heap.size := by omega
  have hI : OwnFrom W2.heap.size (fun (pre : List (Int × ByteArray)) X => J (pre.map fun p => L.seg p.1 true p.2) X ∧ KT n₀ (w0.heap.size + 2) W2 X) := fun pre X Y row hs hg hr =>
    ⟨HJ.out _ X Y row hs.1 hg (fun r e => ⟨Nat.le_trans hWs (hr r e).1, (hr r e).2⟩), hs.2.grown hg (fun r e => (hr r e).1) hn2⟩
  have HO2 := Lib.hid hO2; have HL2 := Lib.hid hl2; have HF2 := Lib.hid hf2; have HT2 := Lib.hid ht2; have HY2 := Lib.hid hy2; have HN2 := Lib.hid hn2; have HWS := Lib.hid hWs; have HW2 := Lib.hid hW2; have HLT := Lib.hid ht
  refine rf_all (gf := 80) (lb := #[.pointer (some ⟨W1.heap.size + 1, 0, none⟩), .pointer (some ⟨W1.heap.size + 1 + 1, 0, none⟩), .pointer (some ⟨W1.heap.size, 0, none⟩)]) rfl (enters_of Try.func80 (by kernel_rfl) rfl)
    (each_seq n₀ (W2.heap.size + 2) _ _ _ b S u L f t W2 ht hO2 HS.out hn2 bF bT bQ) (fun _ => rfl) KT.trans (fun X o o' h hc => KT.putObj o' h hc (by omega) (by omega))
    (fun pre X => J (pre.map fun p => L.seg p.1 true p.2) X ∧ KT n₀ (w0.heap.size + 2) W2 X) hI ⟨h02, KT.refl _ _ _⟩
    (fun x a' _ => a' = { tmps := #[.func (.yield lp) #[] #[], .pointer (some ⟨Bl, 0, none⟩), .pointer (some ⟨Bf, 0, none⟩), .pointer (some ⟨Bt, 0, none⟩), .pointer (some ⟨N, 0, none⟩), .int .i64 x.1, .string x.2, .pointer (some ⟨b, 0, none⟩), .pointer (some ⟨b, 0, none⟩), .pointer (some ⟨b, 2, none⟩), .int .i64 f, .int .i64 t, .func (.func 80) #[] #[.pointer (some ⟨W1.heap.size + 1, 0, none⟩), .pointer (some ⟨W1.heap.size + 1 + 1, 0, none⟩), .pointer (some ⟨W1.heap.size, 0, none⟩)], .int .i64 x.1, .string x.2, undef, undef, undef, undef, undef, undef, undef, undef, undef, undef, undef, undef, undef, undef, undef, undef, undef, undef, undef, undef, undef, undef, undef, undef, undef], defers := [] })
    (fun x a' _ X Y row hs hg hr => hs) ?assign ?body ?done
  case assign =>
    rintro l pre ⟨x1, x2⟩ X K hX hK
    have HX := Lib.hid hX; have HZ := Lib.hid hz2; clear hX hz2 hI bQ bF bT hb2 hO2 h02 hl2 hf2 ht2 hy2 hWs hn2
    gi_wp2
    exact hK _ _ (KeepsFrom.refl _ _) (KT.refl _ _ _) HX.out rfl
  case body =>
    rintro l pre ⟨x1, x2⟩ a' X hl hlt ⟨hJX, hKX⟩ rfl hp
    have cY := (hKX.box HY2.out (by decide) (by decide)).cell
    have cL := (hKX.box HL2.out (by decide) (by decide)).cell
    simp only [pt] at cL
    have hU := HO2.out.below hKX.below HS.out
    have hft : f < t := by have := hp.length_le; rw [eachL_len] at this; simp at this; omega
    have hpre : (pre.map fun p => L.seg p.1 true p.2) ++ [L.seg x1 true x2] <+: segsL L f t := by
      unfold segsL; rw [if_neg (by omega)]; unfold outsL
      have h := hp.map fun p : Int × ByteArray => L.seg p.1 true p.2
      rwa [List.map_append] at h
    have HU := Lib.hid hU; have HKX := Lib.hid hKX; have HZ := Lib.hid hz2; have HP := Lib.hid hpre; have HJX := Lib.hid hJX
    have hnl : N < X.heap.size := by have := HZ1.out; have := hKX.below.size; omega
    have hbl : b < X.heap.size := hU.blk.lt
    clear hJX hKX hz2 hU hp hpre hI bQ bF bT hb2 hO2 h02 hl2 hf2 ht2 hy2 hWs hn2
    have hrw : W2.heap.size ≤ X.heap.size := HKX.out.below.size
    gi_wp2_with fail
    gi_region_with_o (first
      | (refine ⟨trivial, ?_⟩; gi_at_call 64; refine (CallsIn.inRound l (seg_in b u L x1 true x2 X.drew (HU.out.gr (drew_grown _) (fun q e => nomatch e)).blk HU.out.ok _)).mono ?_; rintro e w2 ⟨rfl, hb2⟩; have cY2 : w2.cell? ⟨N, 0, none⟩ = some (.func (.yield lp) #[] #[]) := cell_below hb2 cY; have hJ2 := HJ.out _ _ _ none (HJ.out _ _ _ none HJX.out (drew_grown X) (fun r e => nomatch e)) (below_grown hb2) (fun r e => nomatch e); obtain ⟨fn, tmps, assign, body, hy, hR⟩ := HY.out _ _ w2 hJ2 HP.out; dsimp only [segV, LnT.seg] at hy; have HB2 := Lib.hid hb2; clear hb2 hJ2)
      | (refine (roundIn_rL hR).mono ?_; rintro e W3 ⟨rfl, hJ3, hk3⟩; have HJ3 := Lib.hid hJ3; have HK3 := Lib.hid hk3; clear hJ3 hk3))
    all_goals
      gi_wp2
      have hkt : KT n₀ (w0.heap.size + 2) X W3 := ((KT.of_below (grown_below (drew_grown X)) (by have := HN2.out; omega)).trans (KT.of_below HB2.out (by show n₀ ≤ X.heap.size; have := HN2.out; omega))).trans HK3.out
      exact ⟨hkt.from (by have := HW2.out; have := HWS.out; omega), hkt.mono (by have := HW2.out; have := HWS.out; omega), by rw [List.map_append]; exact HJ3.out, HKX.out.trans hkt⟩
  case done =>
    rintro D X hD ⟨hJX, hKX⟩ hdf
    have cF := (hKX.box HF2.out (by decide) (by decide)).cell
    have cT := (hKX.box HT2.out (by decide) (by decide)).cell
    have cY := (hKX.box HY2.out (by decide) (by decide)).cell
    have cL := (hKX.box HL2.out (by decide) (by decide)).cell
    simp only [pt] at cL
    have hU := HO2.out.below hKX.below HS.out
    have c8 : X.cell? ⟨b, 8, none⟩ = some (.bool L.owes) := hU.blk.cell (k := 8) rfl
    have c2 : X.cell? ⟨b, 2, none⟩ = some (.int .i64 L.first) := hU.blk.cell (k := 2) rfl
    have HU := Lib.hid hU; have HKX := Lib.hid hKX; have HJX := Lib.hid hJX; have HD := Lib.hid hdf; have HDD := Lib.hid hD
    clear hJX hKX hz2 hU hdf hD hI bQ bF bT hb2 hO2 h02 hl2 hf2 ht2 hy2 hWs hn2
    by_cases hft : t ≤ f
    · have d1 : decide ((f : Int) ≥ (t : Int)) = true := decide_eq_true (by omega)
      have hnil : (eachL L f t) = [] := List.eq_nil_of_length_eq_zero (by rw [eachL_len]; omega)
      have HJ0 := Lib.hid (show J [] X by have h := HJX.out; rw [hnil] at h; exact h)
      cases ho : L.owes with
      | true =>
        rw [ho] at c8
        have hsg : segsL L f t = [L.seg L.first false ⟨#[]⟩] := by unfold segsL; rw [if_pos hft, if_pos ho]
        have HSG := Lib.hid hsg; clear hsg ho
        gi_wp2_with fail
        apply reg_cutM (M := fun Y => J [L.seg L.first false ⟨#[]⟩] Y ∧ Y.heap[D]? = some (.deferred (some [])))
        · gi_region_with_o (first
            | (refine ⟨trivial, ?_⟩; gi_at_call 64; refine (seg_in b u L L.first false ⟨#[]⟩ X.drew (HU.out.gr (drew_grown _) (fun q e => nomatch e)).blk HU.out.ok _).mono ?_; rintro e w2 ⟨rfl, hb2⟩; have cY2 : w2.cell? ⟨N, 0, none⟩ = some (.func (.yield lp) #[] #[]) := cell_below hb2 cY; have hJ2 := HJ.out _ _ _ none (HJ.out _ _ _ none HJ0.out (drew_grown X) (fun r e => nomatch e)) (below_grown hb2) (fun r e => nomatch e); obtain ⟨fn, tmps, assign, body, hy, hR⟩ := HY.out [] (L.seg L.first false ⟨#[]⟩) w2 hJ2 (by rw [HSG.out]; exact List.prefix_rfl); dsimp only [segV, LnT.seg] at hy; have HB2 := Lib.hid hb2; clear hb2 hJ2)
            | (refine (roundIn_nL hR).mono ?_; rintro e W3 ⟨rfl, hJ3, hk3⟩; have HJ3 := Lib.hid hJ3; have HK3 := Lib.hid hk3; clear hJ3 hk3))
          all_goals
            have hd3 : W3.heap[D]? = some (.deferred (some [])) := HK3.out.others D _ (by have := HW2.out; have := HWS.out; have := HDD.out; omega) ((HB2.out.block D (Array.getElem?_eq_some_iff.1 (show X.drew.heap[D]? = some (.deferred (some [])) from HD.out)).1).trans (show X.drew.heap[D]? = some (.deferred (some [])) from HD.out)) rfl
            exact ⟨rfl, HJ3.out, hd3⟩
        rintro W3 ⟨hJ3, hd3⟩
        have HJ3 := Lib.hid hJ3; have HD3 := Lib.hid hd3; clear hJ3 hd3
        gi_wp2
        refine ⟨by simp, .inl ⟨_, _, rfl, run_takeDeferred HD3.out, ?_⟩⟩
        exact ⟨_, results_none rfl _ _ _, ⟨_, rfl⟩, by rw [HSG.out]; exact HJ.out _ _ _ (some D) HJ3.out (grownBy_putObj' _ _ _) (fun r e => by cases e; exact ⟨by have := HWS.out; have := HDD.out; omega, _, HD3.out, rfl⟩)⟩
      | false =>
        rw [ho] at c8
        have hsg : segsL L f t = [] := by unfold segsL; rw [if_pos hft, if_neg (by simp [ho])]
        have HSG := Lib.hid hsg; clear hsg ho
        gi_wp2
        refine ⟨by simp, .inl ⟨_, _, rfl, run_takeDeferred HD.out, ?_⟩⟩
        exact ⟨_, results_none rfl _ _ _, ⟨_, rfl⟩, by rw [HSG.out]; exact HJ.out _ _ _ (some D) HJ0.out (grownBy_putObj' _ _ _) (fun r e => by cases e; exact ⟨by have := HWS.out; have := HDD.out; omega, _, HD.out, rfl⟩)⟩
    · have d1 : decide ((f : Int) ≥ (t : Int)) = false := decide_eq_false (by omega)
      have hsg : segsL L f t = outsL L f t := by unfold segsL; rw [if_neg hft]
      have HSG := Lib.hid hsg; clear hsg
      gi_wp2
      refine ⟨by simp, .inl ⟨_, _, rfl, run_takeDeferred HD.out, ?_⟩⟩
      exact ⟨_, results_none rfl _ _ _, ⟨_, rfl⟩, by rw [HSG.out]; exact HJ.out _ _ _ (some D) HJX.out (grownBy_putObj' _ _ _) (fun r e => by cases e; exact ⟨by have := HWS.out; have := HDD.out; omega, _, HD.out, rfl⟩)⟩
end Go.Proofs.Ytpcbgkmnjmiigaa

/- Package link: Out. Conditions: none. -/
namespace Go.Proofs.Ytpcbgkmnjmiigaa
open Go.RowKit Go.Shelf
attribute [local go_sem] Oper.semAt_some
set_option linter.unusedVariables false
theorem info_segL : (Try.prog.info? 73).map (fun i => (i.zero, i.size, i.bytes)) = some (some (.agg #[.int .i64 0, .int .i64 0, .int .i64 0, .int .i64 0, .int .i64 0, .int .i64 0, .bool false, .string ⟨#[]⟩]), 8, 72) := by kernel_rfl
theorem KT.row {n₀ B₀ B k : Nat} {X Y : World} {v : Value} {xs : List Value} (hr : X.ownsRow B 73 8 v k xs) (hB : n₀ ≤ B) (hn : n₀ ≤ X.heap.size) (hg : X.grownBy Y v.ownBlock) : KT n₀ B₀ X Y := by
  refine ⟨(Below.refl n₀ X).grown hg hn (fun j e => Nat.le_trans hB (hr.lt j e).1), fun i T cs hb h1 h2 => hb.kept hg (fun e => ?_), fun i o hB0 ho hc => (hg.block i (Array.getElem?_eq_some_iff.1 ho).1 (fun e => ?_)).trans ho⟩
  · obtain ⟨cs2, h3⟩ := row_block hr e
    unfold Blk at hb; rw [hb] at h3; cases h3; exact h1 rfl
  · obtain ⟨cs2, h3⟩ := row_block hr e.symm
    rw [ho] at h3; cases h3; cases hc
theorem KT.set {n₀ B₀ N : Nat} {X : World} {u v : Value} (h : Boxed X N 70 u) (hn : n₀ ≤ N) : KT n₀ B₀ X (X.setCell ⟨N, 0, none⟩ v) := by
  have hg := grownBy_setCell' X N v
  have hl := h.lt
  refine ⟨(Below.refl n₀ X).grown hg (by omega) (fun j e => by cases e; exact hn), fun i T cs hb h1 h2 => hb.kept hg (fun e => ?_), fun i o hB0 ho hc => (hg.block i (Array.getElem?_eq_some_iff.1 ho).1 (fun e => ?_)).trans ho⟩
  · cases e; unfold Blk at hb; rw [show X.heap[N]? = _ from h] at hb; cases hb; exact h2 rfl
  · cases e; rw [show X.heap[N]? = _ from h] at ho; cases ho; cases hc
theorem own_lowL {w : World} {B B' : Nat} {e : TypeId} {k : Nat} {v : Value} {n : Nat} {xs : List Value} (h : w.ownsRow B e k v n xs) (hb : B' ≤ B) : w.ownsRow B' e k v n xs := row_lows h hb
theorem own_sliceL {W : World} {base : Nat} {e : TypeId} {size : Nat} {v : Value} {k : Nat} {xs : List Value} (h : W.ownsRow base e size v k xs) : ∃ ao n cap, v = .slice ao n cap := by
  rcases h.2 with ⟨rfl, _⟩ | ⟨g, cap, cur, rfl, _⟩
  · exact ⟨_, _, _, rfl⟩
  · exact ⟨_, _, _, rfl⟩
theorem segsL_len (L : LnT) (f t : Nat) (ht : t ≤ 8) : (segsL L f t).length ≤ 8 := by
  unfold segsL
  split
  · split <;> simp
  · unfold outsL; rw [List.length_map, eachL_len]; omega
/-- The variable of the loop. -/
def Ql (W : World) (B : Nat) (x : SegT) : Prop := W.heap[B]? = some (.cells #[.int .i64 x.boot, .int .i64 x.stream, .int .i64 x.seq, .int .i64 x.ab, .int .i64 x.ast, .int .i64 x.asq, .bool x.has, .string x.body] 73 (0, 0))
theorem Ql.lt {W : World} {B : Nat} {x : SegT} (h : Ql W B x) : B < W.heap.size := (Array.getElem?_eq_some_iff.1 h).1
theorem Ql.own (B : Nat) (x : SegT) : Own (fun (_ : Unit) W => Ql W B x) := fun _ X Y row hs hg hrow =>
  (hg.block B (Ql.lt hs) (fun e' => by obtain ⟨o, ho, hc⟩ := hrow B e'.symm; rw [show X.heap[B]? = _ from hs] at ho; cases ho; cases hc)).trans hs
theorem grown_but' {row : Option Nat} {w x : World} (h : w.grownBy x row) : But (fun k => row = some k) w x := ⟨h.os, h.tape, h.output, h.size, fun k hk hn => h.block k hk (fun e => hn e.symm)⟩
set_option maxRecDepth 100000 in
set_option maxHeartbeats 4000000 in
theorem lkOut_false (S : Nat → Prop) (w : World) (b : Nat) (u : Value) (L : LnT) (h : LkU 90 S w b u L) :
    Calls Try.prog 26 #[.pointer (some ⟨b, 0, none⟩), .bool false] w fun e w' => ∃ v, e = .returned v ∧ LkU 90 S w' b u (outN L) ∧ Grew S S w w' ∧ w'.ownsRow w.heap.size 73 8 v (outT L false).length ((outT L false).flatMap segE) := by
  obtain ⟨i0, hi, hz0, hz1, hz2⟩ := info_parts info_segL
  obtain ⟨f0, hf0⟩ : ∃ f : Nat, L.told = (f : Int) := ⟨L.told.toNat, by have := h.ok.told; omega⟩
  obtain ⟨t, htt⟩ : ∃ t : Nat, t = L.to := ⟨_, rfl⟩
  have hto := L.to_le
  rw [← htt] at hto
  have h8 := h.ok.len; have h4 := h.ok.told
  have hSS := h.2.2.1; have hub := h.2.2.2.1
  have hbl := h.blk.lt
  have c4 : w.cell? ⟨b, 4, none⟩ = some (.int .i64 (f0 : Int)) := by rw [← hf0]; exact h.blk.cell (k := 4) rfl
  have c3 : w.cell? ⟨b, 3, none⟩ = some u := h.blk.cell (k := 3) rfl
  have hmin : min (4 : Int) (L.q.length : Int) = (t : Int) := by rw [htt]; unfold LnT.to; omega
  have hfr : (segsL L f0 t) = outT L false := by unfold outT LnT.fr; rw [htt]; simp; try (rw [hf0]; rfl)
  have hsl := h.sl
  obtain ⟨ao, cap, rfl, hc1, hc2, -, -⟩ := hsl
  obtain ⟨N, hN⟩ : ∃ N, N = w.heap.size := ⟨_, rfl⟩
  obtain ⟨V, hV⟩ : ∃ V, V = (w.alloc (.cells #[.slice none 0 0] 70)).drew := ⟨_, rfl⟩
  have bO : Boxed V N 70 (.slice none 0 0) := by rw [hV, hN]; exact (Boxed.new w _ _).kept (drew_grown _) (by simp)
  have hBV : Below w.heap.size w V := by rw [hV]; exact ((Below.refl _ w).alloc (Nat.le_refl _) _).trans ((grown_below (drew_grown _)).mono (by simp))
  have hVz : V.heap.size = N + 1 := by rw [hV, hN]; show (w.alloc _).heap.size = _; simp
  have H := Lib.hid h; have HT := Lib.hid htt; have HF := Lib.hid hf0; have HFR := Lib.hid hfr; have HBV := Lib.hid hBV; have BO := Lib.hid bO; have HVZ := Lib.hid hVz; have HSS := Lib.hid hSS; have HUB := Lib.hid hub; have HN := Lib.hid hN
  clear h hf0 htt hfr hBV bO hVz hSS hub hN
  refine (callsIn_wide (n := 3)).1 ?_
  refine callsIn_of_wp_marks Try.func26 rfl trivial ?_ rfl
  simp only [Try.ntmps26, List.size_toArray, List.length_cons, List.length_nil, Nat.reduceAdd, Nat.reduceSub, Array.replicate_succ, Array.replicate_zero, List.push_toArray, List.append_toArray, List.nil_append, List.cons_append]
  have hmix : Try.prog.follows .mixedOrders = true := by kernel_rfl
  gi_wp2_with (refine ⟨trivial, ?_⟩; gi_at_call 37; refine (callsIn_wide.2 (lkZero_blk b _ L w H.out.blk H.out.ok)).mono ?_; rintro e w1 ⟨rfl, rfl⟩)
  apply reg_cut
  · gi_region_with_o (fail)
    all_goals exact ⟨rfl, rfl⟩
  gi_wp2_with fail
  rw [← hV, ← HN.out]; clear hV
  refine ⟨trivial, ?_⟩
  refine (callsIn_wide.2 (callsIn_wide.1 (segments_any b f0 t V))).mono ?_
  rintro e w' ⟨rfl, rfl⟩
  gi_wp2_with fail
  obtain ⟨W0, hW0⟩ : ∃ W0, W0 = ((V.alloc (.cells #[pt b 0] 53)).alloc (.cells #[.int .i64 (f0 : Nat)] 3)).alloc (.cells #[.int .i64 t] 3) := ⟨_, rfl⟩
  have bl : Boxed W0 V.heap.size 53 (pt b 0) := by rw [hW0]; exact ((Boxed.new V _ _).alloc _).alloc _
  have bf : Boxed W0 (V.heap.size + 1) 3 (.int .i64 (f0 : Nat)) := by
    have h := (Boxed.new (V.alloc (.cells #[pt b 0] 53)) 3 (.int .i64 (f0 : Nat))).alloc (.cells #[.int .i64 t] 3)
    rw [World.size_alloc] at h; rw [hW0]; exact h
  have bt : Boxed W0 (V.heap.size + 1 + 1) 3 (.int .i64 t) := by
    have h := Boxed.new ((V.alloc (.cells #[pt b 0] 53)).alloc (.cells #[.int .i64 (f0 : Nat)] 3)) 3 (.int .i64 t)
    rw [World.size_alloc, World.size_alloc] at h; rw [hW0]; exact h
  have hb0 : Below V.heap.size V W0 := by rw [hW0]; exact (((Below.refl _ V).alloc (Nat.le_refl _) _).alloc (by simp) _).alloc (by simp; omega) _
  have hz0' : W0.heap.size = N + 4 := by rw [hW0]; have := HVZ.out; simp; omega
  rw [← hW0]; clear hW0
  have bO0 := BO.out.kept (below_grown hb0) (by simp)
  have hBw : Below N w W0 := HN.out ▸ HBV.out.trans (hb0.mono (HBV.out.size))
  have hO0 := H.out.gr (below_grown (HN.out ▸ hBw)) (fun q e => nomatch e)
  have hSN : ∀ q, S q → q < N := fun q hq => by rw [HN.out]; exact H.out.ofS q hq
  have hNW : N ≤ W0.heap.size := by omega
  have HSN := Lib.hid hSN; have HZ := Lib.hid hz0'; have HNW := Lib.hid hNW
  refine rf_all (gf := 62) (lb := #[.pointer (some ⟨V.heap.size, 0, none⟩), .pointer (some ⟨V.heap.size + 1, 0, none⟩), .pointer (some ⟨V.heap.size + 1 + 1, 0, none⟩)]) rfl (enters_of Try.func62 (by kernel_rfl) rfl)
    (segs_seq N _ _ _ b S _ L (f0) t W0 hO0 hSN (by omega) (by omega) bl bf bt) (fun _ => rfl) KT.trans (fun X o o' h hc => KT.putObj o' h hc (by omega) (by omega))
    (fun pre X => (∃ v, Boxed X N 70 v ∧ X.ownsRow (N + 4) 73 8 v pre.length (pre.flatMap segE) ∧ True) ∧ Below N w X) ?hI ⟨⟨_, bO0, World.ownsRow_nil _ _ _ _, trivial⟩, hBw⟩
    (fun x a' X => ∃ Bx, N < Bx ∧ Ql X Bx x ∧ a' = { tmps := #[.pointer (some ⟨b, 0, none⟩), .bool false, undef, undef, .slice none 0 0, .int .i64 (f0 : Int), .int .i64 t, .pointer (some ⟨N, 0, none⟩), .pointer (some ⟨Bx, 0, none⟩), .pointer (some ⟨b, 0, none⟩), .bool false, .pointer (some ⟨b, 0, none⟩), .pointer (some ⟨b, 0, none⟩), .pointer (some ⟨b, 4, none⟩), .int .i64 (f0 : Int), .pointer (some ⟨b, 0, none⟩), .pointer (some ⟨b, 0, none⟩), .pointer (some ⟨b, 2, none⟩), .pointer (some ⟨b, 3, none⟩), .slice ao L.q.length cap, .int .i64 (L.q.length : Int), .int .i64 t, .bool false, .pointer (some ⟨b, 0, none⟩), .int .i64 (f0 : Int), .int .i64 t, .func (.func 62) #[] #[.pointer (some ⟨V.heap.size, 0, none⟩), .pointer (some ⟨V.heap.size + 1, 0, none⟩), .pointer (some ⟨V.heap.size + 1 + 1, 0, none⟩)], segV x, undef, undef, undef, undef, undef, undef, undef, undef, undef, undef, undef, undef, undef, undef, undef, undef, undef], defers := [] })
    (fun x a' _ X Y row hs hg hr => by obtain ⟨Bx, h1, h2, h3⟩ := hs; exact ⟨Bx, h1, Ql.own Bx x () X Y row h2 hg (fun r e => (hr r e).2), h3⟩)
    ?assign ?body ?done
  case hI => exact fun s' X Y row hs' hg hr => ⟨holdsRow_own (N + 4) N 70 73 8 (fun pre : List SegT => pre.length) (fun pre => pre.flatMap segE) (fun _ _ => True) s' X Y row hs'.1 hg (fun r e => (hr r e).2), ownFrom_below (by have := HN.out; omega) hNW s' X Y row hs'.2 hg hr⟩
  case assign =>
    rintro lp pre ⟨x1, x2, x3, x4, x5, x6, x7, x8⟩ X K ⟨⟨v, hv, hrow, -⟩, hB⟩ hK
    have hlt2 := hv.lt
    clear hz0' hb0 bl bf bt hBw hO0 hSN bO0
    dsimp only [segV]
    gi_wp2
    have hNs : N ≤ X.heap.size := by omega
    exact hK _ _ ((KeepsOthers.alloc _ _).from _) (KT.of_below ((Below.refl _ X).alloc (Nat.le_refl _) _) hNs) ⟨⟨v, hv.alloc _, hrow.alloc _, trivial⟩, hB.alloc hNs _⟩ ⟨X.heap.size, hlt2, World.alloc_heap_new X _, rfl⟩
  case body =>
    rintro lp pre ⟨x1, x2, x3, x4, x5, x6, x7, x8⟩ a' X hlp hlt ⟨⟨v, hv, hrow, -⟩, hB⟩ ⟨Bx, hBx, hx, rfl⟩ hp
    have hB4 : N + 4 ≤ X.heap.size := by omega
    have hpl : pre.length < 8 := by have := hp.length_le; have := segsL_len L (f0) t (by omega); simp at *; omega
    have cv := hv.cell
    have q0 := Blk.cell (k := 0) hx rfl; have q1 := Blk.cell (k := 1) hx rfl; have q2 := Blk.cell (k := 2) hx rfl; have q3 := Blk.cell (k := 3) hx rfl; have q4 := Blk.cell (k := 4) hx rfl; have q5 := Blk.cell (k := 5) hx rfl; have q6 := Blk.cell (k := 6) hx rfl; have q7 := Blk.cell (k := 7) hx rfl
    dsimp only at q0 q1 q2 q3 q4 q5 q6 q7
    have hqr : X.rangeAt Bx 0 [.int .i64 x1, .int .i64 x2, .int .i64 x3, .int .i64 x4, .int .i64 x5, .int .i64 x6, .bool x7, .string x8] := Blk.all hx
    have HX := Lib.hid hx
    dsimp only [segV]
    have HBB := Lib.hid hB
    clear hB hp hx hz0' hb0 bl bf bt hBw hO0 hSN bO0
    gi_wp2_with (gi_at_builtin; refine wpListIn_append_own _ rfl _ _ 70 rfl (N + 4) 73 i0 (.agg #[.int .i64 0, .int .i64 0, .int .i64 0, .int .i64 0, .int .i64 0, .int .i64 0, .bool false, .string ⟨#[]⟩]) 8 72 Try.underlying70 hi hz0 hz1 hz2 rfl (by decide) _ _ _ rfl (hrow.alloc _) ⟨X.heap.size, 0, none⟩ 1 1 [.int .i64 x1, .int .i64 x2, .int .i64 x3, .int .i64 x4, .int .i64 x5, .int .i64 x6, .bool x7, .string x8] rfl rfl (World.news_of_block (World.alloc_heap_new _ _)) (by simp [Value.oneCell']) (by unfold maxLen; omega) (by omega) (by simp; omega) ?_; intro v' w1 hown' hgrow _; obtain ⟨g', cap', rfl⟩ := ownsRow_succ hown'; obtain ⟨p1, p2, p3, p4, p5⟩ := hv.appended (by decide) (own_lowL hrow (B' := N) (by omega)) (by omega) (Nat.le_refl _) (own_lowL hown' (B' := N) (by omega)) hgrow; have hc1 := p1.cell; have hf1 := p1.frozen)
    refine ⟨p4.from _, ?_, ⟨⟨_, p2, ?_, trivial⟩, HBB.out.trans (p5.mono (by omega))⟩⟩
    · exact ((KT.of_below ((Below.refl _ X).alloc (Nat.le_refl _) _) (by omega)).trans (KT.row (hrow.alloc _) (by omega) (by simp; omega) hgrow)).trans (KT.set p1 (Nat.le_refl _))
    · rw [List.length_append, List.flatMap_append]
      exact hown'.kept (grownBy_setCell' w1 N _) (.inr (p1.not_row (by decide) hown').symm)
  case done =>
    rintro D X hD ⟨⟨v, hv, hrow, -⟩, hB⟩ hdf
    rw [HFR.out] at hrow
    have hU := H.out.below hB HSN.out
    have k1 := hU.blk
    have hbX : b < X.heap.size := k1.lt
    unfold lnC at k1
    have k2 := blk_setL k1 8 (by simp) (.bool false)
    have e8 : X.cell? ⟨b, 8, none⟩ = some (.bool L.owes) := k1.cell (k := 8) rfl
    have e8f := k1.frozen 8
    have e4 : (X.setCell ⟨b, 8, none⟩ (.bool false)).cell? ⟨b, 4, none⟩ = some (.int .i64 (f0 : Int)) := by have := HF.out; rw [← this]; exact k2.cell (k := 4) rfl
    have e4f := k2.frozen 4
    have hbN : b < N := by have := HN.out; omega
    have hmx : max (f0 : Int) (t : Int) = max L.told (L.to : Int) := by rw [HF.out, HT.out]
    have k3 := blk_setL k2 4 (by simp) (.int .i64 (max L.told (L.to : Int)))
    have v2 := (hv.kept (grown_setCell X b 8 (.bool false)) (by simp; omega)).kept (grown_setCell _ b 4 (.int .i64 (max L.told (L.to : Int)))) (by simp; omega)
    have cv := v2.cell
    obtain ⟨ao2, n2, cap2, rfl⟩ := own_sliceL hrow
    have hrow2 := (hrow.kept (grown_setCell X b 8 (.bool false)) (.inr (fun e => by have := (hrow.lt b e).1; omega))).kept (grown_setCell _ b 4 (.int .i64 (max L.told (L.to : Int)))) (.inr (fun e => by have := (hrow.lt b e).1; omega))
    have hd2 : ((X.setCell ⟨b, 8, none⟩ (.bool false)).setCell ⟨b, 4, none⟩ (.int .i64 (max L.told (L.to : Int)))).heap[D]? = some (.deferred (some [])) := ((grown_setCell _ b 4 (.int .i64 (max L.told (L.to : Int)))).block D (by have := (Array.getElem?_eq_some_iff.1 hdf).1; simp [World.setCell]; omega) (by simp; omega)).trans (((grown_setCell X b 8 (.bool false)).block D (Array.getElem?_eq_some_iff.1 hdf).1 (by simp; omega)).trans hdf)
    have K3 := Lib.hid k3; have HROW := Lib.hid hrow2; have HD2 := Lib.hid hd2; have HB := Lib.hid hB; have HU := Lib.hid hU; have HDD := Lib.hid hD
    clear k1 k2 k3 hrow hrow2 hd2 hB hU hdf hv v2 hD hz0' hb0 bl bf bt hBw hO0 hSN bO0
    gi_wp2
    refine ⟨by simp, .inl ⟨_, _, rfl, run_takeDeferred HD2.out, ?_⟩⟩
    have hgb : But S w (((X.setCell ⟨b, 8, none⟩ (.bool false)).setCell ⟨b, 4, none⟩ (.int .i64 (max L.told (L.to : Int)))).putObj D (.deferred none)) := by
      have h1 : But S w X := (But.of_below (HN.out ▸ HB.out))
      have h2 := (h1.setL (i := 8) H.out.sb (.bool false)).setL (i := 4) H.out.sb (.int .i64 (max L.told (L.to : Int)))
      exact h2.trans' (grown_but' (grownBy_putObj' _ D (.deferred none))) (fun i hi e => by cases e; have := HDD.out; have := HN.out; have := HNW.out; omega)
    have hkb : Blk (((X.setCell ⟨b, 8, none⟩ (.bool false)).setCell ⟨b, 4, none⟩ (.int .i64 (max L.told (L.to : Int)))).putObj D (.deferred none)) b 90 (lnC (outN L) (.slice ao L.q.length cap)) := (show Blk _ b _ (lnC (outN L) (.slice ao L.q.length cap)) from K3.out).kept (grownBy_putObj' _ D _) (by have := HDD.out; simp; omega)
    obtain ⟨B9, hr9⟩ := HU.out.2.1
    have hr10 : (((X.setCell ⟨b, 8, none⟩ (.bool false)).setCell ⟨b, 4, none⟩ (.int .i64 (max L.told (L.to : Int)))).putObj D (.deferred none)).ownsRow B9 9 1 (.slice ao L.q.length cap) L.q.length (L.q.flatMap strE) :=
      ((hr9.kept (grown_setCell X b 8 (.bool false)) (.inr HUB.out)).kept (grown_setCell _ b 4 (.int .i64 (max L.told (L.to : Int)))) (.inr HUB.out)).kept (grownBy_putObj' _ D _) (.inr (fun e => by have := HSN.out D ((HSS.out D).2 (.inr e)); have := HDD.out; have := HNW.out; omega))
    exact ⟨_, results_tmp rfl _ _ _, _, rfl, ⟨hkb, ⟨B9, hr10⟩, HSS.out, HUB.out, outN_ok HU.out.ok⟩, ⟨fun q h => .inl h, hgb⟩, ownsRow_putObj (own_lowL HROW.out (by have := HN.out; omega)) _ HD2.out rfl⟩
set_option maxRecDepth 100000 in
set_option maxHeartbeats 4000000 in
theorem lkOut_true (S : Nat → Prop) (w : World) (b : Nat) (u : Value) (L : LnT) (h : LkU 90 S w b u L) :
    Calls Try.prog 26 #[.pointer (some ⟨b, 0, none⟩), .bool true] w fun e w' => ∃ v, e = .returned v ∧ LkU 90 S w' b u (outN L) ∧ Grew S S w w' ∧ w'.ownsRow w.heap.size 73 8 v (outT L true).length ((outT L true).flatMap segE) := by
  obtain ⟨i0, hi, hz0, hz1, hz2⟩ := info_parts info_segL
  obtain ⟨f0, hf0⟩ : ∃ f : Nat, L.told = (f : Int) := ⟨L.told.toNat, by have := h.ok.told; omega⟩
  obtain ⟨t, htt⟩ : ∃ t : Nat, t = L.to := ⟨_, rfl⟩
  have hto := L.to_le
  rw [← htt] at hto
  have h8 := h.ok.len; have h4 := h.ok.told
  have hSS := h.2.2.1; have hub := h.2.2.2.1
  have hbl := h.blk.lt
  have c4 : w.cell? ⟨b, 4, none⟩ = some (.int .i64 (f0 : Int)) := by rw [← hf0]; exact h.blk.cell (k := 4) rfl
  have c3 : w.cell? ⟨b, 3, none⟩ = some u := h.blk.cell (k := 3) rfl
  have hmin : min (4 : Int) (L.q.length : Int) = (t : Int) := by rw [htt]; unfold LnT.to; omega
  have hfr : (segsL L 0 t) = outT L true := by unfold outT LnT.fr; rw [htt]; simp; try (rw [hf0]; rfl)
  have hsl := h.sl
  obtain ⟨ao, cap, rfl, hc1, hc2, -, -⟩ := hsl
  obtain ⟨N, hN⟩ : ∃ N, N = w.heap.size := ⟨_, rfl⟩
  obtain ⟨V, hV⟩ : ∃ V, V = (w.alloc (.cells #[.slice none 0 0] 70)).drew := ⟨_, rfl⟩
  have bO : Boxed V N 70 (.slice none 0 0) := by rw [hV, hN]; exact (Boxed.new w _ _).kept (drew_grown _) (by simp)
  have hBV : Below w.heap.size w V := by rw [hV]; exact ((Below.refl _ w).alloc (Nat.le_refl _) _).trans ((grown_below (drew_grown _)).mono (by simp))
  have hVz : V.heap.size = N + 1 := by rw [hV, hN]; show (w.alloc _).heap.size = _; simp
  have H := Lib.hid h; have HT := Lib.hid htt; have HF := Lib.hid hf0; have HFR := Lib.hid hfr; have HBV := Lib.hid hBV; have BO := Lib.hid bO; have HVZ := Lib.hid hVz; have HSS := Lib.hid hSS; have HUB := Lib.hid hub; have HN := Lib.hid hN
  clear h hf0 htt hfr hBV bO hVz hSS hub hN
  refine (callsIn_wide (n := 3)).1 ?_
  refine callsIn_of_wp_marks Try.func26 rfl trivial ?_ rfl
  simp only [Try.ntmps26, List.size_toArray, List.length_cons, List.length_nil, Nat.reduceAdd, Nat.reduceSub, Array.replicate_succ, Array.replicate_zero, List.push_toArray, List.append_toArray, List.nil_append, List.cons_append]
  have hmix : Try.prog.follows .mixedOrders = true := by kernel_rfl
  gi_wp2_with (refine ⟨trivial, ?_⟩; gi_at_call 37; refine (callsIn_wide.2 (lkZero_blk b _ L w H.out.blk H.out.ok)).mono ?_; rintro e w1 ⟨rfl, rfl⟩)
  apply reg_cut
  · gi_region_with_o (fail)
    all_goals exact ⟨rfl, rfl⟩
  gi_wp2_with fail
  rw [← hV, ← HN.out]; clear hV
  refine ⟨trivial, ?_⟩
  refine (callsIn_wide.2 (callsIn_wide.1 (segments_any b 0 t V))).mono ?_
  rintro e w' ⟨rfl, rfl⟩
  gi_wp2_with fail
  obtain ⟨W0, hW0⟩ : ∃ W0, W0 = ((V.alloc (.cells #[pt b 0] 53)).alloc (.cells #[.int .i64 0] 3)).alloc (.cells #[.int .i64 t] 3) := ⟨_, rfl⟩
  have bl : Boxed W0 V.heap.size 53 (pt b 0) := by rw [hW0]; exact ((Boxed.new V _ _).alloc _).alloc _
  have bf : Boxed W0 (V.heap.size + 1) 3 (.int .i64 (0 : Nat)) := by
    have h := (Boxed.new (V.alloc (.cells #[pt b 0] 53)) 3 (.int .i64 0)).alloc (.cells #[.int .i64 t] 3)
    rw [World.size_alloc] at h; rw [hW0]; exact h
  have bt : Boxed W0 (V.heap.size + 1 + 1) 3 (.int .i64 t) := by
    have h := Boxed.new ((V.alloc (.cells #[pt b 0] 53)).alloc (.cells #[.int .i64 0] 3)) 3 (.int .i64 t)
    rw [World.size_alloc, World.size_alloc] at h; rw [hW0]; exact h
  have hb0 : Below V.heap.size V W0 := by rw [hW0]; exact (((Below.refl _ V).alloc (Nat.le_refl _) _).alloc (by simp) _).alloc (by simp; omega) _
  have hz0' : W0.heap.size = N + 4 := by rw [hW0]; have := HVZ.out; simp; omega
  rw [← hW0]; clear hW0
  have bO0 := BO.out.kept (below_grown hb0) (by simp)
  have hBw : Below N w W0 := HN.out ▸ HBV.out.trans (hb0.mono (HBV.out.size))
  have hO0 := H.out.gr (below_grown (HN.out ▸ hBw)) (fun q e => nomatch e)
  have hSN : ∀ q, S q → q < N := fun q hq => by rw [HN.out]; exact H.out.ofS q hq
  have hNW : N ≤ W0.heap.size := by omega
  have HSN := Lib.hid hSN; have HZ := Lib.hid hz0'; have HNW := Lib.hid hNW
  refine rf_all (gf := 62) (lb := #[.pointer (some ⟨V.heap.size, 0, none⟩), .pointer (some ⟨V.heap.size + 1, 0, none⟩), .pointer (some ⟨V.heap.size + 1 + 1, 0, none⟩)]) rfl (enters_of Try.func62 (by kernel_rfl) rfl)
    (segs_seq N _ _ _ b S _ L (0) t W0 hO0 hSN (by omega) (by omega) bl bf bt) (fun _ => rfl) KT.trans (fun X o o' h hc => KT.putObj o' h hc (by omega) (by omega))
    (fun pre X => (∃ v, Boxed X N 70 v ∧ X.ownsRow (N + 4) 73 8 v pre.length (pre.flatMap segE) ∧ True) ∧ Below N w X) ?hI ⟨⟨_, bO0, World.ownsRow_nil _ _ _ _, trivial⟩, hBw⟩
    (fun x a' X => ∃ Bx, N < Bx ∧ Ql X Bx x ∧ a' = { tmps := #[.pointer (some ⟨b, 0, none⟩), .bool true, undef, undef, .slice none 0 0, .int .i64 0, .int .i64 t, .pointer (some ⟨N, 0, none⟩), .pointer (some ⟨Bx, 0, none⟩), .pointer (some ⟨b, 0, none⟩), .bool false, .pointer (some ⟨b, 0, none⟩), .pointer (some ⟨b, 0, none⟩), .pointer (some ⟨b, 4, none⟩), .int .i64 (f0 : Int), .pointer (some ⟨b, 0, none⟩), .pointer (some ⟨b, 0, none⟩), .pointer (some ⟨b, 2, none⟩), .pointer (some ⟨b, 3, none⟩), .slice ao L.q.length cap, .int .i64 (L.q.length : Int), .int .i64 t, .bool true, .pointer (some ⟨b, 0, none⟩), .int .i64 0, .int .i64 t, .func (.func 62) #[] #[.pointer (some ⟨V.heap.size, 0, none⟩), .pointer (some ⟨V.heap.size + 1, 0, none⟩), .pointer (some ⟨V.heap.size + 1 + 1, 0, none⟩)], segV x, undef, undef, undef, undef, undef, undef, undef, undef, undef, undef, undef, undef, undef, undef, undef, undef, undef], defers := [] })
    (fun x a' _ X Y row hs hg hr => by obtain ⟨Bx, h1, h2, h3⟩ := hs; exact ⟨Bx, h1, Ql.own Bx x () X Y row h2 hg (fun r e => (hr r e).2), h3⟩)
    ?assign ?body ?done
  case hI => exact fun s' X Y row hs' hg hr => ⟨holdsRow_own (N + 4) N 70 73 8 (fun pre : List SegT => pre.length) (fun pre => pre.flatMap segE) (fun _ _ => True) s' X Y row hs'.1 hg (fun r e => (hr r e).2), ownFrom_below (by have := HN.out; omega) hNW s' X Y row hs'.2 hg hr⟩
  case assign =>
    rintro lp pre ⟨x1, x2, x3, x4, x5, x6, x7, x8⟩ X K ⟨⟨v, hv, hrow, -⟩, hB⟩ hK
    have hlt2 := hv.lt
    clear hz0' hb0 bl bf bt hBw hO0 hSN bO0
    dsimp only [segV]
    gi_wp2
    have hNs : N ≤ X.heap.size := by omega
    exact hK _ _ ((KeepsOthers.alloc _ _).from _) (KT.of_below ((Below.refl _ X).alloc (Nat.le_refl _) _) hNs) ⟨⟨v, hv.alloc _, hrow.alloc _, trivial⟩, hB.alloc hNs _⟩ ⟨X.heap.size, hlt2, World.alloc_heap_new X _, rfl⟩
  case body =>
    rintro lp pre ⟨x1, x2, x3, x4, x5, x6, x7, x8⟩ a' X hlp hlt ⟨⟨v, hv, hrow, -⟩, hB⟩ ⟨Bx, hBx, hx, rfl⟩ hp
    have hB4 : N + 4 ≤ X.heap.size := by omega
    have hpl : pre.length < 8 := by have := hp.length_le; have := segsL_len L (0) t (by omega); simp at *; omega
    have cv := hv.cell
    have q0 := Blk.cell (k := 0) hx rfl; have q1 := Blk.cell (k := 1) hx rfl; have q2 := Blk.cell (k := 2) hx rfl; have q3 := Blk.cell (k := 3) hx rfl; have q4 := Blk.cell (k := 4) hx rfl; have q5 := Blk.cell (k := 5) hx rfl; have q6 := Blk.cell (k := 6) hx rfl; have q7 := Blk.cell (k := 7) hx rfl
    dsimp only at q0 q1 q2 q3 q4 q5 q6 q7
    have hqr : X.rangeAt Bx 0 [.int .i64 x1, .int .i64 x2, .int .i64 x3, .int .i64 x4, .int .i64 x5, .int .i64 x6, .bool x7, .string x8] := Blk.all hx
    have HX := Lib.hid hx
    dsimp only [segV]
    have HBB := Lib.hid hB
    clear hB hp hx hz0' hb0 bl bf bt hBw hO0 hSN bO0
    gi_wp2_with (gi_at_builtin; refine wpListIn_append_own _ rfl _ _ 70 rfl (N + 4) 73 i0 (.agg #[.int .i64 0, .int .i64 0, .int .i64 0, .int .i64 0, .int .i64 0, .int .i64 0, .bool false, .string ⟨#[]⟩]) 8 72 Try.underlying70 hi hz0 hz1 hz2 rfl (by decide) _ _ _ rfl (hrow.alloc _) ⟨X.heap.size, 0, none⟩ 1 1 [.int .i64 x1, .int .i64 x2, .int .i64 x3, .int .i64 x4, .int .i64 x5, .int .i64 x6, .bool x7, .string x8] rfl rfl (World.news_of_block (World.alloc_heap_new _ _)) (by simp [Value.oneCell']) (by unfold maxLen; omega) (by omega) (by simp; omega) ?_; intro v' w1 hown' hgrow _; obtain ⟨g', cap', rfl⟩ := ownsRow_succ hown'; obtain ⟨p1, p2, p3, p4, p5⟩ := hv.appended (by decide) (own_lowL hrow (B' := N) (by omega)) (by omega) (Nat.le_refl _) (own_lowL hown' (B' := N) (by omega)) hgrow; have hc1 := p1.cell; have hf1 := p1.frozen)
    refine ⟨p4.from _, ?_, ⟨⟨_, p2, ?_, trivial⟩, HBB.out.trans (p5.mono (by omega))⟩⟩
    · exact ((KT.of_below ((Below.refl _ X).alloc (Nat.le_refl _) _) (by omega)).trans (KT.row (hrow.alloc _) (by omega) (by simp; omega) hgrow)).trans (KT.set p1 (Nat.le_refl _))
    · rw [List.length_append, List.flatMap_append]
      exact hown'.kept (grownBy_setCell' w1 N _) (.inr (p1.not_row (by decide) hown').symm)
  case done =>
    rintro D X hD ⟨⟨v, hv, hrow, -⟩, hB⟩ hdf
    rw [HFR.out] at hrow
    have hU := H.out.below hB HSN.out
    have k1 := hU.blk
    have hbX : b < X.heap.size := k1.lt
    unfold lnC at k1
    have k2 := blk_setL k1 8 (by simp) (.bool false)
    have e8 : X.cell? ⟨b, 8, none⟩ = some (.bool L.owes) := k1.cell (k := 8) rfl
    have e8f := k1.frozen 8
    have e4 : (X.setCell ⟨b, 8, none⟩ (.bool false)).cell? ⟨b, 4, none⟩ = some (.int .i64 (f0 : Int)) := by have := HF.out; rw [← this]; exact k2.cell (k := 4) rfl
    have e4f := k2.frozen 4
    have hbN : b < N := by have := HN.out; omega
    have hmx : max (f0 : Int) (t : Int) = max L.told (L.to : Int) := by rw [HF.out, HT.out]
    have k3 := blk_setL k2 4 (by simp) (.int .i64 (max L.told (L.to : Int)))
    have v2 := (hv.kept (grown_setCell X b 8 (.bool false)) (by simp; omega)).kept (grown_setCell _ b 4 (.int .i64 (max L.told (L.to : Int)))) (by simp; omega)
    have cv := v2.cell
    obtain ⟨ao2, n2, cap2, rfl⟩ := own_sliceL hrow
    have hrow2 := (hrow.kept (grown_setCell X b 8 (.bool false)) (.inr (fun e => by have := (hrow.lt b e).1; omega))).kept (grown_setCell _ b 4 (.int .i64 (max L.told (L.to : Int)))) (.inr (fun e => by have := (hrow.lt b e).1; omega))
    have hd2 : ((X.setCell ⟨b, 8, none⟩ (.bool false)).setCell ⟨b, 4, none⟩ (.int .i64 (max L.told (L.to : Int)))).heap[D]? = some (.deferred (some [])) := ((grown_setCell _ b 4 (.int .i64 (max L.told (L.to : Int)))).block D (by have := (Array.getElem?_eq_some_iff.1 hdf).1; simp [World.setCell]; omega) (by simp; omega)).trans (((grown_setCell X b 8 (.bool false)).block D (Array.getElem?_eq_some_iff.1 hdf).1 (by simp; omega)).trans hdf)
    have K3 := Lib.hid k3; have HROW := Lib.hid hrow2; have HD2 := Lib.hid hd2; have HB := Lib.hid hB; have HU := Lib.hid hU; have HDD := Lib.hid hD
    clear k1 k2 k3 hrow hrow2 hd2 hB hU hdf hv v2 hD hz0' hb0 bl bf bt hBw hO0 hSN bO0
    gi_wp2
    refine ⟨by simp, .inl ⟨_, _, rfl, run_takeDeferred HD2.out, ?_⟩⟩
    have hgb : But S w (((X.setCell ⟨b, 8, none⟩ (.bool false)).setCell ⟨b, 4, none⟩ (.int .i64 (max L.told (L.to : Int)))).putObj D (.deferred none)) := by
      have h1 : But S w X := (But.of_below (HN.out ▸ HB.out))
      have h2 := (h1.setL (i := 8) H.out.sb (.bool false)).setL (i := 4) H.out.sb (.int .i64 (max L.told (L.to : Int)))
      exact h2.trans' (grown_but' (grownBy_putObj' _ D (.deferred none))) (fun i hi e => by cases e; have := HDD.out; have := HN.out; have := HNW.out; omega)
    have hkb : Blk (((X.setCell ⟨b, 8, none⟩ (.bool false)).setCell ⟨b, 4, none⟩ (.int .i64 (max L.told (L.to : Int)))).putObj D (.deferred none)) b 90 (lnC (outN L) (.slice ao L.q.length cap)) := (show Blk _ b _ (lnC (outN L) (.slice ao L.q.length cap)) from K3.out).kept (grownBy_putObj' _ D _) (by have := HDD.out; simp; omega)
    obtain ⟨B9, hr9⟩ := HU.out.2.1
    have hr10 : (((X.setCell ⟨b, 8, none⟩ (.bool false)).setCell ⟨b, 4, none⟩ (.int .i64 (max L.told (L.to : Int)))).putObj D (.deferred none)).ownsRow B9 9 1 (.slice ao L.q.length cap) L.q.length (L.q.flatMap strE) :=
      ((hr9.kept (grown_setCell X b 8 (.bool false)) (.inr HUB.out)).kept (grown_setCell _ b 4 (.int .i64 (max L.told (L.to : Int)))) (.inr HUB.out)).kept (grownBy_putObj' _ D _) (.inr (fun e => by have := HSN.out D ((HSS.out D).2 (.inr e)); have := HDD.out; have := HNW.out; omega))
    exact ⟨_, results_tmp rfl _ _ _, _, rfl, ⟨hkb, ⟨B9, hr10⟩, HSS.out, HUB.out, outN_ok HU.out.ok⟩, ⟨fun q h => .inl h, hgb⟩, ownsRow_putObj (own_lowL HROW.out (by have := HN.out; omega)) _ HD2.out rfl⟩
end Go.Proofs.Ytpcbgkmnjmiigaa

/- Package link: New, Send, and what one that nobody made answers. Conditions: none. -/
namespace Go.Proofs.Ytpcbgkmnjmiigaa
open Go.RowKit Go.Shelf
set_option linter.unusedVariables false
set_option maxRecDepth 100000
set_option maxHeartbeats 2000000
theorem lkNew_ok (boot : Int) (w : World) (h : 1 ≤ boot ∧ boot ≤ 1073741824) : Calls Try.prog 19 #[.int .i64 boot] w fun e w' => e = .returned (.tuple #[pt w.heap.size 0, .int .i64 0]) ∧ LkO 90 (fun q => q = w.heap.size) w' w.heap.size (newLn boot) ∧ Below w.heap.size w w' := by
  have hb : Blk (w.alloc (.cells #[.int .i64 boot, .int .i64 1, .int .i64 0, .slice none 0 0, .int .i64 0, .int .i64 0, .int .i64 0, .int .i64 0, .bool false] 90)) w.heap.size 90 #[.int .i64 boot, .int .i64 1, .int .i64 0, .slice none 0 0, .int .i64 0, .int .i64 0, .int .i64 0, .int .i64 0, .bool false] := World.alloc_heap_new w _
  have hB : Below w.heap.size w (w.alloc (.cells #[.int .i64 boot, .int .i64 1, .int .i64 0, .slice none 0 0, .int .i64 0, .int .i64 0, .int .i64 0, .int .i64 0, .bool false] 90)) := (Below.refl _ w).alloc (Nat.le_refl _) _
  have H := Lib.hid (LkO.new hb h); have HB := Lib.hid hB; clear hb hB
  have d1 : decide (boot < 1) = false := decide_eq_false (by omega)
  have d2 : decide (boot > 1073741824) = false := decide_eq_false (by omega)
  go_enter Try.func19, Try.ntmps19
  go_wp2
  go_ret2
  exact ⟨rfl, H.out, HB.out⟩
theorem lkSend_any (S : Nat → Prop) (w : World) (b : Nat) (u : Value) (L : LnT) (t : ByteArray) (h : LkU 90 S w b u L) :
    Calls Try.prog 23 #[pt b 0, .string t] w fun e w' => ∃ (u' : Value) (S' : Nat → Prop), e = .returned (.int .i64 (sendT L t).1) ∧ LkU 90 S' w' b u' (sendT L t).2 ∧ Grew S S' w w' := by
  have c3 : w.cell? ⟨b, 3, none⟩ = some u := h.blk.cell (k := 3) rfl
  have hsl := h.sl
  obtain ⟨ao, cap, rfl, -, -, -, -⟩ := hsl
  have h8 := h.ok.len
  have H := Lib.hid h; clear h
  by_cases q : 65536 < t.size
  · have d1 : decide ((t.size : Int) > 65536) = true := decide_eq_true (by omega)
    have hE : sendT L t = (3, L) := by unfold sendT; rw [if_pos q]
    rw [hE]
    clear hE
    go_enter Try.func23, Try.ntmps23
    go_wp2_with fail
    refine (lkZero_blk b _ L _ H.out.blk H.out.ok).mono ?_
    rintro e w1 ⟨rfl, rfl⟩
    go_wp2
    go_ret
    exact ⟨_, S, rfl, H.out, fun q h => .inl h, But.refl _ _⟩
  · have d1 : decide ((t.size : Int) > 65536) = false := decide_eq_false (by omega)
    by_cases q2 : 8 ≤ L.q.length
    · have d2 : decide ((L.q.length : Int) ≥ 8) = true := decide_eq_true (by omega)
      have hE : sendT L t = (6, L) := by unfold sendT; rw [if_neg q, if_pos q2]
      rw [hE]
      clear hE
      go_enter Try.func23, Try.ntmps23
      go_wp2_with fail
      refine (lkZero_blk b _ L _ H.out.blk H.out.ok).mono ?_
      rintro e w1 ⟨rfl, rfl⟩
      go_wp2
      go_ret
      exact ⟨_, S, rfl, H.out, fun q h => .inl h, But.refl _ _⟩
    · have d2 : decide ((L.q.length : Int) ≥ 8) = false := decide_eq_false (by omega)
      have hE : sendT L t = (0, { L with q := L.q ++ [t] }) := by unfold sendT; rw [if_neg q, if_neg q2]
      rw [hE]
      clear hE
      go_enter Try.func23, Try.ntmps23
      go_wp2_with fail
      refine (lkZero_blk b _ L _ H.out.blk H.out.ok).mono ?_
      rintro e w1 ⟨rfl, rfl⟩
      go_wp2_with fail
      refine (lkAdd_any S b _ L t w H.out (by omega) (by omega)).mono ?_
      rintro e w1 ⟨u', rfl, ⟨S', h1, h2⟩, -⟩
      have H1 := Lib.hid h1; have H2 := Lib.hid h2; clear h1 h2
      go_wp2
      go_ret
      exact ⟨u', S', rfl, H1.out, H2.out⟩
/-- Nobody made it. -/
def NoLk (w : World) (p : Value) : Prop := p = .pointer none ∨ ∃ b a1 a2 a3 a4 a5 a6 a7 a8, p = pt b 0 ∧ Blk w b 90 #[.int .i64 0, a1, a2, a3, a4, a5, a6, a7, a8]
theorem NoLk.gr {w x : World} {p : Value} (h : NoLk w p) (hg : w.grownBy x none) : NoLk x p := by
  rcases h with rfl | ⟨b, a1, a2, a3, a4, a5, a6, a7, a8, rfl, h⟩
  · exact .inl rfl
  · exact .inr ⟨b, a1, a2, a3, a4, a5, a6, a7, a8, rfl, h.kept hg (by simp)⟩
theorem zero_noL (w : World) (p : Value) (h : NoLk w p) : Calls Try.prog 37 #[p] w fun e w' => e = .returned (.bool true) ∧ w = w' := by
  rcases h with rfl | ⟨b, a1, a2, a3, a4, a5, a6, a7, a8, rfl, h⟩
  · go_enter Try.func37, Try.ntmps37
    go_wp2
    go_ret
    exact ⟨rfl, rfl⟩
  · have c0 : w.cell? ⟨b, 0, none⟩ = some (.int .i64 0) := h.cell (k := 0) rfl
    go_enter Try.func37, Try.ntmps37
    go_wp2
    go_ret
    exact ⟨rfl, rfl⟩
theorem zwaitL (w : World) (p : Value) (h : NoLk w p) : Calls Try.prog 34 #[p] w fun e w' => e = .returned (.int .i64 0) ∧ w = w' := by
  have H := Lib.hid h; clear h
  go_enter Try.func34, Try.ntmps34
  go_wp2_with fail
  refine (zero_noL w p H.out).mono ?_
  rintro e w1 ⟨rfl, rfl⟩
  go_wp2
  go_ret
  exact ⟨rfl, rfl⟩
theorem zoutL (w : World) (p : Value) (g : Bool) (h : NoLk w p) : Calls Try.prog 26 #[p, .bool g] w fun e w' => e = .returned (.slice none 0 0) ∧ w = w' := by
  have H := Lib.hid h; clear h
  go_enter Try.func26, Try.ntmps26
  go_wp2_with fail
  refine (zero_noL w p H.out).mono ?_
  rintro e w1 ⟨rfl, rfl⟩
  go_wp2
  go_ret
  exact ⟨rfl, rfl⟩
end Go.Proofs.Ytpcbgkmnjmiigaa

/- Package link: links as objects, the program's. Conditions: none. -/
namespace Go.Proofs.Ytpcbgkmnjmiigaa
open Go.RowKit Go.Shelf Go.PlainAid
set_option linter.unusedVariables false
/-- A link of the program's. -/
def LkP (S : Nat → Prop) (w : World) (b : Nat) (L : LnT) : Prop := LkO 90 S w b L
section
variable {S S' D : Nat → Prop} {w x : World} {b : Nat} {u : Value} {L : LnT}
theorem LkP.ofS (h : LkP S w b L) : ∀ q, S q → q < w.heap.size := LkO.ofS h
theorem LkP.gr {row : Option Nat} (h : LkP S w b L) (hg : w.grownBy x row) (hr : ∀ k, row = some k → ¬ S k) : LkP S x b L := LkO.gr h hg hr
theorem LkP.but (h : LkP S w b L) (hb : But D w x) (ha : ∀ q, S q → D q → False) : LkP S x b L := LkO.but h hb (fun q h1 h2 => ha q h2 h1)
theorem LkP.ok (h : LkP S w b L) : LnOk L := LkO.ok h
theorem kSend (w : World) (t : ByteArray) (h : LkP S w b L) : Calls Try.prog 23 #[pt b 0, .string t] w fun e w' => ∃ S' : Nat → Prop, e = .returned (.int .i64 (sendT L t).1) ∧ LkP S' w' b (sendT L t).2 ∧ Grew S S' w w' := by
  obtain ⟨u, h⟩ := h
  exact (lkSend_any S w b u L t h).mono fun e x ⟨u', S', h1, h2, h3⟩ => ⟨S', h1, ⟨u', h2⟩, h3⟩
theorem kOut (w : World) (g : Bool) (h : LkP S w b L) : Calls Try.prog 26 #[pt b 0, .bool g] w fun e w' => ∃ (v : Value) (S' : Nat → Prop), e = .returned v ∧ LkP S' w' b (outN L) ∧ w'.ownsRow w.heap.size 73 8 v (outT L g).length ((outT L g).flatMap segE) ∧ (∀ q, S' q → q < w.heap.size) ∧ Grew S S' w w' := by
  obtain ⟨u, h⟩ := h
  cases g with
  | true => exact (lkOut_true S w b u L h).mono fun e x ⟨v, h1, h2, h3, h4⟩ => ⟨v, S, h1, ⟨u, h2⟩, h4, h.ofS, h3⟩
  | false => exact (lkOut_false S w b u L h).mono fun e x ⟨v, h1, h2, h3, h4⟩ => ⟨v, S, h1, ⟨u, h2⟩, h4, h.ofS, h3⟩
theorem kIn (w : World) (s : SegT) (h : LkP S w b L) : Calls Try.prog 31 #[pt b 0, segV s] w fun e w' => ∃ (v : Value) (S' : Nat → Prop), e = .returned (.tuple #[v, .int .i64 (inT L s).2.1]) ∧ LkP S' w' b (inT L s).2.2 ∧ w'.ownsRow w.heap.size 9 1 v (inT L s).1.length ((inT L s).1.flatMap strE) ∧ (∀ i, v.ownBlock = some i → ¬ S' i) ∧ Grew S S' w w' := by
  obtain ⟨u, h⟩ := h
  exact (lkIn_any S b u L s w h).mono fun e x ⟨u', v, h1, ⟨S', h2, h3, h4, h5⟩, _⟩ => ⟨v, S', h1, ⟨u', h2⟩, h4, h5, h3⟩
theorem kWaiting (w : World) (h : LkP S w b L) : Calls Try.prog 34 #[pt b 0] w fun e w' => e = .returned (.int .i64 (L.q.length : Int)) ∧ w = w' := by
  obtain ⟨u, h⟩ := h
  exact lkWaiting_blk b u L w h.blk h.ok h.sl
end
theorem outT_len (L : LnT) (g : Bool) : (outT L g).length ≤ 8 := segsL_len L _ _ (by have := L.to_le; omega)
theorem outT_body {L : LnT} (h : LnOk L) (g : Bool) : ∀ s ∈ outT L g, s.body.size ≤ 65536 := by
  intro s hs
  unfold outT segsL at hs
  split at hs
  · split at hs
    · simp at hs; subst hs; show (⟨#[]⟩ : ByteArray).size ≤ 65536; decide
    · simp at hs
  · unfold outsL eachL at hs
    simp only [List.mem_map, List.mem_range'_1] at hs
    obtain ⟨p, ⟨i, hi, rfl⟩, rfl⟩ := hs
    have := L.to_le
    have hl : i < L.q.length := by omega
    show (L.q.getD i ⟨#[]⟩).size ≤ 65536
    rw [List.getD_eq_getElem?_getD, List.getElem?_eq_getElem hl]
    exact h.txt _ (List.getElem_mem hl)
end Go.Proofs.Ytpcbgkmnjmiigaa

/- Package link: links as objects. Conditions: none. -/
namespace Go.Proofs.Ytpcbgkmnjmiigaa
open Go.RowKit Go.Shelf Go.PlainAid
set_option linter.unusedVariables false
/-- A link of the document's, its texts in u. -/
def LkR (S : Nat → Prop) (w : World) (b : Nat) (u : Value) (L : LnT) : Prop := LkU 86 S w b u L
section
variable {S S' D : Nat → Prop} {w x : World} {b : Nat} {u : Value} {L : LnT}
theorem LkR.ofS (h : LkR S w b u L) : ∀ q, S q → q < w.heap.size := LkU.ofS h
theorem LkR.gr {row : Option Nat} (h : LkR S w b u L) (hg : w.grownBy x row) (hr : ∀ k, row = some k → ¬ S k) : LkR S x b u L := LkU.gr h hg hr
theorem LkR.but (h : LkR S w b u L) (hb : But D w x) (ha : ∀ q, S q → D q → False) : LkR S x b u L := LkU.but h hb (fun q h1 h2 => ha q h2 h1)
theorem LkR.ok (h : LkR S w b u L) : LnOk L := LkU.ok h
theorem LkR.blk (h : LkR S w b u L) : Blk w b 86 (lnC L u) := LkU.blk h
theorem LkR.sl (h : LkR S w b u L) : SliceOf strE 1 w u L.q := LkU.sl h
end
end Go.Proofs.Ytpcbgkmnjmiigaa

/- Package hub: of, find, zero; what a hub holds. Conditions: none. -/
namespace Go.Proofs.Ytpcbgkmnjmiigaa
open Go.RowKit Go.PlainAid
set_option linter.unusedVariables false

/-- A pointer to a block, or none. -/
def ptQ : Option Nat → Value
  | none => .pointer none
  | some N => pt N 0
def hubC (q : Nat → Option Nat) : Array Value := #[.bool true, ptQ (q 0), ptQ (q 1), ptQ (q 2), ptQ (q 3)]
/-- The link that is found. -/
def atQ (q : Nat → Option Nat) (n : Int) : Option Nat := if 0 ≤ n ∧ n < 4 then q n.toNat else none
theorem atQ_in {q : Nat → Option Nat} {i : Nat} (h : i < 4) : atQ q (i : Int) = q i := by unfold atQ; rw [if_pos ⟨by omega, by omega⟩]; rfl
theorem atQ_out {q : Nat → Option Nat} {n : Int} (h : ∀ j : Nat, j < 4 → q j ≠ none → n ≠ (j : Int)) : atQ q n = none := by
  unfold atQ
  split
  · rename_i hh
    cases hq : q n.toNat with
    | none => rfl
    | some N => exact absurd (by omega) (h n.toNat (by omega) (by rw [hq]; simp))
  · rfl

set_option maxRecDepth 100000 in
set_option maxHeartbeats 3200000 in
theorem hbIs_any (N : Nat) (n k : Int) (w : World) (h : w.cell? ⟨N, 0, none⟩ = some (.int .i64 k)) : Calls Try.prog 36 #[.int .i64 n, .pointer (some ⟨N, 0, none⟩)] w fun e w' => e = .returned (.bool (n == k)) ∧ w = w' := by
  go_enter Try.func36, Try.ntmps36
  go_wp2
  go_ret
  exact ⟨rfl, rfl⟩

set_option maxRecDepth 100000 in
set_option maxHeartbeats 3200000 in
theorem hbZero_ok (b : Nat) (q : Nat → Option Nat) (w : World) (h : Blk w b 56 (hubC q)) : Calls Try.prog 21 #[pt b 0] w fun e w' => e = .returned (.bool false) ∧ w = w' := by
  have c0 : w.cell? ⟨b, 0, none⟩ = some (.bool true) := h.cell (k := 0) rfl
  go_enter Try.func21, Try.ntmps21
  go_wp2
  go_ret
  exact ⟨rfl, rfl⟩

set_option maxRecDepth 100000 in
set_option maxHeartbeats 3200000 in
theorem hbFind_any (b N : Nat) (q : Nat → Option Nat) (k : Int) (w : World) (h : Blk w b 56 (hubC q)) (hk : w.cell? ⟨N, 0, none⟩ = some (.int .i64 k)) : Calls Try.prog 35 #[pt b 0, .func (.func 36) #[] #[.pointer (some ⟨N, 0, none⟩)]] w fun e w' => e = .returned (ptQ (atQ q k)) ∧ w = w' := by
  have c1 : w.cell? ⟨b, 1, none⟩ = some (ptQ (q 0)) := h.cell (k := 1) rfl; have c2 : w.cell? ⟨b, 2, none⟩ = some (ptQ (q 1)) := h.cell (k := 2) rfl; have c3 : w.cell? ⟨b, 3, none⟩ = some (ptQ (q 2)) := h.cell (k := 3) rfl; have c4 : w.cell? ⟨b, 4, none⟩ = some (ptQ (q 3)) := h.cell (k := 4) rfl
  have HC := Lib.hid h; have HK := Lib.hid hk; clear h hk
  go_enter Try.func35, Try.ntmps35
  go_wp2
  clear c1 c2 c3 c4
  go_loopg [11] 5 (fun g s11 wr => ∃ i : Nat, s11 = .int .i64 i ∧ i ≤ 4 ∧ 5 ≤ i + g ∧ Hid (∀ j : Nat, j < i → q j ≠ none → k ≠ (j : Int)) ∧ w = wr)
  case atStart => exact ⟨0, rfl, by omega, by omega, Lib.hid (fun j hj => absurd hj (by omega)), rfl⟩
  case round =>
    obtain ⟨i, rfl, hi, hg, HJ, rfl⟩ := hrel
    have h5 : i = 4 ∨ i = 0 ∨ i = 1 ∨ i = 2 ∨ i = 3 := by omega
    rcases h5 with h | h | h | h | h
    · obtain rfl : i = 4 := h
      go_wp2
      go_ret
      exact ⟨by rw [atQ_out HJ.out]; rfl, rfl⟩
    · obtain rfl : i = 0 := h
      obtain hq | ⟨M, hq⟩ : q 0 = none ∨ ∃ M, q 0 = some M := by cases q 0 <;> simp
      · have hp : ptQ (q 0) = .pointer none := by rw [hq]; rfl
        rw [hp]
        have HP := Lib.hid hp; clear hp
        have ix : ∀ w : World, (Instr.index 54 (.agg #[.pointer none, ptQ (q 1), ptQ (q 2), ptQ (q 3)]) (.int .i64 0)).run Try.prog w = .ok (.pointer none) w := fun w => by kernel_rfl
        go_wp2
        rw [← HP.out]
        go_roundg (gk - 1)
        case rel => exact ⟨1, rfl, by omega, by omega, Lib.hid (fun j hj hn => by rcases Nat.lt_succ_iff_lt_or_eq.1 hj with h | h; exact HJ.out j h hn; subst h; exact absurd hq hn), rfl⟩
        case measure => omega
      · have hp : ptQ (q 0) = .pointer (some ⟨M, 0, none⟩) := by rw [hq]; rfl
        rw [hp]
        have HP := Lib.hid hp; clear hp
        have ix : ∀ w : World, (Instr.index 54 (.agg #[.pointer (some ⟨M, 0, none⟩), ptQ (q 1), ptQ (q 2), ptQ (q 3)]) (.int .i64 0)).run Try.prog w = .ok (.pointer (some ⟨M, 0, none⟩)) w := fun w => by kernel_rfl
        by_cases hk2 : k = 0
        · have hd : ((0 : Int) == k) = true := by rw [hk2]; rfl
          go_wp2_with fail
          refine (hbIs_any N 0 k _ HK.out).mono ?_
          rintro e w1 ⟨rfl, rfl⟩
          rw [hd]
          go_wp2
          go_ret
          exact ⟨by rw [hk2, show (0 : Int) = ((0 : Nat) : Int) from rfl, atQ_in (by omega), hq]; rfl, rfl⟩
        · have hd : ((0 : Int) == k) = false := by simp; omega
          go_wp2_with fail
          refine (hbIs_any N 0 k _ HK.out).mono ?_
          rintro e w1 ⟨rfl, rfl⟩
          rw [hd]
          go_wp2
          rw [← HP.out]
          go_roundg (gk - 1)
          case rel => exact ⟨1, rfl, by omega, by omega, Lib.hid (fun j hj hn => by rcases Nat.lt_succ_iff_lt_or_eq.1 hj with h | h; exact HJ.out j h hn; subst h; simpa using hk2), rfl⟩
          case measure => omega
    · obtain rfl : i = 1 := h
      obtain hq | ⟨M, hq⟩ : q 1 = none ∨ ∃ M, q 1 = some M := by cases q 1 <;> simp
      · have hp : ptQ (q 1) = .pointer none := by rw [hq]; rfl
        rw [hp]
        have HP := Lib.hid hp; clear hp
        have ix : ∀ w : World, (Instr.index 54 (.agg #[ptQ (q 0), .pointer none, ptQ (q 2), ptQ (q 3)]) (.int .i64 1)).run Try.prog w = .ok (.pointer none) w := fun w => by kernel_rfl
        go_wp2
        rw [← HP.out]
        go_roundg (gk - 1)
        case rel => exact ⟨2, rfl, by omega, by omega, Lib.hid (fun j hj hn => by rcases Nat.lt_succ_iff_lt_or_eq.1 hj with h | h; exact HJ.out j h hn; subst h; exact absurd hq hn), rfl⟩
        case measure => omega
      · have hp : ptQ (q 1) = .pointer (some ⟨M, 0, none⟩) := by rw [hq]; rfl
        rw [hp]
        have HP := Lib.hid hp; clear hp
        have ix : ∀ w : World, (Instr.index 54 (.agg #[ptQ (q 0), .pointer (some ⟨M, 0, none⟩), ptQ (q 2), ptQ (q 3)]) (.int .i64 1)).run Try.prog w = .ok (.pointer (some ⟨M, 0, none⟩)) w := fun w => by kernel_rfl
        by_cases hk2 : k = 1
        · have hd : ((1 : Int) == k) = true := by rw [hk2]; rfl
          go_wp2_with fail
          refine (hbIs_any N 1 k _ HK.out).mono ?_
          rintro e w1 ⟨rfl, rfl⟩
          rw [hd]
          go_wp2
          go_ret
          exact ⟨by rw [hk2, show (1 : Int) = ((1 : Nat) : Int) from rfl, atQ_in (by omega), hq]; rfl, rfl⟩
        · have hd : ((1 : Int) == k) = false := by simp; omega
          go_wp2_with fail
          refine (hbIs_any N 1 k _ HK.out).mono ?_
          rintro e w1 ⟨rfl, rfl⟩
          rw [hd]
          go_wp2
          rw [← HP.out]
          go_roundg (gk - 1)
          case rel => exact ⟨2, rfl, by omega, by omega, Lib.hid (fun j hj hn => by rcases Nat.lt_succ_iff_lt_or_eq.1 hj with h | h; exact HJ.out j h hn; subst h; simpa using hk2), rfl⟩
          case measure => omega
    · obtain rfl : i = 2 := h
      obtain hq | ⟨M, hq⟩ : q 2 = none ∨ ∃ M, q 2 = some M := by cases q 2 <;> simp
      · have hp : ptQ (q 2) = .pointer none := by rw [hq]; rfl
        rw [hp]
        have HP := Lib.hid hp; clear hp
        have ix : ∀ w : World, (Instr.index 54 (.agg #[ptQ (q 0), ptQ (q 1), .pointer none, ptQ (q 3)]) (.int .i64 2)).run Try.prog w = .ok (.pointer none) w := fun w => by kernel_rfl
        go_wp2
        rw [← HP.out]
        go_roundg (gk - 1)
        case rel => exact ⟨3, rfl, by omega, by omega, Lib.hid (fun j hj hn => by rcases Nat.lt_succ_iff_lt_or_eq.1 hj with h | h; exact HJ.out j h hn; subst h; exact absurd hq hn), rfl⟩
        case measure => omega
      · have hp : ptQ (q 2) = .pointer (some ⟨M, 0, none⟩) := by rw [hq]; rfl
        rw [hp]
        have HP := Lib.hid hp; clear hp
        have ix : ∀ w : World, (Instr.index 54 (.agg #[ptQ (q 0), ptQ (q 1), .pointer (some ⟨M, 0, none⟩), ptQ (q 3)]) (.int .i64 2)).run Try.prog w = .ok (.pointer (some ⟨M, 0, none⟩)) w := fun w => by kernel_rfl
        by_cases hk2 : k = 2
        · have hd : ((2 : Int) == k) = true := by rw [hk2]; rfl
          go_wp2_with fail
          refine (hbIs_any N 2 k _ HK.out).mono ?_
          rintro e w1 ⟨rfl, rfl⟩
          rw [hd]
          go_wp2
          go_ret
          exact ⟨by rw [hk2, show (2 : Int) = ((2 : Nat) : Int) from rfl, atQ_in (by omega), hq]; rfl, rfl⟩
        · have hd : ((2 : Int) == k) = false := by simp; omega
          go_wp2_with fail
          refine (hbIs_any N 2 k _ HK.out).mono ?_
          rintro e w1 ⟨rfl, rfl⟩
          rw [hd]
          go_wp2
          rw [← HP.out]
          go_roundg (gk - 1)
          case rel => exact ⟨3, rfl, by omega, by omega, Lib.hid (fun j hj hn => by rcases Nat.lt_succ_iff_lt_or_eq.1 hj with h | h; exact HJ.out j h hn; subst h; simpa using hk2), rfl⟩
          case measure => omega
    · obtain rfl : i = 3 := h
      obtain hq | ⟨M, hq⟩ : q 3 = none ∨ ∃ M, q 3 = some M := by cases q 3 <;> simp
      · have hp : ptQ (q 3) = .pointer none := by rw [hq]; rfl
        rw [hp]
        have HP := Lib.hid hp; clear hp
        have ix : ∀ w : World, (Instr.index 54 (.agg #[ptQ (q 0), ptQ (q 1), ptQ (q 2), .pointer none]) (.int .i64 3)).run Try.prog w = .ok (.pointer none) w := fun w => by kernel_rfl
        go_wp2
        rw [← HP.out]
        go_roundg (gk - 1)
        case rel => exact ⟨4, rfl, by omega, by omega, Lib.hid (fun j hj hn => by rcases Nat.lt_succ_iff_lt_or_eq.1 hj with h | h; exact HJ.out j h hn; subst h; exact absurd hq hn), rfl⟩
        case measure => omega
      · have hp : ptQ (q 3) = .pointer (some ⟨M, 0, none⟩) := by rw [hq]; rfl
        rw [hp]
        have HP := Lib.hid hp; clear hp
        have ix : ∀ w : World, (Instr.index 54 (.agg #[ptQ (q 0), ptQ (q 1), ptQ (q 2), .pointer (some ⟨M, 0, none⟩)]) (.int .i64 3)).run Try.prog w = .ok (.pointer (some ⟨M, 0, none⟩)) w := fun w => by kernel_rfl
        by_cases hk2 : k = 3
        · have hd : ((3 : Int) == k) = true := by rw [hk2]; rfl
          go_wp2_with fail
          refine (hbIs_any N 3 k _ HK.out).mono ?_
          rintro e w1 ⟨rfl, rfl⟩
          rw [hd]
          go_wp2
          go_ret
          exact ⟨by rw [hk2, show (3 : Int) = ((3 : Nat) : Int) from rfl, atQ_in (by omega), hq]; rfl, rfl⟩
        · have hd : ((3 : Int) == k) = false := by simp; omega
          go_wp2_with fail
          refine (hbIs_any N 3 k _ HK.out).mono ?_
          rintro e w1 ⟨rfl, rfl⟩
          rw [hd]
          go_wp2
          rw [← HP.out]
          go_roundg (gk - 1)
          case rel => exact ⟨4, rfl, by omega, by omega, Lib.hid (fun j hj hn => by rcases Nat.lt_succ_iff_lt_or_eq.1 hj with h | h; exact HJ.out j h hn; subst h; simpa using hk2), rfl⟩
          case measure => omega
end Go.Proofs.Ytpcbgkmnjmiigaa

/- Package varnum: what Put, Len and the count of bytes answer for every number. Conditions: none. -/
namespace Go.Proofs.Ytpcbgkmnjmiigaa
open Go.RowKit

def wd (n : Int) : Int :=
  if n < 256 then 1 else if n < 65536 then 2 else if n < 16777216 then 3 else if n < 4294967296 then 4
  else if n < 1099511627776 then 5 else if n < 281474976710656 then 6 else if n < 72057594037927936 then 7 else 8

theorem wd_step (m : Int) (h : 0 ≤ m) (h1 : m < 18446744073709551616) (h2 : m / 256 ≠ 0) : wd m = 1 + wd (m / 256) := by
  unfold wd; repeat' split
  all_goals omega
theorem wd_bd (m : Int) : 1 ≤ wd m ∧ wd m ≤ 8 := by unfold wd; repeat' split
                                                    all_goals omega
theorem wd_end (m : Int) (h2 : m / 256 = 0) : wd m = 1 := by
  unfold wd; rw [if_pos (by omega)]
def lenOf (n : Int) : Int := if n < 248 then 1 else 1 + wd n
theorem lenOf_small (n : Int) (h : n < 248) : lenOf n = 1 := if_pos h
theorem lenOf_big (n : Int) (h : ¬ n < 248) : lenOf n = 1 + wd n := if_neg h

/-- k bytes of n, the most significant one first. -/
def be : Nat → Nat → List UInt8
  | 0, _ => []
  | k + 1, n => be k (n / 256) ++ [UInt8.ofNat n]
theorem be_len (k n : Nat) : (be k n).length = k := by
  induction k generalizing n with
  | zero => rfl
  | succ k ih => simp [be, ih]
def putL (n : Int) : List UInt8 := if n < 248 then [UInt8.ofNat n.toNat] else UInt8.ofNat (247 + wd n).toNat :: be (wd n).toNat n.toNat
theorem putL_small (n : Int) (h : n < 248) : putL n = [UInt8.ofNat n.toNat] := if_pos h
theorem putL_big (n : Int) (h : ¬ n < 248) : putL n = UInt8.ofNat (247 + wd n).toNat :: be (wd n).toNat n.toNat := if_neg h


set_option maxRecDepth 100000 in
set_option maxHeartbeats 1600000 in
theorem width_any (n : Int) (w : World) (h0 : 0 ≤ n) (h1 : n < 18446744073709551616) :
    Calls Try.prog 88 #[.int .u64 n] w fun e w' => e = .returned (.int .i64 (wd n)) ∧ w = w' := by
  go_enter Try.func88, Try.ntmps88
  go_wp2; go_step3; go_wp2; go_step3; go_wp2
  go_loopg [0, 3] 10 (fun g s0 s3 wr => ∃ (m : Int) (k : Nat), s0 = .int .u64 m ∧ s3 = .int .i64 k ∧ 0 ≤ m ∧ m < 18446744073709551616 ∧ k + g ≤ 11 ∧ 11 ≤ k + g ∧ 1 ≤ g ∧ wd n + 1 = k + wd m ∧ w = wr)
  case atStart => exact ⟨n, 1, rfl, rfl, h0, h1, by omega, by omega, by omega, by omega, rfl⟩
  case round =>
    obtain ⟨m, k, rfl, rfl, hm0, hm1, hk, hk2, hg, hw, rfl⟩ := hrel
    have hk8 : k ≤ 10 := by omega
    have H := Lib.hid hw; have H1 := Lib.hid hm1; clear hw h1 hm1
    go_wp2
    · have hz : m / 256 = 0 := by simpa using ‹(m / 256 == 0) = true›
      rw [Exit.noGoto_ret]; go_ret
      have := H.out; have := wd_end m hz
      exact ⟨ret_int (by omega), rfl⟩
    · have hz : m / 256 ≠ 0 := by simpa using ‹(m / 256 == 0) = false›
      have := H.out; have := wd_step m hm0 H1.out hz; have := wd_bd (m/256); have := wd_bd n; have := H1.out
      go_roundg (gk - 1)
      case rel => exact ⟨m / 256, k + 1, rfl, by go_num, by omega, by omega, by omega, by omega, by omega, by omega, rfl⟩
      case measure => omega

set_option maxRecDepth 100000 in
set_option maxHeartbeats 1600000 in
theorem len_any (n : Int) (w : World) (h0 : 0 ≤ n) (h1 : n < 18446744073709551616) :
    Calls Try.prog 90 #[.int .u64 n] w fun e w' => e = .returned (.int .i64 (lenOf n)) ∧ w = w' := by
  have := wd_bd n
  have H1 := Lib.hid h1; clear h1
  by_cases h : n < 248
  · rw [lenOf_small n h]
    go_enter Try.func90, Try.ntmps90
    go_wp2
    go_ret
    exact ⟨rfl, rfl⟩
  · rw [lenOf_big n h]
    go_enter Try.func90, Try.ntmps90
    go_wp2_with (go_at_call 88; refine (width_any _ _ h0 H1.out).mono ?_; rintro e w' ⟨rfl, rfl⟩)
    go_ret
    exact ⟨rfl, rfl⟩

set_option maxRecDepth 100000 in
set_option maxHeartbeats 1600000 in
theorem put_small (n : Int) (w : World) (h0 : 0 ≤ n) (h1 : n < 248) :
    Calls Try.prog 82 #[.int .u64 n] w fun e w' => e = .returned (.string ⟨(putL n).toArray⟩) ∧ Below w.heap.size w w' := by
  have hc := run_convert_bytes_back (P := Try.prog) (w.alloc (.cells #[.int .u8 n] 5)) 121 9 5 ⟨w.heap.size, 0, none⟩ 1 (putL n) Try.underlying121 Try.underlying5 Try.underlying9
    (by rw [putL_small n h1]; intro j hj; simp at hj; subst hj; rw [Addr.add_lit, World.cell?_alloc_mark]; simp; omega)
  rw [show (putL n).length = 1 by rw [putL_small n h1]; rfl] at hc
  go_enter Try.func82, Try.ntmps82
  go_wp2
  go_ret
  exact ⟨rfl, (Below.refl _ _).alloc (Nat.le_refl _) _⟩

theorem info_u8 : (Try.prog.info? 5).map (fun i => (i.zero, i.size, i.bytes)) = some (some (.int .u8 0), 1, 1) := by kernel_rfl

def bs (l : List UInt8) : List Value := l.map fun b => .int .u8 (b.toNat : Int)

theorem byte_at (n : Int) (h : 0 ≤ n) (j : Nat) : n / 2 ^ (8 * j) % 256 = ((UInt8.ofNat (n.toNat / 256 ^ j)).toNat : Int) := by
  obtain ⟨m, rfl⟩ := Int.eq_ofNat_of_zero_le h
  rw [Int.toNat_natCast, UInt8.toNat_ofNat', show (2 : Int) ^ (8 * j) = ((256 ^ j : Nat) : Int) by rw [Int.pow_mul]; norm_cast, show (2 : Nat) ^ 8 = 256 from rfl, Int.natCast_emod, Int.natCast_ediv]
  rfl
theorem u8_head (k : Nat) (h : k ≤ 8) : (247 + (k : Int)) = ((UInt8.ofNat (247 + k)).toNat : Int) := by
  rw [UInt8.toNat_ofNat']; omega
theorem be_snoc (n k i : Nat) (h : i < k) : be (i + 1) (n / 256 ^ (k - (i + 1))) = be i (n / 256 ^ (k - i)) ++ [UInt8.ofNat (n / 256 ^ (k - 1 - i))] := by
  rw [be]
  have e1 : k - (i + 1) = k - 1 - i := by omega
  have e2 : k - i = (k - 1 - i) + 1 := by omega
  rw [e1, e2, Nat.pow_succ, Nat.div_div_eq_div_mul]
theorem bs_at {l : List UInt8} {j : Nat} (hj : j < l.length) : (bs l)[j]? = some (.int .u8 (l[j].toNat : Int)) := by
  simp [bs, List.getElem?_eq_getElem hj]
set_option maxRecDepth 100000 in
set_option maxHeartbeats 1600000 in
theorem put_big (n : Int) (w : World) (h0 : 248 ≤ n) (h1 : n < 18446744073709551616) :
    Calls Try.prog 82 #[.int .u64 n] w fun e w' => e = .returned (.string ⟨(putL n).toArray⟩) ∧ Below w.heap.size w w' := by
  obtain ⟨i0, hi, hz0, hz1, hz2⟩ := info_parts info_u8
  obtain ⟨hk1, hk8⟩ := wd_bd n
  have H1 := Lib.hid h1; clear h1
  obtain ⟨k, hk⟩ : ∃ k : Nat, (k : Int) = wd n := ⟨(wd n).toNat, by omega⟩
  rw [← hk] at hk1 hk8
  have HK := Lib.hid hk; clear hk
  go_enter Try.func82, Try.ntmps82
  go_wp2_with (first
    | (go_at_call 88; refine (width_any _ _ (by omega) H1.out).mono ?_; rintro e w' ⟨rfl, rfl⟩; rw [← HK.out])
    | (at_make; go_loud (refine wpList_make_own _ rfl (.const (.int .i64 0)) (.tmp 15) 121 rfl w.heap.size 5 i0 (.int .u8 0) 1 Try.underlying121 hi hz0 hz1 .i64 .i64 (1 + (k : Int)) (k + 1) rfl rfl (by omega) (by rw [hz2]; omega) (by unfold maxLen; omega) (Nat.le_refl _) ?_); intro w1 hown1 hgr1)
    | (at_builtin; refine wpList_append_fits _ rfl (.tmp 17) (.tmp 21) 121 rfl w.heap.size 5 i0 1 Try.underlying121 hi hz1 w.heap.size 0 (k+1) [] rfl (hown1.alloc _) ⟨w1.heap.size, 0, none⟩ 1 1 [.int .u8 (247 + (k : Int))] rfl rfl (one_cell _ _ _) (by simp [Value.oneCell']) (by omega) ?_; intro w2 hown2 hgr2))
  have B1 : Below w.heap.size w w2 := ((((Below.refl _ _).grown hgr1 (Nat.le_refl _) (by intro k h; cases h)).alloc (by have := hgr1.size; simpa using this) _).grown hgr2 (by have := hgr1.size; simp; omega) (by intro k h; cases h; exact Nat.le_refl _))
  go_loopg [4, 24] (k + 1) (fun g s4 s24 wr => ∃ i : Nat, s4 = .slice (some ⟨w.heap.size, 0, none⟩) (i + 1) (k + 1) ∧ s24 = .int .i64 i ∧ i ≤ k ∧ i + g ≤ k + 1 ∧ k + 1 ≤ i + g ∧ 1 ≤ g ∧
    wr.ownsRow w.heap.size 5 1 s4 (i + 1) (bs (UInt8.ofNat (247 + k) :: be i (n.toNat / 256 ^ (k - i)))) ∧ Below w.heap.size w wr)
  case atStart => exact ⟨0, rfl, rfl, by omega, by omega, by omega, by omega, by have := hown2; rw [u8_head k (by omega)] at this; exact this, B1⟩
  case round =>
    clear hown2 hown1 hgr1 hgr2 B1
    obtain ⟨i, rfl, rfl, hik, hg1, hg2, hg3, hown, hbel⟩ := hrel
    have hsz := hbel.size
    have HO := Lib.hid hown; clear hown
    by_cases hlt : i < k
    · go_wp2_with (at_builtin; refine wpList_append_fits _ rfl (.tmp 27) (.tmp 36) 121 rfl w.heap.size 5 i0 1 Try.underlying121 hi hz1 w.heap.size (i + 1) (k+1) _ rfl (HO.out.alloc _) ⟨wr.heap.size, 0, none⟩ 1 1 [.int .u8 (n / 2 ^ (8 * (k - 1 - i)) % 256)] rfl rfl (one_cell _ _ _) (by simp [Value.oneCell']) (by omega) ?_; intro w3 hown3 hgr3)
      have hown4 := hown3
      rw [byte_at n (by omega)] at hown4
      have e : bs (UInt8.ofNat (247 + k) :: be i (n.toNat / 256 ^ (k - i))) ++ [.int .u8 ((UInt8.ofNat (n.toNat / 256 ^ (k - 1 - i))).toNat : Int)] = bs (UInt8.ofNat (247 + k) :: be (i + 1) (n.toNat / 256 ^ (k - (i + 1)))) := by
        rw [be_snoc _ _ _ hlt]; simp [bs]
      rw [e] at hown4
      clear hown3
      go_roundg (gk - 1)
      case rel => exact ⟨i + 1, rfl, by go_num, by omega, by omega, by omega, by omega, hown4, (hbel.alloc hsz _).grown hgr3 (by simp; omega) (by intro k h; cases h; exact Nat.le_refl _)⟩
      case measure => omega
    · obtain rfl : k = i := by omega
      have hl : (putL n).length = k + 1 := by rw [putL_big n (by omega)]; have := HK.out; simp [be_len]; omega
      have he : putL n = UInt8.ofNat (247 + k) :: be k (n.toNat / 256 ^ (k - k)) := by
        rw [putL_big n (by omega), ← HK.out, show (247 + (k : Int)).toNat = 247 + k by omega, Int.toNat_natCast, Nat.sub_self, Nat.pow_zero, Nat.div_one]
      have HO2 := HO.out
      rw [← he] at HO2
      have hc := run_convert_bytes_back (P := Try.prog) wr 121 9 5 ⟨w.heap.size, 0, none⟩ (k + 1) (putL n) Try.underlying121 Try.underlying5 Try.underlying9
        (by intro j hj; exact HO2.cells (g := w.heap.size) rfl j _ (bs_at hj))
      rw [hl] at hc
      have hb1 := wd_bd n
      clear HO HO2 he hl
      go_wp2
      go_ret
      exact ⟨rfl, hbel⟩

theorem put_any (n : Int) (w : World) (h0 : 0 ≤ n) (h1 : n < 18446744073709551616) :
    Calls Try.prog 82 #[.int .u64 n] w fun e w' => e = .returned (.string ⟨(putL n).toArray⟩) ∧ Below w.heap.size w w' := by
  by_cases h : n < 248
  · exact put_small n w h0 h
  · exact put_big n w (by omega) h1
end Go.Proofs.Ytpcbgkmnjmiigaa

/- Package wire: a writer, what it gathers. Conditions: none. -/
namespace Go.Proofs.Ytpcbgkmnjmiigaa
open Go.RowKit Go.PlainAid

theorem putL_le (n : Int) : (putL n).length ≤ 9 := by
  have := wd_bd n
  unfold putL
  split
  · simp
  · rw [List.length_cons, be_len]; omega
/-- A writer that was made: block b; its bytes lie from block B on. -/
structure Wr (w : World) (b B : Nat) (l : List UInt8) (e : Int) : Prop where
  made : w.cell? ⟨b, 0, none⟩ = some (.bool true)
  err : w.cell? ⟨b, 2, none⟩ = some (.int .i64 e)
  fr1 : w.frozen? ⟨b, 1, none⟩ = false
  fr2 : w.frozen? ⟨b, 2, none⟩ = false
  lt : b < B
  le : B ≤ w.heap.size
  buf : ∃ v, w.cell? ⟨b, 1, none⟩ = some v ∧ w.ownsRow B 5 1 v l.length (bs l)

theorem bs_app (l k : List UInt8) : bs (l ++ k) = bs l ++ bs k := by simp [bs]
theorem bs_str (s : ByteArray) : Lib.strCells s = bs s.data.toList := rfl
/-- A row is as it was where its own block is. -/
theorem row_but {S : Nat → Prop} {B : Nat} {e : TypeId} {k : Nat} {v : Value} {n : Nat} {xs : List Value} {w w' : World} (h : w.ownsRow B e k v n xs) (hb : But S w w') (hs : ∀ i, B ≤ i → ¬ S i) : w'.ownsRow B e k v n xs := by
  obtain ⟨h1, h2⟩ := h
  refine ⟨h1, ?_⟩
  rcases h2 with h2 | ⟨g, cap, cur, hv, hg, hh, r⟩
  · exact Or.inl h2
  · exact Or.inr ⟨g, cap, cur, hv, hg, by rw [hb.block g (Array.getElem?_eq_some_iff.1 hh).1 (hs g hg)]; exact hh, r⟩
theorem Wr.but {S : Nat → Prop} {w w' : World} {b B : Nat} {l : List UInt8} {e : Int} (h : Wr w b B l e) (hb : But S w w') (hs : ¬ S b) (hB : ∀ i, B ≤ i → ¬ S i) : Wr w' b B l e := by
  have hl : b < w.heap.size := World.block_lt_of_cell? w _ h.made
  obtain ⟨v, hc, ho⟩ := h.buf
  exact ⟨hb.cell hs h.made, hb.cell hs h.err, by rw [hb.frozen hl hs]; exact h.fr1, by rw [hb.frozen hl hs]; exact h.fr2, h.lt, Nat.le_trans h.le hb.size, v, hb.cell hs hc, row_but ho hb hB⟩
theorem Wr.below {w w' : World} {b B : Nat} {l : List UInt8} {e : Int} (h : Wr w b B l e) (hb : Below w.heap.size w w') : Wr w' b B l e := h.but (But.of_below (S := fun _ => False) hb) id (fun _ _ => id)
theorem Wr.setErr {w : World} {b B : Nat} {l : List UInt8} {e : Int} (h : Wr w b B l e) (e' : Int) : Wr (w.setCell ⟨b, 2, none⟩ (.int .i64 e')) b B l e' := by
  obtain ⟨v, hc, ho⟩ := h.buf
  refine ⟨?_, World.cell?_setCell_same _ _ _ h.err, by rw [World.frozen?_setCell]; exact h.fr1, by rw [World.frozen?_setCell]; exact h.fr2, h.lt, by rw [World.size_setCell]; exact h.le, v, ?_, ownsRow_setCell_below ho h.lt _⟩
  · rw [World.cell?_setCell_other _ _ _ _ (by simp)]; exact h.made
  · rw [World.cell?_setCell_other _ _ _ _ (by simp)]; exact hc
theorem fr_grown {w w2 w3 : World} {b : Nat} {row : Option Nat} (hb : Below w.heap.size w w2) (hg : w2.grownBy w3 row) (hl : b < w.heap.size) (hne : some b ≠ row) (hf : w.frozen? ⟨b, 1, none⟩ = false) : w3.frozen? ⟨b, 1, none⟩ = false := by
  rw [World.frozen?_of_block (w := w2) (hg.block b (Nat.lt_of_lt_of_le hl hb.size) hne), hb.frozen hl]; exact hf
/-- What a writer's calls turn. -/
def WrOnly (b B k : Nat) : Prop := k = b ∨ B ≤ k

/-- The block in which the bytes lie. -/
def rowOf (w : World) (b : Nat) : Option Nat := match w.cell? ⟨b, 1, none⟩ with | some v => v.ownBlock | none => none
/-- What one call turns: the writer, its bytes. -/
def Rw (w : World) (b k : Nat) : Prop := k = b ∨ rowOf w b = some k
theorem rowOf_cell {w : World} {b : Nat} {v : Value} (h : w.cell? ⟨b, 1, none⟩ = some v) : rowOf w b = v.ownBlock := by unfold rowOf; rw [h]
theorem Wr.row {w : World} {b B : Nat} {l : List UInt8} {e : Int} (h : Wr w b B l e) {k : Nat} (hk : rowOf w b = some k) : B ≤ k ∧ k < w.heap.size := by
  obtain ⟨v, hc, ho⟩ := h.buf
  rw [rowOf_cell hc] at hk
  exact ho.lt k hk
theorem Wr.only {w : World} {b B : Nat} {l : List UInt8} {e : Int} (h : Wr w b B l e) {k : Nat} (hk : Rw w b k) : WrOnly b B k := by
  rcases hk with hk | hk
  · exact Or.inl hk
  · exact Or.inr (h.row hk).1
theorem Wr.rw_below {w w' : World} {b B : Nat} {l : List UInt8} {e : Int} (h : Wr w b B l e) (hb : Below w.heap.size w w') : rowOf w' b = rowOf w b := by
  obtain ⟨v, hc, _⟩ := h.buf
  rw [rowOf_cell hc, rowOf_cell (cell_below hb hc)]
theorem Wr.rw_back {w w' : World} {b B : Nat} {l : List UInt8} {e : Int} (h : Wr w b B l e) (hb : Below w.heap.size w w') {k : Nat} (hk : Rw w' b k) : Rw w b k := by
  unfold Rw at hk ⊢; rwa [h.rw_below hb] at hk
theorem But.grown {S : Nat → Prop} {w w' : World} {row : Option Nat} (hg : w.grownBy w' row) (hs : ∀ k, row = some k → S k) : But S w w' :=
  ⟨hg.os, hg.tape, hg.output, hg.size, fun k hk hn => hg.block k hk (fun e => hn (hs k e.symm))⟩
/-- The bytes stay in their block, or go into a new one. -/
def Keep (w w' : World) (b : Nat) : Prop := ∀ k, rowOf w' b = some k → rowOf w b = some k ∨ w.heap.size ≤ k
theorem Wr.grow {w w2 w3 : World} {b B : Nat} {l : List UInt8} {e : Int} {row : Option Nat} {ao : Option Addr} {c : Nat} {s : ByteArray} (h : Wr w b B l e) (hb : Below w.heap.size w w2) (hg : w2.grownBy w3 row) (hne : some b ≠ row) (hrow : row = rowOf w b)
    (hown : w3.ownsRow B 5 1 (.slice ao (l.length + s.size) c) (l.length + s.size) (bs l ++ Lib.strCells s)) (hfr : (Value.slice ao (l.length + s.size) c).ownBlock = row ∨ ∀ k, (Value.slice ao (l.length + s.size) c).ownBlock = some k → w2.heap.size ≤ k) :
    Wr (w3.setCell ⟨b, 1, none⟩ (.slice ao (l.length + s.size) c)) b B (l ++ s.data.toList) e ∧ But (Rw w b) w (w3.setCell ⟨b, 1, none⟩ (.slice ao (l.length + s.size) c)) ∧ Keep w (w3.setCell ⟨b, 1, none⟩ (.slice ao (l.length + s.size) c)) b := by
  have hl : b < w.heap.size := Nat.lt_of_lt_of_le h.lt h.le
  have hn : (l ++ s.data.toList).length = l.length + s.size := by rw [List.length_append]; simp
  have hB3 : But (Rw w b) w w3 := (But.of_below hb).trans (But.grown hg (fun k hk => Or.inr (by rw [← hrow]; exact hk)))
  have kb : ∀ j v, w.cell? ⟨b, j, none⟩ = some v → w3.cell? ⟨b, j, none⟩ = some v := fun j v hc => hg.cell (a := ⟨b, j, none⟩) (cell_below hb hc) hne
  have fb : ∀ j, w3.frozen? ⟨b, j, none⟩ = w.frozen? ⟨b, j, none⟩ := fun j => by
    rw [World.frozen?_of_block (w := w2) (hg.block b (Nat.lt_of_lt_of_le hl hb.size) hne), hb.frozen hl]
  obtain ⟨v, hc, _⟩ := h.buf
  refine ⟨⟨?_, ?_, by rw [World.frozen?_setCell, fb]; exact h.fr1, by rw [World.frozen?_setCell, fb]; exact h.fr2, h.lt, by rw [World.size_setCell]; exact Nat.le_trans h.le hB3.size, _, World.cell?_setCell_same _ _ _ (kb 1 _ hc), ?_⟩, hB3.setCell (p := ⟨b, 1, none⟩) (fun _ => Or.inl rfl) _, fun k hk => ?_⟩
  · rw [World.cell?_setCell_other _ _ _ _ (by simp)]; exact kb 0 _ h.made
  · rw [World.cell?_setCell_other _ _ _ _ (by simp)]; exact kb 2 _ h.err
  · refine ownsRow_setCell_below ?_ h.lt _
    rw [hn, bs_app, ← bs_str]; exact hown
  · rw [rowOf_cell (World.cell?_setCell_same _ _ _ (kb 1 _ hc))] at hk
    rcases hfr with hf | hf
    · rw [hf, hrow] at hk; exact Or.inl hk
    · exact Or.inr (Nat.le_trans hb.size (hf k hk))

set_option maxRecDepth 100000 in
set_option maxHeartbeats 1600000 in
theorem big_any (b B : Nat) (l : List UInt8) (e : Int) (n : Int) (w : World) (h : Wr w b B l e) (hl : l.length ≤ 140737488355000) (h0 : 0 ≤ n) (h1 : n < 18446744073709551616) :
    Calls Try.prog 67 #[.pointer (some ⟨b, 0, none⟩), .int .u64 n] w fun x w' => x = .returned (.tuple #[]) ∧ Wr w' b B (l ++ putL n) e ∧ But (Rw w b) w w' ∧ Keep w w' b := by
  obtain ⟨i0, hi, hz0, hz1, hz2⟩ := info_parts info_u8
  have H := Lib.hid h
  obtain ⟨v, hc, ho⟩ := h.buf
  obtain ⟨ao, cp, rfl, _⟩ := row_view ho
  have k1 : w.drew.cell? ⟨b, 1, none⟩ = some (.slice ao l.length cp) := hc
  have HC := Lib.hid hc; have HO := Lib.hid ho
  have hbs : b < w.heap.size := Nat.lt_of_lt_of_le h.lt h.le
  have hlt := h.lt
  have hpl : (putL n).length ≤ 9 := putL_le n
  have hp1 : (⟨(putL n).toArray⟩ : ByteArray).size = (putL n).length := rfl
  have hA : Hid (l.length + (⟨(putL n).toArray⟩ : ByteArray).size ≤ maxLen) := Lib.hid (by unfold maxLen; omega)
  have hBy : Hid (l.length + (⟨(putL n).toArray⟩ : ByteArray).size ≤ 140737488355328) := Lib.hid (by omega)
  have hne : Hid (some b ≠ (Value.slice ao l.length cp).ownBlock) := Lib.hid (fun e => by
    cases ao with
    | none => cases e
    | some a =>
      have h9 := (ho.lt a.block rfl).1
      have : b = a.block := by simpa [Value.ownBlock] using e
      omega)
  have hrow : Hid ((Value.slice ao l.length cp).ownBlock = rowOf w b) := Lib.hid (rowOf_cell hc).symm
  clear h hc ho hp1
  go_enter Try.func67, Try.ntmps67
  go_wp2_with fail
  go_region_law (first | (go_simp; go_at_call 82; refine Calls.mono (put_any n _ h0 h1) ?_; rintro e w2 ⟨rfl, hb2⟩; have hb3 : Below w.heap.size w w2 := Below.trans ((Below.refl _ _).drew) hb2; have c1 := cell_below hb3 HC.out; have HO2 := Lib.hid (row_below HO.out hb3); have HB2 := Lib.hid hb3; clear hb2 hb3) | (refine step_append_str rfl (.tmp 8) (.tmp 10) 121 9 rfl B 5 i0 Try.underlying121 Try.underlying9 hi hz0 hz1 hz2 _ l.length _ rfl HO2.out ⟨(putL n).toArray⟩ rfl hA.out hBy.out (Nat.le_trans H.out.le HB2.out.size) ?_; intro ao3 c3 w3 hown3 hgr3 hfr3; have HFr3 := Lib.hid hfr3; have c4 := hgr3.cell c1 hne.out; have z4 : w3.frozen? ⟨b, 1, none⟩ = false := fr_grown HB2.out hgr3 hbs hne.out H.out.fr1; have HO3 := Lib.hid hown3; have HG3 := Lib.hid hgr3; clear hown3 hgr3 hfr3))
  all_goals
    have HF := Lib.hid (H.out.grow HB2.out HG3.out hne.out hrow.out HO3.out HFr3.out)
    go_wp2
    go_end0
    exact ⟨rfl, HF.out.1, HF.out.2.1, HF.out.2.2⟩
end Go.Proofs.Ytpcbgkmnjmiigaa

/- Package wire: what a deferred closure makes of a panic. Conditions: none. -/
namespace Go.Proofs.Ytpcbgkmnjmiigaa
open Go.RowKit Go.PlainAid

theorem ta_nil (w : World) : (Instr.typeAssert Value.nilIface 20 24 true).run Try.prog w = .ok (.tuple #[.int .i64 0, .bool false]) w := by kernel_rfl
theorem ta_err (x : Int) (w : World) : (Instr.typeAssert (.iface 24 (.int .i64 x)) 20 24 true).run Try.prog w = .ok (.tuple #[.int .i64 x, .bool true]) w := by kernel_rfl
set_option maxRecDepth 100000 in
set_option maxHeartbeats 1600000 in
theorem catch_idle (p : Addr) (w : World) :
    CallsD Try.prog 87 #[.pointer (some p)] .returning w fun e u' w' => e = .returned (.tuple #[]) ∧ u' = .returning ∧ w' = w := by
  refine callsD_of_wpS Try.func87 rfl fun c₀ cs hu => ?_
  apply wpS_seq
  apply wpS_region
  simp [wpOpsS, go_sem, recoverD, hu, Try.ntmps87, Exit.thenS, ta_nil, ta_err]
  apply wpS_seq
  apply wpS_region
  simp [wpOpsS, go_sem, recoverD, hu, Exit.thenS]
  refine wpS_cond (t := false) (by simp [Act.eval, Array.replicate]) ?_
  simp only [Bool.false_eq_true, if_false]
  refine wpS_of_wp (wp_skip ?_)
  cases c₀
  simp_all [bodyPostS, results, Try.results87]
set_option maxRecDepth 100000 in
set_option maxHeartbeats 1600000 in
theorem catch_errno (p : Addr) (b : Nat) (x y : Int) (older : List PanicEntry) (w : World) (hp : w.cell? p = some (.pointer (some ⟨b, 0, none⟩))) (hc : w.cell? ⟨b, 2, none⟩ = some (.int .i64 y)) (hz : w.frozen? ⟨b, 2, none⟩ = false) :
    CallsD Try.prog 87 #[.pointer (some p)] (.panicking ({ v := .iface 24 (.int .i64 x), recovered := false } :: older)) w fun e u' w' => e = .returned (.tuple #[]) ∧ u' = .panicking ({ v := .iface 24 (.int .i64 x), recovered := true } :: older) ∧ w' = w.setCell ⟨b, 2, none⟩ (.int .i64 x) := by
  refine callsD_of_wpS Try.func87 rfl fun c₀ cs hu => ?_
  apply wpS_seq
  apply wpS_region
  simp [wpOpsS, go_sem, recoverD, hu, Try.ntmps87, Exit.thenS, ta_nil, ta_err]
  apply wpS_seq
  apply wpS_region
  simp [wpOpsS, go_sem, recoverD, hu, Exit.thenS]
  refine wpS_cond (t := true) (by simp [Act.eval, Array.replicate]) ?_
  simp only [if_true]
  apply wpS_region
  simp [wpOpsS, go_sem, hp, hc, hz, bodyPostS, results, Try.results87]
end Go.Proofs.Ytpcbgkmnjmiigaa

/- Package wire: a number is written. Conditions: none. -/
namespace Go.Proofs.Ytpcbgkmnjmiigaa
open Go.RowKit Go.PlainAid

def errV (x : Int) : PanicEntry := { v := .iface 24 (.int .i64 x), recovered := false }
set_option maxRecDepth 100000 in
set_option maxHeartbeats 1600000 in
theorem stepNum_bad (pn pw : Addr) (b : Nat) (n : Int) (w : World) (hn : w.cell? pn = some (.int .i64 n)) (hw : w.cell? pw = some (.pointer (some ⟨b, 0, none⟩))) (h0 : n < 0) :
    Calls Try.prog 66 #[.pointer (some pn), .pointer (some pw)] w fun e w' => e = .panicked [errV 5] ∧ w = w' := by
  go_enter Try.func66, Try.ntmps66
  go_wp2
  exact ⟨rfl, rfl, rfl⟩
set_option maxRecDepth 100000 in
set_option maxHeartbeats 1600000 in
theorem stepNum_good (pn pw : Addr) (b B : Nat) (l : List UInt8) (n : Int) (w : World) (hn : w.cell? pn = some (.int .i64 n)) (hw : w.cell? pw = some (.pointer (some ⟨b, 0, none⟩))) (h : Wr w b B l 0) (hl : l.length ≤ 140737488355000) (h0 : 0 ≤ n) (h1 : n ≤ 9223372036854775807) :
    Calls Try.prog 66 #[.pointer (some pn), .pointer (some pw)] w fun e w' => e = .returned (.tuple #[]) ∧ Wr w' b B (l ++ putL n) 0 ∧ But (Rw w b) w w' := by
  have H := Lib.hid h; clear h
  have hwu : IntKind.u64.wrap n = n := u64_nonneg h0 (by omega)
  go_enter Try.func66, Try.ntmps66
  go_wp2_with fail
  refine (big_any b B l 0 n _ H.out hl h0 (by omega)).mono ?_
  rintro e w1 ⟨rfl, hm, hb, _⟩
  have HM := Lib.hid hm; have HB := Lib.hid hb; clear hm hb
  go_wp2
  go_end0
  exact ⟨rfl, HM.out, HB.out⟩

set_option maxRecDepth 100000 in
set_option maxHeartbeats 1600000 in
theorem runNum_good (pn pw : Addr) (b B : Nat) (l : List UInt8) (n : Int) (w : World) (hn : w.cell? pn = some (.int .i64 n)) (hw : w.cell? pw = some (.pointer (some ⟨b, 0, none⟩))) (h : Wr w b B l 0) (hl : l.length ≤ 140737488355000) (h0 : 0 ≤ n) (h1 : n ≤ 9223372036854775807) :
    Calls Try.prog 81 #[.pointer (some ⟨b, 0, none⟩), .func (.func 66) #[] #[.pointer (some pn), .pointer (some pw)]] w fun e w' => e = .returned (.tuple #[]) ∧ Wr w' b B (l ++ putL n) 0 ∧ But (Rw w b) w w' := by
  have hmf : ∀ (fn : Fn) (first cap : Array Value) (w : World), (Instr.makeFunc fn first cap).run Try.prog w = .ok (.func fn first cap) w := fun _ _ _ _ => rfl
  have hb1 : Below w.heap.size w (w.alloc (.cells #[.pointer (some ⟨b, 0, none⟩)] 95)) := (Below.refl _ _).alloc (Nat.le_refl _) _
  have H1 := Lib.hid (h.below hb1)
  have HRB := Lib.hid (fun k (hk : Rw _ b k) => h.rw_back hb1 hk)
  have hn1 := cell_below hb1 hn; have hw1 := cell_below hb1 hw
  have hbx : But (Rw w b) w (w.alloc (.cells #[.pointer (some ⟨b, 0, none⟩)] 95)) := But.of_below hb1
  have HN1 := Lib.hid hn1; have HW1 := Lib.hid hw1; have HBX := Lib.hid hbx
  clear hn hw h hb1 hn1 hw1 hbx
  go_enter_defers Try.func81, Try.ntmps81
  go_wp2_with fail
  refine (stepNum_good pn pw b B l n _ HN1.out HW1.out H1.out hl h0 h1).mono ?_
  rintro e w2 ⟨rfl, hm, hb⟩
  have HM := Lib.hid hm
  have HB := Lib.hid (HBX.out.trans (hb.mono (fun k _ hk => HRB.out k hk)))
  clear hm hb
  go_wp2
  refine leaves_cons (f := 87) (args := #[.pointer (some ⟨w.heap.size, 0, none⟩)]) (by simp) (by simp [go_sem]) ?_
  refine (catch_idle _ _).mono ?_
  rintro e u' w'' ⟨rfl, rfl, rfl⟩
  simp only [Leaves, settle, results, Try.results81]
  simp
  exact ⟨HM.out, HB.out⟩
set_option maxRecDepth 100000 in
set_option maxHeartbeats 1600000 in
theorem runNum_bad (pn pw : Addr) (b B : Nat) (l : List UInt8) (n : Int) (w : World) (hn : w.cell? pn = some (.int .i64 n)) (hw : w.cell? pw = some (.pointer (some ⟨b, 0, none⟩))) (h : Wr w b B l 0) (h0 : n < 0) :
    Calls Try.prog 81 #[.pointer (some ⟨b, 0, none⟩), .func (.func 66) #[] #[.pointer (some pn), .pointer (some pw)]] w fun e w' => e = .returned (.tuple #[]) ∧ Wr w' b B l 5 ∧ But (Rw w b) w w' := by
  have hmf : ∀ (fn : Fn) (first cap : Array Value) (w : World), (Instr.makeFunc fn first cap).run Try.prog w = .ok (.func fn first cap) w := fun _ _ _ _ => rfl
  have hb1 : Below w.heap.size w (w.alloc (.cells #[.pointer (some ⟨b, 0, none⟩)] 95)) := (Below.refl _ _).alloc (Nat.le_refl _) _
  have H1 := Lib.hid (h.below hb1)
  have HRB := Lib.hid (fun k (hk : Rw _ b k) => h.rw_back hb1 hk)
  have hn1 := cell_below hb1 hn; have hw1 := cell_below hb1 hw
  have hbx : But (Rw w b) w (w.alloc (.cells #[.pointer (some ⟨b, 0, none⟩)] 95)) := But.of_below hb1
  have HN1 := Lib.hid hn1; have HW1 := Lib.hid hw1; have HBX := Lib.hid hbx
  have HP : Hid ((w.alloc (.cells #[.pointer (some ⟨b, 0, none⟩)] 95)).cell? ⟨w.heap.size, 0, none⟩ = some (.pointer (some ⟨b, 0, none⟩))) := Lib.hid (by simp)
  clear hn hw h hb1 hn1 hw1 hbx
  go_enter_defers Try.func81, Try.ntmps81
  go_wp2_with fail
  refine (stepNum_bad pn pw b n _ HN1.out HW1.out h0).mono ?_
  rintro e w2 ⟨rfl, rfl⟩
  go_wp2
  refine leaves_cons (f := 87) (args := #[.pointer (some ⟨w.heap.size, 0, none⟩)]) (by simp) (by simp [go_sem]) ?_
  refine (catch_errno _ b 5 0 [] _ HP.out H1.out.err H1.out.fr2).mono ?_
  rintro e u' w'' ⟨rfl, rfl, rfl⟩
  have HF := Lib.hid (H1.out.setErr 5)
  have HB2 := Lib.hid (HBX.out.setCell (p := ⟨b, 2, none⟩) (fun _ => Or.inl rfl) (.int .i64 5))
  simp [Leaves, settle, results, Try.results81, go_sem]
  exact ⟨HF.out, HB2.out⟩
end Go.Proofs.Ytpcbgkmnjmiigaa

/- Package wire: a big number, a text, a flag are written. Conditions: none. -/
namespace Go.Proofs.Ytpcbgkmnjmiigaa
open Go.RowKit Go.PlainAid

theorem Wr.buf_form {w : World} {b B : Nat} {l : List UInt8} {e : Int} (h : Wr w b B l e) : ∃ ao cp, w.cell? ⟨b, 1, none⟩ = some (.slice ao l.length cp) ∧ w.ownsRow B 5 1 (.slice ao l.length cp) l.length (bs l) ∧ some b ≠ (Value.slice ao l.length cp).ownBlock ∧ (Value.slice ao l.length cp).ownBlock = rowOf w b := by
  obtain ⟨v, hc, ho⟩ := h.buf
  obtain ⟨ao, cp, rfl, _⟩ := row_view ho
  refine ⟨ao, cp, hc, ho, fun e => ?_, (rowOf_cell hc).symm⟩
  have := (ho.lt b e.symm).1
  have := h.lt
  omega
set_option maxRecDepth 100000 in
set_option maxHeartbeats 1600000 in
theorem stepText (pn pw : Addr) (b B : Nat) (l : List UInt8) (s : ByteArray) (w : World) (hn : w.cell? pn = some (.string s)) (hw : w.cell? pw = some (.pointer (some ⟨b, 0, none⟩))) (h : Wr w b B l 0) (hl : l.length + s.size ≤ 140737488355000) (hpn : ¬ Rw w b pn.block) (hpw : ¬ Rw w b pw.block) :
    Calls Try.prog 69 #[.pointer (some pw), .pointer (some pn)] w fun e w' => e = .returned (.tuple #[]) ∧ Wr w' b B (l ++ putL (s.size : Int) ++ s.data.toList) 0 ∧ But (Rw w b) w w' := by
  obtain ⟨i0, hi, hz0, hz1, hz2⟩ := info_parts info_u8
  have H := Lib.hid h
  have hwu : IntKind.u64.wrap (s.size : Int) = (s.size : Int) := u64_nonneg (by omega) (by omega)
  have HPN := Lib.hid hpn; have HPW := Lib.hid hpw; have HN := Lib.hid hn; have HW := Lib.hid hw
  obtain ⟨m, hme⟩ : ∃ m, m = l ++ putL (s.size : Int) := ⟨_, rfl⟩
  simp only [← hme]
  have HMe := Lib.hid hme
  have hml : m.length ≤ l.length + 9 := by rw [hme, List.length_append]; have := putL_le (s.size : Int); omega
  clear hpn hpw hme
  go_enter Try.func69, Try.ntmps69
  go_wp2_with fail
  refine (big_any b B l 0 (s.size : Int) _ H.out (by omega) (by omega) (by omega)).mono ?_
  rintro e w2 ⟨rfl, hm, hb, hkp⟩
  rw [← HMe.out] at hm
  have HM := Lib.hid hm; have HB := Lib.hid hb; have HKP := Lib.hid hkp
  have n2 := hb.cell HPN.out HN.out; have p2 := hb.cell HPW.out HW.out
  have hrn : ∀ q : Addr, ¬ Rw w b q.block → q.block < w.heap.size → ¬ (rowOf w2 b = some q.block) := fun q h1 h2 h3 => by
    rcases hkp _ h3 with h4 | h4
    · exact h1 (Or.inr h4)
    · omega
  have hrp := hrn pw HPW.out (World.block_lt_of_cell? w _ HW.out)
  have hrs := hrn pn HPN.out (World.block_lt_of_cell? w _ HN.out)
  obtain ⟨ao, cp, hc, ho, hne, hrow⟩ := HM.out.buf_form
  have hqp : Hid (some pw.block ≠ (Value.slice ao m.length cp).ownBlock) := Lib.hid (fun e => hrp (by rw [← hrow]; exact e.symm))
  have hqn : Hid (some pn.block ≠ (Value.slice ao m.length cp).ownBlock) := Lib.hid (fun e => hrs (by rw [← hrow]; exact e.symm))
  have P2 := Lib.hid p2; have N2 := Lib.hid n2
  have hbs : b < w2.heap.size := Nat.lt_of_lt_of_le HM.out.lt HM.out.le
  have hA : Hid (m.length + s.size ≤ maxLen) := Lib.hid (by unfold maxLen; omega)
  have hBy : Hid (m.length + s.size ≤ 140737488355328) := Lib.hid (by omega)
  have HO : Hid (w2.drew.ownsRow B 5 1 (.slice ao m.length cp) m.length (bs m)) := Lib.hid ho
  have HNe := Lib.hid hne; have HRow := Lib.hid hrow; have HC := Lib.hid hc
  have HBd : Hid (Below w2.heap.size w2 w2.drew) := Lib.hid (Below.refl _ _).drew
  clear hn hw h hm hb ho hne hrow hwu hkp hrn hrp hrs
  go_wp2_with fail
  go_region_law (first | (refine step_append_str rfl (.tmp 11) (.tmp 12) 121 9 rfl B 5 i0 Try.underlying121 Try.underlying9 hi hz0 hz1 hz2 _ m.length _ rfl HO.out s rfl hA.out hBy.out HM.out.le ?_; intro ao3 c3 w3 hown3 hgr3 hfr3; have HFr3 := Lib.hid hfr3; have c4 := hgr3.cell HC.out HNe.out; have p4 := hgr3.cell P2.out hqp.out; have n4 := hgr3.cell N2.out hqn.out; have z4 : w3.frozen? ⟨b, 1, none⟩ = false := fr_grown HBd.out hgr3 hbs HNe.out HM.out.fr1; have HO3 := Lib.hid hown3; have HG3 := Lib.hid hgr3; clear hown3 hgr3 hfr3))
  all_goals
    have HF := Lib.hid (HM.out.grow HBd.out HG3.out HNe.out HRow.out HO3.out HFr3.out)
    have HBF := Lib.hid (HB.out.trans' HF.out.2.1 (fun i hi hk => by
      rcases hk with hk | hk
      · exact Or.inl hk
      · rcases HKP.out _ hk with h4 | h4
        · exact Or.inr h4
        · omega))
    go_wp2
    go_end0
    exact ⟨rfl, HF.out.1, HBF.out⟩
theorem fresh_lies {row : Option Nat} {g n c H H2 : Nat} (h : row = some g ∨ g = H) (hH : H2 ≤ H) : (Value.slice (some ⟨g, 0, none⟩) n c).ownBlock = row ∨ ∀ k, (Value.slice (some ⟨g, 0, none⟩) n c).ownBlock = some k → H2 ≤ k := by
  rcases h with h | h
  · exact Or.inl h.symm
  · exact Or.inr (fun k hk => by simp [Value.ownBlock] at hk; omega)
def flagB (f : Bool) : UInt8 := if f then 1 else 0
set_option maxRecDepth 100000 in
set_option maxHeartbeats 1600000 in
theorem stepFlag (pn pw : Addr) (b B : Nat) (l : List UInt8) (f : Bool) (w : World) (hn : w.cell? pn = some (.bool f)) (hw : w.cell? pw = some (.pointer (some ⟨b, 0, none⟩))) (h : Wr w b B l 0) (hl : l.length ≤ 140737488355000) (hpw : ¬ Rw w b pw.block) :
    Calls Try.prog 68 #[.pointer (some pn), .pointer (some pw)] w fun e w' => e = .returned (.tuple #[]) ∧ Wr w' b B (l ++ [flagB f]) 0 ∧ But (Rw w b) w w' := by
  obtain ⟨i0, hi, hz0, hz1, hz2⟩ := info_parts info_u8
  have H := Lib.hid h
  obtain ⟨ao, cp, hc, ho, hne, hrow⟩ := h.buf_form
  have hbs : b < w.heap.size := Nat.lt_of_lt_of_le h.lt h.le
  have hA : Hid (l.length + 1 ≤ maxLen) := Lib.hid (by unfold maxLen; omega)
  have hBy : Hid ((l.length + 1) * 1 ≤ 140737488355328) := Lib.hid (by omega)
  have hle := h.le
  have HNe := Lib.hid hne; have HRow := Lib.hid hrow; have HC := Lib.hid hc; have HO := Lib.hid ho
  have hqp : Hid (some pw.block ≠ (Value.slice ao l.length cp).ownBlock) := Lib.hid (fun e => hpw (Or.inr (by rw [← hrow]; exact e.symm)))
  have HW := Lib.hid hw; have HN := Lib.hid hn
  clear h ho hne hrow hpw hn hw
  cases f
  · have hbel : Below w.heap.size w (w.alloc (.cells #[.int .u8 0] 5)).drew := ((Below.refl _ _).alloc (Nat.le_refl _) _).drew
    have HB2 := Lib.hid hbel
    have p1 := cell_below hbel HW.out; have p0 := HW.out; have n0 := HN.out; have c0 := HC.out; have c1 := cell_below hbel HC.out
    have HSz : Hid ((w.alloc (.cells #[.int .u8 0] 5)).drew.heap.size = w.heap.size + 1) := Lib.hid (by simp [World.drew])
    have HOne : Hid (∀ u ∈ [Value.int .u8 0], u.oneCell' = true) := Lib.hid (by simp [Value.oneCell'])
    have HOa : Hid ((w.alloc (.cells #[.int .u8 0] 5)).drew.ownsRow B 5 1 (.slice ao l.length cp) l.length (bs l)) := Lib.hid (HO.out.alloc _)
    clear hbel
    go_enter Try.func68, Try.ntmps68
    go_wp2_with fail
    go_region_law (first | (refine step_append_lies _ rfl (.tmp 8) (.tmp 10) 121 rfl B 5 i0 (.int .u8 0) 1 1 Try.underlying121 hi hz0 hz1 hz2 rfl (by decide) _ l.length _ rfl HOa.out ⟨w.heap.size, 0, none⟩ 1 1 [.int .u8 0] rfl rfl (one_cell w _ _) HOne.out Nat.one_pos hA.out hBy.out (Nat.le_trans hle HB2.out.size) (w.heap.size + 1) HSz.out ?_; intro g3 c3 w3 hown3 hgr3 hg3 _; have hfr3 := fresh_lies (n := l.length + 1) (c := c3) hg3 (Nat.le_of_eq HSz.out); have HFr3 := Lib.hid hfr3; have p4 := hgr3.cell (cell_below HB2.out HW.out) hqp.out; have c4 := hgr3.cell (cell_below HB2.out HC.out) HNe.out; have z4 : w3.frozen? ⟨b, 1, none⟩ = false := fr_grown HB2.out hgr3 hbs HNe.out H.out.fr1; have HO3 := Lib.hid hown3; have HG3 := Lib.hid hgr3; clear hown3 hgr3 hfr3))
    all_goals
      have HF := Lib.hid (Wr.grow (s := ⟨#[0]⟩) H.out HB2.out HG3.out HNe.out HRow.out HO3.out HFr3.out)
      go_wp2
      go_end0
      exact ⟨rfl, HF.out.1, HF.out.2.1⟩
  · have hbel : Below w.heap.size w (w.alloc (.cells #[.int .u8 1] 5)).drew := ((Below.refl _ _).alloc (Nat.le_refl _) _).drew
    have HB2 := Lib.hid hbel
    have p1 := cell_below hbel HW.out; have p0 := HW.out; have n0 := HN.out; have c0 := HC.out; have c1 := cell_below hbel HC.out
    have HSz : Hid ((w.alloc (.cells #[.int .u8 1] 5)).drew.heap.size = w.heap.size + 1) := Lib.hid (by simp [World.drew])
    have HOne : Hid (∀ u ∈ [Value.int .u8 1], u.oneCell' = true) := Lib.hid (by simp [Value.oneCell'])
    have HOa : Hid ((w.alloc (.cells #[.int .u8 1] 5)).drew.ownsRow B 5 1 (.slice ao l.length cp) l.length (bs l)) := Lib.hid (HO.out.alloc _)
    clear hbel
    go_enter Try.func68, Try.ntmps68
    go_wp2_with fail
    go_region_law (first | (refine step_append_lies _ rfl (.tmp 8) (.tmp 10) 121 rfl B 5 i0 (.int .u8 0) 1 1 Try.underlying121 hi hz0 hz1 hz2 rfl (by decide) _ l.length _ rfl HOa.out ⟨w.heap.size, 0, none⟩ 1 1 [.int .u8 1] rfl rfl (one_cell w _ _) HOne.out Nat.one_pos hA.out hBy.out (Nat.le_trans hle HB2.out.size) (w.heap.size + 1) HSz.out ?_; intro g3 c3 w3 hown3 hgr3 hg3 _; have hfr3 := fresh_lies (n := l.length + 1) (c := c3) hg3 (Nat.le_of_eq HSz.out); have HFr3 := Lib.hid hfr3; have p4 := hgr3.cell (cell_below HB2.out HW.out) hqp.out; have c4 := hgr3.cell (cell_below HB2.out HC.out) HNe.out; have z4 : w3.frozen? ⟨b, 1, none⟩ = false := fr_grown HB2.out hgr3 hbs HNe.out H.out.fr1; have HO3 := Lib.hid hown3; have HG3 := Lib.hid hgr3; clear hown3 hgr3 hfr3))
    all_goals
      have HF := Lib.hid (Wr.grow (s := ⟨#[1]⟩) H.out HB2.out HG3.out HNe.out HRow.out HO3.out HFr3.out)
      go_wp2
      go_end0
      exact ⟨rfl, HF.out.1, HF.out.2.1⟩

set_option maxRecDepth 100000 in
set_option maxHeartbeats 1600000 in
theorem runText (pn pw : Addr) (b B : Nat) (l : List UInt8) (s : ByteArray) (w : World) (hn : w.cell? pn = some (.string s)) (hw : w.cell? pw = some (.pointer (some ⟨b, 0, none⟩))) (h : Wr w b B l 0) (hl : l.length + s.size ≤ 140737488355000) (hpn : ¬ Rw w b pn.block) (hpw : ¬ Rw w b pw.block) :
    Calls Try.prog 81 #[.pointer (some ⟨b, 0, none⟩), .func (.func 69) #[] #[.pointer (some pw), .pointer (some pn)]] w fun e w' => e = .returned (.tuple #[]) ∧ Wr w' b B (l ++ putL (s.size : Int) ++ s.data.toList) 0 ∧ But (Rw w b) w w' := by
  have hmf : ∀ (fn : Fn) (first cap : Array Value) (w : World), (Instr.makeFunc fn first cap).run Try.prog w = .ok (.func fn first cap) w := fun _ _ _ _ => rfl
  have hb1 : Below w.heap.size w (w.alloc (.cells #[.pointer (some ⟨b, 0, none⟩)] 95)) := (Below.refl _ _).alloc (Nat.le_refl _) _
  have H1 := Lib.hid (h.below hb1)
  have HRB := Lib.hid (fun k (hk : Rw _ b k) => h.rw_back hb1 hk)
  have hn1 := cell_below hb1 hn; have hw1 := cell_below hb1 hw
  have hbx : But (Rw w b) w (w.alloc (.cells #[.pointer (some ⟨b, 0, none⟩)] 95)) := But.of_below hb1
  have HN1 := Lib.hid hn1; have HW1 := Lib.hid hw1; have HBX := Lib.hid hbx
  have HRow := Lib.hid (h.rw_below hb1)
  clear hn hw h hb1 hn1 hw1 hbx
  go_enter_defers Try.func81, Try.ntmps81
  go_wp2_with fail
  refine (stepText pn pw b B l s _ HN1.out HW1.out H1.out hl (by have := HRow.out; unfold Rw; rw [this]; exact hpn) (by have := HRow.out; unfold Rw; rw [this]; exact hpw)).mono ?_
  rintro e w2 ⟨rfl, hm, hb⟩
  have HM := Lib.hid hm
  have HB := Lib.hid (HBX.out.trans (hb.mono (fun k _ hk => HRB.out k hk)))
  clear hm hb
  go_wp2
  refine leaves_cons (f := 87) (args := #[.pointer (some ⟨w.heap.size, 0, none⟩)]) (by simp) (by simp [go_sem]) ?_
  refine (catch_idle _ _).mono ?_
  rintro e u' w'' ⟨rfl, rfl, rfl⟩
  simp only [Leaves, settle, results, Try.results81]
  simp
  exact ⟨by rw [← List.append_assoc]; exact HM.out, HB.out⟩
set_option maxRecDepth 100000 in
set_option maxHeartbeats 1600000 in
theorem runFlag (pn pw : Addr) (b B : Nat) (l : List UInt8) (f : Bool) (w : World) (hn : w.cell? pn = some (.bool f)) (hw : w.cell? pw = some (.pointer (some ⟨b, 0, none⟩))) (h : Wr w b B l 0) (hl : l.length ≤ 140737488355000) (hpw : ¬ Rw w b pw.block) :
    Calls Try.prog 81 #[.pointer (some ⟨b, 0, none⟩), .func (.func 68) #[] #[.pointer (some pn), .pointer (some pw)]] w fun e w' => e = .returned (.tuple #[]) ∧ Wr w' b B (l ++ [flagB f]) 0 ∧ But (Rw w b) w w' := by
  have hmf : ∀ (fn : Fn) (first cap : Array Value) (w : World), (Instr.makeFunc fn first cap).run Try.prog w = .ok (.func fn first cap) w := fun _ _ _ _ => rfl
  have hb1 : Below w.heap.size w (w.alloc (.cells #[.pointer (some ⟨b, 0, none⟩)] 95)) := (Below.refl _ _).alloc (Nat.le_refl _) _
  have H1 := Lib.hid (h.below hb1)
  have HRB := Lib.hid (fun k (hk : Rw _ b k) => h.rw_back hb1 hk)
  have hn1 := cell_below hb1 hn; have hw1 := cell_below hb1 hw
  have hbx : But (Rw w b) w (w.alloc (.cells #[.pointer (some ⟨b, 0, none⟩)] 95)) := But.of_below hb1
  have HN1 := Lib.hid hn1; have HW1 := Lib.hid hw1; have HBX := Lib.hid hbx
  have HRow := Lib.hid (h.rw_below hb1)
  clear hn hw h hb1 hn1 hw1 hbx
  go_enter_defers Try.func81, Try.ntmps81
  go_wp2_with fail
  refine (stepFlag pn pw b B l f _ HN1.out HW1.out H1.out hl (by have := HRow.out; unfold Rw; rw [this]; exact hpw)).mono ?_
  rintro e w2 ⟨rfl, hm, hb⟩
  have HM := Lib.hid hm
  have HB := Lib.hid (HBX.out.trans (hb.mono (fun k _ hk => HRB.out k hk)))
  clear hm hb
  go_wp2
  refine leaves_cons (f := 87) (args := #[.pointer (some ⟨w.heap.size, 0, none⟩)]) (by simp) (by simp [go_sem]) ?_
  refine (catch_idle _ _).mono ?_
  rintro e u' w'' ⟨rfl, rfl, rfl⟩
  simp only [Leaves, settle, results, Try.results81]
  simp
  exact ⟨HM.out, HB.out⟩
end Go.Proofs.Ytpcbgkmnjmiigaa

/- Package wire: a writer's calls. Conditions: none. -/
namespace Go.Proofs.Ytpcbgkmnjmiigaa
open Go.RowKit Go.PlainAid

set_option maxRecDepth 100000 in
set_option maxHeartbeats 1600000 in
theorem add_made (b B : Nat) (l : List UInt8) (st : Value) (Post : World → Prop) (w : World) (h : Wr w b B l 0) (hr : Calls Try.prog 81 #[.pointer (some ⟨b, 0, none⟩), st] w fun e w' => e = .returned (.tuple #[]) ∧ Post w') :
    Calls Try.prog 65 #[.pointer (some ⟨b, 0, none⟩), st] w fun e w' => e = .returned (.pointer (some ⟨b, 0, none⟩)) ∧ Post w' := by
  have c0 := h.made; have c2 := h.err
  clear h
  go_enter Try.func65, Try.ntmps65
  go_wp2_with fail
  refine hr.mono ?_
  rintro e w1 ⟨rfl, hb⟩
  have HB := Lib.hid hb; clear hb
  go_wp2
  go_ret
  exact ⟨rfl, HB.out⟩
set_option maxRecDepth 100000 in
set_option maxHeartbeats 1600000 in
theorem add_err (b B : Nat) (l : List UInt8) (x : Int) (st : Value) (w : World) (h : Wr w b B l x) (hx : x ≠ 0) :
    Calls Try.prog 65 #[.pointer (some ⟨b, 0, none⟩), st] w fun e w' => e = .returned (.pointer (some ⟨b, 0, none⟩)) ∧ w = w' := by
  have c0 := h.made; have c2 := h.err
  have hq : (x = 0) = False := by simp [hx]
  clear h
  go_enter Try.func65, Try.ntmps65
  go_wp2
  go_ret
  exact ⟨rfl, rfl⟩
/-- Two boxes are laid. -/
theorem two_boxes (w : World) (u v : Value) (t t' : TypeId) : Below w.heap.size w ((w.alloc (.cells #[u] t)).alloc (.cells #[v] t')) := ((Below.refl _ _).alloc (Nat.le_refl _) _).alloc (by simp) _
theorem Wr.not_rw {w w' : World} {b B : Nat} {l : List UInt8} {e : Int} (h : Wr w b B l e) (hb : Below w.heap.size w w') {k : Nat} (hk : w.heap.size ≤ k) : ¬ Rw w' b k := by
  have h1 := h.lt; have h2 := h.le
  rintro (h3 | h3)
  · omega
  · rw [h.rw_below hb] at h3
    have := (h.row h3).2
    omega
def wNum (n : Int) (p : List UInt8 × Int) : List UInt8 × Int := if p.2 ≠ 0 then p else if n < 0 then (p.1, 5) else (p.1 ++ putL n, 0)
def wText (s : ByteArray) (p : List UInt8 × Int) : List UInt8 × Int := if p.2 ≠ 0 then p else (p.1 ++ putL (s.size : Int) ++ s.data.toList, 0)
def wFlag (f : Bool) (p : List UInt8 × Int) : List UInt8 × Int := if p.2 ≠ 0 then p else (p.1 ++ [flagB f], 0)
set_option maxRecDepth 100000 in
set_option maxHeartbeats 1600000 in
theorem wNum_rw (b B : Nat) (l : List UInt8) (x : Int) (n : Int) (w : World) (h : Wr w b B l x) (hl : l.length ≤ 140737488355000) (h1 : n ≤ 9223372036854775807) :
    Calls Try.prog 41 #[.pointer (some ⟨b, 0, none⟩), .int .i64 n] w fun e w' => e = .returned (.pointer (some ⟨b, 0, none⟩)) ∧ Wr w' b B (wNum n (l, x)).1 (wNum n (l, x)).2 ∧ But (Rw w b) w w' := by
  have hmf : ∀ (fn : Fn) (first cap : Array Value) (w : World), (Instr.makeFunc fn first cap).run Try.prog w = .ok (.func fn first cap) w := fun _ _ _ _ => rfl
  have hb1 := two_boxes w (.pointer (some ⟨b, 0, none⟩)) (.int .i64 n) 95 3
  have H1 := Lib.hid (h.below hb1)
  have HRB := Lib.hid (fun k (hk : Rw _ b k) => h.rw_back hb1 hk)
  have p1 : ((w.alloc (.cells #[.pointer (some ⟨b, 0, none⟩)] 95)).alloc (.cells #[.int .i64 n] 3)).cell? ⟨w.heap.size, 0, none⟩ = some (.pointer (some ⟨b, 0, none⟩)) := by simp
  have n1 : ((w.alloc (.cells #[.pointer (some ⟨b, 0, none⟩)] 95)).alloc (.cells #[.int .i64 n] 3)).cell? ⟨w.heap.size + 1, 0, none⟩ = some (.int .i64 n) := by simp
  have r1 := h.not_rw hb1 (k := w.heap.size) (Nat.le_refl _)
  have r2 := h.not_rw hb1 (k := w.heap.size + 1) (by omega)
  have HB := Lib.hid (But.of_below (S := Rw w b) hb1)
  have P1 := Lib.hid p1; have N1 := Lib.hid n1; have R1 := Lib.hid r1; have R2 := Lib.hid r2
  clear h hb1 n1 r1 r2
  go_enter Try.func41, Try.ntmps41
  go_wp2_with fail
  refine Calls.mono (R := fun e w' => e = .returned (.pointer (some ⟨b, 0, none⟩)) ∧ Wr w' b B (wNum n (l, x)).1 (wNum n (l, x)).2 ∧ But (Rw w b) w w') ?_ ?_
  · by_cases hx : x = 0
    · subst hx
      by_cases h9 : n < 0
      · have hq : wNum n (l, 0) = (l, 5) := by simp [wNum, h9]
        rw [hq]
        refine (add_made b B l _ _ _ H1.out (runNum_bad ⟨w.heap.size + 1, 0, none⟩ ⟨w.heap.size, 0, none⟩ b B l n _ N1.out P1.out H1.out h9)).mono ?_
        rintro e w1 ⟨rfl, hm, hb⟩
        exact ⟨rfl, hm, HB.out.trans (hb.mono (fun k _ hk => HRB.out k hk))⟩
      · have hq : wNum n (l, 0) = (l ++ putL n, 0) := by simp [wNum, h9]
        rw [hq]
        refine (add_made b B l _ _ _ H1.out (runNum_good ⟨w.heap.size + 1, 0, none⟩ ⟨w.heap.size, 0, none⟩ b B l n _ N1.out P1.out H1.out hl (by omega) h1)).mono ?_
        rintro e w1 ⟨rfl, hm, hb⟩
        exact ⟨rfl, hm, HB.out.trans (hb.mono (fun k _ hk => HRB.out k hk))⟩
    · refine (add_err b B l x _ _ H1.out hx).mono ?_
      rintro e w1 ⟨rfl, rfl⟩
      have hq : wNum n (l, x) = (l, x) := by simp [wNum, hx]
      rw [hq]
      exact ⟨rfl, H1.out, HB.out⟩
  rintro e w1 ⟨rfl, hm, hb⟩
  have HM := Lib.hid hm; have HB3 := Lib.hid hb; clear hm hb
  go_wp2
  go_ret
  exact ⟨rfl, HM.out, HB3.out⟩
set_option maxRecDepth 100000 in
set_option maxHeartbeats 1600000 in
theorem wText_rw (b B : Nat) (l : List UInt8) (x : Int) (s : ByteArray) (w : World) (h : Wr w b B l x) (hl : l.length + s.size ≤ 140737488355000) :
    Calls Try.prog 43 #[.pointer (some ⟨b, 0, none⟩), .string s] w fun e w' => e = .returned (.pointer (some ⟨b, 0, none⟩)) ∧ Wr w' b B (wText s (l, x)).1 (wText s (l, x)).2 ∧ But (Rw w b) w w' := by
  have hmf : ∀ (fn : Fn) (first cap : Array Value) (w : World), (Instr.makeFunc fn first cap).run Try.prog w = .ok (.func fn first cap) w := fun _ _ _ _ => rfl
  have hb1 := two_boxes w (.pointer (some ⟨b, 0, none⟩)) (.string s) 95 9
  have H1 := Lib.hid (h.below hb1)
  have HRB := Lib.hid (fun k (hk : Rw _ b k) => h.rw_back hb1 hk)
  have p1 : ((w.alloc (.cells #[.pointer (some ⟨b, 0, none⟩)] 95)).alloc (.cells #[.string s] 9)).cell? ⟨w.heap.size, 0, none⟩ = some (.pointer (some ⟨b, 0, none⟩)) := by simp
  have n1 : ((w.alloc (.cells #[.pointer (some ⟨b, 0, none⟩)] 95)).alloc (.cells #[.string s] 9)).cell? ⟨w.heap.size + 1, 0, none⟩ = some (.string s) := by simp
  have r1 := h.not_rw hb1 (k := w.heap.size) (Nat.le_refl _)
  have r2 := h.not_rw hb1 (k := w.heap.size + 1) (by omega)
  have HB := Lib.hid (But.of_below (S := Rw w b) hb1)
  have P1 := Lib.hid p1; have N1 := Lib.hid n1; have R1 := Lib.hid r1; have R2 := Lib.hid r2
  clear h hb1 n1 r1 r2
  go_enter Try.func43, Try.ntmps43
  go_wp2_with fail
  refine Calls.mono (R := fun e w' => e = .returned (.pointer (some ⟨b, 0, none⟩)) ∧ Wr w' b B (wText s (l, x)).1 (wText s (l, x)).2 ∧ But (Rw w b) w w') ?_ ?_
  · by_cases hx : x = 0
    · subst hx
      have hq : wText s (l, 0) = (l ++ putL (s.size : Int) ++ s.data.toList, 0) := by simp [wText]
      rw [hq]
      refine (add_made b B l _ _ _ H1.out (runText ⟨w.heap.size + 1, 0, none⟩ ⟨w.heap.size, 0, none⟩ b B l s _ N1.out P1.out H1.out hl R2.out R1.out)).mono ?_
      rintro e w1 ⟨rfl, hm, hb⟩
      exact ⟨rfl, hm, HB.out.trans (hb.mono (fun k _ hk => HRB.out k hk))⟩
    · refine (add_err b B l x _ _ H1.out hx).mono ?_
      rintro e w1 ⟨rfl, rfl⟩
      have hq : wText s (l, x) = (l, x) := by simp [wText, hx]
      rw [hq]
      exact ⟨rfl, H1.out, HB.out⟩
  rintro e w1 ⟨rfl, hm, hb⟩
  have HM := Lib.hid hm; have HB3 := Lib.hid hb; clear hm hb
  go_wp2
  go_ret
  exact ⟨rfl, HM.out, HB3.out⟩
set_option maxRecDepth 100000 in
set_option maxHeartbeats 1600000 in
theorem wFlag_rw (b B : Nat) (l : List UInt8) (x : Int) (f : Bool) (w : World) (h : Wr w b B l x) (hl : l.length ≤ 140737488355000) :
    Calls Try.prog 42 #[.pointer (some ⟨b, 0, none⟩), .bool f] w fun e w' => e = .returned (.pointer (some ⟨b, 0, none⟩)) ∧ Wr w' b B (wFlag f (l, x)).1 (wFlag f (l, x)).2 ∧ But (Rw w b) w w' := by
  have hmf : ∀ (fn : Fn) (first cap : Array Value) (w : World), (Instr.makeFunc fn first cap).run Try.prog w = .ok (.func fn first cap) w := fun _ _ _ _ => rfl
  have hb1 := two_boxes w (.pointer (some ⟨b, 0, none⟩)) (.bool f) 95 4
  have H1 := Lib.hid (h.below hb1)
  have HRB := Lib.hid (fun k (hk : Rw _ b k) => h.rw_back hb1 hk)
  have p1 : ((w.alloc (.cells #[.pointer (some ⟨b, 0, none⟩)] 95)).alloc (.cells #[.bool f] 4)).cell? ⟨w.heap.size, 0, none⟩ = some (.pointer (some ⟨b, 0, none⟩)) := by simp
  have n1 : ((w.alloc (.cells #[.pointer (some ⟨b, 0, none⟩)] 95)).alloc (.cells #[.bool f] 4)).cell? ⟨w.heap.size + 1, 0, none⟩ = some (.bool f) := by simp
  have r1 := h.not_rw hb1 (k := w.heap.size) (Nat.le_refl _)
  have r2 := h.not_rw hb1 (k := w.heap.size + 1) (by omega)
  have HB := Lib.hid (But.of_below (S := Rw w b) hb1)
  have P1 := Lib.hid p1; have N1 := Lib.hid n1; have R1 := Lib.hid r1; have R2 := Lib.hid r2
  clear h hb1 n1 r1 r2
  go_enter Try.func42, Try.ntmps42
  go_wp2_with fail
  refine Calls.mono (R := fun e w' => e = .returned (.pointer (some ⟨b, 0, none⟩)) ∧ Wr w' b B (wFlag f (l, x)).1 (wFlag f (l, x)).2 ∧ But (Rw w b) w w') ?_ ?_
  · by_cases hx : x = 0
    · subst hx
      have hq : wFlag f (l, 0) = (l ++ [flagB f], 0) := by simp [wFlag]
      rw [hq]
      refine (add_made b B l _ _ _ H1.out (runFlag ⟨w.heap.size + 1, 0, none⟩ ⟨w.heap.size, 0, none⟩ b B l f _ N1.out P1.out H1.out hl R1.out)).mono ?_
      rintro e w1 ⟨rfl, hm, hb⟩
      exact ⟨rfl, hm, HB.out.trans (hb.mono (fun k _ hk => HRB.out k hk))⟩
    · refine (add_err b B l x _ _ H1.out hx).mono ?_
      rintro e w1 ⟨rfl, rfl⟩
      have hq : wFlag f (l, x) = (l, x) := by simp [wFlag, hx]
      rw [hq]
      exact ⟨rfl, H1.out, HB.out⟩
  rintro e w1 ⟨rfl, hm, hb⟩
  have HM := Lib.hid hm; have HB3 := Lib.hid hb; clear hm hb
  go_wp2
  go_ret
  exact ⟨rfl, HM.out, HB3.out⟩
end Go.Proofs.Ytpcbgkmnjmiigaa

/- Package wire: a writer is made, and answers. Conditions: none. -/
namespace Go.Proofs.Ytpcbgkmnjmiigaa
open Go.RowKit Go.PlainAid

theorem row_text {w : World} {B : Nat} {v : Value} (l : List UInt8) (h : w.ownsRow B 5 1 v l.length (bs l)) : (convert 121 9 v).run Try.prog w = .ok (.string ⟨l.toArray⟩) w := by
  obtain ⟨ao, c, rfl, _, hv⟩ := row_view h
  cases ao with
  | none =>
    have : l = [] := by
      cases l with
      | nil => rfl
      | cons x r => obtain ⟨g, hg, _⟩ := hv 0 (by simp); cases hg
    subst this
    exact run_convert_bytes_nil w _ _ Try.underlying121 Try.underlying5 _ _ _ Try.underlying9
  | some a =>
    refine run_convert_bytes_back (P := Try.prog) w 121 9 5 a c l Try.underlying121 Try.underlying5 Try.underlying9 (fun j hj => ?_)
    obtain ⟨g, hg, _, hc⟩ := hv j hj
    cases hg
    rw [Addr.add_lit, Nat.zero_add, hc]
    simp [bs, hj]
set_option maxRecDepth 100000 in
set_option maxHeartbeats 1600000 in
theorem wDone_ok (b B : Nat) (l : List UInt8) (w : World) (h : Wr w b B l 0) :
    Calls Try.prog 44 #[.pointer (some ⟨b, 0, none⟩)] w fun e w' => e = .returned (.tuple #[.string ⟨l.toArray⟩, .int .i64 0]) ∧ w = w' := by
  have c0 := h.made; have c2 := h.err
  obtain ⟨v, c1, ho⟩ := h.buf
  have hcv := row_text l ho
  clear h ho
  go_enter Try.func44, Try.ntmps44
  go_wp2
  go_ret2
  exact ⟨rfl, rfl⟩
set_option maxRecDepth 100000 in
set_option maxHeartbeats 1600000 in
theorem wDone_err (b B : Nat) (l : List UInt8) (x : Int) (w : World) (h : Wr w b B l x) (hx : x ≠ 0) :
    Calls Try.prog 44 #[.pointer (some ⟨b, 0, none⟩)] w fun e w' => e = .returned (.tuple #[.string ⟨#[]⟩, .int .i64 x]) ∧ Below w.heap.size w w' := by
  have c0 := h.made; have c2 := h.err
  have hq : (x = 0) = False := by simp [hx]
  have c2' : w.drew.cell? ⟨b, 2, none⟩ = some (.int .i64 x) := c2
  clear h
  go_enter Try.func44, Try.ntmps44
  go_wp2_with fail
  go_quiet (fail)
  go_wp2
  go_ret2
  exact ⟨rfl, below_draws (Below.refl _ _) _⟩
/-- A writer that nobody made does nothing: there is none, or it is a zero one. -/
def NoWr (w : World) (p : Value) : Prop := p = .pointer none ∨ ∃ b, p = .pointer (some ⟨b, 0, none⟩) ∧ w.cell? ⟨b, 0, none⟩ = some (.bool false)
theorem NoWr.below {w w' : World} {p : Value} (h : NoWr w p) (hb : Below w.heap.size w w') : NoWr w' p := by
  rcases h with h | ⟨b, h, hc⟩
  · exact Or.inl h
  · exact Or.inr ⟨b, h, cell_below hb hc⟩
/-- A writer that was just made. -/
structure FreshW (w : World) (b : Nat) : Prop where
  made : w.cell? ⟨b, 0, none⟩ = some (.bool true)
  buf : w.cell? ⟨b, 1, none⟩ = some (.slice none 0 0)
  err : w.cell? ⟨b, 2, none⟩ = some (.int .i64 0)
  fr1 : w.frozen? ⟨b, 1, none⟩ = false
  fr2 : w.frozen? ⟨b, 2, none⟩ = false
theorem FreshW.wr {w w' : World} {b B : Nat} (h : FreshW w b) (hb : Below w.heap.size w w') (h1 : b < B) (h2 : B ≤ w'.heap.size) : Wr w' b B [] 0 := by
  have hl := World.block_lt_of_cell? w _ h.made
  exact ⟨cell_below hb h.made, cell_below hb h.err, (hb.frozen (p := ⟨b, 1, none⟩) hl).trans h.fr1, (hb.frozen (p := ⟨b, 2, none⟩) hl).trans h.fr2, h1, h2, _, cell_below hb h.buf, rfl, Or.inl ⟨rfl, rfl⟩⟩
set_option maxRecDepth 100000 in
set_option maxHeartbeats 1600000 in
theorem wnew_any (w : World) :
    Calls Try.prog 40 #[] w fun e w' => e = .returned (.pointer (some ⟨w.heap.size, 0, none⟩)) ∧ FreshW w' w.heap.size ∧ w'.heap.size = w.heap.size + 1 ∧ Below w.heap.size w w' := by
  go_enter Try.func40, Try.ntmps40
  go_wp2
  go_ret
  refine ⟨rfl, ⟨by simp, by simp, by simp, by simp, by simp⟩, by simp, (Below.refl _ _).alloc (Nat.le_refl _) _⟩
end Go.Proofs.Ytpcbgkmnjmiigaa

/- Package varnum: what Get answers for every text and place; what was put is got. Conditions: texts of at most 2^63-1 bytes. -/
namespace Go.Proofs.Ytpcbgkmnjmiigaa
open Go.RowKit Go.PlainAid

set_option maxRecDepth 100000 in
set_option maxHeartbeats 400000 in
theorem get_direct (s : ByteArray) (a : Nat) (w : World) (hs : s.size ≤ 9223372036854775807) (ha : a < s.size) (hd : bt s a < 248) :
    Calls Try.prog 89 #[.string s, .int .i64 a] w fun e w' => e = .returned (.tuple #[.int .u64 (bt s a), .int .i64 (a + 1), .int .i64 0]) ∧ w = w' := by
  have hb := get_bt s
  have hb0 := bt_nonneg s a
  have hne : ((a : Int) == (s.size : Int)) = false := by simp; omega
  go_enter Try.func89, Try.ntmps89
  go_wp2
  go_ret3
  exact ⟨rfl, rfl⟩

set_option maxRecDepth 100000 in
set_option maxHeartbeats 400000 in
theorem get_none (s : ByteArray) (a : Int) (w : World) (ha : a < 0 ∨ (s.size : Int) < a) :
    Calls Try.prog 89 #[.string s, .int .i64 a] w fun e w' => e = .returned (.tuple #[.int .u64 0, .int .i64 0, .int .i64 1]) ∧ w = w' := by
  rcases ha with ha | ha
  · go_enter Try.func89, Try.ntmps89
    go_wp2
    go_ret3
    exact ⟨rfl, rfl⟩
  · have h0 : ¬ a < 0 := by omega
    go_enter Try.func89, Try.ntmps89
    go_wp2
    go_ret3
    exact ⟨rfl, rfl⟩

set_option maxRecDepth 100000 in
set_option maxHeartbeats 400000 in
theorem get_end (s : ByteArray) (w : World) :
    Calls Try.prog 89 #[.string s, .int .i64 s.size] w fun e w' => e = .returned (.tuple #[.int .u64 0, .int .i64 0, .int .i64 2]) ∧ w = w' := by
  go_enter Try.func89, Try.ntmps89
  go_wp2
  go_ret3
  exact ⟨rfl, rfl⟩

set_option maxRecDepth 100000 in
set_option maxHeartbeats 400000 in
theorem get_short (s : ByteArray) (a : Nat) (w : World) (_hs : s.size ≤ 9223372036854775807) (ha : a < s.size) (hd : 248 ≤ bt s a) (hl : (s.size : Int) - a - 1 < bt s a - 247) :
    Calls Try.prog 89 #[.string s, .int .i64 a] w fun e w' => e = .returned (.tuple #[.int .u64 0, .int .i64 0, .int .i64 2]) ∧ w = w' := by
  have hb := get_bt s
  have hb0 := bt_le s a
  have hne : ((a : Int) == (s.size : Int)) = false := by simp; omega
  go_enter Try.func89, Try.ntmps89
  go_wp2
  go_ret3
  exact ⟨rfl, rfl⟩

/-- The number that k bytes of s behind place a make. -/
def val (s : ByteArray) (a : Nat) : Nat → Int
  | 0 => 0
  | k + 1 => val s a k * 256 + bt s (a + k)
theorem val_nonneg (s : ByteArray) (a k : Nat) : 0 ≤ val s a k := by
  induction k with
  | zero => simp [val]
  | succ k ih => have := bt_nonneg s (a + k); simp only [val]; omega
theorem val_lt (s : ByteArray) (a k : Nat) : val s a k < 256 ^ k := by
  induction k with
  | zero => simp [val]
  | succ k ih => have := bt_le s (a + k); simp only [val, Int.pow_succ]; omega

theorem or_low (v b : Int) (h0 : 0 ≤ v) (h1 : v ≤ 72057594037927935) (b0 : 0 ≤ b) (b1 : b ≤ 255) : bits .or .u64 (v * 256) b = v * 256 + b := by
  obtain ⟨x, rfl⟩ := Int.eq_ofNat_of_zero_le h0
  obtain ⟨y, rfl⟩ := Int.eq_ofNat_of_zero_le b0
  have e : ((x : Int) * 256) = ((x * 256 : Nat) : Int) := by omega
  rw [e, u64_or_nat _ _ (by omega) (by omega)]
  have h := Nat.two_pow_add_eq_or_of_lt (i := 8) (b := y) (by omega) x
  rw [show x * 256 = 2 ^ 8 * x by omega, ← h]
  omega
theorem val_56 (s : ByteArray) (a i : Nat) (h : i < 8) : val s a i ≤ 72057594037927935 := by
  have v1 := val_lt s a i
  have : (256 : Nat) ^ i ≤ 256 ^ 7 := Nat.pow_le_pow_right (by decide) (by omega)
  have e : ((256 : Int) ^ i) = ((256 ^ i : Nat) : Int) := by rw [Int.natCast_pow]; rfl
  have : (256 : Nat) ^ 7 = 72057594037927936 := by decide
  omega

def getLong (s : ByteArray) (a k : Nat) : Value :=
  if lenOf (val s (a + 1) k) = 1 + k then .tuple #[.int .u64 (val s (a + 1) k), .int .i64 (a + 1 + k), .int .i64 0] else .tuple #[.int .u64 0, .int .i64 0, .int .i64 4]
theorem getLong_yes {s : ByteArray} {a k : Nat} (h : lenOf (val s (a + 1) k) = 1 + k) : getLong s a k = .tuple #[.int .u64 (val s (a + 1) k), .int .i64 (a + 1 + k), .int .i64 0] := if_pos h
theorem getLong_no {s : ByteArray} {a k : Nat} (h : ¬ lenOf (val s (a + 1) k) = 1 + k) : getLong s a k = .tuple #[.int .u64 0, .int .i64 0, .int .i64 4] := if_neg h

set_option maxRecDepth 100000 in
set_option maxHeartbeats 400000 in
theorem get_long (s : ByteArray) (a k : Nat) (w : World) (hs : s.size ≤ 9223372036854775807) (ha : a < s.size) (hk0 : 1 ≤ k) (hk8 : k ≤ 8) (hd : bt s a = 247 + k) (hl : a + k < s.size) :
    Calls Try.prog 89 #[.string s, .int .i64 a] w fun e w' => e = .returned (getLong s a k) ∧ w = w' := by
  have hb := get_bt s
  have hne : ((a : Int) == (s.size : Int)) = false := by simp; omega
  go_enter Try.func89, Try.ntmps89
  have hsub : (247 + (k : Int) - 247) = k := by omega
  go_wp2
  go_loopg [8, 45] (k + 1) (fun g s8 s45 wr => ∃ i : Nat, s8 = .int .u64 (val s (a + 1) i) ∧ s45 = .int .i64 i ∧ i ≤ k ∧ i + g ≤ k + 1 ∧ k + 1 ≤ i + g ∧ 1 ≤ g ∧ w = wr)
  case atStart => exact ⟨0, rfl, rfl, by omega, by omega, by omega, by omega, rfl⟩
  case round =>
    obtain ⟨i, rfl, rfl, hik, hg1, hg2, hg3, rfl⟩ := hrel
    have v0 := val_nonneg s (a + 1) i
    have v1 := val_lt s (a + 1) i
    by_cases hlt : i < k
    · have v2 := val_56 s (a + 1) i (by omega)
      have b0 := bt_nonneg s (a + 1 + i)
      have b1 := bt_le s (a + 1 + i)
      have hor := or_low _ _ v0 v2 b0 b1
      clear v1
      go_wp2
      go_roundg (gk - 1)
      case rel => exact ⟨i + 1, by simp [val], by go_num, by omega, by omega, by omega, by omega, rfl⟩
      case measure => omega
    · obtain rfl : k = i := by omega
      have v3 : val s (a + 1) k < 18446744073709551616 := by
        have : (256 : Nat) ^ k ≤ 256 ^ 8 := Nat.pow_le_pow_right (by decide) (by omega)
        have e : ((256 : Int) ^ k) = ((256 ^ k : Nat) : Int) := by rw [Int.natCast_pow]; rfl
        have : (256 : Nat) ^ 8 = 18446744073709551616 := by decide
        omega
      have H3 := Lib.hid v3; clear v3 v1
      by_cases hle : lenOf (val s (a + 1) k) = 1 + k
      · have HL := Lib.hid (getLong_yes hle)
        have hb1 : (lenOf (val s (a + 1) k) != 1 + (k : Int)) = false := by simp [hle]
        clear hle
        go_wp2_with (go_at_call 90; refine (len_any _ _ v0 H3.out).mono ?_; rintro e w' ⟨rfl, rfl⟩)
        go_ret3
        exact ⟨by rw [HL.out]; rfl, rfl⟩
      · have HL := Lib.hid (getLong_no hle)
        have hb1 : (lenOf (val s (a + 1) k) != 1 + (k : Int)) = true := by simp [hle]
        clear hle
        go_wp2_with (go_at_call 90; refine (len_any _ _ v0 H3.out).mono ?_; rintro e w' ⟨rfl, rfl⟩)
        go_ret3
        exact ⟨by rw [HL.out]; rfl, rfl⟩

/-- What Get answers: the number, the place behind it, the error. -/
def getR (s : ByteArray) (a : Int) : Int × Int × Int :=
  if a < 0 ∨ (s.size : Int) < a then (0, 0, 1) else if a = s.size then (0, 0, 2)
  else if bt s a.toNat < 248 then (bt s a.toNat, a + 1, 0)
  else if (s.size : Int) - a - 1 < bt s a.toNat - 247 then (0, 0, 2)
  else if lenOf (val s (a.toNat + 1) (bt s a.toNat - 247).toNat) = bt s a.toNat - 246 then (val s (a.toNat + 1) (bt s a.toNat - 247).toNat, a + 1 + (bt s a.toNat - 247), 0)
  else (0, 0, 4)
def getV (r : Int × Int × Int) : Value := .tuple #[.int .u64 r.1, .int .i64 r.2.1, .int .i64 r.2.2]

theorem get_any (s : ByteArray) (a : Int) (w : World) (hs : s.size ≤ 9223372036854775807) :
    Calls Try.prog 89 #[.string s, .int .i64 a] w fun e w' => e = .returned (getV (getR s a)) ∧ w = w' := by
  by_cases h1 : a < 0 ∨ (s.size : Int) < a
  · rw [show getR s a = (0, 0, 1) from if_pos h1]; exact get_none s a w h1
  obtain ⟨n, rfl⟩ := Int.eq_ofNat_of_zero_le (show 0 ≤ a by omega)
  unfold getR
  rw [if_neg h1, Int.toNat_natCast]
  by_cases h2 : (n : Int) = s.size
  · rw [if_pos h2, h2]; exact get_end s w
  rw [if_neg h2]
  have hn : n < s.size := by omega
  by_cases h3 : bt s n < 248
  · rw [if_pos h3]; exact get_direct s n w hs hn h3
  rw [if_neg h3]
  have hb := bt_le s n
  by_cases h4 : (s.size : Int) - n - 1 < bt s n - 247
  · rw [if_pos h4]; exact get_short s n w hs hn (by omega) h4
  rw [if_neg h4]
  obtain ⟨k, hk⟩ := Int.eq_ofNat_of_zero_le (show 0 ≤ bt s n - 247 by omega)
  rw [show bt s n - 246 = 1 + k by omega, hk, Int.toNat_natCast]
  have := get_long s n k w hs hn (by omega) (by omega) (by omega) (by omega)
  unfold getLong at this
  by_cases h5 : lenOf (val s (n + 1) k) = 1 + k
  · rw [if_pos h5] at this ⊢; exact this
  · rw [if_neg h5] at this ⊢; exact this

theorem bt_data (s : ByteArray) (i : Nat) : bt s i = ((s.data.toList.getD i 0).toNat : Int) := by
  unfold bt
  by_cases h : i < s.size
  · rw [dif_pos h]
    have h' : i < s.data.toList.length := by simpa using h
    simp only [List.getD, List.getElem?_eq_getElem h', Option.getD_some]
    rfl
  · rw [dif_neg h]
    have h' : s.data.toList.length ≤ i := by simpa using h
    simp [List.getD, List.getElem?_eq_none h']
theorem lenOf_bd (n : Int) : 1 ≤ lenOf n ∧ lenOf n ≤ 9 := by unfold lenOf; have := wd_bd n; split <;> omega
theorem putL_len (n : Int) : ((putL n).length : Int) = lenOf n := by
  unfold putL lenOf; have := wd_bd n
  split
  · rfl
  · simp [be_len]; omega
/-- The bytes from place a on are those of l. -/
def has (s : ByteArray) (a : Nat) (l : List UInt8) : Prop := ∀ j (h : j < l.length), bt s (a + j) = (l[j].toNat : Int)
theorem has_app {s : ByteArray} {a : Nat} {l m : List UInt8} (h : has s a (l ++ m)) : has s a l ∧ has s (a + l.length) m := by
  refine ⟨fun j hj => ?_, fun j hj => ?_⟩
  · have := h j (by simp; omega); rw [List.getElem_append_left hj] at this; exact this
  · have := h (l.length + j) (by simp; omega); rw [List.getElem_append_right (by omega)] at this; simpa [Nat.add_assoc] using this
theorem val_be {s : ByteArray} {a : Nat} (k n : Nat) (h : has s a (be k n)) : val s a k = ((n % 256 ^ k : Nat) : Int) := by
  induction k generalizing n with
  | zero => simp [val, Nat.mod_one]
  | succ k ih =>
    rw [be] at h
    obtain ⟨h1, h2⟩ := has_app h
    have hb := h2 0 (by simp)
    rw [be_len] at hb
    simp only [Nat.add_zero, List.getElem_cons_zero, UInt8.toNat_ofNat', show (2 : Nat) ^ 8 = 256 from rfl] at hb
    rw [val, ih _ h1, hb]
    have e : n % 256 ^ (k + 1) = n / 256 % 256 ^ k * 256 + n % 256 := by
      rw [Nat.pow_succ, Nat.mul_comm (256 ^ k) 256, Nat.mod_mul]; omega
    rw [e]; omega
theorem wd_pow (n : Int) (h1 : n < 18446744073709551616) : n.toNat < 256 ^ (wd n).toNat := by
  unfold wd; repeat' split
  all_goals simp; omega
theorem get_put {s : ByteArray} {a : Nat} (n : Int) (h0 : 0 ≤ n) (h1 : n < 18446744073709551616) (hs : a + (putL n).length ≤ s.size) (h : has s a (putL n)) : getR s a = (n, a + lenOf n, 0) := by
  have hl := putL_len n
  have hl2 := lenOf_bd n
  have hw := wd_bd n
  unfold getR
  rw [if_neg (by omega), if_neg (by omega), Int.toNat_natCast]
  by_cases hn : n < 248
  · rw [putL_small n hn] at h
    have hb := h 0 (by simp)
    simp only [Nat.add_zero, List.getElem_cons_zero, UInt8.toNat_ofNat', show (2 : Nat) ^ 8 = 256 from rfl] at hb
    rw [if_pos (by omega), lenOf_small n hn]
    congr 1; omega
  · have hlo := lenOf_big n hn
    rw [putL_big n hn] at h
    have hb := h 0 (by simp)
    simp only [Nat.add_zero, List.getElem_cons_zero, UInt8.toNat_ofNat', show (2 : Nat) ^ 8 = 256 from rfl] at hb
    have hb2 : bt s a = 247 + wd n := by omega
    rw [if_neg (by omega), if_neg (by omega), show bt s a - 247 = wd n by omega]
    have hv := val_be (wd n).toNat n.toNat ((has_app (l := [_]) h).2)
    rw [Nat.mod_eq_of_lt (wd_pow n h1)] at hv
    have hv2 : val s (a + 1) (wd n).toNat = n := by simp only [List.length_cons, List.length_nil, Nat.zero_add] at hv; omega
    rw [hv2, if_pos (by omega), hlo]
    congr 2; omega
end Go.Proofs.Ytpcbgkmnjmiigaa

/- Package wire: a reader; its steps. Conditions: texts of at most 2^63-1 bytes. -/
namespace Go.Proofs.Ytpcbgkmnjmiigaa
open Go.RowKit Go.PlainAid

/-- A reader that was made: block b. -/
structure Rd (w : World) (b : Nat) (s : ByteArray) (a e : Int) : Prop where
  made : w.cell? ⟨b, 0, none⟩ = some (.bool true)
  txt : w.cell? ⟨b, 1, none⟩ = some (.string s)
  pos : w.cell? ⟨b, 2, none⟩ = some (.int .i64 a)
  err : w.cell? ⟨b, 3, none⟩ = some (.int .i64 e)
  fr2 : w.frozen? ⟨b, 2, none⟩ = false
  fr3 : w.frozen? ⟨b, 3, none⟩ = false
theorem Rd.lt {w : World} {b : Nat} {s : ByteArray} {a e : Int} (h : Rd w b s a e) : b < w.heap.size := World.block_lt_of_cell? w _ h.made
theorem Rd.but {S : Nat → Prop} {w w' : World} {b : Nat} {s : ByteArray} {a e : Int} (h : Rd w b s a e) (hb : But S w w') (hs : ¬ S b) : Rd w' b s a e :=
  ⟨hb.cell hs h.made, hb.cell hs h.txt, hb.cell hs h.pos, hb.cell hs h.err, by rw [hb.frozen h.lt hs]; exact h.fr2, by rw [hb.frozen h.lt hs]; exact h.fr3⟩
theorem Rd.below {w w' : World} {b : Nat} {s : ByteArray} {a e : Int} (h : Rd w b s a e) (hb : Below w.heap.size w w') : Rd w' b s a e := h.but (But.of_below (S := fun _ => False) hb) id
theorem Rd.setPos {w : World} {b : Nat} {s : ByteArray} {a e : Int} (h : Rd w b s a e) (a' : Int) : Rd (w.setCell ⟨b, 2, none⟩ (.int .i64 a')) b s a' e := by
  refine ⟨?_, ?_, World.cell?_setCell_same _ _ _ h.pos, ?_, by rw [World.frozen?_setCell]; exact h.fr2, by rw [World.frozen?_setCell]; exact h.fr3⟩
  · rw [World.cell?_setCell_other _ _ _ _ (by simp)]; exact h.made
  · rw [World.cell?_setCell_other _ _ _ _ (by simp)]; exact h.txt
  · rw [World.cell?_setCell_other _ _ _ _ (by simp)]; exact h.err
theorem Rd.setErr {w : World} {b : Nat} {s : ByteArray} {a e : Int} (h : Rd w b s a e) (e' : Int) : Rd (w.setCell ⟨b, 3, none⟩ (.int .i64 e')) b s a e' := by
  refine ⟨?_, ?_, ?_, World.cell?_setCell_same _ _ _ h.err, by rw [World.frozen?_setCell]; exact h.fr2, by rw [World.frozen?_setCell]; exact h.fr3⟩
  · rw [World.cell?_setCell_other _ _ _ _ (by simp)]; exact h.made
  · rw [World.cell?_setCell_other _ _ _ _ (by simp)]; exact h.txt
  · rw [World.cell?_setCell_other _ _ _ _ (by simp)]; exact h.pos
/-- Only the reader's own block may have turned. -/
def Own (b k : Nat) : Prop := k = b
def thrown (x : Int) : PanicEntry := { v := .iface 24 (.int .i64 x), recovered := false }
def RB (b : Nat) (s : ByteArray) (a : Int) (w w' : World) : Prop := But (Own b) w w' ∧ Rd w' b s a 0
theorem RB.start {b : Nat} {s : ByteArray} {a : Int} {w : World} (h : Rd w b s a 0) : RB b s a w w.drew := ⟨(But.of_below (Below.refl _ _)).draws 1, h.below (Below.refl _ _).drew⟩
theorem RB.to {b : Nat} {s : ByteArray} {a a' : Int} {w w1 w2 : World} (h : RB b s a w w1) (h2 : RB b s a' w1 w2) : RB b s a' w w2 := ⟨h.1.trans h2.1, h2.2⟩
theorem RB.pos {b : Nat} {s : ByteArray} {a : Int} {w w' : World} (h : RB b s a w w') (a' : Int) : RB b s a' w (w'.setCell ⟨b, 2, none⟩ (.int .i64 a')) := ⟨h.1.setCell (p := ⟨b, 2, none⟩) (fun _ => rfl) _, h.2.setPos a'⟩
set_option maxRecDepth 100000 in
set_option maxHeartbeats 1600000 in
theorem rbig_bad (b : Nat) (s : ByteArray) (a : Int) (w : World) (h : Rd w b s a 0) (hs : s.size ≤ 9223372036854775807) (he : (getR s a).2.2 ≠ 0) :
    Calls Try.prog 85 #[.pointer (some ⟨b, 0, none⟩)] w fun e w' => e = .panicked [thrown (getR s a).2.2] ∧ RB b s a w w' := by
  have H := Lib.hid (RB.start h)
  have c1 : w.drew.cell? ⟨b, 1, none⟩ = some (.string s) := h.txt
  have c2 : w.drew.cell? ⟨b, 2, none⟩ = some (.int .i64 a) := h.pos
  have K1 := Lib.hid c1; have K2 := Lib.hid c2
  have hg := fun w => get_any s a w hs
  unfold getV at hg
  generalize getR s a = g at he hg ⊢
  obtain ⟨g1, g2, g3⟩ := g
  have hq : (g3 != 0) = true := by simp at he; simp [he]
  have HG := Lib.hid hg
  clear h hg he c1 c2
  go_enter Try.func85, Try.ntmps85
  go_wp2_with fail
  go_region_held3 (fun w' => w'.cell? ⟨b, 1, none⟩ = some (.string s) ∧ w'.cell? ⟨b, 2, none⟩ = some (.int .i64 a) ∧ RB b s a w w') (first | exact ⟨K1.out, K2.out, H.out⟩ | assumption) (first | (go_at_call 89; (with_reducible refine (HG.out _).mono ?_); rintro e w7 ⟨rfl, rfl⟩))
  have HQ : Hid (RB b s a w _) := Lib.hid (by assumption : _ ∧ _ ∧ RB b s a w _).2.2
  go_wp2
  exact ⟨rfl, rfl, HQ.out⟩
set_option maxRecDepth 100000 in
set_option maxHeartbeats 1600000 in
theorem rbig_good (b : Nat) (s : ByteArray) (a : Int) (w : World) (h : Rd w b s a 0) (hs : s.size ≤ 9223372036854775807) (he : (getR s a).2.2 = 0) :
    Calls Try.prog 85 #[.pointer (some ⟨b, 0, none⟩)] w fun e w' => e = .returned (.int .u64 (getR s a).1) ∧ RB b s (getR s a).2.1 w w' := by
  have H := Lib.hid (RB.start h)
  have c1 : w.drew.cell? ⟨b, 1, none⟩ = some (.string s) := h.txt
  have c2 : w.drew.cell? ⟨b, 2, none⟩ = some (.int .i64 a) := h.pos
  have K1 := Lib.hid c1; have K2 := Lib.hid c2
  have hg := fun w => get_any s a w hs
  unfold getV at hg
  generalize getR s a = g at he hg ⊢
  obtain ⟨g1, g2, g3⟩ := g
  simp only at he
  subst he
  have HG := Lib.hid hg
  clear h hg c1 c2
  go_enter Try.func85, Try.ntmps85
  go_wp2_with fail
  go_region_held3 (fun w' => w'.cell? ⟨b, 1, none⟩ = some (.string s) ∧ w'.cell? ⟨b, 2, none⟩ = some (.int .i64 a) ∧ RB b s a w w') (first | exact ⟨K1.out, K2.out, H.out⟩ | assumption) (first | (go_at_call 89; (with_reducible refine (HG.out _).mono ?_); rintro e w7 ⟨rfl, rfl⟩))
  have HQ : Hid (RB b s a w _) := Lib.hid (by assumption : _ ∧ _ ∧ RB b s a w _).2.2
  have k2 := HQ.out.2.pos; have f2 := HQ.out.2.fr2
  have HQ2 := Lib.hid (HQ.out.pos g2)
  go_wp2
  go_ret
  exact ⟨rfl, HQ2.out⟩
/-- What upTo reads: the number, the place, the error. -/
def upR (s : ByteArray) (a m x : Int) : Int × Int × Int :=
  if (getR s a).2.2 ≠ 0 then (0, a, (getR s a).2.2) else if m < 0 ∨ m < (getR s a).1 then (0, (getR s a).2.1, x) else ((getR s a).1, (getR s a).2.1, 0)
theorem upR_of {s : ByteArray} {a m x g1 g2 g3 : Int} (h : getR s a = (g1, g2, g3)) : upR s a m x = if g3 ≠ 0 then (0, a, g3) else if m < 0 ∨ m < g1 then (0, g2, x) else (g1, g2, 0) := by unfold upR; rw [h]
theorem getR_range (s : ByteArray) (a : Int) : 0 ≤ (getR s a).1 := by
  unfold getR
  split
  · simp
  split
  · simp
  split
  · exact bt_nonneg _ _
  split
  · simp
  split
  · exact val_nonneg _ _ _
  · simp
set_option maxRecDepth 100000 in
set_option maxHeartbeats 1600000 in
theorem upTo_any (b : Nat) (s : ByteArray) (a m x : Int) (w : World) (h : Rd w b s a 0) (hs : s.size ≤ 9223372036854775807) (hm : m ≤ 9223372036854775807) (hx : x ≠ 0) :
    Calls Try.prog 74 #[.pointer (some ⟨b, 0, none⟩), .int .i64 m, .int .i64 x] w fun e w' => e = (if (upR s a m x).2.2 = 0 then .returned (.int .i64 (upR s a m x).1) else .panicked [thrown (upR s a m x).2.2]) ∧ RB b s (upR s a m x).2.1 w w' := by
  have hr := getR_range s a
  rcases hg : getR s a with ⟨g1, g2, g3⟩
  rw [hg] at hr
  have hu := upR_of (m := m) (x := x) hg
  simp only at hr
  by_cases he : g3 = 0
  · subst he
    have hb := rbig_good b s a w h hs (by rw [hg])
    rw [hg] at hb
    simp only at hb
    have HG := Lib.hid hb
    clear h hb hg
    rw [if_neg (by simp)] at hu
    by_cases h1 : m < 0 ∨ m < g1
    · rw [if_pos h1] at hu
      rw [hu]
      dsimp only
      rw [if_neg hx]
      clear hu
      go_enter Try.func74, Try.ntmps74
      rcases (show m < 0 ∨ 0 ≤ m by omega) with h2 | h2
      · go_wp2_with fail
        refine HG.out.mono ?_
        rintro e w1 ⟨rfl, hb⟩
        have HB := Lib.hid hb; clear hb h1
        go_wp2
        exact ⟨rfl, rfl, HB.out⟩
      · have h3 : m < g1 := by omega
        have hwm : IntKind.u64.wrap m = m := u64_nonneg h2 (by omega)
        have h0 : ¬ m < 0 := by omega
        go_wp2_with fail
        refine HG.out.mono ?_
        rintro e w1 ⟨rfl, hb⟩
        have HB := Lib.hid hb; clear hb h1
        go_wp2
        exact ⟨rfl, rfl, HB.out⟩
    · rw [if_neg h1] at hu
      rw [hu]
      dsimp only
      rw [if_pos rfl]
      clear hu
      have h0 : ¬ m < 0 := by omega
      have h3 : ¬ m < g1 := by omega
      have hwm : IntKind.u64.wrap m = m := u64_nonneg (by omega) (by omega)
      have hwg : IntKind.i64.wrap g1 = g1 := IntWalk.i64_in g1 ⟨by omega, by omega⟩
      clear h1
      go_enter Try.func74, Try.ntmps74
      go_wp2_with fail
      refine HG.out.mono ?_
      rintro e w1 ⟨rfl, hb⟩
      have HB := Lib.hid hb; clear hb
      go_wp2
      go_ret
      exact ⟨rfl, HB.out⟩
  · have hb := rbig_bad b s a w h hs (by rw [hg]; exact he)
    rw [hg] at hb
    simp only at hb
    have HG := Lib.hid hb
    clear h hb hg
    rw [if_pos he] at hu
    rw [hu]
    dsimp only
    rw [if_neg he]
    clear hu
    go_enter Try.func74, Try.ntmps74
    go_wp2_with fail
    refine HG.out.mono ?_
    rintro e w1 ⟨rfl, hb⟩
    have HB := Lib.hid hb; clear hb
    go_wp2
    exact ⟨rfl, rfl, HB.out⟩
end Go.Proofs.Ytpcbgkmnjmiigaa

/- Package wire: a reader's take. Conditions: none. -/
namespace Go.Proofs.Ytpcbgkmnjmiigaa
open Go.RowKit Go.PlainAid

set_option maxRecDepth 100000 in
set_option maxHeartbeats 1600000 in
theorem rcatch_idle (p : Addr) (w : World) :
    CallsD Try.prog 84 #[.pointer (some p)] .returning w fun e u' w' => e = .returned (.tuple #[]) ∧ u' = .returning ∧ w' = w := by
  refine callsD_of_wpS Try.func84 rfl fun c₀ cs hu => ?_
  apply wpS_seq
  apply wpS_region
  simp [wpOpsS, go_sem, recoverD, hu, Try.ntmps84, Exit.thenS, ta_nil, ta_err]
  apply wpS_seq
  apply wpS_region
  simp [wpOpsS, go_sem, recoverD, hu, Exit.thenS]
  refine wpS_cond (t := false) (by simp [Act.eval, Array.replicate]) ?_
  simp only [Bool.false_eq_true, if_false]
  refine wpS_of_wp (wp_skip ?_)
  cases c₀
  simp_all [bodyPostS, results, Try.results84]
set_option maxRecDepth 100000 in
set_option maxHeartbeats 1600000 in
theorem rcatch_errno (p : Addr) (b : Nat) (x y : Int) (older : List PanicEntry) (w : World) (hp : w.cell? p = some (.pointer (some ⟨b, 0, none⟩))) (hc : w.cell? ⟨b, 3, none⟩ = some (.int .i64 y)) (hz : w.frozen? ⟨b, 3, none⟩ = false) :
    CallsD Try.prog 84 #[.pointer (some p)] (.panicking ({ v := .iface 24 (.int .i64 x), recovered := false } :: older)) w fun e u' w' => e = .returned (.tuple #[]) ∧ u' = .panicking ({ v := .iface 24 (.int .i64 x), recovered := true } :: older) ∧ w' = w.setCell ⟨b, 3, none⟩ (.int .i64 x) := by
  refine callsD_of_wpS Try.func84 rfl fun c₀ cs hu => ?_
  apply wpS_seq
  apply wpS_region
  simp [wpOpsS, go_sem, recoverD, hu, Try.ntmps84, Exit.thenS, ta_nil, ta_err]
  apply wpS_seq
  apply wpS_region
  simp [wpOpsS, go_sem, recoverD, hu, Exit.thenS]
  refine wpS_cond (t := true) (by simp [Act.eval, Array.replicate]) ?_
  simp only [if_true]
  apply wpS_region
  simp [wpOpsS, go_sem, hp, hc, hz, bodyPostS, results, Try.results84]
set_option maxRecDepth 100000 in
set_option maxHeartbeats 1600000 in
theorem err_made (b : Nat) (s : ByteArray) (a x : Int) (w : World) (h : Rd w b s a x) :
    Calls Try.prog 78 #[.pointer (some ⟨b, 0, none⟩)] w fun e w' => e = .returned (.int .i64 x) ∧ w = w' := by
  have c0 := h.made; have c3 := h.err
  clear h
  go_enter Try.func78, Try.ntmps78
  go_wp2
  go_ret
  exact ⟨rfl, rfl⟩
/-- A reader's box. -/
def rBox (w : World) (p : Value) : World := w.alloc (.cells #[p] 108)
theorem rBox_below (w : World) (p : Value) : Below w.heap.size w (rBox w p) := (Below.refl _ _).alloc (Nat.le_refl _) _
theorem rBox_cell (w : World) (p : Value) : (rBox w p).cell? ⟨w.heap.size, 0, none⟩ = some p := by simp [rBox]
set_option maxRecDepth 100000 in
set_option maxHeartbeats 1600000 in
theorem take_good (b : Nat) (s : ByteArray) (a : Int) (F : FuncId) (cs : Array Value) (Post : World → Prop) (hF : ∀ w, Sem.run Try.prog (callFunc F cs) w = .ok (.enter F cs) w) (w : World) (h : Rd w b s a 0) (hst : Calls Try.prog F cs (rBox w (.pointer (some ⟨b, 0, none⟩))) fun e w' => e = .returned (.tuple #[]) ∧ Post w') :
    Calls Try.prog 72 #[.pointer (some ⟨b, 0, none⟩), .func (.func F) #[] cs] w fun e w' => e = .returned (.tuple #[]) ∧ Post w' := by
  have hmf : ∀ (fn : Fn) (first cap : Array Value) (w : World), (Instr.makeFunc fn first cap).run Try.prog w = .ok (.func fn first cap) w := fun _ _ _ _ => rfl
  have H1 := Lib.hid (h.below (rBox_below w (.pointer (some ⟨b, 0, none⟩))))
  have HS := Lib.hid hst
  clear h hst
  go_enter_defers Try.func72, Try.ntmps72
  go_wp2_with fail
  refine (err_made b s a 0 _ H1.out).mono ?_
  rintro e w1 ⟨rfl, rfl⟩
  go_wp2_with fail
  refine HS.out.mono ?_
  rintro e w2 ⟨rfl, hm⟩
  have HM := Lib.hid hm
  clear hm
  go_wp2
  refine leaves_cons (f := 84) (args := #[.pointer (some ⟨w.heap.size, 0, none⟩)]) (by simp) (by simp [go_sem]) ?_
  refine (rcatch_idle _ _).mono ?_
  rintro e u' w'' ⟨rfl, rfl, rfl⟩
  simp only [Leaves, settle, results, Try.results72]
  simp
  exact HM.out
set_option maxRecDepth 100000 in
set_option maxHeartbeats 1600000 in
theorem take_bad (b : Nat) (s : ByteArray) (a x : Int) (F : FuncId) (cs : Array Value) (hF : ∀ w, Sem.run Try.prog (callFunc F cs) w = .ok (.enter F cs) w) (w : World) (h : Rd w b s a 0) (hst : Calls Try.prog F cs (rBox w (.pointer (some ⟨b, 0, none⟩))) fun e w' => e = .panicked [thrown x] ∧ ∃ a', RB b s a' (rBox w (.pointer (some ⟨b, 0, none⟩))) w') :
    Calls Try.prog 72 #[.pointer (some ⟨b, 0, none⟩), .func (.func F) #[] cs] w fun e w' => e = .returned (.tuple #[]) ∧ ∃ a', But (Own b) w w' ∧ Rd w' b s a' x := by
  have hmf : ∀ (fn : Fn) (first cap : Array Value) (w : World), (Instr.makeFunc fn first cap).run Try.prog w = .ok (.func fn first cap) w := fun _ _ _ _ => rfl
  have hb1 := rBox_below w (.pointer (some ⟨b, 0, none⟩))
  have H1 := Lib.hid (h.below hb1)
  have HB1 := Lib.hid (But.of_below (S := Own b) hb1)
  have HP := Lib.hid (rBox_cell w (.pointer (some ⟨b, 0, none⟩)))
  have hlt : ¬ Own b w.heap.size := by have := h.lt; unfold Own; omega
  have HL := Lib.hid hlt
  have HS := Lib.hid hst
  clear h hst hb1 hlt
  go_enter_defers Try.func72, Try.ntmps72
  go_wp2_with fail
  refine (err_made b s a 0 _ H1.out).mono ?_
  rintro e w1 ⟨rfl, rfl⟩
  go_wp2_with fail
  refine HS.out.mono ?_
  rintro e w2 ⟨rfl, a', hm⟩
  have HM := Lib.hid hm
  have HP2 := Lib.hid (hm.1.cell (a := ⟨w.heap.size, 0, none⟩) HL.out HP.out)
  clear hm
  go_wp2
  refine leaves_cons (f := 84) (args := #[.pointer (some ⟨w.heap.size, 0, none⟩)]) (by simp) (by simp [go_sem]) ?_
  refine (rcatch_errno _ b x 0 [] _ HP2.out HM.out.2.err HM.out.2.fr3).mono ?_
  rintro e u' w'' ⟨rfl, rfl, rfl⟩
  have HF := Lib.hid (HM.out.2.setErr x)
  have HB2 := Lib.hid ((HB1.out.trans HM.out.1).setCell (p := ⟨b, 3, none⟩) (fun _ => rfl) (.int .i64 x))
  simp [Leaves, settle, results, Try.results72, go_sem]
  exact ⟨HB2.out, a', HF.out⟩
set_option maxRecDepth 100000 in
set_option maxHeartbeats 1600000 in
theorem take_err (b : Nat) (s : ByteArray) (a x : Int) (st : Value) (w : World) (h : Rd w b s a x) (hx : x ≠ 0) :
    Calls Try.prog 72 #[.pointer (some ⟨b, 0, none⟩), st] w fun e w' => e = .returned (.tuple #[]) ∧ Below w.heap.size w w' := by
  have hb1 := rBox_below w (.pointer (some ⟨b, 0, none⟩))
  have H1 := Lib.hid (h.below hb1)
  have HB := Lib.hid hb1
  have hq : (x != 0) = true := by simp [hx]
  clear h hb1
  go_enter_defers Try.func72, Try.ntmps72
  go_wp2_with fail
  refine (err_made b s a x _ H1.out).mono ?_
  rintro e w1 ⟨rfl, rfl⟩
  go_wp2
  simp [bodyPostD, Leaves, settle, results, Try.results72]
  exact HB.out
end Go.Proofs.Ytpcbgkmnjmiigaa

/- Package wire: a reader's numbers. Conditions: texts of at most 2^63-1 bytes. -/
namespace Go.Proofs.Ytpcbgkmnjmiigaa
open Go.RowKit Go.PlainAid

/-- A step of a reader has read: its answer lies in p. -/
def RC (b : Nat) (p : Addr) (s : ByteArray) (a : Int) (v : Value) (w w' : World) : Prop := But (fun k => k = b ∨ k = p.block) w w' ∧ Rd w' b s a 0 ∧ w'.cell? p = some v
theorem RC.of {b : Nat} {p : Addr} {s : ByteArray} {a : Int} {v v0 : Value} {w w1 : World} (h : RB b s a w w1) (hc : w1.cell? p = some v0) (hp : p.block ≠ b) : RC b p s a v w (w1.setCell p v) := by
  have hbt : But (fun k => k = p.block) w1 (w1.setCell p v) := (But.of_below (S := fun k => k = p.block) (Below.refl _ _)).setCell (p := p) (fun _ => rfl) v
  exact ⟨(h.1.mono (fun k _ hk => Or.inl hk)).trans (hbt.mono (fun k _ hk => Or.inr hk)), h.2.but hbt (fun e => hp e.symm), World.cell?_setCell_same _ _ _ hc⟩
set_option maxRecDepth 100000 in
set_option maxHeartbeats 1600000 in
theorem sNum_good (pr pm pn : Addr) (b : Nat) (s : ByteArray) (a m : Int) (v0 : Value) (w : World) (hr : w.cell? pr = some (.pointer (some ⟨b, 0, none⟩))) (hm : w.cell? pm = some (.int .i64 m)) (hn : w.cell? pn = some v0) (hz : w.frozen? pn = false) (hp : pn.block ≠ b) (h : Rd w b s a 0) (hs : s.size ≤ 9223372036854775807) (hm1 : m ≤ 9223372036854775807) (he : (upR s a m 5).2.2 = 0) :
    Calls Try.prog 73 #[.pointer (some pr), .pointer (some pm), .pointer (some pn)] w fun e w' => e = .returned (.tuple #[]) ∧ RC b pn s (upR s a m 5).2.1 (.int .i64 (upR s a m 5).1) w w' := by
  have hu := upTo_any b s a m 5 w h hs hm1 (by decide)
  rw [if_pos he] at hu
  have HU := Lib.hid hu; have HN := Lib.hid hn; have HZ := Lib.hid hz
  have hl := World.block_lt_of_cell? w _ hn
  clear hu hn hz h he
  go_enter Try.func73, Try.ntmps73
  go_wp2_with fail
  refine HU.out.mono ?_
  rintro e w1 ⟨rfl, hb⟩
  have n1 := hb.1.cell (a := pn) hp HN.out
  have z1 : w1.frozen? pn = false := by rw [hb.1.frozen hl hp]; exact HZ.out
  have HF := Lib.hid (RC.of (v := .int .i64 (upR s a m 5).1) hb n1 hp)
  clear hb
  go_wp2
  go_end0
  exact ⟨rfl, HF.out⟩
set_option maxRecDepth 100000 in
set_option maxHeartbeats 1600000 in
theorem sNum_bad (pr pm pn : Addr) (b : Nat) (s : ByteArray) (a m : Int) (w : World) (hr : w.cell? pr = some (.pointer (some ⟨b, 0, none⟩))) (hm : w.cell? pm = some (.int .i64 m)) (h : Rd w b s a 0) (hs : s.size ≤ 9223372036854775807) (hm1 : m ≤ 9223372036854775807) (he : (upR s a m 5).2.2 ≠ 0) :
    Calls Try.prog 73 #[.pointer (some pr), .pointer (some pm), .pointer (some pn)] w fun e w' => e = .panicked [thrown (upR s a m 5).2.2] ∧ ∃ a', RB b s a' w w' := by
  have hu := upTo_any b s a m 5 w h hs hm1 (by decide)
  rw [if_neg he] at hu
  have HU := Lib.hid hu
  clear hu h he
  go_enter Try.func73, Try.ntmps73
  go_wp2_with fail
  refine HU.out.mono ?_
  rintro e w1 ⟨rfl, hb⟩
  have HB := Lib.hid hb; clear hb
  go_wp2
  exact ⟨rfl, rfl, _, HB.out⟩
theorem two_lay (w : World) (u v : Value) (t t' : TypeId) : Below w.heap.size w ((w.alloc (.cells #[u] t)).alloc (.cells #[v] t')) := ((Below.refl _ _).alloc (Nat.le_refl _) _).alloc (by simp) _
theorem But.fresh {S T : Nat → Prop} {w w1 w2 : World} (h : But S w w1) (h2 : But T w1 w2) (hT : ∀ k, k < w.heap.size → T k → S k) : But S w w2 :=
  ⟨h2.os.trans h.os, h2.tape.trans h.tape, h2.output.trans h.output, Nat.le_trans h.size h2.size, fun k hk hS => (h2.block k (Nat.lt_of_lt_of_le hk h.size) (fun ht => hS (hT k hk ht))).trans (h.block k hk hS)⟩
/-- What a reader answers and keeps: the answer, the place, the error. -/
def numR (s : ByteArray) (a x m : Int) : Int × Int × Int := if x ≠ 0 then (0, a, x) else ((if (upR s a m 5).2.2 = 0 then (upR s a m 5).1 else 0), (upR s a m 5).2.1, (upR s a m 5).2.2)
/-- The reader has a place, whichever, behind an error. -/
def RE (w : World) (b : Nat) (s : ByteArray) (a x : Int) : Prop := if x = 0 then Rd w b s a 0 else ∃ a', Rd w b s a' x
theorem RE.good {w : World} {b : Nat} {s : ByteArray} {a : Int} (h : Rd w b s a 0) : RE w b s a 0 := by unfold RE; rw [if_pos rfl]; exact h
theorem RE.bad {w : World} {b : Nat} {s : ByteArray} {a a' x : Int} (hx : x ≠ 0) (h : Rd w b s a' x) : RE w b s a x := by unfold RE; rw [if_neg hx]; exact ⟨a', h⟩
theorem lay2 (w : World) (p z : Value) (t1 t3 : TypeId) : Below w.heap.size w ((w.alloc (.cells #[p] t1)).alloc (.cells #[z] t3)) ∧ ((w.alloc (.cells #[p] t1)).alloc (.cells #[z] t3)).cell? ⟨w.heap.size, 0, none⟩ = some p ∧ ((w.alloc (.cells #[p] t1)).alloc (.cells #[z] t3)).cell? ⟨w.heap.size + 1, 0, none⟩ = some z ∧ ((w.alloc (.cells #[p] t1)).alloc (.cells #[z] t3)).frozen? ⟨w.heap.size + 1, 0, none⟩ = false := by
  refine ⟨two_lay w p z t1 t3, ?_, ?_, ?_⟩ <;> simp
theorem lay3 (w : World) (p v z : Value) (t1 t2 t3 : TypeId) : Below w.heap.size w (((w.alloc (.cells #[p] t1)).alloc (.cells #[v] t2)).alloc (.cells #[z] t3)) ∧ (((w.alloc (.cells #[p] t1)).alloc (.cells #[v] t2)).alloc (.cells #[z] t3)).cell? ⟨w.heap.size, 0, none⟩ = some p ∧ (((w.alloc (.cells #[p] t1)).alloc (.cells #[v] t2)).alloc (.cells #[z] t3)).cell? ⟨w.heap.size + 1, 0, none⟩ = some v ∧ (((w.alloc (.cells #[p] t1)).alloc (.cells #[v] t2)).alloc (.cells #[z] t3)).cell? ⟨w.heap.size + 1 + 1, 0, none⟩ = some z ∧ (((w.alloc (.cells #[p] t1)).alloc (.cells #[v] t2)).alloc (.cells #[z] t3)).frozen? ⟨w.heap.size + 1 + 1, 0, none⟩ = false := by
  obtain ⟨a0, a1, a2, _⟩ := lay2 w p v t1 t2
  have hsz : ((w.alloc (.cells #[p] t1)).alloc (.cells #[v] t2)).heap.size = w.heap.size + 1 + 1 := by simp
  generalize (w.alloc (.cells #[p] t1)).alloc (.cells #[v] t2) = W at a0 a1 a2 hsz ⊢
  have hb : Below W.heap.size W (W.alloc (.cells #[z] t3)) := (Below.refl _ _).alloc (Nat.le_refl _) _
  refine ⟨a0.alloc (by omega) _, cell_below hb a1, cell_below hb a2, ?_, ?_⟩
  · rw [← hsz]; simp
  · rw [← hsz]; simp
set_option maxRecDepth 100000 in
set_option maxHeartbeats 1600000 in
theorem rNum_any (b : Nat) (s : ByteArray) (a x m : Int) (w : World) (h : Rd w b s a x) (hs : s.size ≤ 9223372036854775807) (hm : m ≤ 9223372036854775807) :
    Calls Try.prog 50 #[.pointer (some ⟨b, 0, none⟩), .int .i64 m] w fun e w' => e = .returned (.int .i64 (numR s a x m).1) ∧ RE w' b s (numR s a x m).2.1 (numR s a x m).2.2 ∧ But (Own b) w w' := by
  have hmf : ∀ (fn : Fn) (first cap : Array Value) (w : World), (Instr.makeFunc fn first cap).run Try.prog w = .ok (.func fn first cap) w := fun _ _ _ _ => rfl
  obtain ⟨W, hW⟩ : ∃ W, W = (((w.alloc (.cells #[.pointer (some ⟨b, 0, none⟩)] 108)).alloc (.cells #[.int .i64 m] 3)).alloc (.cells #[.int .i64 0] 3)) := ⟨_, rfl⟩
  have hl := lay3 w (.pointer (some ⟨b, 0, none⟩)) (.int .i64 m) (.int .i64 0) 108 3 3
  rw [← hW] at hl
  obtain ⟨l0, l1, l2, l3, l4⟩ := hl
  have H1 := Lib.hid (h.below l0)
  have HB := Lib.hid (But.of_below (S := Own b) l0)
  have hlt := h.lt
  have k1 := rBox_below W (.pointer (some ⟨b, 0, none⟩))
  have H2 := Lib.hid (H1.out.below k1)
  have HB2 := Lib.hid (But.of_below (S := Own b) k1)
  have L1 := Lib.hid (cell_below k1 l1); have L2 := Lib.hid (cell_below k1 l2); have L3 := Lib.hid (cell_below k1 l3)
  have L4 : Hid ((rBox W (.pointer (some ⟨b, 0, none⟩))).frozen? ⟨w.heap.size + 1 + 1, 0, none⟩ = false) := Lib.hid (by rw [k1.frozen (World.block_lt_of_cell? W _ l3)]; exact l4)
  have HW := Lib.hid hW; have M3 := Lib.hid l3
  have hF : ∀ u, Sem.run Try.prog (callFunc 73 #[.pointer (some ⟨w.heap.size, 0, none⟩), .pointer (some ⟨w.heap.size + 1, 0, none⟩), .pointer (some ⟨w.heap.size + 1 + 1, 0, none⟩)]) u = .ok (.enter 73 #[.pointer (some ⟨w.heap.size, 0, none⟩), .pointer (some ⟨w.heap.size + 1, 0, none⟩), .pointer (some ⟨w.heap.size + 1 + 1, 0, none⟩)]) u := fun _ => rfl
  have hd : w.heap.size + 1 + 1 ≠ b := by omega
  have HFn := Lib.hid hF
  clear h l0 l1 l2 l3 l4 k1 hF
  go_enter Try.func50, Try.ntmps50
  go_wp2_with fail
  rw [← HW.out]
  refine Calls.mono (R := fun e w' => e = .returned (.tuple #[]) ∧ w'.cell? ⟨w.heap.size + 1 + 1, 0, none⟩ = some (.int .i64 (numR s a x m).1) ∧ RE w' b s (numR s a x m).2.1 (numR s a x m).2.2 ∧ But (Own b) w w') ?_ ?_
  · by_cases hx : x = 0
    · subst hx
      by_cases hu : (upR s a m 5).2.2 = 0
      · have hq : numR s a 0 m = ((upR s a m 5).1, (upR s a m 5).2.1, 0) := by unfold numR; rw [if_neg (by simp), if_pos hu, hu]
        rw [hq]
        refine (take_good b s a _ _ _ HFn.out _ H1.out (sNum_good _ _ _ b s a m _ _ L1.out L2.out L3.out L4.out hd H2.out hs hm hu)).mono ?_
        rintro e w1 ⟨rfl, r1, r2, r3⟩
        refine ⟨rfl, r3, RE.good r2, (HB.out.trans HB2.out).fresh r1 (fun k hk hS => ?_)⟩
        rcases hS with hS | hS
        · exact hS
        · simp only at hS; omega
      · have hq : numR s a 0 m = (0, (upR s a m 5).2.1, (upR s a m 5).2.2) := by unfold numR; rw [if_neg (by simp), if_neg hu]
        rw [hq]
        refine (take_bad b s a _ _ _ HFn.out _ H1.out (sNum_bad _ _ _ b s a m _ L1.out L2.out H2.out hs hm hu)).mono ?_
        rintro e w1 ⟨rfl, a', r1, r2⟩
        exact ⟨rfl, r1.cell (a := ⟨w.heap.size + 1 + 1, 0, none⟩) hd M3.out, RE.bad hu r2, HB.out.trans r1⟩
    · have hq : numR s a x m = (0, a, x) := by unfold numR; rw [if_pos hx]
      rw [hq]
      refine (take_err b s a x _ _ H1.out hx).mono ?_
      rintro e w1 ⟨rfl, r1⟩
      exact ⟨rfl, cell_below r1 M3.out, RE.bad hx (H1.out.below r1), HB.out.trans (But.of_below r1)⟩
  rintro e w1 ⟨rfl, r1, r2, r3⟩
  have R2 := Lib.hid r2; have R3 := Lib.hid r3; clear r2 r3
  go_wp2
  go_ret
  exact ⟨rfl, R2.out, R3.out⟩
end Go.Proofs.Ytpcbgkmnjmiigaa

/- Texts cut and put together: runs as equations. Conditions: none. -/
namespace Go.Proofs.Ytpcbgkmnjmiigaa
open Go.RowKit

theorem slice_run (s : ByteArray) (i j : Nat) (I J : Int) (hI : I = (i : Int)) (hJ : J = (j : Int)) (hij : i ≤ j) (hj : j ≤ s.size) (w : World) :
    (Instr.slice 9 (.string s) (some (.int .i64 I)) (some (.int .i64 J)) none).run Try.prog w = .ok (.string (s.extract i j)) w := by
  subst hI hJ
  rw [run_slice_string_if w 9 s .i64 .i64 (i : Int) (j : Int) Try.underlying9, if_pos ⟨by omega, by omega⟩, if_pos ⟨by omega, by omega⟩]
  simp
end Go.Proofs.Ytpcbgkmnjmiigaa
