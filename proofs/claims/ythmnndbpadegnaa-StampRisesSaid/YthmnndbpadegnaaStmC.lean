/- Package stamp: the iterator of All. Conditions: the entries read as l. -/
import Derived.Test.YthmnndbpadegnaaStmB
import Derived.RangeFuncNested
import Derived.RangeFuncBound
import Derived.RangeFuncCalls
import Derived.RangeFuncLeaves
import Derived.RangeFuncBox
import Derived.Shelf.Abstract
import Derived.Shelf.RegionOpen
import Derived.WalkKit
import Derived.OwnWalkIn
import Derived.TacticsInMore
import Derived.LoopNIn
import Derived.LoopIn
import Derived.ScopeJumps
namespace Go.Proofs.Ythmnndbpadegnaa
open Go.RowKit Go.Shelf
attribute [local go_sem] Oper.semAt_some

def noteE (x : Stp) : List Value := [.int .i64 3, .int .i64 x.1, .int .u64 x.2, .int .i64 0, .slice none 0 0, .int .u64 0, .slice none 0 0, .int .i64 0, .int .i64 0, .slice none 0 0, .int .u64 0, .int .i64 0, .int .u64 0, .int .i64 0, .int .i64 0, .int .i64 0, .int .i64 0, .int .i64 0]
def encN (x : Stp) : Value := .agg (noteE x).toArray
structure Bx3 (B : Nat) (v : Value) (n f : Int) (W : World) : Prop where
  c0 : W.cell? ⟨B, 0, none⟩ = some v
  c1 : W.cell? ⟨B + 1, 0, none⟩ = some (.int .i64 n)
  c2 : W.cell? ⟨B + 2, 0, none⟩ = some (.int .u64 f)
theorem Bx3.below {B : Nat} {v : Value} {n f : Int} {W W' : World} (h : Bx3 B v n f W) (hb : Below W.heap.size W W') : Bx3 B v n f W' := ⟨cell_below hb h.c0, cell_below hb h.c1, cell_below hb h.c2⟩
def KpS (n₀ B : Nat) (v : Value) (n f : Int) (A C : World) : Prop := Below n₀ A C ∧ (Bx3 B v n f A → Bx3 B v n f C)
theorem KpS.t {n₀ B : Nat} {v : Value} {n f : Int} {X Y Z : World} (h : KpS n₀ B v n f X Y) (k : KpS n₀ B v n f Y Z) : KpS n₀ B v n f X Z := ⟨h.1.trans k.1, fun c => k.2 (h.2 c)⟩
theorem KpS.b {n₀ B : Nat} {v : Value} {n f : Int} {w : World} (hn : n₀ ≤ w.heap.size) (W : World) (l : Nat) (o o' : Obj) (hl : w.heap.size ≤ l) (h : W.heap[l]? = some o) (hc : o.isCells = false) (hw : o.isWalk = false) : KpS n₀ B v n f W (W.putObj l o') :=
  ⟨belowK_b hn W l o o' hl h hc hw, fun c => ⟨cell_kept c.c0 (grownBy_putObj' W l o') (fun r e => by cases e; exact ⟨_, h, hc⟩), cell_kept c.c1 (grownBy_putObj' W l o') (fun r e => by cases e; exact ⟨_, h, hc⟩), cell_kept c.c2 (grownBy_putObj' W l o') (fun r e => by cases e; exact ⟨_, h, hc⟩)⟩⟩
def AllS (l : List EntT) (n f : Int) (ys : List Stp) : Prop := ∃ i a, SRun l.length n f (stN l : Nat) (lastR l) ys i a ∧ SEnds l.length n f i a
def PartS (l : List EntT) (n f : Int) (ys : List Stp) : Prop := ∃ ys' i a, ys = ys' ++ [(i, (nxT a f).1)] ∧ SRun l.length n f (stN l : Nat) (lastR l) ys' i a

set_option maxRecDepth 100000 in
set_option maxHeartbeats 2000000 in
theorem siter_in (lp B n₀ : Nat) (ao : Option Addr) (cap : Nat) (l : List EntT) (n f : Int) (hl : l.length ≤ 1000) (hf : 0 ≤ f) (hf1 : f ≤ topT) (hlast : 0 ≤ lastR l ∧ lastR l ≤ topT) (J Jx : List Stp → World → Prop)
    (hY : ∀ pre x W, J pre W → pre.length < l.length → YieldAt Fence.wide 1 Try.prog lp #[encN x] W fun e W' =>
      (e = .returned (.bool true) ∧ J (pre ++ [x]) W' ∧ KpS n₀ B (.slice ao l.length cap) n f W W') ∨ (e = .returned (.bool false) ∧ Jx (pre ++ [x]) W'))
    (W : World) (hB : Bx3 B (.slice ao l.length cap) n f W) (hs : SliceOf entE 4 W (.slice ao l.length cap) l) (h0 : J [] W) :
    CallsIn Fence.wide 2 Try.prog 114 #[.func (.yield lp) #[] #[], .pointer (some ⟨B, 0, none⟩), .pointer (some ⟨B + 1, 0, none⟩), .pointer (some ⟨B + 2, 0, none⟩)] W fun e W' => (∃ v, e = .returned v) ∧
      ((∃ ys, AllS l n f ys ∧ J ys W') ∨ (∃ pre, PartS l n f pre ∧ Jx pre W')) := by
  refine callsIn_of_wp Try.func114 rfl trivial ?_ rfl
  simp only [Try.ntmps114, List.size_toArray, List.length_cons, List.length_nil, Nat.reduceAdd, Nat.reduceSub, Array.replicate_succ, Array.replicate_zero, List.push_toArray, List.append_toArray, List.nil_append, List.cons_append]
  have h1 : 1 ≤ (2 : Nat) := by omega
  obtain ⟨b0, b1, b2⟩ := hB
  have HS := Lib.hid hs; have HY := Lib.hid hY; have HL := Lib.hid hlast
  clear hs hY hlast
  gi_wp2
  refine wpIn_wide.2 ?_
  refine wp_scope_jumps 0 (fun a' w' => a'.defers = [] ∧ ((∃ ys, AllS l n f ys ∧ J ys w') ∨ (∃ pre, PartS l n f pre ∧ Jx pre w'))) (fun _ _ => 0) rfl ?first ?pass
  case pass =>
    rintro ⟨tm, df⟩ w' ⟨rfl, h⟩
    go_wp2
    simp only [Exit.jump]
    go_end0
    exact ⟨⟨_, rfl⟩, h⟩
  case first =>
    refine (wpIn_wide (n := 2)).1 ?_
    gi_wp2_with (first
      | (refine ⟨trivial, ?_⟩; gi_at_call 90; refine (callsIn_wide.2 (ilast_any _ l _ HS.out)).mono ?_; rintro e w1 ⟨rfl, rfl⟩)
      | (refine ⟨trivial, ?_⟩; gi_at_call 80; refine (callsIn_wide.2 (stamped_any _ l _ HS.out)).mono ?_; rintro e w1 ⟨rfl, rfl⟩))
    have hst := stN_le l
    gi_loopw [5, 6] (fun p q wr => ∃ (pre : List Stp) (i a : Int), p = .int .u64 a ∧ q = .int .i64 i ∧ SRun l.length n f (stN l : Nat) (lastR l) pre i a ∧ J pre wr ∧ Bx3 B (.slice ao l.length cap) n f wr)
      (fun p q wr => l.length - (intOf q).toNat)
    case atStart => exact ⟨[], _, _, rfl, rfl, ⟨rfl, rfl⟩, h0, ⟨b0, b1, b2⟩⟩
    case round =>
      obtain ⟨pre, i, a, rfl, rfl, hrun, hJs, c0, c1, c2⟩ := hrel
      obtain ⟨hi1, hi2⟩ := hrun.place
      have hi2 := hi2 (by omega)
      obtain ⟨ha0, ha1⟩ := hrun.bd hf hf1 HL.out.1 HL.out.2
      have hi3 : (pre.length : Int) ≤ i := by omega
      have HI1 := Lib.hid hi1
      have hlenI : i < (l.length : Int) → pre.length < l.length := fun h => by omega
      have HRUN := Lib.hid hrun; clear hrun hi1
      by_cases hin : i < n
      · by_cases hil : i < (l.length : Int)
        · have hd1 : decide (i < n) = true := decide_eq_true hin
          have hd2 : decide (i < (l.length : Int)) = true := decide_eq_true hil
          have hlen := hlenI hil
          clear hlenI
          obtain ⟨⟨ts, e⟩, hr⟩ : ∃ r, nxT a f = r := ⟨_, rfl⟩
          have HR := Lib.hid hr; clear hr
          by_cases he : e = 0
          · subst he
            gi_wp2_with (refine ⟨trivial, ?_⟩; gi_at_call 96; refine (callsIn_wide.2 (snext_any a f _ ha0 ha1)).mono ?_; rintro e9 w2 ⟨rfl, rfl⟩; rw [HR.out]; obtain ⟨fn, tmps, assign, body, hy, hR⟩ := HY.out pre (i, ts) _ hJs hlen; dsimp only [encN, noteE] at hy)
            refine hR.mono ?_
            rintro e8 W3 (⟨rfl, hJ3, hk3⟩ | ⟨rfl, hJx3⟩)
            · obtain ⟨d0, d1, d2⟩ := hk3.2 ⟨c0, c1, c2⟩
              have hrun3 : SRun l.length n f (stN l : Nat) (lastR l) (pre ++ [(i, ts)]) (i + 1) ts := by
                have h := HRUN.out.snoc ⟨hin, hil⟩ (by rw [HR.out])
                rw [HR.out] at h
                exact h
              gi_wp2
              go_roundw
              case rel => exact ⟨pre ++ [(i, ts)], i + 1, ts, rfl, by go_num, hrun3, hJ3, d0, d1, d2⟩
              case measure =>
                show l.length - (i + 1).toNat < l.length - i.toNat
                omega
            · gi_wp2
              refine wpIn_goto ?_
              exact ⟨rfl, rfl, .inr ⟨pre ++ [(i, ts)], ⟨pre, i, a, by rw [HR.out], HRUN.out⟩, hJx3⟩⟩
          · have hne : (e != 0) = true := by simpa using he
            have HE := Lib.hid he; clear he
            gi_wp2_with (refine ⟨trivial, ?_⟩; gi_at_call 96; refine (callsIn_wide.2 (snext_any a f _ ha0 ha1)).mono ?_; rintro e9 w2 ⟨rfl, rfl⟩; rw [HR.out])
            refine ⟨fun _ h => (by cases h), ?_⟩
            gi_wp2
            refine wpIn_goto ?_
            exact ⟨rfl, rfl, .inl ⟨pre, ⟨i, a, HRUN.out, .inr (by rw [HR.out]; exact HE.out)⟩, hJs⟩⟩
        · have hd1 : decide (i < n) = true := decide_eq_true hin
          have hd2 : decide (i < (l.length : Int)) = false := decide_eq_false hil
          clear hlenI
          gi_wp2
          refine wpIn_label ?_
          gi_wp2
          simp only [Exit.jump]
          go_end0
          exact ⟨⟨_, rfl⟩, .inl ⟨pre, ⟨i, a, HRUN.out, .inl (fun h => by omega)⟩, hJs⟩⟩
      · have hd1 : decide (i < n) = false := decide_eq_false hin
        clear hlenI
        gi_wp2
        refine wpIn_label ?_
        gi_wp2
        simp only [Exit.jump]
        go_end0
        exact ⟨⟨_, rfl⟩, .inl ⟨pre, ⟨i, a, HRUN.out, .inl (fun h => by omega)⟩, hJs⟩⟩
end Go.Proofs.Ythmnndbpadegnaa
