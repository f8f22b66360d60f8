/- Package frame: the iterator of All. Conditions: the table reads as it is laid. -/
import Derived.Test.YtlchdphgnmcaeaaDoorFrameG
import Derived.RangeFuncNested
import Derived.RangeFuncBound
import Derived.RangeFuncCalls
import Derived.RangeFuncLeaves
import Derived.RangeFuncBox
import Derived.Shelf.Abstract
import Derived.Shelf.RegionOpen
import Derived.WalkKit
import Derived.OwnWalkIn
import Derived.TacticsInMore
import Derived.LoopNIn
import Derived.LoopIn
namespace Go.Proofs.YtlchdphgnmcaeaaDoor
open Go.RowKit Go.Shelf
attribute [local go_sem] Oper.semAt_some

abbrev Fnd := ByteArray × Int × Int
inductive FRun (s : ByteArray) : List Fnd → Int → Prop
  | nil : FRun s [] 0
  | snoc {l : List Fnd} {b : Int} : FRun s l b → b < (s.size : Int) → (nextR s b).2.2 = 0 → FRun s (l ++ [nextR s b]) (nextR s b).2.1
theorem FRun.run {s : ByteArray} {l : List Fnd} {b : Int} (h : FRun s l b) : Run s 0 (l.map fun x => x.1) b := by
  induction h with
  | nil => rfl
  | snoc h1 h2 h3 ih => rw [List.map_append]; exact ih.snoc h2 h3
theorem FRun.bound {s : ByteArray} {l : List Fnd} {b : Int} (h : FRun s l b) : (l.length : Int) ≤ b ∧ b ≤ (s.size : Int) := by
  have h1 := h.run.bound (by omega) (by omega)
  simpa using h1
def encF (x : Fnd) : Value := .agg #[.string x.1, .int .i64 x.2.1, .int .i64 x.2.2]
/-- What a round that goes on keeps. -/
def KpF (n₀ Bn : Nat) (s : ByteArray) (A B : World) : Prop := Below n₀ A B ∧ (A.cell? ⟨Bn, 0, none⟩ = some (.string s) → B.cell? ⟨Bn, 0, none⟩ = some (.string s))
theorem KpF.t {n₀ Bn : Nat} {s : ByteArray} {A B C : World} (h : KpF n₀ Bn s A B) (k : KpF n₀ Bn s B C) : KpF n₀ Bn s A C := ⟨h.1.trans k.1, fun c => k.2 (h.2 c)⟩
theorem KpF.b {n₀ Bn : Nat} {s : ByteArray} {w : World} (hn : n₀ ≤ w.heap.size) (W : World) (l : Nat) (o o' : Obj) (hl : w.heap.size ≤ l) (h : W.heap[l]? = some o) (hc : o.isCells = false) (hw : o.isWalk = false) : KpF n₀ Bn s W (W.putObj l o') :=
  ⟨belowK_b hn W l o o' hl h hc hw, fun c => cell_kept c (grownBy_putObj' W l o') (fun r e => by cases e; exact ⟨_, h, hc⟩)⟩
theorem grown_of_below {w w' : World} (h : Below w.heap.size w w') : w.grownBy w' none := ⟨h.os, h.tape, h.output, h.size, fun k hk _ => h.block k hk⟩
/-- All has come. -/
def AllF (s : ByteArray) (ys : List Fnd) : Prop := (∃ b, FRun s ys b ∧ (s.size : Int) ≤ b) ∨ ∃ ys' b, ys = ys' ++ [nextR s b] ∧ FRun s ys' b ∧ b < (s.size : Int) ∧ (nextR s b).2.2 ≠ 0
def PartF (s : ByteArray) (ys : List Fnd) : Prop := ∃ ys' b, ys = ys' ++ [nextR s b] ∧ FRun s ys' b ∧ b < (s.size : Int)

set_option maxRecDepth 100000 in
set_option maxHeartbeats 2000000 in
theorem iter_in (l Bn n₀ B : Nat) (s : ByteArray) (hs : s.size ≤ 281474976710656) (J Jx : List Fnd → World → Prop) (hJ : AbidesFrom B J)
    (hY : ∀ pre x W, J pre W → pre.length < s.size → YieldAt Fence.wide 1 Tryd.prog l #[encF x] W fun e W' =>
      (e = .returned (.bool true) ∧ J (pre ++ [x]) W' ∧ KpF n₀ Bn s W W') ∨ (e = .returned (.bool false) ∧ Jx (pre ++ [x]) W'))
    (W : World) (hn0 : 0 < n₀) (hBn : W.cell? ⟨Bn, 0, none⟩ = some (.string s)) (ht : Tab W) (h0 : J [] W) :
    CallsIn Fence.wide 2 Tryd.prog 26 #[.func (.yield l) #[] #[], .pointer (some ⟨Bn, 0, none⟩)] W fun e W' => (∃ v, e = .returned v) ∧
      ((∃ ys, AllF s ys ∧ J ys W') ∨ (∃ pre, PartF s pre ∧ Jx pre W')) := by
  refine callsIn_of_wp Tryd.func26 rfl trivial ?_ rfl
  simp only [Tryd.ntmps26, List.size_toArray, List.length_cons, List.length_nil, Nat.reduceAdd, Nat.reduceSub, Array.replicate_succ, Array.replicate_zero, List.push_toArray, List.append_toArray, List.nil_append, List.cons_append]
  have h1 : 1 ≤ (2 : Nat) := by omega
  gi_wp2
  gi_loopw [3] (fun p wr => ∃ (pre : List Fnd) (b : Int), p = .int .i64 b ∧ FRun s pre b ∧ J pre wr ∧ Tab wr ∧ wr.cell? ⟨Bn, 0, none⟩ = some (.string s))
    (fun p wr => s.size - (intOf p).toNat)
  case atStart =>
    exact ⟨[], 0, rfl, .nil, h0, ht, hBn⟩
  case round =>
    obtain ⟨pre, b, rfl, hrun, hJs, htr, hc⟩ := hrel
    obtain ⟨hb1, hb2⟩ := hrun.bound
    by_cases hlt : b < (s.size : Int)
    · obtain ⟨⟨t, nx, e⟩, hr⟩ : ∃ r, nextR s b = r := ⟨_, rfl⟩
      have HR := Lib.hid hr; have HRUN := Lib.hid hrun; have HY := Lib.hid hY; have HJ := Lib.hid hJ
      clear hr hrun hY hJ
      have hlen : pre.length < s.size := by omega
      by_cases he : e = 0
      · subst he
        gi_wp2_with (refine ⟨trivial, ?_⟩; gi_at_call 7; refine (callsIn_wide.2 (next_any s b _ htr (by omega))).mono ?_; rintro e9 w2 ⟨rfl, hb9⟩; rw [HR.out]; unfold nextV; have hJ2 : J pre w2 := HJ.out pre wr w2 none hJs (grown_of_below hb9) (fun _ e => nomatch e); obtain ⟨fn, tmps, assign, body, hy, hR⟩ := HY.out pre (t, nx, 0) w2 hJ2 hlen; dsimp only [encF] at hy)
        refine hR.mono ?_
        rintro e8 W3 (⟨rfl, hJ3, hk3⟩ | ⟨rfl, hJx3⟩)
        · have hr : nextR s b = (t, nx, 0) := HR.out
          have hadv := next_adv s b (by rw [hr])
          rw [hr] at hadv
          obtain ⟨ha1, ha2, ha3⟩ := hadv
          have ha2' : b + 4 < nx := ha2
          have ha3' : nx ≤ (s.size : Int) := ha3
          have hrun3 : FRun s (pre ++ [(t, nx, 0)]) nx := by
            have h := FRun.snoc HRUN.out hlt (by rw [hr])
            rw [hr] at h
            exact h
          have hc2 : w2.cell? ⟨Bn, 0, none⟩ = some (.string s) := (hb9.cell (p := ⟨Bn, 0, none⟩) (World.block_lt_of_cell? wr _ hc)).trans hc
          have ht3 : Tab W3 := (htr.below hb9).since hn0 hk3.1
          have hc3 := hk3.2 hc2
          clear ha1 ha2 ha3
          gi_wp2
          go_roundw
          case rel => exact ⟨pre ++ [(t, nx, 0)], nx, rfl, hrun3, hJ3, ht3, hc3⟩
          case measure =>
            show s.size - nx.toNat < s.size - b.toNat
            omega
        · gi_wp2
          refine bodyPost_ret (results_none rfl _ _ _) rfl ?_
          refine ⟨⟨_, rfl⟩, .inr ⟨pre ++ [(t, nx, 0)], ⟨pre, b, by rw [HR.out], HRUN.out, hlt⟩, hJx3⟩⟩
      · have hne : (e != 0) = true := by simpa using he
        have HE := Lib.hid he; clear he
        gi_wp2_with (refine ⟨trivial, ?_⟩; gi_at_call 7; refine (callsIn_wide.2 (next_any s b _ htr (by omega))).mono ?_; rintro e9 w2 ⟨rfl, hb9⟩; rw [HR.out]; unfold nextV; have hJ2 : J pre w2 := HJ.out pre wr w2 none hJs (grown_of_below hb9) (fun _ e => nomatch e); obtain ⟨fn, tmps, assign, body, hy, hR⟩ := HY.out pre (t, nx, e) w2 hJ2 hlen; dsimp only [encF] at hy)
        refine hR.mono ?_
        rintro e8 W3 (⟨rfl, hJ3, hk3⟩ | ⟨rfl, hJx3⟩)
        · gi_wp2
          refine bodyPost_ret (results_none rfl _ _ _) rfl ?_
          refine ⟨⟨_, rfl⟩, .inl ⟨pre ++ [(t, nx, e)], .inr ⟨pre, b, by rw [HR.out], HRUN.out, hlt, by rw [HR.out]; exact HE.out⟩, hJ3⟩⟩
        · gi_wp2
          refine bodyPost_ret (results_none rfl _ _ _) rfl ?_
          refine ⟨⟨_, rfl⟩, .inr ⟨pre ++ [(t, nx, e)], ⟨pre, b, by rw [HR.out], HRUN.out, hlt⟩, hJx3⟩⟩
    · have hge : ¬ b < (s.size : Int) := hlt
      gi_wp2
      go_end0
      exact ⟨⟨_, rfl⟩, .inl ⟨pre, .inl ⟨b, hrun, by omega⟩, hJs⟩⟩
theorem iter_stops (Bn n₀ : Nat) (s : ByteArray) (hs : s.size ≤ 281474976710656) (w : World) (hBn : Bn < w.heap.size) (hn0 : 0 < n₀) (hc : w.cell? ⟨Bn, 0, none⟩ = some (.string s)) (ht : Tab w) :
    SeqStopsK Fence.wide 2 Tryd.prog 26 #[.pointer (some ⟨Bn, 0, none⟩)] (fun x : Fnd => #[encF x]) (KpF n₀ Bn s) (AllF s) (PartF s) s.size w := fun l J Jx W hW hJ _ hY h0 =>
  iter_in l Bn n₀ W.heap.size s hs J Jx hJ hY W hn0 ((hW.cell (p := ⟨Bn, 0, none⟩) hBn).trans hc) (ht.below hW) h0

set_option maxHeartbeats 800000 in
theorem frames_any (s : ByteArray) (w : World) :
    CallsIn Fence.wide 2 Tryd.prog 21 #[.string s] w fun e w' => e = .returned (.func (.func 26) #[] #[.pointer (some ⟨w.heap.size, 0, none⟩)]) ∧ w' = w.alloc (.cells #[.string s] 9) := by
  refine callsIn_of_wp Tryd.func21 rfl trivial ?_ rfl
  simp only [Tryd.ntmps21, List.size_toArray, List.length_cons, List.length_nil, Nat.reduceAdd, Nat.reduceSub, Array.replicate_succ, Array.replicate_zero, List.push_toArray, List.append_toArray, List.nil_append, List.cons_append]
  gi_wp2
  go_ret
  exact ⟨rfl, rfl⟩
end Go.Proofs.YtlchdphgnmcaeaaDoor
