/- Package tree, of lists of cells: walk, for an iterator. Conditions: none. -/
import Derived.Test.YtfjhlckklgeokaaTrcE
import Derived.RangeFuncNested
import Derived.RangeFuncBound
import Derived.RangeFuncCalls
import Derived.RangeFuncLeaves
import Derived.RangeFuncBox
import Derived.Shelf.Abstract
import Derived.Shelf.RegionOpen
import Derived.WalkKit
import Derived.OwnWalkIn
import Derived.TacticsInMore
import Derived.LoopNIn
import Derived.LoopIn
import Derived.ScopeJumps
namespace Go.Proofs.Ytfjhlckklgeokaa
open Go.RowKit Go.Shelf
attribute [local go_sem] Oper.semAt_some
set_option linter.unusedVariables false

/-- The keys of t that are not below F. -/
def wk (F : ByteArray) : Tm → List ByteArray
  | .nil => []
  | .nd _ l k _ _ r => if klt k F = true then wk F r else wk F l ++ k :: wk F r
theorem roundIn_n {m m' : Nat} {P : Program} {l : Nat} {f : FuncId} {tmps : Array Value} {asg bd : Code} {w : World} {R : Ending → World → Prop} (h : RoundIn Fence.wide m P l f tmps asg bd w R) : RoundIn Fence.wide m' P l f tmps asg bd w R :=
  ⟨trivial, fun c cs _ => h.2 c cs (room_wide _)⟩
theorem pre_app {A B C D : List ByteArray} (h : (A ++ (B ++ C)) <+: D) : (A ++ B) <+: D := by
  rw [← List.append_assoc] at h; exact (List.prefix_append _ _).trans h

set_option maxRecDepth 100000 in
set_option maxHeartbeats 2000000 in
theorem walk_in (lp n₀ : Nat) (F : ByteArray) (ks : List ByteArray) (J Jx : List ByteArray → World → Prop)
    (hY : ∀ pre x W, J pre W → (pre ++ [x]) <+: ks → YieldAt Fence.wide 1 Try.prog lp #[.string x] W fun e W' =>
      (e = .returned (.bool true) ∧ J (pre ++ [x]) W' ∧ Below n₀ W W') ∨ (e = .returned (.bool false) ∧ Jx (pre ++ [x]) W')) :
    ∀ (t : Tm) (pre : List ByteArray) (W : World), TreeAt W t → (∀ q ∈ bk t, q < n₀) → J pre W → (pre ++ wk F t) <+: ks →
    CallsIn Fence.wide 2 Try.prog 55 #[ptT t, .string F, .func (.yield lp) #[] #[]] W fun e W' =>
      (e = .returned (.bool true) ∧ J (pre ++ wk F t) W' ∧ Below n₀ W W') ∨ (e = .returned (.bool false) ∧ ∃ zs, zs ≠ [] ∧ zs <+: ks ∧ Jx zs W') := by
  intro t
  induction t with
  | nil =>
    intro pre W hT hq hJ hp
    refine callsIn_of_wp Try.func55 rfl trivial ?_ rfl
    simp only [ptT, Try.ntmps55, List.size_toArray, List.length_cons, List.length_nil, Nat.reduceAdd, Nat.reduceSub, Array.replicate_succ, Array.replicate_zero, List.push_toArray, List.append_toArray, List.nil_append, List.cons_append]
    gi_wp2
    go_ret
    exact .inl ⟨rfl, by simpa [wk] using hJ, Below.refl _ _⟩
  | nd b l k v d r ihl ihr =>
    intro pre W hT hq hJ hp
    obtain ⟨hB, hTl, hTr⟩ := hT
    have hql : ∀ q ∈ bk l, q < n₀ := fun q h => hq q (by simp [bk, h])
    have hqr : ∀ q ∈ bk r, q < n₀ := fun q h => hq q (by simp [bk, h])
    have hqb : b < n₀ := hq b (by simp [bk])
    have c0 : W.cell? ⟨b, 0, none⟩ = some (.string k) := hB.cell (k := 0) rfl
    have c3 : W.cell? ⟨b, 3, none⟩ = some (ptT l) := hB.cell (k := 3) rfl
    have c4 : W.cell? ⟨b, 4, none⟩ = some (ptT r) := hB.cell (k := 4) rfl
    have HB := Lib.hid hB; have HL := Lib.hid hTl; have HR := Lib.hid hTr; have HQL := Lib.hid hql; have HQR := Lib.hid hqr; have HY := Lib.hid hY; have HP := Lib.hid hp; have IL := Lib.hid ihl; have IR := Lib.hid ihr
    clear hB hTl hTr hql hqr hq hY hp ihl ihr
    have hkeep : Hid (∀ X : World, Below n₀ W X → TreeAt X r ∧ Blk X b 89 (ndV k v d l r)) := Lib.hid fun X hX =>
      ⟨HR.out.keep fun q hq => hX.block q (HQR.out q hq), by have h := HB.out; unfold Blk at h ⊢; rw [hX.block b hqb]; exact h⟩
    refine callsIn_of_wp Try.func55 rfl trivial ?_ rfl
    simp only [ptT, pt, Try.ntmps55, List.size_toArray, List.length_cons, List.length_nil, Nat.reduceAdd, Nat.reduceSub, Array.replicate_succ, Array.replicate_zero, List.push_toArray, List.append_toArray, List.nil_append, List.cons_append]
    by_cases hlt : klt k F = true
    · have hlt' : Op.bytesLess k.toList F.toList = true := hlt
      have HP2 : Hid (pre ++ wk F r <+: ks) := Lib.hid (by have h := HP.out; rw [wk, if_pos hlt] at h; exact h)
      gi_wp2
      refine ⟨trivial, ?_⟩
      refine (callsIn_wide.2 (callsIn_wide.1 (IR.out pre W HR.out HQR.out hJ HP2.out))).mono ?_
      rintro e W1 (⟨rfl, hJ1, hb1⟩ | ⟨rfl, hz⟩)
      · have HB1 := Lib.hid hb1; have HJ1 := Lib.hid hJ1; clear hb1 hJ1
        gi_wp2
        go_ret
        exact .inl ⟨rfl, by rw [wk, if_pos hlt]; exact HJ1.out, HB1.out⟩
      · have HZ := Lib.hid hz; clear hz
        gi_wp2
        go_ret
        exact .inr ⟨rfl, HZ.out⟩
    · have hlt' : Op.bytesLess k.toList F.toList = false := by simpa [klt] using hlt
      have hwk : Hid (wk F (.nd b l k v d r) = wk F l ++ k :: wk F r) := Lib.hid (by rw [wk, if_neg hlt])
      have HP1 : Hid (pre ++ wk F l <+: ks) := Lib.hid (by have h := HP.out; rw [hwk.out] at h; exact pre_app h)
      have HP3 : Hid ((pre ++ wk F l ++ [k]) ++ wk F r <+: ks) := Lib.hid (by have h := HP.out; rw [hwk.out] at h; simpa using h)
      have HP2 : Hid (pre ++ wk F l ++ [k] <+: ks) := Lib.hid ((List.prefix_append _ _).trans HP3.out)
      gi_wp2
      refine ⟨trivial, ?_⟩
      refine (callsIn_wide.2 (callsIn_wide.1 (IL.out pre W HL.out HQL.out hJ HP1.out))).mono ?_
      rintro e W1 (⟨rfl, hJ1, hb1⟩ | ⟨rfl, hz⟩)
      · have hk1 := (hkeep.out W1 hb1).2
        have d0 : W1.cell? ⟨b, 0, none⟩ = some (.string k) := hk1.cell (k := 0) rfl
        obtain ⟨fn, tmps, asg, body, hy, hR⟩ := HY.out (pre ++ wk F l) k W1 hJ1 HP2.out
        have HB1 := Lib.hid hb1; clear hb1 hk1
        gi_wp2
        refine (roundIn_n hR).mono ?_
        rintro e W2 (⟨rfl, hJ2, hb2⟩ | ⟨rfl, hx⟩)
        · have hb2 : Below n₀ W W2 := HB1.out.trans hb2
          obtain ⟨hr2, hk2⟩ := hkeep.out W2 hb2
          have d4 : W2.cell? ⟨b, 4, none⟩ = some (ptT r) := hk2.cell (k := 4) rfl
          have HB2 := Lib.hid hb2; have HR2 := Lib.hid hr2; clear hb2 hk2 hr2 hy
          gi_wp2
          refine ⟨trivial, ?_⟩
          refine (callsIn_wide.2 (callsIn_wide.1 (IR.out (pre ++ wk F l ++ [k]) W2 HR2.out HQR.out hJ2 HP3.out))).mono ?_
          rintro e W3 (⟨rfl, hJ3, hb3⟩ | ⟨rfl, hz⟩)
          · have HB3 := Lib.hid (HB2.out.trans hb3); have HJ3 := Lib.hid hJ3; clear hb3 hJ3
            gi_wp2
            go_ret
            exact .inl ⟨rfl, by rw [hwk.out]; simpa using HJ3.out, HB3.out⟩
          · have HZ := Lib.hid hz; clear hz
            gi_wp2
            go_ret
            exact .inr ⟨rfl, HZ.out⟩
        · have HZ : Hid (∃ zs, zs ≠ [] ∧ zs <+: ks ∧ Jx zs W2) := Lib.hid ⟨_, by simp, HP2.out, hx⟩
          clear hx hy
          gi_wp2
          refine ⟨trivial, ?_⟩
          gi_wp2
          go_ret
          exact .inr ⟨rfl, HZ.out⟩
      · have HZ := Lib.hid hz; clear hz
        gi_wp2
        refine ⟨by first | trivial | exact fun _ h => (by cases h), ?_⟩
        gi_wp2
        refine ⟨by first | trivial | exact fun _ h => (by cases h), ?_⟩
        gi_wp2
        go_ret
        exact .inr ⟨rfl, HZ.out⟩

set_option maxHeartbeats 1000000 in
theorem keysFrom_any (tb : Nat) (F : ByteArray) (w : World) :
    CallsIn Fence.wide 2 Try.prog 45 #[pt tb 0, .string F] w fun e w' => e = .returned (.func (.func 54) #[] #[.pointer (some ⟨w.heap.size, 0, none⟩), .pointer (some ⟨w.heap.size + 1, 0, none⟩)]) ∧
      w' = (w.alloc (.cells #[pt tb 0] 55)).alloc (.cells #[.string F] 9) := by
  refine callsIn_of_wp Try.func45 rfl trivial ?_ rfl
  simp only [pt, Try.ntmps45, List.size_toArray, List.length_cons, List.length_nil, Nat.reduceAdd, Nat.reduceSub, Array.replicate_succ, Array.replicate_zero, List.push_toArray, List.append_toArray, List.nil_append, List.cons_append]
  gi_wp2
  go_ret
  exact ⟨rfl, rfl⟩

/-- Only draws lie between. -/
inductive Dr (W : World) : World → Prop
  | o : Dr W W
  | s {X : World} : Dr W X → Dr W X.drew
theorem Dr.tree {W X : World} (h : Dr W X) {t : Tm} (ht : TreeAt W t) : TreeAt X t := by
  induction h with
  | o => exact ht
  | s _ ih => exact ih.keep fun q hq => rfl
theorem Dr.ind {W X : World} (h : Dr W X) {P : World → Prop} (h0 : P W) (hd : ∀ X, P X → P X.drew) : P X := by
  induction h with
  | o => exact h0
  | s _ ih => exact hd _ ih
set_option maxRecDepth 100000 in
set_option maxHeartbeats 2000000 in
theorem titer_in (lp n₀ Bn tb : Nat) (F : ByteArray) (t : Tm) (u s : Value) (J Jx : List ByteArray → World → Prop)
    (hY : ∀ pre x W, J pre W → (pre ++ [x]) <+: wk F t → YieldAt Fence.wide 1 Try.prog lp #[.string x] W fun e W' =>
      (e = .returned (.bool true) ∧ J (pre ++ [x]) W' ∧ Below n₀ W W') ∨ (e = .returned (.bool false) ∧ Jx (pre ++ [x]) W'))
    (hJd : ∀ pre X, J pre X → J pre X.drew) (W : World) (hT : TreeAt W t) (hq : ∀ q ∈ bk t, q < n₀) (hJ : J [] W) (hb : Blk W tb 86 #[u, ptT t, s]) (hc : W.cell? ⟨Bn, 0, none⟩ = some (pt tb 0)) (hc1 : W.cell? ⟨Bn + 1, 0, none⟩ = some (.string F)) :
    CallsIn Fence.wide 2 Try.prog 54 #[.func (.yield lp) #[] #[], .pointer (some ⟨Bn, 0, none⟩), .pointer (some ⟨Bn + 1, 0, none⟩)] W fun e W' =>
      (∃ v, e = .returned v) ∧ (J (wk F t) W' ∨ (∃ zs, zs ≠ [] ∧ zs <+: wk F t ∧ Jx zs W')) := by
  have d1 : W.cell? ⟨tb, 1, none⟩ = some (ptT t) := hb.cell (k := 1) rfl
  have HT := Lib.hid hT; have HQ := Lib.hid hq; have HY := Lib.hid hY; have HD := Lib.hid (hJd [])
  clear hT hq hY hb hJd
  refine callsIn_of_wp Try.func54 rfl trivial ?_ rfl
  simp only [pt] at hc
  simp only [Try.ntmps54, List.size_toArray, List.length_cons, List.length_nil, Nat.reduceAdd, Nat.reduceSub, Array.replicate_succ, Array.replicate_zero, List.push_toArray, List.append_toArray, List.nil_append, List.cons_append]
  have HW : Hid (∀ X, Dr W X → Calls Try.prog 55 #[ptT t, .string F, .func (.yield lp) #[] #[]] X fun e W' => ∃ z, e = .returned (.bool z) ∧ (J (wk F t) W' ∨ (∃ zs, zs ≠ [] ∧ zs <+: wk F t ∧ Jx zs W'))) := Lib.hid fun X hX => by
    refine ((callsIn_wide (n := 2)).1 (walk_in lp n₀ F (wk F t) J Jx HY.out t [] X (hX.tree HT.out) HQ.out (hX.ind hJ HD.out) (by simp))).mono ?_
    rintro e W1 (⟨rfl, h, _⟩ | ⟨rfl, h⟩)
    · exact ⟨_, rfl, .inl (by simpa using h)⟩
    · exact ⟨_, rfl, .inr h⟩
  gi_wp2
  refine wpIn_wide.2 ?_
  go_region_law (first | (go_simp; go_at_call 55; refine Calls.mono (HW.out _ (by repeat (first | exact Dr.o | refine Dr.s ?_))) ?_; rintro e w2 ⟨z, rfl, hr⟩; have HR := Lib.hid hr; clear hr))
  all_goals go_end0
  all_goals exact ⟨⟨_, rfl⟩, HR.out⟩
end Go.Proofs.Ytfjhlckklgeokaa
