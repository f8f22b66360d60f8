/- Package ops: sorting by keys; what a sorted list is. Conditions: none. -/
import Derived.Test.YteioaaegooebpaaOpsE
namespace Go.Proofs.Yteioaaegooebpaa
open Go.RowKit Go.PlainAid
set_option linter.unusedVariables false

open Go.Sort Go.Shelf Go.Lib

theorem cb_lt : ∀ x y : List UInt8, decide (Lib.compareBytes x y < 0) = decide (x < y)
  | [], [] => by simp [Lib.compareBytes]
  | [], _ :: _ => by simp [Lib.compareBytes]
  | _ :: _, [] => by simp [Lib.compareBytes]
  | a :: x, b :: y => by
    have ih := cb_lt x y
    unfold Lib.compareBytes
    by_cases h1 : a < b
    · rw [if_pos h1]; simp [List.cons_lt_cons_iff, h1]
    · rw [if_neg h1]
      by_cases h2 : b < a
      · have h3 : ¬ a = b := fun e => by subst e; exact h1 h2
        rw [if_pos h2]; simp [List.cons_lt_cons_iff, h1, h3]
      · have h3 : a = b := UInt8.le_antisymm (UInt8.not_lt.1 h2) (UInt8.not_lt.1 h1)
        rw [if_neg h2, ih]; subst h3; simp [List.cons_lt_cons_iff, h1]
theorem lt_V (x y : ValT) : ltOf cfV x y = decide (kB x.1 < kB y.1) := by unfold ltOf cfV; exact cb_lt _ _
theorem lt_O (x y : OpT) : ltOf cfO x y = decide (kB x.1 < kB y.1) := by unfold ltOf cfO; exact cb_lt _ _

theorem swo_V : SWO (ltOf cfV) where
  irrefl x := by rw [lt_V]; simp
  trans x y z h1 h2 := by rw [lt_V, decide_eq_true_eq] at *; exact List.lt_trans h1 h2
  ntrans x y z h1 h2 := by
    rw [lt_V, decide_eq_false_iff_not] at *
    exact List.not_lt.2 (List.le_trans (List.not_lt.1 h2) (List.not_lt.1 h1))
theorem sort_V {base : Nat} {e : TypeId} (v : Value) (l : List ValT) (w : World) (h : w.ownsRow base e 2 v l.length (l.flatMap valE)) (hn : v ≠ .slice none 0 0) (hl : l.length < 4611686018427387904) :
    Calls Try.prog 99 #[v, .func (.func 51) #[] #[]] w fun e1 w' => e1 = .returned (.tuple #[]) ∧ ∃ l' : List ValT, l'.Perm l ∧ SortedL (ltOf cfV) l' ∧ w'.ownsRow base e 2 v l'.length (l'.flatMap valE) ∧ w.grownBy w' v.ownBlock :=
  sort_row valE_len h hn (fun g cap hH hg => AnyQ.slices_SortFunc Try.sortV 2 Try.isAgg90 Try.sizeOf90 valE valE_len valE_one cfV swo_V 51 #[] g 0 cap l.toArray w (enters_of Try.func51 (by kernel_rfl) rfl) (fun _ _ _ _ x y => against_v x y _) hH hg (by simpa using hl))

theorem swo_O : SWO (ltOf cfO) where
  irrefl x := by rw [lt_O]; simp
  trans x y z h1 h2 := by rw [lt_O, decide_eq_true_eq] at *; exact List.lt_trans h1 h2
  ntrans x y z h1 h2 := by
    rw [lt_O, decide_eq_false_iff_not] at *
    exact List.not_lt.2 (List.le_trans (List.not_lt.1 h2) (List.not_lt.1 h1))
theorem sort_O {base : Nat} {e : TypeId} (v : Value) (l : List OpT) (w : World) (h : w.ownsRow base e 3 v l.length (l.flatMap opE)) (hn : v ≠ .slice none 0 0) (hl : l.length < 4611686018427387904) :
    Calls Try.prog 101 #[v, .func (.func 53) #[] #[]] w fun e1 w' => e1 = .returned (.tuple #[]) ∧ ∃ l' : List OpT, l'.Perm l ∧ SortedL (ltOf cfO) l' ∧ w'.ownsRow base e 3 v l'.length (l'.flatMap opE) ∧ w.grownBy w' v.ownBlock :=
  sort_row opE_len h hn (fun g cap hH hg => AnyQ.slices_SortFunc Try.sortO 3 Try.isAgg96 Try.sizeOf96 opE opE_len opE_one cfO swo_O 53 #[] g 0 cap l.toArray w (enters_of Try.func53 (by kernel_rfl) rfl) (fun _ _ _ _ x y => against_o x y _) hH hg (by simpa using hl))

/-- ys rises by its keys and holds just what g has. -/
def SetG {V : Type} (key : V → ByteArray) (g : ByteArray → Option V) (ys : List V) : Prop := ys.Pairwise (fun a b => kB (key a) < kB (key b)) ∧ ∀ y, y ∈ ys ↔ ∃ k, g k = some y
theorem setG_of {V : Type} {key : V → ByteArray} {g : ByteArray → Option V} {lt : List (ByteArray × V)} {ss ys : List V} {lo : V → V → Bool} (hlo : ∀ x y, lo x y = decide (kB (key x) < kB (key y))) (hf : Full g lt) (hk : ∀ k v, g k = some v → key v = k) (hp : ss.Perm (lt.map (·.2))) (hy : ys.Perm ss) (hs : SortedL lo ys) : SetG key g ys := by
  have hyl := hy.trans hp
  have hmem : ∀ y, y ∈ ys ↔ ∃ k, g k = some y := fun y => by
    rw [hyl.mem_iff, List.mem_map]
    constructor
    · rintro ⟨p, hp, rfl⟩; exact ⟨p.1, (hf.2 _ _).2 hp⟩
    · rintro ⟨k, h⟩; exact ⟨(k, y), (hf.2 _ _).1 h, rfl⟩
  refine ⟨?_, hmem⟩
  have e1 : (lt.map (·.2)).map key = lt.map (·.1) := by
    rw [List.map_map]
    apply List.map_congr_left
    intro p hp
    exact hk _ _ ((hf.2 p.1 p.2).2 hp)
  have hnd : (ys.map key).Nodup := (hyl.map key).nodup_iff.2 (by rw [e1]; exact hf.1)
  have hne : ys.Pairwise fun a b => key a ≠ key b := List.pairwise_map.1 hnd
  refine List.Pairwise.imp₂ (fun {a b} h1 h2 => ?_) hs hne
  rw [hlo, decide_eq_false_iff_not] at h1
  rcases List.le_iff_lt_or_eq.1 (List.not_lt.1 h1) with h | h
  · exact h
  · exact absurd (by apply ByteArray.ext; apply Array.toList_inj.1; exact h) h2
theorem perm_step {V : Type} {K : Type} {ss : List V} {l1 l2 : List (K × V)} {p : K × V} {r : List V} (h : (ss ++ (l1 ++ p :: l2).map (·.2)).Perm r) : (ss ++ [p.2] ++ (l1 ++ l2).map (·.2)).Perm r := by
  refine List.Perm.trans ?_ h
  rw [List.append_assoc, List.map_append, List.map_append, List.map_cons]
  refine List.Perm.append_left ss ?_
  exact (List.perm_middle (l₁ := l1.map (·.2)) (l₂ := l2.map (·.2)) (a := p.2)).symm

end Go.Proofs.Yteioaaegooebpaa
