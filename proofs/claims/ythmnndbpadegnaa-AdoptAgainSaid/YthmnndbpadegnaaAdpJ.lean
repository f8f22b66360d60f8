/- catenalaw18: as they are asked. Conditions: none. -/
import Derived.Test.YthmnndbpadegnaaAdpH
import Derived.Test.YthmnndbpadegnaaOpen
namespace Go.Proofs.Ythmnndbpadegnaa
open Go.RowKit
section
variable {H : Type} {enc : TypeId × Value → H} {w : World} {base : Nat} {spare : Nat → Bool} {held : Bool}
theorem wf_u8J {b : Int} (h : (Lit.int .u8 b).wf = true) : 0 ≤ b ∧ b ≤ 255 := by
  unfold Lit.wf at h
  rw [Bool.and_eq_true, decide_eq_true_eq, decide_eq_true_eq] at h
  have e1 : IntKind.min .u8 = 0 := by decide
  have e2 : IntKind.max .u8 = 255 := by decide
  rw [e1, e2] at h
  exact h
theorem open_u8J {fuel : Nat} {cs : List Value} {x : DataW H × List MemPlace} (h : DataW.trod enc Try.prog w base spare held fuel 79 cs = some x) :
    ∃ (l : List Int) (v : Value), cs = [v] ∧ SliceOf (intE .u8) 1 w v l ∧ ∀ z ∈ l, 0 ≤ z ∧ z ≤ 255 :=
  open_rows (intE .u8) 1 _ Try.underlying79 (by kernel_rfl) (by omega) (fun n cs x h => by
    obtain ⟨a, e, _, hw⟩ := DataW.trod_int Try.underlying5 h
    exact ⟨a, e, wf_u8J hw⟩) h
end
theorem adoptAll_l (v : Value) (l : List EntT) (v2 : Value) (l2 : List EntT) (p : Value) (pl : List Int) (w : World) (hs : SliceOf entE 4 w v l) (g : (∀ z ∈ l, EntOkS w z) ∧ l.length ≤ 2932031007403) (hs2 : SliceOf entE 4 w v2 l2) (g2 : (∀ z ∈ l2, EntOkS w z) ∧ l2.length ≤ 2932031007403) (hp : SliceOf (intE .u8) 1 w p pl) (gp : ∀ z ∈ pl, 0 ≤ z ∧ z ≤ 255) :
    Calls Try.prog 9 #[v, v2, p] w fun e w' => e = .returned (.bool true) ∧ Below w.heap.size w w' :=
  adoptAll_law v l v2 l2 p pl w hs g.1 hs2 g2.1 g.2 g2.2 hp gp
theorem adoptAgain_l (v : Value) (l : List EntT) (v2 : Value) (l2 : List EntT) (a : Int) (w : World) (hs : SliceOf entE 4 w v l) (g : (∀ z ∈ l, EntOkS w z) ∧ l.length ≤ 2932031007403) (hs2 : SliceOf entE 4 w v2 l2) (g2 : (∀ z ∈ l2, EntOkS w z) ∧ l2.length ≤ 2932031007403) (ha : (Lit.int .u8 a).wf = true) :
    Calls Try.prog 10 #[v, v2, .int .u8 a] w fun e w' => e = .returned (.bool true) ∧ Below w.heap.size w w' :=
  adoptAgain_law v l v2 l2 a w hs g.1 hs2 g2.1 g.2 g2.2 (wf_u8J ha)
end Go.Proofs.Ythmnndbpadegnaa
