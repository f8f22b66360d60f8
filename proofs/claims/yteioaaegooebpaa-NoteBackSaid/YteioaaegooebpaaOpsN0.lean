/- A batch that came in by value, opened. Conditions: none. -/
import Derived.Test.YteioaaegooebpaaOpsA
import Derived.Test.YteioaaegooebpaaOpen
namespace Go.Proofs.Yteioaaegooebpaa
open Go.RowKit Go.ChangeShapes Go.WideShapes Go.Deep
structure BatT where
  c : Int
  r : Int
  v : Value
  l : List OpT
def batV (b : BatT) : Value := .agg #[.int .i64 b.c, .int .i64 b.r, b.v]
def BatOk (w : World) (b : BatT) : Prop := SliceOf opE 3 w b.v b.l
section
variable {H : Type} {enc : TypeId × Value → H} {w : World} {base : Nat} {spare : Nat → Bool} {held : Bool}
set_option maxRecDepth 10000 in
theorem elem_op (n : Nat) (cs : List Value) (x : DataW H × List MemPlace) (h : DataW.trod enc Try.prog w base spare held n 86 cs = some x) : ∃ p : OpT, cs = opE p ∧ True := by
  obtain ⟨hl, m, hf⟩ := trod_fields Try.underlying86 (by kernel_rfl) (by kernel_rfl) h
  have hl3 : cs.length = 3 := hl
  clear hl
  match cs, hl3 with
  | [c0, c1, c2], _ =>
    obtain ⟨_, y0, e0, h0⟩ := hf 0 _ rfl
    obtain ⟨_, y1, e1, h1⟩ := hf 1 _ rfl
    obtain ⟨_, y2, e2, h2⟩ := hf 2 _ rfl
    cases e0; cases e1; cases e2
    obtain ⟨a, e0, _⟩ := DataW.trod_string Try.underlying9 h0
    obtain ⟨b, e1, _⟩ := DataW.trod_string Try.underlying9 h1
    obtain ⟨c, e2, _⟩ := DataW.trod_bool Try.underlying4 h2
    simp only [List.cons.injEq, and_true] at e0 e1 e2
    subst e0 e1 e2
    exact ⟨(a, b, c), rfl, trivial⟩
theorem open_ops {fuel : Nat} {cs : List Value} {x : DataW H × List MemPlace} (h : DataW.trod enc Try.prog w base spare held fuel 23 cs = some x) :
    ∃ (l : List OpT) (v : Value), cs = [v] ∧ SliceOf opE 3 w v l ∧ ∀ p ∈ l, True :=
  open_rows opE 3 (fun _ => True) Try.underlying23 (by kernel_rfl) (by omega) elem_op h
set_option maxRecDepth 10000 in
theorem open_bat {W0 : World} {base b0 : Nat} {spare : Nat → Bool} {held : Bool} {r : Reach} {v : Value} {n : Nat} {x : DataW H × List MemPlace}
    (hv : Value.okWide Try.prog w r b0 31 v) (h : DataW.trod enc Try.prog W0 base spare held n 31 v.cells.toList = some x) :
    ∃ c : BatT, v = batV c ∧ BatOk W0 c := by
  obtain ⟨cs, rfl, hsz⟩ := okWide_struct Try.underlying31 hv
  obtain ⟨hl, m, hf⟩ := trod_fields Try.underlying31 (by kernel_rfl) (by kernel_rfl) h
  have hl3 : cs.toList.length = 3 := hl
  clear hl
  obtain ⟨cl⟩ := cs
  simp only [Value.cells] at hf
  match cl, hl3 with
  | [c0, c1, c2], _ =>
    obtain ⟨_, y0, e0, h0⟩ := hf 0 _ rfl
    obtain ⟨_, y1, e1, h1⟩ := hf 1 _ rfl
    obtain ⟨_, y2, e2, h2⟩ := hf 2 _ rfl
    cases e0; cases e1; cases e2
    obtain ⟨a, e0, _⟩ := DataW.trod_int Try.underlying3 h0
    obtain ⟨b, e1, _⟩ := DataW.trod_int Try.underlying3 h1
    obtain ⟨l, u, e2, hs, _⟩ := open_ops h2
    simp only [List.cons.injEq, and_true] at e0 e1 e2
    subst e0 e1 e2
    exact ⟨⟨a, b, _, l⟩, rfl, hs⟩
end
end Go.Proofs.Yteioaaegooebpaa
