/- Packets (from, to, body) as arguments, opened. Conditions: none. -/
import Derived.Test.YtjfnpedlegplnaaOpen
namespace Go.Proofs.Ytjfnpedlegplnaa
open Go.RowKit Go.ChangeShapes Go.WideShapes Go.Deep

abbrev PktT := Int × Int × ByteArray
def pktE (p : PktT) : List Value := [.int .i64 p.1, .int .i64 p.2.1, .string p.2.2]
def pktV (p : PktT) : Value := .agg #[.int .i64 p.1, .int .i64 p.2.1, .string p.2.2]
def pktOk (p : PktT) : Prop := (Lit.int .i64 p.1).wf = true ∧ (Lit.int .i64 p.2.1).wf = true
section
variable {H : Type} {enc : TypeId × Value → H} {w : World} {base : Nat} {spare : Nat → Bool} {held : Bool}
set_option maxRecDepth 10000 in
theorem elem_pkt (n : Nat) (cs : List Value) (x : DataW H × List MemPlace) (h : DataW.trod enc Try.prog w base spare held n 110 cs = some x) : ∃ p, cs = pktE p ∧ pktOk p := by
  obtain ⟨hl, m, hf⟩ := trod_fields Try.underlying110 (by kernel_rfl) (by kernel_rfl) h
  have hl3 : cs.length = 3 := hl
  clear hl
  match cs, hl3 with
  | [c0, c1, c2], _ =>
    obtain ⟨_, y0, e0, h0⟩ := hf 0 _ rfl
    obtain ⟨_, y1, e1, h1⟩ := hf 1 _ rfl
    obtain ⟨_, y2, e2, h2⟩ := hf 2 _ rfl
    cases e0; cases e1; cases e2
    obtain ⟨a, e0, _, w0⟩ := DataW.trod_int Try.underlying3 h0
    obtain ⟨b, e1, _, w1⟩ := DataW.trod_int Try.underlying3 h1
    obtain ⟨c, e2, _, w2⟩ := DataW.trod_string Try.underlying9 h2
    simp only [List.cons.injEq, and_true] at e0 e1 e2
    subst e0 e1 e2
    exact ⟨(a, b, c), rfl, w0, w1⟩
end
end Go.Proofs.Ytjfnpedlegplnaa
