/- Five numbers that came in by value; BoundMore over what is opened. Conditions: none. -/
import Derived.Test.YtjiipmehgcnaeaaBoundF
import Derived.OpenShut
namespace Go.Proofs.Ytjiipmehgcnaeaa
open Go.RowKit Go.ChangeShapes Go.WideShapes Go.Deep

theorem okWide_arr {P : Program} {w : World} {r : Reach} {base n : Nat} {e t : TypeId} {v : Value} (ht : P.underlying t = some (.array n e)) (h : Value.okWide P w r base t v) : ∃ cs, v = .agg cs ∧ cs.size = P.cellsOf t := by
  simp only [Value.okWide, ht] at h
  obtain ⟨cs, h1, h2, _⟩ := h
  exact ⟨cs, h1, h2⟩
structure T5 where
  a : Int
  b : Int
  c : Int
  d : Int
  e : Int
def a5V (x : T5) : Value := .agg #[.int .u64 x.a, .int .u64 x.b, .int .u64 x.c, .int .u64 x.d, .int .u64 x.e]
set_option maxRecDepth 10000 in
theorem open_a5 {H : Type} {enc : TypeId × Value → H} {w W0 : World} {base b0 : Nat} {spare : Nat → Bool} {held : Bool} {r : Reach} {v : Value} {n : Nat} {x : DataW H × List MemPlace}
    (hv : Value.okWide Try.prog w r b0 79 v) (h : DataW.trod enc Try.prog W0 base spare held n 79 v.cells.toList = some x) :
    ∃ c : T5, v = a5V c ∧ True := by
  obtain ⟨cs, rfl, hsz⟩ := okWide_arr Try.underlying79 hv
  obtain ⟨xs, m, _, _, hl, hxl, hf⟩ := DataW.trod_array Try.underlying79 h
  have hl5 : cs.toList.length = 5 := hl
  have hc : Try.prog.cellsOf 48 = 1 := by kernel_rfl
  rw [hc] at hf
  obtain ⟨l, hcs⟩ : ∃ l, l = cs.toList := ⟨_, rfl⟩
  have e0 : (Value.agg cs).cells.toList = l := by rw [hcs]; rfl
  rw [e0] at hf
  rw [← hcs] at hl5
  match l, hl5, xs, hxl with
  | [c0, c1, c2, c3, c4], _, [x0, x1, x2, x3, x4], _ =>
    have h0 : DataW.trod enc Try.prog W0 base spare held m 48 [c0] = some x0 := hf 0 (by omega)
    have h1 : DataW.trod enc Try.prog W0 base spare held m 48 [c1] = some x1 := hf 1 (by omega)
    have h2 : DataW.trod enc Try.prog W0 base spare held m 48 [c2] = some x2 := hf 2 (by omega)
    have h3 : DataW.trod enc Try.prog W0 base spare held m 48 [c3] = some x3 := hf 3 (by omega)
    have h4 : DataW.trod enc Try.prog W0 base spare held m 48 [c4] = some x4 := hf 4 (by omega)
    obtain ⟨a, e0, _, _⟩ := DataW.trod_int Try.underlying48 h0
    obtain ⟨b, e1, _, _⟩ := DataW.trod_int Try.underlying48 h1
    obtain ⟨c, e2, _, _⟩ := DataW.trod_int Try.underlying48 h2
    obtain ⟨d, e3, _, _⟩ := DataW.trod_int Try.underlying48 h3
    obtain ⟨f, e4, _, _⟩ := DataW.trod_int Try.underlying48 h4
    simp only [List.cons.injEq, and_true] at e0 e1 e2 e3 e4
    subst e0 e1 e2 e3 e4
    refine ⟨⟨a, b, c, d, f⟩, ?_, trivial⟩
    rw [show cs = (cs.toList).toArray by simp, ← hcs]; rfl
theorem boundMore_law (v : Value) (l : List EntT) (n m : Int) (c : T5) (w : World) (hs : SliceOf entE 4 w v l) (hok : ∀ e ∈ l, EntOk w e) (hn : (Lit.int .u8 n).wf = true) (hm : (Lit.int .u8 m).wf = true) (_ : True) :
    Calls Try.prog 8 #[v, .int .u8 n, .int .u8 m, a5V c] w fun e w' => e = .returned (.bool true) ∧ Below w.heap.size w w' :=
  boundMore_any v l n m c.a c.b c.c c.d c.e w hs hok (wf_u8 hn) (wf_u8 hm)
end Go.Proofs.Ytjiipmehgcnaeaa
