/- Configurations and members that came in by value, opened. Conditions: none. -/
import Derived.Test.YtcnahhobppnbbaaConfA
import Derived.Test.YtcnahhobppnbbaaOpen
namespace Go.Proofs.Ytcnahhobppnbbaa
open Go.RowKit Go.ChangeShapes Go.WideShapes Go.Deep
section
variable {H : Type} {enc : TypeId × Value → H} {w : World} {base : Nat} {spare : Nat → Bool} {held : Bool}
set_option maxRecDepth 10000 in
theorem elem_mem (n : Nat) (cs : List Value) (x : DataW H × List MemPlace) (h : DataW.trod enc Try.prog w base spare held n 114 cs = some x) : ∃ p, cs = memE p ∧ memOk p := by
  obtain ⟨hl, m, hf⟩ := trod_fields Try.underlying114 (by kernel_rfl) (by kernel_rfl) h
  have hl2 : cs.length = 2 := hl
  clear hl
  match cs, hl2 with
  | [c0, c1], _ =>
    obtain ⟨_, y0, e0, h0⟩ := hf 0 _ rfl
    obtain ⟨_, y1, e1, h1⟩ := hf 1 _ rfl
    cases e0; cases e1
    obtain ⟨a, e0, _, w0⟩ := DataW.trod_int Try.underlying3 h0
    obtain ⟨b, e1, _, w1⟩ := DataW.trod_int Try.underlying3 h1
    simp only [List.cons.injEq, and_true] at e0 e1
    subst e0 e1
    exact ⟨(a, b), rfl, wf_i64 w0, wf_i64 w1⟩
theorem open_mems {fuel : Nat} {cs : List Value} {x : DataW H × List MemPlace} (h : DataW.trod enc Try.prog w base spare held fuel 89 cs = some x) :
    ∃ (l : List MemT) (v : Value), cs = [v] ∧ SliceOf memE 2 w v l ∧ ∀ p ∈ l, memOk p :=
  open_rows memE 2 memOk Try.underlying89 (by kernel_rfl) (by omega) elem_mem h
set_option maxRecDepth 10000 in
theorem elem_conf (n : Nat) (cs : List Value) (x : DataW H × List MemPlace) (h : DataW.trod enc Try.prog w base spare held n 91 cs = some x) : ∃ c : ConfT, cs = confE c ∧ ConfOk w c := by
  obtain ⟨hl, m, hf⟩ := trod_fields Try.underlying91 (by kernel_rfl) (by kernel_rfl) h
  have hl3 : cs.length = 3 := hl
  clear hl
  match cs, hl3 with
  | [c0, c1, c2], _ =>
    obtain ⟨_, y0, e0, h0⟩ := hf 0 _ rfl
    obtain ⟨_, y1, e1, h1⟩ := hf 1 _ rfl
    obtain ⟨_, y2, e2, h2⟩ := hf 2 _ rfl
    cases e0; cases e1; cases e2
    obtain ⟨a, e0, _, w0⟩ := DataW.trod_int Try.underlying3 h0
    obtain ⟨l, v, e1, hs, hall⟩ := open_mems h1
    obtain ⟨b, e2, _, w2⟩ := DataW.trod_int Try.underlying61 h2
    simp only [List.cons.injEq, and_true] at e0 e1 e2
    subst e0 e1 e2
    have k0 := wf_i64 w0; have k2 := wf_u64 w2
    exact ⟨⟨a, c1, l, b⟩, rfl, ⟨hs, hall, k0.1, k0.2, k2.1, k2.2⟩⟩
end
set_option maxRecDepth 10000 in
theorem open_conf {H : Type} {enc : TypeId × Value → H} {w W0 : World} {base b0 : Nat} {spare : Nat → Bool} {held : Bool} {r : Reach} {v : Value} {n : Nat} {x : DataW H × List MemPlace}
    (hv : Value.okWide Try.prog w r b0 91 v) (h : DataW.trod enc Try.prog W0 base spare held n 91 v.cells.toList = some x) :
    ∃ c : ConfT, v = confV c ∧ ConfOk W0 c := by
  obtain ⟨cs, rfl, hsz⟩ := okWide_struct Try.underlying91 hv
  obtain ⟨c, hc, hok⟩ := elem_conf _ _ _ h
  refine ⟨c, ?_, hok⟩
  have : cs.toList = confE c := hc
  rw [show cs = (confE c).toArray by rw [← this]]; rfl
set_option maxRecDepth 10000 in
theorem open_mem {H : Type} {enc : TypeId × Value → H} {w W0 : World} {base b0 : Nat} {spare : Nat → Bool} {held : Bool} {r : Reach} {v : Value} {n : Nat} {x : DataW H × List MemPlace}
    (hv : Value.okWide Try.prog w r b0 114 v) (h : DataW.trod enc Try.prog W0 base spare held n 114 v.cells.toList = some x) :
    ∃ c : MemT, v = memV c ∧ memOk c := by
  obtain ⟨cs, rfl, hsz⟩ := okWide_struct Try.underlying114 hv
  obtain ⟨c, hc, hok⟩ := elem_mem _ _ _ h
  refine ⟨c, ?_, hok⟩
  have : cs.toList = memE c := hc
  rw [show cs = (memE c).toArray by rw [← this]]; rfl
end Go.Proofs.Ytcnahhobppnbbaa
