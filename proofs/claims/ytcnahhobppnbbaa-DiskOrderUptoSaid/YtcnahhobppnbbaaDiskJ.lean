/- Acts that came in; DiskSafe over them. Conditions: texts of at most 1048576 bytes. -/
import Derived.Test.YtcnahhobppnbbaaDiskH
import Derived.Test.YtcnahhobppnbbaaParts
namespace Go.Proofs.Ytcnahhobppnbbaa
open Go.RowKit Go.ChangeShapes Go.WideShapes Go.Deep

structure ActOkm (m : Nat) (a : ActT) : Prop where
  f : -9223372036854775808 ≤ a.2.1 ∧ a.2.1 ≤ 9223372036854775807
  s : a.2.2.1.size ≤ m
  n : -9223372036854775808 ≤ a.2.2.2 ∧ a.2.2.2 ≤ 9223372036854775807
theorem ActOkm.mono {m k : Nat} {a : ActT} (h : m ≤ k) (ha : ActOkm m a) : ActOkm k a := ⟨ha.f, Nat.le_trans ha.s h, ha.n⟩
theorem acts_ok {m : Nat} {l : List ActT} (h : ∀ a ∈ l, ActOkm m a) (hm : m ≤ 1048576) : ∀ z ∈ l, actOk z := fun z hz => ⟨(h z hz).f, Nat.le_trans (h z hz).s hm, (h z hz).n⟩
section
variable {H : Type} {enc : TypeId × Value → H} {w : World} {base : Nat} {spare : Nat → Bool} {held : Bool}
set_option maxRecDepth 10000 in
theorem elem_act (n : Nat) (cs : List Value) (x : DataW H × List MemPlace) (h : DataW.trod enc Try.prog w base spare held n 29 cs = some x) : ∃ p, cs = actE p ∧ ActOkm (Rows.uptoBulk x.1) p := by
  obtain ⟨xs, m, _, hx, hl, hxl, hf⟩ := DataW.trod_struct Try.underlying29 h
  have hl4 : cs.length = 4 := hl
  have hx4 : xs.length = 4 := hxl
  clear hl hxl
  match cs, hl4, xs, hx4 with
  | [c0, c1, c2, c3], _, [x0, x1, x2, x3], _ =>
    have h0 := hf 0 _ rfl
    have h1 := hf 1 _ rfl
    have h2 := hf 2 _ rfl
    have h3 := hf 3 _ rfl
    have h0' : DataW.trod enc Try.prog w base spare held m 3 [c0] = some x0 := h0
    have h1' : DataW.trod enc Try.prog w base spare held m 3 [c1] = some x1 := h1
    have h2' : DataW.trod enc Try.prog w base spare held m 9 [c2] = some x2 := h2
    have h3' : DataW.trod enc Try.prog w base spare held m 3 [c3] = some x3 := h3
    obtain ⟨a, e0, _, w0⟩ := DataW.trod_int Try.underlying3 h0'
    obtain ⟨b, e1, _, w1⟩ := DataW.trod_int Try.underlying3 h1'
    obtain ⟨d, e2, y2, w2⟩ := DataW.trod_string Try.underlying9 h2'
    obtain ⟨c, e3, _, w3⟩ := DataW.trod_int Try.underlying3 h3'
    simp only [List.cons.injEq, and_true] at e0 e1 e2 e3
    subst e0 e1 e2 e3
    refine ⟨(a, b, d, c), rfl, ⟨wf_i64 w1, ?_, wf_i64 w3⟩⟩
    rw [hx]
    simp only [List.map_cons, List.map_nil]
    rw [y2]
    simp [Rows.uptoBulk, Rows.uptoBulkAll]
    omega
theorem open_acts {fuel : Nat} {cs : List Value} {x : DataW H × List MemPlace} (h : DataW.trod enc Try.prog w base spare held fuel 22 cs = some x) :
    ∃ (l : List ActT) (v : Value), cs = [v] ∧ SliceOf actE 4 w v l ∧ ∀ p ∈ l, ActOkm (Rows.uptoBulk x.1) p :=
  open_rows_bulk actE 4 ActOkm (fun _ _ _ h => ActOkm.mono h) Try.underlying22 (by kernel_rfl) (by omega) elem_act h
end
theorem diskSafe_c {m1 m2 : Nat} (v1 : Value) (l1 : List ActT) (v2 : Value) (l2 : List ActT) (n : Int) (w : World) (s1 : SliceOf actE 4 w v1 l1) (g1 : ∀ z ∈ l1, ActOkm m1 z) (s2 : SliceOf actE 4 w v2 l2) (g2 : ∀ z ∈ l2, ActOkm m2 z) (hn : (Lit.int .i64 n).wf = true) (b1 : m1 ≤ 1048576) (b2 : m2 ≤ 1048576) :
    Calls Try.prog 4 #[v1, v2, .int .i64 n] w fun e w' => e = .returned (.bool true) ∧ Below w.heap.size w w' :=
  diskSafe_law v1 l1 v2 l2 n w s1 (acts_ok g1 b1) s2 (acts_ok g2 b2) (wf_i64 hn)
end Go.Proofs.Ytcnahhobppnbbaa
