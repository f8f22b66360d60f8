/- Put together: Open, OpsN0, ConfJ, NoteJ. Conditions: as each says. -/
import Derived.Test.YteioaaegooebpaaGreatSl
import Derived.ProofKit
import Derived.Deep.Slices
import Derived.Deep.Fields
import Derived.Test.YteioaaegooebpaaGreatOpsANp
import Derived.Test.YteioaaegooebpaaGreatConfA
import Derived.Test.YteioaaegooebpaaGreatNp4
/- Slices of any elements that came in, opened by their readings. Conditions: none. -/
namespace Go.Proofs.YteioaaegooebpaaGreat
open Go.RowKit Go.ChangeShapes Go.WideShapes Go.Deep

section
variable {H : Type} {enc : TypeId × Value → H} {P : Program} {w : World} {base : Nat} {spare : Nat → Bool} {held : Bool}
theorem open_rows {α : Type} [Inhabited α] {t e : TypeId} {fuel : Nat} {cs : List Value} {x : DataW H × List MemPlace} (E : α → List Value) (sz : Nat) (good : α → Prop)
    (ht : P.underlying t = some (.slice e)) (hC : P.cellsOf e = sz) (hpos : 0 < sz)
    (elem : ∀ n cs x, DataW.trod enc P w base spare held n e cs = some x → ∃ a : α, cs = E a ∧ good a)
    (h : DataW.trod enc P w base spare held fuel t cs = some x) :
    ∃ (l : List α) (v : Value), cs = [v] ∧ SliceOf E sz w v l ∧ ∀ a ∈ l, good a := by
  rcases open_slice ht h with ⟨hcs, _⟩ | ⟨a, len, cap, m, n, D, Pl, hcs, _, hl, hm, hmm, _, hi⟩
  · exact ⟨[], _, hcs, SliceOf.nil _ _ _, by simp⟩
  · have hlm : len ≤ m := by rw [hmm]; split <;> omega
    rw [hC] at hi
    obtain ⟨f, hf⟩ := choose_lt (α := α) (n := len) (p := fun i y => (∀ j u, (E y)[j]? = some u → w.cell? ((a.add (i * sz)).add j) = some u) ∧ good y ∧ (E y).length = sz) (fun i hilt => by
      obtain ⟨cs', hc, ht'⟩ := hi i (by omega)
      obtain ⟨y, rfl, hg⟩ := elem n cs' _ ht'
      obtain ⟨_, hcl, hat⟩ := World.cells?_some hc
      exact ⟨y, fun j u hu => by
        have hj : j < (E y).length := (List.getElem?_eq_some_iff.1 hu).1
        rw [hat j (by omega), hu], hg, hcl⟩)
    refine ⟨(List.range len).map f, _, hcs, ⟨some a, cap, by simp, by simpa using hl, by unfold maxLen at hm; omega, fun h => (by cases h), fun j hj => ?_⟩, fun y hy => ?_⟩
    · have hj' : j < len := by simpa using hj
      obtain ⟨b, off, spot⟩ := a
      have hspot : spot = none := by
        obtain ⟨h1, _, h3⟩ := hf 0 (by omega)
        have hc0 := h1 0 _ (List.getElem?_eq_getElem (show 0 < (E (f 0)).length by omega))
        simpa [Addr.add] using World.cell?_spot hc0
      subst hspot
      refine ⟨b, off, rfl, fun i u hu => ?_⟩
      have := (hf j hj').1 i u (by simpa using hu)
      rw [Addr.add_lit, Addr.add_lit] at this
      exact this
    · obtain ⟨i, hi', rfl⟩ := List.mem_map.1 hy
      exact (hf i (List.mem_range.1 hi')).2.1
/-- A struct of one-cell fields: each field's cell, and its reading. -/
theorem trod_fields {t : TypeId} {fs : Array Field} {fuel : Nat} {cs : List Value} {x : DataW H × List MemPlace} (hs : P.underlying t = some (.struct fs)) (hone : oneCellFields P fs = true) (hC : P.cellsOf t = fs.size)
    (h : DataW.trod enc P w base spare held fuel t cs = some x) :
    cs.length = fs.size ∧ ∃ m, ∀ (j : Nat) (f : Field), fs[j]? = some f → ∃ c y, cs[j]? = some c ∧ DataW.trod enc P w base spare held m f.type [c] = some y := by
  obtain ⟨xs, m, _, _, hl, hx, hf⟩ := DataW.trod_struct hs h
  rw [hC] at hl
  refine ⟨hl, m, fun j f hj => ?_⟩
  have hjl : j < fs.size := (Array.getElem?_eq_some_iff.1 hj).1
  obtain ⟨o, k⟩ := hone_of hone j f hj
  have h1 := hf j f hj
  rw [o, k, List.drop_eq_getElem_cons (by omega), List.take_succ_cons, List.take_zero, List.getElem?_eq_getElem (by omega)] at h1
  exact ⟨_, _, List.getElem?_eq_getElem (by omega), h1⟩
end
end Go.Proofs.YteioaaegooebpaaGreat

/- A batch that came in by value, opened. Conditions: none. -/
namespace Go.Proofs.YteioaaegooebpaaGreat
open Go.RowKit Go.ChangeShapes Go.WideShapes Go.Deep
structure BatT where
  c : Int
  r : Int
  v : Value
  l : List OpT
def batV (b : BatT) : Value := .agg #[.int .i64 b.c, .int .i64 b.r, b.v]
def BatOk (w : World) (b : BatT) : Prop := SliceOf opE 3 w b.v b.l
section
variable {H : Type} {enc : TypeId × Value → H} {w : World} {base : Nat} {spare : Nat → Bool} {held : Bool}
set_option maxRecDepth 10000 in
theorem elem_op (n : Nat) (cs : List Value) (x : DataW H × List MemPlace) (h : DataW.trod enc Tryz.prog w base spare held n 159 cs = some x) : ∃ p : OpT, cs = opE p ∧ True := by
  obtain ⟨hl, m, hf⟩ := trod_fields Tryz.underlying159 (by kernel_rfl) (by kernel_rfl) h
  have hl3 : cs.length = 3 := hl
  clear hl
  match cs, hl3 with
  | [c0, c1, c2], _ =>
    obtain ⟨_, y0, e0, h0⟩ := hf 0 _ rfl
    obtain ⟨_, y1, e1, h1⟩ := hf 1 _ rfl
    obtain ⟨_, y2, e2, h2⟩ := hf 2 _ rfl
    cases e0; cases e1; cases e2
    obtain ⟨a, e0, _⟩ := DataW.trod_string Tryz.underlying9 h0
    obtain ⟨b, e1, _⟩ := DataW.trod_string Tryz.underlying9 h1
    obtain ⟨c, e2, _⟩ := DataW.trod_bool Tryz.underlying4 h2
    simp only [List.cons.injEq, and_true] at e0 e1 e2
    subst e0 e1 e2
    exact ⟨(a, b, c), rfl, trivial⟩
theorem open_ops {fuel : Nat} {cs : List Value} {x : DataW H × List MemPlace} (h : DataW.trod enc Tryz.prog w base spare held fuel 27 cs = some x) :
    ∃ (l : List OpT) (v : Value), cs = [v] ∧ SliceOf opE 3 w v l ∧ ∀ p ∈ l, True :=
  open_rows opE 3 (fun _ => True) Tryz.underlying27 (by kernel_rfl) (by omega) elem_op h
set_option maxRecDepth 10000 in
theorem open_bat {W0 : World} {base b0 : Nat} {spare : Nat → Bool} {held : Bool} {r : Reach} {v : Value} {n : Nat} {x : DataW H × List MemPlace}
    (hv : Value.okWide Tryz.prog w r b0 29 v) (h : DataW.trod enc Tryz.prog W0 base spare held n 29 v.cells.toList = some x) :
    ∃ c : BatT, v = batV c ∧ BatOk W0 c := by
  obtain ⟨cs, rfl, hsz⟩ := okWide_struct Tryz.underlying29 hv
  obtain ⟨hl, m, hf⟩ := trod_fields Tryz.underlying29 (by kernel_rfl) (by kernel_rfl) h
  have hl3 : cs.toList.length = 3 := hl
  clear hl
  obtain ⟨cl⟩ := cs
  simp only [Value.cells] at hf
  match cl, hl3 with
  | [c0, c1, c2], _ =>
    obtain ⟨_, y0, e0, h0⟩ := hf 0 _ rfl
    obtain ⟨_, y1, e1, h1⟩ := hf 1 _ rfl
    obtain ⟨_, y2, e2, h2⟩ := hf 2 _ rfl
    cases e0; cases e1; cases e2
    obtain ⟨a, e0, _⟩ := DataW.trod_int Tryz.underlying3 h0
    obtain ⟨b, e1, _⟩ := DataW.trod_int Tryz.underlying3 h1
    obtain ⟨l, u, e2, hs, _⟩ := open_ops h2
    simp only [List.cons.injEq, and_true] at e0 e1 e2
    subst e0 e1 e2
    exact ⟨⟨a, b, _, l⟩, rfl, hs⟩
end
end Go.Proofs.YteioaaegooebpaaGreat

/- Configurations and members that came in by value, opened. Conditions: none. -/
namespace Go.Proofs.YteioaaegooebpaaGreat
open Go.RowKit Go.ChangeShapes Go.WideShapes Go.Deep
section
variable {H : Type} {enc : TypeId × Value → H} {w : World} {base : Nat} {spare : Nat → Bool} {held : Bool}
set_option maxRecDepth 10000 in
theorem elem_mem (n : Nat) (cs : List Value) (x : DataW H × List MemPlace) (h : DataW.trod enc Tryz.prog w base spare held n 154 cs = some x) : ∃ p, cs = memE p ∧ memOk p := by
  obtain ⟨hl, m, hf⟩ := trod_fields Tryz.underlying154 (by kernel_rfl) (by kernel_rfl) h
  have hl2 : cs.length = 2 := hl
  clear hl
  match cs, hl2 with
  | [c0, c1], _ =>
    obtain ⟨_, y0, e0, h0⟩ := hf 0 _ rfl
    obtain ⟨_, y1, e1, h1⟩ := hf 1 _ rfl
    cases e0; cases e1
    obtain ⟨a, e0, _, w0⟩ := DataW.trod_int Tryz.underlying3 h0
    obtain ⟨b, e1, _, w1⟩ := DataW.trod_int Tryz.underlying3 h1
    simp only [List.cons.injEq, and_true] at e0 e1
    subst e0 e1
    exact ⟨(a, b), rfl, wf_i64 w0, wf_i64 w1⟩
theorem open_mems {fuel : Nat} {cs : List Value} {x : DataW H × List MemPlace} (h : DataW.trod enc Tryz.prog w base spare held fuel 24 cs = some x) :
    ∃ (l : List MemT) (v : Value), cs = [v] ∧ SliceOf memE 2 w v l ∧ ∀ p ∈ l, memOk p :=
  open_rows memE 2 memOk Tryz.underlying24 (by kernel_rfl) (by omega) elem_mem h
set_option maxRecDepth 10000 in
theorem elem_conf (n : Nat) (cs : List Value) (x : DataW H × List MemPlace) (h : DataW.trod enc Tryz.prog w base spare held n 26 cs = some x) : ∃ c : ConfT, cs = confE c ∧ ConfOk w c := by
  obtain ⟨hl, m, hf⟩ := trod_fields Tryz.underlying26 (by kernel_rfl) (by kernel_rfl) h
  have hl3 : cs.length = 3 := hl
  clear hl
  match cs, hl3 with
  | [c0, c1, c2], _ =>
    obtain ⟨_, y0, e0, h0⟩ := hf 0 _ rfl
    obtain ⟨_, y1, e1, h1⟩ := hf 1 _ rfl
    obtain ⟨_, y2, e2, h2⟩ := hf 2 _ rfl
    cases e0; cases e1; cases e2
    obtain ⟨a, e0, _, w0⟩ := DataW.trod_int Tryz.underlying3 h0
    obtain ⟨l, v, e1, hs, hall⟩ := open_mems h1
    obtain ⟨b, e2, _, w2⟩ := DataW.trod_int Tryz.underlying22 h2
    simp only [List.cons.injEq, and_true] at e0 e1 e2
    subst e0 e1 e2
    have k0 := wf_i64 w0; have k2 := wf_u64 w2
    exact ⟨⟨a, c1, l, b⟩, rfl, ⟨hs, hall, k0.1, k0.2, k2.1, k2.2⟩⟩
end
set_option maxRecDepth 10000 in
theorem open_conf {H : Type} {enc : TypeId × Value → H} {w W0 : World} {base b0 : Nat} {spare : Nat → Bool} {held : Bool} {r : Reach} {v : Value} {n : Nat} {x : DataW H × List MemPlace}
    (hv : Value.okWide Tryz.prog w r b0 26 v) (h : DataW.trod enc Tryz.prog W0 base spare held n 26 v.cells.toList = some x) :
    ∃ c : ConfT, v = confV c ∧ ConfOk W0 c := by
  obtain ⟨cs, rfl, hsz⟩ := okWide_struct Tryz.underlying26 hv
  obtain ⟨c, hc, hok⟩ := elem_conf _ _ _ h
  refine ⟨c, ?_, hok⟩
  have : cs.toList = confE c := hc
  rw [show cs = (confE c).toArray by rw [← this]]; rfl
set_option maxRecDepth 10000 in
theorem open_mem {H : Type} {enc : TypeId × Value → H} {w W0 : World} {base b0 : Nat} {spare : Nat → Bool} {held : Bool} {r : Reach} {v : Value} {n : Nat} {x : DataW H × List MemPlace}
    (hv : Value.okWide Tryz.prog w r b0 154 v) (h : DataW.trod enc Tryz.prog W0 base spare held n 154 v.cells.toList = some x) :
    ∃ c : MemT, v = memV c ∧ memOk c := by
  obtain ⟨cs, rfl, hsz⟩ := okWide_struct Tryz.underlying154 hv
  obtain ⟨c, hc, hok⟩ := elem_mem _ _ _ h
  refine ⟨c, ?_, hok⟩
  have : cs.toList = memE c := hc
  rw [show cs = (memE c).toArray by rw [← this]]; rfl
end Go.Proofs.YteioaaegooebpaaGreat

/- Notes that came in by value, opened. Conditions: none. -/
namespace Go.Proofs.YteioaaegooebpaaGreat
open Go.RowKit Go.ChangeShapes Go.WideShapes Go.Deep
structure NoteX where
  d : NoteD
  mv : Value
  lv : Value
  ev : Value
def noteE (x : NoteX) : List Value := [.int .i64 x.d.k, .int .i64 x.d.n, .int .u64 x.d.t, .int .i64 x.d.ep, x.mv, .int .u64 x.d.fl, x.lv, .int .i64 x.d.ec, .int .i64 x.d.er, x.ev, .int .u64 x.d.ets, .int .i64 x.d.pid, .int .u64 x.d.pat, .int .i64 x.d.plf, .int .i64 x.d.sc, .int .i64 x.d.sr, .int .i64 x.d.se, .int .i64 x.d.sp]
def noteV (x : NoteX) : Value := .agg #[.int .i64 x.d.k, .int .i64 x.d.n, .int .u64 x.d.t, .int .i64 x.d.ep, x.mv, .int .u64 x.d.fl, x.lv, .int .i64 x.d.ec, .int .i64 x.d.er, x.ev, .int .u64 x.d.ets, .int .i64 x.d.pid, .int .u64 x.d.pat, .int .i64 x.d.plf, .int .i64 x.d.sc, .int .i64 x.d.sr, .int .i64 x.d.se, .int .i64 x.d.sp]
structure NoteOk (w : World) (x : NoteX) : Prop where
  hm : SliceOf memE 2 w x.mv x.d.ms
  hg : SliceOf (intE .i64) 1 w x.lv x.d.lg
  he : SliceOf opE 3 w x.ev x.d.el
  hR : NoteR x.d
section
variable {H : Type} {enc : TypeId × Value → H} {w : World} {base : Nat} {spare : Nat → Bool} {held : Bool}
theorem open_i64s {fuel : Nat} {cs : List Value} {x : DataW H × List MemPlace} (h : DataW.trod enc Tryz.prog w base spare held fuel 50 cs = some x) :
    ∃ (l : List Int) (v : Value), cs = [v] ∧ SliceOf (intE .i64) 1 w v l ∧ ∀ n ∈ l, (Lit.int .i64 n).wf = true :=
  open_rows (intE .i64) 1 _ Tryz.underlying50 (by kernel_rfl) (by omega) (fun n cs x h => by
    obtain ⟨a, e, _, hw⟩ := DataW.trod_int Tryz.underlying3 h
    exact ⟨a, e, hw⟩) h
set_option maxRecDepth 10000 in
theorem elem_note (n : Nat) (cs : List Value) (x : DataW H × List MemPlace) (h : DataW.trod enc Tryz.prog w base spare held n 58 cs = some x) : ∃ y : NoteX, cs = noteE y ∧ NoteOk w y := by
  obtain ⟨xs, m, _, _, hl, hxl, hf⟩ := DataW.trod_struct Tryz.underlying58 h
  have hl18 : cs.length = 18 := hl
  have hx8 : xs.length = 8 := hxl
  clear hl hxl
  match cs, hl18, xs, hx8 with
  | [c0, c1, c2, c3, c4, c5, c6, c7, c8, c9, c10, c11, c12, c13, c14, c15, c16, c17], _, [x0, x1, x2, x3, x4, x5, x6, x7], _ =>
    have h0 : DataW.trod enc Tryz.prog w base spare held m 3 [c0] = some x0 := hf 0 _ rfl
    have h1 : DataW.trod enc Tryz.prog w base spare held m 3 [c1] = some x1 := hf 1 _ rfl
    have h2 : DataW.trod enc Tryz.prog w base spare held m 22 [c2] = some x2 := hf 2 _ rfl
    have h3 : DataW.trod enc Tryz.prog w base spare held m 26 [c3, c4, c5] = some x3 := hf 3 _ rfl
    have h4 : DataW.trod enc Tryz.prog w base spare held m 50 [c6] = some x4 := hf 4 _ rfl
    have h5 : DataW.trod enc Tryz.prog w base spare held m 52 [c7, c8, c9, c10] = some x5 := hf 5 _ rfl
    have h6 : DataW.trod enc Tryz.prog w base spare held m 54 [c11, c12, c13] = some x6 := hf 6 _ rfl
    have h7 : DataW.trod enc Tryz.prog w base spare held m 56 [c14, c15, c16, c17] = some x7 := hf 7 _ rfl
    clear hf h
    obtain ⟨k, e0, _, _⟩ := DataW.trod_int Tryz.underlying3 h0
    obtain ⟨nn, e1, _, _⟩ := DataW.trod_int Tryz.underlying3 h1
    obtain ⟨t, e2, _, w2⟩ := DataW.trod_int Tryz.underlying22 h2
    obtain ⟨c, e3, hc⟩ := elem_conf _ _ _ h3
    obtain ⟨lg, lv, e4, hg, _⟩ := open_i64s h4
    obtain ⟨ys, m5, _, _, _, hyl, hf5⟩ := DataW.trod_struct Tryz.underlying52 h5
    have hy2 : ys.length = 2 := hyl
    clear hyl h5
    match ys, hy2 with
    | [y0, y1], _ =>
      have b0 : DataW.trod enc Tryz.prog w base spare held m5 29 [c7, c8, c9] = some y0 := hf5 0 _ rfl
      have b1 : DataW.trod enc Tryz.prog w base spare held m5 22 [c10] = some y1 := hf5 1 _ rfl
      clear hf5
      obtain ⟨ets, e10, _, w10⟩ := DataW.trod_int Tryz.underlying22 b1
      obtain ⟨_, m6, hf6⟩ := trod_fields Tryz.underlying29 (by kernel_rfl) (by kernel_rfl) b0
      obtain ⟨_, z0, f0, g0⟩ := hf6 0 _ rfl
      obtain ⟨_, z1, f1, g1⟩ := hf6 1 _ rfl
      obtain ⟨_, z2, f2, g2⟩ := hf6 2 _ rfl
      cases f0; cases f1; cases f2
      obtain ⟨ec, e7, _, _⟩ := DataW.trod_int Tryz.underlying3 g0
      obtain ⟨er, e8, _, _⟩ := DataW.trod_int Tryz.underlying3 g1
      obtain ⟨el, ev, e9, he, _⟩ := open_ops g2
      obtain ⟨_, m7, hf7⟩ := trod_fields Tryz.underlying54 (by kernel_rfl) (by kernel_rfl) h6
      obtain ⟨_, z3, f3, g3⟩ := hf7 0 _ rfl
      obtain ⟨_, z4, f4, g4⟩ := hf7 1 _ rfl
      obtain ⟨_, z5, f5, g5⟩ := hf7 2 _ rfl
      cases f3; cases f4; cases f5
      obtain ⟨pid, e11, _, _⟩ := DataW.trod_int Tryz.underlying3 g3
      obtain ⟨pat, e12, _, w12⟩ := DataW.trod_int Tryz.underlying22 g4
      obtain ⟨plf, e13, _, _⟩ := DataW.trod_int Tryz.underlying3 g5
      obtain ⟨_, m8, hf8⟩ := trod_fields Tryz.underlying56 (by kernel_rfl) (by kernel_rfl) h7
      obtain ⟨_, z6, f6, g6⟩ := hf8 0 _ rfl
      obtain ⟨_, z7, f7, g7⟩ := hf8 1 _ rfl
      obtain ⟨_, z8, f8, g8⟩ := hf8 2 _ rfl
      obtain ⟨_, z9, f9, g9⟩ := hf8 3 _ rfl
      cases f6; cases f7; cases f8; cases f9
      obtain ⟨sc, e14, _, _⟩ := DataW.trod_int Tryz.underlying3 g6
      obtain ⟨sr, e15, _, _⟩ := DataW.trod_int Tryz.underlying3 g7
      obtain ⟨se, e16, _, _⟩ := DataW.trod_int Tryz.underlying23 g8
      obtain ⟨sp, e17, _, _⟩ := DataW.trod_int Tryz.underlying3 g9
      clear h0 h1 h2 h3 h4 h6 h7 hf6 hf7 hf8 g0 g1 g2 g3 g4 g5 g6 g7 g8 g9 b0 b1
      simp only [confE, List.cons.injEq, and_true] at e0 e1 e2 e3 e4 e7 e8 e9 e10 e11 e12 e13 e14 e15 e16 e17
      obtain ⟨rfl, rfl, rfl⟩ := e3
      subst e0 e1 e2 e4 e7 e8 e9 e10 e11 e12 e13 e14 e15 e16 e17
      exact ⟨⟨⟨k, nn, t, c.ep, c.ms, c.fl, lg, ec, er, el, ets, pid, pat, plf, sc, sr, se, sp⟩, c.mv, _, _⟩, rfl, ⟨hc.ms, hg, he, ⟨hc.each, ⟨hc.e0, hc.e1⟩, ⟨hc.f0, hc.f1⟩, wf_u64 w2, wf_u64 w10, wf_u64 w12⟩⟩⟩
end
set_option maxRecDepth 100000 in
theorem open_note {H : Type} {enc : TypeId × Value → H} {w W0 : World} {base b0 : Nat} {spare : Nat → Bool} {held : Bool} {r : Reach} {v : Value} {n : Nat} {x : DataW H × List MemPlace}
    (hv : Value.okWide Tryz.prog w r b0 58 v) (h : DataW.trod enc Tryz.prog W0 base spare held n 58 v.cells.toList = some x) :
    ∃ y : NoteX, v = noteV y ∧ NoteOk W0 y := by
  obtain ⟨cs, rfl, hsz⟩ := okWide_struct Tryz.underlying58 hv
  obtain ⟨y, hy, hok⟩ := elem_note _ _ _ h
  refine ⟨y, ?_, hok⟩
  obtain ⟨cl⟩ := cs
  have hy' : cl = noteE y := hy
  subst hy'; rfl
end Go.Proofs.YteioaaegooebpaaGreat
