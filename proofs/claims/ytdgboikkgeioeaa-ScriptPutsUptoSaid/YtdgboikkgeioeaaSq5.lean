/- Put together: ScrUSp, BulkSp, PartsSp, ScrWSp, ScrXSp. Conditions: as each says. -/
import Derived.Test.YtdgboikkgeioeaaSq4
import Derived.Test.YtdgboikkgeioeaaRows
import Derived.Test.YtdgboikkgeioeaaSq1
import Derived.ProofKit
import Derived.Deep.Slices
import Derived.Deep.Fields
import Derived.Test.YtdgboikkgeioeaaSq3
/- catenalaw40: awake. Conditions: none. -/
namespace Go.Proofs.Ytdgboikkgeioeaa
open Go.RowKit Go.Shelf
set_option linter.unusedVariables false
set_option linter.unusedSimpArgs false

def awS : ByteArray := ⟨#[3, 1, 4, 0, 1, 9]⟩
theorem aw_pcs : pcs awS 0 = [⟨#[1, 4, 0]⟩, ⟨#[9]⟩] := by
  rw [pcs_y (by decide), show 0 + 1 + pcN awS 0 = 4 from rfl, pcs_y (by decide), show 4 + 1 + pcN awS 4 = 6 from rfl, pcs_n (by decide)]
  rfl
theorem aw_ev : evR ⟨#[1, 4, 0]⟩ = some (zeD 1 4 0) := by kernel_rfl
theorem aw_no : evR ⟨#[9]⟩ = none := by kernel_rfl
theorem aw_steps : stepsR awS = [zeD 1 4 0] := by
  unfold stepsR; rw [aw_pcs]; simp [List.filterMap_cons, aw_ev, aw_no]
theorem aw_put : allE [zeD 1 4 0] = 0 ∧ putA [zeD 1 4 0] = ⟨#[3, 1, 4, 0]⟩ := by constructor <;> kernel_rfl
theorem ev_ok {w : World} {B : Nat} {x : EvX} (hr : w.ownsRow B 66 3 x.ov x.d.ops.length (x.d.ops.flatMap opE)) (hs : EvS x.d) : EvOk w x := ⟨row_sl hr opE_len, hs⟩
theorem ev_sl {w : World} {B : Nat} {x : EvX} (hr : w.ownsRow B 66 3 x.ov x.d.ops.length (x.d.ops.flatMap opE)) : EvSl w x := ⟨row_sl hr opE_len⟩
set_option maxRecDepth 100000 in
set_option maxHeartbeats 2000000 in
theorem awake40_any (w : World) : Calls Try.prog 17 #[] w fun e w' => e = .returned (.bool true) ∧ Below w.heap.size w w' := by
  have hO := fun w => scOf_any awS w (by decide)
  have HO := Lib.hid hO; clear hO
  go_enter Try.func17, Try.ntmps17
  go_wp2_with fail
  refine (HO.out w).mono ?_
  rintro e w1 ⟨v, us, rfl, hm, hr, ho, hb⟩
  rw [aw_steps] at hm
  obtain ⟨x, rfl⟩ : ∃ x, us = [x] := by
    cases us with
    | nil => simp at hm
    | cons x r => cases r with
      | nil => exact ⟨x, rfl⟩
      | cons y r => simp at hm
  have hx : x.d = zeD 1 4 0 := by simpa using hm
  have hox := ho x (by simp)
  have hok : EvOk w1 x := ev_ok hox (by rw [hx]; exact ⟨⟨by decide, by decide⟩, by decide, by decide, by simp [zeD]⟩)
  have hP := scPut_any v [x] w1 (row_sl hr evE_len) (fun z hz => by rw [List.mem_singleton] at hz; subst hz; exact hok) (fun z hz => by rw [List.mem_singleton] at hz; subst hz; rw [hx]; decide) (by simp)
  rw [show [x].map EvX.d = [zeD 1 4 0] from hm, aw_put.1, aw_put.2] at hP
  obtain ⟨g, cap, rfl⟩ := ownsRow_succ hr
  have HP := Lib.hid hP; have HR := Lib.hid hr; have HB := Lib.hid hb; have HX := Lib.hid hx
  clear hP hr hb ho hox hok hm hx
  go_wp2_with fail
  refine HP.out.mono ?_
  rintro e w2 ⟨rfl, hb2⟩
  have hr2 := HR.out.kept (below_grown hb2) (.inr (by simp [Value.ownBlock]))
  have c0 : w2.cell? ⟨g, 0, none⟩ = some (.int .i64 1) := by
    have h := hr2.cells (g := g) rfl 0 (.int .i64 x.d.k) (by simp [evE]); rw [HX.out] at h; simpa [Addr.add_lit, zeD] using h
  have c1 : w2.cell? ⟨g, 1, none⟩ = some (.int .i64 4) := by
    have h := hr2.cells (g := g) rfl 1 (.int .i64 x.d.nd) (by simp [evE]); rw [HX.out] at h; simpa [Addr.add_lit, zeD] using h
  have HB2 := Lib.hid (HB.out.trans (hb2.mono HB.out.size)); clear hb2 hr2
  go_wp2
  go_ret
  exact ⟨rfl, HB2.out⟩
end Go.Proofs.Ytdgboikkgeioeaa

/- What the bound on the arguments' bulk gives for their lengths. Conditions: none. -/
namespace Go.Proofs.Ytdgboikkgeioeaa
theorem bulk_mem {H : Type} {l : List (DataW H)} {j : Nat} {d : DataW H} (h : l[j]? = some d) : Rows.uptoBulk d ≤ Rows.uptoBulkAll l := by
  induction l generalizing j with
  | nil => simp at h
  | cons x l ih =>
    cases j with
    | zero => simp at h; subst h; simp only [Rows.uptoBulkAll]; omega
    | succ j => have := ih (by simpa using h); simp only [Rows.uptoBulkAll]; omega
theorem bulk_all {H : Type} {l : List (DataW H)} (hk : Rows.uptoSmall H l = true) : Rows.uptoBulkAll l ≤ 1048576 := of_decide_eq_true hk
theorem bulk_string {H : Type} {l : List (DataW H)} (hk : Rows.uptoSmall H l = true) {j : Nat} {bytes : List UInt8} (h : l[j]? = some (.lit (.string bytes))) : bytes.length ≤ 1048576 := by
  have h1 := bulk_mem h
  have h2 := bulk_all hk
  have : Rows.uptoBulk (H := H) (.lit (.string bytes)) = bytes.length + 1 := by simp [Rows.uptoBulk]
  rw [this] at h1
  refine Nat.le_trans ?_ h2
  omega
end Go.Proofs.Ytdgboikkgeioeaa

/- Parts that came in: a kind, a number, a big number, a text, a flag. Conditions: none. -/
namespace Go.Proofs.Ytdgboikkgeioeaa
open Go.RowKit Go.ChangeShapes Go.WideShapes Go.Deep

structure PartT where
  k : Int
  n : Int
  b : Int
  s : ByteArray
  f : Bool
instance : Inhabited PartT := ⟨⟨0, 0, 0, ⟨#[]⟩, false⟩⟩
structure PartOk (m : Nat) (p : PartT) : Prop where
  n0 : -9223372036854775808 ≤ p.n
  n1 : p.n ≤ 9223372036854775807
  b0 : 0 ≤ p.b
  b1 : p.b < 18446744073709551616
  s1 : p.s.size ≤ m
section
variable {H : Type} {enc : TypeId × Value → H} {P : Program} {w : World} {base : Nat} {spare : Nat → Bool} {held : Bool}
/-- A slice, each element of which is known together with its reading's bulk. -/
theorem open_rows_bulk {α : Type} [Inhabited α] {t e : TypeId} {fuel : Nat} {cs : List Value} {x : DataW H × List MemPlace} (E : α → List Value) (sz : Nat) (good : Nat → α → Prop) (mono : ∀ m k a, m ≤ k → good m a → good k a)
    (ht : P.underlying t = some (.slice e)) (hC : P.cellsOf e = sz) (hpos : 0 < sz)
    (elem : ∀ n cs x, DataW.trod enc P w base spare held n e cs = some x → ∃ a : α, cs = E a ∧ good (Rows.uptoBulk x.1) a)
    (h : DataW.trod enc P w base spare held fuel t cs = some x) :
    ∃ (l : List α) (v : Value), cs = [v] ∧ SliceOf E sz w v l ∧ ∀ a ∈ l, good (Rows.uptoBulk x.1) a := by
  rcases open_slice ht h with ⟨hcs, _⟩ | ⟨a, len, cap, m, n, D, Pl, hcs, _, hl, hm, hmm, hx, hi⟩
  · exact ⟨[], _, hcs, SliceOf.nil _ _ _, by simp⟩
  · have hlm : len ≤ m := by rw [hmm]; split <;> omega
    rw [hC] at hi
    obtain ⟨f, hf⟩ := choose_lt (α := α) (n := len) (p := fun i y => (∀ j u, (E y)[j]? = some u → w.cell? ((a.add (i * sz)).add j) = some u) ∧ good (Rows.uptoBulk (D i)) y ∧ (E y).length = sz) (fun i hilt => by
      obtain ⟨cs', hc, ht'⟩ := hi i (by omega)
      obtain ⟨y, rfl, hg⟩ := elem n cs' _ ht'
      obtain ⟨_, hcl, hat⟩ := World.cells?_some hc
      exact ⟨y, fun j u hu => by
        have hj : j < (E y).length := (List.getElem?_eq_some_iff.1 hu).1
        rw [hat j (by omega), hu], hg, hcl⟩)
    refine ⟨(List.range len).map f, _, hcs, ⟨some a, cap, by simp, by simpa using hl, by unfold maxLen at hm; omega, fun h => (by cases h), fun j hj => ?_⟩, fun y hy => ?_⟩
    · have hj' : j < len := by simpa using hj
      obtain ⟨b, off, spot⟩ := a
      have hspot : spot = none := by
        obtain ⟨h1, _, h3⟩ := hf 0 (by omega)
        have hc0 := h1 0 _ (List.getElem?_eq_getElem (show 0 < (E (f 0)).length by omega))
        simpa [Addr.add] using World.cell?_spot hc0
      subst hspot
      refine ⟨b, off, rfl, fun i u hu => ?_⟩
      have := (hf j hj').1 i u (by simpa using hu)
      rw [Addr.add_lit, Addr.add_lit] at this
      exact this
    · obtain ⟨i, hi', rfl⟩ := List.mem_map.1 hy
      have hil := List.mem_range.1 hi'
      refine mono _ _ _ ?_ (hf i hil).2.1
      subst hx
      have h1 : Rows.uptoBulk (D i) ≤ Rows.uptoBulkAll ((List.range len).map D) := bulk_mem (j := i) (by simp [hil])
      have e : Rows.uptoBulk (H := H) (.slice ((List.range len).map D) ((List.range (m - len)).map fun j => D (len + j))) = Rows.uptoBulkAll ((List.range len).map D) + Rows.uptoBulkAll ((List.range (m - len)).map fun j => D (len + j)) + 1 := by simp [Rows.uptoBulk]
      show _ ≤ Rows.uptoBulk (H := H) (.slice ((List.range len).map D) ((List.range (m - len)).map fun j => D (len + j)))
      rw [e]; omega
theorem PartOk.mono {m k : Nat} {p : PartT} (h : m ≤ k) (hp : PartOk m p) : PartOk k p := ⟨hp.n0, hp.n1, hp.b0, hp.b1, Nat.le_trans hp.s1 h⟩
end
end Go.Proofs.Ytdgboikkgeioeaa

/- Steps that came in. Conditions: none. -/
namespace Go.Proofs.Ytdgboikkgeioeaa
open Go.RowKit Go.ChangeShapes Go.WideShapes Go.Deep
set_option linter.unusedVariables false

section
variable {H : Type} {enc : TypeId × Value → H} {w : World} {base : Nat} {spare : Nat → Bool} {held : Bool}
set_option maxRecDepth 10000 in
theorem elem_opB (n : Nat) (cs : List Value) (x : DataW H × List MemPlace) (h : DataW.trod enc Try.prog w base spare held n 66 cs = some x) : ∃ p : OpT, cs = opE p ∧ (p.1.size ≤ Rows.uptoBulk x.1 ∧ p.2.1.size ≤ Rows.uptoBulk x.1) := by
  obtain ⟨xs, m, _, hx, hl, hxl, hf⟩ := DataW.trod_struct Try.underlying66 h
  have hl3 : cs.length = 3 := hl
  have hx3 : xs.length = 3 := hxl
  clear hl hxl
  match cs, hl3, xs, hx3 with
  | [c0, c1, c2], _, [x0, x1, x2], _ =>
    have h0 : DataW.trod enc Try.prog w base spare held m 9 [c0] = some x0 := hf 0 _ rfl
    have h1 : DataW.trod enc Try.prog w base spare held m 9 [c1] = some x1 := hf 1 _ rfl
    have h2 : DataW.trod enc Try.prog w base spare held m 4 [c2] = some x2 := hf 2 _ rfl
    obtain ⟨a, e0, y0, w0⟩ := DataW.trod_string Try.underlying9 h0
    obtain ⟨b, e1, y1, w1⟩ := DataW.trod_string Try.underlying9 h1
    obtain ⟨c, e2, y2⟩ := DataW.trod_bool Try.underlying4 h2
    simp only [List.cons.injEq, and_true] at e0 e1 e2
    subst e0 e1 e2
    refine ⟨(a, b, c), rfl, ?_⟩
    rw [hx]
    simp only [List.map_cons, List.map_nil]
    rw [y0, y1]
    simp [Rows.uptoBulk, Rows.uptoBulkAll]
    omega
structure EvM (w : World) (m : Nat) (x : EvX) : Prop where
  sl : SliceOf opE 3 w x.ov x.d.ops
  ts : 0 ≤ x.d.at_ ∧ x.d.at_ < 18446744073709551616
  ky : x.d.ky.size ≤ m
  tt : x.d.tt.size ≤ m
  ops : ∀ o ∈ x.d.ops, o.1.size ≤ m ∧ o.2.1.size ≤ m
theorem EvM.mono {m k : Nat} {x : EvX} (h : m ≤ k) (a : EvM w m x) : EvM w k x := ⟨a.sl, a.ts, Nat.le_trans a.ky h, Nat.le_trans a.tt h, fun o ho => ⟨Nat.le_trans (a.ops o ho).1 h, Nat.le_trans (a.ops o ho).2 h⟩⟩
theorem EvM.ok {m : Nat} {x : EvX} (h : m ≤ 1048576) (a : EvM w m x) : EvOk w x := ⟨a.sl, ⟨a.ts, Nat.le_trans a.ky h, Nat.le_trans a.tt h, fun o ho => ⟨Nat.le_trans (a.ops o ho).1 h, Nat.le_trans (a.ops o ho).2 h⟩⟩⟩
set_option maxRecDepth 10000 in
theorem elem_ev (n : Nat) (cs : List Value) (x : DataW H × List MemPlace) (h : DataW.trod enc Try.prog w base spare held n 60 cs = some x) : ∃ e : EvX, cs = evE e ∧ EvM w (Rows.uptoBulk x.1) e := by
  obtain ⟨xs, m, _, hx, hl, hxl, hf⟩ := DataW.trod_struct Try.underlying60 h
  have hl10 : cs.length = 10 := hl
  have hx4 : xs.length = 4 := hxl
  clear hl hxl
  match cs, hl10, xs, hx4 with
  | [c0, c1, c2, c3, c4, c5, c6, c7, c8, c9], _, [x0, x1, x2, x3], _ =>
    have h0 : DataW.trod enc Try.prog w base spare held m 3 [c0] = some x0 := hf 0 _ rfl
    have h1 : DataW.trod enc Try.prog w base spare held m 3 [c1] = some x1 := hf 1 _ rfl
    have h2 : DataW.trod enc Try.prog w base spare held m 3 [c2] = some x2 := hf 2 _ rfl
    have h3 : DataW.trod enc Try.prog w base spare held m 35 [c3, c4, c5, c6, c7, c8, c9] = some x3 := hf 3 _ rfl
    obtain ⟨zs, m2, _, hz, _, hzl, hg⟩ := DataW.trod_struct Try.underlying35 h3
    have hz7 : zs.length = 7 := hzl
    match zs, hz7 with
    | [z0, z1, z2, z3, z4, z5, z6], _ =>
      have g0 : DataW.trod enc Try.prog w base spare held m2 3 [c3] = some z0 := hg 0 _ rfl
      have g1 : DataW.trod enc Try.prog w base spare held m2 3 [c4] = some z1 := hg 1 _ rfl
      have g2 : DataW.trod enc Try.prog w base spare held m2 9 [c5] = some z2 := hg 2 _ rfl
      have g3 : DataW.trod enc Try.prog w base spare held m2 9 [c6] = some z3 := hg 3 _ rfl
      have g4 : DataW.trod enc Try.prog w base spare held m2 23 [c7] = some z4 := hg 4 _ rfl
      have g5 : DataW.trod enc Try.prog w base spare held m2 3 [c8] = some z5 := hg 5 _ rfl
      have g6 : DataW.trod enc Try.prog w base spare held m2 24 [c9] = some z6 := hg 6 _ rfl
      obtain ⟨k, e0, _, _⟩ := DataW.trod_int Try.underlying3 h0
      obtain ⟨nd, e1, _, _⟩ := DataW.trod_int Try.underlying3 h1
      obtain ⟨n', e2, _, _⟩ := DataW.trod_int Try.underlying3 h2
      obtain ⟨ak, e3, _, _⟩ := DataW.trod_int Try.underlying3 g0
      obtain ⟨an, e4, _, _⟩ := DataW.trod_int Try.underlying3 g1
      obtain ⟨ky, e5, y2, _⟩ := DataW.trod_string Try.underlying9 g2
      obtain ⟨tt, e6, y3, _⟩ := DataW.trod_string Try.underlying9 g3
      obtain ⟨at_, e7, _, w4⟩ := DataW.trod_int Try.underlying23 g4
      obtain ⟨am, e8, _, _⟩ := DataW.trod_int Try.underlying3 g5
      obtain ⟨l, v, e9, hs, ho⟩ := open_rows_bulk opE 3 (fun m (o : OpT) => o.1.size ≤ m ∧ o.2.1.size ≤ m) (fun _ _ _ h a => ⟨Nat.le_trans a.1 h, Nat.le_trans a.2 h⟩) Try.underlying24 (by kernel_rfl) (by omega) elem_opB g6
      simp only [List.cons.injEq, and_true] at e0 e1 e2 e3 e4 e5 e6 e7 e8 e9
      subst e0 e1 e2 e3 e4 e5 e6 e7 e8 e9
      have hb : Rows.uptoBulk z6.1 ≤ Rows.uptoBulk x.1 ∧ ky.size ≤ Rows.uptoBulk x.1 ∧ tt.size ≤ Rows.uptoBulk x.1 := by
        rw [hx]; simp only [List.map_cons, List.map_nil]; rw [hz]; simp only [List.map_cons, List.map_nil]; rw [y2, y3]
        simp [Rows.uptoBulk, Rows.uptoBulkAll]
        omega
      exact ⟨⟨⟨k, nd, n', ak, an, ky, tt, at_, am, l⟩, c9⟩, rfl, ⟨hs, wf_u64 w4, hb.2.1, hb.2.2, fun o hm => ⟨Nat.le_trans (ho o hm).1 hb.1, Nat.le_trans (ho o hm).2 hb.1⟩⟩⟩
theorem open_evs {fuel : Nat} {cs : List Value} {x : DataW H × List MemPlace} (h : DataW.trod enc Try.prog w base spare held fuel 50 cs = some x) :
    ∃ (l : List EvX) (v : Value), cs = [v] ∧ SliceOf evE 10 w v l ∧ ∀ p ∈ l, EvM w (Rows.uptoBulk x.1) p :=
  open_rows_bulk evE 10 (EvM w) (fun _ _ _ h => EvM.mono h) Try.underlying50 (by kernel_rfl) (by omega) elem_ev h
end
end Go.Proofs.Ytdgboikkgeioeaa

/- catenalaw40: ScriptPuts. Conditions: texts of at most 1048576 bytes. -/
namespace Go.Proofs.Ytdgboikkgeioeaa
open Go.RowKit Go.Shelf
set_option linter.unusedVariables false
set_option linter.unusedSimpArgs false

set_option maxRecDepth 100000 in
set_option maxHeartbeats 4000000 in
theorem scriptPuts_l (v : Value) (l : List EvX) (s : ByteArray) (w : World) (hs : SliceOf evE 10 w v l) (hok : ∀ z ∈ l, EvOk w z) :
    Calls Try.prog 5 #[v, .string s] w fun e w' => e = .returned (.bool true) ∧ Below w.heap.size w w' := by
  have hP := parts36_any v l w hs hok
  have hl63 := sl_len hs
  obtain ⟨P, hPe⟩ : ∃ P, P = ptsE (l.take 400) := ⟨_, rfl⟩
  rw [← hPe] at hP
  have hs' := hs
  obtain ⟨ao, cap, rfl, -, -, -, -⟩ := hs'
  have HS := Lib.hid hs; have HO := Lib.hid hok; have HP := Lib.hid hP; have HPE := Lib.hid hPe; have HA := Lib.hid (fun w => awake40_any w)
  clear hs hok hP hPe
  go_enter Try.func5, Try.ntmps5
  go_wp2_with fail
  refine HP.out.mono ?_
  rintro e w1 ⟨rfl, hb1⟩
  have HB1 := Lib.hid hb1; clear hb1
  by_cases h1 : P > 20
  · have hd1 : decide ((20 : Int) < P) = true := decide_eq_true h1
    go_wp2_with (refine (HA.out _).mono ?_; rintro e w2 ⟨rfl, hb2⟩; have HB2 := Lib.hid hb2; clear hb2)
    go_ret
    exact ⟨rfl, HB1.out.trans (HB2.out.mono HB1.out.size)⟩
  · have hd1 : decide ((20 : Int) < P) = false := decide_eq_false h1
    by_cases h2 : l.length > 100
    · have hd2 : decide ((100 : Int) < (l.length : Int)) = true := decide_eq_true (by omega)
      go_wp2_with (refine (HA.out _).mono ?_; rintro e w2 ⟨rfl, hb2⟩; have HB2 := Lib.hid hb2; clear hb2)
      go_ret
      exact ⟨rfl, HB1.out.trans (HB2.out.mono HB1.out.size)⟩
    · have hd2 : decide ((100 : Int) < (l.length : Int)) = false := decide_eq_false (by omega)
      by_cases h3 : s.size > 4000
      · have hd3 : decide ((4000 : Int) < (s.size : Int)) = true := decide_eq_true (by omega)
        go_wp2_with (refine (HA.out _).mono ?_; rintro e w2 ⟨rfl, hb2⟩; have HB2 := Lib.hid hb2; clear hb2)
        go_ret
        exact ⟨rfl, HB1.out.trans (HB2.out.mono HB1.out.size)⟩
      · have hd3 : decide ((4000 : Int) < (s.size : Int)) = false := decide_eq_false (by omega)
        have hall := (ptsE_mem (l.take 400) 0 20 (by show ptsE (l.take 400) ≤ 20; rw [← HPE.out]; omega)).2
        have h100 : ∀ z ∈ l, z.d.ops.length ≤ 100 := fun z hz => by have := (hall z (by rw [List.take_of_length_le (by omega)]; exact hz)).1; omega
        have hb1 := HB1.out
        have hP1 := scPut_any (.slice ao l.length cap) l w1 (HS.out.below hb1) (fun z hz => ⟨(HO.out z hz).sl.below hb1, (HO.out z hz).s⟩) h100 (by omega)
        have hP2 := fun (w2 : World) (hb2 : Below w1.heap.size w1 w2) => rcPut_any (.slice ao l.length cap) l w2 ((HS.out.below hb1).below hb2) (fun z hz => ⟨((HO.out z hz).sl.below hb1).below hb2, (HO.out z hz).s⟩) h100 (by omega)
        obtain ⟨A, hA⟩ : ∃ A, A = putA (l.map EvX.d) := ⟨_, rfl⟩
        obtain ⟨E, hE⟩ : ∃ E, E = allE (l.map EvX.d) := ⟨_, rfl⟩
        rw [← hA, ← hE] at hP1
        simp only [← hA, ← hE] at hP2
        have HP1 := Lib.hid hP1; have HP2 := Lib.hid hP2
        clear hP1 hP2 hA hE hall h100 hb1
        go_wp2_with fail
        refine HP1.out.mono ?_
        rintro e w2 ⟨rfl, hb2⟩
        have HB2 := Lib.hid hb2; clear hb2
        go_wp2_with fail
        refine (HP2.out w2 HB2.out).mono ?_
        rintro e w3 ⟨rfl, hb3⟩
        have HB3 := Lib.hid hb3; clear hb3
        go_wp2_with fail
        refine (scOf_any s w3 (by omega)).mono ?_
        rintro e w4 ⟨u, us, rfl, hm, hr, ho, hb4⟩
        have HM := Lib.hid hm; have HR := Lib.hid hr; have HQ := Lib.hid ho; have HB4 := Lib.hid hb4; clear hm hr ho hb4
        go_wp2_with fail
        refine (rcOf_any s w4 (by omega)).mono ?_
        rintro e w5 ⟨u2, us2, rfl, hm2, hr2, ho2, hb5⟩
        have HS5 := Lib.hid (sameEv_any u us u2 us2 w5 ((row_sl HR.out evE_len).below hb5) (fun z hz => ⟨(ev_sl (HQ.out z hz)).sl.below hb5⟩) (row_sl hr2 evE_len) (fun z hz => ev_sl (ho2 z hz)) (HM.out.trans hm2.symm))
        have HB5 := Lib.hid hb5; clear hm2 hr2 ho2 hb5
        go_wp2_with fail
        refine HS5.out.mono ?_
        rintro e w6 ⟨rfl, hb6⟩
        have HB6 := Lib.hid hb6; clear hb6
        go_wp2_with (refine (HA.out _).mono ?_; rintro e w7 ⟨rfl, hb7⟩; have HB7 := Lib.hid hb7; clear hb7)
        go_ret
        have z1 := HB1.out.size; have z2 := HB2.out.size; have z3 := HB3.out.size; have z4 := HB4.out.size; have z5 := HB5.out.size; have z6 := HB6.out.size
        exact ⟨rfl, ((((((HB1.out.trans (HB2.out.mono z1)).trans (HB3.out.mono (by omega))).trans (HB4.out.mono (by omega))).trans (HB5.out.mono (by omega))).trans (HB6.out.mono (by omega))).trans (HB7.out.mono (by omega)))⟩
theorem scriptPuts_c {m : Nat} (v : Value) (l : List EvX) (s : ByteArray) (w : World) (s1 : SliceOf evE 10 w v l) (g1 : ∀ z ∈ l, EvM w m z) (w1 : s.size ≤ 140737488351232) (b1 : m ≤ 1048576) (b2 : s.size ≤ 1048576) :
    Calls Try.prog 5 #[v, .string s] w fun e w' => e = .returned (.bool true) ∧ Below w.heap.size w w' := scriptPuts_l v l s w s1 fun z hz => (g1 z hz).ok b1
end Go.Proofs.Ytdgboikkgeioeaa
