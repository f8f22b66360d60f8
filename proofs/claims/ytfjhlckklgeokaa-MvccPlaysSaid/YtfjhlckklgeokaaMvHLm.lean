/- catenalaw16: what comes in; few, SamePairs, awake. Conditions: none. -/
import Derived.Test.YtfjhlckklgeokaaLm5
import Derived.Test.YtfjhlckklgeokaaOpen
namespace Go.Proofs.Ytfjhlckklgeokaa
open Go.RowKit Go.PlainAid
set_option linter.unusedVariables false
set_option linter.unusedSimpArgs false


structure MActT where
  c : Int
  ts : Int
  v : Value
  l : List OpT
  k : ByteArray
  to : ByteArray
  n : Int
instance : Inhabited MActT := ⟨⟨0, 0, .slice none 0 0, [], ⟨#[]⟩, ⟨#[]⟩, 0⟩⟩
def mactE (a : MActT) : List Value := [.int .i64 a.c, .int .u64 a.ts, a.v, .string a.k, .string a.to, .int .i64 a.n]
theorem mactE_len (a : MActT) : (mactE a).length = 6 := rfl
structure MActOk (w : World) (a : MActT) : Prop where
  ops : SliceOf opE 3 w a.v a.l
  t0 : 0 ≤ a.ts
  t1 : a.ts < 18446744073709551616
  n0 : (Lit.int .i64 a.n).wf = true
theorem opE_ne (l : List OpT) : ∀ y ∈ l, opE y ≠ [] := fun y _ => by simp [opE]
section
variable {H : Type} {enc : TypeId × Value → H} {w : World} {base : Nat} {spare : Nat → Bool} {held : Bool}
open Go.ChangeShapes Go.WideShapes Go.Deep
set_option maxRecDepth 10000 in
theorem elem_op (n : Nat) (cs : List Value) (x : DataW H × List MemPlace) (h : DataW.trod enc Try.prog w base spare held n 60 cs = some x) : ∃ p : OpT, cs = opE p ∧ True := by
  obtain ⟨hl, m, hf⟩ := trod_fields Try.underlying60 (by kernel_rfl) (by kernel_rfl) h
  have hl3 : cs.length = 3 := hl
  clear hl
  match cs, hl3 with
  | [c0, c1, c2], _ =>
    obtain ⟨_, y0, e0, h0⟩ := hf 0 _ rfl
    obtain ⟨_, y1, e1, h1⟩ := hf 1 _ rfl
    obtain ⟨_, y2, e2, h2⟩ := hf 2 _ rfl
    cases e0; cases e1; cases e2
    obtain ⟨a, e0, _⟩ := DataW.trod_string Try.underlying9 h0
    obtain ⟨b, e1, _⟩ := DataW.trod_string Try.underlying9 h1
    obtain ⟨c, e2, _⟩ := DataW.trod_bool Try.underlying4 h2
    simp only [List.cons.injEq, and_true] at e0 e1 e2
    subst e0 e1 e2
    exact ⟨(a, b, c), rfl, trivial⟩
theorem open_ops {fuel : Nat} {cs : List Value} {x : DataW H × List MemPlace} (h : DataW.trod enc Try.prog w base spare held fuel 32 cs = some x) :
    ∃ (l : List OpT) (v : Value), cs = [v] ∧ SliceOf opE 3 w v l ∧ ∀ p ∈ l, True :=
  open_rows opE 3 (fun _ => True) Try.underlying32 (by kernel_rfl) (by omega) elem_op h
set_option maxRecDepth 10000 in
theorem elem_mact (n : Nat) (cs : List Value) (x : DataW H × List MemPlace) (h : DataW.trod enc Try.prog w base spare held n 34 cs = some x) : ∃ a, cs = mactE a ∧ MActOk w a := by
  obtain ⟨hl, m, hf⟩ := trod_fields Try.underlying34 (by kernel_rfl) (by kernel_rfl) h
  have hl6 : cs.length = 6 := hl
  clear hl
  match cs, hl6 with
  | [c0, c1, c2, c3, c4, c5], _ =>
    obtain ⟨_, y0, e0, h0⟩ := hf 0 _ rfl
    obtain ⟨_, y1, e1, h1⟩ := hf 1 _ rfl
    obtain ⟨_, y2, e2, h2⟩ := hf 2 _ rfl
    obtain ⟨_, y3, e3, h3⟩ := hf 3 _ rfl
    obtain ⟨_, y4, e4, h4⟩ := hf 4 _ rfl
    obtain ⟨_, y5, e5, h5⟩ := hf 5 _ rfl
    cases e0; cases e1; cases e2; cases e3; cases e4; cases e5
    obtain ⟨a0, e0, _, w0⟩ := DataW.trod_int Try.underlying3 h0
    obtain ⟨a1, e1, _, w1⟩ := DataW.trod_int Try.underlying29 h1
    obtain ⟨l2, v2, e2, w2, _⟩ := open_ops h2
    obtain ⟨a3, e3, _⟩ := DataW.trod_string Try.underlying9 h3
    obtain ⟨a4, e4, _⟩ := DataW.trod_string Try.underlying9 h4
    obtain ⟨a5, e5, _, w5⟩ := DataW.trod_int Try.underlying3 h5
    simp only [List.cons.injEq, and_true] at e0 e1 e2 e3 e4 e5
    subst e0 e1 e2 e3 e4 e5
    have hw := wf_u64 w1
    exact ⟨⟨a0, a1, c2, l2, a3, a4, a5⟩, rfl, w2, hw.1, hw.2, w5⟩
theorem open_macts {fuel : Nat} {cs : List Value} {x : DataW H × List MemPlace} (h : DataW.trod enc Try.prog w base spare held fuel 22 cs = some x) :
    ∃ (l : List MActT) (v : Value), cs = [v] ∧ SliceOf mactE 6 w v l ∧ ∀ p ∈ l, MActOk w p :=
  open_rows mactE 6 (MActOk w) Try.underlying22 (by kernel_rfl) (by omega) elem_mact h
end
def Few (l : List MActT) (n : Nat) : Prop := ∀ a ∈ l.take n, a.l.length ≤ 20
instance (l : List MActT) (n : Nat) : Decidable (Few l n) := by unfold Few; infer_instance
theorem Few.step {l : List MActT} {i : Nat} {y : MActT} (h : Few l i) (hy : l[i]? = some y) (h2 : y.l.length ≤ 20) : Few l (i + 1) := by
  unfold Few at h ⊢
  rw [takeO_at hy]
  intro a ha
  rw [List.mem_append, List.mem_singleton] at ha
  rcases ha with ha | rfl; exact h a ha; exact h2
theorem Few.not {l : List MActT} {i : Nat} {y : MActT} (hy : l[i]? = some y) (hi : i < 40) (h2 : y.l.length > 20) : ¬ Few l 40 := fun h => by
  have := h y (List.mem_of_getElem? (i := i) (by rw [List.getElem?_take, if_pos hi]; exact hy)); omega
theorem Few.all {l : List MActT} {i : Nat} (h : Few l i) (hi : l.length ≤ i ∨ 40 ≤ i) : Few l 40 := by
  rcases hi with hi | hi
  · intro a ha; exact h a (by rw [List.take_of_length_le hi]; exact List.mem_of_mem_take ha)
  · intro a ha
    obtain ⟨j, hj⟩ := List.getElem?_of_mem ha
    have hl := (List.getElem?_eq_some_iff.1 hj).1
    rw [List.length_take] at hl
    rw [List.getElem?_take, if_pos (by omega)] at hj
    exact h a (List.mem_of_getElem? (i := j) (by rw [List.getElem?_take, if_pos (by omega)]; exact hj))
theorem Few.at {l : List MActT} {i : Nat} {y : MActT} (h : Few l 40) (hy : l[i]? = some y) (hi : i < 40) : y.l.length ≤ 20 := h y (List.mem_of_getElem? (i := i) (by rw [List.getElem?_take, if_pos hi]; exact hy))

def eqP (x y : PairT) : Bool := x.1.toList == y.1.toList && x.2.toList == y.2.toList
theorem eq_pair (a b d e : ByteArray) (w : World) : (binOp .eql 51 (.agg #[.string a, .string b]) (.agg #[.string d, .string e])).run Try.prog w = .ok (.bool (a.toList == d.toList && b.toList == e.toList)) w := by
  have u := Try.underlying9
  have hS : Try.prog.underlying 51 = some (.struct (Try.prog.fieldsOf 51)) := by kernel_rfl
  have hp : Try.prog.stoodInHeld 51 = false := by kernel_rfl
  have hf : (Try.prog.fieldsOf 51).toList.map (fun f => (f.offset, f.type)) = [(0, 9), (1, 9)] := by kernel_rfl
  rw [run_eql_struct, show (10000 : Nat) = 9999 + 1 from rfl, run_equalIn_agg w 9999 51 _ _ hS hp]
  simp only [Program.fieldsOf, Try.underlying51]
  go_simp
  by_cases h1 : a.toList = d.toList <;> by_cases h2 : b.toList = e.toList <;> simp [h1, h2]
def sameP : List PairT → List PairT → Bool
  | [], [] => true
  | x :: a, y :: b => eqP x y && sameP a b
  | _, _ => false
theorem sameP_len : ∀ {a b : List PairT}, a.length ≠ b.length → false = sameP a b
  | [], [], h => absurd rfl h
  | [], _ :: _, _ => rfl
  | _ :: _, [], _ => rfl
  | x :: a, y :: b, h => by
    show false = (eqP x y && sameP a b)
    rw [← sameP_len (a := a) (b := b) (fun e => h (by simp [e]))]; simp
theorem dropP {α : Type} {l : List α} {i : Nat} {y : α} (h : l[i]? = some y) : l.drop i = y :: l.drop (i + 1) := by
  obtain ⟨hi, rfl⟩ := List.getElem?_eq_some_iff.1 h
  exact List.drop_eq_getElem_cons hi
theorem sameP_step {a b : List PairT} {i : Nat} {x y : PairT} {z : Bool} (h : sameP (a.drop i) (b.drop i) = z) (hx : a[i]? = some x) (hy : b[i]? = some y) (he : eqP x y = true) : sameP (a.drop (i + 1)) (b.drop (i + 1)) = z := by
  rw [dropP hx, dropP hy] at h; unfold sameP at h; rwa [he, Bool.true_and] at h
theorem sameP_no {a b : List PairT} {i : Nat} {x y : PairT} {z : Bool} (h : sameP (a.drop i) (b.drop i) = z) (hx : a[i]? = some x) (hy : b[i]? = some y) (he : eqP x y = false) : false = z := by
  rw [dropP hx, dropP hy] at h; unfold sameP at h; rwa [he, Bool.false_and] at h
theorem sameP_end {a b : List PairT} {i : Nat} {z : Bool} (h : sameP (a.drop i) (b.drop i) = z) (hl : a.length = b.length) (hi : a.length ≤ i) : true = z := by
  rw [List.drop_eq_nil_of_le hi, List.drop_eq_nil_of_le (by omega)] at h; exact h
theorem eqP_of {x y : PairT} {b : Bool} (h : (!(x.1.toList == y.1.toList && x.2.toList == y.2.toList)) = b) : eqP x y = !b := by unfold eqP; rw [← h]; simp
theorem sameP_refl : ∀ a : List PairT, sameP a a = true
  | [] => rfl
  | x :: a => by show (eqP x x && sameP a a) = true; rw [sameP_refl a]; unfold eqP; simp


set_option maxRecDepth 100000 in
theorem few16_any (v : Value) (l : List MActT) (w : World) (hs : SliceOf mactE 6 w v l) (hok : ∀ z ∈ l, MActOk w z) :
    Calls Try.prog 8 #[v] w fun e w' => e = .returned (.bool (decide (Few l 40))) ∧ Below w.heap.size w w' := by
 have hB0 := Below.refl w.heap.size w
 have hl_hs := sl_len hs
 refine co_enter (n := 21) Try.func8 rfl rfl rfl [(0, v)] rfl (fun a h0 => ?_)
 refine co_seq ?_
 refine co_reg ?_
 refine pk0 (v := .bool false) h0 rfl fun a1 h1 => ?_; clear h0
 refine pl_nil ?_
 refine co_then ?_
 refine co_seq ?_
 refine co_seq ?_
 refine co_reg ?_
 refine pk0 (v := .int .i64 0) h1 rfl fun a2 h2 => ?_; clear h1
 refine pl_nil ?_
 refine co_then ?_
 refine wp_block ?_
 have h3 : Slots 21 [(0, v), (3, .int .i64 0)] _ := h2.sub ⟨rfl, rfl, trivial⟩; clear h2
 refine co_loop (fun mm a x => ∃ (i : Nat), Slots 21 [(0, v), (3, .int .i64 ((i : Nat) : Int))] a ∧ mm = l.length - i ∧ (i ≤ l.length) ∧ (i ≤ 40) ∧ (Few l i) ∧ Below w.heap.size w x) (l.length - 0) ?_ ?_
 · exact ⟨0, h3.sub ⟨rfl, (slot_eq rfl (congrArg (Value.int .i64) (by first | rfl | omega))), trivial⟩, rfl, by omega, by omega, by first | exact hf' | (intro a ha; simp at ha), hB0⟩
 · rintro k4 a5 w6 ⟨i, h5, rfl, hi7, hi8, hi9, hB10⟩
   have hz11 := hB10.size
   refine co_seq ?_
   refine co_seq ?_
   refine co_reg ?_
   refine pk0 (v := .int .i64 ((i : Nat) : Int)) h5 rfl fun a12 h12 => ?_; clear h5
   refine pk0 (v := v) h12 rfl fun a13 h13 => ?_; clear h12
   refine pk (v := .int .i64 ((l.length : Nat) : Int)) h13 rfl (rn_len rfl rfl Try.underlying22 (hs.below hB10)) fun a14 h14 => ?_; clear h13
   refine pk0 (v := .bool (decide (((i : Nat) : Int) < ((l.length : Nat) : Int)))) h14 rfl fun a15 h15 => ?_; clear h14
   refine pk0 (v := .bool (decide (((i : Nat) : Int) < ((l.length : Nat) : Int)))) h15 rfl fun a16 h16 => ?_; clear h15
   cases hc17 : (decide (((i : Nat) : Int) < ((l.length : Nat) : Int)))
   ·
    rw [hc17] at h16
    have hp18 : ¬ (((i : Nat) : Int) < ((l.length : Nat) : Int)) := of_decide_eq_false hc17
    clear hc17
    refine psk h16 rfl fun a19 h19 => ?_; clear h16
    refine psk h19 rfl fun a20 h20 => ?_; clear h19
    refine pk0 (v := .bool false) h20 rfl fun a21 h21 => ?_; clear h20
    refine pl_nil ?_
    refine co_then ?_
    refine co_false h21 rfl ?_
    refine wp_exit ?_
    refine co_thenX ?_
    refine co_thenX ?_
    refine co_blockX ?_
    refine co_then ?_
    refine co_seq ?_
    refine co_reg ?_
    refine pk0 (v := .bool true) h21 rfl fun a22 h22 => ?_; clear h21
    refine pl_nil ?_
    refine co_then ?_
    refine wp_ret ?_
    refine co_ret1 h22 rfl rfl ?_
    exact ⟨ret_bool (by first | exact (decide_eq_true (Few.all (by assumption) (by omega))).symm | exact (decide_eq_false (Few.not rfl (by omega) (by omega))).symm), hB10⟩
   ·
    rw [hc17] at h16
    have hp23 : ((i : Nat) : Int) < ((l.length : Nat) : Int) := of_decide_eq_true hc17
    clear hc17
    refine pk0 (v := .int .i64 ((i : Nat) : Int)) h16 rfl fun a24 h24 => ?_; clear h16
    refine pk0 (v := .bool (decide (((i : Nat) : Int) < 40))) h24 rfl fun a25 h25 => ?_; clear h24
    refine pk0 (v := .bool (decide (((i : Nat) : Int) < 40))) h25 rfl fun a26 h26 => ?_; clear h25
    refine pl_nil ?_
    refine co_then ?_
    cases hc27 : (decide (((i : Nat) : Int) < 40))
    ·
     rw [hc27] at h26
     have hp28 : ¬ (((i : Nat) : Int) < 40) := of_decide_eq_false hc27
     clear hc27
     refine co_false h26 rfl ?_
     refine wp_exit ?_
     refine co_thenX ?_
     refine co_thenX ?_
     refine co_blockX ?_
     refine co_then ?_
     refine co_seq ?_
     refine co_reg ?_
     refine pk0 (v := .bool true) h26 rfl fun a29 h29 => ?_; clear h26
     refine pl_nil ?_
     refine co_then ?_
     refine wp_ret ?_
     refine co_ret1 h29 rfl rfl ?_
     exact ⟨ret_bool (by first | exact (decide_eq_true (Few.all (by assumption) (by omega))).symm | exact (decide_eq_false (Few.not rfl (by omega) (by omega))).symm), hB10⟩
    ·
     rw [hc27] at h26
     have hp30 : ((i : Nat) : Int) < 40 := of_decide_eq_true hc27
     clear hc27
     refine co_true h26 rfl ?_
     refine wp_skip ?_
     refine co_then ?_
     refine co_seq ?_
     refine wp_block ?_
     refine co_seq ?_
     refine co_reg ?_
     refine pk0 (v := v) h26 rfl fun a31 h31 => ?_; clear h26
     refine pk0 (v := .int .i64 ((i : Nat) : Int)) h31 rfl fun a32 h32 => ?_; clear h31
     obtain ⟨y33, hy33⟩ : ∃ z, l[i]? = some z := ⟨_, List.getElem?_eq_getElem (by first | omega | (simp; done) | (simp; omega))⟩
     have oky33 := hok _ (List.mem_of_getElem? hy33)
     have k34 : 0 ≤ y33.ts := oky33.t0
     have k35 : y33.ts < 18446744073709551616 := oky33.t1
     refine pk (v := pt (blkOf v) (offOf v + i * 6)) h32 rfl (rn_index rfl rfl rfl Try.underlying22 Try.sizeOf34 (hs.below hB10) (by omega) (by first | omega | (simp; done) | (simp; omega))) fun a36 h36 => ?_; clear h32
     refine pk0 (v := pt (blkOf v) (offOf v + i * 6 + 2)) h36 rfl fun a37 h37 => ?_; clear h36
     refine pk (v := y33.v) h37 rfl (rn_load1 rfl rfl Try.isAgg32 ((sl_at (hs.below hB10) hy33) 2 _ rfl)) fun a38 h38 => ?_; clear h37
     refine pk (v := .int .i64 ((y33.l.length : Nat) : Int)) h38 rfl (rn_len rfl rfl Try.underlying32 (oky33.ops.below hB10)) fun a39 h39 => ?_; clear h38
     refine pk0 (v := .bool (decide (((y33.l.length : Nat) : Int) > 20))) h39 rfl fun a40 h40 => ?_; clear h39
     refine pl_nil ?_
     refine co_then ?_
     cases hc41 : (decide (((y33.l.length : Nat) : Int) > 20))
     ·
      rw [hc41] at h40
      have hp42 : ¬ (((y33.l.length : Nat) : Int) > 20) := of_decide_eq_false hc41
      clear hc41
      refine co_false h40 rfl ?_
      refine wp_skip ?_
      refine co_blockN ?_
      refine co_then ?_
      refine co_reg ?_
      refine pk0 (v := .int .i64 ((i : Nat) : Int)) h40 rfl fun a43 h43 => ?_; clear h40
      refine pk (v := .int .i64 ((i + 1 : Nat) : Int)) h43 rfl (rn_arith' rfl rfl rfl rfl rfl rfl (IntWalk.i64_in _ (by omega)) (by omega)) fun a44 h44 => ?_; clear h43
      refine pk0 (v := .int .i64 ((i + 1 : Nat) : Int)) h44 rfl fun a45 h45 => ?_; clear h44
      refine pl_nil ?_
      refine co_then ?_
      refine ⟨(l.length - (i + 1)), by omega, ?_⟩
      have hf' := Few.step (by assumption : Few l i) hy33 (by omega)
      exact ⟨i + 1, h45.sub ⟨rfl, rfl, trivial⟩, rfl, by omega, by omega, by first | exact hf' | (intro a ha; simp at ha), hB10⟩
     ·
      rw [hc41] at h40
      have hp46 : ((y33.l.length : Nat) : Int) > 20 := of_decide_eq_true hc41
      clear hc41
      refine co_true h40 rfl ?_
      refine co_seq ?_
      refine co_reg ?_
      refine pk0 (v := .bool false) h40 rfl fun a47 h47 => ?_; clear h40
      refine pl_nil ?_
      refine co_then ?_
      refine wp_ret ?_
      refine co_blockR ?_
      refine co_thenR ?_
      refine co_thenR ?_
      refine co_blockR ?_
      refine co_thenR ?_
      refine co_ret1 h47 rfl rfl ?_
      exact ⟨ret_bool (by first | exact (decide_eq_true (Few.all (by assumption) (by omega))).symm | exact (decide_eq_false (Few.not hy33 (by omega) (by omega))).symm), hB10⟩
set_option maxRecDepth 100000 in
theorem rsamePairs_any (v : Value) (l : List PairT) (v2 : Value) (l2 : List PairT) (w : World) (hs : SliceOf pairE 2 w v l) (hs2 : SliceOf pairE 2 w v2 l2) :
    Calls Try.prog 21 #[v, v2] w fun e w' => e = .returned (.bool (sameP l l2)) ∧ Below w.heap.size w w' := by
 have hB0 := Below.refl w.heap.size w
 have hl_hs := sl_len hs
 have hl_hs2 := sl_len hs2
 refine co_enter (n := 32) Try.func21 rfl rfl rfl [(0, v), (1, v2)] rfl (fun a h0 => ?_)
 refine co_seq ?_
 refine co_reg ?_
 refine pk0 (v := .bool false) h0 rfl fun a1 h1 => ?_; clear h0
 refine pl_nil ?_
 refine co_then ?_
 refine co_seq ?_
 refine co_seq ?_
 refine co_reg ?_
 refine pk0 (v := v) h1 rfl fun a2 h2 => ?_; clear h1
 refine pk (v := .int .i64 ((l.length : Nat) : Int)) h2 rfl (rn_len rfl rfl Try.underlying44 hs) fun a3 h3 => ?_; clear h2
 refine pk0 (v := v2) h3 rfl fun a4 h4 => ?_; clear h3
 refine pk (v := .int .i64 ((l2.length : Nat) : Int)) h4 rfl (rn_len rfl rfl Try.underlying44 hs2) fun a5 h5 => ?_; clear h4
 refine pk0 (v := .bool (((l.length : Nat) : Int) != ((l2.length : Nat) : Int))) h5 rfl fun a6 h6 => ?_; clear h5
 refine pl_nil ?_
 refine co_then ?_
 cases hc7 : (((l.length : Nat) : Int) != ((l2.length : Nat) : Int))
 ·
  rw [hc7] at h6
  have hp8 : ¬ (((l.length : Nat) : Int) ≠ ((l2.length : Nat) : Int)) := by first | simpa using hc7 | simpa [and_assoc] using hc7
  clear hc7
  refine co_false h6 rfl ?_
  refine wp_skip ?_
  refine co_then ?_
  refine co_seq ?_
  refine co_seq ?_
  refine co_reg ?_
  refine pk0 (v := .int .i64 0) h6 rfl fun a9 h9 => ?_; clear h6
  refine pl_nil ?_
  refine co_then ?_
  refine wp_block ?_
  have h10 : Slots 32 [(0, v), (1, v2), (4, .bool false), (5, .int .i64 0)] _ := h9.sub ⟨rfl, rfl, rfl, rfl, trivial⟩; clear h9
  refine co_loop (fun mm a x => ∃ (i : Nat), Slots 32 [(0, v), (1, v2), (4, .bool false), (5, .int .i64 ((i : Nat) : Int))] a ∧ mm = l.length - i ∧ (i ≤ l.length) ∧ (l.length = l2.length) ∧ (sameP (l.drop i) (l2.drop i) = sameP l l2) ∧ Below w.heap.size w x) (l.length - 0) ?_ ?_
  · exact ⟨0, h10.sub ⟨rfl, rfl, rfl, (slot_eq rfl (congrArg (Value.int .i64) (by first | rfl | omega))), trivial⟩, rfl, by omega, by omega, by first | rfl | exact hL', hB0⟩
  · rintro k11 a12 w13 ⟨i, h12, rfl, hi14, hi15, hi16, hB17⟩
    have hz18 := hB17.size
    have hL : sameP (l.drop i) (l2.drop i) = sameP l l2 := by assumption
    refine co_seq ?_
    refine co_seq ?_
    refine co_reg ?_
    refine pk0 (v := .int .i64 ((i : Nat) : Int)) h12 rfl fun a19 h19 => ?_; clear h12
    refine pk0 (v := v) h19 rfl fun a20 h20 => ?_; clear h19
    refine pk (v := .int .i64 ((l.length : Nat) : Int)) h20 rfl (rn_len rfl rfl Try.underlying44 (hs.below hB17)) fun a21 h21 => ?_; clear h20
    refine pk0 (v := .bool (decide (((i : Nat) : Int) < ((l.length : Nat) : Int)))) h21 rfl fun a22 h22 => ?_; clear h21
    refine pk0 (v := .bool (decide (((i : Nat) : Int) < ((l.length : Nat) : Int)))) h22 rfl fun a23 h23 => ?_; clear h22
    cases hc24 : (decide (((i : Nat) : Int) < ((l.length : Nat) : Int)))
    ·
     rw [hc24] at h23
     have hp25 : ¬ (((i : Nat) : Int) < ((l.length : Nat) : Int)) := of_decide_eq_false hc24
     clear hc24
     refine psk h23 rfl fun a26 h26 => ?_; clear h23
     refine psk h26 rfl fun a27 h27 => ?_; clear h26
     refine psk h27 rfl fun a28 h28 => ?_; clear h27
     refine psk h28 rfl fun a29 h29 => ?_; clear h28
     refine pk0 (v := .bool false) h29 rfl fun a30 h30 => ?_; clear h29
     refine pl_nil ?_
     refine co_then ?_
     refine co_false h30 rfl ?_
     refine wp_exit ?_
     refine co_thenX ?_
     refine co_thenX ?_
     refine co_blockX ?_
     refine co_then ?_
     refine co_seq ?_
     refine co_reg ?_
     refine pk0 (v := .bool true) h30 rfl fun a31 h31 => ?_; clear h30
     refine pl_nil ?_
     refine co_then ?_
     refine wp_ret ?_
     refine co_ret1 h31 rfl rfl ?_
     exact ⟨ret_bool (sameP_end (i := i) hL (by omega) (by omega)), hB17⟩
    ·
     rw [hc24] at h23
     have hp32 : ((i : Nat) : Int) < ((l.length : Nat) : Int) := of_decide_eq_true hc24
     clear hc24
     refine pk0 (v := .int .i64 ((i : Nat) : Int)) h23 rfl fun a33 h33 => ?_; clear h23
     refine pk0 (v := v2) h33 rfl fun a34 h34 => ?_; clear h33
     refine pk (v := .int .i64 ((l2.length : Nat) : Int)) h34 rfl (rn_len rfl rfl Try.underlying44 (hs2.below hB17)) fun a35 h35 => ?_; clear h34
     refine pk0 (v := .bool (decide (((i : Nat) : Int) < ((l2.length : Nat) : Int)))) h35 rfl fun a36 h36 => ?_; clear h35
     refine pk0 (v := .bool (decide (((i : Nat) : Int) < ((l2.length : Nat) : Int)))) h36 rfl fun a37 h37 => ?_; clear h36
     refine pl_nil ?_
     refine co_then ?_
     have hc38 : (decide (((i : Nat) : Int) < ((l2.length : Nat) : Int))) = true := decide_eq_true (by omega)
     rw [hc38] at h37; clear hc38
     refine co_true h37 rfl ?_
     refine wp_skip ?_
     refine co_then ?_
     refine co_seq ?_
     refine wp_block ?_
     refine co_seq ?_
     refine dr_eq (by kernel_rfl) (fun w39 hg40 => ?_)
     have hz41 := hg40.size
     refine dk0 0 (v := v) h37 rfl rfl rfl fun a42 h42 => ?_; clear h37
     refine dk0 1 (v := .int .i64 ((i : Nat) : Int)) h42 rfl rfl rfl fun a43 h43 => ?_; clear h42
     have hB45 := hb_new hB17 hg40
     obtain ⟨y44, hy44⟩ : ∃ z, l[i]? = some z := ⟨_, List.getElem?_eq_getElem (by first | omega | (simp; done) | (simp; omega))⟩
     refine dk 2 (v := pt (blkOf v) (offOf v + i * 2)) h43 rfl rfl rfl (fun x hx => by subst hx; exact (rn_index rfl rfl rfl Try.underlying44 Try.sizeOf51 (hs.below hB45) (by omega) (by first | omega | (simp; done) | (simp; omega)))) fun a46 h46 => ?_; clear h43
     refine dk 3 (v := .agg #[.string y44.1, .string y44.2]) h46 rfl rfl rfl (fun x hx => by subst hx; exact (rn_loadN rfl rfl Try.underlying51 rfl (by kernel_rfl) (sl_at (hs.below hB45) hy44))) fun a47 h47 => ?_; clear h46
     refine dk0 4 (v := v2) h47 rfl rfl rfl fun a48 h48 => ?_; clear h47
     refine dk0 5 (v := .int .i64 ((i : Nat) : Int)) h48 rfl rfl rfl fun a49 h49 => ?_; clear h48
     obtain ⟨y50, hy50⟩ : ∃ z, l2[i]? = some z := ⟨_, List.getElem?_eq_getElem (by first | omega | (simp; done) | (simp; omega))⟩
     refine dk 6 (v := pt (blkOf v2) (offOf v2 + i * 2)) h49 rfl rfl rfl (fun x hx => by subst hx; exact (rn_index rfl rfl rfl Try.underlying44 Try.sizeOf51 (hs2.below hB45) (by omega) (by first | omega | (simp; done) | (simp; omega)))) fun a51 h51 => ?_; clear h49
     refine dk 7 (v := .agg #[.string y50.1, .string y50.2]) h51 rfl rfl rfl (fun x hx => by subst hx; exact (rn_loadN rfl rfl Try.underlying51 rfl (by kernel_rfl) (sl_at (hs2.below hB45) hy50))) fun a52 h52 => ?_; clear h51
     refine dk 8 (v := .bool (!(y44.1.toList == y50.1.toList && y44.2.toList == y50.2.toList))) h52 rfl rfl rfl (fun x hx => by subst hx; exact (rn_neS rfl rfl rfl Try.eqGuardType51 (eq_pair _ _ _ _ _))) fun a53 h53 => ?_; clear h52
     refine dr_done (by kernel_rfl) ?_
     refine co_then ?_
     cases hc54 : (!(y44.1.toList == y50.1.toList && y44.2.toList == y50.2.toList))
     ·
      rw [hc54] at h53
      refine co_false h53 rfl ?_
      refine wp_skip ?_
      refine co_blockN ?_
      refine co_then ?_
      refine co_reg ?_
      refine pk0 (v := .int .i64 ((i : Nat) : Int)) h53 rfl fun a55 h55 => ?_; clear h53
      refine pk (v := .int .i64 ((i + 1 : Nat) : Int)) h55 rfl (rn_arith' rfl rfl rfl rfl rfl rfl (IntWalk.i64_in _ (by omega)) (by omega)) fun a56 h56 => ?_; clear h55
      refine pk0 (v := .int .i64 ((i + 1 : Nat) : Int)) h56 rfl fun a57 h57 => ?_; clear h56
      refine pl_nil ?_
      refine co_then ?_
      refine ⟨(l.length - (i + 1)), by omega, ?_⟩
      have hL' := sameP_step (i := i) hL hy44 hy50 (eqP_of (b := false) (by assumption))
      exact ⟨i + 1, h57.sub ⟨rfl, rfl, rfl, rfl, trivial⟩, rfl, by omega, by omega, by first | rfl | exact hL', hB45⟩
     ·
      rw [hc54] at h53
      refine co_true h53 rfl ?_
      refine co_seq ?_
      refine co_reg ?_
      refine pk0 (v := .bool false) h53 rfl fun a58 h58 => ?_; clear h53
      refine pl_nil ?_
      refine co_then ?_
      refine wp_ret ?_
      refine co_blockR ?_
      refine co_thenR ?_
      refine co_thenR ?_
      refine co_blockR ?_
      refine co_thenR ?_
      refine co_ret1 h58 rfl rfl ?_
      exact ⟨ret_bool (sameP_no (i := i) hL hy44 hy50 (eqP_of (b := true) (by assumption))), hB45⟩
 ·
  rw [hc7] at h6
  have hp59 : ((l.length : Nat) : Int) ≠ ((l2.length : Nat) : Int) := by first | simpa using hc7 | simpa [and_assoc] using hc7
  clear hc7
  refine co_true h6 rfl ?_
  refine co_seq ?_
  refine co_reg ?_
  refine pk0 (v := .bool false) h6 rfl fun a60 h60 => ?_; clear h6
  refine pl_nil ?_
  refine co_then ?_
  refine wp_ret ?_
  refine co_thenR ?_
  refine co_ret1 h60 rfl rfl ?_
  exact ⟨ret_bool (sameP_len (by omega)), hB0⟩

theorem MActOk.below {w x : World} {a : MActT} (h : MActOk w a) (hb : Below w.heap.size w x) : MActOk x a := ⟨h.ops.below hb, h.t0, h.t1, h.n0⟩
def awA : List OpT := [(⟨#[97]⟩, ⟨#[49]⟩, false)]
def awB : List OpT := [(⟨#[97]⟩, ⟨#[]⟩, true)]
noncomputable def awF : Fv := mvF (fun _ => []) 0 3 awA
noncomputable def awG : Fv := mvF awF 3 5 awB
theorem aw_ok : chkB 0 1 awA = 0 := by rfl
theorem bw_ok : chkB 0 1 awB = 0 := by
  have h : delV (⟨#[97]⟩, ⟨#[]⟩, true) = false := by unfold delV; simp
  have h2 : chkOp (⟨#[97]⟩, ⟨#[]⟩, true) = 0 := chkOp_d (by decide) (by decide) h
  unfold chkB awB; rw [if_neg (by decide), if_neg (by decide), if_neg (by decide)]; unfold chkL; rw [h2]; rfl
theorem aw_e : mvE 0 3 awA = 0 := by rw [mvE_c (by decide) (by decide), aw_ok]
theorem bw_e : mvE 3 5 awB = 0 := by rw [mvE_c (by decide) (by decide), bw_ok]
theorem awPut {S : Nat → Prop} {b : Nat} (w : World) (v : Value) (h : MvO S w b (fun _ => []) 0 0 0) (hs : SliceOf opE 3 w v awA) (hvS : awA ≠ [] → ∀ k, v.ownBlock = some k → ¬ S k) :
    Calls Try.prog 11 #[pt b 0, .int .u64 3, v] w fun e w' => ∃ S' : Nat → Prop, e = .returned (.int .i64 0) ∧ MvO S' w' b awF 3 1 1 ∧ Grew S S' w w' := by
  have := mvPut w 3 v awA h hs hvS (by decide) (by decide) (by decide)
  rw [aw_e, show mvLa 0 3 awA = 3 from by unfold mvLa; rw [if_pos aw_e], show mvCe 0 3 0 awA = 1 from by unfold mvCe; rw [if_pos aw_e]; rfl] at this
  exact this
theorem bwPut {S : Nat → Prop} {b : Nat} (w : World) (v : Value) (h : MvO S w b awF 3 1 1) (hs : SliceOf opE 3 w v awB) (hvS : awB ≠ [] → ∀ k, v.ownBlock = some k → ¬ S k) :
    Calls Try.prog 11 #[pt b 0, .int .u64 5, v] w fun e w' => ∃ S' : Nat → Prop, e = .returned (.int .i64 0) ∧ MvO S' w' b awG 5 2 2 ∧ Grew S S' w w' := by
  have := mvPut w 5 v awB h hs hvS (by decide) (by decide) (by decide)
  rw [bw_e, show mvLa 3 5 awB = 5 from by unfold mvLa; rw [if_pos bw_e], show mvCe 3 5 1 awB = 2 from by unfold mvCe; rw [if_pos bw_e]; rfl] at this
  exact this
theorem aw_at : awG ⟨#[97]⟩ = [(3, ⟨#[49]⟩, false), (5, ⟨#[]⟩, true)] := by
  have e1 : awF ⟨#[97]⟩ = [(3, ⟨#[49]⟩, false)] := by
    unfold awF mvF; rw [if_pos aw_e]
    have e : putsF (fun _ => []) 3 awA = upd (fun _ => []) ⟨#[97]⟩ ([] ++ [(3, ⟨#[49]⟩, false)]) := rfl
    rw [e, upd_eq]; rfl
  unfold awG mvF; rw [if_pos bw_e]
  have e : putsF awF 5 awB = upd awF ⟨#[97]⟩ (awF ⟨#[97]⟩ ++ [(5, ⟨#[]⟩, true)]) := rfl
  rw [e, upd_eq, e1]; rfl
theorem aw_4 : atS (awG ⟨#[97]⟩) 4 = (⟨#[49]⟩, true) := by rw [aw_at]; rfl
theorem aw_5 : atS (awG ⟨#[97]⟩) 5 = (⟨#[]⟩, false) := by rw [aw_at]; rfl

set_option maxRecDepth 100000 in
set_option maxHeartbeats 1600000 in
theorem awake16  (w : World)  :
    Calls Try.prog 9 #[] w fun e w' => e = .returned (.bool true) ∧ Below w.heap.size w w' := by
 have hB0 := Below.refl w.heap.size w
 refine co_enter (n := 54) Try.func9 rfl rfl rfl [] rfl (fun a h0 => ?_)
 refine co_seq ?_
 refine co_reg ?_
 refine pk0 (v := .bool false) h0 rfl fun a1 h1 => ?_; clear h0
 refine pl_nil ?_
 refine co_then ?_
 refine co_seq ?_
 refine co_reg ?_
 refine pw h1 rfl (op_call (args := #[]) (R := fun res xw => ∃ N S, res = pt N 0 ∧ MvO S xw N (fun _ => []) 0 0 0 ∧ (∀ q, S q → w.heap.size ≤ q) ∧ Below w.heap.size w xw) rfl rfl rfl (by kernel_rfl) (by kernel_rfl) (Try.call10 _ _) (mvNew w) (by rintro e x ⟨N, S, rfl, h⟩; exact ⟨_, rfl, N, S, rfl, h⟩)) ?_; clear h1
 rintro _ w3 a2 ⟨N4, S5, rfl, hO6, hlo7, hb8⟩ h2
 have hz9 := hb8.size
 have hlo10 : ∀ q, S5 q → w.heap.size ≤ q := fun q hq => by have := hlo7 q hq; omega
 refine pk0 (v := pt N4 0) h2 rfl fun a11 h11 => ?_; clear h2
 refine pl_nil ?_
 refine co_then ?_
 refine co_seq ?_
 refine co_reg ?_
 refine pk0 (v := pt N4 0) h11 rfl fun a12 h12 => ?_; clear h11
 refine pk0 (v := .agg #[.string (⟨#[97]⟩), .string (⟨#[49]⟩), .bool false]) h12 rfl fun a13 h13 => ?_; clear h12
 refine pw h13 rfl (op_new (v := fun N => .slice (some ⟨N, 0, none⟩) 1 1) (T := 60) (cs := #[.string (⟨#[97]⟩), .string (⟨#[49]⟩), .bool false]) (by kernel_rfl) (by kernel_rfl) (by kernel_rfl)) ?_; clear h13
 rintro _ w15 a14 ⟨N16, rfl, hN19, hz20, hk18, hg17⟩ h14
 have hz21 := hg17.size
 have ho22 := off_new (MvO.ofS hO6) hN19
 try dsimp only at h14
 have hB25 := hb_call hB0 hb8
 have hB26 := hb_new hB25 hg17
 have hO28 := MvO.gr hO6 hg17 (fun k e => by cases e)
 have ho27 := MvO.ofS hO28
 have hr29 := row_of_cells (enc := opE) (sz := 3) ([(⟨#[97]⟩, ⟨#[49]⟩, false)] : List OpT) hk18 (Nat.le_refl _) rfl rfl (by unfold maxLen; simp)
 refine pw h14 rfl (op_call (args := #[pt N4 0, .int .u64 3, .slice (some ⟨N16, 0, none⟩) 1 1]) (R := fun res xw => ∃ S' : Nat → Prop, res = .int .i64 0 ∧ MvO S' xw N4 awF 3 1 1 ∧ Grew S5 S' w15 xw) rfl rfl rfl (by kernel_rfl) (by kernel_rfl) (Try.call11 _ _) (awPut w15 (.slice (some ⟨N16, 0, none⟩) 1 1) hO28 (row_sl hr29 opE_len) (fun _ => (fun k hk => by cases hk; exact ho22))) (by rintro e x ⟨S', h0, h⟩; exact ⟨_, h0, S', rfl, h⟩)) ?_; clear h14
 rintro _ w24 a23 ⟨S30, rfl, hO31, hx32⟩ h23
 have hlo34 : ∀ q, S30 q → w.heap.size ≤ q := hx32.lo hlo10 (by omega)
 have hB33 := hbL hB26 hlo10 hx32.but
 have hz35 := hB33.size
 have hz36 := hx32.but.size
 refine pk0 (v := .int .i64 0) h23 rfl fun a37 h37 => ?_; clear h23
 refine pl_nil ?_
 refine co_then ?_
 refine co_seq ?_
 refine co_reg ?_
 refine pk0 (v := pt N4 0) h37 rfl fun a38 h38 => ?_; clear h37
 refine pk0 (v := .agg #[.string (⟨#[97]⟩), .string (⟨#[]⟩), .bool true]) h38 rfl fun a39 h39 => ?_; clear h38
 refine pw h39 rfl (op_new (v := fun N => .slice (some ⟨N, 0, none⟩) 1 1) (T := 60) (cs := #[.string (⟨#[97]⟩), .string (⟨#[]⟩), .bool true]) (by kernel_rfl) (by kernel_rfl) (by kernel_rfl)) ?_; clear h39
 rintro _ w41 a40 ⟨N42, rfl, hN45, hz46, hk44, hg43⟩ h40
 have hr48 := own_butS hr29 hx32.but (fun k hk => by cases hk; exact ho22)
 have ha47 := row_fresh hr48 hN45
 have hz49 := hg43.size
 have ho50 := off_new (MvO.ofS hO31) hN45
 try dsimp only at h40
 have hB53 := hb_new hB33 hg43
 have hO55 := MvO.gr hO31 hg43 (fun k e => by cases e)
 have ho54 := MvO.ofS hO55
 have hr56 := row_of_cells (enc := opE) (sz := 3) ([(⟨#[97]⟩, ⟨#[]⟩, true)] : List OpT) hk44 (Nat.le_refl _) rfl rfl (by unfold maxLen; simp)
 refine pw h40 rfl (op_call (args := #[pt N4 0, .int .u64 5, .slice (some ⟨N42, 0, none⟩) 1 1]) (R := fun res xw => ∃ S' : Nat → Prop, res = .int .i64 0 ∧ MvO S' xw N4 awG 5 2 2 ∧ Grew S30 S' w41 xw) rfl rfl rfl (by kernel_rfl) (by kernel_rfl) (Try.call11 _ _) (bwPut w41 (.slice (some ⟨N42, 0, none⟩) 1 1) hO55 (row_sl hr56 opE_len) (fun _ => (fun k hk => by cases hk; exact ho50))) (by rintro e x ⟨S', h0, h⟩; exact ⟨_, h0, S', rfl, h⟩)) ?_; clear h40
 rintro _ w52 a51 ⟨S57, rfl, hO58, hx59⟩ h51
 have hr60 := row_kept_new hr48 hg43
 have hlo62 : ∀ q, S57 q → w.heap.size ≤ q := hx59.lo hlo34 (by omega)
 have hB61 := hbL hB53 hlo34 hx59.but
 have hz63 := hB61.size
 have hz64 := hx59.but.size
 refine pk0 (v := .int .i64 0) h51 rfl fun a65 h65 => ?_; clear h51
 refine pl_nil ?_
 refine co_then ?_
 refine co_seq ?_
 refine co_reg ?_
 refine pk0 (v := pt N4 0) h65 rfl fun a66 h66 => ?_; clear h65
 have ho69 := MvO.ofS hO58
 refine pw h66 rfl (op_call (args := #[pt N4 0, .string (⟨#[97]⟩), .int .u64 4]) (R := fun res xw => res = .tuple #[.string (⟨#[49]⟩), .bool true] ∧ Below w52.heap.size w52 xw) rfl rfl rfl (by kernel_rfl) (by kernel_rfl) (Try.call19 _ _) (mvGet w52 (⟨#[97]⟩) 4 hO58) (by rintro e x ⟨rfl, h⟩; rw [aw_4]; exact ⟨_, rfl, rfl, h⟩)) ?_; clear h66
 rintro _ w68 a67 ⟨rfl, hb70⟩ h67
 have hz71 := hb70.size
 have ho72 := MvO.ofS hO58
 refine pk0 (v := .tuple #[.string (⟨#[49]⟩), .bool true]) h67 rfl fun a73 h73 => ?_; clear h67
 refine pk0 (v := .string (⟨#[49]⟩)) h73 rfl fun a74 h74 => ?_; clear h73
 refine pk0 (v := .bool true) h74 rfl fun a75 h75 => ?_; clear h74
 refine pk0 (v := .string (⟨#[49]⟩)) h75 rfl fun a76 h76 => ?_; clear h75
 refine pk0 (v := .bool true) h76 rfl fun a77 h77 => ?_; clear h76
 refine pl_nil ?_
 refine co_then ?_
 refine co_seq ?_
 refine co_reg ?_
 refine pk0 (v := pt N4 0) h77 rfl fun a78 h78 => ?_; clear h77
 have hB81 := hb_call hB61 hb70
 have hr82 := own_butS hr60 hx59.but (Grew.offR hx32 hr29 (fun k hk => by cases hk; exact ho22))
 have hr83 := row_kept_new hr82 (below_grown hb70)
 have hr84 := own_butS hr56 hx59.but (fun k hk => by cases hk; exact ho50)
 have hr85 := row_kept_new hr84 (below_grown hb70)
 have hO87 := MvO.gr hO58 (below_grown hb70) (fun k e => by cases e)
 have ho86 := MvO.ofS hO87
 refine pw h78 rfl (op_call (args := #[pt N4 0, .string (⟨#[97]⟩), .int .u64 5]) (R := fun res xw => res = .tuple #[.string (⟨#[]⟩), .bool false] ∧ Below w68.heap.size w68 xw) rfl rfl rfl (by kernel_rfl) (by kernel_rfl) (Try.call19 _ _) (mvGet w68 (⟨#[97]⟩) 5 hO87) (by rintro e x ⟨rfl, h⟩; rw [aw_5]; exact ⟨_, rfl, rfl, h⟩)) ?_; clear h78
 rintro _ w80 a79 ⟨rfl, hb88⟩ h79
 have hz89 := hb88.size
 have ho90 := MvO.ofS hO87
 refine pk0 (v := .tuple #[.string (⟨#[]⟩), .bool false]) h79 rfl fun a91 h91 => ?_; clear h79
 refine pk0 (v := .string (⟨#[]⟩)) h91 rfl fun a92 h92 => ?_; clear h91
 refine pk0 (v := .bool false) h92 rfl fun a93 h93 => ?_; clear h92
 refine pk0 (v := .string (⟨#[]⟩)) h93 rfl fun a94 h94 => ?_; clear h93
 refine pk0 (v := .bool false) h94 rfl fun a95 h95 => ?_; clear h94
 refine pl_nil ?_
 refine co_then ?_
 refine co_seq ?_
 refine co_reg ?_
 refine pk0 (v := .int .i64 0) h95 rfl fun a96 h96 => ?_; clear h95
 refine pk0 (v := .bool ((0 : Int) == 0)) h96 rfl fun a97 h97 => ?_; clear h96
 refine pk0 (v := .bool ((0 : Int) == 0)) h97 rfl fun a98 h98 => ?_; clear h97
 have hc99 : ((0 : Int) == 0) = true := by first | (simp; done) | (simp; omega) | exact beq_false_of_ne (by omega) | exact beq_iff_eq.2 (by omega)
 rw [hc99] at h98; clear hc99
 refine pk0 (v := .int .i64 0) h98 rfl fun a100 h100 => ?_; clear h98
 refine pk0 (v := .bool ((0 : Int) == 0)) h100 rfl fun a101 h101 => ?_; clear h100
 refine pk0 (v := .bool ((0 : Int) == 0)) h101 rfl fun a102 h102 => ?_; clear h101
 refine pk0 (v := .bool ((0 : Int) == 0)) h102 rfl fun a103 h103 => ?_; clear h102
 have hc104 : ((0 : Int) == 0) = true := by first | (simp; done) | (simp; omega) | exact beq_false_of_ne (by omega) | exact beq_iff_eq.2 (by omega)
 rw [hc104] at h103; clear hc104
 refine pk0 (v := .string (⟨#[49]⟩)) h103 rfl fun a105 h105 => ?_; clear h103
 refine pk0 (v := .bool ((⟨#[49]⟩ : ByteArray).toList == (⟨#[49]⟩ : ByteArray).toList)) h105 rfl fun a106 h106 => ?_; clear h105
 refine pk0 (v := .bool ((⟨#[49]⟩ : ByteArray).toList == (⟨#[49]⟩ : ByteArray).toList)) h106 rfl fun a107 h107 => ?_; clear h106
 refine pk0 (v := .bool ((⟨#[49]⟩ : ByteArray).toList == (⟨#[49]⟩ : ByteArray).toList)) h107 rfl fun a108 h108 => ?_; clear h107
 have hc109 : ((⟨#[49]⟩ : ByteArray).toList == (⟨#[49]⟩ : ByteArray).toList) = true := by first | (simp; done) | (simp; omega) | exact beq_false_of_ne (by omega) | exact beq_iff_eq.2 (by omega)
 rw [hc109] at h108; clear hc109
 refine pk0 (v := .bool true) h108 rfl fun a110 h110 => ?_; clear h108
 refine pk0 (v := .bool true) h110 rfl fun a111 h111 => ?_; clear h110
 refine pk0 (v := .bool true) h111 rfl fun a112 h112 => ?_; clear h111
 refine pk0 (v := .bool false) h112 rfl fun a113 h113 => ?_; clear h112
 refine pk0 (v := .bool true) h113 rfl fun a114 h114 => ?_; clear h113
 refine pk0 (v := .bool true) h114 rfl fun a115 h115 => ?_; clear h114
 refine pk0 (v := .bool true) h115 rfl fun a116 h116 => ?_; clear h115
 refine pk0 (v := pt N4 0) h116 rfl fun a117 h117 => ?_; clear h116
 have hB120 := hb_call hB81 hb88
 have hO121 := MvO.gr hO87 (below_grown hb88) (fun k e => by cases e)
 refine pw h117 rfl (op_call (args := #[pt N4 0]) (R := fun res xw => res = .int .u64 5 ∧ w80 = xw) rfl rfl rfl (by kernel_rfl) (by kernel_rfl) (Try.call16 _ _) (mvLast w80 hO121) (by rintro e x ⟨rfl, rfl⟩; exact ⟨_, rfl, rfl, rfl⟩)) ?_; clear h117
 rintro _ _ a118 ⟨rfl, rfl⟩ h118
 refine pk0 (v := .bool ((5 : Int) == 5)) h118 rfl fun a122 h122 => ?_; clear h118
 refine pk0 (v := .bool ((5 : Int) == 5)) h122 rfl fun a123 h123 => ?_; clear h122
 refine pk0 (v := .bool ((5 : Int) == 5)) h123 rfl fun a124 h124 => ?_; clear h123
 have hc125 : ((5 : Int) == 5) = true := by first | (simp; done) | (simp; omega) | exact beq_false_of_ne (by omega) | exact beq_iff_eq.2 (by omega)
 rw [hc125] at h124; clear hc125
 refine pk0 (v := pt N4 0) h124 rfl fun a126 h126 => ?_; clear h124
 refine pw h126 rfl (op_call (args := #[pt N4 0]) (R := fun res xw => res = .int .i64 2 ∧ w80 = xw) rfl rfl rfl (by kernel_rfl) (by kernel_rfl) (Try.call17 _ _) (mvCells w80 hO121) (by rintro e x ⟨rfl, rfl⟩; exact ⟨_, rfl, rfl, rfl⟩)) ?_; clear h126
 rintro _ _ a127 ⟨rfl, rfl⟩ h127
 refine pk0 (v := .bool ((2 : Int) == 2)) h127 rfl fun a129 h129 => ?_; clear h127
 refine pk0 (v := .bool ((2 : Int) == 2)) h129 rfl fun a130 h130 => ?_; clear h129
 refine pk0 (v := .bool ((2 : Int) == 2)) h130 rfl fun a131 h131 => ?_; clear h130
 refine pl_nil ?_
 refine co_then ?_
 refine wp_ret ?_
 refine co_ret1 h131 rfl rfl ?_
 exact ⟨rfl, hB120⟩
end Go.Proofs.Ytfjhlckklgeokaa
