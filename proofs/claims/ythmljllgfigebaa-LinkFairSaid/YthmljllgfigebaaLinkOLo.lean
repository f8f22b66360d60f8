/- catenalaw22: two lists of segments, of texts; what comes in. Conditions: none. -/
import Derived.Test.YthmljllgfigebaaLinkNLo
import Derived.Test.YthmljllgfigebaaOpen
import Derived.Laws.StructEq
namespace Go.Proofs.Ythmljllgfigebaa
open Go.RowKit Go.PlainAid
set_option linter.unusedVariables false


def segEq (a b : SegT) : Bool := a.boot == b.boot && a.stream == b.stream && a.seq == b.seq && a.ab == b.ab && a.ast == b.ast && a.asq == b.asq && a.has == b.has && a.body.toList == b.body.toList
theorem segEq_self (a : SegT) : segEq a a = true := by simp [segEq]
theorem eq_seg (a b : SegT) (w : World) : (binOp .eql 61 (segV a) (segV b)).run Try.prog w = .ok (.bool (segEq a b)) w := by
  have u := Try.underlying3
  have us := Try.underlying9
  have ub := Try.underlying4
  have hS : Try.prog.underlying 61 = some (.struct (Try.prog.fieldsOf 61)) := by kernel_rfl
  have hp : Try.prog.stoodInHeld 61 = false := by kernel_rfl
  obtain ⟨a1, a2, a3, a4, a5, a6, a7, a8⟩ := a
  obtain ⟨b1, b2, b3, b4, b5, b6, b7, b8⟩ := b
  unfold segV
  rw [run_eql_struct, show (10000 : Nat) = 9999 + 1 from rfl, run_equalIn_agg w 9999 61 _ _ hS hp]
  simp only [Program.fieldsOf, Try.underlying61]
  go_simp
  unfold segEq
  repeat' split
  all_goals simp_all
set_option maxRecDepth 100000 in
set_option maxHeartbeats 800000 in
/-- A list is itself. -/
theorem same_anyL (u v : Value) (l : List ByteArray) (w : World) (hu : SliceOf strE 1 w u l) (hv : SliceOf strE 1 w v l) :
    Calls Try.prog 24 #[u, v] w fun e w' => e = .returned (.bool true) ∧ Below w.heap.size w w' := by
  have HU := Lib.hid hu; have HV := Lib.hid hv
  obtain ⟨ao, cap, rfl, hcap, hcm, _, _⟩ := hu
  obtain ⟨a2, c2, rfl, hcap2, hcm2, _, _⟩ := hv
  go_enter Try.func24, Try.ntmps24
  go_wp2
  go_loopg [5] (l.length + 1) (fun g s5 wr => ∃ i : Nat, s5 = .int .i64 i ∧ i ≤ l.length ∧ l.length + 1 ≤ i + g ∧ Hid (SliceOf strE 1 wr (.slice ao l.length cap) l) ∧ Hid (SliceOf strE 1 wr (.slice a2 l.length c2) l) ∧ Hid (Below w.heap.size w wr))
  case atStart => exact ⟨0, rfl, by omega, by omega, HU, HV, Lib.hid (Below.refl _ _)⟩
  case round =>
    obtain ⟨i, rfl, hi, hg, H1, H2, HB⟩ := hrel
    by_cases hlt : i < l.length
    · obtain ⟨b, off, rfl, k1⟩ := strAtL H1.out i hlt
      obtain ⟨b', off', rfl, k2⟩ := strAtL H2.out i hlt
      obtain ⟨s, hs⟩ : ∃ s, s = l.getD i ⟨#[]⟩ := ⟨_, rfl⟩
      rw [← hs] at k1 k2
      have hd : decide ((i : Int) < (l.length : Int)) = true := decide_eq_true (by omega)
      clear hs
      go_wp2_with fail
      go_quiet (fail)
      obtain ⟨z, hz⟩ : ∃ z, z = nq := ⟨_, rfl⟩
      rw [← hz]; clear hz
      go_wp2
      go_roundg (gk - 1)
      case rel => exact ⟨i + 1, by go_num, by omega, by omega, Lib.hid (H1.out.below (below_draws (Below.refl _ _) z)), Lib.hid (H2.out.below (below_draws (Below.refl _ _) z)), Lib.hid (below_draws HB.out z)⟩
      case measure => omega
    · have hd : decide ((i : Int) < (l.length : Int)) = false := decide_eq_false (by omega)
      go_wp2
      go_ret
      exact ⟨rfl, HB.out⟩
/-- A call of stage 22. -/
structure LActT where
  c : Int
  s : ByteArray
  again : Bool
  g : SegT
instance : Inhabited LActT := ⟨⟨0, ⟨#[]⟩, false, ⟨0, 0, 0, 0, 0, 0, false, ⟨#[]⟩⟩⟩⟩
def lactE (a : LActT) : List Value := [.int .i64 a.c, .string a.s, .bool a.again, .int .i64 a.g.boot, .int .i64 a.g.stream, .int .i64 a.g.seq, .int .i64 a.g.ab, .int .i64 a.g.ast, .int .i64 a.g.asq, .bool a.g.has, .string a.g.body]
theorem lactE_len (a : LActT) : (lactE a).length = 11 := rfl
def LActOk (_ : LActT) : Prop := True
section
variable {H : Type} {enc : TypeId × Value → H} {w : World} {base : Nat} {spare : Nat → Bool} {held : Bool}
set_option maxRecDepth 10000 in
theorem elem_seg (n : Nat) (cs : List Value) (x : DataW H × List MemPlace) (h : DataW.trod enc Try.prog w base spare held n 61 cs = some x) : ∃ p, cs = segE p ∧ ((Lit.int .i64 p.boot).wf = true ∧ (Lit.int .i64 p.stream).wf = true ∧ (Lit.int .i64 p.seq).wf = true ∧ (Lit.int .i64 p.ab).wf = true ∧ (Lit.int .i64 p.ast).wf = true ∧ (Lit.int .i64 p.asq).wf = true ∧ p.body.size ≤ 9223372036854775807) := by
  obtain ⟨hl, m, hf⟩ := trod_fields Try.underlying61 (by kernel_rfl) (by kernel_rfl) h
  have hl8 : cs.length = 8 := hl
  clear hl
  match cs, hl8 with
  | [c0, c1, c2, c3, c4, c5, c6, c7], _ =>
    obtain ⟨_, y0, e0, h0⟩ := hf 0 _ rfl
    obtain ⟨_, y1, e1, h1⟩ := hf 1 _ rfl
    obtain ⟨_, y2, e2, h2⟩ := hf 2 _ rfl
    obtain ⟨_, y3, e3, h3⟩ := hf 3 _ rfl
    obtain ⟨_, y4, e4, h4⟩ := hf 4 _ rfl
    obtain ⟨_, y5, e5, h5⟩ := hf 5 _ rfl
    obtain ⟨_, y6, e6, h6⟩ := hf 6 _ rfl
    obtain ⟨_, y7, e7, h7⟩ := hf 7 _ rfl
    cases e0; cases e1; cases e2; cases e3; cases e4; cases e5; cases e6; cases e7
    obtain ⟨a0, e0, _, w0⟩ := DataW.trod_int Try.underlying3 h0
    obtain ⟨a1, e1, _, w1⟩ := DataW.trod_int Try.underlying3 h1
    obtain ⟨a2, e2, _, w2⟩ := DataW.trod_int Try.underlying3 h2
    obtain ⟨a3, e3, _, w3⟩ := DataW.trod_int Try.underlying3 h3
    obtain ⟨a4, e4, _, w4⟩ := DataW.trod_int Try.underlying3 h4
    obtain ⟨a5, e5, _, w5⟩ := DataW.trod_int Try.underlying3 h5
    obtain ⟨a6, e6, _⟩ := DataW.trod_bool Try.underlying4 h6
    obtain ⟨a7, e7, _, w7⟩ := DataW.trod_string Try.underlying9 h7
    simp only [List.cons.injEq, and_true] at e0 e1 e2 e3 e4 e5 e6 e7
    subst e0 e1 e2 e3 e4 e5 e6 e7
    exact ⟨⟨a0, a1, a2, a3, a4, a5, a6, a7⟩, rfl, w0, w1, w2, w3, w4, w5, by unfold maxLen at w7; exact w7⟩
set_option maxRecDepth 10000 in
theorem elem_lact (n : Nat) (cs : List Value) (x : DataW H × List MemPlace) (h : DataW.trod enc Try.prog w base spare held n 63 cs = some x) : ∃ e, cs = lactE e ∧ LActOk e := by
  obtain ⟨xs, m, _, _, hl, hxl, hf⟩ := DataW.trod_struct Try.underlying63 h
  have hl11 : cs.length = 11 := hl
  have hx4 : xs.length = 4 := hxl
  clear hl hxl
  match cs, hl11 with
  | [c0, c1, c2, c3, c4, c5, c6, c7, c8, c9, c10], _ =>
    have h0 := hf 0 _ rfl
    have h1 := hf 1 _ rfl
    have h2 := hf 2 _ rfl
    have h3 := hf 3 _ rfl
    obtain ⟨y0, hy0⟩ : ∃ y, xs[0]? = some y := ⟨_, List.getElem?_eq_getElem (by omega)⟩
    obtain ⟨y1, hy1⟩ : ∃ y, xs[1]? = some y := ⟨_, List.getElem?_eq_getElem (by omega)⟩
    obtain ⟨y2, hy2⟩ : ∃ y, xs[2]? = some y := ⟨_, List.getElem?_eq_getElem (by omega)⟩
    obtain ⟨y3, hy3⟩ : ∃ y, xs[3]? = some y := ⟨_, List.getElem?_eq_getElem (by omega)⟩
    rw [hy0] at h0; rw [hy1] at h1; rw [hy2] at h2; rw [hy3] at h3
    have h0' : DataW.trod enc Try.prog w base spare held m 3 [c0] = some y0 := h0
    have h1' : DataW.trod enc Try.prog w base spare held m 9 [c1] = some y1 := h1
    have h2' : DataW.trod enc Try.prog w base spare held m 4 [c2] = some y2 := h2
    have h3' : DataW.trod enc Try.prog w base spare held m 61 [c3, c4, c5, c6, c7, c8, c9, c10] = some y3 := h3
    obtain ⟨a0, e0, _, w0⟩ := DataW.trod_int Try.underlying3 h0'
    obtain ⟨a1, e1, _, w1⟩ := DataW.trod_string Try.underlying9 h1'
    obtain ⟨a2, e2, _⟩ := DataW.trod_bool Try.underlying4 h2'
    obtain ⟨g, e3, _⟩ := elem_seg m _ _ h3'
    simp only [List.cons.injEq, and_true] at e0 e1 e2
    subst e0 e1 e2
    refine ⟨⟨a0, a1, a2, g⟩, ?_, trivial⟩
    have e3' : [c3, c4, c5, c6, c7, c8, c9, c10] = segE g := e3
    show _ :: _ :: _ :: [c3, c4, c5, c6, c7, c8, c9, c10] = _
    rw [e3']; rfl
theorem open_lacts {fuel : Nat} {cs : List Value} {x : DataW H × List MemPlace} (h : DataW.trod enc Try.prog w base spare held fuel 52 cs = some x) :
    ∃ (l : List LActT) (v : Value), cs = [v] ∧ SliceOf lactE 11 w v l ∧ ∀ p ∈ l, LActOk p :=
  open_rows lactE 11 LActOk Try.underlying52 (by kernel_rfl) (by omega) elem_lact h
end

set_option maxRecDepth 100000 in
theorem sameSegs_any (u : Value) (v : Value) (l : List SegT) (w : World) (hu : SliceOf segE 8 w u l) (hv : SliceOf segE 8 w v l) :
    Calls Try.prog 36 #[u, v] w fun e w' => e = .returned (.bool true) ∧ Below w.heap.size w w' := by
 have hB0 := Below.refl w.heap.size w
 have hl_hu := sl_len hu
 have hl_hv := sl_len hv
 refine co_enter (n := 32) Try.func36 rfl rfl rfl [(0, u), (1, v)] rfl (fun a h0 => ?_)
 refine co_seq ?_
 refine co_reg ?_
 refine pk0 (v := .bool false) h0 rfl fun a1 h1 => ?_; clear h0
 refine pl_nil ?_
 refine co_then ?_
 refine co_seq ?_
 refine co_seq ?_
 refine co_reg ?_
 refine pk0 (v := u) h1 rfl fun a2 h2 => ?_; clear h1
 refine pk (v := .int .i64 ((l.length : Nat) : Int)) h2 rfl (rn_len rfl rfl Try.underlying67 hu) fun a3 h3 => ?_; clear h2
 refine pk0 (v := v) h3 rfl fun a4 h4 => ?_; clear h3
 refine pk (v := .int .i64 ((l.length : Nat) : Int)) h4 rfl (rn_len rfl rfl Try.underlying67 hv) fun a5 h5 => ?_; clear h4
 refine pk0 (v := .bool (((l.length : Nat) : Int) != ((l.length : Nat) : Int))) h5 rfl fun a6 h6 => ?_; clear h5
 refine pl_nil ?_
 refine co_then ?_
 have hc7 : (((l.length : Nat) : Int) != ((l.length : Nat) : Int)) = false := by first | (simp; done) | (simp; omega) | exact beq_false_of_ne (by omega) | exact beq_iff_eq.2 (by omega)
 rw [hc7] at h6; clear hc7
 refine co_false h6 rfl ?_
 refine wp_skip ?_
 refine co_then ?_
 refine co_seq ?_
 refine co_seq ?_
 refine co_reg ?_
 refine pk0 (v := .int .i64 0) h6 rfl fun a8 h8 => ?_; clear h6
 refine pl_nil ?_
 refine co_then ?_
 refine wp_block ?_
 have h9 : Slots 32 [(0, u), (1, v), (5, .int .i64 0)] _ := h8.sub ⟨rfl, rfl, rfl, trivial⟩; clear h8
 refine co_loop (fun mm a x => ∃ (i : Nat), Slots 32 [(0, u), (1, v), (5, .int .i64 ((i : Nat) : Int))] a ∧ mm = l.length - i ∧ (i ≤ l.length) ∧ Below w.heap.size w x) (l.length - 0) ?_ ?_
 · exact ⟨0, h9.sub ⟨rfl, rfl, (slot_eq rfl (congrArg (Value.int .i64) (by first | rfl | omega))), trivial⟩, rfl, by omega, hB0⟩
 · rintro k10 a11 w12 ⟨i, h11, rfl, hi13, hB14⟩
   have hz15 := hB14.size
   refine co_seq ?_
   refine co_seq ?_
   refine co_reg ?_
   refine pk0 (v := .int .i64 ((i : Nat) : Int)) h11 rfl fun a16 h16 => ?_; clear h11
   refine pk0 (v := u) h16 rfl fun a17 h17 => ?_; clear h16
   refine pk (v := .int .i64 ((l.length : Nat) : Int)) h17 rfl (rn_len rfl rfl Try.underlying67 (hu.below hB14)) fun a18 h18 => ?_; clear h17
   refine pk0 (v := .bool (decide (((i : Nat) : Int) < ((l.length : Nat) : Int)))) h18 rfl fun a19 h19 => ?_; clear h18
   refine pk0 (v := .bool (decide (((i : Nat) : Int) < ((l.length : Nat) : Int)))) h19 rfl fun a20 h20 => ?_; clear h19
   cases hc21 : (decide (((i : Nat) : Int) < ((l.length : Nat) : Int)))
   ·
    rw [hc21] at h20
    have hp22 : ¬ (((i : Nat) : Int) < ((l.length : Nat) : Int)) := of_decide_eq_false hc21
    clear hc21
    refine psk h20 rfl fun a23 h23 => ?_; clear h20
    refine psk h23 rfl fun a24 h24 => ?_; clear h23
    refine psk h24 rfl fun a25 h25 => ?_; clear h24
    refine psk h25 rfl fun a26 h26 => ?_; clear h25
    refine pk0 (v := .bool false) h26 rfl fun a27 h27 => ?_; clear h26
    refine pl_nil ?_
    refine co_then ?_
    refine co_false h27 rfl ?_
    refine wp_exit ?_
    refine co_thenX ?_
    refine co_thenX ?_
    refine co_blockX ?_
    refine co_then ?_
    refine co_seq ?_
    refine co_reg ?_
    refine pk0 (v := .bool true) h27 rfl fun a28 h28 => ?_; clear h27
    refine pl_nil ?_
    refine co_then ?_
    refine wp_ret ?_
    refine co_ret1 h28 rfl rfl ?_
    exact ⟨rfl, hB14⟩
   ·
    rw [hc21] at h20
    have hp29 : ((i : Nat) : Int) < ((l.length : Nat) : Int) := of_decide_eq_true hc21
    clear hc21
    refine pk0 (v := .int .i64 ((i : Nat) : Int)) h20 rfl fun a30 h30 => ?_; clear h20
    refine pk0 (v := v) h30 rfl fun a31 h31 => ?_; clear h30
    refine pk (v := .int .i64 ((l.length : Nat) : Int)) h31 rfl (rn_len rfl rfl Try.underlying67 (hv.below hB14)) fun a32 h32 => ?_; clear h31
    refine pk0 (v := .bool (decide (((i : Nat) : Int) < ((l.length : Nat) : Int)))) h32 rfl fun a33 h33 => ?_; clear h32
    refine pk0 (v := .bool (decide (((i : Nat) : Int) < ((l.length : Nat) : Int)))) h33 rfl fun a34 h34 => ?_; clear h33
    refine pl_nil ?_
    refine co_then ?_
    have hc35 : (decide (((i : Nat) : Int) < ((l.length : Nat) : Int))) = true := decide_eq_true (by omega)
    rw [hc35] at h34; clear hc35
    refine co_true h34 rfl ?_
    refine wp_skip ?_
    refine co_then ?_
    refine co_seq ?_
    refine wp_block ?_
    refine co_seq ?_
    refine dr_eq (by kernel_rfl) (fun w36 hg37 => ?_)
    have hz38 := hg37.size
    refine dk0 0 (v := u) h34 rfl rfl rfl fun a39 h39 => ?_; clear h34
    refine dk0 1 (v := .int .i64 ((i : Nat) : Int)) h39 rfl rfl rfl fun a40 h40 => ?_; clear h39
    have hB42 := hb_new hB14 hg37
    obtain ⟨y41, hy41⟩ : ∃ z, l[i]? = some z := ⟨_, List.getElem?_eq_getElem (by first | omega | (simp; done) | (simp; omega))⟩
    refine dk 2 (v := pt (blkOf u) (offOf u + i * 8)) h40 rfl rfl rfl (fun x hx => by subst hx; exact (rn_index rfl rfl rfl Try.underlying67 Try.sizeOf61 (hu.below hB42) (by omega) (by first | omega | (simp; done) | (simp; omega)))) fun a43 h43 => ?_; clear h40
    refine dk 3 (v := .agg #[.int .i64 y41.boot, .int .i64 y41.stream, .int .i64 y41.seq, .int .i64 y41.ab, .int .i64 y41.ast, .int .i64 y41.asq, .bool y41.has, .string y41.body]) h43 rfl rfl rfl (fun x hx => by subst hx; exact (rn_loadN rfl rfl Try.underlying61 rfl (by kernel_rfl) (sl_at (hu.below hB42) hy41))) fun a44 h44 => ?_; clear h43
    refine dk0 4 (v := v) h44 rfl rfl rfl fun a45 h45 => ?_; clear h44
    refine dk0 5 (v := .int .i64 ((i : Nat) : Int)) h45 rfl rfl rfl fun a46 h46 => ?_; clear h45
    refine dk 6 (v := pt (blkOf v) (offOf v + i * 8)) h46 rfl rfl rfl (fun x hx => by subst hx; exact (rn_index rfl rfl rfl Try.underlying67 Try.sizeOf61 (hv.below hB42) (by omega) (by first | omega | (simp; done) | (simp; omega)))) fun a47 h47 => ?_; clear h46
    refine dk 7 (v := .agg #[.int .i64 y41.boot, .int .i64 y41.stream, .int .i64 y41.seq, .int .i64 y41.ab, .int .i64 y41.ast, .int .i64 y41.asq, .bool y41.has, .string y41.body]) h47 rfl rfl rfl (fun x hx => by subst hx; exact (rn_loadN rfl rfl Try.underlying61 rfl (by kernel_rfl) (sl_at (hv.below hB42) hy41))) fun a48 h48 => ?_; clear h47
    refine dk 8 (v := .bool (!(segEq y41 y41))) h48 rfl rfl rfl (fun x hx => by subst hx; exact (rn_neS rfl rfl rfl Try.eqGuardType61 (eq_seg y41 y41 _))) fun a49 h49 => ?_; clear h48
    refine dr_done (by kernel_rfl) ?_
    refine co_then ?_
    have hc50 : (!(segEq y41 y41)) = false := by rw [segEq_self]; rfl
    rw [hc50] at h49; clear hc50
    refine co_false h49 rfl ?_
    refine wp_skip ?_
    refine co_blockN ?_
    refine co_then ?_
    refine co_reg ?_
    refine pk0 (v := .int .i64 ((i : Nat) : Int)) h49 rfl fun a51 h51 => ?_; clear h49
    refine pk (v := .int .i64 ((i + 1 : Nat) : Int)) h51 rfl (rn_arith' rfl rfl rfl rfl rfl rfl (IntWalk.i64_in _ (by omega)) (by omega)) fun a52 h52 => ?_; clear h51
    refine pk0 (v := .int .i64 ((i + 1 : Nat) : Int)) h52 rfl fun a53 h53 => ?_; clear h52
    refine pl_nil ?_
    refine co_then ?_
    refine ⟨(l.length - (i + 1)), by omega, ?_⟩
    exact ⟨i + 1, h53.sub ⟨rfl, rfl, rfl, trivial⟩, rfl, by omega, hB42⟩
end Go.Proofs.Ythmljllgfigebaa
