/- catenalaw23: two lists of what goes out; what comes in. Conditions: none. -/
import Derived.Test.YthmljllgfigebaaHubILb
import Derived.Test.YthmljllgfigebaaLinkOLb
import Derived.Test.YthmljllgfigebaaOpen
import Derived.Laws.StructEq
namespace Go.Proofs.Ythmljllgfigebaa
open Go.RowKit Go.PlainAid
set_option linter.unusedVariables false


def outEq (a b : Int × ByteArray) : Bool := a.1 == b.1 && a.2.toList == b.2.toList
theorem outEq_self (a : Int × ByteArray) : outEq a a = true := by simp [outEq]
theorem eq_out (a b : Int × ByteArray) (w : World) : (binOp .eql 125 (.agg #[.int .i64 a.1, .string a.2]) (.agg #[.int .i64 b.1, .string b.2])).run Try.prog w = .ok (.bool (outEq a b)) w := by
  have u := Try.underlying3
  have us := Try.underlying9
  have hS : Try.prog.underlying 125 = some (.struct (Try.prog.fieldsOf 125)) := by kernel_rfl
  have hp : Try.prog.stoodInHeld 125 = false := by kernel_rfl
  obtain ⟨a1, a2⟩ := a
  obtain ⟨b1, b2⟩ := b
  rw [run_eql_struct, show (10000 : Nat) = 9999 + 1 from rfl, run_equalIn_agg w 9999 125 _ _ hS hp]
  simp only [Program.fieldsOf, Try.underlying125]
  go_simp
  unfold outEq
  repeat' split
  all_goals simp_all
/-- A call of stage 23. -/
structure HActT where
  c : Int
  n : Int
  s : ByteArray
  again : Bool
instance : Inhabited HActT := ⟨⟨0, 0, ⟨#[]⟩, false⟩⟩
def hactE (a : HActT) : List Value := [.int .i64 a.c, .int .i64 a.n, .string a.s, .bool a.again]
theorem hactE_len (a : HActT) : (hactE a).length = 4 := rfl
abbrev HActOk (a : HActT) : Prop := a.s.size ≤ 9223372036854775807
section
variable {H : Type} {enc : TypeId × Value → H} {w : World} {base : Nat} {spare : Nat → Bool} {held : Bool}
set_option maxRecDepth 10000 in
theorem elem_hact (n : Nat) (cs : List Value) (x : DataW H × List MemPlace) (h : DataW.trod enc Try.prog w base spare held n 111 cs = some x) : ∃ a, cs = hactE a ∧ HActOk a := by
  obtain ⟨xs, m, _, _, hl, hxl, hf⟩ := DataW.trod_struct Try.underlying111 h
  have hl4 : cs.length = 4 := hl
  have hx2 : xs.length = 4 := hxl
  clear hl hxl
  match cs, hl4, xs, hx2 with
  | [c0, c1, c2, c3], _, [y0, y1, y2, y3], _ =>
    have h0' : DataW.trod enc Try.prog w base spare held m 3 [c0] = some y0 := hf 0 _ rfl
    have h1' : DataW.trod enc Try.prog w base spare held m 3 [c1] = some y1 := hf 1 _ rfl
    have h2' : DataW.trod enc Try.prog w base spare held m 9 [c2] = some y2 := hf 2 _ rfl
    have h3' : DataW.trod enc Try.prog w base spare held m 4 [c3] = some y3 := hf 3 _ rfl
    obtain ⟨a, e0, _, _⟩ := DataW.trod_int Try.underlying3 h0'
    obtain ⟨b, e1, _, _⟩ := DataW.trod_int Try.underlying3 h1'
    obtain ⟨c, e2, _, w2⟩ := DataW.trod_string Try.underlying9 h2'
    obtain ⟨d, e3, _⟩ := DataW.trod_bool Try.underlying4 h3'
    simp only [List.cons.injEq, and_true] at e0 e1 e2 e3
    subst e0 e1 e2 e3
    exact ⟨⟨a, b, c, d⟩, rfl, by unfold maxLen at w2; exact w2⟩
theorem open_hacts {fuel : Nat} {cs : List Value} {x : DataW H × List MemPlace} (h : DataW.trod enc Try.prog w base spare held fuel 103 cs = some x) :
    ∃ (l : List HActT) (v : Value), cs = [v] ∧ SliceOf hactE 4 w v l ∧ ∀ p ∈ l, HActOk p :=
  open_rows hactE 4 HActOk Try.underlying103 (by kernel_rfl) (by omega) elem_hact h
end

set_option maxRecDepth 100000 in
theorem sameOuts_any (u : Value) (v : Value) (l : List (Int × ByteArray)) (w : World) (hu : SliceOf outE 2 w u l) (hv : SliceOf outE 2 w v l) :
    Calls Try.prog 56 #[u, v] w fun e w' => e = .returned (.bool true) ∧ Below w.heap.size w w' := by
 have hB0 := Below.refl w.heap.size w
 have hl_hu := sl_len hu
 have hl_hv := sl_len hv
 refine co_enter (n := 32) Try.func56 rfl rfl rfl [(0, u), (1, v)] rfl (fun a h0 => ?_)
 refine co_seq ?_
 refine co_reg ?_
 refine pk0 (v := .bool false) h0 rfl fun a1 h1 => ?_; clear h0
 refine pl_nil ?_
 refine co_then ?_
 refine co_seq ?_
 refine co_seq ?_
 refine co_reg ?_
 refine pk0 (v := u) h1 rfl fun a2 h2 => ?_; clear h1
 refine pk (v := .int .i64 ((l.length : Nat) : Int)) h2 rfl (rn_len rfl rfl Try.underlying115 hu) fun a3 h3 => ?_; clear h2
 refine pk0 (v := v) h3 rfl fun a4 h4 => ?_; clear h3
 refine pk (v := .int .i64 ((l.length : Nat) : Int)) h4 rfl (rn_len rfl rfl Try.underlying115 hv) fun a5 h5 => ?_; clear h4
 refine pk0 (v := .bool (((l.length : Nat) : Int) != ((l.length : Nat) : Int))) h5 rfl fun a6 h6 => ?_; clear h5
 refine pl_nil ?_
 refine co_then ?_
 have hc7 : (((l.length : Nat) : Int) != ((l.length : Nat) : Int)) = false := by first | (simp; done) | (simp; omega) | exact beq_false_of_ne (by omega) | exact beq_iff_eq.2 (by omega)
 rw [hc7] at h6; clear hc7
 refine co_false h6 rfl ?_
 refine wp_skip ?_
 refine co_then ?_
 refine co_seq ?_
 refine co_seq ?_
 refine co_reg ?_
 refine pk0 (v := .int .i64 0) h6 rfl fun a8 h8 => ?_; clear h6
 refine pl_nil ?_
 refine co_then ?_
 refine wp_block ?_
 have h9 : Slots 32 [(0, u), (1, v), (5, .int .i64 0)] _ := h8.sub ⟨rfl, rfl, rfl, trivial⟩; clear h8
 refine co_loop (fun mm a x => ∃ (i : Nat), Slots 32 [(0, u), (1, v), (5, .int .i64 ((i : Nat) : Int))] a ∧ mm = l.length - i ∧ (i ≤ l.length) ∧ Below w.heap.size w x) (l.length - 0) ?_ ?_
 · exact ⟨0, h9.sub ⟨rfl, rfl, (slot_eq rfl (congrArg (Value.int .i64) (by first | rfl | omega))), trivial⟩, rfl, by omega, hB0⟩
 · rintro k10 a11 w12 ⟨i, h11, rfl, hi13, hB14⟩
   have hz15 := hB14.size
   refine co_seq ?_
   refine co_seq ?_
   refine co_reg ?_
   refine pk0 (v := .int .i64 ((i : Nat) : Int)) h11 rfl fun a16 h16 => ?_; clear h11
   refine pk0 (v := u) h16 rfl fun a17 h17 => ?_; clear h16
   refine pk (v := .int .i64 ((l.length : Nat) : Int)) h17 rfl (rn_len rfl rfl Try.underlying115 (hu.below hB14)) fun a18 h18 => ?_; clear h17
   refine pk0 (v := .bool (decide (((i : Nat) : Int) < ((l.length : Nat) : Int)))) h18 rfl fun a19 h19 => ?_; clear h18
   refine pk0 (v := .bool (decide (((i : Nat) : Int) < ((l.length : Nat) : Int)))) h19 rfl fun a20 h20 => ?_; clear h19
   cases hc21 : (decide (((i : Nat) : Int) < ((l.length : Nat) : Int)))
   ·
    rw [hc21] at h20
    have hp22 : ¬ (((i : Nat) : Int) < ((l.length : Nat) : Int)) := of_decide_eq_false hc21
    clear hc21
    refine psk h20 rfl fun a23 h23 => ?_; clear h20
    refine psk h23 rfl fun a24 h24 => ?_; clear h23
    refine psk h24 rfl fun a25 h25 => ?_; clear h24
    refine psk h25 rfl fun a26 h26 => ?_; clear h25
    refine pk0 (v := .bool false) h26 rfl fun a27 h27 => ?_; clear h26
    refine pl_nil ?_
    refine co_then ?_
    refine co_false h27 rfl ?_
    refine wp_exit ?_
    refine co_thenX ?_
    refine co_thenX ?_
    refine co_blockX ?_
    refine co_then ?_
    refine co_seq ?_
    refine co_reg ?_
    refine pk0 (v := .bool true) h27 rfl fun a28 h28 => ?_; clear h27
    refine pl_nil ?_
    refine co_then ?_
    refine wp_ret ?_
    refine co_ret1 h28 rfl rfl ?_
    exact ⟨rfl, hB14⟩
   ·
    rw [hc21] at h20
    have hp29 : ((i : Nat) : Int) < ((l.length : Nat) : Int) := of_decide_eq_true hc21
    clear hc21
    refine pk0 (v := .int .i64 ((i : Nat) : Int)) h20 rfl fun a30 h30 => ?_; clear h20
    refine pk0 (v := v) h30 rfl fun a31 h31 => ?_; clear h30
    refine pk (v := .int .i64 ((l.length : Nat) : Int)) h31 rfl (rn_len rfl rfl Try.underlying115 (hv.below hB14)) fun a32 h32 => ?_; clear h31
    refine pk0 (v := .bool (decide (((i : Nat) : Int) < ((l.length : Nat) : Int)))) h32 rfl fun a33 h33 => ?_; clear h32
    refine pk0 (v := .bool (decide (((i : Nat) : Int) < ((l.length : Nat) : Int)))) h33 rfl fun a34 h34 => ?_; clear h33
    refine pl_nil ?_
    refine co_then ?_
    have hc35 : (decide (((i : Nat) : Int) < ((l.length : Nat) : Int))) = true := decide_eq_true (by omega)
    rw [hc35] at h34; clear hc35
    refine co_true h34 rfl ?_
    refine wp_skip ?_
    refine co_then ?_
    refine co_seq ?_
    refine wp_block ?_
    refine co_seq ?_
    refine dr_eq (by kernel_rfl) (fun w36 hg37 => ?_)
    have hz38 := hg37.size
    refine dk0 0 (v := u) h34 rfl rfl rfl fun a39 h39 => ?_; clear h34
    refine dk0 1 (v := .int .i64 ((i : Nat) : Int)) h39 rfl rfl rfl fun a40 h40 => ?_; clear h39
    have hB42 := hb_new hB14 hg37
    obtain ⟨y41, hy41⟩ : ∃ z, l[i]? = some z := ⟨_, List.getElem?_eq_getElem (by first | omega | (simp; done) | (simp; omega))⟩
    refine dk 2 (v := pt (blkOf u) (offOf u + i * 2)) h40 rfl rfl rfl (fun x hx => by subst hx; exact (rn_index rfl rfl rfl Try.underlying115 Try.sizeOf125 (hu.below hB42) (by omega) (by first | omega | (simp; done) | (simp; omega)))) fun a43 h43 => ?_; clear h40
    refine dk 3 (v := .agg #[.int .i64 y41.1, .string y41.2]) h43 rfl rfl rfl (fun x hx => by subst hx; exact (rn_loadN rfl rfl Try.underlying125 rfl (by kernel_rfl) (sl_at (hu.below hB42) hy41))) fun a44 h44 => ?_; clear h43
    refine dk0 4 (v := v) h44 rfl rfl rfl fun a45 h45 => ?_; clear h44
    refine dk0 5 (v := .int .i64 ((i : Nat) : Int)) h45 rfl rfl rfl fun a46 h46 => ?_; clear h45
    refine dk 6 (v := pt (blkOf v) (offOf v + i * 2)) h46 rfl rfl rfl (fun x hx => by subst hx; exact (rn_index rfl rfl rfl Try.underlying115 Try.sizeOf125 (hv.below hB42) (by omega) (by first | omega | (simp; done) | (simp; omega)))) fun a47 h47 => ?_; clear h46
    refine dk 7 (v := .agg #[.int .i64 y41.1, .string y41.2]) h47 rfl rfl rfl (fun x hx => by subst hx; exact (rn_loadN rfl rfl Try.underlying125 rfl (by kernel_rfl) (sl_at (hv.below hB42) hy41))) fun a48 h48 => ?_; clear h47
    refine dk 8 (v := .bool (!(outEq y41 y41))) h48 rfl rfl rfl (fun x hx => by subst hx; exact (rn_neS rfl rfl rfl Try.eqGuardType125 (eq_out y41 y41 _))) fun a49 h49 => ?_; clear h48
    refine dr_done (by kernel_rfl) ?_
    refine co_then ?_
    have hc50 : (!(outEq y41 y41)) = false := by rw [outEq_self]; rfl
    rw [hc50] at h49; clear hc50
    refine co_false h49 rfl ?_
    refine wp_skip ?_
    refine co_blockN ?_
    refine co_then ?_
    refine co_reg ?_
    refine pk0 (v := .int .i64 ((i : Nat) : Int)) h49 rfl fun a51 h51 => ?_; clear h49
    refine pk (v := .int .i64 ((i + 1 : Nat) : Int)) h51 rfl (rn_arith' rfl rfl rfl rfl rfl rfl (IntWalk.i64_in _ (by omega)) (by omega)) fun a52 h52 => ?_; clear h51
    refine pk0 (v := .int .i64 ((i + 1 : Nat) : Int)) h52 rfl fun a53 h53 => ?_; clear h52
    refine pl_nil ?_
    refine co_then ?_
    refine ⟨(l.length - (i + 1)), by omega, ?_⟩
    exact ⟨i + 1, h53.sub ⟨rfl, rfl, rfl, trivial⟩, rfl, by omega, hB42⟩
end Go.Proofs.Ythmljllgfigebaa
