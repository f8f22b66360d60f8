/- catenalaw17: what comes in; both logs as one object; few. Conditions: none. -/
import Derived.Test.YthmnndbpadegnaaRlgZ
import Derived.Test.YthmnndbpadegnaaRlgG
namespace Go.Proofs.Ythmnndbpadegnaa
open Go.RowKit Go.PlainAid
set_option linter.unusedVariables false


structure RActT where
  c : Int
  i : Int
  e : EntT
instance : Inhabited RActT := ⟨⟨0, 0, default⟩⟩
def ractE (a : RActT) : List Value := [.int .i64 a.c, .int .i64 a.i, .int .i64 a.e.client, .int .i64 a.e.req, a.e.ops, .int .u64 a.e.ts]
theorem ractE_len (a : RActT) : (ractE a).length = 6 := rfl
def RActOk (w : World) (a : RActT) : Prop := EntOk w a.e ∧ (Lit.int .i64 a.c).wf = true ∧ (Lit.int .i64 a.i).wf = true
section
variable {H : Type} {enc : TypeId × Value → H} {w : World} {base : Nat} {spare : Nat → Bool} {held : Bool}
open Go.ChangeShapes Go.WideShapes Go.Deep
set_option maxRecDepth 10000 in
theorem elem_ract (n : Nat) (cs : List Value) (x : DataW H × List MemPlace) (h : DataW.trod enc Try.prog w base spare held n 49 cs = some x) : ∃ a, cs = ractE a ∧ RActOk w a := by
  obtain ⟨xs, m, _, _, hl, hxl, hf⟩ := DataW.trod_struct Try.underlying49 h
  have hl4 : cs.length = 6 := hl
  have hx2 : xs.length = 3 := hxl
  clear hl hxl
  match cs, hl4, xs, hx2 with
  | [c0, c1, c2, c3, c4, c5], _, [y0, y1, y2], _ =>
    have h0' : DataW.trod enc Try.prog w base spare held m 3 [c0] = some y0 := hf 0 _ rfl
    have h1' : DataW.trod enc Try.prog w base spare held m 3 [c1] = some y1 := hf 1 _ rfl
    have h2' : DataW.trod enc Try.prog w base spare held m 47 [c2, c3, c4, c5] = some y2 := hf 2 _ rfl
    obtain ⟨a, e0, _, w0⟩ := DataW.trod_int Try.underlying3 h0'
    obtain ⟨b, e1, _, w1⟩ := DataW.trod_int Try.underlying3 h1'
    obtain ⟨e, he, hok⟩ := elem_ent _ _ _ h2'
    simp only [List.cons.injEq, and_true] at e0 e1
    subst e0 e1
    refine ⟨⟨a, b, e⟩, ?_, hok, w0, w1⟩
    show _ :: _ :: [c2, c3, c4, c5] = _
    rw [he]; rfl
theorem open_racts {fuel : Nat} {cs : List Value} {x : DataW H × List MemPlace} (h : DataW.trod enc Try.prog w base spare held fuel 34 cs = some x) :
    ∃ (l : List RActT) (v : Value), cs = [v] ∧ SliceOf ractE 6 w v l ∧ ∀ p ∈ l, RActOk w p :=
  open_rows ractE 6 (RActOk w) Try.underlying34 (by kernel_rfl) (by omega) elem_ract h
end
def Few (l : List RActT) (n : Nat) : Prop := ∀ a ∈ l.take n, a.e.opl.length ≤ 20
instance (l : List RActT) (n : Nat) : Decidable (Few l n) := by unfold Few; infer_instance
theorem Few.step {l : List RActT} {i : Nat} {y : RActT} (h : Few l i) (hy : l[i]? = some y) (h2 : y.e.opl.length ≤ 20) : Few l (i + 1) := by
  unfold Few at h ⊢
  rw [takeE hy]
  intro a ha
  rw [List.mem_append, List.mem_singleton] at ha
  rcases ha with ha | rfl; exact h a ha; exact h2
theorem Few.not {l : List RActT} {i : Nat} {y : RActT} (hy : l[i]? = some y) (hi : i < 40) (h2 : y.e.opl.length > 20) : ¬ Few l 40 := fun h => by
  have := h y (List.mem_of_getElem? (i := i) (by rw [List.getElem?_take, if_pos hi]; exact hy)); omega
theorem Few.all {l : List RActT} {i : Nat} (h : Few l i) (hi : l.length ≤ i ∨ 40 ≤ i) : Few l 40 := by
  rcases hi with hi | hi
  · intro a ha; exact h a (by rw [List.take_of_length_le hi]; exact List.mem_of_mem_take ha)
  · intro a ha
    obtain ⟨j, hj⟩ := List.getElem?_of_mem ha
    have hl := (List.getElem?_eq_some_iff.1 hj).1
    rw [List.length_take] at hl
    rw [List.getElem?_take, if_pos (by omega)] at hj
    exact h a (List.mem_of_getElem? (i := j) (by rw [List.getElem?_take, if_pos (by omega)]; exact hj))
theorem Few.at {l : List RActT} {i : Nat} {y : RActT} (h : Few l 40) (hy : l[i]? = some y) (hi : i < 40) : y.e.opl.length ≤ 20 := h y (List.mem_of_getElem? (i := i) (by rw [List.getElem?_take, if_pos hi]; exact hy))
section
variable {S A : Nat → Prop} {w x : World} {b d : Nat} {u : Value} {L X : List EntT}
theorem TwoP.mk0 (h : LObj A w b []) (hb : Blk w d 41 #[.slice none 0 0]) (hA : ¬ A d) : TwoP (fun q => A q ∨ q = d) w b d (.slice none 0 0) [] [] := by
  refine ⟨A, fun q => q = d, h, ⟨fun q hq => by subst hq; exact hb.lt, hb, World.ownsRow_nil _ _ _ _, fun e he => by simp at he, .inl rfl, InS.nil, by simp⟩, fun q h1 h2 => by subst h2; exact hA h1, fun q => Iff.rfl, rfl, RI.nil⟩
theorem wAll (w : World) (h : TwoP S w b d u L X) :
    Calls Try.prog 24 #[pt b 0] w fun e w' => ∃ L2 u2 S', e = .returned u2 ∧ TwoP S' w' b d u L X ∧ w'.ownsRow w.heap.size 47 4 u2 L2.length (L2.flatMap entE) ∧ EntsK (fun _ => False) w.heap.size w' L2 ∧ L2.map e0 = L.map e0 ∧ (∀ q, S' q → q < w.heap.size) ∧ Grew S S' w w' := by
  obtain ⟨A, D, h1, h2, h3, h4, h5⟩ := h
  exact (tAll w h1).mono fun e x ⟨L2, u2, A', k1, k2, k3, k4, k5, k6, k7⟩ => by
    have := TwoP.re h3 h2 h4 h5 k5 k7
    exact ⟨L2, u2, _, k1, this.1, k2, k3, k4, fun q hq => by rcases hq with q1 | q1; exact k6 q q1; exact h2.1 q q1, this.2⟩
theorem wLen (w : World) (h : TwoP S w b d u L X) : Calls Try.prog 25 #[pt b 0] w fun e w' => ∃ S', e = .returned (.int .i64 (L.length : Nat)) ∧ TwoP S' w' b d u L X ∧ Grew S S' w w' := by
  obtain ⟨A, D, h1, h2, h3, h4, h5⟩ := h
  exact (tLen w h1).mono fun e x ⟨A', k1, k2, k3⟩ => ⟨_, k1, TwoP.re h3 h2 h4 h5 k2 k3⟩
theorem wStamped (w : World) (h : TwoP S w b d u L X) : Calls Try.prog 26 #[pt b 0] w fun e w' => ∃ S', e = .returned (.int .i64 (stN L : Nat)) ∧ TwoP S' w' b d u L X ∧ Grew S S' w w' := by
  obtain ⟨A, D, h1, h2, h3, h4, h5⟩ := h
  exact (tStamped w h1).mono fun e x ⟨A', k1, k2, k3⟩ => ⟨_, k1, TwoP.re h3 h2 h4 h5 k2 k3⟩
theorem wFind (w : World) (c r : Int) (h : TwoP S w b d u L X) : Calls Try.prog 30 #[pt b 0, .int .i64 c, .int .i64 r] w fun e w' => ∃ S', e = .returned (.int .i64 (fndI L c r)) ∧ TwoP S' w' b d u L X ∧ Grew S S' w w' := by
  obtain ⟨A, D, h1, h2, h3, h4, h5⟩ := h
  exact (tFind w c r h1).mono fun e x ⟨A', k1, k2, k3⟩ => ⟨_, k1, TwoP.re h3 h2 h4 h5 k2 k3⟩
theorem wTop (w : World) (c : Int) (h : TwoP S w b d u L X) : Calls Try.prog 32 #[pt b 0, .int .i64 c] w fun e w' => ∃ S', e = .returned (.int .i64 (topN L c)) ∧ TwoP S' w' b d u L X ∧ Grew S S' w w' := by
  obtain ⟨A, D, h1, h2, h3, h4, h5⟩ := h
  exact (tTop w c h1).mono fun e x ⟨A', k1, k2, k3⟩ => ⟨_, k1, TwoP.re h3 h2 h4 h5 k2 k3⟩
theorem wAt (w : World) (i : Int) (h : TwoP S w b d u L X) : Calls Try.prog 28 #[pt b 0, .int .i64 i] w fun e w' => ∃ ev S', e = .returned (.tuple #[.agg #[.int .i64 (atE L i).client, .int .i64 (atE L i).req, ev, .int .u64 (atE L i).ts], .bool (atV L i)]) ∧ TwoP S' w' b d u L X ∧ w'.ownsRow w.heap.size 127 3 ev (atE L i).opl.length ((atE L i).opl.flatMap opE) ∧ (∀ q, S' q → q < w.heap.size) ∧ Grew S S' w w' := by
  obtain ⟨A, D, h1, h2, h3, h4, h5⟩ := h
  exact (tAt w i h1).mono fun e x ⟨ev, A', k1, k2, k3, k4, k5⟩ => by
    have := TwoP.re h3 h2 h4 h5 k3 k5
    exact ⟨ev, _, k1, this.1, k2, fun q hq => by rcases hq with q1 | q1; exact k4 q q1; exact h2.1 q q1, this.2⟩
theorem step17_any' (w : World) (ac ai c r : Int) (v : Value) (l : List OpT) (ts : Int) (hT : TwoP S w b d u L X) (hs : SliceOf opE 3 w v l) (hvS : l ≠ [] → ∀ k, v.ownBlock = some k → ¬ S k) (hlen : l.length ≤ 20) (hts : 0 ≤ ts ∧ ts < 18446744073709551616) (hai : -9223372036854775808 ≤ ai ∧ ai ≤ 9223372036854775807) (hen : (∀ o ∈ l, opOk o) ∧ (Lit.int .i64 c).wf = true ∧ (Lit.int .i64 r).wf = true) :
    Calls Try.prog 22 #[pt b 0, pt d 0, .agg #[.int .i64 ac, .int .i64 ai, .int .i64 c, .int .i64 r, v, .int .u64 ts]] w fun e w' => ∃ u' L' X' S', e = .returned (.bool true) ∧ TwoP S' w' b d u' L' X' ∧ Grew S S' w w' :=
  (step17_any w S b d u L X ac ai c r v l ts w (But.refl _ _) rfl hT hs hvS hlen hts hai hen).mono fun e x ⟨u', L', X', S', h0, h1, h2, _⟩ => ⟨u', L', X', S', h0, h1, h2⟩
end

set_option maxRecDepth 100000 in
theorem few17_any (v : Value) (l : List RActT) (w : World) (hs : SliceOf ractE 6 w v l) (hok : ∀ z ∈ l, RActOk w z) :
    Calls Try.prog 19 #[v] w fun e w' => e = .returned (.bool (decide (Few l 40))) ∧ Below w.heap.size w w' := by
 have hB0 := Below.refl w.heap.size w
 have hl_hs := sl_len hs
 refine co_enter (n := 23) Try.func19 rfl rfl rfl [(0, v)] rfl (fun a h0 => ?_)
 refine co_seq ?_
 refine co_reg ?_
 refine pk0 (v := .bool false) h0 rfl fun a1 h1 => ?_; clear h0
 refine pl_nil ?_
 refine co_then ?_
 refine co_seq ?_
 refine co_seq ?_
 refine co_reg ?_
 refine pk0 (v := .int .i64 0) h1 rfl fun a2 h2 => ?_; clear h1
 refine pl_nil ?_
 refine co_then ?_
 refine wp_block ?_
 have h3 : Slots 23 [(0, v), (3, .int .i64 0)] _ := h2.sub ⟨rfl, rfl, trivial⟩; clear h2
 refine co_loop (fun mm a x => ∃ (i : Nat), Slots 23 [(0, v), (3, .int .i64 ((i : Nat) : Int))] a ∧ mm = l.length - i ∧ (i ≤ l.length) ∧ (i ≤ 40) ∧ (Few l i) ∧ Below w.heap.size w x) (l.length - 0) ?_ ?_
 · exact ⟨0, h3.sub ⟨rfl, (slot_eq rfl (congrArg (Value.int .i64) (by first | rfl | omega))), trivial⟩, rfl, by omega, by omega, by first | exact hf' | (intro a ha; simp at ha), hB0⟩
 · rintro k4 a5 w6 ⟨i, h5, rfl, hi7, hi8, hi9, hB10⟩
   have hz11 := hB10.size
   refine co_seq ?_
   refine co_seq ?_
   refine co_reg ?_
   refine pk0 (v := .int .i64 ((i : Nat) : Int)) h5 rfl fun a12 h12 => ?_; clear h5
   refine pk0 (v := v) h12 rfl fun a13 h13 => ?_; clear h12
   refine pk (v := .int .i64 ((l.length : Nat) : Int)) h13 rfl (rn_len rfl rfl Try.underlying34 (hs.below hB10)) fun a14 h14 => ?_; clear h13
   refine pk0 (v := .bool (decide (((i : Nat) : Int) < ((l.length : Nat) : Int)))) h14 rfl fun a15 h15 => ?_; clear h14
   refine pk0 (v := .bool (decide (((i : Nat) : Int) < ((l.length : Nat) : Int)))) h15 rfl fun a16 h16 => ?_; clear h15
   cases hc17 : (decide (((i : Nat) : Int) < ((l.length : Nat) : Int)))
   ·
    rw [hc17] at h16
    have hp18 : ¬ (((i : Nat) : Int) < ((l.length : Nat) : Int)) := of_decide_eq_false hc17
    clear hc17
    refine psk h16 rfl fun a19 h19 => ?_; clear h16
    refine psk h19 rfl fun a20 h20 => ?_; clear h19
    refine pk0 (v := .bool false) h20 rfl fun a21 h21 => ?_; clear h20
    refine pl_nil ?_
    refine co_then ?_
    refine co_false h21 rfl ?_
    refine wp_exit ?_
    refine co_thenX ?_
    refine co_thenX ?_
    refine co_blockX ?_
    refine co_then ?_
    refine co_seq ?_
    refine co_reg ?_
    refine pk0 (v := .bool true) h21 rfl fun a22 h22 => ?_; clear h21
    refine pl_nil ?_
    refine co_then ?_
    refine wp_ret ?_
    refine co_ret1 h22 rfl rfl ?_
    exact ⟨ret_bool (by first | exact (decide_eq_true (Few.all (by assumption) (by omega))).symm | exact (decide_eq_false (Few.not rfl (by omega) (by omega))).symm), hB10⟩
   ·
    rw [hc17] at h16
    have hp23 : ((i : Nat) : Int) < ((l.length : Nat) : Int) := of_decide_eq_true hc17
    clear hc17
    refine pk0 (v := .int .i64 ((i : Nat) : Int)) h16 rfl fun a24 h24 => ?_; clear h16
    refine pk0 (v := .bool (decide (((i : Nat) : Int) < 40))) h24 rfl fun a25 h25 => ?_; clear h24
    refine pk0 (v := .bool (decide (((i : Nat) : Int) < 40))) h25 rfl fun a26 h26 => ?_; clear h25
    refine pl_nil ?_
    refine co_then ?_
    cases hc27 : (decide (((i : Nat) : Int) < 40))
    ·
     rw [hc27] at h26
     have hp28 : ¬ (((i : Nat) : Int) < 40) := of_decide_eq_false hc27
     clear hc27
     refine co_false h26 rfl ?_
     refine wp_exit ?_
     refine co_thenX ?_
     refine co_thenX ?_
     refine co_blockX ?_
     refine co_then ?_
     refine co_seq ?_
     refine co_reg ?_
     refine pk0 (v := .bool true) h26 rfl fun a29 h29 => ?_; clear h26
     refine pl_nil ?_
     refine co_then ?_
     refine wp_ret ?_
     refine co_ret1 h29 rfl rfl ?_
     exact ⟨ret_bool (by first | exact (decide_eq_true (Few.all (by assumption) (by omega))).symm | exact (decide_eq_false (Few.not rfl (by omega) (by omega))).symm), hB10⟩
    ·
     rw [hc27] at h26
     have hp30 : ((i : Nat) : Int) < 40 := of_decide_eq_true hc27
     clear hc27
     refine co_true h26 rfl ?_
     refine wp_skip ?_
     refine co_then ?_
     refine co_seq ?_
     refine wp_block ?_
     refine co_seq ?_
     refine co_reg ?_
     refine pk0 (v := v) h26 rfl fun a31 h31 => ?_; clear h26
     refine pk0 (v := .int .i64 ((i : Nat) : Int)) h31 rfl fun a32 h32 => ?_; clear h31
     obtain ⟨y33, hy33⟩ : ∃ z, l[i]? = some z := ⟨_, List.getElem?_eq_getElem (by first | omega | (simp; done) | (simp; omega))⟩
     have oky33 := hok _ (List.mem_of_getElem? hy33)
     have k34 : 0 ≤ y33.e.ts := oky33.1.ts0
     have k35 : y33.e.ts < 18446744073709551616 := oky33.1.ts1
     refine pk (v := pt (blkOf v) (offOf v + i * 6)) h32 rfl (rn_index rfl rfl rfl Try.underlying34 Try.sizeOf49 (hs.below hB10) (by omega) (by first | omega | (simp; done) | (simp; omega))) fun a36 h36 => ?_; clear h32
     refine pk0 (v := pt (blkOf v) (offOf v + i * 6 + 2)) h36 rfl fun a37 h37 => ?_; clear h36
     refine pk0 (v := pt (blkOf v) (offOf v + i * 6 + 2)) h37 rfl fun a38 h38 => ?_; clear h37
     refine pk0 (v := pt (blkOf v) (offOf v + i * 6 + 2 + 2)) h38 rfl fun a39 h39 => ?_; clear h38
     refine pk (v := y33.e.ops) h39 rfl (rn_load1 rfl rfl Try.isAgg42 ((sl_at (hs.below hB10) hy33) 4 _ rfl)) fun a40 h40 => ?_; clear h39
     refine pk (v := .int .i64 ((y33.e.opl.length : Nat) : Int)) h40 rfl (rn_len rfl rfl Try.underlying42 (oky33.1.ops.below hB10)) fun a41 h41 => ?_; clear h40
     refine pk0 (v := .bool (decide (((y33.e.opl.length : Nat) : Int) > 20))) h41 rfl fun a42 h42 => ?_; clear h41
     refine pl_nil ?_
     refine co_then ?_
     cases hc43 : (decide (((y33.e.opl.length : Nat) : Int) > 20))
     ·
      rw [hc43] at h42
      have hp44 : ¬ (((y33.e.opl.length : Nat) : Int) > 20) := of_decide_eq_false hc43
      clear hc43
      refine co_false h42 rfl ?_
      refine wp_skip ?_
      refine co_blockN ?_
      refine co_then ?_
      refine co_reg ?_
      refine pk0 (v := .int .i64 ((i : Nat) : Int)) h42 rfl fun a45 h45 => ?_; clear h42
      refine pk (v := .int .i64 ((i + 1 : Nat) : Int)) h45 rfl (rn_arith' rfl rfl rfl rfl rfl rfl (IntWalk.i64_in _ (by omega)) (by omega)) fun a46 h46 => ?_; clear h45
      refine pk0 (v := .int .i64 ((i + 1 : Nat) : Int)) h46 rfl fun a47 h47 => ?_; clear h46
      refine pl_nil ?_
      refine co_then ?_
      refine ⟨(l.length - (i + 1)), by omega, ?_⟩
      have hf' := Few.step (by assumption : Few l i) hy33 (by omega)
      exact ⟨i + 1, h47.sub ⟨rfl, rfl, trivial⟩, rfl, by omega, by omega, by first | exact hf' | (intro a ha; simp at ha), hB10⟩
     ·
      rw [hc43] at h42
      have hp48 : ((y33.e.opl.length : Nat) : Int) > 20 := of_decide_eq_true hc43
      clear hc43
      refine co_true h42 rfl ?_
      refine co_seq ?_
      refine co_reg ?_
      refine pk0 (v := .bool false) h42 rfl fun a49 h49 => ?_; clear h42
      refine pl_nil ?_
      refine co_then ?_
      refine wp_ret ?_
      refine co_blockR ?_
      refine co_thenR ?_
      refine co_thenR ?_
      refine co_blockR ?_
      refine co_thenR ?_
      refine co_ret1 h49 rfl rfl ?_
      exact ⟨ret_bool (by first | exact (decide_eq_true (Few.all (by assumption) (by omega))).symm | exact (decide_eq_false (Few.not hy33 (by omega) (by omega))).symm), hB10⟩
end Go.Proofs.Ythmnndbpadegnaa
