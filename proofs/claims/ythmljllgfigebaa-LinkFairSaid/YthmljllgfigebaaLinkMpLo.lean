/- Package link: links as objects, the program's. Conditions: none. -/
import Derived.Test.YthmljllgfigebaaLinkLLo
namespace Go.Proofs.Ythmljllgfigebaa
open Go.RowKit Go.Shelf Go.PlainAid
set_option linter.unusedVariables false
/-- A link of the program's. -/
def LkP (S : Nat → Prop) (w : World) (b : Nat) (L : LnT) : Prop := LkO 102 S w b L
section
variable {S S' D : Nat → Prop} {w x : World} {b : Nat} {u : Value} {L : LnT}
theorem LkP.ofS (h : LkP S w b L) : ∀ q, S q → q < w.heap.size := LkO.ofS h
theorem LkP.gr {row : Option Nat} (h : LkP S w b L) (hg : w.grownBy x row) (hr : ∀ k, row = some k → ¬ S k) : LkP S x b L := LkO.gr h hg hr
theorem LkP.but (h : LkP S w b L) (hb : But D w x) (ha : ∀ q, S q → D q → False) : LkP S x b L := LkO.but h hb (fun q h1 h2 => ha q h2 h1)
theorem LkP.ok (h : LkP S w b L) : LnOk L := LkO.ok h
theorem nPNew (boot : Int) (w : World) (h : 1 ≤ boot ∧ boot ≤ 1073741824) : Calls Try.prog 32 #[.int .i64 boot] w fun e w' => ∃ (N : Nat) (S : Nat → Prop), e = .returned (.tuple #[pt N 0, .int .i64 0]) ∧ LkP S w' N (newLn boot) ∧ (∀ q, S q → w.heap.size ≤ q) ∧ Below w.heap.size w w' :=
  (lkNew_ok boot w h).mono fun e x ⟨h1, h2, h3⟩ => ⟨w.heap.size, _, h1, h2, fun q hq => Nat.le_of_eq hq.symm, h3⟩
theorem kSend (w : World) (t : ByteArray) (h : LkP S w b L) : Calls Try.prog 34 #[pt b 0, .string t] w fun e w' => ∃ S' : Nat → Prop, e = .returned (.int .i64 (sendT L t).1) ∧ LkP S' w' b (sendT L t).2 ∧ Grew S S' w w' := by
  obtain ⟨u, h⟩ := h
  exact (lkSend_any S w b u L t h).mono fun e x ⟨u', S', h1, h2, h3⟩ => ⟨S', h1, ⟨u', h2⟩, h3⟩
theorem kOut (w : World) (g : Bool) (h : LkP S w b L) : Calls Try.prog 37 #[pt b 0, .bool g] w fun e w' => ∃ (v : Value) (S' : Nat → Prop), e = .returned v ∧ LkP S' w' b (outN L) ∧ w'.ownsRow w.heap.size 61 8 v (outT L g).length ((outT L g).flatMap segE) ∧ (∀ q, S' q → q < w.heap.size) ∧ Grew S S' w w' := by
  obtain ⟨u, h⟩ := h
  cases g with
  | true => exact (lkOut_true S w b u L h).mono fun e x ⟨v, h1, h2, h3, h4⟩ => ⟨v, S, h1, ⟨u, h2⟩, h4, h.ofS, h3⟩
  | false => exact (lkOut_false S w b u L h).mono fun e x ⟨v, h1, h2, h3, h4⟩ => ⟨v, S, h1, ⟨u, h2⟩, h4, h.ofS, h3⟩
theorem kIn (w : World) (s : SegT) (h : LkP S w b L) : Calls Try.prog 39 #[pt b 0, segV s] w fun e w' => ∃ (v : Value) (S' : Nat → Prop), e = .returned (.tuple #[v, .int .i64 (inT L s).2.1]) ∧ LkP S' w' b (inT L s).2.2 ∧ w'.ownsRow w.heap.size 9 1 v (inT L s).1.length ((inT L s).1.flatMap strE) ∧ (∀ i, v.ownBlock = some i → ¬ S' i) ∧ Grew S S' w w' := by
  obtain ⟨u, h⟩ := h
  exact (lkIn_any S b u L s w h).mono fun e x ⟨u', v, h1, ⟨S', h2, h3, h4, h5⟩, _⟩ => ⟨v, S', h1, ⟨u', h2⟩, h4, h5, h3⟩
theorem kWaiting (w : World) (h : LkP S w b L) : Calls Try.prog 41 #[pt b 0] w fun e w' => e = .returned (.int .i64 (L.q.length : Int)) ∧ w = w' := by
  obtain ⟨u, h⟩ := h
  exact lkWaiting_blk b u L w h.blk h.ok h.sl
theorem kKnows (w : World) (h : LkP S w b L) : Calls Try.prog 42 #[pt b 0] w fun e w' => e = .returned (.int .i64 L.peer) ∧ w = w' := by
  obtain ⟨u, h⟩ := h
  exact lkKnows_blk b u L w h.blk h.ok
end
/-- What comes of segments that come in, one behind the other. -/
def feed : LnT → List SegT → LnT
  | B, [] => B
  | B, g :: r => feed (inT B g).2.2 r
def heard : LnT → List SegT → List ByteArray
  | B, [] => []
  | B, g :: r => (inT B g).1 ++ heard (inT B g).2.2 r
theorem feed_app (B : LnT) (l m : List SegT) : feed B (l ++ m) = feed (feed B l) m := by induction l generalizing B with | nil => rfl | cons g r ih => exact ih _
theorem heard_app (B : LnT) (l m : List SegT) : heard B (l ++ m) = heard B l ++ heard (feed B l) m := by induction l generalizing B with | nil => rfl | cons g r ih => simp only [List.cons_append, heard, feed, ih, List.append_assoc]
theorem feed_step {B : LnT} {l : List SegT} {k : Nat} {y : SegT} (h : l[k]? = some y) : feed B (l.take (k + 1)) = (inT (feed B (l.take k)) y).2.2 := by rw [List.take_add_one, h, feed_app]; rfl
theorem heard_step {B : LnT} {l : List SegT} {k : Nat} {y : SegT} (h : l[k]? = some y) : heard B (l.take (k + 1)) = heard B (l.take k) ++ (inT (feed B (l.take k)) y).1 := by rw [List.take_add_one, h, heard_app]; simp [heard]
theorem feed_ok {B : LnT} (h : LnOk B) (l : List SegT) : LnOk (feed B l) := by induction l generalizing B with | nil => exact h | cons g r ih => exact ih (inT_ok h g)
theorem outT_len (L : LnT) (g : Bool) : (outT L g).length ≤ 8 := segsL_len L _ _ (by have := L.to_le; omega)
theorem inT_one (L : LnT) (s : SegT) : (inT L s).1 = [] ∨ (inT L s).1 = [s.body] := by unfold inT; split <;> (try split) <;> (try split) <;> (try split) <;> simp
theorem outT_body {L : LnT} (h : LnOk L) (g : Bool) : ∀ s ∈ outT L g, s.body.size ≤ 65536 := by
  intro s hs
  unfold outT segsL at hs
  split at hs
  · split at hs
    · simp at hs; subst hs; show (⟨#[]⟩ : ByteArray).size ≤ 65536; decide
    · simp at hs
  · unfold outsL eachL at hs
    simp only [List.mem_map, List.mem_range'_1] at hs
    obtain ⟨p, ⟨i, hi, rfl⟩, rfl⟩ := hs
    have := L.to_le
    have hl : i < L.q.length := by omega
    show (L.q.getD i ⟨#[]⟩).size ≤ 65536
    rw [List.getD_eq_getElem?_getD, List.getElem?_eq_getElem hl]
    exact h.txt _ (List.getElem_mem hl)
end Go.Proofs.Ythmljllgfigebaa
