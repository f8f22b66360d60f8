/- Package rlog: the document's log as an object (as far as adopt needs it). Conditions: none. -/
import Derived.Test.YthmnndbpadegnaaAdY
import Derived.Test.YthmnndbpadegnaaGo
namespace Go.Proofs.Ythmnndbpadegnaa
open Go.RowKit Go.PlainAid
set_option linter.unusedVariables false

def RObj (D : Nat → Prop) (w : World) (d : Nat) (u : Value) (X : List EntT) : Prop := (∀ q, D q → q < w.heap.size) ∧ RgP D w.heap.size w d u X
section
variable {S S' D A : Nat → Prop} {n : Nat} {w x : World} {b d : Nat} {u v : Value} {L X : List EntT}
theorem LObj.ofS (h : LObj S w b L) : ∀ q, S q → q < w.heap.size := fun q hq => (h.1 q hq).1
theorem LObj.butA (h : LObj S w b L) (hb : But D w x) (hd : ∀ q, S q → D q → False) : LObj S x b L := h.but hd hb
theorem RgP.fin (h : RgP S n w d u X) : RObj (fun q => (S q ∨ n ≤ q) ∧ q < w.heap.size) w d u X := by
  refine ⟨fun q hq => hq.2, h.blk, h.row, fun e he => ?_, .inl ⟨h.sb, h.blk.lt⟩, fun i hi => .inl ⟨h.su i hi, (h.row.lt i hi).2⟩, h.len⟩
  have k := h.ents e he
  exact ⟨k.row, fun i hi => .inl ⟨k.ins i hi, (k.row.lt i hi).2⟩, k.len, k.each, k.ts0, k.ts1, k.cl, k.rq⟩
theorem Grew.fin (h : But S w x) : Grew S (fun q => (S q ∨ w.heap.size ≤ q) ∧ q < x.heap.size) w x := ⟨fun q hq => hq.1, h⟩
theorem RObj.ofS (h : RObj D w d u X) : ∀ q, D q → q < w.heap.size := h.1
theorem RObj.keep (h : RObj D w d u X) (hs : w.heap.size ≤ x.heap.size) (hk : ∀ q, D q → x.heap[q]? = w.heap[q]?) : RObj D x d u X := by
  obtain ⟨hS, h⟩ := h
  have hb : D d := by
    rcases h.sb with q | q
    · exact q
    · have := h.blk.lt; omega
  have up : ∀ {v : Value}, (∀ i, v.ownBlock = some i → D i) → InS D x.heap.size v := fun hv i hi => .inl (hv i hi)
  refine ⟨fun q hq => by have := hS q hq; omega, ?_, row_sameL h.row (fun i hi => hk i (ins_in h.su h.row i hi)), fun e he => ?_, .inl hb, up (ins_in h.su h.row), h.len⟩
  · have hB := h.blk
    unfold Blk at hB ⊢
    rw [hk d hb]; exact hB
  · have k := h.ents e he
    exact ⟨row_sameL k.row (fun i hi => hk i (ins_in k.ins k.row i hi)), up (ins_in k.ins k.row), k.len, k.each, k.ts0, k.ts1, k.cl, k.rq⟩
theorem RObj.gr {row : Option Nat} (h : RObj D w d u X) (hg : w.grownBy x row) (hr : ∀ k, row = some k → ¬ D k) : RObj D x d u X := h.keep hg.size fun k hk => hg.block k (h.1 k hk) (fun e => hr k e.symm hk)
theorem RObj.but (h : RObj D w d u X) (hb : But S w x) (hd : ∀ q, D q → S q → False) : RObj D x d u X := h.keep hb.size fun k hk => hb.block k (h.1 k hk) (fun q => hd k hk q)
end
theorem uSet {D : Nat → Prop} {d : Nat} {u : Value} {X : List EntT} (w : World) (i c r : Int) (v : Value) (l : List OpT) (ts : Int) (h : RObj D w d u X) (hs : SliceOf opE 3 w v l) (hvS : l ≠ [] → ∀ k, v.ownBlock = some k → ¬ D k) (hlen : l.length ≤ 20) (hts : 0 ≤ ts ∧ ts < 18446744073709551616) (hen : (∀ o ∈ l, opOk o) ∧ (Lit.int .i64 c).wf = true ∧ (Lit.int .i64 r).wf = true) :
    Calls Try.prog 76 #[pt d 0, .int .i64 i, .agg #[.int .i64 c, .int .i64 r, v, .int .u64 ts]] w fun e w' => ∃ u' X' D', e = .returned (.int .i64 (setE X i c r l ts)) ∧ RObj D' w' d u' X' ∧ X'.map e0 = (setL X i c r l ts).map e0 ∧ Grew D D' w w' :=
  (rSet17_any w D d u X i c r v l ts w (But.refl _ _) h.2 hs hvS hlen hts hen).mono fun e x ⟨u', X', h1, h2, h3, h4⟩ => ⟨u', X', _, h1, h2.fin, h3, .fin h4⟩
theorem opE_ne (l : List OpT) : ∀ y ∈ l, opE y ≠ [] := fun y _ e => by cases e
end Go.Proofs.Ythmnndbpadegnaa
