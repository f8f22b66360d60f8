/- Package rlog: its parts; New, restamp; fresh copies. Conditions: at most 100 entries, 20 operations each. -/
import Derived.Test.YtlbemlodcdgakaaRlgISh
namespace Go.Proofs.Ytlbemlodcdgakaa
open Go.RowKit Go.PlainAid
set_option linter.unusedVariables false


def nmE (e : EntT) : Int × Int := (e.client, e.req)
def spotV (i : Int) : Value := .agg #[.int .i64 i]
/-- Where a name stands first. -/
def findN (L : List EntT) (k : Int × Int) : Option Int := Option.map (fun i : Nat => (i : Int)) ((L.map nmE).findIdx? fun q => decide (q = k))
def UqN (L : List EntT) : Prop := (L.map nmE).Nodup
theorem findN_none {L : List EntT} {k : Int × Int} : findN L k = none ↔ ∀ z ∈ L, nmE z ≠ k := by
  unfold findN
  rw [Option.map_eq_none_iff, List.findIdx?_eq_none_iff]
  simp only [List.mem_map, decide_eq_false_iff_not]
  exact ⟨fun h z hz => h _ ⟨z, hz, rfl⟩, fun h q ⟨z, hz, e⟩ => e ▸ h z hz⟩
theorem UqN.at {L : List EntT} (h : UqN L) {i j : Nat} {y z : EntT} (hy : L[i]? = some y) (hz : L[j]? = some z) (e : nmE y = nmE z) : i = j := by
  unfold UqN at h
  obtain ⟨hi, rfl⟩ := List.getElem?_eq_some_iff.1 hy
  obtain ⟨hj, rfl⟩ := List.getElem?_eq_some_iff.1 hz
  exact (List.getElem_inj (xs := L.map nmE) (h₀ := by simpa using hi) (h₁ := by simpa using hj) h).1 (by simpa using e)
theorem UqN.take {L : List EntT} (h : UqN L) (i : Nat) : UqN (L.take i) := by unfold UqN at h ⊢; rw [List.map_take]; exact List.Nodup.sublist (List.take_sublist _ _) h
theorem UqN.snoc {L : List EntT} {e : EntT} (h : UqN L) (hn : findN L (nmE e) = none) : UqN (L ++ [e]) := by
  unfold UqN at h ⊢
  rw [List.map_append, List.nodup_append]
  refine ⟨h, by simp, fun a ha b hb => ?_⟩
  simp at hb ha
  obtain ⟨z, hz, rfl⟩ := ha
  subst hb
  exact findN_none.1 hn z hz
theorem UqN.nm {L L' : List EntT} (h : UqN L) (e : L'.map nmE = L.map nmE) : UqN L' := by unfold UqN at h ⊢; rw [e]; exact h
/-- The i-th has the timestamp ts, those behind it below k have none. -/
def rsL (L : List EntT) (i : Nat) (ts : Int) (k : Nat) : List EntT := L.mapIdx fun j e => if j = i then { e with ts := ts } else if i < j ∧ j < k then { e with ts := 0 } else e
def restF (L : List EntT) (i : Nat) (ts : Int) : List EntT := if (L.getD i default).ts = ts then L else rsL L i ts L.length
theorem rsL_nm (L : List EntT) (i : Nat) (ts : Int) (k : Nat) : (rsL L i ts k).map nmE = L.map nmE := by
  apply List.ext_getElem?
  intro j
  simp only [rsL, List.getElem?_map, List.getElem?_mapIdx]
  cases L[j]? with
  | none => rfl
  | some e => simp only [Option.map_some]; split; rfl; split <;> rfl
theorem restF_same {L : List EntT} {i : Nat} {ts : Int} {y : EntT} (hy : L[i]? = some y) (h : y.ts = ts) : restF L i ts = L := by
  unfold restF; rw [if_pos]; rw [List.getD_eq_getElem?_getD, hy]; exact h
theorem restF_ne {L : List EntT} {i k : Nat} {ts : Int} {y : EntT} (hy : L[i]? = some y) (h : ¬ y.ts = ts) (hk : L.length ≤ k) : rsL L i ts k = restF L i ts := by
  unfold restF; rw [if_neg (by rw [List.getD_eq_getElem?_getD, hy]; exact h)]
  apply List.ext_getElem?
  intro j
  simp only [rsL, List.getElem?_mapIdx]
  cases hj : L[j]? with
  | none => rfl
  | some e =>
    have := (List.getElem?_eq_some_iff.1 hj).1
    simp only [Option.map_some]
    by_cases e1 : j = i
    · rw [if_pos e1, if_pos e1]
    · rw [if_neg e1, if_neg e1]
      by_cases e2 : i < j
      · rw [if_pos ⟨e2, by omega⟩, if_pos ⟨e2, by omega⟩]
      · rw [if_neg (fun q => e2 q.1), if_neg (fun q => e2 q.1)]
theorem rsL_1 {L : List EntT} {i : Nat} {ts : Int} {y : EntT} (hy : L[i]? = some y) : L.set i { y with ts := ts } = rsL L i ts (i + 1) := by
  apply List.ext_getElem?
  intro j
  simp only [rsL, List.getElem?_mapIdx, List.getElem?_set]
  by_cases e1 : i = j
  · subst e1
    have := (List.getElem?_eq_some_iff.1 hy).1
    rw [if_pos rfl, if_pos this, hy]; simp
  · rw [if_neg e1]
    cases hj : L[j]? with
    | none => rfl
    | some e => simp only [Option.map_some]; rw [if_neg (fun q => e1 q.symm), if_neg (by omega)]
/-- An entry whose operations lie in a row of its own. -/
structure EntK (S : Nat → Prop) (n : Nat) (w : World) (e : EntT) : Prop where
  row : w.ownsRow 0 201 3 e.ops e.opl.length (e.opl.flatMap opE)
  ins : InS S n e.ops
  len : e.opl.length ≤ 20
  each : ∀ o ∈ e.opl, opOk o
  ts0 : 0 ≤ e.ts
  ts1 : e.ts < 18446744073709551616
  cl : (Lit.int .i64 e.client).wf = true
  rq : (Lit.int .i64 e.req).wf = true
def EntsK (S : Nat → Prop) (n : Nat) (w : World) (L : List EntT) : Prop := ∀ e ∈ L, EntK S n w e
section
variable {S : Nat → Prop} {n : Nat} {w x : World} {L : List EntT} {e : EntT}
theorem EntK.to (h : EntK S n w e) (hr : x.ownsRow 0 201 3 e.ops e.opl.length (e.opl.flatMap opE)) : EntK S n x e := ⟨hr, h.ins, h.len, h.each, h.ts0, h.ts1, h.cl, h.rq⟩
theorem EntK.ok (h : EntK S n w e) : EntOk w e := ⟨row_sl h.row opE_len, h.each, h.ts0, h.ts1, h.cl, h.rq⟩
theorem EntsK.new (h : EntsK S n w L) (hg : w.grownBy x none) : EntsK S n x L := fun e he => (h e he).to (row_kept_new (h e he).row hg)
theorem EntsK.blk {N : Nat} {T : TypeId} {cs : Array Value} (h : EntsK S n w L) (hb : Blk w N T cs) (hT : 201 ≠ T) (hg : w.grownBy x (some N)) : EntsK S n x L :=
  fun e he => (h e he).to (row_kept_at (h e he).row hg (own_neT (h e he).row hb hT))
theorem EntsK.map {K V : Type} [DecidableEq K] {kv : K → Value} {enc : V → Value} {B c : Nat} {g2 : K → Option V} (h : EntsK S n w L) (hm : MapO kv enc w B g2 c) (hg : w.grownBy x (some B)) : EntsK S n x L :=
  fun e he => (h e he).to (row_kept_at (h e he).row hg (hm.row (h e he).row))
theorem EntsK.row {B sz q : Nat} {T : TypeId} {v : Value} {xs : List Value} (h : EntsK S n w L) (hr : w.ownsRow B T sz v q xs) (hT : 201 ≠ T) (hg : w.grownBy x v.ownBlock) : EntsK S n x L :=
  fun e he => (h e he).to (row_kept_row (h e he).row hr hg hT)
theorem EntsK.take (h : EntsK S n w L) (i : Nat) : EntsK S n w (L.take i) := fun e he => h e (List.mem_of_mem_take he)
theorem EntsK.snoc (h : EntsK S n w L) (he : EntK S n w e) : EntsK S n w (L ++ [e]) := fun z hz => by
  rw [List.mem_append] at hz
  rcases hz with hz | hz
  · exact h z hz
  · simp at hz; subst hz; exact he
theorem EntK.ts (h : EntK S n w e) {t : Int} (ht : 0 ≤ t ∧ t < 18446744073709551616) : EntK S n w { e with ts := t } := ⟨h.row, h.ins, h.len, h.each, ht.1, ht.2, h.cl, h.rq⟩
theorem EntsK.set (h : EntsK S n w L) {i : Nat} {z : EntT} (hz : EntK S n w z) : EntsK S n w (L.set i z) := fun e he => by
  rcases List.mem_or_eq_of_mem_set he with q | q
  · exact h e q
  · exact q ▸ hz
theorem EntsK.at (h : EntsK S n w L) {i : Nat} {y : EntT} (hy : L[i]? = some y) : EntK S n w y := h y (List.mem_of_getElem? hy)
end
/-- A log that was made, with all its parts. -/
structure LgP (S : Nat → Prop) (n : Nat) (w : World) (b M : Nat) (u : Value) (L : List EntT) : Prop where
  blk : Blk w b 172 #[.bool true, u, .map (some M)]
  map : ∃ c, MapO arr2K spotV w M (findN L) c
  row : w.ownsRow 0 38 4 u L.length (L.flatMap entE)
  ents : EntsK S n w L
  sb : S b ∨ n ≤ b
  sM : S M ∨ n ≤ M
  su : InS S n u
  uq : UqN L
  len : L.length ≤ 100

end Go.Proofs.Ytlbemlodcdgakaa
