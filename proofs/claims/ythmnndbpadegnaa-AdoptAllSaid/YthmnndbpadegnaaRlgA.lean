/- Package rlog: its parts; New, restamp; fresh copies. Conditions: at most 100 entries, 20 operations each. -/
import Derived.Test.YthmnndbpadegnaaRlgI
namespace Go.Proofs.Ythmnndbpadegnaa
open Go.RowKit Go.PlainAid
set_option linter.unusedVariables false


def nmE (e : EntT) : Int × Int := (e.client, e.req)
def spotV (i : Int) : Value := .agg #[.int .i64 i]
theorem spot_z (w : World) : (zeroValue 120).run Try.prog w = .ok (spotV 0) w := by kernel_rfl
/-- Where a name stands first. -/
def findN (L : List EntT) (k : Int × Int) : Option Int := Option.map (fun i : Nat => (i : Int)) ((L.map nmE).findIdx? fun q => decide (q = k))
def UqN (L : List EntT) : Prop := (L.map nmE).Nodup
theorem findN_some {L : List EntT} {k : Int × Int} {a : Int} (h : findN L k = some a) : ∃ (j : Nat) (y : EntT), a = j ∧ L[j]? = some y ∧ nmE y = k ∧ ∀ i, i < j → ∀ z, L[i]? = some z → nmE z ≠ k := by
  unfold findN at h
  rw [Option.map_eq_some_iff] at h
  obtain ⟨j, h1, rfl⟩ := h
  rw [List.findIdx?_eq_some_iff_getElem] at h1
  obtain ⟨hj, h2, h3⟩ := h1
  rw [List.length_map] at hj
  refine ⟨j, L[j], rfl, List.getElem?_eq_getElem hj, by simpa using h2, fun i hi z hz => ?_⟩
  have := h3 i hi
  obtain ⟨hl, rfl⟩ := List.getElem?_eq_some_iff.1 hz
  simpa using this
theorem findN_none {L : List EntT} {k : Int × Int} : findN L k = none ↔ ∀ z ∈ L, nmE z ≠ k := by
  unfold findN
  rw [Option.map_eq_none_iff, List.findIdx?_eq_none_iff]
  simp only [List.mem_map, decide_eq_false_iff_not]
  exact ⟨fun h z hz => h _ ⟨z, hz, rfl⟩, fun h q ⟨z, hz, e⟩ => e ▸ h z hz⟩
theorem findN_nil (k : Int × Int) : findN [] k = none := rfl
theorem findN_nm {L L' : List EntT} (h : L'.map nmE = L.map nmE) : findN L' = findN L := by funext k; unfold findN; rw [h]
theorem findN_app {A B : List EntT} {k : Int × Int} (h : ∀ z ∈ B, nmE z ≠ k) : findN (A ++ B) k = findN A k := by
  have hB : (B.map nmE).findIdx? (fun q => decide (q = k)) = none := by
    have := findN_none.2 h; unfold findN at this; rwa [Option.map_eq_none_iff] at this
  unfold findN; rw [List.map_append, List.findIdx?_append, hB]; simp
theorem findN_snoc {A : List EntT} {e : EntT} (h : findN A (nmE e) = none) : findN (A ++ [e]) = fun b => if b = nmE e then some ((A.length : Nat) : Int) else findN A b := by
  funext b
  by_cases hb : b = nmE e
  · subst hb
    rw [if_pos rfl]
    unfold findN at h ⊢
    rw [Option.map_eq_none_iff] at h
    rw [List.map_append, List.findIdx?_append, h]; simp
  · rw [if_neg hb]; exact findN_app (fun z hz => by simp at hz; subst hz; exact fun e => hb e.symm)
theorem findN_lt {L : List EntT} {k : Int × Int} {f : Int} {j : Nat} (h : (findN L k).isSome = true) (hf : (findN L k).getD 0 = f) (hj : f < j) : (findN (L.take j) k).isSome = true := by
  cases hg : findN L k with
  | none => rw [hg] at h; cases h
  | some a =>
    rw [hg] at hf
    obtain ⟨i, y, rfl, h1, h2, _⟩ := findN_some hg
    have hf : ((i : Nat) : Int) = f := hf
    cases hn : findN (L.take j) k with
    | some _ => rfl
    | none =>
      exfalso
      exact findN_none.1 hn y (List.mem_of_getElem? (i := i) (by rw [List.getElem?_take, if_pos (by omega)]; exact h1)) h2
theorem findN_ge {L : List EntT} {k : Int × Int} {f : Int} {j : Nat} (hf : (findN L k).getD 0 = f) (h : (findN L k).isSome = false ∨ ¬ f < j) : findN (L.take j) k = none := by
  rw [findN_none]
  intro z hz e
  obtain ⟨i, hi, he⟩ := List.getElem_of_mem hz
  rw [List.length_take] at hi
  rw [List.getElem_take] at he
  cases hg : findN L k with
  | none => exact findN_none.1 hg z (List.mem_of_mem_take hz) e
  | some a =>
    rw [hg] at hf h
    obtain ⟨i2, y, rfl, h1, h2, h3⟩ := findN_some hg
    have hf : ((i2 : Nat) : Int) = f := hf
    rcases h with h | h
    · cases h
    · exact h3 i (by omega) z (by rw [List.getElem?_eq_getElem (by omega), he]) e
theorem findN_at {L : List EntT} {k : Int × Int} {f : Int} {j : Nat} (h : (findN L k).isSome = true) (hf : (findN L k).getD 0 = f) (hj : f = j) : (L[j]?).map nmE = some k := by
  cases hg : findN L k with
  | none => rw [hg] at h; cases h
  | some a =>
    rw [hg] at hf
    obtain ⟨i, y, rfl, h1, h2, _⟩ := findN_some hg
    have hf : ((i : Nat) : Int) = f := hf
    have : i = j := by omega
    subst this
    rw [h1, Option.map_some, h2]
theorem findN_off {L : List EntT} {k : Int × Int} {f : Int} {j : Nat} (hf : (findN L k).getD 0 = f) (hn : findN (L.take j) k = none) (h : (findN L k).isSome = false ∨ ¬ f = j) : ¬ (L[j]?).map nmE = some k := by
  intro e
  rw [Option.map_eq_some_iff] at e
  obtain ⟨y, hy, hk⟩ := e
  cases hg : findN L k with
  | none => exact findN_none.1 hg y (List.mem_of_getElem? hy) hk
  | some a =>
    rw [hg] at hf h
    obtain ⟨i, z, rfl, h1, h2, h3⟩ := findN_some hg
    have hf : ((i : Nat) : Int) = f := hf
    rcases h with h | h
    · cases h
    · by_cases hl : i < j
      · exact findN_none.1 hn z (List.mem_of_getElem? (i := i) (by rw [List.getElem?_take, if_pos hl]; exact h1)) h2
      · exact h3 j (by omega) y hy hk
/-- What is left where the first j of those from i on are struck. -/
def delN (L : List EntT) (i j : Nat) (k : Int × Int) : Option Int := if ∃ z ∈ (L.drop i).take j, nmE z = k then none else findN L k
theorem delN_0 (L : List EntT) (i : Nat) : delN L i 0 = findN L := by funext k; unfold delN; rw [if_neg (by simp)]
theorem delN_step {L : List EntT} {i j : Nat} {y : EntT} (h : (L.drop i)[j]? = some y) : (fun b => if b = nmE y then none else delN L i j b) = delN L i (j + 1) := by
  funext b
  unfold delN
  rw [takeE h]
  by_cases e : b = nmE y
  · rw [if_pos e, if_pos ⟨y, by simp, e.symm⟩]
  · rw [if_neg e]
    by_cases q : ∃ z ∈ (L.drop i).take j, nmE z = b
    · rw [if_pos q, if_pos]
      obtain ⟨z, h1, h2⟩ := q; exact ⟨z, by simp [h1], h2⟩
    · rw [if_neg q, if_neg]
      rintro ⟨z, h1, h2⟩
      rw [List.mem_append] at h1
      rcases h1 with h1 | h1
      · exact q ⟨z, h1, h2⟩
      · simp at h1; subst h1; exact e h2.symm
theorem UqN.at {L : List EntT} (h : UqN L) {i j : Nat} {y z : EntT} (hy : L[i]? = some y) (hz : L[j]? = some z) (e : nmE y = nmE z) : i = j := by
  unfold UqN at h
  obtain ⟨hi, rfl⟩ := List.getElem?_eq_some_iff.1 hy
  obtain ⟨hj, rfl⟩ := List.getElem?_eq_some_iff.1 hz
  exact (List.getElem_inj (xs := L.map nmE) (h₀ := by simpa using hi) (h₁ := by simpa using hj) h).1 (by simpa using e)
theorem delN_end {L : List EntT} {i j : Nat} (hu : UqN L) (hj : L.length ≤ i + j) : delN L i j = findN (L.take i) := by
  funext k
  unfold delN
  rw [List.take_of_length_le (by rw [List.length_drop]; omega)]
  by_cases q : ∃ z ∈ L.drop i, nmE z = k
  · rw [if_pos q]
    obtain ⟨z, hz, rfl⟩ := q
    symm
    rw [findN_none]
    intro y hy e
    obtain ⟨a, ha⟩ := List.getElem?_of_mem hz
    obtain ⟨b, hb⟩ := List.getElem?_of_mem hy
    rw [List.getElem?_drop] at ha
    have hbl : b < (L.take i).length := (List.getElem?_eq_some_iff.1 hb).1
    rw [List.length_take] at hbl
    rw [List.getElem?_take, if_pos (by omega)] at hb
    have := hu.at hb ha e
    omega
  · rw [if_neg q]
    conv => lhs; rw [← List.take_append_drop i L]
    exact findN_app (fun z hz e => q ⟨z, hz, e⟩)
theorem UqN.take {L : List EntT} (h : UqN L) (i : Nat) : UqN (L.take i) := by unfold UqN at h ⊢; rw [List.map_take]; exact List.Nodup.sublist (List.take_sublist _ _) h
theorem UqN.snoc {L : List EntT} {e : EntT} (h : UqN L) (hn : findN L (nmE e) = none) : UqN (L ++ [e]) := by
  unfold UqN at h ⊢
  rw [List.map_append, List.nodup_append]
  refine ⟨h, by simp, fun a ha b hb => ?_⟩
  simp at hb ha
  obtain ⟨z, hz, rfl⟩ := ha
  subst hb
  exact findN_none.1 hn z hz
theorem UqN.nm {L L' : List EntT} (h : UqN L) (e : L'.map nmE = L.map nmE) : UqN L' := by unfold UqN at h ⊢; rw [e]; exact h
/-- The i-th has the timestamp ts, those behind it below k have none. -/
def rsL (L : List EntT) (i : Nat) (ts : Int) (k : Nat) : List EntT := L.mapIdx fun j e => if j = i then { e with ts := ts } else if i < j ∧ j < k then { e with ts := 0 } else e
def restF (L : List EntT) (i : Nat) (ts : Int) : List EntT := if (L.getD i default).ts = ts then L else rsL L i ts L.length
theorem rsL_len (L : List EntT) (i : Nat) (ts : Int) (k : Nat) : (rsL L i ts k).length = L.length := by simp [rsL]
theorem rsL_nm (L : List EntT) (i : Nat) (ts : Int) (k : Nat) : (rsL L i ts k).map nmE = L.map nmE := by
  apply List.ext_getElem?
  intro j
  simp only [rsL, List.getElem?_map, List.getElem?_mapIdx]
  cases L[j]? with
  | none => rfl
  | some e => simp only [Option.map_some]; split; rfl; split <;> rfl
theorem restF_nm (L : List EntT) (i : Nat) (ts : Int) : (restF L i ts).map nmE = L.map nmE := by unfold restF; split; rfl; exact rsL_nm _ _ _ _
theorem restF_len (L : List EntT) (i : Nat) (ts : Int) : (restF L i ts).length = L.length := by unfold restF; split; rfl; exact rsL_len _ _ _ _
theorem restF_same {L : List EntT} {i : Nat} {ts : Int} {y : EntT} (hy : L[i]? = some y) (h : y.ts = ts) : restF L i ts = L := by
  unfold restF; rw [if_pos]; rw [List.getD_eq_getElem?_getD, hy]; exact h
theorem restF_ne {L : List EntT} {i k : Nat} {ts : Int} {y : EntT} (hy : L[i]? = some y) (h : ¬ y.ts = ts) (hk : L.length ≤ k) : rsL L i ts k = restF L i ts := by
  unfold restF; rw [if_neg (by rw [List.getD_eq_getElem?_getD, hy]; exact h)]
  apply List.ext_getElem?
  intro j
  simp only [rsL, List.getElem?_mapIdx]
  cases hj : L[j]? with
  | none => rfl
  | some e =>
    have := (List.getElem?_eq_some_iff.1 hj).1
    simp only [Option.map_some]
    by_cases e1 : j = i
    · rw [if_pos e1, if_pos e1]
    · rw [if_neg e1, if_neg e1]
      by_cases e2 : i < j
      · rw [if_pos ⟨e2, by omega⟩, if_pos ⟨e2, by omega⟩]
      · rw [if_neg (fun q => e2 q.1), if_neg (fun q => e2 q.1)]
theorem rsL_1 {L : List EntT} {i : Nat} {ts : Int} {y : EntT} (hy : L[i]? = some y) : L.set i { y with ts := ts } = rsL L i ts (i + 1) := by
  apply List.ext_getElem?
  intro j
  simp only [rsL, List.getElem?_mapIdx, List.getElem?_set]
  by_cases e1 : i = j
  · subst e1
    have := (List.getElem?_eq_some_iff.1 hy).1
    rw [if_pos rfl, if_pos this, hy]; simp
  · rw [if_neg e1]
    cases hj : L[j]? with
    | none => rfl
    | some e => simp only [Option.map_some]; rw [if_neg (fun q => e1 q.symm), if_neg (by omega)]
theorem rsL_step {L : List EntT} {i k : Nat} {ts : Int} {y : EntT} (hik : i < k) (hy : (rsL L i ts k)[k]? = some y) : (rsL L i ts k).set k { y with ts := 0 } = rsL L i ts (k + 1) := by
  have hy' := hy
  simp only [rsL, List.getElem?_mapIdx] at hy'
  rw [Option.map_eq_some_iff] at hy'
  obtain ⟨e, he, hy'⟩ := hy'
  rw [if_neg (by omega), if_neg (by omega)] at hy'
  subst hy'
  have hkl := (List.getElem?_eq_some_iff.1 he).1
  apply List.ext_getElem?
  intro j
  rw [List.getElem?_set]
  by_cases e1 : k = j
  · subst e1
    rw [if_pos rfl, if_pos (by rw [rsL_len]; exact hkl)]
    simp only [rsL, List.getElem?_mapIdx, he, Option.map_some]
    rw [if_neg (by omega), if_pos ⟨hik, by omega⟩]
  · rw [if_neg e1]
    simp only [rsL, List.getElem?_mapIdx]
    cases hj : L[j]? with
    | none => rfl
    | some e =>
      simp only [Option.map_some]
      by_cases e2 : j = i
      · rw [if_pos e2, if_pos e2]
      · rw [if_neg e2, if_neg e2]
        by_cases e3 : i < j ∧ j < k
        · rw [if_pos e3, if_pos ⟨e3.1, by omega⟩]
        · rw [if_neg e3, if_neg (by omega)]
/-- An entry whose operations lie in a row of its own. -/
structure EntK (S : Nat → Prop) (n : Nat) (w : World) (e : EntT) : Prop where
  row : w.ownsRow 0 127 3 e.ops e.opl.length (e.opl.flatMap opE)
  ins : InS S n e.ops
  len : e.opl.length ≤ 20
  each : ∀ o ∈ e.opl, opOk o
  ts0 : 0 ≤ e.ts
  ts1 : e.ts < 18446744073709551616
  cl : (Lit.int .i64 e.client).wf = true
  rq : (Lit.int .i64 e.req).wf = true
def EntsK (S : Nat → Prop) (n : Nat) (w : World) (L : List EntT) : Prop := ∀ e ∈ L, EntK S n w e
section
variable {S : Nat → Prop} {n : Nat} {w x : World} {L : List EntT} {e : EntT}
theorem EntK.to (h : EntK S n w e) (hr : x.ownsRow 0 127 3 e.ops e.opl.length (e.opl.flatMap opE)) : EntK S n x e := ⟨hr, h.ins, h.len, h.each, h.ts0, h.ts1, h.cl, h.rq⟩
theorem EntK.ok (h : EntK S n w e) : EntOk w e := ⟨row_sl h.row opE_len, h.each, h.ts0, h.ts1, h.cl, h.rq⟩
theorem EntsK.new (h : EntsK S n w L) (hg : w.grownBy x none) : EntsK S n x L := fun e he => (h e he).to (row_kept_new (h e he).row hg)
theorem EntsK.blk {N : Nat} {T : TypeId} {cs : Array Value} (h : EntsK S n w L) (hb : Blk w N T cs) (hT : 127 ≠ T) (hg : w.grownBy x (some N)) : EntsK S n x L :=
  fun e he => (h e he).to (row_kept_at (h e he).row hg (own_neT (h e he).row hb hT))
theorem EntsK.map {K V : Type} [DecidableEq K] {kv : K → Value} {enc : V → Value} {B c : Nat} {g2 : K → Option V} (h : EntsK S n w L) (hm : MapO kv enc w B g2 c) (hg : w.grownBy x (some B)) : EntsK S n x L :=
  fun e he => (h e he).to (row_kept_at (h e he).row hg (hm.row (h e he).row))
theorem EntsK.row {B sz q : Nat} {T : TypeId} {v : Value} {xs : List Value} (h : EntsK S n w L) (hr : w.ownsRow B T sz v q xs) (hT : 127 ≠ T) (hg : w.grownBy x v.ownBlock) : EntsK S n x L :=
  fun e he => (h e he).to (row_kept_row (h e he).row hr hg hT)
theorem EntsK.under {N : Nat} (h : EntsK S n w L) (hN : N = w.heap.size) : ∀ e ∈ L, ∀ i, e.ops.ownBlock = some i → i < N := fun e he i hi => by have := ((h e he).row.lt i hi).2; omega
theorem EntsK.rowU {N sz q : Nat} {T : TypeId} {v : Value} {xs : List Value} (h : EntsK S n w L) (hu : ∀ e ∈ L, ∀ i, e.ops.ownBlock = some i → i < N) (hr : w.ownsRow N T sz v q xs) (hg : w.grownBy x v.ownBlock) : EntsK S n x L :=
  fun e he => (h e he).to (row_kept_ap (h e he).row hr (hu e he) hg)
theorem EntsK.atU {N : Nat} (h : EntsK S n w L) (hu : ∀ e ∈ L, ∀ i, e.ops.ownBlock = some i → i < N) (hg : w.grownBy x (some N)) : EntsK S n x L :=
  fun e he => (h e he).to (row_kept_at (h e he).row hg (fun q => by have := hu e he N q; omega))
theorem EntsK.mapG {K V : Type} [DecidableEq K] {kv : K → Value} {enc : V → Value} {z : V} {B : Nat} {g2 : K → V} (h : EntsK S n w L) (hm : MapG kv enc z w B g2) (hg : w.grownBy x (some B)) : EntsK S n x L :=
  fun e he => (h e he).to (row_kept_at (h e he).row hg (hm.row (h e he).row))
theorem EntsK.take (h : EntsK S n w L) (i : Nat) : EntsK S n w (L.take i) := fun e he => h e (List.mem_of_mem_take he)
theorem EntsK.snoc (h : EntsK S n w L) (he : EntK S n w e) : EntsK S n w (L ++ [e]) := fun z hz => by
  rw [List.mem_append] at hz
  rcases hz with hz | hz
  · exact h z hz
  · simp at hz; subst hz; exact he
theorem EntK.ts (h : EntK S n w e) {t : Int} (ht : 0 ≤ t ∧ t < 18446744073709551616) : EntK S n w { e with ts := t } := ⟨h.row, h.ins, h.len, h.each, ht.1, ht.2, h.cl, h.rq⟩
theorem EntsK.set (h : EntsK S n w L) {i : Nat} {z : EntT} (hz : EntK S n w z) : EntsK S n w (L.set i z) := fun e he => by
  rcases List.mem_or_eq_of_mem_set he with q | q
  · exact h e q
  · exact q ▸ hz
theorem EntsK.at (h : EntsK S n w L) {i : Nat} {y : EntT} (hy : L[i]? = some y) : EntK S n w y := h y (List.mem_of_getElem? hy)
theorem EntsK.eq {L' : List EntT} (h : EntsK S n w L) (e : L = L') : EntsK S n w L' := e ▸ h
theorem blk_ne_mapN {K V : Type} {kv : K → Value} [DecidableEq K] {enc : V → Value} {N B c : Nat} {T : TypeId} {cs : Array Value} {g2 : K → Option V} (hb : Blk w N T cs) (hm : MapO kv enc w B g2 c) : N ≠ B := by
  intro e; subst e
  obtain ⟨l, ⟨es, cl, h1, _⟩, _⟩ := hm
  have := hb.symm.trans h1
  cases this
/-- A slice that came in, where its block is none of those that were turned. -/
theorem sl_butN {α : Type} {enc : α → List Value} {sz : Nat} {v : Value} {l : List α} (h : SliceOf enc sz w v l) (hb : But S w x) (hv : l ≠ [] → ∀ k, v.ownBlock = some k → ¬ S k) : SliceOf enc sz x v l := by
  obtain ⟨ao, cap, rfl, h1, h2, h3, h4⟩ := h
  refine ⟨ao, cap, rfl, h1, h2, h3, fun j hj => ?_⟩
  obtain ⟨b, off, e, hr⟩ := h4 j hj
  subst e
  refine ⟨b, off, rfl, fun i u hu => ?_⟩
  have hc := hr i u hu
  have hlt := World.block_lt_of_cell? w _ hc
  exact (World.cell?_of_block (w := w) (hb.block b hlt (hv (fun q => by subst q; simp at hj) b rfl))).trans hc
end
/-- A log that was made, with all its parts. -/
structure LgP (S : Nat → Prop) (n : Nat) (w : World) (b M : Nat) (u : Value) (L : List EntT) : Prop where
  blk : Blk w b 67 #[.bool true, u, .map (some M)]
  map : ∃ c, MapO arr2K spotV w M (findN L) c
  row : w.ownsRow 0 47 4 u L.length (L.flatMap entE)
  ents : EntsK S n w L
  sb : S b ∨ n ≤ b
  sM : S M ∨ n ≤ M
  su : InS S n u
  uq : UqN L
  len : L.length ≤ 100

set_option maxRecDepth 100000 in
theorem cloneO_any (v : Value) (l : List OpT) (w : World) (hs : SliceOf opE 3 w v l) (hlen : l.length ≤ 20) :
    Calls Try.prog 118 #[v] w fun e w' => ∃ (u : Value), e = .returned (u) ∧ w'.ownsRow w.heap.size 127 3 u l.length (l.flatMap opE) ∧ Below w.heap.size w w' := by
 have hB0 := Below.refl w.heap.size w
 have hl_hs := sl_len hs
 have hs' := hs; obtain ⟨ao, cap, hv, _, _, h3, _⟩ := hs'; subst hv; rcases ao with _ | ad
 · obtain ⟨hl0, hc0⟩ := h3 rfl; obtain rfl : l = [] := List.eq_nil_of_length_eq_zero hl0; subst hc0
   refine co_enter (n := 8) Try.func118 rfl rfl rfl [(0, .slice none 0 0)] rfl (fun a h0 => ?_)
   refine co_seq ?_
   refine co_reg ?_
   refine pk0 (v := .slice none 0 0) h0 rfl fun a1 h1 => ?_; clear h0
   refine pl_nil ?_
   refine co_then ?_
   refine co_seq ?_
   refine co_seq ?_
   refine co_reg ?_
   refine pk0 (v := .slice none 0 0) h1 rfl fun a2 h2 => ?_; clear h1
   refine pk0 (v := .bool true) h2 rfl fun a3 h3 => ?_; clear h2
   refine pl_nil ?_
   refine co_then ?_
   refine co_true h3 rfl ?_
   refine co_seq ?_
   refine co_reg ?_
   refine pk0 (v := .slice none 0 0) h3 rfl fun a4 h4 => ?_; clear h3
   refine pl_nil ?_
   refine co_then ?_
   refine wp_ret ?_
   refine co_thenR ?_
   refine co_ret1 h4 rfl rfl ?_
   exact ⟨_, rfl, (row_nilL _ _ _ _ _), hB0⟩
 · skip
   refine co_enter (n := 8) Try.func118 rfl rfl rfl [(0, .slice (some ad) l.length cap)] rfl (fun a h0 => ?_)
   refine co_seq ?_
   refine co_reg ?_
   refine pk0 (v := .slice none 0 0) h0 rfl fun a5 h5 => ?_; clear h0
   refine pl_nil ?_
   refine co_then ?_
   refine co_seq ?_
   refine co_seq ?_
   refine co_reg ?_
   refine pk0 (v := .slice (some ad) l.length cap) h5 rfl fun a6 h6 => ?_; clear h5
   refine pk0 (v := .bool false) h6 rfl fun a7 h7 => ?_; clear h6
   refine pl_nil ?_
   refine co_then ?_
   refine co_false h7 rfl ?_
   refine wp_skip ?_
   refine co_then ?_
   refine co_seq ?_
   refine co_reg ?_
   refine pw h7 rfl (op_new (v := fun N => .slice (some ⟨N, 0, none⟩) 0 0) (T := 127) (cs := #[]) (by kernel_rfl) (by kernel_rfl) (by kernel_rfl)) ?_; clear h7
   rintro _ w9 a8 ⟨N10, rfl, hN13, hz14, hk12, hg11⟩ h8
   have hz15 := hg11.size
   try dsimp only at h8
   refine pk0 (v := .slice (some ad) l.length cap) h8 rfl fun a16 h16 => ?_; clear h8
   have hr19 := row_of_blkL hk12 (Nat.le_refl _) 3 opE
   have hB24 := hb_new hB0 hg11
   refine pw h16 rfl (op_appendSrc rfl N10 127 (z := .agg #[.string (⟨#[]⟩), .string (⟨#[]⟩), .bool false]) (size := 3) (bytes := 40) Try.underlying42 (by kernel_rfl) rfl rfl rfl hr19 rfl (hs.below hB24) (fun y hy => ⟨opE_len y, opE_one y⟩) (by first | omega | (simp only [List.length_nil, List.length_append, List.length_cons, List.length_take, List.length_drop]; omega)) (by first | omega | (simp only [List.length_nil, List.length_append, List.length_cons, List.length_take, List.length_drop]; omega)) (by omega)) ?_; clear h16
   rintro v20 w18 a17 ⟨hr21, hg22⟩ h17
   have hr21' : w18.ownsRow N10 127 3 v20 l.length (l.flatMap opE) := row_app (l := []) hr21; clear hr21
   have hz25 := hg22.size
   refine pk0 (v := v20) h17 rfl fun a26 h26 => ?_; clear h17
   refine pl_nil ?_
   refine co_then ?_
   refine wp_ret ?_
   refine co_ret1 h26 rfl rfl ?_
   have hB27 := hb_row hB24 hr19 (by omega) hg22
   exact ⟨_, rfl, (row_lows hr21' (by omega)), hB27⟩
set_option maxRecDepth 100000 in
theorem freshBatch_any (c : Int) (r : Int) (v : Value) (l : List OpT) (w : World) (hs : SliceOf opE 3 w v l) (hlen : l.length ≤ 20) :
    Calls Try.prog 106 #[.agg #[.int .i64 c, .int .i64 r, v]] w fun e w' => ∃ (u : Value), e = .returned (.agg #[.int .i64 c, .int .i64 r, u]) ∧ w'.ownsRow w.heap.size 127 3 u l.length (l.flatMap opE) ∧ Below w.heap.size w w' := by
 have hB0 := Below.refl w.heap.size w
 have hl_hs := sl_len hs
 refine co_enter (n := 8) Try.func106 rfl rfl rfl [(0, .agg #[.int .i64 c, .int .i64 r, v])] rfl (fun a h0 => ?_)
 refine co_seq ?_
 refine co_reg ?_
 refine pw h0 rfl (op_new (v := fun N => pt N 0) (T := 44) (cs := #[.int .i64 c, .int .i64 r, v]) (by kernel_rfl) (by kernel_rfl) (by kernel_rfl)) ?_; clear h0
 rintro _ w2 a1 ⟨N3, rfl, hN6, hz7, hk5, hg4⟩ h1
 have hz8 := hg4.size
 try dsimp only at h1
 refine pw h1 rfl (op_new (v := fun N => pt N 0) (T := 44) (cs := #[.int .i64 0, .int .i64 0, .slice none 0 0]) (by kernel_rfl) (by kernel_rfl) (by kernel_rfl)) ?_; clear h1
 rintro _ w10 a9 ⟨N11, rfl, hN14, hz15, hk13, hg12⟩ h9
 have hz16 := hg12.size
 try dsimp only at h9
 refine pl_nil ?_
 refine co_then ?_
 refine co_seq ?_
 refine co_reg ?_
 refine pk0 (v := pt N3 2) h9 rfl fun a17 h17 => ?_; clear h9
 have hk18 := hk5.kept hg12 (by simp)
 refine pk (v := v) h17 rfl (rn_load1 rfl rfl Try.isAgg42 (hk18.cell rfl)) fun a19 h19 => ?_; clear h17
 have hB22 := hb_new hB0 hg4
 have hB23 := hb_new hB22 hg12
 refine pw h19 rfl (op_call (args := #[v]) (R := fun res xw => ∃ u : Value, res = u ∧ xw.ownsRow w10.heap.size 127 3 u l.length (l.flatMap opE) ∧ Below w10.heap.size w10 xw) rfl rfl rfl (by kernel_rfl) (by kernel_rfl) (Try.call118 _ _) (cloneO_any v l w10 (hs.below hB23) (by first | omega | (simp; done) | (simp; omega))) (by rintro e x ⟨u, rfl, hq25, hb26⟩; exact ⟨_, rfl, ⟨u, rfl, hq25, hb26⟩⟩)) ?_; clear h19
 rintro u24 w21 a20 ⟨_, rfl, hq25, hb26⟩ h20
 have hz27 := hb26.size
 have hl28 := sl_len (row_sl hq25 opE_len)
 refine pk0 (v := pt N3 2) h20 rfl fun a29 h29 => ?_; clear h20
 have hk35 := hk18.below hb26
 refine pwD h29 rfl (op_store1 rfl rfl rfl (row_one hq25) Try.sizeOf42 hk35 rfl) ?_; clear h29
 rintro _ w31 a30 ⟨hk32, hz33, hg34⟩ h30
 have hk32' : Blk w31 N3 44 #[.int .i64 c, .int .i64 r, u24] := hk32; clear hk32
 have hz36 := hg34.size
 refine pl_nil ?_
 refine co_then ?_
 refine co_seq ?_
 refine co_reg ?_
 refine pk (v := .agg #[.int .i64 c, .int .i64 r, u24]) h30 rfl (rn_loadN rfl rfl Try.underlying44 rfl (by kernel_rfl) hk32'.all) fun a37 h37 => ?_; clear h30
 have hr43 := row_kept_at hq25 hg34 (row_ne_lt hq25 (by omega))
 have hk44 := hk13.below hb26
 have hk45 := hk44.kept hg34 (by simp; omega)
 refine pwD h37 rfl (op_storeN rfl rfl rfl (all_cons rfl (all_cons rfl (all_cons (row_one hr43) all_nil))) (by kernel_rfl) hk45 rfl) ?_; clear h37
 rintro _ w39 a38 ⟨hk40, hz41, hg42⟩ h38
 have hk40' : Blk w39 N11 44 #[.int .i64 c, .int .i64 r, u24] := hk40; clear hk40
 have hz46 := hg42.size
 refine pl_nil ?_
 refine co_then ?_
 refine wp_ret ?_
 refine co_retC (Q := fun _ _ _ => True) h38 rfl rfl hk40' Try.underlying44 rfl (by kernel_rfl) ?_
 have hr47 := row_kept_at hr43 hg42 (row_ne_lt hr43 (by omega))
 have hB48 := hb_call hB23 hb26
 have hB49 := hb_at hB48 hg34 (by omega)
 have hB50 := hb_at hB49 hg42 (by omega)
 exact ⟨_, rfl, (row_lows hr47 (by omega)), hB50⟩
set_option maxRecDepth 100000 in
theorem freshEntry_any (c : Int) (r : Int) (v : Value) (l : List OpT) (ts : Int) (w : World) (hs : SliceOf opE 3 w v l) (hlen : l.length ≤ 20) :
    Calls Try.prog 81 #[.agg #[.int .i64 c, .int .i64 r, v, .int .u64 ts]] w fun e w' => ∃ (u : Value), e = .returned (.agg #[.int .i64 c, .int .i64 r, u, .int .u64 ts]) ∧ w'.ownsRow w.heap.size 127 3 u l.length (l.flatMap opE) ∧ Below w.heap.size w w' := by
 have hB0 := Below.refl w.heap.size w
 have hl_hs := sl_len hs
 refine co_enter (n := 8) Try.func81 rfl rfl rfl [(0, .agg #[.int .i64 c, .int .i64 r, v, .int .u64 ts])] rfl (fun a h0 => ?_)
 refine co_seq ?_
 refine co_reg ?_
 refine pw h0 rfl (op_new (v := fun N => pt N 0) (T := 47) (cs := #[.int .i64 c, .int .i64 r, v, .int .u64 ts]) (by kernel_rfl) (by kernel_rfl) (by kernel_rfl)) ?_; clear h0
 rintro _ w2 a1 ⟨N3, rfl, hN6, hz7, hk5, hg4⟩ h1
 have hz8 := hg4.size
 try dsimp only at h1
 refine pw h1 rfl (op_new (v := fun N => pt N 0) (T := 47) (cs := #[.int .i64 0, .int .i64 0, .slice none 0 0, .int .u64 0]) (by kernel_rfl) (by kernel_rfl) (by kernel_rfl)) ?_; clear h1
 rintro _ w10 a9 ⟨N11, rfl, hN14, hz15, hk13, hg12⟩ h9
 have hz16 := hg12.size
 try dsimp only at h9
 refine pl_nil ?_
 refine co_then ?_
 refine co_seq ?_
 refine co_reg ?_
 refine pk0 (v := pt N3 0) h9 rfl fun a17 h17 => ?_; clear h9
 have hk18 := hk5.kept hg12 (by simp)
 refine pk (v := .agg #[.int .i64 c, .int .i64 r, v]) h17 rfl (rn_loadN rfl rfl Try.underlying44 rfl (by kernel_rfl) (blk_part hk18 0 (by rfl))) fun a19 h19 => ?_; clear h17
 have hB22 := hb_new hB0 hg4
 have hB23 := hb_new hB22 hg12
 refine pw h19 rfl (op_call (args := #[.agg #[.int .i64 c, .int .i64 r, v]]) (R := fun res xw => ∃ u : Value, res = .agg #[.int .i64 c, .int .i64 r, u] ∧ xw.ownsRow w10.heap.size 127 3 u l.length (l.flatMap opE) ∧ Below w10.heap.size w10 xw) rfl rfl rfl (by kernel_rfl) (by kernel_rfl) (Try.call106 _ _) (freshBatch_any c r v l w10 (hs.below hB23) (by first | omega | (simp; done) | (simp; omega))) (by rintro e x ⟨u, rfl, hq25, hb26⟩; exact ⟨_, rfl, ⟨u, rfl, hq25, hb26⟩⟩)) ?_; clear h19
 rintro _ w21 a20 ⟨u24, rfl, hq25, hb26⟩ h20
 have hz27 := hb26.size
 have hl28 := sl_len (row_sl hq25 opE_len)
 refine pk0 (v := pt N3 0) h20 rfl fun a29 h29 => ?_; clear h20
 have hk35 := hk18.below hb26
 refine pwD h29 rfl (op_storePart (k := 0) (cs' := #[.int .i64 c, .int .i64 r, u24, .int .u64 ts]) rfl rfl rfl (all_cons rfl (all_cons rfl (all_cons (row_one hq25) all_nil))) (by kernel_rfl) hk35 rfl rfl) ?_; clear h29
 rintro _ w31 a30 ⟨hk32, hz33, hg34⟩ h30
 have hk32' : Blk w31 N3 47 #[.int .i64 c, .int .i64 r, u24, .int .u64 ts] := hk32; clear hk32
 have hz36 := hg34.size
 refine pl_nil ?_
 refine co_then ?_
 refine co_seq ?_
 refine co_reg ?_
 refine pk (v := .agg #[.int .i64 c, .int .i64 r, u24, .int .u64 ts]) h30 rfl (rn_loadN rfl rfl Try.underlying47 rfl (by kernel_rfl) hk32'.all) fun a37 h37 => ?_; clear h30
 have hr43 := row_kept_at hq25 hg34 (row_ne_lt hq25 (by omega))
 have hk44 := hk13.below hb26
 have hk45 := hk44.kept hg34 (by simp; omega)
 refine pwD h37 rfl (op_storeN rfl rfl rfl (all_cons rfl (all_cons rfl (all_cons (row_one hr43) (all_cons rfl all_nil)))) (by kernel_rfl) hk45 rfl) ?_; clear h37
 rintro _ w39 a38 ⟨hk40, hz41, hg42⟩ h38
 have hk40' : Blk w39 N11 47 #[.int .i64 c, .int .i64 r, u24, .int .u64 ts] := hk40; clear hk40
 have hz46 := hg42.size
 refine pl_nil ?_
 refine co_then ?_
 refine wp_ret ?_
 refine co_retC (Q := fun _ _ _ => True) h38 rfl rfl hk40' Try.underlying47 rfl (by kernel_rfl) ?_
 have hr47 := row_kept_at hr43 hg42 (row_ne_lt hr43 (by omega))
 have hB48 := hb_call hB23 hb26
 have hB49 := hb_at hB48 hg34 (by omega)
 have hB50 := hb_at hB49 hg42 (by omega)
 exact ⟨_, rfl, (row_lows hr47 (by omega)), hB50⟩
set_option maxRecDepth 100000 in
theorem lzero_any (b : Nat) (M : Nat) (u : Value) (w : World) (hD : Blk w b 67 #[.bool true, u, .map (some M)]) :
    Calls Try.prog 78 #[pt b 0] w fun e w' => e = .returned (.bool false) ∧ w = w' := by
 have hB0 := Below.refl w.heap.size w
 have hl_hD := hD.lt
 refine co_enter (n := 12) Try.func78 rfl rfl rfl [(0, pt b 0)] rfl (fun a h0 => ?_)
 refine co_seq ?_
 refine co_reg ?_
 refine pk0 (v := .bool false) h0 rfl fun a1 h1 => ?_; clear h0
 refine pl_nil ?_
 refine co_then ?_
 refine co_seq ?_
 refine co_reg ?_
 refine pk0 (v := pt b 0) h1 rfl fun a2 h2 => ?_; clear h1
 refine pk0 (v := .bool false) h2 rfl fun a3 h3 => ?_; clear h2
 refine pk0 (v := .bool false) h3 rfl fun a4 h4 => ?_; clear h3
 refine pk0 (v := pt b 0) h4 rfl fun a5 h5 => ?_; clear h4
 refine pk0 (v := pt b 0) h5 rfl fun a6 h6 => ?_; clear h5
 refine pk0 (v := pt b 0) h6 rfl fun a7 h7 => ?_; clear h6
 refine pk (v := .bool true) h7 rfl (rn_load1 rfl rfl Try.isAgg4 (hD.cell rfl)) fun a8 h8 => ?_; clear h7
 refine pk0 (v := .bool false) h8 rfl fun a9 h9 => ?_; clear h8
 refine pk0 (v := .bool false) h9 rfl fun a10 h10 => ?_; clear h9
 refine pk0 (v := .bool false) h10 rfl fun a11 h11 => ?_; clear h10
 refine pl_nil ?_
 refine co_then ?_
 refine wp_ret ?_
 refine co_ret1 h11 rfl rfl ?_
 exact ⟨rfl, rfl⟩
set_option maxRecDepth 100000 in
theorem lname_any (c : Int) (r : Int) (v : Value) (ts : Int) (w : World)  :
    Calls Try.prog 87 #[.agg #[.int .i64 c, .int .i64 r, v, .int .u64 ts]] w fun e w' => e = .returned (.agg #[.int .i64 c, .int .i64 r]) ∧ Below w.heap.size w w' := by
 have hB0 := Below.refl w.heap.size w
 refine co_enter (n := 10) Try.func87 rfl rfl rfl [(0, .agg #[.int .i64 c, .int .i64 r, v, .int .u64 ts])] rfl (fun a h0 => ?_)
 refine co_seq ?_
 refine co_reg ?_
 refine pw h0 rfl (op_new (v := fun N => pt N 0) (T := 47) (cs := #[.int .i64 c, .int .i64 r, v, .int .u64 ts]) (by kernel_rfl) (by kernel_rfl) (by kernel_rfl)) ?_; clear h0
 rintro _ w2 a1 ⟨N3, rfl, hN6, hz7, hk5, hg4⟩ h1
 have hz8 := hg4.size
 try dsimp only at h1
 refine pw h1 rfl (op_new (v := fun N => pt N 0) (T := 123) (cs := #[.int .i64 0, .int .i64 0]) (by kernel_rfl) (by kernel_rfl) (by kernel_rfl)) ?_; clear h1
 rintro _ w10 a9 ⟨N11, rfl, hN14, hz15, hk13, hg12⟩ h9
 have hz16 := hg12.size
 try dsimp only at h9
 refine pl_nil ?_
 refine co_then ?_
 refine co_seq ?_
 refine co_reg ?_
 refine pk0 (v := pt N3 0) h9 rfl fun a17 h17 => ?_; clear h9
 refine pk0 (v := pt N3 0) h17 rfl fun a18 h18 => ?_; clear h17
 have hk19 := hk5.kept hg12 (by simp)
 refine pk (v := .int .i64 c) h18 rfl (rn_load1 rfl rfl Try.isAgg3 (hk19.cell rfl)) fun a20 h20 => ?_; clear h18
 refine pk0 (v := pt N3 0) h20 rfl fun a21 h21 => ?_; clear h20
 refine pk0 (v := pt N3 1) h21 rfl fun a22 h22 => ?_; clear h21
 refine pk (v := .int .i64 r) h22 rfl (rn_load1 rfl rfl Try.isAgg3 (hk19.cell rfl)) fun a23 h23 => ?_; clear h22
 refine pk0 (v := .agg #[.int .i64 c, .int .i64 r]) h23 rfl fun a24 h24 => ?_; clear h23
 refine pwD h24 rfl (op_storeN rfl rfl rfl (by kernel_rfl) (by kernel_rfl) hk13 rfl) ?_; clear h24
 rintro _ w26 a25 ⟨hk27, hz28, hg29⟩ h25
 have hk27' : Blk w26 N11 123 #[.int .i64 c, .int .i64 r] := hk27; clear hk27
 have hz30 := hg29.size
 refine pl_nil ?_
 refine co_then ?_
 refine wp_ret ?_
 refine co_retC (Q := fun _ _ _ => True) h25 rfl rfl hk27' Try.underlying123 rfl (by kernel_rfl) ?_
 have hB31 := hb_new hB0 hg4
 have hB32 := hb_new hB31 hg12
 have hB33 := hb_at hB32 hg29 (by omega)
 exact ⟨rfl, hB33⟩
set_option maxRecDepth 100000 in
theorem lNew_any  (w : World)  :
    Calls Try.prog 21 #[] w fun e w' => ∃ (N : Nat) (M : Nat), e = .returned (pt N 0) ∧ LgP (fun _ => False) w.heap.size w' N M (.slice none 0 0) [] ∧ Below w.heap.size w w' := by
 have hB0 := Below.refl w.heap.size w
 refine co_enter (n := 4) Try.func21 rfl rfl rfl [] rfl (fun a h0 => ?_)
 refine co_seq ?_
 refine co_reg ?_
 refine pk0 (v := .pointer none) h0 rfl fun a1 h1 => ?_; clear h0
 refine pl_nil ?_
 refine co_then ?_
 refine co_seq ?_
 refine co_reg ?_
 refine pw h1 rfl (op_makeO arr2K spotV (by kernel_rfl) (by kernel_rfl) rfl) ?_; clear h1
 rintro _ w3 a2 ⟨B4, rfl, hN5, hz6, hm7, hg8⟩ h2
 have hz9 := hg8.size
 have hl10 := hm7.lt
 refine pk0 (v := .agg #[.bool true, .slice none 0 0, .map (some B4)]) h2 rfl fun a11 h11 => ?_; clear h2
 refine pw h11 rfl (op_new (v := fun N => pt N 0) (T := 67) (cs := #[.bool true, .slice none 0 0, .map (some B4)]) (by kernel_rfl) (by kernel_rfl) (by kernel_rfl)) ?_; clear h11
 rintro _ w13 a12 ⟨N14, rfl, hN17, hz18, hk16, hg15⟩ h12
 have hz19 := hg15.size
 try dsimp only at h12
 refine pk0 (v := pt N14 0) h12 rfl fun a20 h20 => ?_; clear h12
 refine pl_nil ?_
 refine co_then ?_
 refine wp_ret ?_
 refine co_ret1 h20 rfl rfl ?_
 have hM21 := hm7.kept hg15 (by simp)
 have hB22 := hb_new hB0 hg8
 have hB23 := hb_new hB22 hg15
 exact ⟨_, _, rfl, ⟨hk16, ⟨_, hM21⟩, World.ownsRow_nil _ _ _ _, (fun e he => by cases he), .inr (by omega), .inr (by omega), InS.nil, by simp [UqN], by simp⟩, hB23⟩
set_option maxRecDepth 100000 in
theorem lrestamp_any (w0 : World) (S : Nat → Prop) (b : Nat) (M : Nat) (u : Value) (L : List EntT) (i : Int) (ts : Int) (w : World) (hbw : But S w0 w) (hO : LgP S w0.heap.size w b M u L) (hi0 : 0 ≤ i ∧ i < L.length) (hts : 0 ≤ ts ∧ ts < 18446744073709551616) :
    Calls Try.prog 88 #[pt b 0, .int .i64 i, .int .u64 ts] w fun e w' => e = .returned (.tuple #[]) ∧ LgP S w0.heap.size w' b M u (restF L i.toNat ts) ∧ But (S) w0 w' := by
 have hB0 := hbw
 have hz0 := hbw.size
 have hz0 := hbw.size
 have hl3 := hO.blk.lt; obtain ⟨c1, hm2⟩ := hO.map; have hl4 := hm2.lt; have hne5 := blk_ne_mapN hO.blk hm2; have hln6 := hO.len
 refine co_enter (n := 43) Try.func88 rfl rfl rfl [(0, pt b 0), (1, .int .i64 i), (2, .int .u64 ts)] rfl (fun a h0 => ?_)
 refine co_seq ?_
 refine co_seq ?_
 refine co_reg ?_
 refine pk0 (v := pt b 0) h0 rfl fun a7 h7 => ?_; clear h0
 refine pk0 (v := pt b 0) h7 rfl fun a8 h8 => ?_; clear h7
 refine pk0 (v := pt b 1) h8 rfl fun a9 h9 => ?_; clear h8
 refine pk (v := u) h9 rfl (rn_load1 rfl rfl Try.isAgg39 (hO.blk.cell rfl)) fun a10 h10 => ?_; clear h9
 refine pk0 (v := .int .i64 i) h10 rfl fun a11 h11 => ?_; clear h10
 obtain ⟨y12, hy12⟩ : ∃ z, L[(i).toNat]? = some z := ⟨_, List.getElem?_eq_getElem (by first | omega | (simp; done) | (simp; omega))⟩
 have oky12 := (fun (z : EntT) (_ : z ∈ L) => trivial) _ (List.mem_of_getElem? hy12)
 have hy13 := hO.ents.at hy12
 have hq14 := hy13.ts0; have hq15 := hy13.ts1; have hq16 := hy13.len; have hq17 := wf_i64 hy13.cl; have hq18 := wf_i64 hy13.rq
 refine pk (v := pt (blkOf u) (offOf u + ((i).toNat) * 4)) h11 rfl (rn_index rfl rfl rfl Try.underlying39 Try.sizeOf47 (row_sl hO.row entE_len) (by omega) (by first | omega | (simp; done) | (simp; omega))) fun a19 h19 => ?_; clear h11
 refine pk0 (v := pt (blkOf u) (offOf u + ((i).toNat) * 4 + 3)) h19 rfl fun a20 h20 => ?_; clear h19
 refine pk (v := .int .u64 y12.ts) h20 rfl (rn_load1 rfl rfl Try.isAgg45 ((sl_at (row_sl hO.row entE_len) hy12) 3 _ rfl)) fun a21 h21 => ?_; clear h20
 refine pk0 (v := .int .u64 ts) h21 rfl fun a22 h22 => ?_; clear h21
 refine pk0 (v := .bool (y12.ts == ts)) h22 rfl fun a23 h23 => ?_; clear h22
 refine pl_nil ?_
 refine co_then ?_
 cases hc24 : (y12.ts == ts)
 ·
  rw [hc24] at h23
  have hp25 : ¬ (y12.ts = ts) := by first | simpa using hc24 | simpa [and_assoc] using hc24
  clear hc24
  refine co_false h23 rfl ?_
  refine wp_skip ?_
  refine co_then ?_
  refine co_seq ?_
  refine co_reg ?_
  refine pk0 (v := pt b 0) h23 rfl fun a26 h26 => ?_; clear h23
  refine pk0 (v := pt b 0) h26 rfl fun a27 h27 => ?_; clear h26
  refine pk0 (v := pt b 1) h27 rfl fun a28 h28 => ?_; clear h27
  refine pk (v := u) h28 rfl (rn_load1 rfl rfl Try.isAgg39 (hO.blk.cell rfl)) fun a29 h29 => ?_; clear h28
  refine pk0 (v := .int .i64 i) h29 rfl fun a30 h30 => ?_; clear h29
  refine pk0 (v := .int .u64 ts) h30 rfl fun a31 h31 => ?_; clear h30
  refine pk (v := pt (blkOf u) (offOf u + ((i).toNat) * 4)) h31 rfl (rn_index rfl rfl rfl Try.underlying39 Try.sizeOf47 (row_sl hO.row entE_len) (by omega) (by first | omega | (simp; done) | (simp; omega))) fun a32 h32 => ?_; clear h31
  refine pk0 (v := pt (blkOf u) (offOf u + ((i).toNat) * 4 + 3)) h32 rfl fun a33 h33 => ?_; clear h32
  refine pwD h33 rfl (op_storeRow (c := ((i).toNat) * 4 + 3) rfl rfl rfl rfl Try.sizeOf45 hO.row (flat_lt entE_len (by first | omega | (simp; omega)) (by omega)) (by first | rfl | omega)) ?_; clear h33
  rintro _ w35 a34 ⟨hr36, hz37, hg38⟩ h34
  have hr36' := row_set (y' := (EntT.mk y12.client y12.req (y12.ops) y12.opl ts)) hr36 entE_len hy12 (by omega) rfl; clear hr36
  have hz39 := hg38.size
  have hE40 := hO.ents.row hO.row (by decide) hg38
  have hE41 := EntsK.set (i := ((i).toNat)) hE40 (EntK.ts (t := ts) (EntsK.at hE40 hy12) (by omega))
  refine pl_nil ?_
  refine co_then ?_
  refine co_seq ?_
  refine co_reg ?_
  refine pk0 (v := .int .i64 i) h34 rfl fun a42 h42 => ?_; clear h34
  refine pk (v := .int .i64 (i + 1)) h42 rfl (rn_arith rfl rfl rfl rfl rfl rfl (IntWalk.i64_in _ (by omega))) fun a43 h43 => ?_; clear h42
  refine pk0 (v := .int .i64 (i + 1)) h43 rfl fun a44 h44 => ?_; clear h43
  refine pl_nil ?_
  refine co_then ?_
  refine wp_block ?_
  have h45 : Slots 43 [(0, pt b 0), (1, .int .i64 i), (2, .int .u64 ts), (6, .int .i64 (i + 1))] _ := h44.sub ⟨rfl, rfl, rfl, rfl, trivial⟩; clear h44
  refine co_loop (fun mm a x => ∃ (k : Nat), Slots 43 [(0, pt b 0), (1, .int .i64 i), (2, .int .u64 ts), (6, .int .i64 ((k : Nat) : Int))] a ∧ mm = L.length - k ∧ (i.toNat < k) ∧ (k ≤ L.length) ∧ x.ownsRow 0 47 4 u (rsL L i.toNat ts k).length ((rsL L i.toNat ts k).flatMap entE) ∧ EntsK S w0.heap.size x (rsL L i.toNat ts k) ∧ MapO arr2K spotV x M (findN L) c1 ∧ But (S) w0 x ∧ Blk x b 67 #[.bool true, u, .map (some M)]) (L.length - (i.toNat + 1)) ?_ ?_
  have hM46 := hm2.kept hg38 (hm2.row hO.row)
  have hB47 := fbU_row hB0 hO.su hg38
  have hk48 := hO.blk.kept hg38 (own_neT hO.row hO.blk (by decide))
  · exact ⟨(i.toNat + 1), h45.sub ⟨rfl, rfl, rfl, (slot_eq rfl (congrArg (Value.int .i64) (by first | rfl | omega))), trivial⟩, rfl, by omega, by omega, (row_eq hr36' (by first | exact rsL_1 (by assumption) | exact rsL_step (by omega) (by assumption))), (hE41.eq (by first | exact rsL_1 (by assumption) | exact rsL_step (by omega) (by assumption))), hM46, hB47, hk48⟩
  · rintro k49 a50 w51 ⟨k, h50, rfl, hi52, hi53, hf54, hf55, hf56, hB57, hk58⟩
    have hz59 := hB57.size
    have hl60 := hk58.lt
    have hl61 := hf56.lt
    have hrl := rsL_len L i.toNat ts k
    refine co_seq ?_
    refine co_seq ?_
    refine co_reg ?_
    refine pk0 (v := .int .i64 ((k : Nat) : Int)) h50 rfl fun a62 h62 => ?_; clear h50
    refine pk0 (v := pt b 0) h62 rfl fun a63 h63 => ?_; clear h62
    refine pk0 (v := pt b 0) h63 rfl fun a64 h64 => ?_; clear h63
    refine pk0 (v := pt b 1) h64 rfl fun a65 h65 => ?_; clear h64
    refine pk (v := u) h65 rfl (rn_load1 rfl rfl Try.isAgg39 (hk58.cell rfl)) fun a66 h66 => ?_; clear h65
    refine pk (v := .int .i64 (((rsL L i.toNat ts k).length : Nat) : Int)) h66 rfl (rn_lenOwn rfl rfl Try.underlying39 hf54) fun a67 h67 => ?_; clear h66
    refine pk0 (v := .bool (decide (((k : Nat) : Int) < (((rsL L i.toNat ts k).length : Nat) : Int)))) h67 rfl fun a68 h68 => ?_; clear h67
    refine pl_nil ?_
    refine co_then ?_
    cases hc69 : (decide (((k : Nat) : Int) < (((rsL L i.toNat ts k).length : Nat) : Int)))
    ·
     rw [hc69] at h68
     have hp70 : ¬ (((k : Nat) : Int) < (((rsL L i.toNat ts k).length : Nat) : Int)) := of_decide_eq_false hc69
     clear hc69
     refine co_false h68 rfl ?_
     refine wp_exit ?_
     refine co_thenX ?_
     refine co_thenX ?_
     refine co_blockX ?_
     refine co_ret0n h68 rfl ?_
     have hr0 := restF_ne (ts := ts) (k := k) hy12 (by omega) (by omega)
     exact ⟨rfl, by rw [← hr0]; exact ⟨hk58, ⟨_, hf56.eq ((findN_nm (rsL_nm _ _ _ _)).symm) (Nat.le_refl _)⟩, hf54, hf55, hO.sb, hO.sM, hO.su, (hO.uq.nm (rsL_nm _ _ _ _)), (by rw [rsL_len]; exact hO.len)⟩, hB57⟩
    ·
     rw [hc69] at h68
     have hp71 : ((k : Nat) : Int) < (((rsL L i.toNat ts k).length : Nat) : Int) := of_decide_eq_true hc69
     clear hc69
     refine co_true h68 rfl ?_
     refine wp_skip ?_
     refine co_then ?_
     refine co_seq ?_
     refine wp_block ?_
     refine co_reg ?_
     refine pk0 (v := pt b 0) h68 rfl fun a72 h72 => ?_; clear h68
     refine pk0 (v := pt b 0) h72 rfl fun a73 h73 => ?_; clear h72
     refine pk0 (v := pt b 1) h73 rfl fun a74 h74 => ?_; clear h73
     refine pk (v := u) h74 rfl (rn_load1 rfl rfl Try.isAgg39 (hk58.cell rfl)) fun a75 h75 => ?_; clear h74
     refine pk0 (v := .int .i64 ((k : Nat) : Int)) h75 rfl fun a76 h76 => ?_; clear h75
     obtain ⟨y77, hy77⟩ : ∃ z, (rsL L i.toNat ts k)[k]? = some z := ⟨_, List.getElem?_eq_getElem (by first | omega | (simp; done) | (simp; omega))⟩
     have oky77 := (fun (z : EntT) (_ : z ∈ (rsL L i.toNat ts k)) => trivial) _ (List.mem_of_getElem? hy77)
     have hy78 := hf55.at hy77
     have hq79 := hy78.ts0; have hq80 := hy78.ts1; have hq81 := hy78.len; have hq82 := wf_i64 hy78.cl; have hq83 := wf_i64 hy78.rq
     refine pk (v := pt (blkOf u) (offOf u + k * 4)) h76 rfl (rn_index rfl rfl rfl Try.underlying39 Try.sizeOf47 (row_sl hf54 entE_len) (by omega) (by first | omega | (simp; done) | (simp; omega))) fun a84 h84 => ?_; clear h76
     refine pk0 (v := pt (blkOf u) (offOf u + k * 4 + 3)) h84 rfl fun a85 h85 => ?_; clear h84
     refine pwD h85 rfl (op_storeRow (c := k * 4 + 3) rfl rfl rfl rfl Try.sizeOf45 hf54 (flat_lt entE_len (by first | omega | (simp; omega)) (by omega)) (by first | rfl | omega)) ?_; clear h85
     rintro _ w87 a86 ⟨hr88, hz89, hg90⟩ h86
     have hr88' := row_set (y' := (EntT.mk y77.client y77.req (y77.ops) y77.opl 0)) hr88 entE_len hy77 (by omega) rfl; clear hr88
     have hz91 := hg90.size
     have hE92 := hf55.row hf54 (by decide) hg90
     have hE93 := EntsK.set (i := k) hE92 (EntK.ts (t := 0) (EntsK.at hE92 hy77) (by omega))
     refine pl_nil ?_
     refine co_blockN ?_
     refine co_then ?_
     refine co_reg ?_
     refine pk0 (v := .int .i64 ((k : Nat) : Int)) h86 rfl fun a94 h94 => ?_; clear h86
     refine pk (v := .int .i64 ((k + 1 : Nat) : Int)) h94 rfl (rn_arith' rfl rfl rfl rfl rfl rfl (IntWalk.i64_in _ (by omega)) (by omega)) fun a95 h95 => ?_; clear h94
     refine pk0 (v := .int .i64 ((k + 1 : Nat) : Int)) h95 rfl fun a96 h96 => ?_; clear h95
     refine pl_nil ?_
     refine co_then ?_
     refine ⟨(L.length - (k + 1)), by omega, ?_⟩
     have hM97 := hf56.kept hg90 (hf56.row hf54)
     have hB98 := fbU_row hB57 hO.su hg90
     have hk99 := hk58.kept hg90 (own_neT hf54 hk58 (by decide))
     exact ⟨k + 1, h96.sub ⟨rfl, rfl, rfl, rfl, trivial⟩, rfl, by omega, by omega, (row_eq hr88' (by first | exact rsL_1 (by assumption) | exact rsL_step (by omega) (by assumption))), (hE93.eq (by first | exact rsL_1 (by assumption) | exact rsL_step (by omega) (by assumption))), hM97, hB98, hk99⟩
 ·
  rw [hc24] at h23
  have hp100 : y12.ts = ts := by first | simpa using hc24 | simpa [and_assoc] using hc24
  clear hc24
  refine co_true h23 rfl ?_
  refine wp_ret ?_
  refine co_thenR ?_
  refine co_ret0 h23 rfl ?_
  have hr0 := restF_same (ts := ts) hy12 (by omega)
  exact ⟨rfl, by rw [hr0]; exact ⟨hO.blk, ⟨_, hm2⟩, hO.row, hO.ents, hO.sb, hO.sM, hO.su, hO.uq, hO.len⟩, hB0⟩
end Go.Proofs.Ythmnndbpadegnaa
