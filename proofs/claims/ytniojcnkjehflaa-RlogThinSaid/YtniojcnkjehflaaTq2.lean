/- Put together: RlgATp, RlgBTp, RlgCTp. Conditions: as each says. -/
import Derived.Test.YtniojcnkjehflaaTq1
/- Package rlog: its parts; New, restamp; fresh copies. Conditions: at most 100 entries, 20 operations each. -/
namespace Go.Proofs.Ytniojcnkjehflaa
open Go.RowKit Go.PlainAid
set_option linter.unusedVariables false


def nmE (e : EntT) : Int × Int := (e.client, e.req)
def spotV (i : Int) : Value := .agg #[.int .i64 i]
theorem spot_z (w : World) : (zeroValue 109).run Try.prog w = .ok (spotV 0) w := by kernel_rfl
/-- Where a name stands first. -/
def findN (L : List EntT) (k : Int × Int) : Option Int := Option.map (fun i : Nat => (i : Int)) ((L.map nmE).findIdx? fun q => decide (q = k))
def UqN (L : List EntT) : Prop := (L.map nmE).Nodup
theorem findN_some {L : List EntT} {k : Int × Int} {a : Int} (h : findN L k = some a) : ∃ (j : Nat) (y : EntT), a = j ∧ L[j]? = some y ∧ nmE y = k ∧ ∀ i, i < j → ∀ z, L[i]? = some z → nmE z ≠ k := by
  unfold findN at h
  rw [Option.map_eq_some_iff] at h
  obtain ⟨j, h1, rfl⟩ := h
  rw [List.findIdx?_eq_some_iff_getElem] at h1
  obtain ⟨hj, h2, h3⟩ := h1
  rw [List.length_map] at hj
  refine ⟨j, L[j], rfl, List.getElem?_eq_getElem hj, by simpa using h2, fun i hi z hz => ?_⟩
  have := h3 i hi
  obtain ⟨hl, rfl⟩ := List.getElem?_eq_some_iff.1 hz
  simpa using this
theorem findN_none {L : List EntT} {k : Int × Int} : findN L k = none ↔ ∀ z ∈ L, nmE z ≠ k := by
  unfold findN
  rw [Option.map_eq_none_iff, List.findIdx?_eq_none_iff]
  simp only [List.mem_map, decide_eq_false_iff_not]
  exact ⟨fun h z hz => h _ ⟨z, hz, rfl⟩, fun h q ⟨z, hz, e⟩ => e ▸ h z hz⟩
theorem findN_nil (k : Int × Int) : findN [] k = none := rfl
theorem findN_nm {L L' : List EntT} (h : L'.map nmE = L.map nmE) : findN L' = findN L := by funext k; unfold findN; rw [h]
theorem findN_app {A B : List EntT} {k : Int × Int} (h : ∀ z ∈ B, nmE z ≠ k) : findN (A ++ B) k = findN A k := by
  have hB : (B.map nmE).findIdx? (fun q => decide (q = k)) = none := by
    have := findN_none.2 h; unfold findN at this; rwa [Option.map_eq_none_iff] at this
  unfold findN; rw [List.map_append, List.findIdx?_append, hB]; simp
theorem findN_snoc {A : List EntT} {e : EntT} (h : findN A (nmE e) = none) : findN (A ++ [e]) = fun b => if b = nmE e then some ((A.length : Nat) : Int) else findN A b := by
  funext b
  by_cases hb : b = nmE e
  · subst hb
    rw [if_pos rfl]
    unfold findN at h ⊢
    rw [Option.map_eq_none_iff] at h
    rw [List.map_append, List.findIdx?_append, h]; simp
  · rw [if_neg hb]; exact findN_app (fun z hz => by simp at hz; subst hz; exact fun e => hb e.symm)
theorem findN_lt {L : List EntT} {k : Int × Int} {f : Int} {j : Nat} (h : (findN L k).isSome = true) (hf : (findN L k).getD 0 = f) (hj : f < j) : (findN (L.take j) k).isSome = true := by
  cases hg : findN L k with
  | none => rw [hg] at h; cases h
  | some a =>
    rw [hg] at hf
    obtain ⟨i, y, rfl, h1, h2, _⟩ := findN_some hg
    have hf : ((i : Nat) : Int) = f := hf
    cases hn : findN (L.take j) k with
    | some _ => rfl
    | none =>
      exfalso
      exact findN_none.1 hn y (List.mem_of_getElem? (i := i) (by rw [List.getElem?_take, if_pos (by omega)]; exact h1)) h2
theorem findN_ge {L : List EntT} {k : Int × Int} {f : Int} {j : Nat} (hf : (findN L k).getD 0 = f) (h : (findN L k).isSome = false ∨ ¬ f < j) : findN (L.take j) k = none := by
  rw [findN_none]
  intro z hz e
  obtain ⟨i, hi, he⟩ := List.getElem_of_mem hz
  rw [List.length_take] at hi
  rw [List.getElem_take] at he
  cases hg : findN L k with
  | none => exact findN_none.1 hg z (List.mem_of_mem_take hz) e
  | some a =>
    rw [hg] at hf h
    obtain ⟨i2, y, rfl, h1, h2, h3⟩ := findN_some hg
    have hf : ((i2 : Nat) : Int) = f := hf
    rcases h with h | h
    · cases h
    · exact h3 i (by omega) z (by rw [List.getElem?_eq_getElem (by omega), he]) e
theorem findN_at {L : List EntT} {k : Int × Int} {f : Int} {j : Nat} (h : (findN L k).isSome = true) (hf : (findN L k).getD 0 = f) (hj : f = j) : (L[j]?).map nmE = some k := by
  cases hg : findN L k with
  | none => rw [hg] at h; cases h
  | some a =>
    rw [hg] at hf
    obtain ⟨i, y, rfl, h1, h2, _⟩ := findN_some hg
    have hf : ((i : Nat) : Int) = f := hf
    have : i = j := by omega
    subst this
    rw [h1, Option.map_some, h2]
theorem findN_off {L : List EntT} {k : Int × Int} {f : Int} {j : Nat} (hf : (findN L k).getD 0 = f) (hn : findN (L.take j) k = none) (h : (findN L k).isSome = false ∨ ¬ f = j) : ¬ (L[j]?).map nmE = some k := by
  intro e
  rw [Option.map_eq_some_iff] at e
  obtain ⟨y, hy, hk⟩ := e
  cases hg : findN L k with
  | none => exact findN_none.1 hg y (List.mem_of_getElem? hy) hk
  | some a =>
    rw [hg] at hf h
    obtain ⟨i, z, rfl, h1, h2, h3⟩ := findN_some hg
    have hf : ((i : Nat) : Int) = f := hf
    rcases h with h | h
    · cases h
    · by_cases hl : i < j
      · exact findN_none.1 hn z (List.mem_of_getElem? (i := i) (by rw [List.getElem?_take, if_pos hl]; exact h1)) h2
      · exact h3 j (by omega) y hy hk
/-- What is left where the first j of those from i on are struck. -/
def delN (L : List EntT) (i j : Nat) (k : Int × Int) : Option Int := if ∃ z ∈ (L.drop i).take j, nmE z = k then none else findN L k
theorem delN_0 (L : List EntT) (i : Nat) : delN L i 0 = findN L := by funext k; unfold delN; rw [if_neg (by simp)]
theorem delN_step {L : List EntT} {i j : Nat} {y : EntT} (h : (L.drop i)[j]? = some y) : (fun b => if b = nmE y then none else delN L i j b) = delN L i (j + 1) := by
  funext b
  unfold delN
  rw [takeE h]
  by_cases e : b = nmE y
  · rw [if_pos e, if_pos ⟨y, by simp, e.symm⟩]
  · rw [if_neg e]
    by_cases q : ∃ z ∈ (L.drop i).take j, nmE z = b
    · rw [if_pos q, if_pos]
      obtain ⟨z, h1, h2⟩ := q; exact ⟨z, by simp [h1], h2⟩
    · rw [if_neg q, if_neg]
      rintro ⟨z, h1, h2⟩
      rw [List.mem_append] at h1
      rcases h1 with h1 | h1
      · exact q ⟨z, h1, h2⟩
      · simp at h1; subst h1; exact e h2.symm
theorem UqN.at {L : List EntT} (h : UqN L) {i j : Nat} {y z : EntT} (hy : L[i]? = some y) (hz : L[j]? = some z) (e : nmE y = nmE z) : i = j := by
  unfold UqN at h
  obtain ⟨hi, rfl⟩ := List.getElem?_eq_some_iff.1 hy
  obtain ⟨hj, rfl⟩ := List.getElem?_eq_some_iff.1 hz
  exact (List.getElem_inj (xs := L.map nmE) (h₀ := by simpa using hi) (h₁ := by simpa using hj) h).1 (by simpa using e)
theorem delN_end {L : List EntT} {i j : Nat} (hu : UqN L) (hj : L.length ≤ i + j) : delN L i j = findN (L.take i) := by
  funext k
  unfold delN
  rw [List.take_of_length_le (by rw [List.length_drop]; omega)]
  by_cases q : ∃ z ∈ L.drop i, nmE z = k
  · rw [if_pos q]
    obtain ⟨z, hz, rfl⟩ := q
    symm
    rw [findN_none]
    intro y hy e
    obtain ⟨a, ha⟩ := List.getElem?_of_mem hz
    obtain ⟨b, hb⟩ := List.getElem?_of_mem hy
    rw [List.getElem?_drop] at ha
    have hbl : b < (L.take i).length := (List.getElem?_eq_some_iff.1 hb).1
    rw [List.length_take] at hbl
    rw [List.getElem?_take, if_pos (by omega)] at hb
    have := hu.at hb ha e
    omega
  · rw [if_neg q]
    conv => lhs; rw [← List.take_append_drop i L]
    exact findN_app (fun z hz e => q ⟨z, hz, e⟩)
theorem UqN.take {L : List EntT} (h : UqN L) (i : Nat) : UqN (L.take i) := by unfold UqN at h ⊢; rw [List.map_take]; exact List.Nodup.sublist (List.take_sublist _ _) h
theorem UqN.snoc {L : List EntT} {e : EntT} (h : UqN L) (hn : findN L (nmE e) = none) : UqN (L ++ [e]) := by
  unfold UqN at h ⊢
  rw [List.map_append, List.nodup_append]
  refine ⟨h, by simp, fun a ha b hb => ?_⟩
  simp at hb ha
  obtain ⟨z, hz, rfl⟩ := ha
  subst hb
  exact findN_none.1 hn z hz
theorem UqN.nm {L L' : List EntT} (h : UqN L) (e : L'.map nmE = L.map nmE) : UqN L' := by unfold UqN at h ⊢; rw [e]; exact h
/-- The i-th has the timestamp ts, those behind it below k have none. -/
def rsL (L : List EntT) (i : Nat) (ts : Int) (k : Nat) : List EntT := L.mapIdx fun j e => if j = i then { e with ts := ts } else if i < j ∧ j < k then { e with ts := 0 } else e
def restF (L : List EntT) (i : Nat) (ts : Int) : List EntT := if (L.getD i default).ts = ts then L else rsL L i ts L.length
theorem rsL_len (L : List EntT) (i : Nat) (ts : Int) (k : Nat) : (rsL L i ts k).length = L.length := by simp [rsL]
theorem rsL_nm (L : List EntT) (i : Nat) (ts : Int) (k : Nat) : (rsL L i ts k).map nmE = L.map nmE := by
  apply List.ext_getElem?
  intro j
  simp only [rsL, List.getElem?_map, List.getElem?_mapIdx]
  cases L[j]? with
  | none => rfl
  | some e => simp only [Option.map_some]; split; rfl; split <;> rfl
theorem restF_same {L : List EntT} {i : Nat} {ts : Int} {y : EntT} (hy : L[i]? = some y) (h : y.ts = ts) : restF L i ts = L := by
  unfold restF; rw [if_pos]; rw [List.getD_eq_getElem?_getD, hy]; exact h
theorem restF_ne {L : List EntT} {i k : Nat} {ts : Int} {y : EntT} (hy : L[i]? = some y) (h : ¬ y.ts = ts) (hk : L.length ≤ k) : rsL L i ts k = restF L i ts := by
  unfold restF; rw [if_neg (by rw [List.getD_eq_getElem?_getD, hy]; exact h)]
  apply List.ext_getElem?
  intro j
  simp only [rsL, List.getElem?_mapIdx]
  cases hj : L[j]? with
  | none => rfl
  | some e =>
    have := (List.getElem?_eq_some_iff.1 hj).1
    simp only [Option.map_some]
    by_cases e1 : j = i
    · rw [if_pos e1, if_pos e1]
    · rw [if_neg e1, if_neg e1]
      by_cases e2 : i < j
      · rw [if_pos ⟨e2, by omega⟩, if_pos ⟨e2, by omega⟩]
      · rw [if_neg (fun q => e2 q.1), if_neg (fun q => e2 q.1)]
theorem rsL_1 {L : List EntT} {i : Nat} {ts : Int} {y : EntT} (hy : L[i]? = some y) : L.set i { y with ts := ts } = rsL L i ts (i + 1) := by
  apply List.ext_getElem?
  intro j
  simp only [rsL, List.getElem?_mapIdx, List.getElem?_set]
  by_cases e1 : i = j
  · subst e1
    have := (List.getElem?_eq_some_iff.1 hy).1
    rw [if_pos rfl, if_pos this, hy]; simp
  · rw [if_neg e1]
    cases hj : L[j]? with
    | none => rfl
    | some e => simp only [Option.map_some]; rw [if_neg (fun q => e1 q.symm), if_neg (by omega)]
theorem rsL_step {L : List EntT} {i k : Nat} {ts : Int} {y : EntT} (hik : i < k) (hy : (rsL L i ts k)[k]? = some y) : (rsL L i ts k).set k { y with ts := 0 } = rsL L i ts (k + 1) := by
  have hy' := hy
  simp only [rsL, List.getElem?_mapIdx] at hy'
  rw [Option.map_eq_some_iff] at hy'
  obtain ⟨e, he, hy'⟩ := hy'
  rw [if_neg (by omega), if_neg (by omega)] at hy'
  subst hy'
  have hkl := (List.getElem?_eq_some_iff.1 he).1
  apply List.ext_getElem?
  intro j
  rw [List.getElem?_set]
  by_cases e1 : k = j
  · subst e1
    rw [if_pos rfl, if_pos (by rw [rsL_len]; exact hkl)]
    simp only [rsL, List.getElem?_mapIdx, he, Option.map_some]
    rw [if_neg (by omega), if_pos ⟨hik, by omega⟩]
  · rw [if_neg e1]
    simp only [rsL, List.getElem?_mapIdx]
    cases hj : L[j]? with
    | none => rfl
    | some e =>
      simp only [Option.map_some]
      by_cases e2 : j = i
      · rw [if_pos e2, if_pos e2]
      · rw [if_neg e2, if_neg e2]
        by_cases e3 : i < j ∧ j < k
        · rw [if_pos e3, if_pos ⟨e3.1, by omega⟩]
        · rw [if_neg e3, if_neg (by omega)]
/-- An entry whose operations lie in a row of its own. -/
structure EntK (S : Nat → Prop) (n : Nat) (w : World) (e : EntT) : Prop where
  row : w.ownsRow 0 74 3 e.ops e.opl.length (e.opl.flatMap opE)
  ins : InS S n e.ops
  len : e.opl.length ≤ 20
  each : ∀ o ∈ e.opl, opOk o
  ts0 : 0 ≤ e.ts
  ts1 : e.ts < 18446744073709551616
  cl : (Lit.int .i64 e.client).wf = true
  rq : (Lit.int .i64 e.req).wf = true
def EntsK (S : Nat → Prop) (n : Nat) (w : World) (L : List EntT) : Prop := ∀ e ∈ L, EntK S n w e
section
variable {S : Nat → Prop} {n : Nat} {w x : World} {L : List EntT} {e : EntT}
theorem EntK.to (h : EntK S n w e) (hr : x.ownsRow 0 74 3 e.ops e.opl.length (e.opl.flatMap opE)) : EntK S n x e := ⟨hr, h.ins, h.len, h.each, h.ts0, h.ts1, h.cl, h.rq⟩
theorem EntK.ok (h : EntK S n w e) : EntOk w e := ⟨row_sl h.row opE_len, h.each, h.ts0, h.ts1, h.cl, h.rq⟩
theorem EntsK.new (h : EntsK S n w L) (hg : w.grownBy x none) : EntsK S n x L := fun e he => (h e he).to (row_kept_new (h e he).row hg)
theorem EntsK.blk {N : Nat} {T : TypeId} {cs : Array Value} (h : EntsK S n w L) (hb : Blk w N T cs) (hT : 74 ≠ T) (hg : w.grownBy x (some N)) : EntsK S n x L :=
  fun e he => (h e he).to (row_kept_at (h e he).row hg (own_neT (h e he).row hb hT))
theorem EntsK.map {K V : Type} [DecidableEq K] {kv : K → Value} {enc : V → Value} {B c : Nat} {g2 : K → Option V} (h : EntsK S n w L) (hm : MapO kv enc w B g2 c) (hg : w.grownBy x (some B)) : EntsK S n x L :=
  fun e he => (h e he).to (row_kept_at (h e he).row hg (hm.row (h e he).row))
theorem EntsK.row {B sz q : Nat} {T : TypeId} {v : Value} {xs : List Value} (h : EntsK S n w L) (hr : w.ownsRow B T sz v q xs) (hT : 74 ≠ T) (hg : w.grownBy x v.ownBlock) : EntsK S n x L :=
  fun e he => (h e he).to (row_kept_row (h e he).row hr hg hT)
theorem EntsK.under {N : Nat} (h : EntsK S n w L) (hN : N = w.heap.size) : ∀ e ∈ L, ∀ i, e.ops.ownBlock = some i → i < N := fun e he i hi => by have := ((h e he).row.lt i hi).2; omega
theorem EntsK.rowU {N sz q : Nat} {T : TypeId} {v : Value} {xs : List Value} (h : EntsK S n w L) (hu : ∀ e ∈ L, ∀ i, e.ops.ownBlock = some i → i < N) (hr : w.ownsRow N T sz v q xs) (hg : w.grownBy x v.ownBlock) : EntsK S n x L :=
  fun e he => (h e he).to (row_kept_ap (h e he).row hr (hu e he) hg)
theorem EntsK.atU {N : Nat} (h : EntsK S n w L) (hu : ∀ e ∈ L, ∀ i, e.ops.ownBlock = some i → i < N) (hg : w.grownBy x (some N)) : EntsK S n x L :=
  fun e he => (h e he).to (row_kept_at (h e he).row hg (fun q => by have := hu e he N q; omega))
theorem EntsK.mapG {K V : Type} [DecidableEq K] {kv : K → Value} {enc : V → Value} {z : V} {B : Nat} {g2 : K → V} (h : EntsK S n w L) (hm : MapG kv enc z w B g2) (hg : w.grownBy x (some B)) : EntsK S n x L :=
  fun e he => (h e he).to (row_kept_at (h e he).row hg (hm.row (h e he).row))
theorem EntsK.take (h : EntsK S n w L) (i : Nat) : EntsK S n w (L.take i) := fun e he => h e (List.mem_of_mem_take he)
theorem EntsK.snoc (h : EntsK S n w L) (he : EntK S n w e) : EntsK S n w (L ++ [e]) := fun z hz => by
  rw [List.mem_append] at hz
  rcases hz with hz | hz
  · exact h z hz
  · simp at hz; subst hz; exact he
theorem EntK.ts (h : EntK S n w e) {t : Int} (ht : 0 ≤ t ∧ t < 18446744073709551616) : EntK S n w { e with ts := t } := ⟨h.row, h.ins, h.len, h.each, ht.1, ht.2, h.cl, h.rq⟩
theorem EntsK.set (h : EntsK S n w L) {i : Nat} {z : EntT} (hz : EntK S n w z) : EntsK S n w (L.set i z) := fun e he => by
  rcases List.mem_or_eq_of_mem_set he with q | q
  · exact h e q
  · exact q ▸ hz
theorem EntsK.at (h : EntsK S n w L) {i : Nat} {y : EntT} (hy : L[i]? = some y) : EntK S n w y := h y (List.mem_of_getElem? hy)
theorem EntsK.eq {L' : List EntT} (h : EntsK S n w L) (e : L = L') : EntsK S n w L' := e ▸ h
theorem blk_ne_mapN {K V : Type} {kv : K → Value} [DecidableEq K] {enc : V → Value} {N B c : Nat} {T : TypeId} {cs : Array Value} {g2 : K → Option V} (hb : Blk w N T cs) (hm : MapO kv enc w B g2 c) : N ≠ B := by
  intro e; subst e
  obtain ⟨l, ⟨es, cl, h1, _⟩, _⟩ := hm
  have := hb.symm.trans h1
  cases this
/-- A slice that came in, where its block is none of those that were turned. -/
theorem sl_butN {α : Type} {enc : α → List Value} {sz : Nat} {v : Value} {l : List α} (h : SliceOf enc sz w v l) (hb : But S w x) (hv : l ≠ [] → ∀ k, v.ownBlock = some k → ¬ S k) : SliceOf enc sz x v l := by
  obtain ⟨ao, cap, rfl, h1, h2, h3, h4⟩ := h
  refine ⟨ao, cap, rfl, h1, h2, h3, fun j hj => ?_⟩
  obtain ⟨b, off, e, hr⟩ := h4 j hj
  subst e
  refine ⟨b, off, rfl, fun i u hu => ?_⟩
  have hc := hr i u hu
  have hlt := World.block_lt_of_cell? w _ hc
  exact (World.cell?_of_block (w := w) (hb.block b hlt (hv (fun q => by subst q; simp at hj) b rfl))).trans hc
end
/-- A log that was made, with all its parts. -/
structure LgP (S : Nat → Prop) (n : Nat) (w : World) (b M : Nat) (u : Value) (L : List EntT) : Prop where
  blk : Blk w b 68 #[.bool true, u, .map (some M)]
  map : ∃ c, MapO arr2K spotV w M (findN L) c
  row : w.ownsRow 0 37 4 u L.length (L.flatMap entE)
  ents : EntsK S n w L
  sb : S b ∨ n ≤ b
  sM : S M ∨ n ≤ M
  su : InS S n u
  uq : UqN L
  len : L.length ≤ 100

set_option maxRecDepth 100000 in
theorem cloneO_any (v : Value) (l : List OpT) (w : World) (hs : SliceOf opE 3 w v l) (hlen : l.length ≤ 20) :
    Calls Try.prog 76 #[v] w fun e w' => ∃ (u : Value), e = .returned (u) ∧ w'.ownsRow w.heap.size 74 3 u l.length (l.flatMap opE) ∧ Below w.heap.size w w' := by
 have hB0 := Below.refl w.heap.size w
 have hl_hs := sl_len hs
 have hs' := hs; obtain ⟨ao, cap, hv, _, _, h3, _⟩ := hs'; subst hv; rcases ao with _ | ad
 · obtain ⟨hl0, hc0⟩ := h3 rfl; obtain rfl : l = [] := List.eq_nil_of_length_eq_zero hl0; subst hc0
   refine co_enter (n := 8) Try.func76 rfl rfl rfl [(0, .slice none 0 0)] rfl (fun a h0 => ?_)
   refine co_seq ?_
   refine co_reg ?_
   refine pk0 (v := .slice none 0 0) h0 rfl fun a1 h1 => ?_; clear h0
   refine pl_nil ?_
   refine co_then ?_
   refine co_seq ?_
   refine co_seq ?_
   refine co_reg ?_
   refine pk0 (v := .slice none 0 0) h1 rfl fun a2 h2 => ?_; clear h1
   refine pk0 (v := .bool true) h2 rfl fun a3 h3 => ?_; clear h2
   refine pl_nil ?_
   refine co_then ?_
   refine co_true h3 rfl ?_
   refine co_seq ?_
   refine co_reg ?_
   refine pk0 (v := .slice none 0 0) h3 rfl fun a4 h4 => ?_; clear h3
   refine pl_nil ?_
   refine co_then ?_
   refine wp_ret ?_
   refine co_thenR ?_
   refine co_ret1 h4 rfl rfl ?_
   exact ⟨_, rfl, (row_nilL _ _ _ _ _), hB0⟩
 · skip
   refine co_enter (n := 8) Try.func76 rfl rfl rfl [(0, .slice (some ad) l.length cap)] rfl (fun a h0 => ?_)
   refine co_seq ?_
   refine co_reg ?_
   refine pk0 (v := .slice none 0 0) h0 rfl fun a5 h5 => ?_; clear h0
   refine pl_nil ?_
   refine co_then ?_
   refine co_seq ?_
   refine co_seq ?_
   refine co_reg ?_
   refine pk0 (v := .slice (some ad) l.length cap) h5 rfl fun a6 h6 => ?_; clear h5
   refine pk0 (v := .bool false) h6 rfl fun a7 h7 => ?_; clear h6
   refine pl_nil ?_
   refine co_then ?_
   refine co_false h7 rfl ?_
   refine wp_skip ?_
   refine co_then ?_
   refine co_seq ?_
   refine co_reg ?_
   refine pw h7 rfl (op_new (v := fun N => .slice (some ⟨N, 0, none⟩) 0 0) (T := 74) (cs := #[]) (by kernel_rfl) (by kernel_rfl) (by kernel_rfl)) ?_; clear h7
   rintro _ w9 a8 ⟨N10, rfl, hN13, hz14, hk12, hg11⟩ h8
   have hz15 := hg11.size
   try dsimp only at h8
   refine pk0 (v := .slice (some ad) l.length cap) h8 rfl fun a16 h16 => ?_; clear h8
   have hr19 := row_of_blkL hk12 (Nat.le_refl _) 3 opE
   have hB24 := hb_new hB0 hg11
   refine pw h16 rfl (op_appendSrc rfl N10 74 (z := .agg #[.string (⟨#[]⟩), .string (⟨#[]⟩), .bool false]) (size := 3) (bytes := 40) Try.underlying33 (by kernel_rfl) rfl rfl rfl hr19 rfl (hs.below hB24) (fun y hy => ⟨opE_len y, opE_one y⟩) (by first | omega | (simp only [List.length_nil, List.length_append, List.length_cons, List.length_take, List.length_drop]; omega)) (by first | omega | (simp only [List.length_nil, List.length_append, List.length_cons, List.length_take, List.length_drop]; omega)) (by omega)) ?_; clear h16
   rintro v20 w18 a17 ⟨hr21, hg22⟩ h17
   have hr21' : w18.ownsRow N10 74 3 v20 l.length (l.flatMap opE) := row_app (l := []) hr21; clear hr21
   have hz25 := hg22.size
   refine pk0 (v := v20) h17 rfl fun a26 h26 => ?_; clear h17
   refine pl_nil ?_
   refine co_then ?_
   refine wp_ret ?_
   refine co_ret1 h26 rfl rfl ?_
   have hB27 := hb_row hB24 hr19 (by omega) hg22
   exact ⟨_, rfl, (row_lows hr21' (by omega)), hB27⟩
set_option maxRecDepth 100000 in
theorem freshBatch_any (c : Int) (r : Int) (v : Value) (l : List OpT) (w : World) (hs : SliceOf opE 3 w v l) (hlen : l.length ≤ 20) :
    Calls Try.prog 67 #[.agg #[.int .i64 c, .int .i64 r, v]] w fun e w' => ∃ (u : Value), e = .returned (.agg #[.int .i64 c, .int .i64 r, u]) ∧ w'.ownsRow w.heap.size 74 3 u l.length (l.flatMap opE) ∧ Below w.heap.size w w' := by
 have hB0 := Below.refl w.heap.size w
 have hl_hs := sl_len hs
 refine co_enter (n := 8) Try.func67 rfl rfl rfl [(0, .agg #[.int .i64 c, .int .i64 r, v])] rfl (fun a h0 => ?_)
 refine co_seq ?_
 refine co_reg ?_
 refine pw h0 rfl (op_new (v := fun N => pt N 0) (T := 35) (cs := #[.int .i64 c, .int .i64 r, v]) (by kernel_rfl) (by kernel_rfl) (by kernel_rfl)) ?_; clear h0
 rintro _ w2 a1 ⟨N3, rfl, hN6, hz7, hk5, hg4⟩ h1
 have hz8 := hg4.size
 try dsimp only at h1
 refine pw h1 rfl (op_new (v := fun N => pt N 0) (T := 35) (cs := #[.int .i64 0, .int .i64 0, .slice none 0 0]) (by kernel_rfl) (by kernel_rfl) (by kernel_rfl)) ?_; clear h1
 rintro _ w10 a9 ⟨N11, rfl, hN14, hz15, hk13, hg12⟩ h9
 have hz16 := hg12.size
 try dsimp only at h9
 refine pl_nil ?_
 refine co_then ?_
 refine co_seq ?_
 refine co_reg ?_
 refine pk0 (v := pt N3 2) h9 rfl fun a17 h17 => ?_; clear h9
 have hk18 := hk5.kept hg12 (by simp)
 refine pk (v := v) h17 rfl (rn_load1 rfl rfl Try.isAgg33 (hk18.cell rfl)) fun a19 h19 => ?_; clear h17
 have hB22 := hb_new hB0 hg4
 have hB23 := hb_new hB22 hg12
 refine pw h19 rfl (op_call (args := #[v]) (R := fun res xw => ∃ u : Value, res = u ∧ xw.ownsRow w10.heap.size 74 3 u l.length (l.flatMap opE) ∧ Below w10.heap.size w10 xw) rfl rfl rfl (by kernel_rfl) (by kernel_rfl) (Try.call76 _ _) (cloneO_any v l w10 (hs.below hB23) (by first | omega | (simp; done) | (simp; omega))) (by rintro e x ⟨u, rfl, hq25, hb26⟩; exact ⟨_, rfl, ⟨u, rfl, hq25, hb26⟩⟩)) ?_; clear h19
 rintro u24 w21 a20 ⟨_, rfl, hq25, hb26⟩ h20
 have hz27 := hb26.size
 have hl28 := sl_len (row_sl hq25 opE_len)
 refine pk0 (v := pt N3 2) h20 rfl fun a29 h29 => ?_; clear h20
 have hk35 := hk18.below hb26
 refine pwD h29 rfl (op_store1 rfl rfl rfl (row_one hq25) Try.sizeOf33 hk35 rfl) ?_; clear h29
 rintro _ w31 a30 ⟨hk32, hz33, hg34⟩ h30
 have hk32' : Blk w31 N3 35 #[.int .i64 c, .int .i64 r, u24] := hk32; clear hk32
 have hz36 := hg34.size
 refine pl_nil ?_
 refine co_then ?_
 refine co_seq ?_
 refine co_reg ?_
 refine pk (v := .agg #[.int .i64 c, .int .i64 r, u24]) h30 rfl (rn_loadN rfl rfl Try.underlying35 rfl (by kernel_rfl) hk32'.all) fun a37 h37 => ?_; clear h30
 have hr43 := row_kept_at hq25 hg34 (row_ne_lt hq25 (by omega))
 have hk44 := hk13.below hb26
 have hk45 := hk44.kept hg34 (by simp; omega)
 refine pwD h37 rfl (op_storeN rfl rfl rfl (all_cons rfl (all_cons rfl (all_cons (row_one hr43) all_nil))) (by kernel_rfl) hk45 rfl) ?_; clear h37
 rintro _ w39 a38 ⟨hk40, hz41, hg42⟩ h38
 have hk40' : Blk w39 N11 35 #[.int .i64 c, .int .i64 r, u24] := hk40; clear hk40
 have hz46 := hg42.size
 refine pl_nil ?_
 refine co_then ?_
 refine wp_ret ?_
 refine co_retC (Q := fun _ _ _ => True) h38 rfl rfl hk40' Try.underlying35 rfl (by kernel_rfl) ?_
 have hr47 := row_kept_at hr43 hg42 (row_ne_lt hr43 (by omega))
 have hB48 := hb_call hB23 hb26
 have hB49 := hb_at hB48 hg34 (by omega)
 have hB50 := hb_at hB49 hg42 (by omega)
 exact ⟨_, rfl, (row_lows hr47 (by omega)), hB50⟩
set_option maxRecDepth 100000 in
theorem freshEntry_any (c : Int) (r : Int) (v : Value) (l : List OpT) (ts : Int) (w : World) (hs : SliceOf opE 3 w v l) (hlen : l.length ≤ 20) :
    Calls Try.prog 48 #[.agg #[.int .i64 c, .int .i64 r, v, .int .u64 ts]] w fun e w' => ∃ (u : Value), e = .returned (.agg #[.int .i64 c, .int .i64 r, u, .int .u64 ts]) ∧ w'.ownsRow w.heap.size 74 3 u l.length (l.flatMap opE) ∧ Below w.heap.size w w' := by
 have hB0 := Below.refl w.heap.size w
 have hl_hs := sl_len hs
 refine co_enter (n := 8) Try.func48 rfl rfl rfl [(0, .agg #[.int .i64 c, .int .i64 r, v, .int .u64 ts])] rfl (fun a h0 => ?_)
 refine co_seq ?_
 refine co_reg ?_
 refine pw h0 rfl (op_new (v := fun N => pt N 0) (T := 37) (cs := #[.int .i64 c, .int .i64 r, v, .int .u64 ts]) (by kernel_rfl) (by kernel_rfl) (by kernel_rfl)) ?_; clear h0
 rintro _ w2 a1 ⟨N3, rfl, hN6, hz7, hk5, hg4⟩ h1
 have hz8 := hg4.size
 try dsimp only at h1
 refine pw h1 rfl (op_new (v := fun N => pt N 0) (T := 37) (cs := #[.int .i64 0, .int .i64 0, .slice none 0 0, .int .u64 0]) (by kernel_rfl) (by kernel_rfl) (by kernel_rfl)) ?_; clear h1
 rintro _ w10 a9 ⟨N11, rfl, hN14, hz15, hk13, hg12⟩ h9
 have hz16 := hg12.size
 try dsimp only at h9
 refine pl_nil ?_
 refine co_then ?_
 refine co_seq ?_
 refine co_reg ?_
 refine pk0 (v := pt N3 0) h9 rfl fun a17 h17 => ?_; clear h9
 have hk18 := hk5.kept hg12 (by simp)
 refine pk (v := .agg #[.int .i64 c, .int .i64 r, v]) h17 rfl (rn_loadN rfl rfl Try.underlying35 rfl (by kernel_rfl) (blk_part hk18 0 (by rfl))) fun a19 h19 => ?_; clear h17
 have hB22 := hb_new hB0 hg4
 have hB23 := hb_new hB22 hg12
 refine pw h19 rfl (op_call (args := #[.agg #[.int .i64 c, .int .i64 r, v]]) (R := fun res xw => ∃ u : Value, res = .agg #[.int .i64 c, .int .i64 r, u] ∧ xw.ownsRow w10.heap.size 74 3 u l.length (l.flatMap opE) ∧ Below w10.heap.size w10 xw) rfl rfl rfl (by kernel_rfl) (by kernel_rfl) (Try.call67 _ _) (freshBatch_any c r v l w10 (hs.below hB23) (by first | omega | (simp; done) | (simp; omega))) (by rintro e x ⟨u, rfl, hq25, hb26⟩; exact ⟨_, rfl, ⟨u, rfl, hq25, hb26⟩⟩)) ?_; clear h19
 rintro _ w21 a20 ⟨u24, rfl, hq25, hb26⟩ h20
 have hz27 := hb26.size
 have hl28 := sl_len (row_sl hq25 opE_len)
 refine pk0 (v := pt N3 0) h20 rfl fun a29 h29 => ?_; clear h20
 have hk35 := hk18.below hb26
 refine pwD h29 rfl (op_storePart (k := 0) (cs' := #[.int .i64 c, .int .i64 r, u24, .int .u64 ts]) rfl rfl rfl (all_cons rfl (all_cons rfl (all_cons (row_one hq25) all_nil))) (by kernel_rfl) hk35 rfl rfl) ?_; clear h29
 rintro _ w31 a30 ⟨hk32, hz33, hg34⟩ h30
 have hk32' : Blk w31 N3 37 #[.int .i64 c, .int .i64 r, u24, .int .u64 ts] := hk32; clear hk32
 have hz36 := hg34.size
 refine pl_nil ?_
 refine co_then ?_
 refine co_seq ?_
 refine co_reg ?_
 refine pk (v := .agg #[.int .i64 c, .int .i64 r, u24, .int .u64 ts]) h30 rfl (rn_loadN rfl rfl Try.underlying37 rfl (by kernel_rfl) hk32'.all) fun a37 h37 => ?_; clear h30
 have hr43 := row_kept_at hq25 hg34 (row_ne_lt hq25 (by omega))
 have hk44 := hk13.below hb26
 have hk45 := hk44.kept hg34 (by simp; omega)
 refine pwD h37 rfl (op_storeN rfl rfl rfl (all_cons rfl (all_cons rfl (all_cons (row_one hr43) (all_cons rfl all_nil)))) (by kernel_rfl) hk45 rfl) ?_; clear h37
 rintro _ w39 a38 ⟨hk40, hz41, hg42⟩ h38
 have hk40' : Blk w39 N11 37 #[.int .i64 c, .int .i64 r, u24, .int .u64 ts] := hk40; clear hk40
 have hz46 := hg42.size
 refine pl_nil ?_
 refine co_then ?_
 refine wp_ret ?_
 refine co_retC (Q := fun _ _ _ => True) h38 rfl rfl hk40' Try.underlying37 rfl (by kernel_rfl) ?_
 have hr47 := row_kept_at hr43 hg42 (row_ne_lt hr43 (by omega))
 have hB48 := hb_call hB23 hb26
 have hB49 := hb_at hB48 hg34 (by omega)
 have hB50 := hb_at hB49 hg42 (by omega)
 exact ⟨_, rfl, (row_lows hr47 (by omega)), hB50⟩
set_option maxRecDepth 100000 in
theorem lzero_any (b : Nat) (M : Nat) (u : Value) (w : World) (hD : Blk w b 68 #[.bool true, u, .map (some M)]) :
    Calls Try.prog 39 #[pt b 0] w fun e w' => e = .returned (.bool false) ∧ w = w' := by
 have hB0 := Below.refl w.heap.size w
 have hl_hD := hD.lt
 refine co_enter (n := 12) Try.func39 rfl rfl rfl [(0, pt b 0)] rfl (fun a h0 => ?_)
 refine co_seq ?_
 refine co_reg ?_
 refine pk0 (v := .bool false) h0 rfl fun a1 h1 => ?_; clear h0
 refine pl_nil ?_
 refine co_then ?_
 refine co_seq ?_
 refine co_reg ?_
 refine pk0 (v := pt b 0) h1 rfl fun a2 h2 => ?_; clear h1
 refine pk0 (v := .bool false) h2 rfl fun a3 h3 => ?_; clear h2
 refine pk0 (v := .bool false) h3 rfl fun a4 h4 => ?_; clear h3
 refine pk0 (v := pt b 0) h4 rfl fun a5 h5 => ?_; clear h4
 refine pk0 (v := pt b 0) h5 rfl fun a6 h6 => ?_; clear h5
 refine pk0 (v := pt b 0) h6 rfl fun a7 h7 => ?_; clear h6
 refine pk (v := .bool true) h7 rfl (rn_load1 rfl rfl Try.isAgg4 (hD.cell rfl)) fun a8 h8 => ?_; clear h7
 refine pk0 (v := .bool false) h8 rfl fun a9 h9 => ?_; clear h8
 refine pk0 (v := .bool false) h9 rfl fun a10 h10 => ?_; clear h9
 refine pk0 (v := .bool false) h10 rfl fun a11 h11 => ?_; clear h10
 refine pl_nil ?_
 refine co_then ?_
 refine wp_ret ?_
 refine co_ret1 h11 rfl rfl ?_
 exact ⟨rfl, rfl⟩
set_option maxRecDepth 100000 in
theorem lname_any (c : Int) (r : Int) (v : Value) (ts : Int) (w : World)  :
    Calls Try.prog 58 #[.agg #[.int .i64 c, .int .i64 r, v, .int .u64 ts]] w fun e w' => e = .returned (.agg #[.int .i64 c, .int .i64 r]) ∧ Below w.heap.size w w' := by
 have hB0 := Below.refl w.heap.size w
 refine co_enter (n := 10) Try.func58 rfl rfl rfl [(0, .agg #[.int .i64 c, .int .i64 r, v, .int .u64 ts])] rfl (fun a h0 => ?_)
 refine co_seq ?_
 refine co_reg ?_
 refine pw h0 rfl (op_new (v := fun N => pt N 0) (T := 37) (cs := #[.int .i64 c, .int .i64 r, v, .int .u64 ts]) (by kernel_rfl) (by kernel_rfl) (by kernel_rfl)) ?_; clear h0
 rintro _ w2 a1 ⟨N3, rfl, hN6, hz7, hk5, hg4⟩ h1
 have hz8 := hg4.size
 try dsimp only at h1
 refine pw h1 rfl (op_new (v := fun N => pt N 0) (T := 112) (cs := #[.int .i64 0, .int .i64 0]) (by kernel_rfl) (by kernel_rfl) (by kernel_rfl)) ?_; clear h1
 rintro _ w10 a9 ⟨N11, rfl, hN14, hz15, hk13, hg12⟩ h9
 have hz16 := hg12.size
 try dsimp only at h9
 refine pl_nil ?_
 refine co_then ?_
 refine co_seq ?_
 refine co_reg ?_
 refine pk0 (v := pt N3 0) h9 rfl fun a17 h17 => ?_; clear h9
 refine pk0 (v := pt N3 0) h17 rfl fun a18 h18 => ?_; clear h17
 have hk19 := hk5.kept hg12 (by simp)
 refine pk (v := .int .i64 c) h18 rfl (rn_load1 rfl rfl Try.isAgg3 (hk19.cell rfl)) fun a20 h20 => ?_; clear h18
 refine pk0 (v := pt N3 0) h20 rfl fun a21 h21 => ?_; clear h20
 refine pk0 (v := pt N3 1) h21 rfl fun a22 h22 => ?_; clear h21
 refine pk (v := .int .i64 r) h22 rfl (rn_load1 rfl rfl Try.isAgg3 (hk19.cell rfl)) fun a23 h23 => ?_; clear h22
 refine pk0 (v := .agg #[.int .i64 c, .int .i64 r]) h23 rfl fun a24 h24 => ?_; clear h23
 refine pwD h24 rfl (op_storeN rfl rfl rfl (by kernel_rfl) (by kernel_rfl) hk13 rfl) ?_; clear h24
 rintro _ w26 a25 ⟨hk27, hz28, hg29⟩ h25
 have hk27' : Blk w26 N11 112 #[.int .i64 c, .int .i64 r] := hk27; clear hk27
 have hz30 := hg29.size
 refine pl_nil ?_
 refine co_then ?_
 refine wp_ret ?_
 refine co_retC (Q := fun _ _ _ => True) h25 rfl rfl hk27' Try.underlying112 rfl (by kernel_rfl) ?_
 have hB31 := hb_new hB0 hg4
 have hB32 := hb_new hB31 hg12
 have hB33 := hb_at hB32 hg29 (by omega)
 exact ⟨rfl, hB33⟩
set_option maxRecDepth 100000 in
theorem lNew_any  (w : World)  :
    Calls Try.prog 8 #[] w fun e w' => ∃ (N : Nat) (M : Nat), e = .returned (pt N 0) ∧ LgP (fun _ => False) w.heap.size w' N M (.slice none 0 0) [] ∧ Below w.heap.size w w' := by
 have hB0 := Below.refl w.heap.size w
 refine co_enter (n := 4) Try.func8 rfl rfl rfl [] rfl (fun a h0 => ?_)
 refine co_seq ?_
 refine co_reg ?_
 refine pk0 (v := .pointer none) h0 rfl fun a1 h1 => ?_; clear h0
 refine pl_nil ?_
 refine co_then ?_
 refine co_seq ?_
 refine co_reg ?_
 refine pw h1 rfl (op_makeO arr2K spotV (by kernel_rfl) (by kernel_rfl) rfl) ?_; clear h1
 rintro _ w3 a2 ⟨B4, rfl, hN5, hz6, hm7, hg8⟩ h2
 have hz9 := hg8.size
 have hl10 := hm7.lt
 refine pk0 (v := .agg #[.bool true, .slice none 0 0, .map (some B4)]) h2 rfl fun a11 h11 => ?_; clear h2
 refine pw h11 rfl (op_new (v := fun N => pt N 0) (T := 68) (cs := #[.bool true, .slice none 0 0, .map (some B4)]) (by kernel_rfl) (by kernel_rfl) (by kernel_rfl)) ?_; clear h11
 rintro _ w13 a12 ⟨N14, rfl, hN17, hz18, hk16, hg15⟩ h12
 have hz19 := hg15.size
 try dsimp only at h12
 refine pk0 (v := pt N14 0) h12 rfl fun a20 h20 => ?_; clear h12
 refine pl_nil ?_
 refine co_then ?_
 refine wp_ret ?_
 refine co_ret1 h20 rfl rfl ?_
 have hM21 := hm7.kept hg15 (by simp)
 have hB22 := hb_new hB0 hg8
 have hB23 := hb_new hB22 hg15
 exact ⟨_, _, rfl, ⟨hk16, ⟨_, hM21⟩, World.ownsRow_nil _ _ _ _, (fun e he => by cases he), .inr (by omega), .inr (by omega), InS.nil, by simp [UqN], by simp⟩, hB23⟩
set_option maxRecDepth 100000 in
theorem lrestamp_any (w0 : World) (S : Nat → Prop) (b : Nat) (M : Nat) (u : Value) (L : List EntT) (i : Int) (ts : Int) (w : World) (hbw : But S w0 w) (hO : LgP S w0.heap.size w b M u L) (hi0 : 0 ≤ i ∧ i < L.length) (hts : 0 ≤ ts ∧ ts < 18446744073709551616) :
    Calls Try.prog 59 #[pt b 0, .int .i64 i, .int .u64 ts] w fun e w' => e = .returned (.tuple #[]) ∧ LgP S w0.heap.size w' b M u (restF L i.toNat ts) ∧ But (S) w0 w' := by
 have hB0 := hbw
 have hz0 := hbw.size
 have hz0 := hbw.size
 have hl3 := hO.blk.lt; obtain ⟨c1, hm2⟩ := hO.map; have hl4 := hm2.lt; have hne5 := blk_ne_mapN hO.blk hm2; have hln6 := hO.len
 refine co_enter (n := 43) Try.func59 rfl rfl rfl [(0, pt b 0), (1, .int .i64 i), (2, .int .u64 ts)] rfl (fun a h0 => ?_)
 refine co_seq ?_
 refine co_seq ?_
 refine co_reg ?_
 refine pk0 (v := pt b 0) h0 rfl fun a7 h7 => ?_; clear h0
 refine pk0 (v := pt b 0) h7 rfl fun a8 h8 => ?_; clear h7
 refine pk0 (v := pt b 1) h8 rfl fun a9 h9 => ?_; clear h8
 refine pk (v := u) h9 rfl (rn_load1 rfl rfl Try.isAgg29 (hO.blk.cell rfl)) fun a10 h10 => ?_; clear h9
 refine pk0 (v := .int .i64 i) h10 rfl fun a11 h11 => ?_; clear h10
 obtain ⟨y12, hy12⟩ : ∃ z, L[(i).toNat]? = some z := ⟨_, List.getElem?_eq_getElem (by first | omega | (simp; done) | (simp; omega))⟩
 have oky12 := (fun (z : EntT) (_ : z ∈ L) => trivial) _ (List.mem_of_getElem? hy12)
 have hy13 := hO.ents.at hy12
 have hq14 := hy13.ts0; have hq15 := hy13.ts1; have hq16 := hy13.len; have hq17 := wf_i64 hy13.cl; have hq18 := wf_i64 hy13.rq
 refine pk (v := pt (blkOf u) (offOf u + ((i).toNat) * 4)) h11 rfl (rn_index rfl rfl rfl Try.underlying29 Try.sizeOf37 (row_sl hO.row entE_len) (by omega) (by first | omega | (simp; done) | (simp; omega))) fun a19 h19 => ?_; clear h11
 refine pk0 (v := pt (blkOf u) (offOf u + ((i).toNat) * 4 + 3)) h19 rfl fun a20 h20 => ?_; clear h19
 refine pk (v := .int .u64 y12.ts) h20 rfl (rn_load1 rfl rfl Try.isAgg23 ((sl_at (row_sl hO.row entE_len) hy12) 3 _ rfl)) fun a21 h21 => ?_; clear h20
 refine pk0 (v := .int .u64 ts) h21 rfl fun a22 h22 => ?_; clear h21
 refine pk0 (v := .bool (y12.ts == ts)) h22 rfl fun a23 h23 => ?_; clear h22
 refine pl_nil ?_
 refine co_then ?_
 cases hc24 : (y12.ts == ts)
 ·
  rw [hc24] at h23
  have hp25 : ¬ (y12.ts = ts) := by first | simpa using hc24 | simpa [and_assoc] using hc24
  clear hc24
  refine co_false h23 rfl ?_
  refine wp_skip ?_
  refine co_then ?_
  refine co_seq ?_
  refine co_reg ?_
  refine pk0 (v := pt b 0) h23 rfl fun a26 h26 => ?_; clear h23
  refine pk0 (v := pt b 0) h26 rfl fun a27 h27 => ?_; clear h26
  refine pk0 (v := pt b 1) h27 rfl fun a28 h28 => ?_; clear h27
  refine pk (v := u) h28 rfl (rn_load1 rfl rfl Try.isAgg29 (hO.blk.cell rfl)) fun a29 h29 => ?_; clear h28
  refine pk0 (v := .int .i64 i) h29 rfl fun a30 h30 => ?_; clear h29
  refine pk0 (v := .int .u64 ts) h30 rfl fun a31 h31 => ?_; clear h30
  refine pk (v := pt (blkOf u) (offOf u + ((i).toNat) * 4)) h31 rfl (rn_index rfl rfl rfl Try.underlying29 Try.sizeOf37 (row_sl hO.row entE_len) (by omega) (by first | omega | (simp; done) | (simp; omega))) fun a32 h32 => ?_; clear h31
  refine pk0 (v := pt (blkOf u) (offOf u + ((i).toNat) * 4 + 3)) h32 rfl fun a33 h33 => ?_; clear h32
  refine pwD h33 rfl (op_storeRow (c := ((i).toNat) * 4 + 3) rfl rfl rfl rfl Try.sizeOf23 hO.row (flat_lt entE_len (by first | omega | (simp; omega)) (by omega)) (by first | rfl | omega)) ?_; clear h33
  rintro _ w35 a34 ⟨hr36, hz37, hg38⟩ h34
  have hr36' := row_set (y' := (EntT.mk y12.client y12.req (y12.ops) y12.opl ts)) hr36 entE_len hy12 (by omega) rfl; clear hr36
  have hz39 := hg38.size
  have hE40 := hO.ents.row hO.row (by decide) hg38
  have hE41 := EntsK.set (i := ((i).toNat)) hE40 (EntK.ts (t := ts) (EntsK.at hE40 hy12) (by omega))
  refine pl_nil ?_
  refine co_then ?_
  refine co_seq ?_
  refine co_reg ?_
  refine pk0 (v := .int .i64 i) h34 rfl fun a42 h42 => ?_; clear h34
  refine pk (v := .int .i64 (i + 1)) h42 rfl (rn_arith rfl rfl rfl rfl rfl rfl (IntWalk.i64_in _ (by omega))) fun a43 h43 => ?_; clear h42
  refine pk0 (v := .int .i64 (i + 1)) h43 rfl fun a44 h44 => ?_; clear h43
  refine pl_nil ?_
  refine co_then ?_
  refine wp_block ?_
  have h45 : Slots 43 [(0, pt b 0), (1, .int .i64 i), (2, .int .u64 ts), (6, .int .i64 (i + 1))] _ := h44.sub ⟨rfl, rfl, rfl, rfl, trivial⟩; clear h44
  refine co_loop (fun mm a x => ∃ (k : Nat), Slots 43 [(0, pt b 0), (1, .int .i64 i), (2, .int .u64 ts), (6, .int .i64 ((k : Nat) : Int))] a ∧ mm = L.length - k ∧ (i.toNat < k) ∧ (k ≤ L.length) ∧ x.ownsRow 0 37 4 u (rsL L i.toNat ts k).length ((rsL L i.toNat ts k).flatMap entE) ∧ EntsK S w0.heap.size x (rsL L i.toNat ts k) ∧ MapO arr2K spotV x M (findN L) c1 ∧ But (S) w0 x ∧ Blk x b 68 #[.bool true, u, .map (some M)]) (L.length - (i.toNat + 1)) ?_ ?_
  have hM46 := hm2.kept hg38 (hm2.row hO.row)
  have hB47 := fbU_row hB0 hO.su hg38
  have hk48 := hO.blk.kept hg38 (own_neT hO.row hO.blk (by decide))
  · exact ⟨(i.toNat + 1), h45.sub ⟨rfl, rfl, rfl, (slot_eq rfl (congrArg (Value.int .i64) (by first | rfl | omega))), trivial⟩, rfl, by omega, by omega, (row_eq hr36' (by first | exact rsL_1 (by assumption) | exact rsL_step (by omega) (by assumption))), (hE41.eq (by first | exact rsL_1 (by assumption) | exact rsL_step (by omega) (by assumption))), hM46, hB47, hk48⟩
  · rintro k49 a50 w51 ⟨k, h50, rfl, hi52, hi53, hf54, hf55, hf56, hB57, hk58⟩
    have hz59 := hB57.size
    have hl60 := hk58.lt
    have hl61 := hf56.lt
    have hrl := rsL_len L i.toNat ts k
    refine co_seq ?_
    refine co_seq ?_
    refine co_reg ?_
    refine pk0 (v := .int .i64 ((k : Nat) : Int)) h50 rfl fun a62 h62 => ?_; clear h50
    refine pk0 (v := pt b 0) h62 rfl fun a63 h63 => ?_; clear h62
    refine pk0 (v := pt b 0) h63 rfl fun a64 h64 => ?_; clear h63
    refine pk0 (v := pt b 1) h64 rfl fun a65 h65 => ?_; clear h64
    refine pk (v := u) h65 rfl (rn_load1 rfl rfl Try.isAgg29 (hk58.cell rfl)) fun a66 h66 => ?_; clear h65
    refine pk (v := .int .i64 (((rsL L i.toNat ts k).length : Nat) : Int)) h66 rfl (rn_lenOwn rfl rfl Try.underlying29 hf54) fun a67 h67 => ?_; clear h66
    refine pk0 (v := .bool (decide (((k : Nat) : Int) < (((rsL L i.toNat ts k).length : Nat) : Int)))) h67 rfl fun a68 h68 => ?_; clear h67
    refine pl_nil ?_
    refine co_then ?_
    cases hc69 : (decide (((k : Nat) : Int) < (((rsL L i.toNat ts k).length : Nat) : Int)))
    ·
     rw [hc69] at h68
     have hp70 : ¬ (((k : Nat) : Int) < (((rsL L i.toNat ts k).length : Nat) : Int)) := of_decide_eq_false hc69
     clear hc69
     refine co_false h68 rfl ?_
     refine wp_exit ?_
     refine co_thenX ?_
     refine co_thenX ?_
     refine co_blockX ?_
     refine co_ret0n h68 rfl ?_
     have hr0 := restF_ne (ts := ts) (k := k) hy12 (by omega) (by omega)
     exact ⟨rfl, by rw [← hr0]; exact ⟨hk58, ⟨_, hf56.eq ((findN_nm (rsL_nm _ _ _ _)).symm) (Nat.le_refl _)⟩, hf54, hf55, hO.sb, hO.sM, hO.su, (hO.uq.nm (rsL_nm _ _ _ _)), (by rw [rsL_len]; exact hO.len)⟩, hB57⟩
    ·
     rw [hc69] at h68
     have hp71 : ((k : Nat) : Int) < (((rsL L i.toNat ts k).length : Nat) : Int) := of_decide_eq_true hc69
     clear hc69
     refine co_true h68 rfl ?_
     refine wp_skip ?_
     refine co_then ?_
     refine co_seq ?_
     refine wp_block ?_
     refine co_reg ?_
     refine pk0 (v := pt b 0) h68 rfl fun a72 h72 => ?_; clear h68
     refine pk0 (v := pt b 0) h72 rfl fun a73 h73 => ?_; clear h72
     refine pk0 (v := pt b 1) h73 rfl fun a74 h74 => ?_; clear h73
     refine pk (v := u) h74 rfl (rn_load1 rfl rfl Try.isAgg29 (hk58.cell rfl)) fun a75 h75 => ?_; clear h74
     refine pk0 (v := .int .i64 ((k : Nat) : Int)) h75 rfl fun a76 h76 => ?_; clear h75
     obtain ⟨y77, hy77⟩ : ∃ z, (rsL L i.toNat ts k)[k]? = some z := ⟨_, List.getElem?_eq_getElem (by first | omega | (simp; done) | (simp; omega))⟩
     have oky77 := (fun (z : EntT) (_ : z ∈ (rsL L i.toNat ts k)) => trivial) _ (List.mem_of_getElem? hy77)
     have hy78 := hf55.at hy77
     have hq79 := hy78.ts0; have hq80 := hy78.ts1; have hq81 := hy78.len; have hq82 := wf_i64 hy78.cl; have hq83 := wf_i64 hy78.rq
     refine pk (v := pt (blkOf u) (offOf u + k * 4)) h76 rfl (rn_index rfl rfl rfl Try.underlying29 Try.sizeOf37 (row_sl hf54 entE_len) (by omega) (by first | omega | (simp; done) | (simp; omega))) fun a84 h84 => ?_; clear h76
     refine pk0 (v := pt (blkOf u) (offOf u + k * 4 + 3)) h84 rfl fun a85 h85 => ?_; clear h84
     refine pwD h85 rfl (op_storeRow (c := k * 4 + 3) rfl rfl rfl rfl Try.sizeOf23 hf54 (flat_lt entE_len (by first | omega | (simp; omega)) (by omega)) (by first | rfl | omega)) ?_; clear h85
     rintro _ w87 a86 ⟨hr88, hz89, hg90⟩ h86
     have hr88' := row_set (y' := (EntT.mk y77.client y77.req (y77.ops) y77.opl 0)) hr88 entE_len hy77 (by omega) rfl; clear hr88
     have hz91 := hg90.size
     have hE92 := hf55.row hf54 (by decide) hg90
     have hE93 := EntsK.set (i := k) hE92 (EntK.ts (t := 0) (EntsK.at hE92 hy77) (by omega))
     refine pl_nil ?_
     refine co_blockN ?_
     refine co_then ?_
     refine co_reg ?_
     refine pk0 (v := .int .i64 ((k : Nat) : Int)) h86 rfl fun a94 h94 => ?_; clear h86
     refine pk (v := .int .i64 ((k + 1 : Nat) : Int)) h94 rfl (rn_arith' rfl rfl rfl rfl rfl rfl (IntWalk.i64_in _ (by omega)) (by omega)) fun a95 h95 => ?_; clear h94
     refine pk0 (v := .int .i64 ((k + 1 : Nat) : Int)) h95 rfl fun a96 h96 => ?_; clear h95
     refine pl_nil ?_
     refine co_then ?_
     refine ⟨(L.length - (k + 1)), by omega, ?_⟩
     have hM97 := hf56.kept hg90 (hf56.row hf54)
     have hB98 := fbU_row hB57 hO.su hg90
     have hk99 := hk58.kept hg90 (own_neT hf54 hk58 (by decide))
     exact ⟨k + 1, h96.sub ⟨rfl, rfl, rfl, rfl, trivial⟩, rfl, by omega, by omega, (row_eq hr88' (by first | exact rsL_1 (by assumption) | exact rsL_step (by omega) (by assumption))), (hE93.eq (by first | exact rsL_1 (by assumption) | exact rsL_step (by omega) (by assumption))), hM97, hB98, hk99⟩
 ·
  rw [hc24] at h23
  have hp100 : y12.ts = ts := by first | simpa using hc24 | simpa [and_assoc] using hc24
  clear hc24
  refine co_true h23 rfl ?_
  refine wp_ret ?_
  refine co_thenR ?_
  refine co_ret0 h23 rfl ?_
  have hr0 := restF_same (ts := ts) hy12 (by omega)
  exact ⟨rfl, by rw [hr0]; exact ⟨hO.blk, ⟨_, hm2⟩, hO.row, hO.ents, hO.sb, hO.sM, hO.su, hO.uq, hO.len⟩, hB0⟩
end Go.Proofs.Ytniojcnkjehflaa

/- Package rlog: replace. Conditions: at most 100 entries, 20 operations each. -/
namespace Go.Proofs.Ytniojcnkjehflaa
open Go.RowKit Go.PlainAid
set_option linter.unusedVariables false

set_option maxRecDepth 100000 in
theorem lreplace_any (w0 : World) (S : Nat → Prop) (b : Nat) (M : Nat) (u : Value) (L : List EntT) (i : Int) (c : Int) (r : Int) (v : Value) (l : List OpT) (ts : Int) (w : World) (hbw : But S w0 w) (hO : LgP S w0.heap.size w b M u L) (hi0 : 0 ≤ i ∧ i ≤ L.length ∧ i < 100) (hfn : findN (L.take i.toNat) (c, r) = none) (hs : SliceOf opE 3 w0 v l) (hvS : l ≠ [] → ∀ k, v.ownBlock = some k → ¬ S k) (hlen : l.length ≤ 20) (hts : 0 ≤ ts ∧ ts < 18446744073709551616) (hen : (∀ o ∈ l, opOk o) ∧ (Lit.int .i64 c).wf = true ∧ (Lit.int .i64 r).wf = true) :
    Calls Try.prog 60 #[pt b 0, .int .i64 i, .agg #[.int .i64 c, .int .i64 r, v, .int .u64 ts]] w fun e w' => ∃ (u' : Value) (v' : Value), e = .returned (.tuple #[]) ∧ LgP S w0.heap.size w' b M u' (L.take i.toNat ++ [EntT.mk c r v' l ts]) ∧ True ∧ But (S) w0 w' := by
 have hB0 := hbw
 have hz0 := hbw.size
 have hz0 := hbw.size
 have hl3 := hO.blk.lt; obtain ⟨c1, hm2⟩ := hO.map; have hl4 := hm2.lt; have hne5 := blk_ne_mapN hO.blk hm2; have hln6 := hO.len
 have hln0 := sl_len hs
 have hdl0 : (L.drop i.toNat).length = L.length - i.toNat := List.length_drop
 refine co_enter (n := 47) Try.func60 rfl rfl rfl [(0, pt b 0), (1, .int .i64 i), (2, .agg #[.int .i64 c, .int .i64 r, v, .int .u64 ts])] rfl (fun a h0 => ?_)
 refine co_seq ?_
 refine co_reg ?_
 refine pw h0 rfl (op_new (v := fun N => pt N 0) (T := 37) (cs := #[.int .i64 c, .int .i64 r, v, .int .u64 ts]) (by kernel_rfl) (by kernel_rfl) (by kernel_rfl)) ?_; clear h0
 rintro _ w8 a7 ⟨N9, rfl, hN12, hz13, hk11, hg10⟩ h7
 have ha14 := row_fresh hO.row hN12
 have hu15 := row_under hO.row hN12
 have hz16 := hg10.size
 try dsimp only at h7
 refine pl_nil ?_
 refine co_then ?_
 refine co_seq ?_
 refine co_seq ?_
 refine co_reg ?_
 refine pk0 (v := pt b 0) h7 rfl fun a17 h17 => ?_; clear h7
 refine pk0 (v := pt b 0) h17 rfl fun a18 h18 => ?_; clear h17
 refine pk0 (v := pt b 1) h18 rfl fun a19 h19 => ?_; clear h18
 have hk20 := hO.blk.kept hg10 (by simp)
 refine pk (v := u) h19 rfl (rn_load1 rfl rfl Try.isAgg29 (hk20.cell rfl)) fun a21 h21 => ?_; clear h19
 refine pk0 (v := .int .i64 i) h21 rfl fun a22 h22 => ?_; clear h21
 have hr23 := row_kept_new hO.row hg10
 refine pk (v := subV u ((i).toNat) L.length 4) h22 rfl (rn_sliceFrom rfl rfl rfl Try.underlying29 Try.sizeOf37 (row_sl hr23 entE_len) (by omega) (by omega)) fun a24 h24 => ?_; clear h22
 refine pk (v := .int .i64 (((L.drop ((i).toNat)).length : Nat) : Int)) h24 rfl (rn_len rfl rfl Try.underlying29 (sl_drop (row_sl hr23 entE_len) _ (by omega))) fun a25 h25 => ?_; clear h24
 refine pk0 (v := .int .i64 0) h25 rfl fun a26 h26 => ?_; clear h25
 refine pl_nil ?_
 refine co_then ?_
 refine wp_block ?_
 have h27 : Slots 47 [(0, pt b 0), (1, .int .i64 i), (5, pt N9 0), (13, subV u ((i).toNat) L.length 4), (14, .int .i64 (((L.drop ((i).toNat)).length : Nat) : Int)), (15, .int .i64 0)] _ := h26.sub ⟨rfl, rfl, rfl, rfl, rfl, rfl, trivial⟩; clear h26
 refine co_loop (fun mm a x => ∃ (k : Nat), Slots 47 [(0, pt b 0), (1, .int .i64 i), (5, pt N9 0), (13, subV u ((i).toNat) L.length 4), (14, .int .i64 (((L.drop ((i).toNat)).length : Nat) : Int)), (15, .int .i64 ((k : Nat) : Int))] a ∧ mm = L.length - i.toNat - k ∧ (k + i.toNat ≤ L.length) ∧ x.ownsRow 0 37 4 u L.length (L.flatMap entE) ∧ EntsK S w0.heap.size x L ∧ MapO arr2K spotV x M (delN L i.toNat k) c1 ∧ But (S) w0 x ∧ Blk x b 68 #[.bool true, u, .map (some M)] ∧ Blk x N9 37 #[.int .i64 c, .int .i64 r, v, .int .u64 ts]) (L.length - i.toNat - 0) ?_ ?_
 have hE28 := hO.ents.new hg10
 have hM29 := hm2.kept hg10 (by simp)
 have hB30 := fbU_new hB0 hg10
 · exact ⟨0, h27.sub ⟨rfl, rfl, rfl, rfl, rfl, (slot_eq rfl (congrArg (Value.int .i64) (by first | rfl | omega))), trivial⟩, rfl, by omega, hr23, hE28, (hM29.eq (by first | exact (delN_0 _ _).symm | exact delN_step (by assumption)) (Nat.le_refl _)), hB30, hk20, hk11⟩
 · rintro k31 a32 w33 ⟨k, h32, rfl, hi34, hf35, hf36, hf37, hB38, hk39, hk40⟩
   have hz41 := hB38.size
   have hl42 := hk39.lt
   have hl43 := hk40.lt
   have hl44 := hf37.lt
   refine co_seq ?_
   refine co_reg ?_
   refine pk0 (v := .bool (decide (((k : Nat) : Int) < (((L.drop ((i).toNat)).length : Nat) : Int)))) h32 rfl fun a45 h45 => ?_; clear h32
   refine pl_nil ?_
   refine co_then ?_
   refine co_seq ?_
   cases hc46 : (decide (((k : Nat) : Int) < (((L.drop ((i).toNat)).length : Nat) : Int)))
   ·
    rw [hc46] at h45
    have hp47 : ¬ (((k : Nat) : Int) < (((L.drop ((i).toNat)).length : Nat) : Int)) := of_decide_eq_false hc46
    clear hc46
    refine co_false h45 rfl ?_
    refine wp_exit ?_
    refine co_thenX ?_
    refine co_thenX ?_
    refine co_blockX ?_
    refine co_then ?_
    refine co_seq ?_
    refine dr_gen (fun x => But (S) w0 x ∧ Blk x N9 37 #[.int .i64 c, .int .i64 r, v, .int .u64 ts]) (by kernel_rfl) (fun w48 hg49 => ?_) (fun w48 hg49 => ?_)
    ·
     have hz50 := hg49.size
     have hB51 := fbU_new hB38 hg49
     have hk52 := hk40.kept hg49 (by simp)
     exact ⟨hB51, hk52⟩
    have hz53 := hg49.size
    have hB54 := fbU_new hB38 hg49
    have hk55 := hk40.kept hg49 (by simp)
    refine dk0 0 (v := pt b 0) h45 rfl rfl ⟨hB54, hk55⟩ fun a56 h56 => ?_; clear h45
    refine dk0 1 (v := pt b 0) h56 rfl rfl ⟨hB54, hk55⟩ fun a57 h57 => ?_; clear h56
    refine dk0 2 (v := pt b 0) h57 rfl rfl ⟨hB54, hk55⟩ fun a58 h58 => ?_; clear h57
    refine dk0 3 (v := pt b 1) h58 rfl rfl ⟨hB54, hk55⟩ fun a59 h59 => ?_; clear h58
    refine dk0 5 (v := .int .i64 i) h59 rfl rfl ⟨hB54, hk55⟩ fun a60 h60 => ?_; clear h59
    refine dk 7 (v := .agg #[.int .i64 c, .int .i64 r, v, .int .u64 ts]) h60 rfl rfl ⟨hB54, hk55⟩ (fun x hx => (rn_loadN rfl rfl Try.underlying37 rfl (by kernel_rfl) hx.2.all)) fun a61 h61 => ?_; clear h60
    refine dr_many [4, 8] (by kernel_rfl) (by simp) ⟨?_, ?_, trivial⟩
    ·
     have hk62 := hk39.kept hg49 (by simp)
     refine dr_opVal (i := 4) (v := u) h61 rfl rfl rfl rfl (by kernel_rfl) rfl (rn_load1 rfl rfl Try.isAgg29 (hk62.cell rfl)) ⟨hB54, hk55⟩ (fun a63 h63 => ?_); clear h61
     refine dr_many [6, 8] (by kernel_rfl) (by simp) ⟨?_, ?_, trivial⟩
     ·
      have hr64 := row_kept_new hf35 hg49
      have hr65 := row_cut hr64 entE_len ((i).toNat) (by omega) (.inr trivial)
      refine dr_opVal (i := 6) (v := subV u 0 ((i).toNat) 4) h63 rfl rfl rfl rfl (by kernel_rfl) rfl (rn_sliceTo rfl rfl rfl Try.underlying29 Try.sizeOf37 (row_sl hr64 entE_len) (by omega) (by omega)) ⟨hB54, hk55⟩ (fun a66 h66 => ?_); clear h63
      refine d1 8 h66 rfl rfl (op_call (args := #[.agg #[.int .i64 c, .int .i64 r, v, .int .u64 ts]]) (R := fun res xw => ∃ u : Value, res = .agg #[.int .i64 c, .int .i64 r, u, .int .u64 ts] ∧ xw.ownsRow w48.heap.size 74 3 u l.length (l.flatMap opE) ∧ Below w48.heap.size w48 xw) rfl rfl rfl (by kernel_rfl) (by kernel_rfl) (Try.call48 _ _) (freshEntry_any c r v l ts w48 (sl_butN hs hB54 hvS) (by first | omega | (simp; done) | (simp; omega))) (by rintro e x ⟨u, rfl, hq70, hb71⟩; exact ⟨_, rfl, ⟨u, rfl, hq70, hb71⟩⟩)) ?_ ?_; clear h66
      ·
       rintro _ w68 ⟨u69, rfl, hq70, hb71⟩
       have hz72 := hb71.size
       have hl73 := sl_len (row_sl hq70 opE_len)
       have hB74 := fbU_call hB54 hb71
       have hk75 := hk55.below hb71
       exact ⟨hB74, hk75⟩
      rintro _ w68 a67 ⟨u69, rfl, hq70, hb71⟩ h67
      have hz72 := hb71.size
      have hl73 := sl_len (row_sl hq70 opE_len)
      have hB74 := fbU_call hB54 hb71
      have hk75 := hk55.below hb71
      refine d1 9 h67 rfl rfl (op_new (v := fun N => .slice (some ⟨N, 0, none⟩) 1 1) (T := 37) (cs := #[.int .i64 c, .int .i64 r, u69, .int .u64 ts]) (by kernel_rfl) (by kernel_rfl) (by kernel_rfl)) ?_ ?_; clear h67
      ·
       rintro _ w77 ⟨N78, rfl, hN81, hz82, hk80, hg79⟩
       have hr84 := row_kept_new hr64 (below_grown hb71)
       have ha83 := row_fresh hr84 hN81
       have hu85 := row_under hr84 hN81
       have hr87 := row_kept_new hr65 (below_grown hb71)
       have ha86 := row_fresh hr87 hN81
       have hu88 := row_under hr87 hN81
       have ha89 := row_fresh hq70 hN81
       have hu90 := row_under hq70 hN81
       have hz91 := hg79.size
       have hB92 := fbU_new hB74 hg79
       have hk93 := hk75.kept hg79 (by simp)
       exact ⟨hB92, hk93⟩
      rintro _ w77 a76 ⟨N78, rfl, hN81, hz82, hk80, hg79⟩ h76
      have hr84 := row_kept_new hr64 (below_grown hb71)
      have ha83 := row_fresh hr84 hN81
      have hu85 := row_under hr84 hN81
      have hr87 := row_kept_new hr65 (below_grown hb71)
      have ha86 := row_fresh hr87 hN81
      have hu88 := row_under hr87 hN81
      have ha89 := row_fresh hq70 hN81
      have hu90 := row_under hq70 hN81
      have hz91 := hg79.size
      try dsimp only at h76
      have hB92 := fbU_new hB74 hg79
      have hk93 := hk75.kept hg79 (by simp)
      have hr100 := row_kept_new hr87 hg79
      have hr101 := row_kept_new hq70 hg79
      refine d1 10 h76 rfl rfl (op_appendF rfl 0 37 (z := .agg #[.int .i64 0, .int .i64 0, .slice none 0 0, .int .u64 0]) (size := 4) (bytes := 48) Try.underlying29 (by kernel_rfl) rfl rfl rfl hr100 rfl hk80 rfl (all_cons rfl (all_cons rfl (all_cons (row_one hr101) (all_cons rfl all_nil)))) (by first | omega | (simp only [List.length_nil, List.length_append, List.length_cons, List.length_take, List.length_drop]; omega)) (by first | omega | (simp only [List.length_nil, List.length_append, List.length_cons, List.length_take, List.length_drop]; omega)) (by omega)) ?_ ?_; clear h76
      ·
       rintro v96 w95 ⟨hr97, hwt99, hg98⟩
       have hr97' : w95.ownsRow 0 37 4 v96 ((L.take ((i).toNat) ++ [(EntT.mk c r u69 l ts)]).length) ((L.take ((i).toNat) ++ [(EntT.mk c r u69 l ts)]).flatMap entE) := row_push (y := (EntT.mk c r u69 l ts)) hr97 rfl rfl; clear hr97
       have hz102 := hg98.size
       have hB103 := fbU_row hB92 (show InS (S) w0.heap.size (subV u 0 ((i).toNat) 4) from fun qi hqi => hO.su qi ((cut_block hr64 ((i).toNat)) ▸ hqi)) hg98
       have hk104 := hk93.kept hg98 ((fun eq => ha14 ((cut_block hr64 ((i).toNat)) ▸ eq)))
       exact ⟨hB103, hk104⟩
      rintro v96 w95 a94 ⟨hr97, hwt99, hg98⟩ h94
      have hr97' : w95.ownsRow 0 37 4 v96 ((L.take ((i).toNat) ++ [(EntT.mk c r u69 l ts)]).length) ((L.take ((i).toNat) ++ [(EntT.mk c r u69 l ts)]).flatMap entE) := row_push (y := (EntT.mk c r u69 l ts)) hr97 rfl rfl; clear hr97
      have hz102 := hg98.size
      have hB103 := fbU_row hB92 (show InS (S) w0.heap.size (subV u 0 ((i).toNat) 4) from fun qi hqi => hO.su qi ((cut_block hr64 ((i).toNat)) ▸ hqi)) hg98
      have hk104 := hk93.kept hg98 ((fun eq => ha14 ((cut_block hr64 ((i).toNat)) ▸ eq)))
      refine dk0 11 (v := pt b 0) h94 rfl rfl ⟨hB103, hk104⟩ fun a105 h105 => ?_; clear h94
      refine dk0 12 (v := pt b 1) h105 rfl rfl ⟨hB103, hk104⟩ fun a106 h106 => ?_; clear h105
      have hk112 := hk62.below hb71
      have hk113 := hk112.kept hg79 (by simp)
      have hk114 := hk113.kept hg98 (own_neT hr100 hk113 (by decide))
      refine d1D 13 h106 rfl rfl (op_store1 rfl rfl rfl (row_one hr97') Try.sizeOf29 hk114 rfl) ?_ ?_; clear h106
      ·
       rintro _ w108 ⟨hk109, hz110, hg111⟩
       have hk109' : Blk w108 b 68 #[.bool true, v96, .map (some M)] := hk109; clear hk109
       have hz115 := hg111.size
       have hB116 := fbU_at hB103 hg111 (fun hlt => by rcases hO.sb with hq | hq; exact hq; omega)
       have hk117 := hk104.kept hg111 (by simp; omega)
       exact ⟨hB116, hk117⟩
      rintro _ w108 a107 ⟨hk109, hz110, hg111⟩ h107
      have hk109' : Blk w108 b 68 #[.bool true, v96, .map (some M)] := hk109; clear hk109
      have hz115 := hg111.size
      refine dr_done (by kernel_rfl) ?_
      refine co_then ?_
      refine dr_gen (fun x => But (S) w0 x ∧ Blk x N9 37 #[.int .i64 c, .int .i64 r, v, .int .u64 ts] ∧ Blk x b 68 #[.bool true, v96, .map (some M)]) (by kernel_rfl) (fun w116 hg117 => ?_) (fun w116 hg117 => ?_)
      ·
       have hz118 := hg117.size
       have hB119 := fbU_at hB103 hg111 (fun hlt => by rcases hO.sb with hq | hq; exact hq; omega)
       have hB120 := fbU_new hB119 hg117
       have hk121 := hk104.kept hg111 (by simp; omega)
       have hk122 := hk121.kept hg117 (by simp)
       have hk123 := hk109'.kept hg117 (by simp)
       exact ⟨hB120, hk122, hk123⟩
      have hz124 := hg117.size
      have hB125 := fbU_at hB103 hg111 (fun hlt => by rcases hO.sb with hq | hq; exact hq; omega)
      have hB126 := fbU_new hB125 hg117
      have hk127 := hk104.kept hg111 (by simp; omega)
      have hk128 := hk127.kept hg117 (by simp)
      have hk129 := hk109'.kept hg117 (by simp)
      refine dk0 0 (v := pt b 0) h107 rfl rfl ⟨hB126, hk128, hk129⟩ fun a130 h130 => ?_; clear h107
      refine dk0 1 (v := pt b 0) h130 rfl rfl ⟨hB126, hk128, hk129⟩ fun a131 h131 => ?_; clear h130
      refine dk0 2 (v := pt b 2) h131 rfl rfl ⟨hB126, hk128, hk129⟩ fun a132 h132 => ?_; clear h131
      refine dk 3 (v := .map (some M)) h132 rfl rfl ⟨hB126, hk128, hk129⟩ (fun x hx => (rn_load1 rfl rfl Try.isAgg66 (hx.2.2.cell rfl))) fun a133 h133 => ?_; clear h132
      refine dk 4 (v := .agg #[.int .i64 c, .int .i64 r, v, .int .u64 ts]) h133 rfl rfl ⟨hB126, hk128, hk129⟩ (fun x hx => (rn_loadN rfl rfl Try.underlying37 rfl (by kernel_rfl) hx.2.1.all)) fun a134 h134 => ?_; clear h133
      refine dk0 6 (v := .int .i64 i) h134 rfl rfl ⟨hB126, hk128, hk129⟩ fun a135 h135 => ?_; clear h134
      refine dk0 7 (v := .agg #[.int .i64 i]) h135 rfl rfl ⟨hB126, hk128, hk129⟩ fun a136 h136 => ?_; clear h135
      refine d1 5 h136 rfl rfl (op_call (args := #[.agg #[.int .i64 c, .int .i64 r, v, .int .u64 ts]]) (R := fun res xw => res = .agg #[.int .i64 c, .int .i64 r] ∧ Below w116.heap.size w116 xw) rfl rfl rfl (by kernel_rfl) (by kernel_rfl) (Try.call58 _ _) (lname_any c r v ts w116 ) (by rintro e x ⟨rfl, hb139⟩; exact ⟨_, rfl, ⟨rfl, hb139⟩⟩)) ?_ ?_; clear h136
      ·
       rintro _ w138 ⟨rfl, hb139⟩
       have hz140 := hb139.size
       have hB141 := fbU_call hB126 hb139
       have hk142 := hk128.below hb139
       have hk143 := hk129.below hb139
       exact ⟨hB141, hk142, hk143⟩
      rintro _ w138 a137 ⟨rfl, hb139⟩ h137
      have hz140 := hb139.size
      have hB141 := fbU_call hB126 hb139
      have hk142 := hk128.below hb139
      have hk143 := hk129.below hb139
      have hM149 := hf37.kept hg49 (by simp)
      have hM150 := hM149.kept (below_grown hb71) (by simp)
      have hM151 := hM150.kept hg79 (by simp)
      have hM152 := hM151.kept hg98 (hM151.row hr100)
      have hM153 := hM152.kept hg111 (by simp; omega)
      have hM154 := hM153.kept hg117 (by simp)
      have hM155 := hM154.kept (below_grown hb139) (by simp)
      refine d1D 8 h137 rfl rfl (op_updateO (a := (c, r)) (v := i) nm_kl rfl rfl rfl rfl Try.underlying66 hM155) ?_ ?_; clear h137
      ·
       rintro _ w145 ⟨hm146, hz147, hg148⟩
       have hz156 := hg148.size
       have hl157 := hm146.lt
       have hB158 := fbU_at hB141 hg148 (fun hlt => by rcases hO.sM with hq | hq; exact hq; omega)
       have hk159 := hk142.kept hg148 (by simp; omega)
       have hk160 := hk143.kept hg148 (by simp; omega)
       exact ⟨hB158, hk159, hk160⟩
      rintro _ w145 a144 ⟨hm146, hz147, hg148⟩ h144
      have hz156 := hg148.size
      have hl157 := hm146.lt
      refine dr_done (by kernel_rfl) ?_
      refine co_ret0n h144 rfl ?_
      have hr158 := row_kept_row hr101 hr100 hg98 (by decide)
      have hr159 := row_kept_at hr158 hg111 (own_neT hr158 hk114 (by decide))
      have hr160 := row_kept_new hr159 hg117
      have hr161 := row_kept_new hr160 (below_grown hb139)
      have hr162 := row_kept_at hr161 hg148 (hM155.row hr161)
      have hE163 := hf36.new hg49
      have hE164 := hE163.new (below_grown hb71)
      have hE165 := hE164.new hg79
      have hE166 := hE165.row hr100 (by decide) hg98
      have hE167 := hE166.blk hk114 (by decide) hg111
      have hE168 := hE167.new hg117
      have hE169 := hE168.new (below_grown hb139)
      have hE170 := hE169.map hM155 hg148
      have hr171 := row_kept_at hr97' hg111 (own_neT hr97' hk114 (by decide))
      have hr172 := row_kept_new hr171 hg117
      have hr173 := row_kept_new hr172 (below_grown hb139)
      have hr174 := row_kept_at hr173 hg148 (hM155.row hr173)
      have hk175 := hk143.kept hg148 (by simp; omega)
      have hB176 := fbU_at hB141 hg148 (fun hlt => by rcases hO.sM with hq | hq; exact hq; omega)
      have hEK : EntK S w0.heap.size w145 (EntT.mk c r u69 l ts) := ⟨row_lows hr162 (Nat.zero_le _), InS.low hr162 (by omega), hlen, hen.1, hts.1, hts.2, hen.2.1, hen.2.2⟩
      have hEs := (EntsK.take hE170 i.toNat).snoc hEK
      have hlt : (L.take i.toNat).length = i.toNat := by rw [List.length_take]; omega
      have hdl : (L.drop i.toNat).length = L.length - i.toNat := List.length_drop
      have hfs := findN_snoc (A := L.take i.toNat) (e := (EntT.mk c r u69 l ts)) hfn
      exact ⟨v96, u69, rfl, ⟨hk175, ⟨_, hm146.eq ((by rw [delN_end hO.uq (by omega), hfs, hlt, Int.toNat_of_nonneg (by omega)]; rfl)) (Nat.le_refl _)⟩, (row_eq hr174 (by first | rfl | simp)), hEs, hO.sb, hO.sM, ((show InS (S) w0.heap.size (subV u 0 ((i).toNat) 4) from fun qi hqi => hO.su qi ((cut_block hr64 ((i).toNat)) ▸ hqi)).went hwt99 (by omega)), ((hO.uq.take _).snoc hfn), (by rw [List.length_append, hlt]; simp; omega)⟩, trivial, hB176⟩
     ·
      refine dr_op (i := 8) h63 rfl rfl rfl rfl (op_call (args := #[.agg #[.int .i64 c, .int .i64 r, v, .int .u64 ts]]) (R := fun res xw => ∃ u : Value, res = .agg #[.int .i64 c, .int .i64 r, u, .int .u64 ts] ∧ xw.ownsRow w48.heap.size 74 3 u l.length (l.flatMap opE) ∧ Below w48.heap.size w48 xw) rfl rfl rfl (by kernel_rfl) (by kernel_rfl) (Try.call48 _ _) (freshEntry_any c r v l ts w48 (sl_butN hs hB54 hvS) (by first | omega | (simp; done) | (simp; omega))) (by rintro e x ⟨u, rfl, hq180, hb181⟩; exact ⟨_, rfl, ⟨u, rfl, hq180, hb181⟩⟩)) ?_ ?_; clear h63
      ·
       rintro _ w178 ⟨u179, rfl, hq180, hb181⟩
       have hz182 := hb181.size
       have hl183 := sl_len (row_sl hq180 opE_len)
       have hB184 := fbU_call hB54 hb181
       have hk185 := hk55.below hb181
       exact ⟨hB184, hk185⟩
      rintro _ w178 a177 ⟨u179, rfl, hq180, hb181⟩ h177
      have hz182 := hb181.size
      have hl183 := sl_len (row_sl hq180 opE_len)
      have hB184 := fbU_call hB54 hb181
      have hk185 := hk55.below hb181
      refine dr_many [6, 9] (by kernel_rfl) (by simp) ⟨?_, ?_, trivial⟩
      ·
       have hr186 := row_kept_new hf35 hg49
       have hr187 := row_kept_new hr186 (below_grown hb181)
       have hr188 := row_cut hr187 entE_len ((i).toNat) (by omega) (.inr trivial)
       refine dr_opVal (i := 6) (v := subV u 0 ((i).toNat) 4) h177 rfl rfl rfl rfl (by kernel_rfl) rfl (rn_sliceTo rfl rfl rfl Try.underlying29 Try.sizeOf37 (row_sl hr187 entE_len) (by omega) (by omega)) ⟨hB184, hk185⟩ (fun a189 h189 => ?_); clear h177
       refine d1 9 h189 rfl rfl (op_new (v := fun N => .slice (some ⟨N, 0, none⟩) 1 1) (T := 37) (cs := #[.int .i64 c, .int .i64 r, u179, .int .u64 ts]) (by kernel_rfl) (by kernel_rfl) (by kernel_rfl)) ?_ ?_; clear h189
       ·
        rintro _ w191 ⟨N192, rfl, hN195, hz196, hk194, hg193⟩
        have ha197 := row_fresh hr187 hN195
        have hu198 := row_under hr187 hN195
        have ha199 := row_fresh hq180 hN195
        have hu200 := row_under hq180 hN195
        have ha201 := row_fresh hr188 hN195
        have hu202 := row_under hr188 hN195
        have hz203 := hg193.size
        have hB204 := fbU_new hB184 hg193
        have hk205 := hk185.kept hg193 (by simp)
        exact ⟨hB204, hk205⟩
       rintro _ w191 a190 ⟨N192, rfl, hN195, hz196, hk194, hg193⟩ h190
       have ha197 := row_fresh hr187 hN195
       have hu198 := row_under hr187 hN195
       have ha199 := row_fresh hq180 hN195
       have hu200 := row_under hq180 hN195
       have ha201 := row_fresh hr188 hN195
       have hu202 := row_under hr188 hN195
       have hz203 := hg193.size
       try dsimp only at h190
       have hB204 := fbU_new hB184 hg193
       have hk205 := hk185.kept hg193 (by simp)
       have hr212 := row_kept_new hr188 hg193
       have hr213 := row_kept_new hq180 hg193
       refine d1 10 h190 rfl rfl (op_appendF rfl 0 37 (z := .agg #[.int .i64 0, .int .i64 0, .slice none 0 0, .int .u64 0]) (size := 4) (bytes := 48) Try.underlying29 (by kernel_rfl) rfl rfl rfl hr212 rfl hk194 rfl (all_cons rfl (all_cons rfl (all_cons (row_one hr213) (all_cons rfl all_nil)))) (by first | omega | (simp only [List.length_nil, List.length_append, List.length_cons, List.length_take, List.length_drop]; omega)) (by first | omega | (simp only [List.length_nil, List.length_append, List.length_cons, List.length_take, List.length_drop]; omega)) (by omega)) ?_ ?_; clear h190
       ·
        rintro v208 w207 ⟨hr209, hwt211, hg210⟩
        have hr209' : w207.ownsRow 0 37 4 v208 ((L.take ((i).toNat) ++ [(EntT.mk c r u179 l ts)]).length) ((L.take ((i).toNat) ++ [(EntT.mk c r u179 l ts)]).flatMap entE) := row_push (y := (EntT.mk c r u179 l ts)) hr209 rfl rfl; clear hr209
        have hz214 := hg210.size
        have hB215 := fbU_row hB204 (show InS (S) w0.heap.size (subV u 0 ((i).toNat) 4) from fun qi hqi => hO.su qi ((cut_block hr187 ((i).toNat)) ▸ hqi)) hg210
        have hk216 := hk205.kept hg210 ((fun eq => ha14 ((cut_block hr187 ((i).toNat)) ▸ eq)))
        exact ⟨hB215, hk216⟩
       rintro v208 w207 a206 ⟨hr209, hwt211, hg210⟩ h206
       have hr209' : w207.ownsRow 0 37 4 v208 ((L.take ((i).toNat) ++ [(EntT.mk c r u179 l ts)]).length) ((L.take ((i).toNat) ++ [(EntT.mk c r u179 l ts)]).flatMap entE) := row_push (y := (EntT.mk c r u179 l ts)) hr209 rfl rfl; clear hr209
       have hz214 := hg210.size
       have hB215 := fbU_row hB204 (show InS (S) w0.heap.size (subV u 0 ((i).toNat) 4) from fun qi hqi => hO.su qi ((cut_block hr187 ((i).toNat)) ▸ hqi)) hg210
       have hk216 := hk205.kept hg210 ((fun eq => ha14 ((cut_block hr187 ((i).toNat)) ▸ eq)))
       refine dk0 11 (v := pt b 0) h206 rfl rfl ⟨hB215, hk216⟩ fun a217 h217 => ?_; clear h206
       refine dk0 12 (v := pt b 1) h217 rfl rfl ⟨hB215, hk216⟩ fun a218 h218 => ?_; clear h217
       have hk224 := hk62.below hb181
       have hk225 := hk224.kept hg193 (by simp)
       have hk226 := hk225.kept hg210 (own_neT hr212 hk225 (by decide))
       refine d1D 13 h218 rfl rfl (op_store1 rfl rfl rfl (row_one hr209') Try.sizeOf29 hk226 rfl) ?_ ?_; clear h218
       ·
        rintro _ w220 ⟨hk221, hz222, hg223⟩
        have hk221' : Blk w220 b 68 #[.bool true, v208, .map (some M)] := hk221; clear hk221
        have hz227 := hg223.size
        have hB228 := fbU_at hB215 hg223 (fun hlt => by rcases hO.sb with hq | hq; exact hq; omega)
        have hk229 := hk216.kept hg223 (by simp; omega)
        exact ⟨hB228, hk229⟩
       rintro _ w220 a219 ⟨hk221, hz222, hg223⟩ h219
       have hk221' : Blk w220 b 68 #[.bool true, v208, .map (some M)] := hk221; clear hk221
       have hz227 := hg223.size
       refine dr_done (by kernel_rfl) ?_
       refine co_then ?_
       refine dr_gen (fun x => But (S) w0 x ∧ Blk x N9 37 #[.int .i64 c, .int .i64 r, v, .int .u64 ts] ∧ Blk x b 68 #[.bool true, v208, .map (some M)]) (by kernel_rfl) (fun w228 hg229 => ?_) (fun w228 hg229 => ?_)
       ·
        have hz230 := hg229.size
        have hB231 := fbU_at hB215 hg223 (fun hlt => by rcases hO.sb with hq | hq; exact hq; omega)
        have hB232 := fbU_new hB231 hg229
        have hk233 := hk216.kept hg223 (by simp; omega)
        have hk234 := hk233.kept hg229 (by simp)
        have hk235 := hk221'.kept hg229 (by simp)
        exact ⟨hB232, hk234, hk235⟩
       have hz236 := hg229.size
       have hB237 := fbU_at hB215 hg223 (fun hlt => by rcases hO.sb with hq | hq; exact hq; omega)
       have hB238 := fbU_new hB237 hg229
       have hk239 := hk216.kept hg223 (by simp; omega)
       have hk240 := hk239.kept hg229 (by simp)
       have hk241 := hk221'.kept hg229 (by simp)
       refine dk0 0 (v := pt b 0) h219 rfl rfl ⟨hB238, hk240, hk241⟩ fun a242 h242 => ?_; clear h219
       refine dk0 1 (v := pt b 0) h242 rfl rfl ⟨hB238, hk240, hk241⟩ fun a243 h243 => ?_; clear h242
       refine dk0 2 (v := pt b 2) h243 rfl rfl ⟨hB238, hk240, hk241⟩ fun a244 h244 => ?_; clear h243
       refine dk 3 (v := .map (some M)) h244 rfl rfl ⟨hB238, hk240, hk241⟩ (fun x hx => (rn_load1 rfl rfl Try.isAgg66 (hx.2.2.cell rfl))) fun a245 h245 => ?_; clear h244
       refine dk 4 (v := .agg #[.int .i64 c, .int .i64 r, v, .int .u64 ts]) h245 rfl rfl ⟨hB238, hk240, hk241⟩ (fun x hx => (rn_loadN rfl rfl Try.underlying37 rfl (by kernel_rfl) hx.2.1.all)) fun a246 h246 => ?_; clear h245
       refine dk0 6 (v := .int .i64 i) h246 rfl rfl ⟨hB238, hk240, hk241⟩ fun a247 h247 => ?_; clear h246
       refine dk0 7 (v := .agg #[.int .i64 i]) h247 rfl rfl ⟨hB238, hk240, hk241⟩ fun a248 h248 => ?_; clear h247
       refine d1 5 h248 rfl rfl (op_call (args := #[.agg #[.int .i64 c, .int .i64 r, v, .int .u64 ts]]) (R := fun res xw => res = .agg #[.int .i64 c, .int .i64 r] ∧ Below w228.heap.size w228 xw) rfl rfl rfl (by kernel_rfl) (by kernel_rfl) (Try.call58 _ _) (lname_any c r v ts w228 ) (by rintro e x ⟨rfl, hb251⟩; exact ⟨_, rfl, ⟨rfl, hb251⟩⟩)) ?_ ?_; clear h248
       ·
        rintro _ w250 ⟨rfl, hb251⟩
        have hz252 := hb251.size
        have hB253 := fbU_call hB238 hb251
        have hk254 := hk240.below hb251
        have hk255 := hk241.below hb251
        exact ⟨hB253, hk254, hk255⟩
       rintro _ w250 a249 ⟨rfl, hb251⟩ h249
       have hz252 := hb251.size
       have hB253 := fbU_call hB238 hb251
       have hk254 := hk240.below hb251
       have hk255 := hk241.below hb251
       have hM261 := hf37.kept hg49 (by simp)
       have hM262 := hM261.kept (below_grown hb181) (by simp)
       have hM263 := hM262.kept hg193 (by simp)
       have hM264 := hM263.kept hg210 (hM263.row hr212)
       have hM265 := hM264.kept hg223 (by simp; omega)
       have hM266 := hM265.kept hg229 (by simp)
       have hM267 := hM266.kept (below_grown hb251) (by simp)
       refine d1D 8 h249 rfl rfl (op_updateO (a := (c, r)) (v := i) nm_kl rfl rfl rfl rfl Try.underlying66 hM267) ?_ ?_; clear h249
       ·
        rintro _ w257 ⟨hm258, hz259, hg260⟩
        have hz268 := hg260.size
        have hl269 := hm258.lt
        have hB270 := fbU_at hB253 hg260 (fun hlt => by rcases hO.sM with hq | hq; exact hq; omega)
        have hk271 := hk254.kept hg260 (by simp; omega)
        have hk272 := hk255.kept hg260 (by simp; omega)
        exact ⟨hB270, hk271, hk272⟩
       rintro _ w257 a256 ⟨hm258, hz259, hg260⟩ h256
       have hz268 := hg260.size
       have hl269 := hm258.lt
       refine dr_done (by kernel_rfl) ?_
       refine co_ret0n h256 rfl ?_
       have hr270 := row_kept_row hr213 hr212 hg210 (by decide)
       have hr271 := row_kept_at hr270 hg223 (own_neT hr270 hk226 (by decide))
       have hr272 := row_kept_new hr271 hg229
       have hr273 := row_kept_new hr272 (below_grown hb251)
       have hr274 := row_kept_at hr273 hg260 (hM267.row hr273)
       have hE275 := hf36.new hg49
       have hE276 := hE275.new (below_grown hb181)
       have hE277 := hE276.new hg193
       have hE278 := hE277.row hr212 (by decide) hg210
       have hE279 := hE278.blk hk226 (by decide) hg223
       have hE280 := hE279.new hg229
       have hE281 := hE280.new (below_grown hb251)
       have hE282 := hE281.map hM267 hg260
       have hr283 := row_kept_at hr209' hg223 (own_neT hr209' hk226 (by decide))
       have hr284 := row_kept_new hr283 hg229
       have hr285 := row_kept_new hr284 (below_grown hb251)
       have hr286 := row_kept_at hr285 hg260 (hM267.row hr285)
       have hk287 := hk255.kept hg260 (by simp; omega)
       have hB288 := fbU_at hB253 hg260 (fun hlt => by rcases hO.sM with hq | hq; exact hq; omega)
       have hEK : EntK S w0.heap.size w257 (EntT.mk c r u179 l ts) := ⟨row_lows hr274 (Nat.zero_le _), InS.low hr274 (by omega), hlen, hen.1, hts.1, hts.2, hen.2.1, hen.2.2⟩
       have hEs := (EntsK.take hE282 i.toNat).snoc hEK
       have hlt : (L.take i.toNat).length = i.toNat := by rw [List.length_take]; omega
       have hdl : (L.drop i.toNat).length = L.length - i.toNat := List.length_drop
       have hfs := findN_snoc (A := L.take i.toNat) (e := (EntT.mk c r u179 l ts)) hfn
       exact ⟨v208, u179, rfl, ⟨hk287, ⟨_, hm258.eq ((by rw [delN_end hO.uq (by omega), hfs, hlt, Int.toNat_of_nonneg (by omega)]; rfl)) (Nat.le_refl _)⟩, (row_eq hr286 (by first | rfl | simp)), hEs, hO.sb, hO.sM, ((show InS (S) w0.heap.size (subV u 0 ((i).toNat) 4) from fun qi hqi => hO.su qi ((cut_block hr187 ((i).toNat)) ▸ hqi)).went hwt211 (by omega)), ((hO.uq.take _).snoc hfn), (by rw [List.length_append, hlt]; simp; omega)⟩, trivial, hB288⟩
      ·
       refine dr_op (i := 9) h177 rfl rfl rfl rfl (op_new (v := fun N => .slice (some ⟨N, 0, none⟩) 1 1) (T := 37) (cs := #[.int .i64 c, .int .i64 r, u179, .int .u64 ts]) (by kernel_rfl) (by kernel_rfl) (by kernel_rfl)) ?_ ?_; clear h177
       ·
        rintro _ w290 ⟨N291, rfl, hN294, hz295, hk293, hg292⟩
        have hr297 := row_kept_new hf35 hg49
        have hr298 := row_kept_new hr297 (below_grown hb181)
        have ha296 := row_fresh hr298 hN294
        have hu299 := row_under hr298 hN294
        have ha300 := row_fresh hq180 hN294
        have hu301 := row_under hq180 hN294
        have hz302 := hg292.size
        have hB303 := fbU_new hB184 hg292
        have hk304 := hk185.kept hg292 (by simp)
        exact ⟨hB303, hk304⟩
       rintro _ w290 a289 ⟨N291, rfl, hN294, hz295, hk293, hg292⟩ h289
       have hr297 := row_kept_new hf35 hg49
       have hr298 := row_kept_new hr297 (below_grown hb181)
       have ha296 := row_fresh hr298 hN294
       have hu299 := row_under hr298 hN294
       have ha300 := row_fresh hq180 hN294
       have hu301 := row_under hq180 hN294
       have hz302 := hg292.size
       try dsimp only at h289
       have hB303 := fbU_new hB184 hg292
       have hk304 := hk185.kept hg292 (by simp)
       refine dr_many [6] (by kernel_rfl) (by simp) ⟨?_, trivial⟩
       ·
        have hr305 := row_kept_new hr298 hg292
        have hr306 := row_cut hr305 entE_len ((i).toNat) (by omega) (.inr trivial)
        refine dr_opVal (i := 6) (v := subV u 0 ((i).toNat) 4) h289 rfl rfl rfl rfl (by kernel_rfl) rfl (rn_sliceTo rfl rfl rfl Try.underlying29 Try.sizeOf37 (row_sl hr305 entE_len) (by omega) (by omega)) ⟨hB303, hk304⟩ (fun a307 h307 => ?_); clear h289
        have hr314 := row_kept_new hq180 hg292
        refine d1 10 h307 rfl rfl (op_appendF rfl 0 37 (z := .agg #[.int .i64 0, .int .i64 0, .slice none 0 0, .int .u64 0]) (size := 4) (bytes := 48) Try.underlying29 (by kernel_rfl) rfl rfl rfl hr306 rfl hk293 rfl (all_cons rfl (all_cons rfl (all_cons (row_one hr314) (all_cons rfl all_nil)))) (by first | omega | (simp only [List.length_nil, List.length_append, List.length_cons, List.length_take, List.length_drop]; omega)) (by first | omega | (simp only [List.length_nil, List.length_append, List.length_cons, List.length_take, List.length_drop]; omega)) (by omega)) ?_ ?_; clear h307
        ·
         rintro v310 w309 ⟨hr311, hwt313, hg312⟩
         have hr311' : w309.ownsRow 0 37 4 v310 ((L.take ((i).toNat) ++ [(EntT.mk c r u179 l ts)]).length) ((L.take ((i).toNat) ++ [(EntT.mk c r u179 l ts)]).flatMap entE) := row_push (y := (EntT.mk c r u179 l ts)) hr311 rfl rfl; clear hr311
         have hz315 := hg312.size
         have hB316 := fbU_row hB303 (show InS (S) w0.heap.size (subV u 0 ((i).toNat) 4) from fun qi hqi => hO.su qi ((cut_block hr305 ((i).toNat)) ▸ hqi)) hg312
         have hk317 := hk304.kept hg312 ((fun eq => ha14 ((cut_block hr305 ((i).toNat)) ▸ eq)))
         exact ⟨hB316, hk317⟩
        rintro v310 w309 a308 ⟨hr311, hwt313, hg312⟩ h308
        have hr311' : w309.ownsRow 0 37 4 v310 ((L.take ((i).toNat) ++ [(EntT.mk c r u179 l ts)]).length) ((L.take ((i).toNat) ++ [(EntT.mk c r u179 l ts)]).flatMap entE) := row_push (y := (EntT.mk c r u179 l ts)) hr311 rfl rfl; clear hr311
        have hz315 := hg312.size
        have hB316 := fbU_row hB303 (show InS (S) w0.heap.size (subV u 0 ((i).toNat) 4) from fun qi hqi => hO.su qi ((cut_block hr305 ((i).toNat)) ▸ hqi)) hg312
        have hk317 := hk304.kept hg312 ((fun eq => ha14 ((cut_block hr305 ((i).toNat)) ▸ eq)))
        refine dk0 11 (v := pt b 0) h308 rfl rfl ⟨hB316, hk317⟩ fun a318 h318 => ?_; clear h308
        refine dk0 12 (v := pt b 1) h318 rfl rfl ⟨hB316, hk317⟩ fun a319 h319 => ?_; clear h318
        have hk325 := hk62.below hb181
        have hk326 := hk325.kept hg292 (by simp)
        have hk327 := hk326.kept hg312 (own_neT hr306 hk326 (by decide))
        refine d1D 13 h319 rfl rfl (op_store1 rfl rfl rfl (row_one hr311') Try.sizeOf29 hk327 rfl) ?_ ?_; clear h319
        ·
         rintro _ w321 ⟨hk322, hz323, hg324⟩
         have hk322' : Blk w321 b 68 #[.bool true, v310, .map (some M)] := hk322; clear hk322
         have hz328 := hg324.size
         have hB329 := fbU_at hB316 hg324 (fun hlt => by rcases hO.sb with hq | hq; exact hq; omega)
         have hk330 := hk317.kept hg324 (by simp; omega)
         exact ⟨hB329, hk330⟩
        rintro _ w321 a320 ⟨hk322, hz323, hg324⟩ h320
        have hk322' : Blk w321 b 68 #[.bool true, v310, .map (some M)] := hk322; clear hk322
        have hz328 := hg324.size
        refine dr_done (by kernel_rfl) ?_
        refine co_then ?_
        refine dr_gen (fun x => But (S) w0 x ∧ Blk x N9 37 #[.int .i64 c, .int .i64 r, v, .int .u64 ts] ∧ Blk x b 68 #[.bool true, v310, .map (some M)]) (by kernel_rfl) (fun w329 hg330 => ?_) (fun w329 hg330 => ?_)
        ·
         have hz331 := hg330.size
         have hB332 := fbU_at hB316 hg324 (fun hlt => by rcases hO.sb with hq | hq; exact hq; omega)
         have hB333 := fbU_new hB332 hg330
         have hk334 := hk317.kept hg324 (by simp; omega)
         have hk335 := hk334.kept hg330 (by simp)
         have hk336 := hk322'.kept hg330 (by simp)
         exact ⟨hB333, hk335, hk336⟩
        have hz337 := hg330.size
        have hB338 := fbU_at hB316 hg324 (fun hlt => by rcases hO.sb with hq | hq; exact hq; omega)
        have hB339 := fbU_new hB338 hg330
        have hk340 := hk317.kept hg324 (by simp; omega)
        have hk341 := hk340.kept hg330 (by simp)
        have hk342 := hk322'.kept hg330 (by simp)
        refine dk0 0 (v := pt b 0) h320 rfl rfl ⟨hB339, hk341, hk342⟩ fun a343 h343 => ?_; clear h320
        refine dk0 1 (v := pt b 0) h343 rfl rfl ⟨hB339, hk341, hk342⟩ fun a344 h344 => ?_; clear h343
        refine dk0 2 (v := pt b 2) h344 rfl rfl ⟨hB339, hk341, hk342⟩ fun a345 h345 => ?_; clear h344
        refine dk 3 (v := .map (some M)) h345 rfl rfl ⟨hB339, hk341, hk342⟩ (fun x hx => (rn_load1 rfl rfl Try.isAgg66 (hx.2.2.cell rfl))) fun a346 h346 => ?_; clear h345
        refine dk 4 (v := .agg #[.int .i64 c, .int .i64 r, v, .int .u64 ts]) h346 rfl rfl ⟨hB339, hk341, hk342⟩ (fun x hx => (rn_loadN rfl rfl Try.underlying37 rfl (by kernel_rfl) hx.2.1.all)) fun a347 h347 => ?_; clear h346
        refine dk0 6 (v := .int .i64 i) h347 rfl rfl ⟨hB339, hk341, hk342⟩ fun a348 h348 => ?_; clear h347
        refine dk0 7 (v := .agg #[.int .i64 i]) h348 rfl rfl ⟨hB339, hk341, hk342⟩ fun a349 h349 => ?_; clear h348
        refine d1 5 h349 rfl rfl (op_call (args := #[.agg #[.int .i64 c, .int .i64 r, v, .int .u64 ts]]) (R := fun res xw => res = .agg #[.int .i64 c, .int .i64 r] ∧ Below w329.heap.size w329 xw) rfl rfl rfl (by kernel_rfl) (by kernel_rfl) (Try.call58 _ _) (lname_any c r v ts w329 ) (by rintro e x ⟨rfl, hb352⟩; exact ⟨_, rfl, ⟨rfl, hb352⟩⟩)) ?_ ?_; clear h349
        ·
         rintro _ w351 ⟨rfl, hb352⟩
         have hz353 := hb352.size
         have hB354 := fbU_call hB339 hb352
         have hk355 := hk341.below hb352
         have hk356 := hk342.below hb352
         exact ⟨hB354, hk355, hk356⟩
        rintro _ w351 a350 ⟨rfl, hb352⟩ h350
        have hz353 := hb352.size
        have hB354 := fbU_call hB339 hb352
        have hk355 := hk341.below hb352
        have hk356 := hk342.below hb352
        have hM362 := hf37.kept hg49 (by simp)
        have hM363 := hM362.kept (below_grown hb181) (by simp)
        have hM364 := hM363.kept hg292 (by simp)
        have hM365 := hM364.kept hg312 (hM364.row hr306)
        have hM366 := hM365.kept hg324 (by simp; omega)
        have hM367 := hM366.kept hg330 (by simp)
        have hM368 := hM367.kept (below_grown hb352) (by simp)
        refine d1D 8 h350 rfl rfl (op_updateO (a := (c, r)) (v := i) nm_kl rfl rfl rfl rfl Try.underlying66 hM368) ?_ ?_; clear h350
        ·
         rintro _ w358 ⟨hm359, hz360, hg361⟩
         have hz369 := hg361.size
         have hl370 := hm359.lt
         have hB371 := fbU_at hB354 hg361 (fun hlt => by rcases hO.sM with hq | hq; exact hq; omega)
         have hk372 := hk355.kept hg361 (by simp; omega)
         have hk373 := hk356.kept hg361 (by simp; omega)
         exact ⟨hB371, hk372, hk373⟩
        rintro _ w358 a357 ⟨hm359, hz360, hg361⟩ h357
        have hz369 := hg361.size
        have hl370 := hm359.lt
        refine dr_done (by kernel_rfl) ?_
        refine co_ret0n h357 rfl ?_
        have hr371 := row_kept_row hr314 hr306 hg312 (by decide)
        have hr372 := row_kept_at hr371 hg324 (own_neT hr371 hk327 (by decide))
        have hr373 := row_kept_new hr372 hg330
        have hr374 := row_kept_new hr373 (below_grown hb352)
        have hr375 := row_kept_at hr374 hg361 (hM368.row hr374)
        have hE376 := hf36.new hg49
        have hE377 := hE376.new (below_grown hb181)
        have hE378 := hE377.new hg292
        have hE379 := hE378.row hr306 (by decide) hg312
        have hE380 := hE379.blk hk327 (by decide) hg324
        have hE381 := hE380.new hg330
        have hE382 := hE381.new (below_grown hb352)
        have hE383 := hE382.map hM368 hg361
        have hr384 := row_kept_at hr311' hg324 (own_neT hr311' hk327 (by decide))
        have hr385 := row_kept_new hr384 hg330
        have hr386 := row_kept_new hr385 (below_grown hb352)
        have hr387 := row_kept_at hr386 hg361 (hM368.row hr386)
        have hk388 := hk356.kept hg361 (by simp; omega)
        have hB389 := fbU_at hB354 hg361 (fun hlt => by rcases hO.sM with hq | hq; exact hq; omega)
        have hEK : EntK S w0.heap.size w358 (EntT.mk c r u179 l ts) := ⟨row_lows hr375 (Nat.zero_le _), InS.low hr375 (by omega), hlen, hen.1, hts.1, hts.2, hen.2.1, hen.2.2⟩
        have hEs := (EntsK.take hE383 i.toNat).snoc hEK
        have hlt : (L.take i.toNat).length = i.toNat := by rw [List.length_take]; omega
        have hdl : (L.drop i.toNat).length = L.length - i.toNat := List.length_drop
        have hfs := findN_snoc (A := L.take i.toNat) (e := (EntT.mk c r u179 l ts)) hfn
        exact ⟨v310, u179, rfl, ⟨hk388, ⟨_, hm359.eq ((by rw [delN_end hO.uq (by omega), hfs, hlt, Int.toNat_of_nonneg (by omega)]; rfl)) (Nat.le_refl _)⟩, (row_eq hr387 (by first | rfl | simp)), hEs, hO.sb, hO.sM, ((show InS (S) w0.heap.size (subV u 0 ((i).toNat) 4) from fun qi hqi => hO.su qi ((cut_block hr305 ((i).toNat)) ▸ hqi)).went hwt313 (by omega)), ((hO.uq.take _).snoc hfn), (by rw [List.length_append, hlt]; simp; omega)⟩, trivial, hB389⟩
    ·
     refine dr_op (i := 8) h61 rfl rfl rfl rfl (op_call (args := #[.agg #[.int .i64 c, .int .i64 r, v, .int .u64 ts]]) (R := fun res xw => ∃ u : Value, res = .agg #[.int .i64 c, .int .i64 r, u, .int .u64 ts] ∧ xw.ownsRow w48.heap.size 74 3 u l.length (l.flatMap opE) ∧ Below w48.heap.size w48 xw) rfl rfl rfl (by kernel_rfl) (by kernel_rfl) (Try.call48 _ _) (freshEntry_any c r v l ts w48 (sl_butN hs hB54 hvS) (by first | omega | (simp; done) | (simp; omega))) (by rintro e x ⟨u, rfl, hq393, hb394⟩; exact ⟨_, rfl, ⟨u, rfl, hq393, hb394⟩⟩)) ?_ ?_; clear h61
     ·
      rintro _ w391 ⟨u392, rfl, hq393, hb394⟩
      have hz395 := hb394.size
      have hl396 := sl_len (row_sl hq393 opE_len)
      have hB397 := fbU_call hB54 hb394
      have hk398 := hk55.below hb394
      exact ⟨hB397, hk398⟩
     rintro _ w391 a390 ⟨u392, rfl, hq393, hb394⟩ h390
     have hz395 := hb394.size
     have hl396 := sl_len (row_sl hq393 opE_len)
     have hB397 := fbU_call hB54 hb394
     have hk398 := hk55.below hb394
     refine dr_many [4, 9] (by kernel_rfl) (by simp) ⟨?_, ?_, trivial⟩
     ·
      have hk399 := hk39.kept hg49 (by simp)
      have hk400 := hk399.below hb394
      refine dr_opVal (i := 4) (v := u) h390 rfl rfl rfl rfl (by kernel_rfl) rfl (rn_load1 rfl rfl Try.isAgg29 (hk400.cell rfl)) ⟨hB397, hk398⟩ (fun a401 h401 => ?_); clear h390
      refine dr_many [6, 9] (by kernel_rfl) (by simp) ⟨?_, ?_, trivial⟩
      ·
       have hr402 := row_kept_new hf35 hg49
       have hr403 := row_kept_new hr402 (below_grown hb394)
       have hr404 := row_cut hr403 entE_len ((i).toNat) (by omega) (.inr trivial)
       refine dr_opVal (i := 6) (v := subV u 0 ((i).toNat) 4) h401 rfl rfl rfl rfl (by kernel_rfl) rfl (rn_sliceTo rfl rfl rfl Try.underlying29 Try.sizeOf37 (row_sl hr403 entE_len) (by omega) (by omega)) ⟨hB397, hk398⟩ (fun a405 h405 => ?_); clear h401
       refine d1 9 h405 rfl rfl (op_new (v := fun N => .slice (some ⟨N, 0, none⟩) 1 1) (T := 37) (cs := #[.int .i64 c, .int .i64 r, u392, .int .u64 ts]) (by kernel_rfl) (by kernel_rfl) (by kernel_rfl)) ?_ ?_; clear h405
       ·
        rintro _ w407 ⟨N408, rfl, hN411, hz412, hk410, hg409⟩
        have ha413 := row_fresh hr403 hN411
        have hu414 := row_under hr403 hN411
        have ha415 := row_fresh hq393 hN411
        have hu416 := row_under hq393 hN411
        have ha417 := row_fresh hr404 hN411
        have hu418 := row_under hr404 hN411
        have hz419 := hg409.size
        have hB420 := fbU_new hB397 hg409
        have hk421 := hk398.kept hg409 (by simp)
        exact ⟨hB420, hk421⟩
       rintro _ w407 a406 ⟨N408, rfl, hN411, hz412, hk410, hg409⟩ h406
       have ha413 := row_fresh hr403 hN411
       have hu414 := row_under hr403 hN411
       have ha415 := row_fresh hq393 hN411
       have hu416 := row_under hq393 hN411
       have ha417 := row_fresh hr404 hN411
       have hu418 := row_under hr404 hN411
       have hz419 := hg409.size
       try dsimp only at h406
       have hB420 := fbU_new hB397 hg409
       have hk421 := hk398.kept hg409 (by simp)
       have hr428 := row_kept_new hr404 hg409
       have hr429 := row_kept_new hq393 hg409
       refine d1 10 h406 rfl rfl (op_appendF rfl 0 37 (z := .agg #[.int .i64 0, .int .i64 0, .slice none 0 0, .int .u64 0]) (size := 4) (bytes := 48) Try.underlying29 (by kernel_rfl) rfl rfl rfl hr428 rfl hk410 rfl (all_cons rfl (all_cons rfl (all_cons (row_one hr429) (all_cons rfl all_nil)))) (by first | omega | (simp only [List.length_nil, List.length_append, List.length_cons, List.length_take, List.length_drop]; omega)) (by first | omega | (simp only [List.length_nil, List.length_append, List.length_cons, List.length_take, List.length_drop]; omega)) (by omega)) ?_ ?_; clear h406
       ·
        rintro v424 w423 ⟨hr425, hwt427, hg426⟩
        have hr425' : w423.ownsRow 0 37 4 v424 ((L.take ((i).toNat) ++ [(EntT.mk c r u392 l ts)]).length) ((L.take ((i).toNat) ++ [(EntT.mk c r u392 l ts)]).flatMap entE) := row_push (y := (EntT.mk c r u392 l ts)) hr425 rfl rfl; clear hr425
        have hz430 := hg426.size
        have hB431 := fbU_row hB420 (show InS (S) w0.heap.size (subV u 0 ((i).toNat) 4) from fun qi hqi => hO.su qi ((cut_block hr403 ((i).toNat)) ▸ hqi)) hg426
        have hk432 := hk421.kept hg426 ((fun eq => ha14 ((cut_block hr403 ((i).toNat)) ▸ eq)))
        exact ⟨hB431, hk432⟩
       rintro v424 w423 a422 ⟨hr425, hwt427, hg426⟩ h422
       have hr425' : w423.ownsRow 0 37 4 v424 ((L.take ((i).toNat) ++ [(EntT.mk c r u392 l ts)]).length) ((L.take ((i).toNat) ++ [(EntT.mk c r u392 l ts)]).flatMap entE) := row_push (y := (EntT.mk c r u392 l ts)) hr425 rfl rfl; clear hr425
       have hz430 := hg426.size
       have hB431 := fbU_row hB420 (show InS (S) w0.heap.size (subV u 0 ((i).toNat) 4) from fun qi hqi => hO.su qi ((cut_block hr403 ((i).toNat)) ▸ hqi)) hg426
       have hk432 := hk421.kept hg426 ((fun eq => ha14 ((cut_block hr403 ((i).toNat)) ▸ eq)))
       refine dk0 11 (v := pt b 0) h422 rfl rfl ⟨hB431, hk432⟩ fun a433 h433 => ?_; clear h422
       refine dk0 12 (v := pt b 1) h433 rfl rfl ⟨hB431, hk432⟩ fun a434 h434 => ?_; clear h433
       have hk440 := hk400.kept hg409 (by simp)
       have hk441 := hk440.kept hg426 (own_neT hr428 hk440 (by decide))
       refine d1D 13 h434 rfl rfl (op_store1 rfl rfl rfl (row_one hr425') Try.sizeOf29 hk441 rfl) ?_ ?_; clear h434
       ·
        rintro _ w436 ⟨hk437, hz438, hg439⟩
        have hk437' : Blk w436 b 68 #[.bool true, v424, .map (some M)] := hk437; clear hk437
        have hz442 := hg439.size
        have hB443 := fbU_at hB431 hg439 (fun hlt => by rcases hO.sb with hq | hq; exact hq; omega)
        have hk444 := hk432.kept hg439 (by simp; omega)
        exact ⟨hB443, hk444⟩
       rintro _ w436 a435 ⟨hk437, hz438, hg439⟩ h435
       have hk437' : Blk w436 b 68 #[.bool true, v424, .map (some M)] := hk437; clear hk437
       have hz442 := hg439.size
       refine dr_done (by kernel_rfl) ?_
       refine co_then ?_
       refine dr_gen (fun x => But (S) w0 x ∧ Blk x N9 37 #[.int .i64 c, .int .i64 r, v, .int .u64 ts] ∧ Blk x b 68 #[.bool true, v424, .map (some M)]) (by kernel_rfl) (fun w443 hg444 => ?_) (fun w443 hg444 => ?_)
       ·
        have hz445 := hg444.size
        have hB446 := fbU_at hB431 hg439 (fun hlt => by rcases hO.sb with hq | hq; exact hq; omega)
        have hB447 := fbU_new hB446 hg444
        have hk448 := hk432.kept hg439 (by simp; omega)
        have hk449 := hk448.kept hg444 (by simp)
        have hk450 := hk437'.kept hg444 (by simp)
        exact ⟨hB447, hk449, hk450⟩
       have hz451 := hg444.size
       have hB452 := fbU_at hB431 hg439 (fun hlt => by rcases hO.sb with hq | hq; exact hq; omega)
       have hB453 := fbU_new hB452 hg444
       have hk454 := hk432.kept hg439 (by simp; omega)
       have hk455 := hk454.kept hg444 (by simp)
       have hk456 := hk437'.kept hg444 (by simp)
       refine dk0 0 (v := pt b 0) h435 rfl rfl ⟨hB453, hk455, hk456⟩ fun a457 h457 => ?_; clear h435
       refine dk0 1 (v := pt b 0) h457 rfl rfl ⟨hB453, hk455, hk456⟩ fun a458 h458 => ?_; clear h457
       refine dk0 2 (v := pt b 2) h458 rfl rfl ⟨hB453, hk455, hk456⟩ fun a459 h459 => ?_; clear h458
       refine dk 3 (v := .map (some M)) h459 rfl rfl ⟨hB453, hk455, hk456⟩ (fun x hx => (rn_load1 rfl rfl Try.isAgg66 (hx.2.2.cell rfl))) fun a460 h460 => ?_; clear h459
       refine dk 4 (v := .agg #[.int .i64 c, .int .i64 r, v, .int .u64 ts]) h460 rfl rfl ⟨hB453, hk455, hk456⟩ (fun x hx => (rn_loadN rfl rfl Try.underlying37 rfl (by kernel_rfl) hx.2.1.all)) fun a461 h461 => ?_; clear h460
       refine dk0 6 (v := .int .i64 i) h461 rfl rfl ⟨hB453, hk455, hk456⟩ fun a462 h462 => ?_; clear h461
       refine dk0 7 (v := .agg #[.int .i64 i]) h462 rfl rfl ⟨hB453, hk455, hk456⟩ fun a463 h463 => ?_; clear h462
       refine d1 5 h463 rfl rfl (op_call (args := #[.agg #[.int .i64 c, .int .i64 r, v, .int .u64 ts]]) (R := fun res xw => res = .agg #[.int .i64 c, .int .i64 r] ∧ Below w443.heap.size w443 xw) rfl rfl rfl (by kernel_rfl) (by kernel_rfl) (Try.call58 _ _) (lname_any c r v ts w443 ) (by rintro e x ⟨rfl, hb466⟩; exact ⟨_, rfl, ⟨rfl, hb466⟩⟩)) ?_ ?_; clear h463
       ·
        rintro _ w465 ⟨rfl, hb466⟩
        have hz467 := hb466.size
        have hB468 := fbU_call hB453 hb466
        have hk469 := hk455.below hb466
        have hk470 := hk456.below hb466
        exact ⟨hB468, hk469, hk470⟩
       rintro _ w465 a464 ⟨rfl, hb466⟩ h464
       have hz467 := hb466.size
       have hB468 := fbU_call hB453 hb466
       have hk469 := hk455.below hb466
       have hk470 := hk456.below hb466
       have hM476 := hf37.kept hg49 (by simp)
       have hM477 := hM476.kept (below_grown hb394) (by simp)
       have hM478 := hM477.kept hg409 (by simp)
       have hM479 := hM478.kept hg426 (hM478.row hr428)
       have hM480 := hM479.kept hg439 (by simp; omega)
       have hM481 := hM480.kept hg444 (by simp)
       have hM482 := hM481.kept (below_grown hb466) (by simp)
       refine d1D 8 h464 rfl rfl (op_updateO (a := (c, r)) (v := i) nm_kl rfl rfl rfl rfl Try.underlying66 hM482) ?_ ?_; clear h464
       ·
        rintro _ w472 ⟨hm473, hz474, hg475⟩
        have hz483 := hg475.size
        have hl484 := hm473.lt
        have hB485 := fbU_at hB468 hg475 (fun hlt => by rcases hO.sM with hq | hq; exact hq; omega)
        have hk486 := hk469.kept hg475 (by simp; omega)
        have hk487 := hk470.kept hg475 (by simp; omega)
        exact ⟨hB485, hk486, hk487⟩
       rintro _ w472 a471 ⟨hm473, hz474, hg475⟩ h471
       have hz483 := hg475.size
       have hl484 := hm473.lt
       refine dr_done (by kernel_rfl) ?_
       refine co_ret0n h471 rfl ?_
       have hr485 := row_kept_row hr429 hr428 hg426 (by decide)
       have hr486 := row_kept_at hr485 hg439 (own_neT hr485 hk441 (by decide))
       have hr487 := row_kept_new hr486 hg444
       have hr488 := row_kept_new hr487 (below_grown hb466)
       have hr489 := row_kept_at hr488 hg475 (hM482.row hr488)
       have hE490 := hf36.new hg49
       have hE491 := hE490.new (below_grown hb394)
       have hE492 := hE491.new hg409
       have hE493 := hE492.row hr428 (by decide) hg426
       have hE494 := hE493.blk hk441 (by decide) hg439
       have hE495 := hE494.new hg444
       have hE496 := hE495.new (below_grown hb466)
       have hE497 := hE496.map hM482 hg475
       have hr498 := row_kept_at hr425' hg439 (own_neT hr425' hk441 (by decide))
       have hr499 := row_kept_new hr498 hg444
       have hr500 := row_kept_new hr499 (below_grown hb466)
       have hr501 := row_kept_at hr500 hg475 (hM482.row hr500)
       have hk502 := hk470.kept hg475 (by simp; omega)
       have hB503 := fbU_at hB468 hg475 (fun hlt => by rcases hO.sM with hq | hq; exact hq; omega)
       have hEK : EntK S w0.heap.size w472 (EntT.mk c r u392 l ts) := ⟨row_lows hr489 (Nat.zero_le _), InS.low hr489 (by omega), hlen, hen.1, hts.1, hts.2, hen.2.1, hen.2.2⟩
       have hEs := (EntsK.take hE497 i.toNat).snoc hEK
       have hlt : (L.take i.toNat).length = i.toNat := by rw [List.length_take]; omega
       have hdl : (L.drop i.toNat).length = L.length - i.toNat := List.length_drop
       have hfs := findN_snoc (A := L.take i.toNat) (e := (EntT.mk c r u392 l ts)) hfn
       exact ⟨v424, u392, rfl, ⟨hk502, ⟨_, hm473.eq ((by rw [delN_end hO.uq (by omega), hfs, hlt, Int.toNat_of_nonneg (by omega)]; rfl)) (Nat.le_refl _)⟩, (row_eq hr501 (by first | rfl | simp)), hEs, hO.sb, hO.sM, ((show InS (S) w0.heap.size (subV u 0 ((i).toNat) 4) from fun qi hqi => hO.su qi ((cut_block hr403 ((i).toNat)) ▸ hqi)).went hwt427 (by omega)), ((hO.uq.take _).snoc hfn), (by rw [List.length_append, hlt]; simp; omega)⟩, trivial, hB503⟩
      ·
       refine dr_op (i := 9) h401 rfl rfl rfl rfl (op_new (v := fun N => .slice (some ⟨N, 0, none⟩) 1 1) (T := 37) (cs := #[.int .i64 c, .int .i64 r, u392, .int .u64 ts]) (by kernel_rfl) (by kernel_rfl) (by kernel_rfl)) ?_ ?_; clear h401
       ·
        rintro _ w505 ⟨N506, rfl, hN509, hz510, hk508, hg507⟩
        have hr512 := row_kept_new hf35 hg49
        have hr513 := row_kept_new hr512 (below_grown hb394)
        have ha511 := row_fresh hr513 hN509
        have hu514 := row_under hr513 hN509
        have ha515 := row_fresh hq393 hN509
        have hu516 := row_under hq393 hN509
        have hz517 := hg507.size
        have hB518 := fbU_new hB397 hg507
        have hk519 := hk398.kept hg507 (by simp)
        exact ⟨hB518, hk519⟩
       rintro _ w505 a504 ⟨N506, rfl, hN509, hz510, hk508, hg507⟩ h504
       have hr512 := row_kept_new hf35 hg49
       have hr513 := row_kept_new hr512 (below_grown hb394)
       have ha511 := row_fresh hr513 hN509
       have hu514 := row_under hr513 hN509
       have ha515 := row_fresh hq393 hN509
       have hu516 := row_under hq393 hN509
       have hz517 := hg507.size
       try dsimp only at h504
       have hB518 := fbU_new hB397 hg507
       have hk519 := hk398.kept hg507 (by simp)
       refine dr_many [6] (by kernel_rfl) (by simp) ⟨?_, trivial⟩
       ·
        have hr520 := row_kept_new hr513 hg507
        have hr521 := row_cut hr520 entE_len ((i).toNat) (by omega) (.inr trivial)
        refine dr_opVal (i := 6) (v := subV u 0 ((i).toNat) 4) h504 rfl rfl rfl rfl (by kernel_rfl) rfl (rn_sliceTo rfl rfl rfl Try.underlying29 Try.sizeOf37 (row_sl hr520 entE_len) (by omega) (by omega)) ⟨hB518, hk519⟩ (fun a522 h522 => ?_); clear h504
        have hr529 := row_kept_new hq393 hg507
        refine d1 10 h522 rfl rfl (op_appendF rfl 0 37 (z := .agg #[.int .i64 0, .int .i64 0, .slice none 0 0, .int .u64 0]) (size := 4) (bytes := 48) Try.underlying29 (by kernel_rfl) rfl rfl rfl hr521 rfl hk508 rfl (all_cons rfl (all_cons rfl (all_cons (row_one hr529) (all_cons rfl all_nil)))) (by first | omega | (simp only [List.length_nil, List.length_append, List.length_cons, List.length_take, List.length_drop]; omega)) (by first | omega | (simp only [List.length_nil, List.length_append, List.length_cons, List.length_take, List.length_drop]; omega)) (by omega)) ?_ ?_; clear h522
        ·
         rintro v525 w524 ⟨hr526, hwt528, hg527⟩
         have hr526' : w524.ownsRow 0 37 4 v525 ((L.take ((i).toNat) ++ [(EntT.mk c r u392 l ts)]).length) ((L.take ((i).toNat) ++ [(EntT.mk c r u392 l ts)]).flatMap entE) := row_push (y := (EntT.mk c r u392 l ts)) hr526 rfl rfl; clear hr526
         have hz530 := hg527.size
         have hB531 := fbU_row hB518 (show InS (S) w0.heap.size (subV u 0 ((i).toNat) 4) from fun qi hqi => hO.su qi ((cut_block hr520 ((i).toNat)) ▸ hqi)) hg527
         have hk532 := hk519.kept hg527 ((fun eq => ha14 ((cut_block hr520 ((i).toNat)) ▸ eq)))
         exact ⟨hB531, hk532⟩
        rintro v525 w524 a523 ⟨hr526, hwt528, hg527⟩ h523
        have hr526' : w524.ownsRow 0 37 4 v525 ((L.take ((i).toNat) ++ [(EntT.mk c r u392 l ts)]).length) ((L.take ((i).toNat) ++ [(EntT.mk c r u392 l ts)]).flatMap entE) := row_push (y := (EntT.mk c r u392 l ts)) hr526 rfl rfl; clear hr526
        have hz530 := hg527.size
        have hB531 := fbU_row hB518 (show InS (S) w0.heap.size (subV u 0 ((i).toNat) 4) from fun qi hqi => hO.su qi ((cut_block hr520 ((i).toNat)) ▸ hqi)) hg527
        have hk532 := hk519.kept hg527 ((fun eq => ha14 ((cut_block hr520 ((i).toNat)) ▸ eq)))
        refine dk0 11 (v := pt b 0) h523 rfl rfl ⟨hB531, hk532⟩ fun a533 h533 => ?_; clear h523
        refine dk0 12 (v := pt b 1) h533 rfl rfl ⟨hB531, hk532⟩ fun a534 h534 => ?_; clear h533
        have hk540 := hk400.kept hg507 (by simp)
        have hk541 := hk540.kept hg527 (own_neT hr521 hk540 (by decide))
        refine d1D 13 h534 rfl rfl (op_store1 rfl rfl rfl (row_one hr526') Try.sizeOf29 hk541 rfl) ?_ ?_; clear h534
        ·
         rintro _ w536 ⟨hk537, hz538, hg539⟩
         have hk537' : Blk w536 b 68 #[.bool true, v525, .map (some M)] := hk537; clear hk537
         have hz542 := hg539.size
         have hB543 := fbU_at hB531 hg539 (fun hlt => by rcases hO.sb with hq | hq; exact hq; omega)
         have hk544 := hk532.kept hg539 (by simp; omega)
         exact ⟨hB543, hk544⟩
        rintro _ w536 a535 ⟨hk537, hz538, hg539⟩ h535
        have hk537' : Blk w536 b 68 #[.bool true, v525, .map (some M)] := hk537; clear hk537
        have hz542 := hg539.size
        refine dr_done (by kernel_rfl) ?_
        refine co_then ?_
        refine dr_gen (fun x => But (S) w0 x ∧ Blk x N9 37 #[.int .i64 c, .int .i64 r, v, .int .u64 ts] ∧ Blk x b 68 #[.bool true, v525, .map (some M)]) (by kernel_rfl) (fun w543 hg544 => ?_) (fun w543 hg544 => ?_)
        ·
         have hz545 := hg544.size
         have hB546 := fbU_at hB531 hg539 (fun hlt => by rcases hO.sb with hq | hq; exact hq; omega)
         have hB547 := fbU_new hB546 hg544
         have hk548 := hk532.kept hg539 (by simp; omega)
         have hk549 := hk548.kept hg544 (by simp)
         have hk550 := hk537'.kept hg544 (by simp)
         exact ⟨hB547, hk549, hk550⟩
        have hz551 := hg544.size
        have hB552 := fbU_at hB531 hg539 (fun hlt => by rcases hO.sb with hq | hq; exact hq; omega)
        have hB553 := fbU_new hB552 hg544
        have hk554 := hk532.kept hg539 (by simp; omega)
        have hk555 := hk554.kept hg544 (by simp)
        have hk556 := hk537'.kept hg544 (by simp)
        refine dk0 0 (v := pt b 0) h535 rfl rfl ⟨hB553, hk555, hk556⟩ fun a557 h557 => ?_; clear h535
        refine dk0 1 (v := pt b 0) h557 rfl rfl ⟨hB553, hk555, hk556⟩ fun a558 h558 => ?_; clear h557
        refine dk0 2 (v := pt b 2) h558 rfl rfl ⟨hB553, hk555, hk556⟩ fun a559 h559 => ?_; clear h558
        refine dk 3 (v := .map (some M)) h559 rfl rfl ⟨hB553, hk555, hk556⟩ (fun x hx => (rn_load1 rfl rfl Try.isAgg66 (hx.2.2.cell rfl))) fun a560 h560 => ?_; clear h559
        refine dk 4 (v := .agg #[.int .i64 c, .int .i64 r, v, .int .u64 ts]) h560 rfl rfl ⟨hB553, hk555, hk556⟩ (fun x hx => (rn_loadN rfl rfl Try.underlying37 rfl (by kernel_rfl) hx.2.1.all)) fun a561 h561 => ?_; clear h560
        refine dk0 6 (v := .int .i64 i) h561 rfl rfl ⟨hB553, hk555, hk556⟩ fun a562 h562 => ?_; clear h561
        refine dk0 7 (v := .agg #[.int .i64 i]) h562 rfl rfl ⟨hB553, hk555, hk556⟩ fun a563 h563 => ?_; clear h562
        refine d1 5 h563 rfl rfl (op_call (args := #[.agg #[.int .i64 c, .int .i64 r, v, .int .u64 ts]]) (R := fun res xw => res = .agg #[.int .i64 c, .int .i64 r] ∧ Below w543.heap.size w543 xw) rfl rfl rfl (by kernel_rfl) (by kernel_rfl) (Try.call58 _ _) (lname_any c r v ts w543 ) (by rintro e x ⟨rfl, hb566⟩; exact ⟨_, rfl, ⟨rfl, hb566⟩⟩)) ?_ ?_; clear h563
        ·
         rintro _ w565 ⟨rfl, hb566⟩
         have hz567 := hb566.size
         have hB568 := fbU_call hB553 hb566
         have hk569 := hk555.below hb566
         have hk570 := hk556.below hb566
         exact ⟨hB568, hk569, hk570⟩
        rintro _ w565 a564 ⟨rfl, hb566⟩ h564
        have hz567 := hb566.size
        have hB568 := fbU_call hB553 hb566
        have hk569 := hk555.below hb566
        have hk570 := hk556.below hb566
        have hM576 := hf37.kept hg49 (by simp)
        have hM577 := hM576.kept (below_grown hb394) (by simp)
        have hM578 := hM577.kept hg507 (by simp)
        have hM579 := hM578.kept hg527 (hM578.row hr521)
        have hM580 := hM579.kept hg539 (by simp; omega)
        have hM581 := hM580.kept hg544 (by simp)
        have hM582 := hM581.kept (below_grown hb566) (by simp)
        refine d1D 8 h564 rfl rfl (op_updateO (a := (c, r)) (v := i) nm_kl rfl rfl rfl rfl Try.underlying66 hM582) ?_ ?_; clear h564
        ·
         rintro _ w572 ⟨hm573, hz574, hg575⟩
         have hz583 := hg575.size
         have hl584 := hm573.lt
         have hB585 := fbU_at hB568 hg575 (fun hlt => by rcases hO.sM with hq | hq; exact hq; omega)
         have hk586 := hk569.kept hg575 (by simp; omega)
         have hk587 := hk570.kept hg575 (by simp; omega)
         exact ⟨hB585, hk586, hk587⟩
        rintro _ w572 a571 ⟨hm573, hz574, hg575⟩ h571
        have hz583 := hg575.size
        have hl584 := hm573.lt
        refine dr_done (by kernel_rfl) ?_
        refine co_ret0n h571 rfl ?_
        have hr585 := row_kept_row hr529 hr521 hg527 (by decide)
        have hr586 := row_kept_at hr585 hg539 (own_neT hr585 hk541 (by decide))
        have hr587 := row_kept_new hr586 hg544
        have hr588 := row_kept_new hr587 (below_grown hb566)
        have hr589 := row_kept_at hr588 hg575 (hM582.row hr588)
        have hE590 := hf36.new hg49
        have hE591 := hE590.new (below_grown hb394)
        have hE592 := hE591.new hg507
        have hE593 := hE592.row hr521 (by decide) hg527
        have hE594 := hE593.blk hk541 (by decide) hg539
        have hE595 := hE594.new hg544
        have hE596 := hE595.new (below_grown hb566)
        have hE597 := hE596.map hM582 hg575
        have hr598 := row_kept_at hr526' hg539 (own_neT hr526' hk541 (by decide))
        have hr599 := row_kept_new hr598 hg544
        have hr600 := row_kept_new hr599 (below_grown hb566)
        have hr601 := row_kept_at hr600 hg575 (hM582.row hr600)
        have hk602 := hk570.kept hg575 (by simp; omega)
        have hB603 := fbU_at hB568 hg575 (fun hlt => by rcases hO.sM with hq | hq; exact hq; omega)
        have hEK : EntK S w0.heap.size w572 (EntT.mk c r u392 l ts) := ⟨row_lows hr589 (Nat.zero_le _), InS.low hr589 (by omega), hlen, hen.1, hts.1, hts.2, hen.2.1, hen.2.2⟩
        have hEs := (EntsK.take hE597 i.toNat).snoc hEK
        have hlt : (L.take i.toNat).length = i.toNat := by rw [List.length_take]; omega
        have hdl : (L.drop i.toNat).length = L.length - i.toNat := List.length_drop
        have hfs := findN_snoc (A := L.take i.toNat) (e := (EntT.mk c r u392 l ts)) hfn
        exact ⟨v525, u392, rfl, ⟨hk602, ⟨_, hm573.eq ((by rw [delN_end hO.uq (by omega), hfs, hlt, Int.toNat_of_nonneg (by omega)]; rfl)) (Nat.le_refl _)⟩, (row_eq hr601 (by first | rfl | simp)), hEs, hO.sb, hO.sM, ((show InS (S) w0.heap.size (subV u 0 ((i).toNat) 4) from fun qi hqi => hO.su qi ((cut_block hr520 ((i).toNat)) ▸ hqi)).went hwt528 (by omega)), ((hO.uq.take _).snoc hfn), (by rw [List.length_append, hlt]; simp; omega)⟩, trivial, hB603⟩
     ·
      refine dr_op (i := 9) h390 rfl rfl rfl rfl (op_new (v := fun N => .slice (some ⟨N, 0, none⟩) 1 1) (T := 37) (cs := #[.int .i64 c, .int .i64 r, u392, .int .u64 ts]) (by kernel_rfl) (by kernel_rfl) (by kernel_rfl)) ?_ ?_; clear h390
      ·
       rintro _ w605 ⟨N606, rfl, hN609, hz610, hk608, hg607⟩
       have hr612 := row_kept_new hf35 hg49
       have hr613 := row_kept_new hr612 (below_grown hb394)
       have ha611 := row_fresh hr613 hN609
       have hu614 := row_under hr613 hN609
       have ha615 := row_fresh hq393 hN609
       have hu616 := row_under hq393 hN609
       have hz617 := hg607.size
       have hB618 := fbU_new hB397 hg607
       have hk619 := hk398.kept hg607 (by simp)
       exact ⟨hB618, hk619⟩
      rintro _ w605 a604 ⟨N606, rfl, hN609, hz610, hk608, hg607⟩ h604
      have hr612 := row_kept_new hf35 hg49
      have hr613 := row_kept_new hr612 (below_grown hb394)
      have ha611 := row_fresh hr613 hN609
      have hu614 := row_under hr613 hN609
      have ha615 := row_fresh hq393 hN609
      have hu616 := row_under hq393 hN609
      have hz617 := hg607.size
      try dsimp only at h604
      have hB618 := fbU_new hB397 hg607
      have hk619 := hk398.kept hg607 (by simp)
      refine dr_many [4] (by kernel_rfl) (by simp) ⟨?_, trivial⟩
      ·
       have hk620 := hk39.kept hg49 (by simp)
       have hk621 := hk620.below hb394
       have hk622 := hk621.kept hg607 (by simp)
       refine dr_opVal (i := 4) (v := u) h604 rfl rfl rfl rfl (by kernel_rfl) rfl (rn_load1 rfl rfl Try.isAgg29 (hk622.cell rfl)) ⟨hB618, hk619⟩ (fun a623 h623 => ?_); clear h604
       refine dr_many [6] (by kernel_rfl) (by simp) ⟨?_, trivial⟩
       ·
        have hr624 := row_kept_new hr613 hg607
        have hr625 := row_cut hr624 entE_len ((i).toNat) (by omega) (.inr trivial)
        refine dr_opVal (i := 6) (v := subV u 0 ((i).toNat) 4) h623 rfl rfl rfl rfl (by kernel_rfl) rfl (rn_sliceTo rfl rfl rfl Try.underlying29 Try.sizeOf37 (row_sl hr624 entE_len) (by omega) (by omega)) ⟨hB618, hk619⟩ (fun a626 h626 => ?_); clear h623
        have hr633 := row_kept_new hq393 hg607
        refine d1 10 h626 rfl rfl (op_appendF rfl 0 37 (z := .agg #[.int .i64 0, .int .i64 0, .slice none 0 0, .int .u64 0]) (size := 4) (bytes := 48) Try.underlying29 (by kernel_rfl) rfl rfl rfl hr625 rfl hk608 rfl (all_cons rfl (all_cons rfl (all_cons (row_one hr633) (all_cons rfl all_nil)))) (by first | omega | (simp only [List.length_nil, List.length_append, List.length_cons, List.length_take, List.length_drop]; omega)) (by first | omega | (simp only [List.length_nil, List.length_append, List.length_cons, List.length_take, List.length_drop]; omega)) (by omega)) ?_ ?_; clear h626
        ·
         rintro v629 w628 ⟨hr630, hwt632, hg631⟩
         have hr630' : w628.ownsRow 0 37 4 v629 ((L.take ((i).toNat) ++ [(EntT.mk c r u392 l ts)]).length) ((L.take ((i).toNat) ++ [(EntT.mk c r u392 l ts)]).flatMap entE) := row_push (y := (EntT.mk c r u392 l ts)) hr630 rfl rfl; clear hr630
         have hz634 := hg631.size
         have hB635 := fbU_row hB618 (show InS (S) w0.heap.size (subV u 0 ((i).toNat) 4) from fun qi hqi => hO.su qi ((cut_block hr624 ((i).toNat)) ▸ hqi)) hg631
         have hk636 := hk619.kept hg631 ((fun eq => ha14 ((cut_block hr624 ((i).toNat)) ▸ eq)))
         exact ⟨hB635, hk636⟩
        rintro v629 w628 a627 ⟨hr630, hwt632, hg631⟩ h627
        have hr630' : w628.ownsRow 0 37 4 v629 ((L.take ((i).toNat) ++ [(EntT.mk c r u392 l ts)]).length) ((L.take ((i).toNat) ++ [(EntT.mk c r u392 l ts)]).flatMap entE) := row_push (y := (EntT.mk c r u392 l ts)) hr630 rfl rfl; clear hr630
        have hz634 := hg631.size
        have hB635 := fbU_row hB618 (show InS (S) w0.heap.size (subV u 0 ((i).toNat) 4) from fun qi hqi => hO.su qi ((cut_block hr624 ((i).toNat)) ▸ hqi)) hg631
        have hk636 := hk619.kept hg631 ((fun eq => ha14 ((cut_block hr624 ((i).toNat)) ▸ eq)))
        refine dk0 11 (v := pt b 0) h627 rfl rfl ⟨hB635, hk636⟩ fun a637 h637 => ?_; clear h627
        refine dk0 12 (v := pt b 1) h637 rfl rfl ⟨hB635, hk636⟩ fun a638 h638 => ?_; clear h637
        have hk644 := hk622.kept hg631 (own_neT hr625 hk622 (by decide))
        refine d1D 13 h638 rfl rfl (op_store1 rfl rfl rfl (row_one hr630') Try.sizeOf29 hk644 rfl) ?_ ?_; clear h638
        ·
         rintro _ w640 ⟨hk641, hz642, hg643⟩
         have hk641' : Blk w640 b 68 #[.bool true, v629, .map (some M)] := hk641; clear hk641
         have hz645 := hg643.size
         have hB646 := fbU_at hB635 hg643 (fun hlt => by rcases hO.sb with hq | hq; exact hq; omega)
         have hk647 := hk636.kept hg643 (by simp; omega)
         exact ⟨hB646, hk647⟩
        rintro _ w640 a639 ⟨hk641, hz642, hg643⟩ h639
        have hk641' : Blk w640 b 68 #[.bool true, v629, .map (some M)] := hk641; clear hk641
        have hz645 := hg643.size
        refine dr_done (by kernel_rfl) ?_
        refine co_then ?_
        refine dr_gen (fun x => But (S) w0 x ∧ Blk x N9 37 #[.int .i64 c, .int .i64 r, v, .int .u64 ts] ∧ Blk x b 68 #[.bool true, v629, .map (some M)]) (by kernel_rfl) (fun w646 hg647 => ?_) (fun w646 hg647 => ?_)
        ·
         have hz648 := hg647.size
         have hB649 := fbU_at hB635 hg643 (fun hlt => by rcases hO.sb with hq | hq; exact hq; omega)
         have hB650 := fbU_new hB649 hg647
         have hk651 := hk636.kept hg643 (by simp; omega)
         have hk652 := hk651.kept hg647 (by simp)
         have hk653 := hk641'.kept hg647 (by simp)
         exact ⟨hB650, hk652, hk653⟩
        have hz654 := hg647.size
        have hB655 := fbU_at hB635 hg643 (fun hlt => by rcases hO.sb with hq | hq; exact hq; omega)
        have hB656 := fbU_new hB655 hg647
        have hk657 := hk636.kept hg643 (by simp; omega)
        have hk658 := hk657.kept hg647 (by simp)
        have hk659 := hk641'.kept hg647 (by simp)
        refine dk0 0 (v := pt b 0) h639 rfl rfl ⟨hB656, hk658, hk659⟩ fun a660 h660 => ?_; clear h639
        refine dk0 1 (v := pt b 0) h660 rfl rfl ⟨hB656, hk658, hk659⟩ fun a661 h661 => ?_; clear h660
        refine dk0 2 (v := pt b 2) h661 rfl rfl ⟨hB656, hk658, hk659⟩ fun a662 h662 => ?_; clear h661
        refine dk 3 (v := .map (some M)) h662 rfl rfl ⟨hB656, hk658, hk659⟩ (fun x hx => (rn_load1 rfl rfl Try.isAgg66 (hx.2.2.cell rfl))) fun a663 h663 => ?_; clear h662
        refine dk 4 (v := .agg #[.int .i64 c, .int .i64 r, v, .int .u64 ts]) h663 rfl rfl ⟨hB656, hk658, hk659⟩ (fun x hx => (rn_loadN rfl rfl Try.underlying37 rfl (by kernel_rfl) hx.2.1.all)) fun a664 h664 => ?_; clear h663
        refine dk0 6 (v := .int .i64 i) h664 rfl rfl ⟨hB656, hk658, hk659⟩ fun a665 h665 => ?_; clear h664
        refine dk0 7 (v := .agg #[.int .i64 i]) h665 rfl rfl ⟨hB656, hk658, hk659⟩ fun a666 h666 => ?_; clear h665
        refine d1 5 h666 rfl rfl (op_call (args := #[.agg #[.int .i64 c, .int .i64 r, v, .int .u64 ts]]) (R := fun res xw => res = .agg #[.int .i64 c, .int .i64 r] ∧ Below w646.heap.size w646 xw) rfl rfl rfl (by kernel_rfl) (by kernel_rfl) (Try.call58 _ _) (lname_any c r v ts w646 ) (by rintro e x ⟨rfl, hb669⟩; exact ⟨_, rfl, ⟨rfl, hb669⟩⟩)) ?_ ?_; clear h666
        ·
         rintro _ w668 ⟨rfl, hb669⟩
         have hz670 := hb669.size
         have hB671 := fbU_call hB656 hb669
         have hk672 := hk658.below hb669
         have hk673 := hk659.below hb669
         exact ⟨hB671, hk672, hk673⟩
        rintro _ w668 a667 ⟨rfl, hb669⟩ h667
        have hz670 := hb669.size
        have hB671 := fbU_call hB656 hb669
        have hk672 := hk658.below hb669
        have hk673 := hk659.below hb669
        have hM679 := hf37.kept hg49 (by simp)
        have hM680 := hM679.kept (below_grown hb394) (by simp)
        have hM681 := hM680.kept hg607 (by simp)
        have hM682 := hM681.kept hg631 (hM681.row hr625)
        have hM683 := hM682.kept hg643 (by simp; omega)
        have hM684 := hM683.kept hg647 (by simp)
        have hM685 := hM684.kept (below_grown hb669) (by simp)
        refine d1D 8 h667 rfl rfl (op_updateO (a := (c, r)) (v := i) nm_kl rfl rfl rfl rfl Try.underlying66 hM685) ?_ ?_; clear h667
        ·
         rintro _ w675 ⟨hm676, hz677, hg678⟩
         have hz686 := hg678.size
         have hl687 := hm676.lt
         have hB688 := fbU_at hB671 hg678 (fun hlt => by rcases hO.sM with hq | hq; exact hq; omega)
         have hk689 := hk672.kept hg678 (by simp; omega)
         have hk690 := hk673.kept hg678 (by simp; omega)
         exact ⟨hB688, hk689, hk690⟩
        rintro _ w675 a674 ⟨hm676, hz677, hg678⟩ h674
        have hz686 := hg678.size
        have hl687 := hm676.lt
        refine dr_done (by kernel_rfl) ?_
        refine co_ret0n h674 rfl ?_
        have hr688 := row_kept_row hr633 hr625 hg631 (by decide)
        have hr689 := row_kept_at hr688 hg643 (own_neT hr688 hk644 (by decide))
        have hr690 := row_kept_new hr689 hg647
        have hr691 := row_kept_new hr690 (below_grown hb669)
        have hr692 := row_kept_at hr691 hg678 (hM685.row hr691)
        have hE693 := hf36.new hg49
        have hE694 := hE693.new (below_grown hb394)
        have hE695 := hE694.new hg607
        have hE696 := hE695.row hr625 (by decide) hg631
        have hE697 := hE696.blk hk644 (by decide) hg643
        have hE698 := hE697.new hg647
        have hE699 := hE698.new (below_grown hb669)
        have hE700 := hE699.map hM685 hg678
        have hr701 := row_kept_at hr630' hg643 (own_neT hr630' hk644 (by decide))
        have hr702 := row_kept_new hr701 hg647
        have hr703 := row_kept_new hr702 (below_grown hb669)
        have hr704 := row_kept_at hr703 hg678 (hM685.row hr703)
        have hk705 := hk673.kept hg678 (by simp; omega)
        have hB706 := fbU_at hB671 hg678 (fun hlt => by rcases hO.sM with hq | hq; exact hq; omega)
        have hEK : EntK S w0.heap.size w675 (EntT.mk c r u392 l ts) := ⟨row_lows hr692 (Nat.zero_le _), InS.low hr692 (by omega), hlen, hen.1, hts.1, hts.2, hen.2.1, hen.2.2⟩
        have hEs := (EntsK.take hE700 i.toNat).snoc hEK
        have hlt : (L.take i.toNat).length = i.toNat := by rw [List.length_take]; omega
        have hdl : (L.drop i.toNat).length = L.length - i.toNat := List.length_drop
        have hfs := findN_snoc (A := L.take i.toNat) (e := (EntT.mk c r u392 l ts)) hfn
        exact ⟨v629, u392, rfl, ⟨hk705, ⟨_, hm676.eq ((by rw [delN_end hO.uq (by omega), hfs, hlt, Int.toNat_of_nonneg (by omega)]; rfl)) (Nat.le_refl _)⟩, (row_eq hr704 (by first | rfl | simp)), hEs, hO.sb, hO.sM, ((show InS (S) w0.heap.size (subV u 0 ((i).toNat) 4) from fun qi hqi => hO.su qi ((cut_block hr624 ((i).toNat)) ▸ hqi)).went hwt632 (by omega)), ((hO.uq.take _).snoc hfn), (by rw [List.length_append, hlt]; simp; omega)⟩, trivial, hB706⟩
   ·
    rw [hc46] at h45
    have hp707 : ((k : Nat) : Int) < (((L.drop ((i).toNat)).length : Nat) : Int) := of_decide_eq_true hc46
    clear hc46
    refine co_true h45 rfl ?_
    refine wp_skip ?_
    refine co_then ?_
    refine co_seq ?_
    refine wp_block ?_
    refine co_seq ?_
    refine co_reg ?_
    obtain ⟨y708, hy708⟩ : ∃ z, (L.drop ((i).toNat))[k]? = some z := ⟨_, List.getElem?_eq_getElem (by first | omega | (simp; done) | (simp; omega))⟩
    have oky708 := (fun (z : EntT) (_ : z ∈ L.drop i.toNat) => trivial) _ (List.mem_of_getElem? hy708)
    have hLy708 : L[i.toNat + k]? = some y708 := by rw [← List.getElem?_drop]; exact hy708
    have hy709 := hf36.at hLy708
    have hq710 := hy709.ts0; have hq711 := hy709.ts1; have hq712 := hy709.len; have hq713 := wf_i64 hy709.cl; have hq714 := wf_i64 hy709.rq
    refine pk (v := pt (blkOf (subV u ((i).toNat) L.length 4)) (offOf (subV u ((i).toNat) L.length 4) + k * 4)) h45 rfl (rn_index rfl rfl rfl Try.underlying29 Try.sizeOf37 (sl_drop (row_sl hf35 entE_len) _ (by omega)) (by omega) (by first | omega | (simp; done) | (simp; omega))) fun a715 h715 => ?_; clear h45
    refine pk (v := .agg #[.int .i64 y708.client, .int .i64 y708.req, y708.ops, .int .u64 y708.ts]) h715 rfl (rn_loadN rfl rfl Try.underlying37 rfl (by kernel_rfl) (sl_at (sl_drop (row_sl hf35 entE_len) _ (by omega)) hy708)) fun a716 h716 => ?_; clear h715
    refine pw h716 rfl (op_new (v := fun N => pt N 0) (T := 37) (cs := #[.int .i64 0, .int .i64 0, .slice none 0 0, .int .u64 0]) (by kernel_rfl) (by kernel_rfl) (by kernel_rfl)) ?_; clear h716
    rintro _ w718 a717 ⟨N719, rfl, hN722, hz723, hk721, hg720⟩ h717
    have ha724 := row_fresh hf35 hN722
    have hu725 := row_under hf35 hN722
    have ha726 := row_fresh hy709.row hN722
    have hu727 := row_under hy709.row hN722
    have hz728 := hg720.size
    try dsimp only at h717
    have hr734 := row_kept_new hy709.row hg720
    refine pwD h717 rfl (op_storeN rfl rfl rfl (all_cons rfl (all_cons rfl (all_cons (row_one hr734) (all_cons rfl all_nil)))) (by kernel_rfl) hk721 rfl) ?_; clear h717
    rintro _ w730 a729 ⟨hk731, hz732, hg733⟩ h729
    have hk731' : Blk w730 N719 37 #[.int .i64 y708.client, .int .i64 y708.req, y708.ops, .int .u64 y708.ts] := hk731; clear hk731
    have hz735 := hg733.size
    refine pl_nil ?_
    refine co_then ?_
    refine dr_gen (fun x => But (S) w0 x ∧ Blk x b 68 #[.bool true, u, .map (some M)] ∧ Blk x N719 37 #[.int .i64 y708.client, .int .i64 y708.req, y708.ops, .int .u64 y708.ts]) (by kernel_rfl) (fun w736 hg737 => ?_) (fun w736 hg737 => ?_)
    ·
     have hz738 := hg737.size
     have hB739 := fbU_new hB38 hg720
     have hB740 := fbU_at hB739 hg733 (fun hlt => absurd hlt (by omega))
     have hB741 := fbU_new hB740 hg737
     have hk742 := hk39.kept hg720 (by simp)
     have hk743 := hk742.kept hg733 (by simp; omega)
     have hk744 := hk743.kept hg737 (by simp)
     have hk745 := hk731'.kept hg737 (by simp)
     exact ⟨hB741, hk744, hk745⟩
    have hz746 := hg737.size
    have hB747 := fbU_new hB38 hg720
    have hB748 := fbU_at hB747 hg733 (fun hlt => absurd hlt (by omega))
    have hB749 := fbU_new hB748 hg737
    have hk750 := hk39.kept hg720 (by simp)
    have hk751 := hk750.kept hg733 (by simp; omega)
    have hk752 := hk751.kept hg737 (by simp)
    have hk753 := hk731'.kept hg737 (by simp)
    refine dk0 0 (v := pt b 0) h729 rfl rfl ⟨hB749, hk752, hk753⟩ fun a754 h754 => ?_; clear h729
    refine dk0 1 (v := pt b 0) h754 rfl rfl ⟨hB749, hk752, hk753⟩ fun a755 h755 => ?_; clear h754
    refine dk0 2 (v := pt b 2) h755 rfl rfl ⟨hB749, hk752, hk753⟩ fun a756 h756 => ?_; clear h755
    refine dk 3 (v := .map (some M)) h756 rfl rfl ⟨hB749, hk752, hk753⟩ (fun x hx => (rn_load1 rfl rfl Try.isAgg66 (hx.2.1.cell rfl))) fun a757 h757 => ?_; clear h756
    refine dk 4 (v := .agg #[.int .i64 y708.client, .int .i64 y708.req, y708.ops, .int .u64 y708.ts]) h757 rfl rfl ⟨hB749, hk752, hk753⟩ (fun x hx => (rn_loadN rfl rfl Try.underlying37 rfl (by kernel_rfl) hx.2.2.all)) fun a758 h758 => ?_; clear h757
    refine d1 5 h758 rfl rfl (op_call (args := #[.agg #[.int .i64 y708.client, .int .i64 y708.req, y708.ops, .int .u64 y708.ts]]) (R := fun res xw => res = .agg #[.int .i64 y708.client, .int .i64 y708.req] ∧ Below w736.heap.size w736 xw) rfl rfl rfl (by kernel_rfl) (by kernel_rfl) (Try.call58 _ _) (lname_any y708.client y708.req y708.ops y708.ts w736 ) (by rintro e x ⟨rfl, hb761⟩; exact ⟨_, rfl, ⟨rfl, hb761⟩⟩)) ?_ ?_; clear h758
    ·
     rintro _ w760 ⟨rfl, hb761⟩
     have hz762 := hb761.size
     have hB763 := fbU_call hB749 hb761
     have hk764 := hk752.below hb761
     have hk765 := hk753.below hb761
     exact ⟨hB763, hk764, hk765⟩
    rintro _ w760 a759 ⟨rfl, hb761⟩ h759
    have hz762 := hb761.size
    have hB763 := fbU_call hB749 hb761
    have hk764 := hk752.below hb761
    have hk765 := hk753.below hb761
    have hM771 := hf37.kept hg720 (by simp)
    have hM772 := hM771.kept hg733 (by simp; omega)
    have hM773 := hM772.kept hg737 (by simp)
    have hM774 := hM773.kept (below_grown hb761) (by simp)
    refine d1D 6 h759 rfl rfl (op_deleteO (a := (y708.client, y708.req)) nm_kl rfl rfl rfl Try.underlying66 hM774) ?_ ?_; clear h759
    ·
     rintro _ w767 ⟨hm768, hz769, hg770⟩
     have hz775 := hg770.size
     have hl776 := hm768.lt
     have hB777 := fbU_at hB763 hg770 (fun hlt => by rcases hO.sM with hq | hq; exact hq; omega)
     have hk778 := hk764.kept hg770 (by simp; omega)
     have hk779 := hk765.kept hg770 (by simp; omega)
     exact ⟨hB777, hk778, hk779⟩
    rintro _ w767 a766 ⟨hm768, hz769, hg770⟩ h766
    have hz775 := hg770.size
    have hl776 := hm768.lt
    refine dr_done (by kernel_rfl) ?_
    refine co_blockN ?_
    refine co_then ?_
    refine co_reg ?_
    refine pk (v := .int .i64 ((k + 1 : Nat) : Int)) h766 rfl (rn_arith' rfl rfl rfl rfl rfl rfl (IntWalk.i64_in _ (by omega)) (by omega)) fun a777 h777 => ?_; clear h766
    refine pk0 (v := .int .i64 ((k + 1 : Nat) : Int)) h777 rfl fun a778 h778 => ?_; clear h777
    refine pl_nil ?_
    refine co_then ?_
    refine ⟨(L.length - i.toNat - (k + 1)), by omega, ?_⟩
    have hr779 := row_kept_new hf35 hg720
    have hr780 := row_kept_at hr779 hg733 (ha724)
    have hr781 := row_kept_new hr780 hg737
    have hr782 := row_kept_new hr781 (below_grown hb761)
    have hr783 := row_kept_at hr782 hg770 (hM774.row hr782)
    have hE784 := hf36.new hg720
    have hE785 := hE784.blk hk721 (by decide) hg733
    have hE786 := hE785.new hg737
    have hE787 := hE786.new (below_grown hb761)
    have hE788 := hE787.map hM774 hg770
    have hB789 := fbU_at hB763 hg770 (fun hlt => by rcases hO.sM with hq | hq; exact hq; omega)
    have hk790 := hk764.kept hg770 (by simp; omega)
    have hk791 := hk40.kept hg720 (by simp)
    have hk792 := hk791.kept hg733 (by simp; omega)
    have hk793 := hk792.kept hg737 (by simp)
    have hk794 := hk793.below hb761
    have hk795 := hk794.kept hg770 (by simp; omega)
    exact ⟨k + 1, h778.sub ⟨rfl, rfl, rfl, rfl, rfl, rfl, trivial⟩, rfl, by omega, hr783, hE788, (hm768.eq (by first | exact (delN_0 _ _).symm | exact delN_step (by assumption)) (Nat.le_refl _)), hB789, hk790, hk795⟩
end Go.Proofs.Ytniojcnkjehflaa

/- Package rlog: Set. Conditions: at most 100 entries, 20 operations each. -/
namespace Go.Proofs.Ytniojcnkjehflaa
open Go.RowKit Go.PlainAid
set_option linter.unusedVariables false
set_option linter.unusedSimpArgs false


def setE (L : List EntT) (i : Int) (c r : Int) (l : List OpT) (ts : Int) : Int :=
  if i < 0 ∨ (L.length : Int) < i then 1 else if chkB c r l ≠ 0 then chkB c r l else if 100 ≤ i then 6
  else if (findN (L.take i.toNat) (c, r)).isSome = true then 18 else if badT (L.take i.toNat) (EntT.mk c r (.slice none 0 0) l ts) = true then 18 else 0
/-- What the entries are behind Set. -/
def SetR (L : List EntT) (i : Int) (c r : Int) (l : List OpT) (ts : Int) (L' : List EntT) : Prop :=
  (setE L i c r l ts ≠ 0 ∧ L' = L) ∨ (setE L i c r l ts = 0 ∧ (((L[i.toNat]?).map nmE = some (c, r) ∧ L' = restF L i.toNat ts) ∨ (¬ (L[i.toNat]?).map nmE = some (c, r) ∧ ∃ v', L' = L.take i.toNat ++ [EntT.mk c r v' l ts])))
section
variable {L : List EntT} {i c r ts : Int} {l : List OpT} {v : Value} {f : Int}
theorem setE_a (h : i < 0 ∨ (L.length : Int) < i) : setE L i c r l ts = 1 := by unfold setE; rw [if_pos h]
theorem setE_b (h : ¬ (i < 0 ∨ (L.length : Int) < i)) (hc : chkB c r l ≠ 0) : setE L i c r l ts = chkB c r l := by unfold setE; rw [if_neg h, if_pos hc]
theorem setE_c (h : ¬ (i < 0 ∨ (L.length : Int) < i)) (hc : ¬ chkB c r l ≠ 0) (h6 : 100 ≤ i) : setE L i c r l ts = 6 := by unfold setE; rw [if_neg h, if_neg hc, if_pos h6]
theorem setE_d (h : ¬ (i < 0 ∨ (L.length : Int) < i)) (hc : ¬ chkB c r l ≠ 0) (h6 : ¬ 100 ≤ i) (hb : (findN L (c, r)).isSome = true) (hf : (findN L (c, r)).getD 0 = f) (hlt : f < i) : setE L i c r l ts = 18 := by
  have := findN_lt (j := i.toNat) hb hf (by omega)
  unfold setE; rw [if_neg h, if_neg hc, if_neg h6, if_pos this]
theorem setE_n (h : ¬ (i < 0 ∨ (L.length : Int) < i)) (hf : (findN L (c, r)).getD 0 = f) (hn : (findN L (c, r)).isSome = false ∨ ¬ f < i) : findN (L.take i.toNat) (c, r) = none := findN_ge hf (by
  rcases hn with hn | hn
  · exact .inl hn
  · exact .inr (by omega))
theorem setE_e (h : ¬ (i < 0 ∨ (L.length : Int) < i)) (hc : ¬ chkB c r l ≠ 0) (h6 : ¬ 100 ≤ i) (hn : findN (L.take i.toNat) (c, r) = none) (hb : badT (L.take i.toNat) (EntT.mk c r v l ts) = true) : setE L i c r l ts = 18 := by
  have hb' : badT (L.take i.toNat) (EntT.mk c r (.slice none 0 0) l ts) = true := hb
  unfold setE; rw [if_neg h, if_neg hc, if_neg h6, if_neg (by rw [hn]; simp), if_pos hb']
theorem setE_f (h : ¬ (i < 0 ∨ (L.length : Int) < i)) (hc : ¬ chkB c r l ≠ 0) (h6 : ¬ 100 ≤ i) (hn : findN (L.take i.toNat) (c, r) = none) (hb : badT (L.take i.toNat) (EntT.mk c r v l ts) = false) : setE L i c r l ts = 0 := by
  have hb' : ¬ badT (L.take i.toNat) (EntT.mk c r (.slice none 0 0) l ts) = true := fun e => by rw [show badT (L.take i.toNat) (EntT.mk c r (.slice none 0 0) l ts) = false from hb] at e; cases e
  unfold setE; rw [if_neg h, if_neg hc, if_neg h6, if_neg (by rw [hn]; simp), if_neg hb']
theorem findN_atl {L : List EntT} {k : Int × Int} {j : Nat} (h : (L[j]?).map nmE = some k) : j < L.length := by
  rw [Option.map_eq_some_iff] at h
  obtain ⟨y, hy, _⟩ := h
  exact (List.getElem?_eq_some_iff.1 hy).1
theorem SetR.same (h : setE L i c r l ts ≠ 0) : SetR L i c r l ts L := .inl ⟨h, rfl⟩
theorem badM_0 {l : List EntT} {i : Nat} {y : EntT} (h : i = 0) : badT (l.take i) y = false := by subst h; simp [badT]
end

set_option maxRecDepth 100000 in
set_option maxHeartbeats 3200000 in
theorem lSet_any (w0 : World) (S : Nat → Prop) (b : Nat) (M : Nat) (u : Value) (L : List EntT) (i : Int) (c : Int) (r : Int) (v : Value) (l : List OpT) (ts : Int) (w : World) (hbw : But S w0 w) (hO : LgP S w0.heap.size w b M u L) (hs : SliceOf opE 3 w0 v l) (hvS : l ≠ [] → ∀ k, v.ownBlock = some k → ¬ S k) (hlen : l.length ≤ 20) (hts : 0 ≤ ts ∧ ts < 18446744073709551616) (hen : (∀ o ∈ l, opOk o) ∧ (Lit.int .i64 c).wf = true ∧ (Lit.int .i64 r).wf = true) :
    Calls Try.prog 30 #[pt b 0, .int .i64 i, .agg #[.int .i64 c, .int .i64 r, v, .int .u64 ts]] w fun e w' => ∃ (u' : Value) (L' : List EntT), e = .returned (.int .i64 (setE L i c r l ts)) ∧ LgP S w0.heap.size w' b M u' L' ∧ SetR L i c r l ts L' ∧ But (S) w0 w' := by
 have hB0 := hbw
 have hz0 := hbw.size
 have hz0 := hbw.size
 have hl3 := hO.blk.lt; obtain ⟨c1, hm2⟩ := hO.map; have hl4 := hm2.lt; have hne5 := blk_ne_mapN hO.blk hm2; have hln6 := hO.len
 have hln0 := sl_len hs
 rcases Int.lt_or_le i 0 with hneg | hpos
 · skip
   refine co_enter (n := 96) Try.func30 rfl rfl rfl [(0, pt b 0), (1, .int .i64 i), (2, .agg #[.int .i64 c, .int .i64 r, v, .int .u64 ts])] rfl (fun a h0 => ?_)
   refine co_seq ?_
   refine co_reg ?_
   refine pw h0 rfl (op_new (v := fun N => pt N 0) (T := 37) (cs := #[.int .i64 c, .int .i64 r, v, .int .u64 ts]) (by kernel_rfl) (by kernel_rfl) (by kernel_rfl)) ?_; clear h0
   rintro _ w8 a7 ⟨N9, rfl, hN12, hz13, hk11, hg10⟩ h7
   have ha14 := row_fresh hO.row hN12
   have hu15 := row_under hO.row hN12
   have hz16 := hg10.size
   try dsimp only at h7
   refine pk0 (v := .int .i64 0) h7 rfl fun a17 h17 => ?_; clear h7
   refine pl_nil ?_
   refine co_then ?_
   refine co_seq ?_
   refine co_seq ?_
   refine co_reg ?_
   refine pk0 (v := pt b 0) h17 rfl fun a18 h18 => ?_; clear h17
   have hk21 := hO.blk.kept hg10 (by simp)
   refine pw h18 rfl (op_call (args := #[pt b 0]) (R := fun res xw => res = .bool false ∧ w8 = xw) rfl rfl rfl (by kernel_rfl) (by kernel_rfl) (Try.call39 _ _) (lzero_any b M u w8 hk21) (by rintro e x ⟨rfl, rfl⟩; exact ⟨_, rfl, ⟨rfl, rfl⟩⟩)) ?_; clear h18
   rintro _ _ a19 ⟨rfl, rfl⟩ h19
   refine pl_nil ?_
   refine co_then ?_
   refine co_false h19 rfl ?_
   refine wp_skip ?_
   refine co_then ?_
   refine co_seq ?_
   refine co_seq ?_
   refine co_reg ?_
   refine pk0 (v := .int .i64 i) h19 rfl fun a23 h23 => ?_; clear h19
   refine pk0 (v := .bool (decide (i < 0))) h23 rfl fun a24 h24 => ?_; clear h23
   refine pk0 (v := .bool (decide (i < 0))) h24 rfl fun a25 h25 => ?_; clear h24
   have hc26 : (decide (i < 0)) = true := decide_eq_true (by omega)
   rw [hc26] at h25; clear hc26
   refine psk h25 rfl fun a27 h27 => ?_; clear h25
   refine psk h27 rfl fun a28 h28 => ?_; clear h27
   refine psk h28 rfl fun a29 h29 => ?_; clear h28
   refine psk h29 rfl fun a30 h30 => ?_; clear h29
   refine psk h30 rfl fun a31 h31 => ?_; clear h30
   refine psk h31 rfl fun a32 h32 => ?_; clear h31
   refine psk h32 rfl fun a33 h33 => ?_; clear h32
   refine pk0 (v := .bool true) h33 rfl fun a34 h34 => ?_; clear h33
   refine pl_nil ?_
   refine co_then ?_
   refine co_true h34 rfl ?_
   refine co_seq ?_
   refine co_reg ?_
   refine pk0 (v := .int .i64 1) h34 rfl fun a35 h35 => ?_; clear h34
   refine pl_nil ?_
   refine co_then ?_
   refine wp_ret ?_
   refine co_thenR ?_
   refine co_ret1 h35 rfl rfl ?_
   have hM36 := hm2.kept hg10 (by simp)
   have hr37 := row_kept_new hO.row hg10
   have hE38 := hO.ents.new hg10
   have hB39 := fbU_new hB0 hg10
   have hE : setE L i c r l ts = 1 := setE_a (by omega)
   exact ⟨_, _, ret_int hE.symm, ⟨hk21, ⟨_, hM36⟩, hr37, hE38, hO.sb, hO.sM, hO.su, hO.uq, hO.len⟩, .same (by rw [hE]; omega), hB39⟩
 · obtain ⟨j, rfl⟩ : ∃ j : Nat, i = (j : Int) := ⟨i.toNat, by omega⟩
   refine co_enter (n := 96) Try.func30 rfl rfl rfl [(0, pt b 0), (1, .int .i64 ((j : Nat) : Int)), (2, .agg #[.int .i64 c, .int .i64 r, v, .int .u64 ts])] rfl (fun a h0 => ?_)
   refine co_seq ?_
   refine co_reg ?_
   refine pw h0 rfl (op_new (v := fun N => pt N 0) (T := 37) (cs := #[.int .i64 c, .int .i64 r, v, .int .u64 ts]) (by kernel_rfl) (by kernel_rfl) (by kernel_rfl)) ?_; clear h0
   rintro _ w41 a40 ⟨N42, rfl, hN45, hz46, hk44, hg43⟩ h40
   have ha47 := row_fresh hO.row hN45
   have hu48 := row_under hO.row hN45
   have hz49 := hg43.size
   try dsimp only at h40
   refine pk0 (v := .int .i64 0) h40 rfl fun a50 h50 => ?_; clear h40
   refine pl_nil ?_
   refine co_then ?_
   refine co_seq ?_
   refine co_seq ?_
   refine co_reg ?_
   refine pk0 (v := pt b 0) h50 rfl fun a51 h51 => ?_; clear h50
   have hk54 := hO.blk.kept hg43 (by simp)
   refine pw h51 rfl (op_call (args := #[pt b 0]) (R := fun res xw => res = .bool false ∧ w41 = xw) rfl rfl rfl (by kernel_rfl) (by kernel_rfl) (Try.call39 _ _) (lzero_any b M u w41 hk54) (by rintro e x ⟨rfl, rfl⟩; exact ⟨_, rfl, ⟨rfl, rfl⟩⟩)) ?_; clear h51
   rintro _ _ a52 ⟨rfl, rfl⟩ h52
   refine pl_nil ?_
   refine co_then ?_
   refine co_false h52 rfl ?_
   refine wp_skip ?_
   refine co_then ?_
   refine co_seq ?_
   refine co_seq ?_
   refine co_reg ?_
   refine pk0 (v := .int .i64 ((j : Nat) : Int)) h52 rfl fun a56 h56 => ?_; clear h52
   refine pk0 (v := .bool (decide (((j : Nat) : Int) < 0))) h56 rfl fun a57 h57 => ?_; clear h56
   refine pk0 (v := .bool (decide (((j : Nat) : Int) < 0))) h57 rfl fun a58 h58 => ?_; clear h57
   have hc59 : (decide (((j : Nat) : Int) < 0)) = false := decide_eq_false (by omega)
   rw [hc59] at h58; clear hc59
   refine pk0 (v := .int .i64 ((j : Nat) : Int)) h58 rfl fun a60 h60 => ?_; clear h58
   refine pk0 (v := pt b 0) h60 rfl fun a61 h61 => ?_; clear h60
   refine pk0 (v := pt b 0) h61 rfl fun a62 h62 => ?_; clear h61
   refine pk0 (v := pt b 1) h62 rfl fun a63 h63 => ?_; clear h62
   refine pk (v := u) h63 rfl (rn_load1 rfl rfl Try.isAgg29 (hk54.cell rfl)) fun a64 h64 => ?_; clear h63
   have hr65 := row_kept_new hO.row hg43
   refine pk (v := .int .i64 ((L.length : Nat) : Int)) h64 rfl (rn_lenOwn rfl rfl Try.underlying29 hr65) fun a66 h66 => ?_; clear h64
   refine pk0 (v := .bool (decide (((j : Nat) : Int) > ((L.length : Nat) : Int)))) h66 rfl fun a67 h67 => ?_; clear h66
   refine pk0 (v := .bool (decide (((j : Nat) : Int) > ((L.length : Nat) : Int)))) h67 rfl fun a68 h68 => ?_; clear h67
   refine pl_nil ?_
   refine co_then ?_
   have hB70 := fbU_new hB0 hg43
   cases hc69 : (decide (((j : Nat) : Int) > ((L.length : Nat) : Int)))
   ·
    rw [hc69] at h68
    have hp71 : ¬ (((j : Nat) : Int) > ((L.length : Nat) : Int)) := of_decide_eq_false hc69
    clear hc69
    refine co_false h68 rfl ?_
    refine wp_skip ?_
    refine co_then ?_
    refine co_seq ?_
    refine co_seq ?_
    refine co_reg ?_
    refine pk (v := .agg #[.int .i64 c, .int .i64 r, v, .int .u64 ts]) h68 rfl (rn_loadN rfl rfl Try.underlying37 rfl (by kernel_rfl) hk44.all) fun a72 h72 => ?_; clear h68
    refine pw h72 rfl (op_call (args := #[.agg #[.int .i64 c, .int .i64 r, v, .int .u64 ts]]) (R := fun res xw => res = .int .i64 (chkB c r l) ∧ Below w41.heap.size w41 xw) rfl rfl rfl (by kernel_rfl) (by kernel_rfl) (Try.call57 _ _) (itemCheck_any c r v l ts w41 (sl_butN hs hB70 hvS)) (by rintro e x ⟨rfl, hb75⟩; exact ⟨_, rfl, ⟨rfl, hb75⟩⟩)) ?_; clear h72
    rintro _ w74 a73 ⟨rfl, hb75⟩ h73
    have hz76 := hb75.size
    refine pk0 (v := .int .i64 (chkB c r l)) h73 rfl fun a77 h77 => ?_; clear h73
    refine pl_nil ?_
    refine co_then ?_
    refine co_seq ?_
    refine co_reg ?_
    refine pk0 (v := .int .i64 (chkB c r l)) h77 rfl fun a78 h78 => ?_; clear h77
    refine pk0 (v := .bool (chkB c r l != 0)) h78 rfl fun a79 h79 => ?_; clear h78
    refine pl_nil ?_
    refine co_then ?_
    have hB81 := fbU_call hB70 hb75
    have hM82 := hm2.kept hg43 (by simp)
    have hM83 := hM82.kept (below_grown hb75) (by simp)
    have hE84 := hO.ents.new hg43
    have hE85 := hE84.new (below_grown hb75)
    cases hc80 : (chkB c r l != 0)
    ·
     rw [hc80] at h79
     have hp86 : ¬ (chkB c r l ≠ 0) := by first | simpa using hc80 | simpa [and_assoc] using hc80
     clear hc80
     refine co_false h79 rfl ?_
     refine wp_skip ?_
     refine co_then ?_
     refine co_seq ?_
     refine co_seq ?_
     refine co_reg ?_
     refine pk0 (v := .int .i64 ((j : Nat) : Int)) h79 rfl fun a87 h87 => ?_; clear h79
     refine pk0 (v := .bool (decide (((j : Nat) : Int) ≥ 100))) h87 rfl fun a88 h88 => ?_; clear h87
     refine pl_nil ?_
     refine co_then ?_
     cases hc89 : (decide (((j : Nat) : Int) ≥ 100))
     ·
      rw [hc89] at h88
      have hp90 : ¬ (((j : Nat) : Int) ≥ 100) := of_decide_eq_false hc89
      clear hc89
      refine co_false h88 rfl ?_
      refine wp_skip ?_
      refine co_then ?_
      refine co_cut (fun a x => ∃ (tb : Bool) (tf : Int) (N : Nat), Slots 96 [(0, pt b 0), (1, .int .i64 ((j : Nat) : Int)), (5, pt N42 0), (8, pt N 0), (9, .bool tb)] a ∧ ((findN L (c, r)).isSome = tb) ∧ ((findN L (c, r)).getD 0 = tf) ∧ (w0.heap.size ≤ N) ∧ x.ownsRow 0 37 4 u L.length (L.flatMap entE) ∧ EntsK S w0.heap.size x L ∧ Blk x b 68 #[.bool true, u, .map (some M)] ∧ Blk x N42 37 #[.int .i64 c, .int .i64 r, v, .int .u64 ts] ∧ Blk x N 109 #[.int .i64 tf] ∧ MapO arr2K spotV x M (findN L) c1 ∧ But (S) w0 x) ?_ ?_
      ·
       refine dr_gen (fun x => But (S) w0 x ∧ Blk x b 68 #[.bool true, u, .map (some M)] ∧ Blk x N42 37 #[.int .i64 c, .int .i64 r, v, .int .u64 ts]) (by kernel_rfl) (fun w91 hg92 => ?_) (fun w91 hg92 => ?_)
       ·
        have hz93 := hg92.size
        have hB94 := fbU_new hB81 hg92
        have hk95 := hk54.below hb75
        have hk96 := hk95.kept hg92 (by simp)
        have hk97 := hk44.below hb75
        have hk98 := hk97.kept hg92 (by simp)
        exact ⟨hB94, hk96, hk98⟩
       have hz99 := hg92.size
       have hB100 := fbU_new hB81 hg92
       have hk101 := hk54.below hb75
       have hk102 := hk101.kept hg92 (by simp)
       have hk103 := hk44.below hb75
       have hk104 := hk103.kept hg92 (by simp)
       refine dk0 0 (v := pt b 0) h88 rfl rfl ⟨hB100, hk102, hk104⟩ fun a105 h105 => ?_; clear h88
       refine dk0 1 (v := pt b 0) h105 rfl rfl ⟨hB100, hk102, hk104⟩ fun a106 h106 => ?_; clear h105
       refine dk0 2 (v := pt b 2) h106 rfl rfl ⟨hB100, hk102, hk104⟩ fun a107 h107 => ?_; clear h106
       refine dk 3 (v := .map (some M)) h107 rfl rfl ⟨hB100, hk102, hk104⟩ (fun x hx => (rn_load1 rfl rfl Try.isAgg66 (hx.2.1.cell rfl))) fun a108 h108 => ?_; clear h107
       refine dk 4 (v := .agg #[.int .i64 c, .int .i64 r, v, .int .u64 ts]) h108 rfl rfl ⟨hB100, hk102, hk104⟩ (fun x hx => (rn_loadN rfl rfl Try.underlying37 rfl (by kernel_rfl) hx.2.2.all)) fun a109 h109 => ?_; clear h108
       refine dr_many [5, 10] (by kernel_rfl) (by simp) ⟨?_, ?_, trivial⟩
       ·
        refine dr_op (i := 5) h109 rfl rfl rfl rfl (op_call (args := #[.agg #[.int .i64 c, .int .i64 r, v, .int .u64 ts]]) (R := fun res xw => res = .agg #[.int .i64 c, .int .i64 r] ∧ Below w91.heap.size w91 xw) rfl rfl rfl (by kernel_rfl) (by kernel_rfl) (Try.call58 _ _) (lname_any c r v ts w91 ) (by rintro e x ⟨rfl, hb112⟩; exact ⟨_, rfl, ⟨rfl, hb112⟩⟩)) ?_ ?_; clear h109
        ·
         rintro _ w111 ⟨rfl, hb112⟩
         have hz113 := hb112.size
         have hB114 := fbU_call hB100 hb112
         have hk115 := hk102.below hb112
         have hk116 := hk104.below hb112
         exact ⟨hB114, hk115, hk116⟩
        rintro _ w111 a110 ⟨rfl, hb112⟩ h110
        have hz113 := hb112.size
        have hB114 := fbU_call hB100 hb112
        have hk115 := hk102.below hb112
        have hk116 := hk104.below hb112
        refine dr_many [6, 10] (by kernel_rfl) (by simp) ⟨?_, ?_, trivial⟩
        ·
         have hM121 := hM83.kept hg92 (by simp)
         have hM122 := hM121.kept (below_grown hb112) (by simp)
         obtain ⟨f117, hf118⟩ : ∃ z, ((findN L) (c, r)).getD (0 : Int) = z := ⟨_, rfl⟩
         obtain ⟨b119, hb120⟩ : ∃ z, ((findN L) (c, r)).isSome = z := ⟨_, rfl⟩
         refine dr_opVal (i := 6) (v := .tuple #[.agg #[.int .i64 f117], .bool b119]) h110 rfl rfl rfl rfl (by kernel_rfl) rfl (rn_lookOT (a := (c, r)) (f := f117) (b := b119) nm_kl rfl rfl rfl Try.underlying66 spot_z hM122 hf118 hb120) ⟨hB114, hk115, hk116⟩ (fun a123 h123 => ?_); clear h110
         refine dk0 7 (v := .tuple #[.agg #[.int .i64 f117], .bool b119]) h123 rfl rfl ⟨hB114, hk115, hk116⟩ fun a124 h124 => ?_; clear h123
         refine dk0 8 (v := .agg #[.int .i64 f117]) h124 rfl rfl ⟨hB114, hk115, hk116⟩ fun a125 h125 => ?_; clear h124
         refine dk0 9 (v := .bool b119) h125 rfl rfl ⟨hB114, hk115, hk116⟩ fun a126 h126 => ?_; clear h125
         refine d1 10 h126 rfl rfl (op_new (v := fun N => pt N 0) (T := 109) (cs := #[.int .i64 0]) (by kernel_rfl) (by kernel_rfl) (by kernel_rfl)) ?_ ?_; clear h126
         ·
          rintro _ w128 ⟨N129, rfl, hN132, hz133, hk131, hg130⟩
          have hr135 := row_kept_new hr65 (below_grown hb75)
          have hr136 := row_kept_new hr135 hg92
          have hr137 := row_kept_new hr136 (below_grown hb112)
          have ha134 := row_fresh hr137 hN132
          have hu138 := row_under hr137 hN132
          have hz139 := hg130.size
          have hB140 := fbU_new hB114 hg130
          have hk141 := hk115.kept hg130 (by simp)
          have hk142 := hk116.kept hg130 (by simp)
          exact ⟨hB140, hk141, hk142⟩
         rintro _ w128 a127 ⟨N129, rfl, hN132, hz133, hk131, hg130⟩ h127
         have hr135 := row_kept_new hr65 (below_grown hb75)
         have hr136 := row_kept_new hr135 hg92
         have hr137 := row_kept_new hr136 (below_grown hb112)
         have ha134 := row_fresh hr137 hN132
         have hu138 := row_under hr137 hN132
         have hz139 := hg130.size
         try dsimp only at h127
         have hB140 := fbU_new hB114 hg130
         have hk141 := hk115.kept hg130 (by simp)
         have hk142 := hk116.kept hg130 (by simp)
         refine d1D 11 h127 rfl rfl (op_storeN rfl rfl rfl (by kernel_rfl) (by kernel_rfl) hk131 rfl) ?_ ?_; clear h127
         ·
          rintro _ w144 ⟨hk145, hz146, hg147⟩
          have hk145' : Blk w144 N129 109 #[.int .i64 f117] := hk145; clear hk145
          have hz148 := hg147.size
          have hB149 := fbU_at hB140 hg147 (fun hlt => absurd hlt (by omega))
          have hk150 := hk141.kept hg147 (by simp; omega)
          have hk151 := hk142.kept hg147 (by simp; omega)
          exact ⟨hB149, hk150, hk151⟩
         rintro _ w144 a143 ⟨hk145, hz146, hg147⟩ h143
         have hk145' : Blk w144 N129 109 #[.int .i64 f117] := hk145; clear hk145
         have hz148 := hg147.size
         have hB149 := fbU_at hB140 hg147 (fun hlt => absurd hlt (by omega))
         have hk150 := hk141.kept hg147 (by simp; omega)
         have hk151 := hk142.kept hg147 (by simp; omega)
         refine dk0 12 (v := .bool b119) h143 rfl rfl ⟨hB149, hk150, hk151⟩ fun a152 h152 => ?_; clear h143
         refine dr_done (by kernel_rfl) ?_
         refine co_then ?_
         have hr153 := row_kept_new hr137 hg130
         have hr154 := row_kept_at hr153 hg147 (ha134)
         have hE155 := hE85.new hg92
         have hE156 := hE155.new (below_grown hb112)
         have hE157 := hE156.new hg130
         have hE158 := hE157.blk hk131 (by decide) hg147
         have hM159 := hM122.kept hg130 (by simp)
         have hM160 := hM159.kept hg147 (by simp; omega)
         exact ⟨b119, f117, N129, h152.sub ⟨rfl, rfl, rfl, rfl, rfl, trivial⟩, by first | exact hb120, by assumption, by omega, hr154, hE158, hk150, hk151, hk145', hM160, hB149⟩
        ·
         refine dr_op (i := 10) h110 rfl rfl rfl rfl (op_new (v := fun N => pt N 0) (T := 109) (cs := #[.int .i64 0]) (by kernel_rfl) (by kernel_rfl) (by kernel_rfl)) ?_ ?_; clear h110
         ·
          rintro _ w162 ⟨N163, rfl, hN166, hz167, hk165, hg164⟩
          have hr169 := row_kept_new hr65 (below_grown hb75)
          have hr170 := row_kept_new hr169 hg92
          have hr171 := row_kept_new hr170 (below_grown hb112)
          have ha168 := row_fresh hr171 hN166
          have hu172 := row_under hr171 hN166
          have hz173 := hg164.size
          have hB174 := fbU_new hB114 hg164
          have hk175 := hk115.kept hg164 (by simp)
          have hk176 := hk116.kept hg164 (by simp)
          exact ⟨hB174, hk175, hk176⟩
         rintro _ w162 a161 ⟨N163, rfl, hN166, hz167, hk165, hg164⟩ h161
         have hr169 := row_kept_new hr65 (below_grown hb75)
         have hr170 := row_kept_new hr169 hg92
         have hr171 := row_kept_new hr170 (below_grown hb112)
         have ha168 := row_fresh hr171 hN166
         have hu172 := row_under hr171 hN166
         have hz173 := hg164.size
         try dsimp only at h161
         have hB174 := fbU_new hB114 hg164
         have hk175 := hk115.kept hg164 (by simp)
         have hk176 := hk116.kept hg164 (by simp)
         refine dr_many [6] (by kernel_rfl) (by simp) ⟨?_, trivial⟩
         ·
          have hM181 := hM83.kept hg92 (by simp)
          have hM182 := hM181.kept (below_grown hb112) (by simp)
          have hM183 := hM182.kept hg164 (by simp)
          obtain ⟨f177, hf178⟩ : ∃ z, ((findN L) (c, r)).getD (0 : Int) = z := ⟨_, rfl⟩
          obtain ⟨b179, hb180⟩ : ∃ z, ((findN L) (c, r)).isSome = z := ⟨_, rfl⟩
          refine dr_opVal (i := 6) (v := .tuple #[.agg #[.int .i64 f177], .bool b179]) h161 rfl rfl rfl rfl (by kernel_rfl) rfl (rn_lookOT (a := (c, r)) (f := f177) (b := b179) nm_kl rfl rfl rfl Try.underlying66 spot_z hM183 hf178 hb180) ⟨hB174, hk175, hk176⟩ (fun a184 h184 => ?_); clear h161
          refine dk0 7 (v := .tuple #[.agg #[.int .i64 f177], .bool b179]) h184 rfl rfl ⟨hB174, hk175, hk176⟩ fun a185 h185 => ?_; clear h184
          refine dk0 8 (v := .agg #[.int .i64 f177]) h185 rfl rfl ⟨hB174, hk175, hk176⟩ fun a186 h186 => ?_; clear h185
          refine dk0 9 (v := .bool b179) h186 rfl rfl ⟨hB174, hk175, hk176⟩ fun a187 h187 => ?_; clear h186
          refine d1D 11 h187 rfl rfl (op_storeN rfl rfl rfl (by kernel_rfl) (by kernel_rfl) hk165 rfl) ?_ ?_; clear h187
          ·
           rintro _ w189 ⟨hk190, hz191, hg192⟩
           have hk190' : Blk w189 N163 109 #[.int .i64 f177] := hk190; clear hk190
           have hz193 := hg192.size
           have hB194 := fbU_at hB174 hg192 (fun hlt => absurd hlt (by omega))
           have hk195 := hk175.kept hg192 (by simp; omega)
           have hk196 := hk176.kept hg192 (by simp; omega)
           exact ⟨hB194, hk195, hk196⟩
          rintro _ w189 a188 ⟨hk190, hz191, hg192⟩ h188
          have hk190' : Blk w189 N163 109 #[.int .i64 f177] := hk190; clear hk190
          have hz193 := hg192.size
          have hB194 := fbU_at hB174 hg192 (fun hlt => absurd hlt (by omega))
          have hk195 := hk175.kept hg192 (by simp; omega)
          have hk196 := hk176.kept hg192 (by simp; omega)
          refine dk0 12 (v := .bool b179) h188 rfl rfl ⟨hB194, hk195, hk196⟩ fun a197 h197 => ?_; clear h188
          refine dr_done (by kernel_rfl) ?_
          refine co_then ?_
          have hr198 := row_kept_new hr171 hg164
          have hr199 := row_kept_at hr198 hg192 (ha168)
          have hE200 := hE85.new hg92
          have hE201 := hE200.new (below_grown hb112)
          have hE202 := hE201.new hg164
          have hE203 := hE202.blk hk165 (by decide) hg192
          have hM204 := hM183.kept hg192 (by simp; omega)
          exact ⟨b179, f177, N163, h197.sub ⟨rfl, rfl, rfl, rfl, rfl, trivial⟩, by first | exact hb180, by assumption, by omega, hr199, hE203, hk195, hk196, hk190', hM204, hB194⟩
       ·
        refine dr_op (i := 10) h109 rfl rfl rfl rfl (op_new (v := fun N => pt N 0) (T := 109) (cs := #[.int .i64 0]) (by kernel_rfl) (by kernel_rfl) (by kernel_rfl)) ?_ ?_; clear h109
        ·
         rintro _ w206 ⟨N207, rfl, hN210, hz211, hk209, hg208⟩
         have hr213 := row_kept_new hr65 (below_grown hb75)
         have hr214 := row_kept_new hr213 hg92
         have ha212 := row_fresh hr214 hN210
         have hu215 := row_under hr214 hN210
         have hz216 := hg208.size
         have hB217 := fbU_new hB100 hg208
         have hk218 := hk102.kept hg208 (by simp)
         have hk219 := hk104.kept hg208 (by simp)
         exact ⟨hB217, hk218, hk219⟩
        rintro _ w206 a205 ⟨N207, rfl, hN210, hz211, hk209, hg208⟩ h205
        have hr213 := row_kept_new hr65 (below_grown hb75)
        have hr214 := row_kept_new hr213 hg92
        have ha212 := row_fresh hr214 hN210
        have hu215 := row_under hr214 hN210
        have hz216 := hg208.size
        try dsimp only at h205
        have hB217 := fbU_new hB100 hg208
        have hk218 := hk102.kept hg208 (by simp)
        have hk219 := hk104.kept hg208 (by simp)
        refine d1 5 h205 rfl rfl (op_call (args := #[.agg #[.int .i64 c, .int .i64 r, v, .int .u64 ts]]) (R := fun res xw => res = .agg #[.int .i64 c, .int .i64 r] ∧ Below w206.heap.size w206 xw) rfl rfl rfl (by kernel_rfl) (by kernel_rfl) (Try.call58 _ _) (lname_any c r v ts w206 ) (by rintro e x ⟨rfl, hb222⟩; exact ⟨_, rfl, ⟨rfl, hb222⟩⟩)) ?_ ?_; clear h205
        ·
         rintro _ w221 ⟨rfl, hb222⟩
         have hz223 := hb222.size
         have hB224 := fbU_call hB217 hb222
         have hk225 := hk218.below hb222
         have hk226 := hk219.below hb222
         exact ⟨hB224, hk225, hk226⟩
        rintro _ w221 a220 ⟨rfl, hb222⟩ h220
        have hz223 := hb222.size
        have hB224 := fbU_call hB217 hb222
        have hk225 := hk218.below hb222
        have hk226 := hk219.below hb222
        refine dr_many [6] (by kernel_rfl) (by simp) ⟨?_, trivial⟩
        ·
         have hM231 := hM83.kept hg92 (by simp)
         have hM232 := hM231.kept hg208 (by simp)
         have hM233 := hM232.kept (below_grown hb222) (by simp)
         obtain ⟨f227, hf228⟩ : ∃ z, ((findN L) (c, r)).getD (0 : Int) = z := ⟨_, rfl⟩
         obtain ⟨b229, hb230⟩ : ∃ z, ((findN L) (c, r)).isSome = z := ⟨_, rfl⟩
         refine dr_opVal (i := 6) (v := .tuple #[.agg #[.int .i64 f227], .bool b229]) h220 rfl rfl rfl rfl (by kernel_rfl) rfl (rn_lookOT (a := (c, r)) (f := f227) (b := b229) nm_kl rfl rfl rfl Try.underlying66 spot_z hM233 hf228 hb230) ⟨hB224, hk225, hk226⟩ (fun a234 h234 => ?_); clear h220
         refine dk0 7 (v := .tuple #[.agg #[.int .i64 f227], .bool b229]) h234 rfl rfl ⟨hB224, hk225, hk226⟩ fun a235 h235 => ?_; clear h234
         refine dk0 8 (v := .agg #[.int .i64 f227]) h235 rfl rfl ⟨hB224, hk225, hk226⟩ fun a236 h236 => ?_; clear h235
         refine dk0 9 (v := .bool b229) h236 rfl rfl ⟨hB224, hk225, hk226⟩ fun a237 h237 => ?_; clear h236
         have hk243 := hk209.below hb222
         refine d1D 11 h237 rfl rfl (op_storeN rfl rfl rfl (by kernel_rfl) (by kernel_rfl) hk243 rfl) ?_ ?_; clear h237
         ·
          rintro _ w239 ⟨hk240, hz241, hg242⟩
          have hk240' : Blk w239 N207 109 #[.int .i64 f227] := hk240; clear hk240
          have hz244 := hg242.size
          have hB245 := fbU_at hB224 hg242 (fun hlt => absurd hlt (by omega))
          have hk246 := hk225.kept hg242 (by simp; omega)
          have hk247 := hk226.kept hg242 (by simp; omega)
          exact ⟨hB245, hk246, hk247⟩
         rintro _ w239 a238 ⟨hk240, hz241, hg242⟩ h238
         have hk240' : Blk w239 N207 109 #[.int .i64 f227] := hk240; clear hk240
         have hz244 := hg242.size
         have hB245 := fbU_at hB224 hg242 (fun hlt => absurd hlt (by omega))
         have hk246 := hk225.kept hg242 (by simp; omega)
         have hk247 := hk226.kept hg242 (by simp; omega)
         refine dk0 12 (v := .bool b229) h238 rfl rfl ⟨hB245, hk246, hk247⟩ fun a248 h248 => ?_; clear h238
         refine dr_done (by kernel_rfl) ?_
         refine co_then ?_
         have hr249 := row_kept_new hr214 hg208
         have hr250 := row_kept_new hr249 (below_grown hb222)
         have hr251 := row_kept_at hr250 hg242 (ha212)
         have hE252 := hE85.new hg92
         have hE253 := hE252.new hg208
         have hE254 := hE253.new (below_grown hb222)
         have hE255 := hE254.blk hk243 (by decide) hg242
         have hM256 := hM233.kept hg242 (by simp; omega)
         exact ⟨b229, f227, N207, h248.sub ⟨rfl, rfl, rfl, rfl, rfl, trivial⟩, by first | exact hb230, by assumption, by omega, hr251, hE255, hk246, hk247, hk240', hM256, hB245⟩
      rintro a257 w258 ⟨tb, tf, N, h257, hi259, hi260, hi261, hf262, hf263, hf264, hf265, hf266, hf267, hB268⟩
      have hz269 := hB268.size
      have hl270 := hf264.lt
      have hl271 := hf265.lt
      have hl272 := hf266.lt
      have hl273 := hf267.lt
      refine co_seq ?_
      refine co_seq ?_
      refine co_reg ?_
      refine pk0 (v := .bool tb) h257 rfl fun a274 h274 => ?_; clear h257
      refine pk0 (v := .bool tb) h274 rfl fun a275 h275 => ?_; clear h274
      cases hc276 : (tb)
      ·
       rw [hc276] at h275
       refine psk h275 rfl fun a277 h277 => ?_; clear h275
       refine psk h277 rfl fun a278 h278 => ?_; clear h277
       refine psk h278 rfl fun a279 h279 => ?_; clear h278
       refine psk h279 rfl fun a280 h280 => ?_; clear h279
       refine pk0 (v := .bool false) h280 rfl fun a281 h281 => ?_; clear h280
       refine pl_nil ?_
       refine co_then ?_
       refine co_false h281 rfl ?_
       refine wp_skip ?_
       refine co_then ?_
       refine co_seq ?_
       refine co_seq ?_
       refine dr_eq (by kernel_rfl) (fun w282 hg283 => ?_)
       have hz284 := hg283.size
       refine dk0 0 (v := pt N42 3) h281 rfl rfl rfl fun a285 h285 => ?_; clear h281
       have hk286 := hf265.kept hg283 (by simp)
       refine dk 1 (v := .int .u64 ts) h285 rfl rfl rfl (fun x hx => by subst hx; exact (rn_load1 rfl rfl Try.isAgg23 (hk286.cell rfl))) fun a287 h287 => ?_; clear h285
       refine dk0 2 (v := .bool (ts != 0)) h287 rfl rfl rfl fun a288 h288 => ?_; clear h287
       refine dk0 3 (v := .bool (ts != 0)) h288 rfl rfl rfl fun a289 h289 => ?_; clear h288
       have hB291 := fbU_new hB268 hg283
       cases hc290 : (ts != 0)
       ·
        rw [hc290] at h289
        have hp292 : ¬ (ts ≠ 0) := by first | simpa using hc290 | simpa [and_assoc] using hc290
        clear hc290
        refine dsk 4 h289 rfl rfl rfl fun a293 h293 => ?_; clear h289
        refine dsk 5 h293 rfl rfl rfl fun a294 h294 => ?_; clear h293
        refine dk0 6 (v := .bool false) h294 rfl rfl rfl fun a295 h295 => ?_; clear h294
        refine dk0 7 (v := .bool false) h295 rfl rfl rfl fun a296 h296 => ?_; clear h295
        refine dsk 8 h296 rfl rfl rfl fun a297 h297 => ?_; clear h296
        refine dsk 9 h297 rfl rfl rfl fun a298 h298 => ?_; clear h297
        refine dsk 10 h298 rfl rfl rfl fun a299 h299 => ?_; clear h298
        refine dsk 11 h299 rfl rfl rfl fun a300 h300 => ?_; clear h299
        refine dsk 12 h300 rfl rfl rfl fun a301 h301 => ?_; clear h300
        refine dsk 13 h301 rfl rfl rfl fun a302 h302 => ?_; clear h301
        refine dsk 14 h302 rfl rfl rfl fun a303 h303 => ?_; clear h302
        refine dsk 15 h303 rfl rfl rfl fun a304 h304 => ?_; clear h303
        refine dsk 16 h304 rfl rfl rfl fun a305 h305 => ?_; clear h304
        refine dsk 17 h305 rfl rfl rfl fun a306 h306 => ?_; clear h305
        refine dsk 18 h306 rfl rfl rfl fun a307 h307 => ?_; clear h306
        refine dsk 19 h307 rfl rfl rfl fun a308 h308 => ?_; clear h307
        refine dsk 20 h308 rfl rfl rfl fun a309 h309 => ?_; clear h308
        refine dsk 21 h309 rfl rfl rfl fun a310 h310 => ?_; clear h309
        refine dsk 22 h310 rfl rfl rfl fun a311 h311 => ?_; clear h310
        refine dsk 23 h311 rfl rfl rfl fun a312 h312 => ?_; clear h311
        refine dsk 24 h312 rfl rfl rfl fun a313 h313 => ?_; clear h312
        refine dsk 25 h313 rfl rfl rfl fun a314 h314 => ?_; clear h313
        refine dsk 26 h314 rfl rfl rfl fun a315 h315 => ?_; clear h314
        refine dsk 27 h315 rfl rfl rfl fun a316 h316 => ?_; clear h315
        refine dsk 28 h316 rfl rfl rfl fun a317 h317 => ?_; clear h316
        refine dsk 29 h317 rfl rfl rfl fun a318 h318 => ?_; clear h317
        refine dsk 30 h318 rfl rfl rfl fun a319 h319 => ?_; clear h318
        refine dsk 31 h319 rfl rfl rfl fun a320 h320 => ?_; clear h319
        refine dk0 32 (v := .bool false) h320 rfl rfl rfl fun a321 h321 => ?_; clear h320
        refine dr_done (by kernel_rfl) ?_
        refine co_then ?_
        refine co_false h321 rfl ?_
        refine wp_skip ?_
        refine co_then ?_
        refine co_seq ?_
        refine co_seq ?_
        refine co_reg ?_
        refine pk0 (v := .bool false) h321 rfl fun a322 h322 => ?_; clear h321
        refine pk0 (v := .bool false) h322 rfl fun a323 h323 => ?_; clear h322
        refine psk h323 rfl fun a324 h324 => ?_; clear h323
        refine psk h324 rfl fun a325 h325 => ?_; clear h324
        refine psk h325 rfl fun a326 h326 => ?_; clear h325
        refine psk h326 rfl fun a327 h327 => ?_; clear h326
        refine pk0 (v := .bool false) h327 rfl fun a328 h328 => ?_; clear h327
        refine pl_nil ?_
        refine co_then ?_
        refine co_false h328 rfl ?_
        refine co_reg ?_
        refine pk0 (v := pt b 0) h328 rfl fun a329 h329 => ?_; clear h328
        refine pk0 (v := .int .i64 ((j : Nat) : Int)) h329 rfl fun a330 h330 => ?_; clear h329
        refine pk (v := .agg #[.int .i64 c, .int .i64 r, v, .int .u64 ts]) h330 rfl (rn_loadN rfl rfl Try.underlying37 rfl (by kernel_rfl) hk286.all) fun a331 h331 => ?_; clear h330
        have hbad : badT (L.take ((j : Int) : Int).toNat) (EntT.mk c r (.slice none 0 0) l ts) = false := by first | exact bad_ts (by simp only []; omega) | exact badM_0 (by omega)
        have hnn := setE_n (i := ((j : Nat) : Int)) (by omega) (by assumption : (findN L (c, r)).getD 0 = _) (by first | exact .inl (hi259.trans hc276) | exact .inr (by omega))
        have hM338 := hf267.kept hg283 (by simp)
        have hr339 := row_kept_new hf262 hg283
        have hE340 := hf263.new hg283
        have hk341 := hf264.kept hg283 (by simp)
        refine pw h331 rfl (op_call (args := #[pt b 0, .int .i64 ((j : Nat) : Int), .agg #[.int .i64 c, .int .i64 r, v, .int .u64 ts]]) (R := fun res xw => ∃ u2 v2, res = .tuple #[] ∧ LgP S w0.heap.size xw b M u2 (L.take ((j : Nat) : Int).toNat ++ [EntT.mk c r v2 l ts]) ∧ But (S) w0 xw) rfl rfl rfl (by kernel_rfl) (by kernel_rfl) (Try.call60 _ _) (lreplace_any w0 S b M u L ((j : Nat) : Int) c r v l ts w282 hB291 ⟨hk341, ⟨_, hM338⟩, hr339, hE340, hO.sb, hO.sM, hO.su, hO.uq, hO.len⟩ (by omega) hnn hs hvS hlen hts hen) (by rintro e x ⟨u2, v2, rfl, h1, _, h2⟩; exact ⟨_, rfl, u2, v2, rfl, h1, h2⟩)) ?_; clear h331
        rintro _ w333 a332 ⟨u336, v337, rfl, hO334, hB335⟩ h332
        refine pl_nil ?_
        refine co_then ?_
        refine co_seq ?_
        refine co_reg ?_
        refine pk0 (v := .int .i64 0) h332 rfl fun a342 h342 => ?_; clear h332
        refine pl_nil ?_
        refine co_then ?_
        refine wp_ret ?_
        refine co_ret1 h342 rfl rfl ?_
        have hb0 : badT (L.take ((j : Int) : Int).toNat) (EntT.mk c r (.slice none 0 0) l ts) = false := hbad
        have hE := setE_f (i := (j : Int)) (v := .slice none 0 0) (by omega) (by omega) (by omega) hnn hb0
        exact ⟨_, _, ret_int hE.symm, hO334, .inr ⟨hE, .inr ⟨findN_off (by assumption : (findN L (c, r)).getD 0 = _) hnn (by first | exact .inl (hi259.trans hc276) | exact .inr (by omega)), _, rfl⟩⟩, hB335⟩
       ·
        rw [hc290] at h289
        have hp343 : ts ≠ 0 := by first | simpa using hc290 | simpa [and_assoc] using hc290
        clear hc290
        refine dk0 4 (v := .int .i64 ((j : Nat) : Int)) h289 rfl rfl rfl fun a344 h344 => ?_; clear h289
        refine dk0 5 (v := .bool (decide (((j : Nat) : Int) > 0))) h344 rfl rfl rfl fun a345 h345 => ?_; clear h344
        refine dk0 6 (v := .bool (decide (((j : Nat) : Int) > 0))) h345 rfl rfl rfl fun a346 h346 => ?_; clear h345
        refine dk0 7 (v := .bool (decide (((j : Nat) : Int) > 0))) h346 rfl rfl rfl fun a347 h347 => ?_; clear h346
        cases hc348 : (decide (((j : Nat) : Int) > 0))
        ·
         rw [hc348] at h347
         have hp349 : ¬ (((j : Nat) : Int) > 0) := of_decide_eq_false hc348
         clear hc348
         refine dsk 8 h347 rfl rfl rfl fun a350 h350 => ?_; clear h347
         refine dsk 9 h350 rfl rfl rfl fun a351 h351 => ?_; clear h350
         refine dsk 10 h351 rfl rfl rfl fun a352 h352 => ?_; clear h351
         refine dsk 11 h352 rfl rfl rfl fun a353 h353 => ?_; clear h352
         refine dsk 12 h353 rfl rfl rfl fun a354 h354 => ?_; clear h353
         refine dsk 13 h354 rfl rfl rfl fun a355 h355 => ?_; clear h354
         refine dsk 14 h355 rfl rfl rfl fun a356 h356 => ?_; clear h355
         refine dsk 15 h356 rfl rfl rfl fun a357 h357 => ?_; clear h356
         refine dsk 16 h357 rfl rfl rfl fun a358 h358 => ?_; clear h357
         refine dsk 17 h358 rfl rfl rfl fun a359 h359 => ?_; clear h358
         refine dsk 18 h359 rfl rfl rfl fun a360 h360 => ?_; clear h359
         refine dsk 19 h360 rfl rfl rfl fun a361 h361 => ?_; clear h360
         refine dsk 20 h361 rfl rfl rfl fun a362 h362 => ?_; clear h361
         refine dsk 21 h362 rfl rfl rfl fun a363 h363 => ?_; clear h362
         refine dsk 22 h363 rfl rfl rfl fun a364 h364 => ?_; clear h363
         refine dsk 23 h364 rfl rfl rfl fun a365 h365 => ?_; clear h364
         refine dsk 24 h365 rfl rfl rfl fun a366 h366 => ?_; clear h365
         refine dsk 25 h366 rfl rfl rfl fun a367 h367 => ?_; clear h366
         refine dsk 26 h367 rfl rfl rfl fun a368 h368 => ?_; clear h367
         refine dsk 27 h368 rfl rfl rfl fun a369 h369 => ?_; clear h368
         refine dsk 28 h369 rfl rfl rfl fun a370 h370 => ?_; clear h369
         refine dsk 29 h370 rfl rfl rfl fun a371 h371 => ?_; clear h370
         refine dsk 30 h371 rfl rfl rfl fun a372 h372 => ?_; clear h371
         refine dsk 31 h372 rfl rfl rfl fun a373 h373 => ?_; clear h372
         refine dk0 32 (v := .bool false) h373 rfl rfl rfl fun a374 h374 => ?_; clear h373
         refine dr_done (by kernel_rfl) ?_
         refine co_then ?_
         refine co_false h374 rfl ?_
         refine wp_skip ?_
         refine co_then ?_
         refine co_seq ?_
         refine co_seq ?_
         refine co_reg ?_
         refine pk0 (v := .bool false) h374 rfl fun a375 h375 => ?_; clear h374
         refine pk0 (v := .bool false) h375 rfl fun a376 h376 => ?_; clear h375
         refine psk h376 rfl fun a377 h377 => ?_; clear h376
         refine psk h377 rfl fun a378 h378 => ?_; clear h377
         refine psk h378 rfl fun a379 h379 => ?_; clear h378
         refine psk h379 rfl fun a380 h380 => ?_; clear h379
         refine pk0 (v := .bool false) h380 rfl fun a381 h381 => ?_; clear h380
         refine pl_nil ?_
         refine co_then ?_
         refine co_false h381 rfl ?_
         refine co_reg ?_
         refine pk0 (v := pt b 0) h381 rfl fun a382 h382 => ?_; clear h381
         refine pk0 (v := .int .i64 ((j : Nat) : Int)) h382 rfl fun a383 h383 => ?_; clear h382
         refine pk (v := .agg #[.int .i64 c, .int .i64 r, v, .int .u64 ts]) h383 rfl (rn_loadN rfl rfl Try.underlying37 rfl (by kernel_rfl) hk286.all) fun a384 h384 => ?_; clear h383
         have hbad : badT (L.take ((j : Int) : Int).toNat) (EntT.mk c r (.slice none 0 0) l ts) = false := by first | exact bad_ts (by simp only []; omega) | exact badM_0 (by omega)
         have hnn := setE_n (i := ((j : Nat) : Int)) (by omega) (by assumption : (findN L (c, r)).getD 0 = _) (by first | exact .inl (hi259.trans hc276) | exact .inr (by omega))
         have hM391 := hf267.kept hg283 (by simp)
         have hr392 := row_kept_new hf262 hg283
         have hE393 := hf263.new hg283
         have hk394 := hf264.kept hg283 (by simp)
         refine pw h384 rfl (op_call (args := #[pt b 0, .int .i64 ((j : Nat) : Int), .agg #[.int .i64 c, .int .i64 r, v, .int .u64 ts]]) (R := fun res xw => ∃ u2 v2, res = .tuple #[] ∧ LgP S w0.heap.size xw b M u2 (L.take ((j : Nat) : Int).toNat ++ [EntT.mk c r v2 l ts]) ∧ But (S) w0 xw) rfl rfl rfl (by kernel_rfl) (by kernel_rfl) (Try.call60 _ _) (lreplace_any w0 S b M u L ((j : Nat) : Int) c r v l ts w282 hB291 ⟨hk394, ⟨_, hM391⟩, hr392, hE393, hO.sb, hO.sM, hO.su, hO.uq, hO.len⟩ (by omega) hnn hs hvS hlen hts hen) (by rintro e x ⟨u2, v2, rfl, h1, _, h2⟩; exact ⟨_, rfl, u2, v2, rfl, h1, h2⟩)) ?_; clear h384
         rintro _ w386 a385 ⟨u389, v390, rfl, hO387, hB388⟩ h385
         refine pl_nil ?_
         refine co_then ?_
         refine co_seq ?_
         refine co_reg ?_
         refine pk0 (v := .int .i64 0) h385 rfl fun a395 h395 => ?_; clear h385
         refine pl_nil ?_
         refine co_then ?_
         refine wp_ret ?_
         refine co_ret1 h395 rfl rfl ?_
         have hb0 : badT (L.take ((j : Int) : Int).toNat) (EntT.mk c r (.slice none 0 0) l ts) = false := hbad
         have hE := setE_f (i := (j : Int)) (v := .slice none 0 0) (by omega) (by omega) (by omega) hnn hb0
         exact ⟨_, _, ret_int hE.symm, hO387, .inr ⟨hE, .inr ⟨findN_off (by assumption : (findN L (c, r)).getD 0 = _) hnn (by first | exact .inl (hi259.trans hc276) | exact .inr (by omega)), _, rfl⟩⟩, hB388⟩
        ·
         rw [hc348] at h347
         have hp396 : ((j : Nat) : Int) > 0 := of_decide_eq_true hc348
         clear hc348
         refine dk0 8 (v := pt b 0) h347 rfl rfl rfl fun a397 h397 => ?_; clear h347
         refine dk0 9 (v := pt b 0) h397 rfl rfl rfl fun a398 h398 => ?_; clear h397
         refine dk0 10 (v := pt b 1) h398 rfl rfl rfl fun a399 h399 => ?_; clear h398
         have hk400 := hf264.kept hg283 (by simp)
         refine dk 11 (v := u) h399 rfl rfl rfl (fun x hx => by subst hx; exact (rn_load1 rfl rfl Try.isAgg29 (hk400.cell rfl))) fun a401 h401 => ?_; clear h399
         refine dk0 12 (v := .int .i64 ((j : Nat) : Int)) h401 rfl rfl rfl fun a402 h402 => ?_; clear h401
         refine dk 13 (v := .int .i64 (((j : Nat) : Int) - 1)) h402 rfl rfl rfl (fun x hx => by subst hx; exact (rn_arith rfl rfl rfl rfl rfl rfl (IntWalk.i64_in _ (by omega)))) fun a403 h403 => ?_; clear h402
         have hE406 := hf263.new hg283
         have hr412 := row_kept_new hf262 hg283
         obtain ⟨y404, hy404⟩ : ∃ z, L[(((j : Nat) : Int) - 1).toNat]? = some z := ⟨_, List.getElem?_eq_getElem (by first | omega | (simp; done) | (simp; omega))⟩
         have oky404 := (fun (z : EntT) (_ : z ∈ L) => trivial) _ (List.mem_of_getElem? hy404)
         have hy405 := hE406.at hy404
         have hq407 := hy405.ts0; have hq408 := hy405.ts1; have hq409 := hy405.len; have hq410 := wf_i64 hy405.cl; have hq411 := wf_i64 hy405.rq
         refine dk 14 (v := pt (blkOf u) (offOf u + ((((j : Nat) : Int) - 1).toNat) * 4)) h403 rfl rfl rfl (fun x hx => by subst hx; exact (rn_index rfl rfl rfl Try.underlying29 Try.sizeOf37 (row_sl hr412 entE_len) (by omega) (by first | omega | (simp; done) | (simp; omega)))) fun a413 h413 => ?_; clear h403
         refine dk0 15 (v := pt (blkOf u) (offOf u + ((((j : Nat) : Int) - 1).toNat) * 4 + 3)) h413 rfl rfl rfl fun a414 h414 => ?_; clear h413
         refine dk 16 (v := .int .u64 y404.ts) h414 rfl rfl rfl (fun x hx => by subst hx; exact (rn_load1 rfl rfl Try.isAgg23 ((sl_at (row_sl hr412 entE_len) hy404) 3 _ rfl))) fun a415 h415 => ?_; clear h414
         refine dk0 17 (v := .bool (y404.ts == 0)) h415 rfl rfl rfl fun a416 h416 => ?_; clear h415
         refine dk0 18 (v := .bool (y404.ts == 0)) h416 rfl rfl rfl fun a417 h417 => ?_; clear h416
         cases hc418 : (y404.ts == 0)
         ·
          rw [hc418] at h417
          have hp419 : ¬ (y404.ts = 0) := by first | simpa using hc418 | simpa [and_assoc] using hc418
          clear hc418
          refine dk0 19 (v := pt b 0) h417 rfl rfl rfl fun a420 h420 => ?_; clear h417
          refine dk0 20 (v := pt b 0) h420 rfl rfl rfl fun a421 h421 => ?_; clear h420
          refine dk0 21 (v := pt b 1) h421 rfl rfl rfl fun a422 h422 => ?_; clear h421
          refine dk 22 (v := u) h422 rfl rfl rfl (fun x hx => by subst hx; exact (rn_load1 rfl rfl Try.isAgg29 (hk400.cell rfl))) fun a423 h423 => ?_; clear h422
          refine dk0 23 (v := .int .i64 ((j : Nat) : Int)) h423 rfl rfl rfl fun a424 h424 => ?_; clear h423
          refine dk 24 (v := .int .i64 (((j : Nat) : Int) - 1)) h424 rfl rfl rfl (fun x hx => by subst hx; exact (rn_arith rfl rfl rfl rfl rfl rfl (IntWalk.i64_in _ (by omega)))) fun a425 h425 => ?_; clear h424
          refine dk 25 (v := pt (blkOf u) (offOf u + ((((j : Nat) : Int) - 1).toNat) * 4)) h425 rfl rfl rfl (fun x hx => by subst hx; exact (rn_index rfl rfl rfl Try.underlying29 Try.sizeOf37 (row_sl hr412 entE_len) (by omega) (by first | omega | (simp; done) | (simp; omega)))) fun a426 h426 => ?_; clear h425
          refine dk0 26 (v := pt (blkOf u) (offOf u + ((((j : Nat) : Int) - 1).toNat) * 4 + 3)) h426 rfl rfl rfl fun a427 h427 => ?_; clear h426
          refine dk 27 (v := .int .u64 y404.ts) h427 rfl rfl rfl (fun x hx => by subst hx; exact (rn_load1 rfl rfl Try.isAgg23 ((sl_at (row_sl hr412 entE_len) hy404) 3 _ rfl))) fun a428 h428 => ?_; clear h427
          refine dk0 28 (v := pt N42 3) h428 rfl rfl rfl fun a429 h429 => ?_; clear h428
          refine dk 29 (v := .int .u64 ts) h429 rfl rfl rfl (fun x hx => by subst hx; exact (rn_load1 rfl rfl Try.isAgg23 (hk286.cell rfl))) fun a430 h430 => ?_; clear h429
          refine dk0 30 (v := .bool (decide (y404.ts ≥ ts))) h430 rfl rfl rfl fun a431 h431 => ?_; clear h430
          refine dk0 31 (v := .bool (decide (y404.ts ≥ ts))) h431 rfl rfl rfl fun a432 h432 => ?_; clear h431
          refine dk0 32 (v := .bool (decide (y404.ts ≥ ts))) h432 rfl rfl rfl fun a433 h433 => ?_; clear h432
          refine dr_done (by kernel_rfl) ?_
          refine co_then ?_
          cases hc434 : (decide (y404.ts ≥ ts))
          ·
           rw [hc434] at h433
           have hp435 : ¬ (y404.ts ≥ ts) := of_decide_eq_false hc434
           clear hc434
           refine co_false h433 rfl ?_
           refine wp_skip ?_
           refine co_then ?_
           refine co_seq ?_
           refine co_seq ?_
           refine co_reg ?_
           refine pk0 (v := .bool false) h433 rfl fun a436 h436 => ?_; clear h433
           refine pk0 (v := .bool false) h436 rfl fun a437 h437 => ?_; clear h436
           refine psk h437 rfl fun a438 h438 => ?_; clear h437
           refine psk h438 rfl fun a439 h439 => ?_; clear h438
           refine psk h439 rfl fun a440 h440 => ?_; clear h439
           refine psk h440 rfl fun a441 h441 => ?_; clear h440
           refine pk0 (v := .bool false) h441 rfl fun a442 h442 => ?_; clear h441
           refine pl_nil ?_
           refine co_then ?_
           refine co_false h442 rfl ?_
           refine co_reg ?_
           refine pk0 (v := pt b 0) h442 rfl fun a443 h443 => ?_; clear h442
           refine pk0 (v := .int .i64 ((j : Nat) : Int)) h443 rfl fun a444 h444 => ?_; clear h443
           refine pk (v := .agg #[.int .i64 c, .int .i64 r, v, .int .u64 ts]) h444 rfl (rn_loadN rfl rfl Try.underlying37 rfl (by kernel_rfl) hk286.all) fun a445 h445 => ?_; clear h444
           have hbad : badT (L.take ((j : Int) : Int).toNat) (EntT.mk c r (.slice none 0 0) l ts) = false := by rw [bad_at (j := (((j : Nat) : Int) - 1).toNat) (by omega) (by omega) hy404]; exact decide_eq_false (by simp only []; omega)
           have hnn := setE_n (i := ((j : Nat) : Int)) (by omega) (by assumption : (findN L (c, r)).getD 0 = _) (by first | exact .inl (hi259.trans hc276) | exact .inr (by omega))
           have hM452 := hf267.kept hg283 (by simp)
           refine pw h445 rfl (op_call (args := #[pt b 0, .int .i64 ((j : Nat) : Int), .agg #[.int .i64 c, .int .i64 r, v, .int .u64 ts]]) (R := fun res xw => ∃ u2 v2, res = .tuple #[] ∧ LgP S w0.heap.size xw b M u2 (L.take ((j : Nat) : Int).toNat ++ [EntT.mk c r v2 l ts]) ∧ But (S) w0 xw) rfl rfl rfl (by kernel_rfl) (by kernel_rfl) (Try.call60 _ _) (lreplace_any w0 S b M u L ((j : Nat) : Int) c r v l ts w282 hB291 ⟨hk400, ⟨_, hM452⟩, hr412, hE406, hO.sb, hO.sM, hO.su, hO.uq, hO.len⟩ (by omega) hnn hs hvS hlen hts hen) (by rintro e x ⟨u2, v2, rfl, h1, _, h2⟩; exact ⟨_, rfl, u2, v2, rfl, h1, h2⟩)) ?_; clear h445
           rintro _ w447 a446 ⟨u450, v451, rfl, hO448, hB449⟩ h446
           refine pl_nil ?_
           refine co_then ?_
           refine co_seq ?_
           refine co_reg ?_
           refine pk0 (v := .int .i64 0) h446 rfl fun a453 h453 => ?_; clear h446
           refine pl_nil ?_
           refine co_then ?_
           refine wp_ret ?_
           refine co_ret1 h453 rfl rfl ?_
           have hb0 : badT (L.take ((j : Int) : Int).toNat) (EntT.mk c r (.slice none 0 0) l ts) = false := hbad
           have hE := setE_f (i := (j : Int)) (v := .slice none 0 0) (by omega) (by omega) (by omega) hnn hb0
           exact ⟨_, _, ret_int hE.symm, hO448, .inr ⟨hE, .inr ⟨findN_off (by assumption : (findN L (c, r)).getD 0 = _) hnn (by first | exact .inl (hi259.trans hc276) | exact .inr (by omega)), _, rfl⟩⟩, hB449⟩
          ·
           rw [hc434] at h433
           have hp454 : y404.ts ≥ ts := of_decide_eq_true hc434
           clear hc434
           refine co_true h433 rfl ?_
           refine co_seq ?_
           refine co_reg ?_
           refine pk0 (v := .int .i64 18) h433 rfl fun a455 h455 => ?_; clear h433
           refine pl_nil ?_
           refine co_then ?_
           refine wp_ret ?_
           refine co_thenR ?_
           refine co_ret1 h455 rfl rfl ?_
           have hM456 := hf267.kept hg283 (by simp)
           have hE : setE L (j : Int) c r l ts = 18 := setE_e (v := .slice none 0 0) (by omega) (by omega) (by omega) (setE_n (by omega) (by assumption : (findN L (c, r)).getD 0 = _) (by first | exact .inl (hi259.trans hc276) | exact .inr (by omega))) (by rw [bad_at (j := (((j : Nat) : Int) - 1).toNat) (by omega) (by omega) hy404]; exact decide_eq_true (by simp only []; omega))
           exact ⟨_, _, ret_int hE.symm, ⟨hk400, ⟨_, hM456⟩, hr412, hE406, hO.sb, hO.sM, hO.su, hO.uq, hO.len⟩, .same (by rw [hE]; omega), hB291⟩
         ·
          rw [hc418] at h417
          have hp457 : y404.ts = 0 := by first | simpa using hc418 | simpa [and_assoc] using hc418
          clear hc418
          refine dsk 19 h417 rfl rfl rfl fun a458 h458 => ?_; clear h417
          refine dsk 20 h458 rfl rfl rfl fun a459 h459 => ?_; clear h458
          refine dsk 21 h459 rfl rfl rfl fun a460 h460 => ?_; clear h459
          refine dsk 22 h460 rfl rfl rfl fun a461 h461 => ?_; clear h460
          refine dsk 23 h461 rfl rfl rfl fun a462 h462 => ?_; clear h461
          refine dsk 24 h462 rfl rfl rfl fun a463 h463 => ?_; clear h462
          refine dsk 25 h463 rfl rfl rfl fun a464 h464 => ?_; clear h463
          refine dsk 26 h464 rfl rfl rfl fun a465 h465 => ?_; clear h464
          refine dsk 27 h465 rfl rfl rfl fun a466 h466 => ?_; clear h465
          refine dsk 28 h466 rfl rfl rfl fun a467 h467 => ?_; clear h466
          refine dsk 29 h467 rfl rfl rfl fun a468 h468 => ?_; clear h467
          refine dsk 30 h468 rfl rfl rfl fun a469 h469 => ?_; clear h468
          refine dk0 31 (v := .bool true) h469 rfl rfl rfl fun a470 h470 => ?_; clear h469
          refine dk0 32 (v := .bool true) h470 rfl rfl rfl fun a471 h471 => ?_; clear h470
          refine dr_done (by kernel_rfl) ?_
          refine co_then ?_
          refine co_true h471 rfl ?_
          refine co_seq ?_
          refine co_reg ?_
          refine pk0 (v := .int .i64 18) h471 rfl fun a472 h472 => ?_; clear h471
          refine pl_nil ?_
          refine co_then ?_
          refine wp_ret ?_
          refine co_thenR ?_
          refine co_ret1 h472 rfl rfl ?_
          have hM473 := hf267.kept hg283 (by simp)
          have hE : setE L (j : Int) c r l ts = 18 := setE_e (v := .slice none 0 0) (by omega) (by omega) (by omega) (setE_n (by omega) (by assumption : (findN L (c, r)).getD 0 = _) (by first | exact .inl (hi259.trans hc276) | exact .inr (by omega))) (by rw [bad_at (j := (((j : Nat) : Int) - 1).toNat) (by omega) (by omega) hy404]; exact decide_eq_true (by simp only []; omega))
          exact ⟨_, _, ret_int hE.symm, ⟨hk400, ⟨_, hM473⟩, hr412, hE406, hO.sb, hO.sM, hO.su, hO.uq, hO.len⟩, .same (by rw [hE]; omega), hB291⟩
      ·
       rw [hc276] at h275
       refine pk0 (v := pt N 0) h275 rfl fun a474 h474 => ?_; clear h275
       refine pk (v := .int .i64 tf) h474 rfl (rn_load1 rfl rfl Try.isAgg3 (hf266.cell rfl)) fun a475 h475 => ?_; clear h474
       refine pk0 (v := .int .i64 ((j : Nat) : Int)) h475 rfl fun a476 h476 => ?_; clear h475
       refine pk0 (v := .bool (decide (tf < ((j : Nat) : Int)))) h476 rfl fun a477 h477 => ?_; clear h476
       refine pk0 (v := .bool (decide (tf < ((j : Nat) : Int)))) h477 rfl fun a478 h478 => ?_; clear h477
       refine pl_nil ?_
       refine co_then ?_
       cases hc479 : (decide (tf < ((j : Nat) : Int)))
       ·
        rw [hc479] at h478
        have hp480 : ¬ (tf < ((j : Nat) : Int)) := of_decide_eq_false hc479
        clear hc479
        refine co_false h478 rfl ?_
        refine wp_skip ?_
        refine co_then ?_
        refine co_seq ?_
        refine co_seq ?_
        refine dr_eq (by kernel_rfl) (fun w481 hg482 => ?_)
        have hz483 := hg482.size
        refine dk0 0 (v := pt N42 3) h478 rfl rfl rfl fun a484 h484 => ?_; clear h478
        have hk485 := hf265.kept hg482 (by simp)
        refine dk 1 (v := .int .u64 ts) h484 rfl rfl rfl (fun x hx => by subst hx; exact (rn_load1 rfl rfl Try.isAgg23 (hk485.cell rfl))) fun a486 h486 => ?_; clear h484
        refine dk0 2 (v := .bool (ts != 0)) h486 rfl rfl rfl fun a487 h487 => ?_; clear h486
        refine dk0 3 (v := .bool (ts != 0)) h487 rfl rfl rfl fun a488 h488 => ?_; clear h487
        have hB490 := fbU_new hB268 hg482
        cases hc489 : (ts != 0)
        ·
         rw [hc489] at h488
         have hp491 : ¬ (ts ≠ 0) := by first | simpa using hc489 | simpa [and_assoc] using hc489
         clear hc489
         refine dsk 4 h488 rfl rfl rfl fun a492 h492 => ?_; clear h488
         refine dsk 5 h492 rfl rfl rfl fun a493 h493 => ?_; clear h492
         refine dk0 6 (v := .bool false) h493 rfl rfl rfl fun a494 h494 => ?_; clear h493
         refine dk0 7 (v := .bool false) h494 rfl rfl rfl fun a495 h495 => ?_; clear h494
         refine dsk 8 h495 rfl rfl rfl fun a496 h496 => ?_; clear h495
         refine dsk 9 h496 rfl rfl rfl fun a497 h497 => ?_; clear h496
         refine dsk 10 h497 rfl rfl rfl fun a498 h498 => ?_; clear h497
         refine dsk 11 h498 rfl rfl rfl fun a499 h499 => ?_; clear h498
         refine dsk 12 h499 rfl rfl rfl fun a500 h500 => ?_; clear h499
         refine dsk 13 h500 rfl rfl rfl fun a501 h501 => ?_; clear h500
         refine dsk 14 h501 rfl rfl rfl fun a502 h502 => ?_; clear h501
         refine dsk 15 h502 rfl rfl rfl fun a503 h503 => ?_; clear h502
         refine dsk 16 h503 rfl rfl rfl fun a504 h504 => ?_; clear h503
         refine dsk 17 h504 rfl rfl rfl fun a505 h505 => ?_; clear h504
         refine dsk 18 h505 rfl rfl rfl fun a506 h506 => ?_; clear h505
         refine dsk 19 h506 rfl rfl rfl fun a507 h507 => ?_; clear h506
         refine dsk 20 h507 rfl rfl rfl fun a508 h508 => ?_; clear h507
         refine dsk 21 h508 rfl rfl rfl fun a509 h509 => ?_; clear h508
         refine dsk 22 h509 rfl rfl rfl fun a510 h510 => ?_; clear h509
         refine dsk 23 h510 rfl rfl rfl fun a511 h511 => ?_; clear h510
         refine dsk 24 h511 rfl rfl rfl fun a512 h512 => ?_; clear h511
         refine dsk 25 h512 rfl rfl rfl fun a513 h513 => ?_; clear h512
         refine dsk 26 h513 rfl rfl rfl fun a514 h514 => ?_; clear h513
         refine dsk 27 h514 rfl rfl rfl fun a515 h515 => ?_; clear h514
         refine dsk 28 h515 rfl rfl rfl fun a516 h516 => ?_; clear h515
         refine dsk 29 h516 rfl rfl rfl fun a517 h517 => ?_; clear h516
         refine dsk 30 h517 rfl rfl rfl fun a518 h518 => ?_; clear h517
         refine dsk 31 h518 rfl rfl rfl fun a519 h519 => ?_; clear h518
         refine dk0 32 (v := .bool false) h519 rfl rfl rfl fun a520 h520 => ?_; clear h519
         refine dr_done (by kernel_rfl) ?_
         refine co_then ?_
         refine co_false h520 rfl ?_
         refine wp_skip ?_
         refine co_then ?_
         refine co_seq ?_
         refine co_seq ?_
         refine co_reg ?_
         refine pk0 (v := .bool true) h520 rfl fun a521 h521 => ?_; clear h520
         refine pk0 (v := .bool true) h521 rfl fun a522 h522 => ?_; clear h521
         refine pk0 (v := pt N 0) h522 rfl fun a523 h523 => ?_; clear h522
         have hk524 := hf266.kept hg482 (by simp)
         refine pk (v := .int .i64 tf) h523 rfl (rn_load1 rfl rfl Try.isAgg3 (hk524.cell rfl)) fun a525 h525 => ?_; clear h523
         refine pk0 (v := .int .i64 ((j : Nat) : Int)) h525 rfl fun a526 h526 => ?_; clear h525
         refine pk0 (v := .bool (tf == ((j : Nat) : Int))) h526 rfl fun a527 h527 => ?_; clear h526
         refine pk0 (v := .bool (tf == ((j : Nat) : Int))) h527 rfl fun a528 h528 => ?_; clear h527
         refine pl_nil ?_
         refine co_then ?_
         cases hc529 : (tf == ((j : Nat) : Int))
         ·
          rw [hc529] at h528
          have hp530 : ¬ (tf = ((j : Nat) : Int)) := by first | simpa using hc529 | simpa [and_assoc] using hc529
          clear hc529
          refine co_false h528 rfl ?_
          refine co_reg ?_
          refine pk0 (v := pt b 0) h528 rfl fun a531 h531 => ?_; clear h528
          refine pk0 (v := .int .i64 ((j : Nat) : Int)) h531 rfl fun a532 h532 => ?_; clear h531
          refine pk (v := .agg #[.int .i64 c, .int .i64 r, v, .int .u64 ts]) h532 rfl (rn_loadN rfl rfl Try.underlying37 rfl (by kernel_rfl) hk485.all) fun a533 h533 => ?_; clear h532
          have hbad : badT (L.take ((j : Int) : Int).toNat) (EntT.mk c r (.slice none 0 0) l ts) = false := by first | exact bad_ts (by simp only []; omega) | exact badM_0 (by omega)
          have hnn := setE_n (i := ((j : Nat) : Int)) (by omega) (by assumption : (findN L (c, r)).getD 0 = _) (by first | exact .inl (hi259.trans hc276) | exact .inr (by omega))
          have hM540 := hf267.kept hg482 (by simp)
          have hr541 := row_kept_new hf262 hg482
          have hE542 := hf263.new hg482
          have hk543 := hf264.kept hg482 (by simp)
          refine pw h533 rfl (op_call (args := #[pt b 0, .int .i64 ((j : Nat) : Int), .agg #[.int .i64 c, .int .i64 r, v, .int .u64 ts]]) (R := fun res xw => ∃ u2 v2, res = .tuple #[] ∧ LgP S w0.heap.size xw b M u2 (L.take ((j : Nat) : Int).toNat ++ [EntT.mk c r v2 l ts]) ∧ But (S) w0 xw) rfl rfl rfl (by kernel_rfl) (by kernel_rfl) (Try.call60 _ _) (lreplace_any w0 S b M u L ((j : Nat) : Int) c r v l ts w481 hB490 ⟨hk543, ⟨_, hM540⟩, hr541, hE542, hO.sb, hO.sM, hO.su, hO.uq, hO.len⟩ (by omega) hnn hs hvS hlen hts hen) (by rintro e x ⟨u2, v2, rfl, h1, _, h2⟩; exact ⟨_, rfl, u2, v2, rfl, h1, h2⟩)) ?_; clear h533
          rintro _ w535 a534 ⟨u538, v539, rfl, hO536, hB537⟩ h534
          refine pl_nil ?_
          refine co_then ?_
          refine co_seq ?_
          refine co_reg ?_
          refine pk0 (v := .int .i64 0) h534 rfl fun a544 h544 => ?_; clear h534
          refine pl_nil ?_
          refine co_then ?_
          refine wp_ret ?_
          refine co_ret1 h544 rfl rfl ?_
          have hb0 : badT (L.take ((j : Int) : Int).toNat) (EntT.mk c r (.slice none 0 0) l ts) = false := hbad
          have hE := setE_f (i := (j : Int)) (v := .slice none 0 0) (by omega) (by omega) (by omega) hnn hb0
          exact ⟨_, _, ret_int hE.symm, hO536, .inr ⟨hE, .inr ⟨findN_off (by assumption : (findN L (c, r)).getD 0 = _) hnn (by first | exact .inl (hi259.trans hc276) | exact .inr (by omega)), _, rfl⟩⟩, hB537⟩
         ·
          rw [hc529] at h528
          have hp545 : tf = ((j : Nat) : Int) := by first | simpa using hc529 | simpa [and_assoc] using hc529
          clear hc529
          refine co_true h528 rfl ?_
          refine co_reg ?_
          refine pk0 (v := pt b 0) h528 rfl fun a546 h546 => ?_; clear h528
          refine pk0 (v := .int .i64 ((j : Nat) : Int)) h546 rfl fun a547 h547 => ?_; clear h546
          refine pk0 (v := pt N42 3) h547 rfl fun a548 h548 => ?_; clear h547
          refine pk (v := .int .u64 ts) h548 rfl (rn_load1 rfl rfl Try.isAgg23 (hk485.cell rfl)) fun a549 h549 => ?_; clear h548
          have hnn := setE_n (i := (j : Int)) (by omega) (by assumption : (findN L (c, r)).getD 0 = _) (by first | exact .inl (hi259.trans hc276) | exact .inr (by omega))
          have hjl := findN_atl (findN_at (j := j) (by first | exact hi259.trans hc276) (by assumption : (findN L (c, r)).getD 0 = _) (by omega))
          have hbad : badT (L.take ((j : Int) : Int).toNat) (EntT.mk c r (.slice none 0 0) l ts) = false := by first | exact bad_ts (by simp only []; omega) | exact badM_0 (by omega)
          have hM554 := hf267.kept hg482 (by simp)
          have hr555 := row_kept_new hf262 hg482
          have hE556 := hf263.new hg482
          have hk557 := hf264.kept hg482 (by simp)
          refine pw h549 rfl (op_call (args := #[pt b 0, .int .i64 ((j : Nat) : Int), .int .u64 ts]) (R := fun res xw => res = .tuple #[] ∧ LgP S w0.heap.size xw b M u (restF L ((j : Nat) : Int).toNat ts) ∧ But (S) w0 xw) rfl rfl rfl (by kernel_rfl) (by kernel_rfl) (Try.call59 _ _) (lrestamp_any w0 S b M u L ((j : Nat) : Int) ts w481 hB490 ⟨hk557, ⟨_, hM554⟩, hr555, hE556, hO.sb, hO.sM, hO.su, hO.uq, hO.len⟩ (by omega) (by omega)) (by rintro e x ⟨rfl, h1, h2⟩; exact ⟨_, rfl, rfl, h1, h2⟩)) ?_; clear h549
          rintro _ w551 a550 ⟨rfl, hO552, hB553⟩ h550
          refine pl_nil ?_
          refine co_then ?_
          refine co_seq ?_
          refine co_reg ?_
          refine pk0 (v := .int .i64 0) h550 rfl fun a558 h558 => ?_; clear h550
          refine pl_nil ?_
          refine co_then ?_
          refine wp_ret ?_
          refine co_ret1 h558 rfl rfl ?_
          have hb0 : badT (L.take ((j : Int) : Int).toNat) (EntT.mk c r (.slice none 0 0) l ts) = false := hbad
          have hE := setE_f (i := (j : Int)) (v := .slice none 0 0) (by omega) (by omega) (by omega) hnn hb0
          exact ⟨_, _, ret_int hE.symm, hO552, .inr ⟨hE, .inl ⟨findN_at (by first | exact hi259.trans hc276) (by assumption : (findN L (c, r)).getD 0 = _) (by omega), rfl⟩⟩, hB553⟩
        ·
         rw [hc489] at h488
         have hp559 : ts ≠ 0 := by first | simpa using hc489 | simpa [and_assoc] using hc489
         clear hc489
         refine dk0 4 (v := .int .i64 ((j : Nat) : Int)) h488 rfl rfl rfl fun a560 h560 => ?_; clear h488
         refine dk0 5 (v := .bool (decide (((j : Nat) : Int) > 0))) h560 rfl rfl rfl fun a561 h561 => ?_; clear h560
         refine dk0 6 (v := .bool (decide (((j : Nat) : Int) > 0))) h561 rfl rfl rfl fun a562 h562 => ?_; clear h561
         refine dk0 7 (v := .bool (decide (((j : Nat) : Int) > 0))) h562 rfl rfl rfl fun a563 h563 => ?_; clear h562
         cases hc564 : (decide (((j : Nat) : Int) > 0))
         ·
          rw [hc564] at h563
          have hp565 : ¬ (((j : Nat) : Int) > 0) := of_decide_eq_false hc564
          clear hc564
          refine dsk 8 h563 rfl rfl rfl fun a566 h566 => ?_; clear h563
          refine dsk 9 h566 rfl rfl rfl fun a567 h567 => ?_; clear h566
          refine dsk 10 h567 rfl rfl rfl fun a568 h568 => ?_; clear h567
          refine dsk 11 h568 rfl rfl rfl fun a569 h569 => ?_; clear h568
          refine dsk 12 h569 rfl rfl rfl fun a570 h570 => ?_; clear h569
          refine dsk 13 h570 rfl rfl rfl fun a571 h571 => ?_; clear h570
          refine dsk 14 h571 rfl rfl rfl fun a572 h572 => ?_; clear h571
          refine dsk 15 h572 rfl rfl rfl fun a573 h573 => ?_; clear h572
          refine dsk 16 h573 rfl rfl rfl fun a574 h574 => ?_; clear h573
          refine dsk 17 h574 rfl rfl rfl fun a575 h575 => ?_; clear h574
          refine dsk 18 h575 rfl rfl rfl fun a576 h576 => ?_; clear h575
          refine dsk 19 h576 rfl rfl rfl fun a577 h577 => ?_; clear h576
          refine dsk 20 h577 rfl rfl rfl fun a578 h578 => ?_; clear h577
          refine dsk 21 h578 rfl rfl rfl fun a579 h579 => ?_; clear h578
          refine dsk 22 h579 rfl rfl rfl fun a580 h580 => ?_; clear h579
          refine dsk 23 h580 rfl rfl rfl fun a581 h581 => ?_; clear h580
          refine dsk 24 h581 rfl rfl rfl fun a582 h582 => ?_; clear h581
          refine dsk 25 h582 rfl rfl rfl fun a583 h583 => ?_; clear h582
          refine dsk 26 h583 rfl rfl rfl fun a584 h584 => ?_; clear h583
          refine dsk 27 h584 rfl rfl rfl fun a585 h585 => ?_; clear h584
          refine dsk 28 h585 rfl rfl rfl fun a586 h586 => ?_; clear h585
          refine dsk 29 h586 rfl rfl rfl fun a587 h587 => ?_; clear h586
          refine dsk 30 h587 rfl rfl rfl fun a588 h588 => ?_; clear h587
          refine dsk 31 h588 rfl rfl rfl fun a589 h589 => ?_; clear h588
          refine dk0 32 (v := .bool false) h589 rfl rfl rfl fun a590 h590 => ?_; clear h589
          refine dr_done (by kernel_rfl) ?_
          refine co_then ?_
          refine co_false h590 rfl ?_
          refine wp_skip ?_
          refine co_then ?_
          refine co_seq ?_
          refine co_seq ?_
          refine co_reg ?_
          refine pk0 (v := .bool true) h590 rfl fun a591 h591 => ?_; clear h590
          refine pk0 (v := .bool true) h591 rfl fun a592 h592 => ?_; clear h591
          refine pk0 (v := pt N 0) h592 rfl fun a593 h593 => ?_; clear h592
          have hk594 := hf266.kept hg482 (by simp)
          refine pk (v := .int .i64 tf) h593 rfl (rn_load1 rfl rfl Try.isAgg3 (hk594.cell rfl)) fun a595 h595 => ?_; clear h593
          refine pk0 (v := .int .i64 ((j : Nat) : Int)) h595 rfl fun a596 h596 => ?_; clear h595
          refine pk0 (v := .bool (tf == ((j : Nat) : Int))) h596 rfl fun a597 h597 => ?_; clear h596
          refine pk0 (v := .bool (tf == ((j : Nat) : Int))) h597 rfl fun a598 h598 => ?_; clear h597
          refine pl_nil ?_
          refine co_then ?_
          cases hc599 : (tf == ((j : Nat) : Int))
          ·
           rw [hc599] at h598
           have hp600 : ¬ (tf = ((j : Nat) : Int)) := by first | simpa using hc599 | simpa [and_assoc] using hc599
           clear hc599
           refine co_false h598 rfl ?_
           refine co_reg ?_
           refine pk0 (v := pt b 0) h598 rfl fun a601 h601 => ?_; clear h598
           refine pk0 (v := .int .i64 ((j : Nat) : Int)) h601 rfl fun a602 h602 => ?_; clear h601
           refine pk (v := .agg #[.int .i64 c, .int .i64 r, v, .int .u64 ts]) h602 rfl (rn_loadN rfl rfl Try.underlying37 rfl (by kernel_rfl) hk485.all) fun a603 h603 => ?_; clear h602
           have hbad : badT (L.take ((j : Int) : Int).toNat) (EntT.mk c r (.slice none 0 0) l ts) = false := by first | exact bad_ts (by simp only []; omega) | exact badM_0 (by omega)
           have hnn := setE_n (i := ((j : Nat) : Int)) (by omega) (by assumption : (findN L (c, r)).getD 0 = _) (by first | exact .inl (hi259.trans hc276) | exact .inr (by omega))
           have hM610 := hf267.kept hg482 (by simp)
           have hr611 := row_kept_new hf262 hg482
           have hE612 := hf263.new hg482
           have hk613 := hf264.kept hg482 (by simp)
           refine pw h603 rfl (op_call (args := #[pt b 0, .int .i64 ((j : Nat) : Int), .agg #[.int .i64 c, .int .i64 r, v, .int .u64 ts]]) (R := fun res xw => ∃ u2 v2, res = .tuple #[] ∧ LgP S w0.heap.size xw b M u2 (L.take ((j : Nat) : Int).toNat ++ [EntT.mk c r v2 l ts]) ∧ But (S) w0 xw) rfl rfl rfl (by kernel_rfl) (by kernel_rfl) (Try.call60 _ _) (lreplace_any w0 S b M u L ((j : Nat) : Int) c r v l ts w481 hB490 ⟨hk613, ⟨_, hM610⟩, hr611, hE612, hO.sb, hO.sM, hO.su, hO.uq, hO.len⟩ (by omega) hnn hs hvS hlen hts hen) (by rintro e x ⟨u2, v2, rfl, h1, _, h2⟩; exact ⟨_, rfl, u2, v2, rfl, h1, h2⟩)) ?_; clear h603
           rintro _ w605 a604 ⟨u608, v609, rfl, hO606, hB607⟩ h604
           refine pl_nil ?_
           refine co_then ?_
           refine co_seq ?_
           refine co_reg ?_
           refine pk0 (v := .int .i64 0) h604 rfl fun a614 h614 => ?_; clear h604
           refine pl_nil ?_
           refine co_then ?_
           refine wp_ret ?_
           refine co_ret1 h614 rfl rfl ?_
           have hb0 : badT (L.take ((j : Int) : Int).toNat) (EntT.mk c r (.slice none 0 0) l ts) = false := hbad
           have hE := setE_f (i := (j : Int)) (v := .slice none 0 0) (by omega) (by omega) (by omega) hnn hb0
           exact ⟨_, _, ret_int hE.symm, hO606, .inr ⟨hE, .inr ⟨findN_off (by assumption : (findN L (c, r)).getD 0 = _) hnn (by first | exact .inl (hi259.trans hc276) | exact .inr (by omega)), _, rfl⟩⟩, hB607⟩
          ·
           rw [hc599] at h598
           have hp615 : tf = ((j : Nat) : Int) := by first | simpa using hc599 | simpa [and_assoc] using hc599
           clear hc599
           refine co_true h598 rfl ?_
           refine co_reg ?_
           refine pk0 (v := pt b 0) h598 rfl fun a616 h616 => ?_; clear h598
           refine pk0 (v := .int .i64 ((j : Nat) : Int)) h616 rfl fun a617 h617 => ?_; clear h616
           refine pk0 (v := pt N42 3) h617 rfl fun a618 h618 => ?_; clear h617
           refine pk (v := .int .u64 ts) h618 rfl (rn_load1 rfl rfl Try.isAgg23 (hk485.cell rfl)) fun a619 h619 => ?_; clear h618
           have hnn := setE_n (i := (j : Int)) (by omega) (by assumption : (findN L (c, r)).getD 0 = _) (by first | exact .inl (hi259.trans hc276) | exact .inr (by omega))
           have hjl := findN_atl (findN_at (j := j) (by first | exact hi259.trans hc276) (by assumption : (findN L (c, r)).getD 0 = _) (by omega))
           have hbad : badT (L.take ((j : Int) : Int).toNat) (EntT.mk c r (.slice none 0 0) l ts) = false := by first | exact bad_ts (by simp only []; omega) | exact badM_0 (by omega)
           have hM624 := hf267.kept hg482 (by simp)
           have hr625 := row_kept_new hf262 hg482
           have hE626 := hf263.new hg482
           have hk627 := hf264.kept hg482 (by simp)
           refine pw h619 rfl (op_call (args := #[pt b 0, .int .i64 ((j : Nat) : Int), .int .u64 ts]) (R := fun res xw => res = .tuple #[] ∧ LgP S w0.heap.size xw b M u (restF L ((j : Nat) : Int).toNat ts) ∧ But (S) w0 xw) rfl rfl rfl (by kernel_rfl) (by kernel_rfl) (Try.call59 _ _) (lrestamp_any w0 S b M u L ((j : Nat) : Int) ts w481 hB490 ⟨hk627, ⟨_, hM624⟩, hr625, hE626, hO.sb, hO.sM, hO.su, hO.uq, hO.len⟩ (by omega) (by omega)) (by rintro e x ⟨rfl, h1, h2⟩; exact ⟨_, rfl, rfl, h1, h2⟩)) ?_; clear h619
           rintro _ w621 a620 ⟨rfl, hO622, hB623⟩ h620
           refine pl_nil ?_
           refine co_then ?_
           refine co_seq ?_
           refine co_reg ?_
           refine pk0 (v := .int .i64 0) h620 rfl fun a628 h628 => ?_; clear h620
           refine pl_nil ?_
           refine co_then ?_
           refine wp_ret ?_
           refine co_ret1 h628 rfl rfl ?_
           have hb0 : badT (L.take ((j : Int) : Int).toNat) (EntT.mk c r (.slice none 0 0) l ts) = false := hbad
           have hE := setE_f (i := (j : Int)) (v := .slice none 0 0) (by omega) (by omega) (by omega) hnn hb0
           exact ⟨_, _, ret_int hE.symm, hO622, .inr ⟨hE, .inl ⟨findN_at (by first | exact hi259.trans hc276) (by assumption : (findN L (c, r)).getD 0 = _) (by omega), rfl⟩⟩, hB623⟩
         ·
          rw [hc564] at h563
          have hp629 : ((j : Nat) : Int) > 0 := of_decide_eq_true hc564
          clear hc564
          refine dk0 8 (v := pt b 0) h563 rfl rfl rfl fun a630 h630 => ?_; clear h563
          refine dk0 9 (v := pt b 0) h630 rfl rfl rfl fun a631 h631 => ?_; clear h630
          refine dk0 10 (v := pt b 1) h631 rfl rfl rfl fun a632 h632 => ?_; clear h631
          have hk633 := hf264.kept hg482 (by simp)
          refine dk 11 (v := u) h632 rfl rfl rfl (fun x hx => by subst hx; exact (rn_load1 rfl rfl Try.isAgg29 (hk633.cell rfl))) fun a634 h634 => ?_; clear h632
          refine dk0 12 (v := .int .i64 ((j : Nat) : Int)) h634 rfl rfl rfl fun a635 h635 => ?_; clear h634
          refine dk 13 (v := .int .i64 (((j : Nat) : Int) - 1)) h635 rfl rfl rfl (fun x hx => by subst hx; exact (rn_arith rfl rfl rfl rfl rfl rfl (IntWalk.i64_in _ (by omega)))) fun a636 h636 => ?_; clear h635
          have hE639 := hf263.new hg482
          have hr645 := row_kept_new hf262 hg482
          obtain ⟨y637, hy637⟩ : ∃ z, L[(((j : Nat) : Int) - 1).toNat]? = some z := ⟨_, List.getElem?_eq_getElem (by first | omega | (simp; done) | (simp; omega))⟩
          have oky637 := (fun (z : EntT) (_ : z ∈ L) => trivial) _ (List.mem_of_getElem? hy637)
          have hy638 := hE639.at hy637
          have hq640 := hy638.ts0; have hq641 := hy638.ts1; have hq642 := hy638.len; have hq643 := wf_i64 hy638.cl; have hq644 := wf_i64 hy638.rq
          refine dk 14 (v := pt (blkOf u) (offOf u + ((((j : Nat) : Int) - 1).toNat) * 4)) h636 rfl rfl rfl (fun x hx => by subst hx; exact (rn_index rfl rfl rfl Try.underlying29 Try.sizeOf37 (row_sl hr645 entE_len) (by omega) (by first | omega | (simp; done) | (simp; omega)))) fun a646 h646 => ?_; clear h636
          refine dk0 15 (v := pt (blkOf u) (offOf u + ((((j : Nat) : Int) - 1).toNat) * 4 + 3)) h646 rfl rfl rfl fun a647 h647 => ?_; clear h646
          refine dk 16 (v := .int .u64 y637.ts) h647 rfl rfl rfl (fun x hx => by subst hx; exact (rn_load1 rfl rfl Try.isAgg23 ((sl_at (row_sl hr645 entE_len) hy637) 3 _ rfl))) fun a648 h648 => ?_; clear h647
          refine dk0 17 (v := .bool (y637.ts == 0)) h648 rfl rfl rfl fun a649 h649 => ?_; clear h648
          refine dk0 18 (v := .bool (y637.ts == 0)) h649 rfl rfl rfl fun a650 h650 => ?_; clear h649
          cases hc651 : (y637.ts == 0)
          ·
           rw [hc651] at h650
           have hp652 : ¬ (y637.ts = 0) := by first | simpa using hc651 | simpa [and_assoc] using hc651
           clear hc651
           refine dk0 19 (v := pt b 0) h650 rfl rfl rfl fun a653 h653 => ?_; clear h650
           refine dk0 20 (v := pt b 0) h653 rfl rfl rfl fun a654 h654 => ?_; clear h653
           refine dk0 21 (v := pt b 1) h654 rfl rfl rfl fun a655 h655 => ?_; clear h654
           refine dk 22 (v := u) h655 rfl rfl rfl (fun x hx => by subst hx; exact (rn_load1 rfl rfl Try.isAgg29 (hk633.cell rfl))) fun a656 h656 => ?_; clear h655
           refine dk0 23 (v := .int .i64 ((j : Nat) : Int)) h656 rfl rfl rfl fun a657 h657 => ?_; clear h656
           refine dk 24 (v := .int .i64 (((j : Nat) : Int) - 1)) h657 rfl rfl rfl (fun x hx => by subst hx; exact (rn_arith rfl rfl rfl rfl rfl rfl (IntWalk.i64_in _ (by omega)))) fun a658 h658 => ?_; clear h657
           refine dk 25 (v := pt (blkOf u) (offOf u + ((((j : Nat) : Int) - 1).toNat) * 4)) h658 rfl rfl rfl (fun x hx => by subst hx; exact (rn_index rfl rfl rfl Try.underlying29 Try.sizeOf37 (row_sl hr645 entE_len) (by omega) (by first | omega | (simp; done) | (simp; omega)))) fun a659 h659 => ?_; clear h658
           refine dk0 26 (v := pt (blkOf u) (offOf u + ((((j : Nat) : Int) - 1).toNat) * 4 + 3)) h659 rfl rfl rfl fun a660 h660 => ?_; clear h659
           refine dk 27 (v := .int .u64 y637.ts) h660 rfl rfl rfl (fun x hx => by subst hx; exact (rn_load1 rfl rfl Try.isAgg23 ((sl_at (row_sl hr645 entE_len) hy637) 3 _ rfl))) fun a661 h661 => ?_; clear h660
           refine dk0 28 (v := pt N42 3) h661 rfl rfl rfl fun a662 h662 => ?_; clear h661
           refine dk 29 (v := .int .u64 ts) h662 rfl rfl rfl (fun x hx => by subst hx; exact (rn_load1 rfl rfl Try.isAgg23 (hk485.cell rfl))) fun a663 h663 => ?_; clear h662
           refine dk0 30 (v := .bool (decide (y637.ts ≥ ts))) h663 rfl rfl rfl fun a664 h664 => ?_; clear h663
           refine dk0 31 (v := .bool (decide (y637.ts ≥ ts))) h664 rfl rfl rfl fun a665 h665 => ?_; clear h664
           refine dk0 32 (v := .bool (decide (y637.ts ≥ ts))) h665 rfl rfl rfl fun a666 h666 => ?_; clear h665
           refine dr_done (by kernel_rfl) ?_
           refine co_then ?_
           cases hc667 : (decide (y637.ts ≥ ts))
           ·
            rw [hc667] at h666
            have hp668 : ¬ (y637.ts ≥ ts) := of_decide_eq_false hc667
            clear hc667
            refine co_false h666 rfl ?_
            refine wp_skip ?_
            refine co_then ?_
            refine co_seq ?_
            refine co_seq ?_
            refine co_reg ?_
            refine pk0 (v := .bool true) h666 rfl fun a669 h669 => ?_; clear h666
            refine pk0 (v := .bool true) h669 rfl fun a670 h670 => ?_; clear h669
            refine pk0 (v := pt N 0) h670 rfl fun a671 h671 => ?_; clear h670
            have hk672 := hf266.kept hg482 (by simp)
            refine pk (v := .int .i64 tf) h671 rfl (rn_load1 rfl rfl Try.isAgg3 (hk672.cell rfl)) fun a673 h673 => ?_; clear h671
            refine pk0 (v := .int .i64 ((j : Nat) : Int)) h673 rfl fun a674 h674 => ?_; clear h673
            refine pk0 (v := .bool (tf == ((j : Nat) : Int))) h674 rfl fun a675 h675 => ?_; clear h674
            refine pk0 (v := .bool (tf == ((j : Nat) : Int))) h675 rfl fun a676 h676 => ?_; clear h675
            refine pl_nil ?_
            refine co_then ?_
            cases hc677 : (tf == ((j : Nat) : Int))
            ·
             rw [hc677] at h676
             have hp678 : ¬ (tf = ((j : Nat) : Int)) := by first | simpa using hc677 | simpa [and_assoc] using hc677
             clear hc677
             refine co_false h676 rfl ?_
             refine co_reg ?_
             refine pk0 (v := pt b 0) h676 rfl fun a679 h679 => ?_; clear h676
             refine pk0 (v := .int .i64 ((j : Nat) : Int)) h679 rfl fun a680 h680 => ?_; clear h679
             refine pk (v := .agg #[.int .i64 c, .int .i64 r, v, .int .u64 ts]) h680 rfl (rn_loadN rfl rfl Try.underlying37 rfl (by kernel_rfl) hk485.all) fun a681 h681 => ?_; clear h680
             have hbad : badT (L.take ((j : Int) : Int).toNat) (EntT.mk c r (.slice none 0 0) l ts) = false := by rw [bad_at (j := (((j : Nat) : Int) - 1).toNat) (by omega) (by omega) hy637]; exact decide_eq_false (by simp only []; omega)
             have hnn := setE_n (i := ((j : Nat) : Int)) (by omega) (by assumption : (findN L (c, r)).getD 0 = _) (by first | exact .inl (hi259.trans hc276) | exact .inr (by omega))
             have hM688 := hf267.kept hg482 (by simp)
             refine pw h681 rfl (op_call (args := #[pt b 0, .int .i64 ((j : Nat) : Int), .agg #[.int .i64 c, .int .i64 r, v, .int .u64 ts]]) (R := fun res xw => ∃ u2 v2, res = .tuple #[] ∧ LgP S w0.heap.size xw b M u2 (L.take ((j : Nat) : Int).toNat ++ [EntT.mk c r v2 l ts]) ∧ But (S) w0 xw) rfl rfl rfl (by kernel_rfl) (by kernel_rfl) (Try.call60 _ _) (lreplace_any w0 S b M u L ((j : Nat) : Int) c r v l ts w481 hB490 ⟨hk633, ⟨_, hM688⟩, hr645, hE639, hO.sb, hO.sM, hO.su, hO.uq, hO.len⟩ (by omega) hnn hs hvS hlen hts hen) (by rintro e x ⟨u2, v2, rfl, h1, _, h2⟩; exact ⟨_, rfl, u2, v2, rfl, h1, h2⟩)) ?_; clear h681
             rintro _ w683 a682 ⟨u686, v687, rfl, hO684, hB685⟩ h682
             refine pl_nil ?_
             refine co_then ?_
             refine co_seq ?_
             refine co_reg ?_
             refine pk0 (v := .int .i64 0) h682 rfl fun a689 h689 => ?_; clear h682
             refine pl_nil ?_
             refine co_then ?_
             refine wp_ret ?_
             refine co_ret1 h689 rfl rfl ?_
             have hb0 : badT (L.take ((j : Int) : Int).toNat) (EntT.mk c r (.slice none 0 0) l ts) = false := hbad
             have hE := setE_f (i := (j : Int)) (v := .slice none 0 0) (by omega) (by omega) (by omega) hnn hb0
             exact ⟨_, _, ret_int hE.symm, hO684, .inr ⟨hE, .inr ⟨findN_off (by assumption : (findN L (c, r)).getD 0 = _) hnn (by first | exact .inl (hi259.trans hc276) | exact .inr (by omega)), _, rfl⟩⟩, hB685⟩
            ·
             rw [hc677] at h676
             have hp690 : tf = ((j : Nat) : Int) := by first | simpa using hc677 | simpa [and_assoc] using hc677
             clear hc677
             refine co_true h676 rfl ?_
             refine co_reg ?_
             refine pk0 (v := pt b 0) h676 rfl fun a691 h691 => ?_; clear h676
             refine pk0 (v := .int .i64 ((j : Nat) : Int)) h691 rfl fun a692 h692 => ?_; clear h691
             refine pk0 (v := pt N42 3) h692 rfl fun a693 h693 => ?_; clear h692
             refine pk (v := .int .u64 ts) h693 rfl (rn_load1 rfl rfl Try.isAgg23 (hk485.cell rfl)) fun a694 h694 => ?_; clear h693
             have hnn := setE_n (i := (j : Int)) (by omega) (by assumption : (findN L (c, r)).getD 0 = _) (by first | exact .inl (hi259.trans hc276) | exact .inr (by omega))
             have hjl := findN_atl (findN_at (j := j) (by first | exact hi259.trans hc276) (by assumption : (findN L (c, r)).getD 0 = _) (by omega))
             have hbad : badT (L.take ((j : Int) : Int).toNat) (EntT.mk c r (.slice none 0 0) l ts) = false := by rw [bad_at (j := (((j : Nat) : Int) - 1).toNat) (by omega) (by omega) hy637]; exact decide_eq_false (by simp only []; omega)
             have hM699 := hf267.kept hg482 (by simp)
             refine pw h694 rfl (op_call (args := #[pt b 0, .int .i64 ((j : Nat) : Int), .int .u64 ts]) (R := fun res xw => res = .tuple #[] ∧ LgP S w0.heap.size xw b M u (restF L ((j : Nat) : Int).toNat ts) ∧ But (S) w0 xw) rfl rfl rfl (by kernel_rfl) (by kernel_rfl) (Try.call59 _ _) (lrestamp_any w0 S b M u L ((j : Nat) : Int) ts w481 hB490 ⟨hk633, ⟨_, hM699⟩, hr645, hE639, hO.sb, hO.sM, hO.su, hO.uq, hO.len⟩ (by omega) (by omega)) (by rintro e x ⟨rfl, h1, h2⟩; exact ⟨_, rfl, rfl, h1, h2⟩)) ?_; clear h694
             rintro _ w696 a695 ⟨rfl, hO697, hB698⟩ h695
             refine pl_nil ?_
             refine co_then ?_
             refine co_seq ?_
             refine co_reg ?_
             refine pk0 (v := .int .i64 0) h695 rfl fun a700 h700 => ?_; clear h695
             refine pl_nil ?_
             refine co_then ?_
             refine wp_ret ?_
             refine co_ret1 h700 rfl rfl ?_
             have hb0 : badT (L.take ((j : Int) : Int).toNat) (EntT.mk c r (.slice none 0 0) l ts) = false := hbad
             have hE := setE_f (i := (j : Int)) (v := .slice none 0 0) (by omega) (by omega) (by omega) hnn hb0
             exact ⟨_, _, ret_int hE.symm, hO697, .inr ⟨hE, .inl ⟨findN_at (by first | exact hi259.trans hc276) (by assumption : (findN L (c, r)).getD 0 = _) (by omega), rfl⟩⟩, hB698⟩
           ·
            rw [hc667] at h666
            have hp701 : y637.ts ≥ ts := of_decide_eq_true hc667
            clear hc667
            refine co_true h666 rfl ?_
            refine co_seq ?_
            refine co_reg ?_
            refine pk0 (v := .int .i64 18) h666 rfl fun a702 h702 => ?_; clear h666
            refine pl_nil ?_
            refine co_then ?_
            refine wp_ret ?_
            refine co_thenR ?_
            refine co_ret1 h702 rfl rfl ?_
            have hM703 := hf267.kept hg482 (by simp)
            have hE : setE L (j : Int) c r l ts = 18 := setE_e (v := .slice none 0 0) (by omega) (by omega) (by omega) (setE_n (by omega) (by assumption : (findN L (c, r)).getD 0 = _) (by first | exact .inl (hi259.trans hc276) | exact .inr (by omega))) (by rw [bad_at (j := (((j : Nat) : Int) - 1).toNat) (by omega) (by omega) hy637]; exact decide_eq_true (by simp only []; omega))
            exact ⟨_, _, ret_int hE.symm, ⟨hk633, ⟨_, hM703⟩, hr645, hE639, hO.sb, hO.sM, hO.su, hO.uq, hO.len⟩, .same (by rw [hE]; omega), hB490⟩
          ·
           rw [hc651] at h650
           have hp704 : y637.ts = 0 := by first | simpa using hc651 | simpa [and_assoc] using hc651
           clear hc651
           refine dsk 19 h650 rfl rfl rfl fun a705 h705 => ?_; clear h650
           refine dsk 20 h705 rfl rfl rfl fun a706 h706 => ?_; clear h705
           refine dsk 21 h706 rfl rfl rfl fun a707 h707 => ?_; clear h706
           refine dsk 22 h707 rfl rfl rfl fun a708 h708 => ?_; clear h707
           refine dsk 23 h708 rfl rfl rfl fun a709 h709 => ?_; clear h708
           refine dsk 24 h709 rfl rfl rfl fun a710 h710 => ?_; clear h709
           refine dsk 25 h710 rfl rfl rfl fun a711 h711 => ?_; clear h710
           refine dsk 26 h711 rfl rfl rfl fun a712 h712 => ?_; clear h711
           refine dsk 27 h712 rfl rfl rfl fun a713 h713 => ?_; clear h712
           refine dsk 28 h713 rfl rfl rfl fun a714 h714 => ?_; clear h713
           refine dsk 29 h714 rfl rfl rfl fun a715 h715 => ?_; clear h714
           refine dsk 30 h715 rfl rfl rfl fun a716 h716 => ?_; clear h715
           refine dk0 31 (v := .bool true) h716 rfl rfl rfl fun a717 h717 => ?_; clear h716
           refine dk0 32 (v := .bool true) h717 rfl rfl rfl fun a718 h718 => ?_; clear h717
           refine dr_done (by kernel_rfl) ?_
           refine co_then ?_
           refine co_true h718 rfl ?_
           refine co_seq ?_
           refine co_reg ?_
           refine pk0 (v := .int .i64 18) h718 rfl fun a719 h719 => ?_; clear h718
           refine pl_nil ?_
           refine co_then ?_
           refine wp_ret ?_
           refine co_thenR ?_
           refine co_ret1 h719 rfl rfl ?_
           have hM720 := hf267.kept hg482 (by simp)
           have hE : setE L (j : Int) c r l ts = 18 := setE_e (v := .slice none 0 0) (by omega) (by omega) (by omega) (setE_n (by omega) (by assumption : (findN L (c, r)).getD 0 = _) (by first | exact .inl (hi259.trans hc276) | exact .inr (by omega))) (by rw [bad_at (j := (((j : Nat) : Int) - 1).toNat) (by omega) (by omega) hy637]; exact decide_eq_true (by simp only []; omega))
           exact ⟨_, _, ret_int hE.symm, ⟨hk633, ⟨_, hM720⟩, hr645, hE639, hO.sb, hO.sM, hO.su, hO.uq, hO.len⟩, .same (by rw [hE]; omega), hB490⟩
       ·
        rw [hc479] at h478
        have hp721 : tf < ((j : Nat) : Int) := of_decide_eq_true hc479
        clear hc479
        refine co_true h478 rfl ?_
        refine co_seq ?_
        refine co_reg ?_
        refine pk0 (v := .int .i64 18) h478 rfl fun a722 h722 => ?_; clear h478
        refine pl_nil ?_
        refine co_then ?_
        refine wp_ret ?_
        refine co_thenR ?_
        refine co_ret1 h722 rfl rfl ?_
        have hE : setE L (j : Int) c r l ts = 18 := setE_d (by omega) (by omega) (by omega) (by first | exact hi259.trans hc276) (by assumption : (findN L (c, r)).getD 0 = _) (by omega)
        exact ⟨_, _, ret_int hE.symm, ⟨hf264, ⟨_, hf267⟩, hf262, hf263, hO.sb, hO.sM, hO.su, hO.uq, hO.len⟩, .same (by rw [hE]; omega), hB268⟩
     ·
      rw [hc89] at h88
      have hp723 : ((j : Nat) : Int) ≥ 100 := of_decide_eq_true hc89
      clear hc89
      refine co_true h88 rfl ?_
      refine co_seq ?_
      refine co_reg ?_
      refine pk0 (v := .int .i64 6) h88 rfl fun a724 h724 => ?_; clear h88
      refine pl_nil ?_
      refine co_then ?_
      refine wp_ret ?_
      refine co_thenR ?_
      refine co_ret1 h724 rfl rfl ?_
      have hr725 := row_kept_new hr65 (below_grown hb75)
      have hk726 := hk54.below hb75
      have hE : setE L (j : Int) c r l ts = 6 := setE_c (by omega) (by omega) (by omega)
      exact ⟨_, _, ret_int hE.symm, ⟨hk726, ⟨_, hM83⟩, hr725, hE85, hO.sb, hO.sM, hO.su, hO.uq, hO.len⟩, .same (by rw [hE]; omega), hB81⟩
    ·
     rw [hc80] at h79
     have hp727 : chkB c r l ≠ 0 := by first | simpa using hc80 | simpa [and_assoc] using hc80
     clear hc80
     refine co_true h79 rfl ?_
     refine co_seq ?_
     refine co_reg ?_
     refine pk0 (v := .int .i64 (chkB c r l)) h79 rfl fun a728 h728 => ?_; clear h79
     refine pk0 (v := .int .i64 (chkB c r l)) h728 rfl fun a729 h729 => ?_; clear h728
     refine pl_nil ?_
     refine co_then ?_
     refine wp_ret ?_
     refine co_thenR ?_
     refine co_ret1 h729 rfl rfl ?_
     have hr730 := row_kept_new hr65 (below_grown hb75)
     have hk731 := hk54.below hb75
     have hE : setE L (j : Int) c r l ts = chkB c r l := setE_b (by omega) (by omega)
     exact ⟨_, _, ret_int hE.symm, ⟨hk731, ⟨_, hM83⟩, hr730, hE85, hO.sb, hO.sM, hO.su, hO.uq, hO.len⟩, .same (by rw [hE]; omega), hB81⟩
   ·
    rw [hc69] at h68
    have hp732 : ((j : Nat) : Int) > ((L.length : Nat) : Int) := of_decide_eq_true hc69
    clear hc69
    refine co_true h68 rfl ?_
    refine co_seq ?_
    refine co_reg ?_
    refine pk0 (v := .int .i64 1) h68 rfl fun a733 h733 => ?_; clear h68
    refine pl_nil ?_
    refine co_then ?_
    refine wp_ret ?_
    refine co_thenR ?_
    refine co_ret1 h733 rfl rfl ?_
    have hM734 := hm2.kept hg43 (by simp)
    have hE735 := hO.ents.new hg43
    have hE : setE L (j : Int) c r l ts = 1 := setE_a (by omega)
    exact ⟨_, _, ret_int hE.symm, ⟨hk54, ⟨_, hM734⟩, hr65, hE735, hO.sb, hO.sM, hO.su, hO.uq, hO.len⟩, .same (by rw [hE]; omega), hB70⟩
end Go.Proofs.Ytniojcnkjehflaa
