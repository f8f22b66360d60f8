/- Put together: LibQmy, SlQmy, ConfAzQmy, ConfBzQmy, ConfDzQmy, ConfEzQmy, ConfZzQmy, PexQmy, PexBQmy, AppQmy, PexCQmy, PexDQmy, PexTQmy, MapQmy, MapBQmy, MapCQmy, MapRQmy, MapOQmy, ButQmy, PexUQmy, RlgOQmy, OpenQmy, EntRQmy, PexVQmy, RlgIQmy, PexS0Qmy, PexSnQmy, MeAQmy. Conditions: as each says. -/
import Derived.Test.YtaoibbakflacoaaRows
import Derived.WalkKit
import Derived.WalkSpells
import Derived.WalkLawsBesides
import Derived.Deep.LoopGhost
import Derived.Lib.Hide
import Derived.Laws.IdiomStrings
import Derived.Lib.QuietBelow
import Derived.BigQuiet
import Derived.PlainAid
import Derived.Lib.SmallJoins
import Derived.Deep.MidRow
import Derived.Laws.AppendOwnNone
import Derived.Laws.StructEq
import Derived.Laws.Pointers
import Derived.Deep.QuietTactic
import Derived.Deep.RegionHeld3
import Derived.Deep.AppendLies
import Derived.Deep.RegionLaw
import Derived.StringKeys
import Derived.Maps.RangeRun
import Derived.MapKept
import Derived.OwnWalk
import Derived.Lib.AppendStr
import Derived.Laws.BytesArg
import Derived.ProofKit
import Derived.Deep.Slices
import Derived.Deep.Fields
import Derived.SliceStrings
import Derived.SizedLaws
import Derived.Laws.RangeString
import Derived.Laws.Strings
/- Small laws on worlds, rows and bounds that the walks of this seat share. Conditions: none. -/
namespace Go.Proofs.Ytaoibbakflacoaa
open Go.RowKit

theorem ret_int {k : IntKind} {a b : Int} (h : a = b) : Ending.returned (.int k a) = .returned (.int k b) := by rw [h]
theorem ret_bool {a b : Bool} (h : a = b) : Ending.returned (.bool a) = .returned (.bool b) := by rw [h]
theorem wf_u64 {a : Int} (h : (Lit.int .u64 a).wf = true) : 0 ≤ a ∧ a < 18446744073709551616 := by
  have : 0 ≤ a ∧ a ≤ 18446744073709551615 := by simpa [Lit.wf, IntKind.min, IntKind.max, IntKind.signed, IntKind.bits] using h
  omega
theorem wf_i64 {a : Int} (h : (Lit.int .i64 a).wf = true) : -9223372036854775808 ≤ a ∧ a ≤ 9223372036854775807 := by
  simpa [Lit.wf, IntKind.min, IntKind.max, IntKind.signed, IntKind.bits] using h
theorem below_draws {B : Nat} {w w' : World} (h : Below B w w') (n : Nat) : Below B w (w'.drewN n) := ⟨h.os, h.tape, h.output, h.size, h.block⟩
/-- A cell of a world, read behind it. -/
theorem cell_below {w w' : World} (h : Below w.heap.size w w') {a : Addr} {v : Value} (hc : w.cell? a = some v) : w'.cell? a = some v :=
  (h.cell (World.block_lt_of_cell? w a hc)).trans hc
end Go.Proofs.Ytaoibbakflacoaa

/- Slices that are read, whatever their elements: their cells; a struct that is loaded out of one; an append from one. Conditions: none. -/
namespace Go.Proofs.Ytaoibbakflacoaa
open Go.RowKit

/-- The slice v reads as the list l: each element's cells are what enc says, sz of them. -/
def SliceOf {α : Type} (enc : α → List Value) (sz : Nat) (w : World) (v : Value) (l : List α) : Prop :=
  ∃ ao cap, v = .slice ao l.length cap ∧ l.length ≤ cap ∧ cap ≤ 9223372036854775807 ∧ (ao = none → l.length = 0 ∧ cap = 0) ∧
    ∀ j (h : j < l.length), ∃ b off, ao = some ⟨b, off, none⟩ ∧ w.rangeAt b (off + j * sz) (enc l[j])

theorem SliceOf.below {α : Type} {enc : α → List Value} {sz : Nat} {w w' : World} {v : Value} {l : List α} (h : SliceOf enc sz w v l) (hb : Below w.heap.size w w') : SliceOf enc sz w' v l := by
  obtain ⟨ao, cap, hv, h1, h2, h3, h4⟩ := h
  refine ⟨ao, cap, hv, h1, h2, h3, fun j hj => ?_⟩
  obtain ⟨b, off, e, hr⟩ := h4 j hj
  exact ⟨b, off, e, fun i u hu => cell_below hb (hr i u hu)⟩
theorem SliceOf.nil {α : Type} (enc : α → List Value) (sz : Nat) (w : World) : SliceOf enc sz w (.slice none 0 0) ([] : List α) :=
  ⟨none, 0, rfl, by simp, by omega, fun _ => ⟨rfl, rfl⟩, fun j hj => absurd hj (by simp)⟩
/-- One integer a cell. -/
def intE (k : IntKind) (n : Int) : List Value := [.int k n]
/-- The cells of rows of one size, one behind the other. -/
theorem flat_at {α : Type} {enc : α → List Value} {size : Nat} : ∀ (l : List α) (q r : Nat) (hql : q < l.length), (∀ y ∈ l, (enc y).length = size) → r < size → (l.flatMap enc)[q * size + r]? = (enc l[q])[r]?
  | [], q, r, hql, _, _ => absurd hql (by simp)
  | y :: l, 0, r, _, hy, hr => by
    rw [List.flatMap_cons, Nat.zero_mul, Nat.zero_add, List.getElem?_append_left (by rw [hy y (by simp)]; exact hr)]; rfl
  | y :: l, q + 1, r, hql, hy, hr => by
    rw [List.flatMap_cons, List.getElem?_append_right (by rw [hy y (by simp), Nat.add_mul]; omega), hy y (by simp), show (q + 1) * size + r - size = q * size + r by rw [Nat.add_mul]; omega]
    exact flat_at l q r (by simpa using hql) (fun z hz => hy z (by simp [hz])) hr
theorem flat_len {α : Type} {enc : α → List Value} {size : Nat} : ∀ (l : List α), (∀ y ∈ l, (enc y).length = size) → (l.flatMap enc).length = l.length * size
  | [], _ => by simp
  | y :: l, hy => by rw [List.flatMap_cons, List.length_append, hy y (by simp), flat_len l (fun z hz => hy z (by simp [hz])), List.length_cons, Nat.add_mul]; omega
/-- A row of the call's own. -/
theorem SliceOf.own {α : Type} {enc : α → List Value} {sz : Nat} {w : World} {B : Nat} {e : TypeId} {v : Value} {l : List α} (h : w.ownsRow B e sz v l.length (l.flatMap enc)) (hsz : ∀ x ∈ l, (enc x).length = sz) : SliceOf enc sz w v l := by
  rcases h.2 with ⟨hv, hn⟩ | ⟨g, cap, cur, hv, hg, _, hnc, hcm, _⟩
  · obtain rfl : l = [] := List.eq_nil_of_length_eq_zero hn
    rw [hv]; exact SliceOf.nil _ _ _
  · refine ⟨some ⟨g, 0, none⟩, cap, hv, hnc, by unfold maxLen at hcm; omega, fun h => by (cases h), fun j hj => ⟨g, 0, rfl, fun i u hu => ?_⟩⟩
    have hi : i < sz := by rw [← hsz _ (List.getElem_mem hj)]; exact (List.getElem?_eq_some_iff.1 hu).1
    have hlt : j * sz + i < l.length * sz := by
      have : (j + 1) * sz ≤ l.length * sz := Nat.mul_le_mul_right _ hj
      rw [Nat.add_mul] at this; omega
    have hc := h.cells (g := g) (by rw [hv]; rfl) (j * sz + i) u
    rw [Addr.add_lit] at hc
    rw [Nat.zero_add]; rw [Nat.zero_add] at hc
    exact hc (by rw [flat_at l j i hj hsz hi]; exact hu)

end Go.Proofs.Ytaoibbakflacoaa

/- Configurations: members, places. Conditions: none. -/
namespace Go.Proofs.Ytaoibbakflacoaa
open Go.RowKit Go.PlainAid

/-- A member: Id, Serial. -/
abbrev MemT := Int × Int
def memE (m : MemT) : List Value := [.int .i64 m.1, .int .i64 m.2]
def memV (m : MemT) : Value := .agg #[.int .i64 m.1, .int .i64 m.2]
def memOk (m : MemT) : Prop := (-9223372036854775808 ≤ m.1 ∧ m.1 ≤ 9223372036854775807) ∧ (-9223372036854775808 ≤ m.2 ∧ m.2 ≤ 9223372036854775807)
structure ConfT where
  ep : Int
  mv : Value
  ms : List MemT
  fl : Int
instance : Inhabited ConfT := ⟨⟨0, .slice none 0 0, [], 0⟩⟩
def confE (c : ConfT) : List Value := [.int .i64 c.ep, c.mv, .int .u64 c.fl]
def confV (c : ConfT) : Value := .agg #[.int .i64 c.ep, c.mv, .int .u64 c.fl]
structure ConfOk (w : World) (c : ConfT) : Prop where
  ms : SliceOf memE 2 w c.mv c.ms
  each : ∀ m ∈ c.ms, memOk m
  e0 : -9223372036854775808 ≤ c.ep
  e1 : c.ep ≤ 9223372036854775807
  f0 : 0 ≤ c.fl
  f1 : c.fl < 18446744073709551616
theorem ConfOk.below {w w' : World} {c : ConfT} (h : ConfOk w c) (hb : Below w.heap.size w w') : ConfOk w' c := ⟨h.ms.below hb, h.each, h.e0, h.e1, h.f0, h.f1⟩
/-- The place of the first member of which P holds. -/
def fndF (P : MemT → Bool) : List MemT → Nat → Int
  | [], _ => -1
  | m :: r, i => if P m then (i : Int) else fndF P r (i + 1)
theorem fndF_cons {P : MemT → Bool} {l : List MemT} {i : Nat} (h : i < l.length) : fndF P (l.drop i) i = if P l[i] then (i : Int) else fndF P (l.drop (i + 1)) (i + 1) := by
  rw [List.drop_eq_getElem_cons h]; rfl
theorem fndF_end {P : MemT → Bool} {l : List MemT} {i : Nat} (h : l.length ≤ i) : fndF P (l.drop i) i = -1 := by
  rw [List.drop_eq_nil_of_le h]; rfl
def fnd (P : MemT → Bool) (l : List MemT) : Int := fndF P l 0
-- left out here























































-- left out here









end Go.Proofs.Ytaoibbakflacoaa

/- Package conf and the document's own: places, who stands ahead and behind. Conditions: none. -/
namespace Go.Proofs.Ytaoibbakflacoaa
open Go.RowKit Go.PlainAid

def HA (n : Nat) (c : ConfT) (m : MemT) (w' : World) : Prop := w'.cell? ⟨n, 0, none⟩ = some (.int .i64 c.ep) ∧ w'.cell? ⟨n, 1, none⟩ = some c.mv ∧ w'.cell? ⟨n, 2, none⟩ = some (.int .u64 c.fl) ∧ w'.cell? ⟨n + 1, 0, none⟩ = some (.int .i64 m.1) ∧ w'.cell? ⟨n + 1, 1, none⟩ = some (.int .i64 m.2)
theorem HA.step {n : Nat} {c : ConfT} {m : MemT} {w1 w2 : World} (h : w1.cell? ⟨n, 0, none⟩ = some (.int .i64 c.ep) ∧ w1.cell? ⟨n, 1, none⟩ = some c.mv ∧ w1.cell? ⟨n, 2, none⟩ = some (.int .u64 c.fl) ∧ w1.cell? ⟨n + 1, 0, none⟩ = some (.int .i64 m.1) ∧ w1.cell? ⟨n + 1, 1, none⟩ = some (.int .i64 m.2)) (hb : Below w1.heap.size w1 w2) : HA n c m w2 :=
  ⟨cell_below hb h.1, cell_below hb h.2.1, cell_below hb h.2.2.1, cell_below hb h.2.2.2.1, cell_below hb h.2.2.2.2⟩
end Go.Proofs.Ytaoibbakflacoaa

/- Package conf and the document's own: what is wrong with a configuration. Conditions: none. -/
namespace Go.Proofs.Ytaoibbakflacoaa
open Go.RowKit Go.PlainAid

def badId (m : MemT) : Prop := m.1 < 0 ∨ 4 ≤ m.1
def badSer (m : MemT) : Prop := m.2 < 1 ∨ 1073741824 < m.2
instance (m : MemT) : Decidable (badId m) := by unfold badId; infer_instance
instance (m : MemT) : Decidable (badSer m) := by unfold badSer; infer_instance
def chkM : List MemT → List MemT → Int
  | _, [] => 0
  | pre, m :: r => if badId m then 1 else if badSer m then 5 else if 0 ≤ fnd (fun o => o.1 == m.1) pre then 18 else chkM (pre ++ [m]) r
def chkC (ep : Int) (ms : List MemT) : Int := if ep < 1 ∨ 1073741824 < ep then 5 else if ms.length = 0 then 7 else if 4 < ms.length then 6 else chkM [] ms
theorem takeS {α : Type} {l : List α} {i : Nat} (h : i < l.length) : l.take (i + 1) = l.take i ++ [l[i]] := by
  rw [List.take_add_one, List.getElem?_eq_getElem h]; rfl
theorem chkM_at {ms : List MemT} {i : Nat} (h : i < ms.length) : chkM (ms.take i) (ms.drop i) = if badId ms[i] then 1 else if badSer ms[i] then 5 else if 0 ≤ fnd (fun o => o.1 == ms[i].1) (ms.take i) then 18 else chkM (ms.take (i + 1)) (ms.drop (i + 1)) := by
  rw [List.drop_eq_getElem_cons h, takeS h]; rfl
theorem chkM_end {ms : List MemT} {i : Nat} (h : ms.length ≤ i) : chkM (ms.take i) (ms.drop i) = 0 := by
  rw [List.drop_eq_nil_of_le h]; rfl
theorem SliceOf.takeN {α : Type} {enc : α → List Value} {sz : Nat} {w : World} {ao : Option Addr} {cap : Nat} {l : List α} (h : SliceOf enc sz w (.slice ao l.length cap) l) (i : Nat) (hi : i ≤ l.length) : SliceOf enc sz w (.slice ao i cap) (l.take i) := by
  obtain ⟨ao', cap', hv, h1, h2, h3, h4⟩ := h
  injection hv with e1 e2 e3
  subst e1 e3
  have hl : (l.take i).length = i := by rw [List.length_take]; omega
  refine ⟨ao, cap, by rw [hl], by omega, h2, fun e => ⟨by have := (h3 e).1; omega, (h3 e).2⟩, fun j hj => ?_⟩
  obtain ⟨b, off, e, hr⟩ := h4 j (by omega)
  refine ⟨b, off, e, ?_⟩
  rw [List.getElem_take]; exact hr
-- left out here
















































































































































end Go.Proofs.Ytaoibbakflacoaa

/- The document's own conf: what is wrong with a configuration. Conditions: none. -/
namespace Go.Proofs.Ytaoibbakflacoaa
open Go.RowKit Go.PlainAid

set_option maxRecDepth 100000 in
set_option maxHeartbeats 3200000 in
theorem cf_rcheck_any (c : ConfT) (w : World) (h : ConfOk w c) :
    Calls Try.prog 35 #[confV c] w fun e w' => e = .returned (.int .i64 (chkC c.ep c.ms)) ∧ Below w.heap.size w w' := by
  have hmf : ∀ (fn : Fn) (first cap : Array Value) (w : World), (Instr.makeFunc fn first cap).run Try.prog w = .ok (.func fn first cap) w := fun _ _ _ _ => rfl
  obtain ⟨ep, mv, ms, fl⟩ := c
  have hms := h.ms
  obtain ⟨ao, cap, hmv, hcap, hcm, _, hcell⟩ := h.ms
  simp only at hmv hcap hcell hms ⊢
  subst hmv
  unfold confV
  obtain ⟨W, hW⟩ : ∃ W, W = (w.alloc (.cells #[.int .i64 ep, .slice ao ms.length cap, .int .u64 fl] 40)) := ⟨_, rfl⟩
  have hb1 : Below w.heap.size w W := by rw [hW]; exact (Below.refl _ _).alloc (Nat.le_refl _) _
  have q0 : W.cell? ⟨w.heap.size, 0, none⟩ = some (.int .i64 ep) := by rw [hW]; simp
  have q1 : W.cell? ⟨w.heap.size, 1, none⟩ = some (.slice ao ms.length cap) := by rw [hW]; simp
  have Q1 := Lib.hid q1
  have HB := Lib.hid hb1; have HW := Lib.hid hW; have HC := Lib.hid hcell; have HMS := Lib.hid hms
  clear h hb1 hW hcell hms
  by_cases he : ep < 1 ∨ 1073741824 < ep
  · have HZ : Hid (chkC ep ms = 5) := Lib.hid (by unfold chkC; rw [if_pos he])
    rcases (show ep < 1 ∨ (1 ≤ ep ∧ 1073741824 < ep) by omega) with h1 | ⟨h1, h2⟩
    all_goals
      clear he
      go_enter Try.func35, Try.ntmps35
      go_wp2_with fail
      go_ret
      exact ⟨ret_int HZ.out.symm, by have := HB.out; rw [HW.out] at this; exact this⟩
  · have h1 : 1 ≤ ep := by omega
    have h2 : ep ≤ 1073741824 := by omega
    by_cases hl0 : ms.length = 0
    · have HZ : Hid (chkC ep ms = 7) := Lib.hid (by unfold chkC; rw [if_neg he, if_pos hl0])
      have hl1 : ((ms.length : Int) == 0) = true := by simp [hl0]
      clear he hl0
      go_enter Try.func35, Try.ntmps35
      go_wp2_with fail
      go_ret
      exact ⟨ret_int HZ.out.symm, by have := HB.out; rw [HW.out] at this; exact this⟩
    · have hl1 : ((ms.length : Int) == 0) = false := beq_eq_false_iff_ne.2 (by omega)
      by_cases hl4 : 4 < ms.length
      · have HZ : Hid (chkC ep ms = 6) := Lib.hid (by unfold chkC; rw [if_neg he, if_neg hl0, if_pos hl4])
        clear he hl0
        go_enter Try.func35, Try.ntmps35
        go_wp2_with fail
        go_ret
        exact ⟨ret_int HZ.out.symm, by have := HB.out; rw [HW.out] at this; exact this⟩
      · have HZ : Hid (chkC ep ms = chkM (ms.take 0) (ms.drop 0)) := Lib.hid (by unfold chkC; rw [if_neg he, if_neg hl0, if_neg hl4]; rfl)
        clear he hl0
        go_enter Try.func35, Try.ntmps35
        go_wp2_with fail
        rw [← HW.out]
        go_loopg [3] (ms.length + 1) (fun g s3 wr => ∃ i : Nat, s3 = .int .i64 i ∧ i ≤ ms.length ∧ ms.length + 1 ≤ i + g ∧ chkC ep ms = chkM (ms.take i) (ms.drop i) ∧ Below W.heap.size W wr)
        case atStart => exact ⟨0, rfl, by omega, by omega, HZ.out, Below.refl _ _⟩
        case round =>
          clear HZ
          obtain ⟨i, rfl, hi, hg, hf, hwr⟩ := hrel
          have HF := Lib.hid hf; have HWR := Lib.hid hwr
          have hbw : Below w.heap.size w wr := HB.out.trans (hwr.mono HB.out.size)
          have HBW := Lib.hid hbw
          have q1 := cell_below hwr Q1.out
          have hsz := hbw.size
          have hszW : w.heap.size < wr.heap.size := World.block_lt_of_cell? wr _ q1
          clear hf hwr hbw
          by_cases hlt : i < ms.length
          · obtain ⟨b, off, rfl, hr⟩ := HC.out i hlt
            have hr1 : wr.rangeAt b (off + i * 2) (memE ms[i]) := fun j u hu => cell_below HBW.out (hr j u hu)
            have HS := Lib.hid (chkM_at hlt)
            obtain ⟨m, hm⟩ : ∃ m, m = ms[i] := ⟨_, rfl⟩
            rw [← hm] at hr1 HS
            have HR := Lib.hid hr1; have HR0 := Lib.hid hr1
            obtain ⟨W2, hW2⟩ : ∃ W2, W2 = wr.alloc (.cells #[.int .i64 m.1, .int .i64 m.2] 105) := ⟨_, rfl⟩
            have hb2 : Below wr.heap.size wr W2 := by rw [hW2]; exact (Below.refl _ _).alloc (Nat.le_refl _) _
            have c0 : W2.cell? ⟨wr.heap.size, 0, none⟩ = some (.int .i64 m.1) := by rw [hW2]; simp
            have c1 : W2.cell? ⟨wr.heap.size, 1, none⟩ = some (.int .i64 m.2) := by rw [hW2]; simp
            have C0 := Lib.hid c0; have C1 := Lib.hid c1
            have HB2 := Lib.hid (HBW.out.trans (hb2.mono hsz))
            have HBW2 := Lib.hid (HWR.out.trans (hb2.mono HWR.out.size))
            have HT := Lib.hid ((HMS.out.takeN i hi).below HB2.out)
            have HW2 := Lib.hid hW2
            clear hr hr1 hm hW2 hb2 c0 c1
            by_cases hbi : badId m
            · have HZ : Hid (chkC ep ms = 1) := Lib.hid (by rw [HF.out, HS.out, if_pos hbi])
              unfold badId at hbi
              rcases (show m.1 < 0 ∨ (0 ≤ m.1 ∧ 4 ≤ m.1) by omega) with k1 | ⟨k1, k2⟩
              all_goals
                clear hbi
                go_wp2_with (refine wpList_load_mid rfl 105 (.tmp 32) rfl b (off + i * 2) rfl (memE m) _ HR.out Try.underlying105 rfl (by kernel_rfl) ?_; unfold memE)
                go_ret
                exact ⟨ret_int HZ.out.symm, by have := HB2.out; rw [HW2.out] at this; exact this⟩
            · by_cases hbs : badSer m
              · have HZ : Hid (chkC ep ms = 5) := Lib.hid (by rw [HF.out, HS.out, if_neg hbi, if_pos hbs])
                unfold badId at hbi
                unfold badSer at hbs
                have k1 : 0 ≤ m.1 := by omega
                have k2 : m.1 < 4 := by omega
                rcases (show m.2 < 1 ∨ (1 ≤ m.2 ∧ 1073741824 < m.2) by omega) with k3 | ⟨k3, k4⟩
                all_goals
                  clear hbi hbs
                  go_wp2_with (refine wpList_load_mid rfl 105 (.tmp 32) rfl b (off + i * 2) rfl (memE m) _ HR.out Try.underlying105 rfl (by kernel_rfl) ?_; unfold memE)
                  go_ret
                  exact ⟨ret_int HZ.out.symm, by have := HB2.out; rw [HW2.out] at this; exact this⟩
              · have HZ2 : Hid (0 ≤ fnd (fun o => o.1 == m.1) (ms.take i) → chkC ep ms = 18) := Lib.hid (fun h => by rw [HF.out, HS.out, if_neg hbi, if_neg hbs, if_pos h])
                have HZ3 : Hid (¬ 0 ≤ fnd (fun o => o.1 == m.1) (ms.take i) → chkC ep ms = chkM (ms.take (i + 1)) (ms.drop (i + 1))) := Lib.hid (fun h => by rw [HF.out, HS.out, if_neg hbi, if_neg hbs, if_neg h])
                unfold badId at hbi
                unfold badSer at hbs
                have k1 : 0 ≤ m.1 := by omega
                have k2 : m.1 < 4 := by omega
                have k3 : 1 ≤ m.2 := by omega
                have k4 : m.2 ≤ 1073741824 := by omega
                have hzW2 : W2.heap.size = wr.heap.size + 1 := by rw [HW2.out]; simp
                have HQ2 := Lib.hid (cell_below HBW2.out Q1.out)
                clear hbi hbs HF HS HR hzW2
                obtain ⟨bm, hbm⟩ : ∃ bm, bm = wr.heap.size := ⟨_, rfl⟩
                go_wp2_with (refine wpList_load_mid rfl 105 (.tmp 32) rfl b (off + i * 2) rfl (memE m) _ (fun j u hu => HR0.out j u hu) Try.underlying105 rfl (by kernel_rfl) ?_; unfold memE)
                rw [← HW2.out]
                rw [← hbm] at C0 C1 ⊢
                obtain ⟨gO, hgO⟩ : ∃ gO, gO = gk := ⟨_, rfl⟩
                rw [← hgO] at hg
                have HGO := Lib.hid hgO
                obtain ⟨wo, hwo⟩ : ∃ wo : World, wo = wr := ⟨_, rfl⟩
                clear hbm hszW hsz hgO q1 hwo
                go_loopg [5] (i + 1) (fun g s5 wr => ∃ k : Nat, s5 = .int .i64 k ∧ k ≤ i ∧ i + 1 ≤ k + g ∧ fnd (fun o => o.1 == m.1) (ms.take i) = fndF (fun o => o.1 == m.1) ((ms.take i).drop k) k ∧ Below W2.heap.size W2 wr)
                case atStart => exact ⟨0, rfl, by omega, by omega, rfl, Below.refl _ _⟩
                case round =>
                  obtain ⟨k, rfl, hk, hg2, hf2, hwq⟩ := hrel
                  have hbq : Below w.heap.size w wr := HB2.out.trans (hwq.mono HB2.out.size)
                  have hbQ : Below W.heap.size W wr := HBW2.out.trans (hwq.mono HBW2.out.size)
                  have q1 := cell_below hwq HQ2.out
                  have e0 := cell_below hwq C0.out
                  have HBQ := Lib.hid hbq; have HBQW := Lib.hid hbQ; have HF2 := Lib.hid hf2; have HWQ := Lib.hid hwq
                  clear hf2 hwq hbQ
                  by_cases hlt2 : k < i
                  · obtain ⟨b2, off2, he2, hr2⟩ := HC.out k (by omega)
                    have hkl : k < (ms.take i).length := by rw [List.length_take]; omega
                    have HS2 := Lib.hid (fndF_cons (P := fun o => o.1 == m.1) hkl)
                    have hge : (ms.take i)[k] = ms[k] := by rw [List.getElem_take]
                    rw [hge] at HS2
                    injection he2 with he3
                    injection he3 with h31 h32 h33
                    subst h31 h32
                    have d0 := cell_below hbq (hr2 0 _ rfl)
                    rw [Nat.add_zero] at d0
                    obtain ⟨o, ho⟩ : ∃ o, o = ms[k] := ⟨_, rfl⟩
                    rw [← ho] at d0 HS2
                    have hkm : k < ms.length := by omega
                    clear hr2 ho hge hbq hkl
                    by_cases hP : (o.1 == m.1) = true
                    · have HS3 : Hid (chkC ep ms = 18) := Lib.hid (HZ2.out (by rw [HF2.out, HS2.out]; simp only [hP, if_true]; omega))
                      go_wp2_with fail
                      go_quiet (fail)
                      go_wp2
                      go_ret
                      exact ⟨ret_int HS3.out.symm, below_draws HBQ.out _⟩
                    · have hP2 : (o.1 == m.1) = false := by simpa using hP
                      have HS3 : Hid (fnd (fun o => o.1 == m.1) (ms.take i) = fndF (fun o => o.1 == m.1) ((ms.take i).drop (k + 1)) (k + 1)) := Lib.hid (by rw [HF2.out, HS2.out]; simp only [hP2]; rfl)
                      clear hP
                      go_wp2_with fail
                      go_quiet (fail)
                      go_wp2
                      go_roundg (gk - 1)
                      case rel => exact ⟨k + 1, by go_num, by omega, by omega, HS3.out, below_draws HWQ.out _⟩
                      case measure => omega
                  · have HS3 : Hid (fnd (fun o => o.1 == m.1) (ms.take i) = -1) := Lib.hid (by rw [HF2.out, fndF_end (by rw [List.length_take]; omega)])
                    have HZ4 := Lib.hid (HZ3.out (by rw [HS3.out]; omega))
                    clear hbq
                    go_wp2
                    go_roundg (gO - 1)
                    case rel => exact ⟨i + 1, by go_num, by omega, by omega, HZ4.out, HBQW.out⟩
                    case measure => have := HGO.out; omega
          · have HZ : Hid (chkC ep ms = 0) := Lib.hid (by rw [HF.out, chkM_end (by omega)])
            go_wp2
            go_ret
            exact ⟨ret_int HZ.out.symm, HBW.out⟩
end Go.Proofs.Ytaoibbakflacoaa

/- Package conf and the document's own: Check, Same, as the generator wants them. Conditions: none. -/
namespace Go.Proofs.Ytaoibbakflacoaa
open Go.RowKit Go.PlainAid
set_option linter.unusedVariables false

-- left out here

theorem wrcheck_any (ep : Int) (mv : Value) (ms : List MemT) (fl : Int) (w : World) (hs : SliceOf memE 2 w mv ms) (hmk : ∀ m ∈ ms, memOk m) (he : -9223372036854775808 ≤ ep ∧ ep ≤ 9223372036854775807) (hf : 0 ≤ fl ∧ fl < 18446744073709551616) :
    Calls Try.prog 35 #[.agg #[.int .i64 ep, mv, .int .u64 fl]] w fun e w' => e = .returned (.int .i64 (chkC ep ms)) ∧ Below w.heap.size w w' := cf_rcheck_any ⟨ep, mv, ms, fl⟩ w ⟨hs, hmk, he.1, he.2, hf.1, hf.2⟩
end Go.Proofs.Ytaoibbakflacoaa

/- Steps of a walk over known slots: what a frame's slots hold is kept as a list; each operation, branch and loop by one law. Conditions: none. -/
namespace Go.Proofs.Ytaoibbakflacoaa
open Go.RowKit

section
variable {P : Program} {n : Nat} {m : List (Nat × Value)} {a : Act} {w : World}

/-- What is known of a frame: its size, that nothing is deferred, what some of its slots hold. -/
structure Slots (n : Nat) (m : List (Nat × Value)) (a : Act) : Prop where
  size : a.tmps.size = n
  defers : a.defers = []
  look : ∀ t v, m.lookup t = some v → a.tmps.getD t undef = v

def ev (m : List (Nat × Value)) : Operand → Option Value
  | .tmp t => m.lookup t
  | .const v => some v
  | .global g => some (.pointer (some ⟨g, 0, none⟩))
  | .func f => some (.func (.func f) #[] #[])
theorem Slots.ev (h : Slots n m a) {x : Operand} {v : Value} (hx : ev m x = some v) : a.eval x = v := by
  cases x with
  | tmp t => exact h.look t v hx
  | const u => simpa [Go.Proofs.Ytaoibbakflacoaa.ev, Act.eval] using hx
  | global g => simpa [Go.Proofs.Ytaoibbakflacoaa.ev, Act.eval] using hx
  | func f => simpa [Go.Proofs.Ytaoibbakflacoaa.ev, Act.eval] using hx
def lk (m : List (Nat × Value)) (x : Operand) : Value := (ev m x).getD undef
def okOps (m : List (Nat × Value)) (o : Op) : Bool := o.operands.all fun x => (ev m x).isSome
theorem Slots.lk (h : Slots n m a) {x : Operand} (hx : (Go.Proofs.Ytaoibbakflacoaa.ev m x).isSome = true) : a.eval x = lk m x := by
  obtain ⟨v, hv⟩ := Option.isSome_iff_exists.1 hx
  rw [h.ev hv]; simp [Go.Proofs.Ytaoibbakflacoaa.lk, hv]
theorem Slots.put {d : Nat} {v : Value} (h : Slots n m a) (hd : d < n) : Slots n ((d, v) :: m) (a.put (some d) v) := by
  obtain ⟨h1, h2, h3⟩ := h
  refine ⟨by simp [Act.put, h1], h2, fun t u ht => ?_⟩
  rw [List.lookup_cons] at ht
  by_cases e : t = d
  · subst e
    simp at ht
    subst ht
    simp [Act.put, h1, hd]
  · have : (t == d) = false := by simpa using e
    rw [this] at ht
    have := h3 t u ht
    simp only [Act.put, Array.getD_eq_getD_getElem?] at this ⊢
    rw [Array.getElem?_setIfInBounds_ne (by omega)]
    exact this
/-- Less is known. -/
def Sub (m : List (Nat × Value)) : List (Nat × Value) → Prop
  | [] => True
  | p :: r => m.lookup p.1 = some p.2 ∧ Sub m r
theorem slot_eq {m : List (Nat × Value)} {t : Nat} {v v' : Value} (h : m.lookup t = some v) (e : v = v') : m.lookup (t, v').1 = some (t, v').2 := by subst e; exact h
theorem Sub.get {m : List (Nat × Value)} : ∀ {l : List (Nat × Value)}, Sub m l → ∀ t v, l.lookup t = some v → m.lookup t = some v
  | [], _, t, v, h => by simp at h
  | p :: r, hs, t, v, h => by
    rw [List.lookup_cons] at h
    by_cases e : t = p.1
    · subst e; simp at h; subst h; exact hs.1
    · have : (t == p.1) = false := by simpa using e
      rw [this] at h
      exact hs.2.get t v h
theorem Slots.sub {l : List (Nat × Value)} (h : Slots n m a) (hs : Sub m l) : Slots n l a := ⟨h.size, h.defers, fun t v ht => h.look t v (hs.get t v ht)⟩
theorem Slots.none {dst : Option Tmp} {v : Value} (h : Slots n m a) (hd : dst = none) : Slots n m (a.put dst v) := by subst hd; exact h

/-- Operation o, in a frame of which m is known and in world w: its value and the world behind it. -/
def Op1 (P : Program) (n : Nat) (m : List (Nat × Value)) (o : Oper) (w : World) (R : Value → World → Prop) : Prop :=
  ∀ a, Slots n m a → ∀ (N : Act → World → Prop) (Q : Exit → Act → World → Prop), (∀ v w', R v w' → N (a.put o.dst v) w') → o.wp P a w N Q

variable {o : Oper} {ops : Array Oper} {rest : List Oper} {Q : Exit → Act → World → Prop} {R : Value → World → Prop}
theorem op_run {v : Value} {w' : World} (hok : okOps m o.op = true) (hsel : (match o.op with | .select .. => true | _ => false) = false) (hrun : (execOp (lk m) o).run P w = .ok (.value v) w') : Op1 P n m o w (fun u x => u = v ∧ x = w') := by
  intro a ha N Q h
  have he : execOp a.eval o = execOp (lk m) o := execOp_congr o (fun cs b e => by simp [e] at hsel) (fun x hx => ha.lk (Array.all_eq_true_iff_forall_mem.1 hok x hx))
  unfold Oper.wp
  rw [he, hrun]
  exact h _ _ ⟨rfl, rfl⟩
theorem Op1.mono {R' : Value → World → Prop} (h : Op1 P n m o w R) (hr : ∀ v w', R v w' → R' v w') : Op1 P n m o w R' := fun a ha N Q hN => h a ha N Q fun v w' hv => hN v w' (hr v w' hv)
/-- A call of a Go function. -/
theorem op_call {c : Call} {x : Operand} {f : FuncId} {args : Array Value} {E : Ending → World → Prop} (ho : o.op = .call c) (hc : c.callee = .value x) (hf : ev m x = some (.func (.func f) #[] #[]))
    (hok : okOps m o.op = true) (hargs : c.args.map (lk m) = args) (hcall : (callFunc f args).run P w = .ok (.enter f args) w) (h : Calls P f args w E) (hE : ∀ e w', E e w' → ∃ v, e = .returned v ∧ R v w') : Op1 P n m o w R := by
  intro a ha N Q hN
  have he : execOp a.eval o = execOp (lk m) o := execOp_congr o (fun cs b e => by simp [e] at ho) (fun x hx => ha.lk (Array.all_eq_true_iff_forall_mem.1 hok x hx))
  unfold Oper.wp
  rw [he]
  have hfx : lk m x = .func (.func f) #[] #[] := by simp [lk, hf]
  have : (execOp (lk m) o).run P w = .ok (.enter f args) w := by
    simp only [execOp, ho, resolve, hc, hfx, Deferred.ofValue, hargs, Sem.run_bind, Sem.run_pure, Result.andThen_ok, invoke]
    simpa using hcall
  rw [this, Oper.upon_enter]
  refine h.mono fun e w' he => ?_
  obtain ⟨v, rfl, hv⟩ := hE e w' he
  exact hN v w' hv
theorem lk_ev {x : Operand} {v : Value} (hx : ev m x = some v) : lk m x = v := by simp [lk, hx]
/-- One cell is loaded. -/
theorem rn_load1 {t : TypeId} {x : Operand} {p : Addr} {v : Value} (ho : o.op = .load t x) (hx : ev m x = some (.pointer (some p))) (ht : ∀ w : World, (isAgg t).run P w = .ok false w) (hc : w.cell? p = some v) : (execOp (lk m) o).run P w = .ok (.value v) w := by
  unfold execOp
  have hl : (Instr.loadAt t (.pointer (some p))).run P w = .ok v w := by
    simp [Instr.loadAt, Instr.sureAddr, loadVar, ht, Sem.run_bind, load, Sem.run, hc]
  simp only [ho, lk_ev hx, Sem.run_bind, hl, Result.andThen_ok, Sem.run_pure]
/-- Several cells are loaded. -/
theorem rn_loadN {t : TypeId} {x : Operand} {b o' : Nat} {cs : List Value} {d : TypeDesc} (ho : o.op = .load t x) (hx : ev m x = some (.pointer (some ⟨b, o', none⟩))) (hu : P.underlying t = some d) (hd : d.isRow = true) (hi : (P.info? t).map (·.size) = some cs.length) (hc : w.rangeAt b o' cs) : (execOp (lk m) o).run P w = .ok (.value (.agg cs.toArray)) w := by
  unfold execOp
  simp only [ho, lk_ev hx, Instr.loadAt, Instr.sureAddr, Sem.run_bind, Sem.run_pure, Result.andThen_ok, run_loadVar_mid w b o' t cs d hc hu hd hi]
/-- An int's sum, difference, product that is in range. -/
theorem rn_arith {op : BinOp} {T T' : TypeId} {x y : Operand} {k : IntKind} {i j z : Int} (ho : o.op = .binOp op T x y T') (hx : ev m x = some (.int k i)) (hy : ev m y = some (.int k j)) (hop : Op.intArith op k i j = .pure (.int k (k.wrap z))) (hne : (op matches .shl | .shr | .eql | .neq) = false) (hcl : binOp op T (.int k i) (.int k j) = Op.intArith op k i j) (hz : k.wrap z = z) : (execOp (lk m) o).run P w = .ok (.value (.int k z)) w := by
  unfold execOp
  have hg : (eqGuard op T x y (.int k i) (.int k j)).run P w = .ok () w := by
    unfold eqGuard
    cases op <;> simp at hne <;> rfl
  simp only [ho, lk_ev hx, lk_ev hy, Sem.run_bind, hg, hcl, hop, hz, Result.andThen_ok]
  rfl

theorem rn_arith' {op : BinOp} {T T' : TypeId} {x y : Operand} {k : IntKind} {i j z z' : Int} (ho : o.op = .binOp op T x y T') (hx : ev m x = some (.int k i)) (hy : ev m y = some (.int k j)) (hop : Op.intArith op k i j = .pure (.int k (k.wrap z))) (hne : (op matches .shl | .shr | .eql | .neq) = false) (hcl : binOp op T (.int k i) (.int k j) = Op.intArith op k i j) (hz : k.wrap z = z) (he : z = z') : (execOp (lk m) o).run P w = .ok (.value (.int k z')) w := by
  subst he; exact rn_arith ho hx hy hop hne hcl hz
theorem rn_conv {S' T : TypeId} {x : Operand} {k k' : IntKind} {i : Int} {d : TypeDesc} (ho : o.op = .convert S' T x) (hx : ev m x = some (.int k' i)) (hS : P.underlying S' = some d) (ht : P.underlying T = some (.int k)) (hz : k.wrap i = i) : (execOp (lk m) o).run P w = .ok (.value (.int k i)) w := by
  unfold execOp
  simp only [ho, lk_ev hx, convert, Sem.run_bind, run_underlying hS, run_underlying ht, Result.andThen_ok]
  cases d <;> simp [Conv.intToInt, hz]
section minmax
variable {ts : Array TypeId} {x y : Operand} {k : IntKind} {i j : Int}
theorem rn_max1 (ho : o.op = .call { callee := .builtin .max, args := #[x, y], argTypes := ts }) (hx : ev m x = some (.int k i)) (hy : ev m y = some (.int k j)) (_h : True = True) (h : j ≤ i) : (execOp (lk m) o).run P w = .ok (.value (.int k i)) w := by
  unfold execOp
  have hn : ¬ i < j := by omega
  simp [ho, lk_ev hx, lk_ev hy, resolve, invoke, builtin, Builtin.max_, Builtin.max2, hn]
end minmax

/-! ### A plain region -/
theorem pl_nil (h : Q .normal a w) : wpList P ops Q [] a w := h
theorem getD_some {tmps : Array Value} {t : Nat} {b : Bool} (h : tmps.getD t undef = .bool b) : tmps[t]? = some (.bool b) := by
  rw [Array.getD_eq_getD_getElem?] at h
  cases hx : tmps[t]? with
  | none => rw [hx] at h; simp [undef] at h
  | some u => rw [hx] at h; simp at h; rw [h]
/-- Is a guarded operation wanted? -/
def wantB (m : List (Nat × Value)) (ops : Array Oper) (o : Oper) : Option Bool :=
  match o.guard with
  | none => some true
  | some (g, b) => match ((ops[g]?).bind (·.dst)).bind (m.lookup ·) with
    | some (.bool c) => some (c == b)
    | some (.tuple _) => some false
    | _ => none
theorem Slots.wants {c : Bool} (hs : Slots n m a) (h : wantB m ops o = some c) : Region.wanted o (yielded ops a.tmps) = c := by
  unfold wantB at h
  unfold Region.wanted
  cases hg : o.guard with
  | none => rw [hg] at h; simpa using h
  | some p =>
    obtain ⟨g, b⟩ := p
    rw [hg] at h
    simp only at h ⊢
    cases hd : (ops[g]?).bind (·.dst) with
    | none => rw [hd] at h; simp at h
    | some d =>
      rw [hd] at h
      simp only [Option.bind_some] at h
      cases hm : m.lookup d with
      | none => rw [hm] at h; simp at h
      | some u =>
        rw [hm] at h
        cases u <;> simp at h
        · rename_i q
          have := getD_some (hs.look d _ hm)
          simp [yielded, hd, this, h]
        · rename_i q
          subst h
          have h1 := hs.look d _ hm
          rw [Array.getD_eq_getD_getElem?] at h1
          have h2 : yielded ops a.tmps g = Option.none := by
            unfold yielded
            rw [hd]
            simp only [Option.bind_some]
            cases hx : a.tmps[d]? with
            | none => rfl
            | some u => rw [hx] at h1; simp at h1; subst h1; rfl
          rw [h2]; rfl
theorem pl_want {d : Nat} (hs : Slots n m a) (hg : wantB m ops o = some true) (hd : o.dst = some d) (hdn : Nat.blt d n = true) (h1 : Op1 P n m o w R)
    (h : ∀ v w' a', R v w' → Slots n ((d, v) :: m) a' → wpList P ops Q rest a' w') : wpList P ops Q (o :: rest) a w :=
  wpList_step fun K hK => by
    rw [if_pos (hs.wants hg)]
    exact h1 a hs K Q fun v w' hv => hK _ _ (h v w' _ hv (by rw [hd]; exact hs.put (by simpa using hdn)))
theorem pl_doW (hs : Slots n m a) (hg : wantB m ops o = some true) (hd : o.dst = none) (h1 : Op1 P n m o w R)
    (h : ∀ v w' a', R v w' → Slots n m a' → wpList P ops Q rest a' w') : wpList P ops Q (o :: rest) a w :=
  wpList_step fun K hK => by
    rw [if_pos (hs.wants hg)]
    exact h1 a hs K Q fun v w' hv => hK _ _ (h v w' _ hv (hs.none hd))
theorem pl_skip {d : Nat} (hs : Slots n m a) (hg : wantB m ops o = some false) (hd : o.dst = some d) (hdn : Nat.blt d n = true)
    (h : ∀ a', Slots n ((d, undef) :: m) a' → wpList P ops Q rest a' w) : wpList P ops Q (o :: rest) a w :=
  wpList_step fun K hK => by
    rw [if_neg (by simp [hs.wants hg])]
    exact hK _ _ (h _ (by rw [hd]; exact hs.put (by simpa using hdn)))

/-- An operation that leaves the world as it is. -/
theorem pl_val {d : Nat} {v : Value} (hs : Slots n m a) (hg : wantB m ops o = some true) (hd : o.dst = some d) (hdn : Nat.blt d n = true) (hok : okOps m o.op = true) (hsel : (match o.op with | .select .. => true | _ => false) = false) (hrun : (execOp (lk m) o).run P w = .ok (.value v) w)
    (h : ∀ a', Slots n ((d, v) :: m) a' → wpList P ops Q rest a' w) : wpList P ops Q (o :: rest) a w :=
  pl_want hs hg hd hdn (op_run hok hsel hrun) fun _ _ a' ⟨h1, h2⟩ hs' => by subst h1 h2; exact h a' hs'
/-! ### A region that draws its order -/
variable {md : Region.Mode} {S : World → Prop} {fuel : Nat} {listed : Array Bool} {i d : Nat}
abbrev NP (Q : Exit → Act → World → Prop) := NoPanic Q
theorem dr_start {id : Nat} {l : List Oper} (hm : P.follows .mixedOrders = true) (hS : S w.drew) (h : wpAnyH P .any l.toArray (NP Q) S l.length (Array.replicate l.length false) a w.drew) : (Code.region id l.toArray true).wp P Q a w :=
  wp_region_noPanic (wp_region_held_drew (S := S) hm hS fun _ => by simpa using h)
/-- Number i, which yields v in every world that meets S, is taken first. -/
theorem dr_take {v : Value} (hs : Slots n m a) (ho : ops[i]? = some o) (hsel : Region.noSelect ops = true) (hf : Region.free md ops listed i = true) (hr : (Region.ready md ops listed).contains i = true)
    (hw : wantB m ops o = some true) (hd : o.dst = some d) (hdn : Nat.blt d n = true) (hS : S w) (hok : okOps m o.op = true) (hrun : ∀ w, S w → (execOp (lk m) o).run P w = .ok (.value v) w)
    (h : ∀ a', Slots n ((d, v) :: m) a' → wpAnyH P md ops (NP Q) S fuel (listed.setIfInBounds i true) a' w) : wpAnyH P md ops (NP Q) S (fuel + 1) listed a w := by
  have he : execOp a.eval o = execOp (lk m) o := execOp_congr o (fun cs b e => Region.noSelect_spec hsel i o cs b ho e) (fun x hx => hs.lk (Array.all_eq_true_iff_forall_mem.1 hok x hx))
  refine wpAnyH_take ho hsel hf hr (fun _ _ _ h => h) (Or.inl ⟨hs.wants hw, fun w' hw' => by rw [he]; exact hrun w' hw'⟩) hS ?_
  exact h _ (by rw [hd]; exact hs.put (by simpa using hdn))
/-- Number i, which is not wanted. -/
theorem dr_skip (hs : Slots n m a) (ho : ops[i]? = some o) (hsel : Region.noSelect ops = true) (hf : Region.free md ops listed i = true) (hr : (Region.ready md ops listed).contains i = true)
    (hw : wantB m ops o = some false) (hd : o.dst = some d) (hdn : Nat.blt d n = true) (hS : S w)
    (h : ∀ a', Slots n ((d, undef) :: m) a' → wpAnyH P md ops (NP Q) S fuel (listed.setIfInBounds i true) a' w) : wpAnyH P md ops (NP Q) S (fuel + 1) listed a w := by
  refine wpAnyH_take ho hsel hf hr (fun _ _ _ h => h) (Or.inr ⟨hs.wants hw, rfl⟩) hS ?_
  exact h _ (by rw [hd]; exact hs.put (by simpa using hdn))
/-- Number i alone may come up. -/
theorem dr_one (hs : Slots n m a) (ho : ops[i]? = some o) (hr : Region.ready md ops listed = [i]) (hw : wantB m ops o = some true) (hd : o.dst = some d) (hdn : Nat.blt d n = true) (h1 : Op1 P n m o w R) (hS : ∀ v w', R v w' → S w')
    (h : ∀ v w' a', R v w' → Slots n ((d, v) :: m) a' → wpAnyH P md ops (NP Q) S fuel (listed.setIfInBounds i true) a' w') : wpAnyH P md ops (NP Q) S (fuel + 1) listed a w := by
  refine wpAnyH_all hr (by simp) fun j hj => ?_
  simp only [List.mem_singleton] at hj
  subst hj
  unfold wpOp
  simp only [ho, hs.wants hw, if_true]
  exact .inl (h1 a hs _ _ fun v w' hv => ⟨hS v w' hv, h v w' _ hv (by rw [hd]; exact hs.put (by simpa using hdn))⟩)
theorem dr_oneDo (hs : Slots n m a) (ho : ops[i]? = some o) (hr : Region.ready md ops listed = [i]) (hw : wantB m ops o = some true) (hd : o.dst = none) (h1 : Op1 P n m o w R) (hS : ∀ v w', R v w' → S w')
    (h : ∀ v w' a', R v w' → Slots n m a' → wpAnyH P md ops (NP Q) S fuel (listed.setIfInBounds i true) a' w') : wpAnyH P md ops (NP Q) S (fuel + 1) listed a w := by
  refine wpAnyH_all hr (by simp) fun j hj => ?_
  simp only [List.mem_singleton] at hj
  subst hj
  unfold wpOp
  simp only [ho, hs.wants hw, if_true]
  exact .inl (h1 a hs _ _ fun v w' hv => ⟨hS v w' hv, h v w' _ hv (hs.none hd)⟩)
theorem dr_done (hr : Region.ready md ops listed = []) (h : Q .normal a w) : wpAnyH P md ops (NP Q) S fuel listed a w := wpAnyH_done hr (NoPanic.normal h) fuel

/-! ### Code -/
theorem co_seq {x y : Code} (h : x.wp P (Exit.then (y.wp P Q) Q) a w) : (Code.seq x y).wp P Q a w := wp_seq h
theorem co_reg {id : Nat} {l : List Oper} (h : wpList P l.toArray Q l a w) : (Code.region id l.toArray false).wp P Q a w := wp_region_lit h
theorem co_then {K : Act → World → Prop} (h : K a w) : Exit.then K Q .normal a w := h
theorem co_true {c : Operand} {x y : Code} (hs : Slots n m a) (hc : ev m c = some (.bool true)) (h : x.wp P Q a w) : (Code.cond c x y).wp P Q a w := wp_cond_true (hs.ev hc) h
theorem co_false {c : Operand} {x y : Code} (hs : Slots n m a) (hc : ev m c = some (.bool false)) (h : y.wp P Q a w) : (Code.cond c x y).wp P Q a w := wp_cond_false (hs.ev hc) h
theorem co_loop {c : Code} (I : Nat → Act → World → Prop) (k : Nat) (h₀ : I k a w) (round : ∀ k a w, I k a w → c.wp P (Exit.then (fun a' w' => ∃ k', k' < k ∧ I k' a' w') Q) a w) : (Code.loop c).wp P Q a w := wp_loop_ghost I k h₀ round
theorem co_thenX {K : Act → World → Prop} {i : Nat} (h : Q (.exit i) a w) : Exit.then K Q (.exit i) a w := h
theorem co_thenR {K : Act → World → Prop} (h : Q .ret a w) : Exit.then K Q .ret a w := h
theorem co_blockN {i : Nat} (h : Q .normal a w) : Exit.inBlock i Q .normal a w := h
theorem co_blockX {i : Nat} (h : Q .normal a w) : Exit.inBlock i Q (.exit i) a w := by simpa [Exit.inBlock] using h
theorem co_blockY {i j : Nat} (hne : i ≠ j) (h : Q (.exit i) a w) : Exit.inBlock j Q (.exit i) a w := by simpa [Exit.inBlock, hne] using h
theorem co_blockR {i : Nat} (h : Q .ret a w) : Exit.inBlock i Q .ret a w := h
theorem co_cut {x y : Code} (M : Act → World → Prop) (h1 : x.wp P (Exit.then M Q) a w) (h2 : ∀ a w, M a w → y.wp P Q a w) : (Code.seq x y).wp P Q a w :=
  wp_seq (Code.wp_mono (fun e a' w' q => by cases e <;> first | exact h2 _ _ q | exact q) h1)
/-- The call begins. -/
theorem q0 {K : Act → World → Prop} (h : K a w) : Code.skip.wp P (Exit.then K Q) a w := wp_skip h
theorem q1 {K : Act → World → Prop} (h : K a w) : wpList P ops (Exit.then K Q) [] a w := h
theorem q2 {id : Nat} {l : List Oper} {y : Code} (h : wpList P l.toArray (Exit.then (y.wp P Q) Q) l a w) : (Code.seq (Code.region id l.toArray false) y).wp P Q a w := co_seq (co_reg h)
theorem q9 {id : Nat} {l : List Oper} {y z : Code} (h : wpList P l.toArray (Exit.then (y.wp P (Exit.then (z.wp P Q) Q)) (Exit.then (z.wp P Q) Q)) l a w) : (Code.seq (Code.seq (Code.region id l.toArray false) y) z).wp P Q a w := co_seq (q2 h)
theorem q3 {Q' : Exit → Act → World → Prop} {id : Nat} {l : List Oper} {y : Code} (h : wpList P l.toArray (Exit.then (y.wp P Q) Q) l a w) : wpList P ops (Exit.then ((Code.seq (Code.region id l.toArray false) y).wp P Q) Q') [] a w := q1 (q2 h)
theorem q6 {Q' : Exit → Act → World → Prop} {id : Nat} {l : List Oper} {y z : Code} (h : wpList P l.toArray (Exit.then (y.wp P (Exit.then (z.wp P Q) Q)) (Exit.then (z.wp P Q) Q)) l a w) : wpList P ops (Exit.then ((Code.seq (Code.seq (Code.region id l.toArray false) y) z).wp P Q) Q') [] a w := q1 (q9 h)
theorem q7 {Q' : Exit → Act → World → Prop} {id : Nat} {l : List Oper} {y : Code} (h : wpList P l.toArray (Exit.then (y.wp P Q) Q) l a w) : Code.skip.wp P (Exit.then ((Code.seq (Code.region id l.toArray false) y).wp P Q) Q') a w := q0 (q2 h)
theorem q8 {Q' : Exit → Act → World → Prop} {id : Nat} {l : List Oper} {y z : Code} (h : wpList P l.toArray (Exit.then (y.wp P (Exit.then (z.wp P Q) Q)) (Exit.then (z.wp P Q) Q)) l a w) : Code.skip.wp P (Exit.then ((Code.seq (Code.seq (Code.region id l.toArray false) y) z).wp P Q) Q') a w := q0 (q9 h)
theorem q4 {Q' : Exit → Act → World → Prop} (h : Q .ret a w) : wpList P ops (Exit.then (Code.ret.wp P Q) Q') [] a w := q1 (wp_ret h)
theorem q5 {K : Act → World → Prop} {Q' : Exit → Act → World → Prop} (h : Q .ret a w) : wpList P ops (Exit.then (Code.ret.wp P (Exit.then K Q)) Q') [] a w := q4 h
theorem qr {K : Act → World → Prop} {i : Nat} (h : Q .ret a w) : Exit.inBlock i (Exit.then K Q) .ret a w := h
theorem qx {K : Act → World → Prop} {i : Nat} (h : K a w) : Exit.inBlock i (Exit.then K Q) (.exit i) a w := co_blockX h
theorem co_enter {f : FuncId} {fn : Func} {c : Code} {args : Array Value} {E : Ending → World → Prop} (hf : P.funcs[f]? = some fn) (hb : fn.body = some c) (hn : fn.ntmps = n) (hl : Nat.ble args.size n = true) (m : List (Nat × Value)) (hm : m = args.toList.zipIdx.map fun p => (p.2, p.1))
    (h : ∀ a, Slots n m a → c.wp P (bodyPost P fn E) a w) : Calls P f args w E := by
  have hl := Nat.le_of_ble_eq_true hl
  refine calls_of_wp hf hb (h _ ⟨by simp [hn]; omega, rfl, fun t v ht => ?_⟩)
  subst hm
  have hlk : ∀ (l : List Value) (k t : Nat) v, ((l.zipIdx k).map fun p => (p.2, p.1)).lookup t = some v → k ≤ t ∧ l[t - k]? = some v := by
    intro l
    induction l with
    | nil => intro k t v h; simp at h
    | cons x l ih =>
      intro k t v h
      rw [List.zipIdx_cons, List.map_cons, List.lookup_cons] at h
      by_cases e : t = k
      · subst e; simp at h; subst h; simp
      · have hb : (t == k) = false := by simpa using e
        rw [hb] at h
        obtain ⟨h1, h2⟩ := ih (k + 1) t v h
        refine ⟨by omega, ?_⟩
        rw [show t - k = (t - (k + 1)) + 1 by omega, List.getElem?_cons_succ]; exact h2
  obtain ⟨_, h2⟩ := hlk _ 0 t v ht
  simp only [Nat.sub_zero, Array.getElem?_toList] at h2
  rw [Array.getD_eq_getD_getElem?, Array.getElem?_append_left (Array.getElem?_eq_some_iff.1 h2).1, h2]; rfl
/-- The call ends. -/
theorem co_ret1 {fn : Func} {E : Ending → World → Prop} {t : Nat} {v : Value} (hs : Slots n m a) (hr : fn.results = #[.tmp t]) (ht : m.lookup t = some v) (h : E (.returned v) w) : bodyPost P fn E .ret a w := by
  have := hs.look t v ht
  exact bodyPost_ret (results_tmp hr a.tmps P w) hs.defers (by rw [this]; exact h)
theorem co_ret2 {fn : Func} {E : Ending → World → Prop} {t u : Nat} {v x : Value} (hs : Slots n m a) (hr : fn.results = #[.tmp t, .tmp u]) (ht : m.lookup t = some v) (hu : m.lookup u = some x) (h : E (.returned (.tuple #[v, x])) w) : bodyPost P fn E .ret a w := by
  have h1 := hs.look t v ht
  have h2 := hs.look u x hu
  exact bodyPost_ret (results_tmp2 hr a.tmps P w) hs.defers (by rw [h1, h2]; exact h)
theorem co_ret0n {fn : Func} {E : Ending → World → Prop} (hs : Slots n m a) (hr : fn.results = #[]) (h : E (.returned (.tuple #[])) w) : bodyPost P fn E .normal a w :=
  bodyPost_end (results_none hr a.tmps P w) hs.defers h
end
end Go.Proofs.Ytaoibbakflacoaa

/- Steps of a walk over known slots: blocks of the call's own, rows that grow, slices that came in. Conditions: none. -/
namespace Go.Proofs.Ytaoibbakflacoaa
open Go.RowKit

/-- Block N of world w holds just these cells, and may be written. -/
def Blk (w : World) (N : Nat) (T : TypeId) (cs : Array Value) : Prop := w.heap[N]? = some (.cells cs T (0, 0))
section
variable {P : Program} {n : Nat} {m : List (Nat × Value)} {w x : World} {o : Oper} {N : Nat} {T : TypeId} {cs : Array Value}
theorem Blk.lt (h : Blk w N T cs) : N < w.heap.size := (Array.getElem?_eq_some_iff.1 h).1
theorem Blk.cell (h : Blk w N T cs) {k : Nat} {v : Value} (hk : cs[k]? = some v) : w.cell? ⟨N, k, none⟩ = some v := by
  unfold World.cell?; rw [show w.heap[N]? = _ from h]; simpa using hk
theorem Blk.frozen (h : Blk w N T cs) (k : Nat) : w.frozen? ⟨N, k, none⟩ = false := by
  unfold World.frozen?; rw [show w.heap[N]? = _ from h]; simp
theorem Blk.range (h : Blk w N T cs) (k : Nat) (l : List Value) (hl : ∀ j v, l[j]? = some v → cs[k + j]? = some v) : w.rangeAt N k l := fun j v hv => h.cell (hl j v hv)
theorem Blk.all (h : Blk w N T cs) : w.rangeAt N 0 cs.toList := fun j v hv => h.cell (by simpa using hv)
theorem Blk.kept {row : Option Nat} (h : Blk w N T cs) (hg : w.grownBy x row) (hne : row ≠ some N) : Blk x N T cs := by
  unfold Blk at *; rw [hg.block N (Array.getElem?_eq_some_iff.1 h).1 (fun e => hne e.symm)]; exact h
theorem Blk.below (h : Blk w N T cs) (hb : Below w.heap.size w x) : Blk x N T cs := by
  unfold Blk at *; rw [hb.block N (Array.getElem?_eq_some_iff.1 h).1]; exact h
theorem grown_below (hg : w.grownBy x none) : Below w.heap.size w x := ⟨hg.os, hg.tape, hg.output, hg.size, fun k hk => hg.block k hk (by simp)⟩
theorem below_grown (hb : Below w.heap.size w x) : w.grownBy x none := ⟨hb.os, hb.tape, hb.output, hb.size, fun k hk _ => hb.block k hk⟩
theorem hb_new {w0 : World} (h : Below w0.heap.size w0 w) (hg : w.grownBy x none) : Below w0.heap.size w0 x := h.grown hg h.size (fun _ e => by cases e)
theorem hb_at {w0 : World} (h : Below w0.heap.size w0 w) (hg : w.grownBy x (some N)) (hN : w0.heap.size ≤ N) : Below w0.heap.size w0 x := h.grown hg h.size (fun k e => by cases e; exact hN)
theorem hb_call {w0 : World} (h : Below w0.heap.size w0 w) (hb : Below w.heap.size w x) : Below w0.heap.size w0 x := h.trans (hb.mono h.size)
theorem hb_row {w0 : World} {B : Nat} {e : TypeId} {sz k : Nat} {v : Value} {xs : List Value} (h : Below w0.heap.size w0 w) (hr : w.ownsRow B e sz v k xs) (hB : w0.heap.size ≤ B) (hg : w.grownBy x v.ownBlock) : Below w0.heap.size w0 x :=
  h.grown hg h.size (fun k e => by have := (hr.lt k e).1; omega)

theorem row_kept_new {B : Nat} {e : TypeId} {sz k : Nat} {v : Value} {xs : List Value} (h : w.ownsRow B e sz v k xs) (hg : w.grownBy x none) : x.ownsRow B e sz v k xs :=
  h.kept hg (by cases v.ownBlock <;> simp)
theorem row_kept_at {B : Nat} {e : TypeId} {sz k : Nat} {v : Value} {xs : List Value} (h : w.ownsRow B e sz v k xs) (hg : w.grownBy x (some N)) (hne : v.ownBlock ≠ some N) : x.ownsRow B e sz v k xs := h.kept hg (.inr hne)
theorem row_ne_lt {B : Nat} {e : TypeId} {sz k : Nat} {v : Value} {xs : List Value} (h : w.ownsRow B e sz v k xs) (hN : N < B) : v.ownBlock ≠ some N := fun e => by have := (h.lt N e).1; omega
/-- Rows of two types lie apart. -/
theorem row_kept_row {B B' : Nat} {e e' : TypeId} {sz sz' k k' : Nat} {v v' : Value} {xs ys : List Value} (h : w.ownsRow B e sz v k xs) (h' : w.ownsRow B' e' sz' v' k' ys) (hg : w.grownBy x v'.ownBlock) (hne : e ≠ e') : x.ownsRow B e sz v k xs := by
  refine h.kept hg ?_
  cases hv : v.ownBlock with
  | none => exact .inl rfl
  | some g =>
    refine .inr fun e1 => ?_
    rcases h.2 with ⟨rfl, _⟩ | ⟨g1, _, _, rfl, _, hg1, _⟩
    · simp [Value.ownBlock] at hv
    · rcases h'.2 with ⟨rfl, _⟩ | ⟨g2, _, _, rfl, _, hg2, _⟩
      · simp [Value.ownBlock] at e1
      · simp [Value.ownBlock] at hv e1
        subst hv
        rw [← e1, hg1] at hg2
        simp at hg2
        exact hne hg2.2
theorem blk_part (h : Blk w N T cs) (k : Nat) {l : List Value} (hl : (cs.toList.drop k).take l.length = l) : w.rangeAt N k l := fun j v hv => by
  refine h.cell ?_
  have hj := (List.getElem?_eq_some_iff.1 hv).1
  rw [← hl, List.getElem?_take, if_pos hj, List.getElem?_drop] at hv
  simpa using hv
theorem range_part {b o' : Nat} {l : List Value} (h : w.rangeAt b o' l) (k : Nat) (q : List Value) (hl : (l.drop k).take q.length = q) : w.rangeAt b (o' + k) q := fun j v hv => by
  have hj := (List.getElem?_eq_some_iff.1 hv).1
  rw [← hl, List.getElem?_take, if_pos hj, List.getElem?_drop] at hv
  rw [Nat.add_assoc]; exact h (k + j) v hv
/-- A variable, a struct, an array that is made. -/
theorem op_new {v : Nat → Value} (hok : okOps m o.op = true) (hsel : (match o.op with | .select .. => true | _ => false) = false) (hrun : (execOp (lk m) o).run P w = .ok (.value (v w.heap.size)) (w.alloc (.cells cs T))) :
    Op1 P n m o w (fun u x => ∃ N, u = v N ∧ N = w.heap.size ∧ x.heap.size = N + 1 ∧ Blk x N T cs ∧ w.grownBy x none) :=
  (op_run hok hsel hrun).mono fun u x ⟨h1, h2⟩ => by
    subst h2
    exact ⟨w.heap.size, h1, rfl, by simp, heap_alloc_new w _, World.grownBy_alloc w _ none⟩
theorem setCell_blk (h : Blk w N T cs) (k : Nat) (v : Value) : Blk (w.setCell ⟨N, k, none⟩ v) N T (cs.setIfInBounds k v) := by
  have hlt := (Array.getElem?_eq_some_iff.1 h).1
  have hx := (Array.getElem?_eq_some_iff.1 h).2
  unfold Blk World.setCell
  simp only [Array.getElem?_modify, if_true]
  rw [show w.heap[N]? = _ from h]
  simp
theorem grown_setCell (w : World) (N k : Nat) (v : Value) : w.grownBy (w.setCell ⟨N, k, none⟩ v) (some N) := ⟨rfl, rfl, rfl, by simp [World.setCell], fun j _ hj => Below.heap_setCell w _ v j (fun e => hj (by rw [e]))⟩
/-- A store of one cell into a block of the call's own. -/
theorem op_store1 {t : TypeId} {p q : Operand} {k : Nat} {v : Value} (ho : o.op = .store t p q) (hp : ev m p = some (.pointer (some ⟨N, k, none⟩))) (hq : ev m q = some v) (h1 : v.oneCell' = true) (hs : ∀ w : World, (sizeOf t).run P w = .ok 1 w)
    (hb : Blk w N T cs) (hk : Nat.blt k cs.size = true) : Op1 P n m o w (fun _ x => Blk x N T (cs.setIfInBounds k v) ∧ x.heap.size = w.heap.size ∧ w.grownBy x (some N)) := by
  intro a ha K Q hN
  have hk' : k < cs.size := by simpa using hk
  have hc : w.cell? ⟨N, k, none⟩ = some cs[k] := hb.cell (by simp [hk'])
  have hcell : v.cells = #[v] := by cases v <;> simp_all [Value.cells, Value.oneCell']
  have hrun : (Instr.storeAt t (.pointer (some ⟨N, k, none⟩)) v).run P w = .ok () (w.setCell ⟨N, k, none⟩ v) := by
    have h2 := run_storeCells_cells (P := P) N k [v] 0 w (fun j hj => by simp at hj; subst hj; simp [hc]) (fun j hj => by simpa using hb.frozen _) (by simpa using h1)
    simp only [Nat.add_zero] at h2
    simp [Instr.storeAt, Instr.sureAddr, storeVar, hcell, hs, Sem.run_bind, h2, World.setCells]
  unfold Oper.wp execOp
  simp only [ho, ha.ev hp, ha.ev hq, Sem.run_bind, hrun, Result.andThen_ok, Sem.run_pure]
  exact hN _ _ ⟨setCell_blk hb k v, by simp [World.setCell], grown_setCell w N k v⟩
theorem setCells_blk : ∀ (vs : List Value) (w : World) (cs : Array Value) (k : Nat), Blk w N T cs → k + vs.length ≤ cs.size → Blk (w.setCells N k vs) N T (cs.toList.take k ++ vs ++ cs.toList.drop (k + vs.length)).toArray
  | [], w, cs, k, h, _ => by simpa [World.setCells] using h
  | v :: r, w, cs, k, h, hl => by
    simp only [List.length_cons] at hl
    have := setCells_blk r (w.setCell ⟨N, k, none⟩ v) (cs.setIfInBounds k v) (k + 1) (setCell_blk h k v) (by simp; omega)
    rw [World.setCells]
    have e : ((cs.setIfInBounds k v).toList.take (k + 1) ++ r ++ (cs.setIfInBounds k v).toList.drop (k + 1 + r.length)) = cs.toList.take k ++ (v :: r) ++ cs.toList.drop (k + (r.length + 1)) := by
      simp only [Array.toList_setIfInBounds]
      rw [List.take_set, List.drop_set_of_lt (by omega), show k + 1 + r.length = k + (r.length + 1) by omega]
      have : (List.take (k + 1) cs.toList).set k v = cs.toList.take k ++ [v] := by
        rw [List.take_succ_eq_append_getElem (by simp; omega)]
        have hl : (List.take k cs.toList).length = k := by simp; omega
        rw [List.set_append, hl, if_neg (by omega)]
        simp
      rw [this]; simp
    rw [List.length_cons, ← e]; exact this
/-- A store of a whole value into a block of the call's own. -/
theorem op_storeN {t : TypeId} {p q : Operand} {cells : Array Value} (ho : o.op = .store t p q) (hp : ev m p = some (.pointer (some ⟨N, 0, none⟩))) (hq : ev m q = some (.agg cells)) (h1 : cells.all (·.oneCell') = true) (hi : (P.info? t).map (·.size) = some cells.size)
    (hb : Blk w N T cs) (hk : cs.size = cells.size) : Op1 P n m o w (fun _ x => Blk x N T cells ∧ x.heap.size = w.heap.size ∧ w.grownBy x (some N)) := by
  intro a ha K Q hN
  have hthere : w.there N 0 cells.size := fun j hj => ⟨by rw [hb.cell (k := 0 + j) (v := cs[j]) (by simp [hk, hj])]; rfl, hb.frozen _⟩
  refine wp_store_mid t p q ho N 0 cells (ha.ev hp) (ha.ev hq) hthere hi h1 (hN _ _ ⟨?_, ?_, ?_⟩)
  · have := setCells_blk cells.toList w cs 0 hb (by simp [hk])
    have e : (cells.toList ++ List.drop cells.size cs.toList).toArray = cells := by rw [List.drop_eq_nil_of_le (by simp [hk])]; simp
    simp only [List.take_zero, List.nil_append, Nat.zero_add, Array.length_toList, e] at this
    exact this
  · have hsz : ∀ (vs : List Value) (k : Nat) (w : World), (w.setCells N k vs).heap.size = w.heap.size := by
      intro vs
      induction vs with
      | nil => intro k w; rfl
      | cons v r ih => intro k w; rw [World.setCells, ih]; simp [World.setCell]
    exact hsz _ _ _
  · have hg : ∀ (vs : List Value) (k : Nat) (w : World), w.grownBy (w.setCells N k vs) (some N) := by
      intro vs
      induction vs with
      | nil => intro k w; exact World.grownBy.refl _ _
      | cons v r ih => intro k w; rw [World.setCells]; exact (grown_setCell w N k v).trans (ih _ _)
    exact hg _ _ _
/-- 'append(v, news..)', v a row of the call's own. -/
theorem op_append {s q : Operand} {t : TypeId} (ho : o.op = .call { callee := .builtin .append, args := #[s, q], argTypes := #[t, t] })
    (base : Nat) (e : TypeId) {z : Value} {size bytes : Nat} (ht : P.underlying t = some (.slice e)) (hi : (P.info? e).map (fun i => (i.zero, i.size, i.bytes)) = some (some z, size, bytes))
    (hzs : z.cells.size = size) (hsz : Nat.blt 0 size = true) {v : Value} {k : Nat} {xs : List Value} (hs : ev m s = some v) (hown : w.ownsRow base e size v k xs)
    {M q' c : Nat} {ws : Array Value} {T' : TypeId} (hx : ev m q = some (.slice (some ⟨M, 0, none⟩) q' c)) (hb : Blk w M T' ws) (hl : ws.size = q' * size) (h1 : ws.all (·.oneCell') = true)
    (h63 : k + q' ≤ 9223372036854775807) (hbytes : (k + q') * bytes ≤ 140737488355328) (hbase : base ≤ w.heap.size) :
    Op1 P n m o w (fun u x => x.ownsRow base e size u (k + q') (xs ++ ws.toList) ∧ w.grownBy x v.ownBlock) := by
  intro a ha K Q hN
  obtain ⟨i0, hii, hz0, hz1, hz2⟩ := info_parts hi
  refine wp_append_own w s q t ho base e i0 z size bytes ht hii hz0 hz1 hz2 hzs (by simpa using hsz) v k xs (ha.ev hs) hown ⟨M, 0, none⟩ q' c ws.toList (ha.ev hx) (by simpa using hl) ?_ ?_ (by unfold maxLen; exact h63) hbytes hbase (fun v' w' h2 h3 _ => hN _ _ ⟨h2, h3⟩)
  · intro j u hu
    rw [Addr.add_lit, Nat.zero_add]
    exact hb.cell (by simpa using hu)
  · intro u hu
    exact (Array.all_eq_true_iff_forall_mem.1 h1) u (by simpa using hu)

/-! ### A region that draws its order begins -/
section
variable {Q : Exit → Act → World → Prop} {a : Act}
theorem drew_grown (w : World) : w.grownBy w.drew none := ⟨rfl, rfl, rfl, Nat.le_refl _, fun _ _ _ => rfl⟩
theorem dr_eq {id : Nat} {l : List Oper} (hm : P.follows .mixedOrders = true) (h : ∀ wd, w.grownBy wd none → wpAnyH P .any l.toArray (NP Q) (fun x => x = wd) l.length (Array.replicate l.length false) a wd) : (Code.region id l.toArray true).wp P Q a w :=
  dr_start (S := fun x => x = w.drew) hm rfl (h _ (drew_grown w))
theorem dr_gen {id : Nat} {l : List Oper} (S : World → Prop) (hm : P.follows .mixedOrders = true) (hS : ∀ wd, w.grownBy wd none → S wd) (h : ∀ wd, w.grownBy wd none → wpAnyH P .any l.toArray (NP Q) S l.length (Array.replicate l.length false) a wd) : (Code.region id l.toArray true).wp P Q a w :=
  dr_start hm (hS _ (drew_grown w)) (h _ (drew_grown w))
end

/-! ### Slices that came in: the value is whatever it is, its place is told by two functions -/
def blkOf : Value → Nat
  | .slice (some a) _ _ => a.block
  | _ => 0
def offOf : Value → Nat
  | .slice (some a) _ _ => a.off
  | _ => 0
variable {α : Type} {enc : α → List Value} {sz : Nat} {v : Value} {l : List α}
theorem sl_len (h : SliceOf enc sz w v l) : l.length ≤ 9223372036854775807 := by obtain ⟨_, _, _, h1, h2, _⟩ := h; omega
theorem sl_at (h : SliceOf enc sz w v l) {i : Nat} {y : α} (hy : l[i]? = some y) : w.rangeAt (blkOf v) (offOf v + i * sz) (enc y) := by
  obtain ⟨ao, cap, rfl, _, _, _, hc⟩ := h
  obtain ⟨hi, e⟩ := List.getElem?_eq_some_iff.1 hy
  obtain ⟨b, off, rfl, hr⟩ := hc i hi
  rw [← e]; exact hr
/-- 'len(v)' -/
theorem rn_len {t : TypeId} {q : Operand} (ho : o.op = .call { callee := .builtin .len, args := #[q], argTypes := #[t] }) (hq : ev m q = some v) {e : TypeId} (ht : P.underlying t = some (.slice e)) (h : SliceOf enc sz w v l) : (execOp (lk m) o).run P w = .ok (.value (.int .i64 (l.length : Nat))) w := by
  obtain ⟨ao, cap, rfl, _, _, _, hc⟩ := h
  unfold execOp
  simp [ho, resolve, invoke, builtin, Sem.run_bind, lk_ev hq, Builtin.len_, goInt, run_underlying ht]
theorem rn_lenOwn {t : TypeId} {q : Operand} {base : Nat} {e : TypeId} {k : Nat} {xs : List Value} (ho : o.op = .call { callee := .builtin .len, args := #[q], argTypes := #[t] }) (hq : ev m q = some v) {e' : TypeId} (ht : P.underlying t = some (.slice e')) (h : w.ownsRow base e sz v k xs) : (execOp (lk m) o).run P w = .ok (.value (.int .i64 (k : Nat))) w := by
  rcases h.2 with ⟨rfl, rfl⟩ | ⟨g, cap, cur, rfl, _⟩
  · unfold execOp
    simp [ho, resolve, invoke, builtin, Sem.run_bind, lk_ev hq, Builtin.len_, goInt, run_underlying ht]
  · unfold execOp
    simp [ho, resolve, invoke, builtin, Sem.run_bind, lk_ev hq, Builtin.len_, goInt, run_underlying ht]
theorem rn_lenStr {t : TypeId} {q : Operand} {s : ByteArray} (ho : o.op = .call { callee := .builtin .len, args := #[q], argTypes := #[t] }) (hq : ev m q = some (.string s)) (ht : P.underlying t = some .string) : (execOp (lk m) o).run P w = .ok (.value (.int .i64 (s.size : Nat))) w := by
  unfold execOp
  simp [ho, resolve, invoke, builtin, Sem.run_bind, lk_ev hq, Builtin.len_, goInt, run_underlying ht]
/-- 'v[i]' as an address -/
theorem rn_index {t e : TypeId} {q r : Operand} {k : IntKind} {i : Int} {j : Nat} (ho : o.op = .indexAddr t q r) (hq : ev m q = some v) (hr : ev m r = some (.int k i)) (ht : P.underlying t = some (.slice e)) (hs : ∀ w : World, (sizeOf e).run P w = .ok sz w)
    (h : SliceOf enc sz w v l) (hij : i = (j : Nat)) (hj : j < l.length) : (execOp (lk m) o).run P w = .ok (.value (.pointer (some ⟨blkOf v, offOf v + j * sz, none⟩))) w := by
  subst hij
  obtain ⟨ao, cap, rfl, _, _, _, hc⟩ := h
  obtain ⟨b, off, rfl, _⟩ := hc j hj
  have hrun : (Instr.indexAt t (.slice (some ⟨b, off, none⟩) l.length cap) (.int k j)).run P w = .ok (.pointer (some ⟨b, off + j * sz, none⟩)) w := by
    have h0 : (0 : Int) ≤ (j : Nat) ∧ ((j : Nat) : Int) < (l.length : Nat) := by omega
    simp [Instr.indexAt, asIntOf, run_underlying ht, Sem.run_bind, h0, hs, hj, Addr.add_lit]
  unfold execOp
  simp only [ho, lk_ev hq, lk_ev hr, Sem.run_bind, hrun, Result.andThen_ok, Sem.run_pure]
  rfl
/-- A slice of another type, or nil, that is read as nothing. -/
theorem sl_nil (w : World) : SliceOf enc sz w (.slice none 0 0) ([] : List α) := SliceOf.nil _ _ _
end
end Go.Proofs.Ytaoibbakflacoaa

/- Slices that are cut, and appended from. Conditions: none. -/
namespace Go.Proofs.Ytaoibbakflacoaa
open Go.RowKit Go.PlainAid

theorem SliceOf.sliced {α : Type} {enc : α → List Value} {sz : Nat} {w : World} {ao : Option Addr} {n cap : Nat} {l : List α} (h : SliceOf enc sz w (.slice ao n cap) l) (lo hi : Nat) (h1 : lo ≤ hi) (h2 : hi ≤ l.length) :
    SliceOf enc sz w (sliced ao lo hi cap sz) ((l.take hi).drop lo) := by
  obtain ⟨ao', cap', hv, h1', h2', h3, h4⟩ := h
  injection hv with e1 e2 e3
  subst e1 e2 e3
  have hl : ((l.take hi).drop lo).length = hi - lo := by rw [List.length_drop, List.length_take]; omega
  unfold Go.sliced
  cases ao with
  | none =>
    obtain ⟨e0, e1⟩ := h3 rfl
    subst e1
    have : hi = 0 := by omega
    have : lo = 0 := by omega
    subst lo hi
    exact ⟨none, 0, by simp, by simp, by omega, fun _ => ⟨by simp, rfl⟩, fun j hj => absurd hj (by simp)⟩
  | some a =>
    by_cases hc : cap = lo
    · subst hc
      have : hi = cap := by omega
      subst this
      refine ⟨some a, 0, by rw [hl]; simp, by rw [hl]; omega, by omega, fun h => (by cases h), fun j hj => absurd hj (by rw [hl]; omega)⟩
    · refine ⟨some (a.add (lo * sz)), cap - lo, by rw [hl, if_neg hc]; rfl, by rw [hl]; omega, by omega, fun h => (by cases h), fun j hj => ?_⟩
      rw [hl] at hj
      obtain ⟨b, off, e, hr⟩ := h4 (lo + j) (by omega)
      cases e
      refine ⟨b, off + lo * sz, by rw [Addr.add_lit], ?_⟩
      rw [show off + lo * sz + j * sz = off + (lo + j) * sz by rw [Nat.add_mul]; omega, List.getElem_drop, List.getElem_take]
      exact hr
theorem wp_append_src {P : Program} {w : World} {o : Oper} {a : Act} {K : Act → World → Prop} {Q : Exit → Act → World → Prop} (s x : Operand) (t : TypeId)
    (ho : o.op = .call { callee := .builtin .append, args := #[s, x], argTypes := #[t, t] })
    (base : Nat) (e : TypeId) (i : TypeInfo) (z : Value) (size bytes : Nat) (ht : P.underlying t = some (.slice e)) (hi : P.info? e = some i) (hz : i.zero = some z)
    (hsize : i.size = size) (hby : i.bytes = bytes) (hzs : z.cells.size = size) (hsz : 0 < size)
    (v : Value) (n : Nat) (xs : List Value) (hs : a.eval s = v) (hown : w.ownsRow base e size v n xs)
    {α : Type} (enc : α → List Value) (l : List α) (vs : Value) (hx : a.eval x = vs) (hsl : SliceOf enc size w vs l) (hen : ∀ y ∈ l, (enc y).length = size ∧ ∀ u ∈ enc y, u.oneCell' = true)
    (h63 : n + l.length ≤ maxLen) (hbytes : (n + l.length) * bytes ≤ 140737488355328) (hbase : base ≤ w.heap.size)
    (h : ∀ v' w', w'.ownsRow base e size v' (n + l.length) (xs ++ l.flatMap enc) → w.grownBy w' v.ownBlock → K (a.put o.dst v') w') : o.wp P a w K Q := by
  obtain ⟨ao, cap, rfl, _, _, hnil, hcell⟩ := hsl
  have hl := flat_len l (fun y hy => (hen y hy).1)
  cases ao with
  | none =>
    obtain ⟨e0, e1⟩ := hnil rfl
    obtain rfl : l = [] := List.eq_nil_of_length_eq_zero e0
    subst e1
    have hrun := run_append_owned_none (P := P) (w := w) base t o.type e i size ht hi v n xs hown
    have hx' : a.eval x = .slice none 0 0 := by simpa using hx
    unfold Oper.wp
    simp [execOp, ho, resolve, invoke, builtin, hs, hx', hrun, Result.andThen]
    exact h v w (by simpa using hown) (World.grownBy.refl _ _)
  | some ad =>
    refine wp_append_own _ s x t ho base e i z size bytes ht hi hz hsize hby hzs hsz v n xs hs hown ad l.length cap (l.flatMap enc) hx hl ?_ ?_ h63 hbytes hbase (fun v' w' h1 h2 _ => h v' w' h1 h2)
    · intro j u hu
      have hj : j < l.length * size := by rw [← hl]; exact (List.getElem?_eq_some_iff.1 hu).1
      have hq : j / size < l.length := Nat.div_lt_of_lt_mul (by rw [Nat.mul_comm]; exact hj)
      obtain ⟨b, off, hb, hr⟩ := hcell _ hq
      cases hb
      rw [Addr.add_lit]
      have hdm : j / size * size + j % size = j := by rw [Nat.mul_comm]; exact Nat.div_add_mod j size
      have hr' := hr (j % size) u
      rw [Nat.add_assoc, hdm] at hr'
      refine hr' ?_
      rw [← flat_at l (j / size) (j % size) hq (fun y hy => (hen y hy).1) (Nat.mod_lt _ hsz), hdm]; exact hu
    · intro u hu
      obtain ⟨y, hy, huy⟩ := List.mem_flatMap.1 hu
      exact (hen y hy).2 u huy
end Go.Proofs.Ytaoibbakflacoaa

/- Steps of a walk over known slots: slices cut, appended from, rows as lists, closures, structs compared. Conditions: none. -/
namespace Go.Proofs.Ytaoibbakflacoaa
open Go.RowKit

section
variable {P : Program} {n : Nat} {m : List (Nat × Value)} {w x : World} {o : Oper} {N : Nat} {T : TypeId} {cs : Array Value} {α : Type} {enc : α → List Value} {sz : Nat} {v : Value} {l : List α}

/-- A slice of a slice. -/
def subV (v : Value) (lo hi sz : Nat) : Value :=
  match v with
  | .slice ao _ cap => sliced ao lo hi cap sz
  | x => x
theorem sl_sub (h : SliceOf enc sz w v l) (lo hi : Nat) (h1 : lo ≤ hi) (h2 : hi ≤ l.length) : SliceOf enc sz w (subV v lo hi sz) ((l.take hi).drop lo) := by
  obtain ⟨ao, cap, rfl, h3, h4, h5, h6⟩ := h
  exact SliceOf.sliced ⟨ao, cap, rfl, h3, h4, h5, h6⟩ lo hi h1 h2
theorem sl_take (h : SliceOf enc sz w v l) (k : Nat) (h2 : k ≤ l.length) : SliceOf enc sz w (subV v 0 k sz) (l.take k) := sl_sub h 0 k (Nat.zero_le _) h2
theorem rn_sliceTo {t e : TypeId} {q r : Operand} {k : IntKind} {i : Int} {j : Nat} (ho : o.op = .slice t q none (some r) none) (hq : ev m q = some v) (hr : ev m r = some (.int k i)) (ht : P.underlying t = some (.slice e)) (hs : ∀ w : World, (sizeOf e).run P w = .ok sz w)
    (h : SliceOf enc sz w v l) (hij : i = (j : Nat)) (hj : j ≤ l.length) : (execOp (lk m) o).run P w = .ok (.value (subV v 0 j sz)) w := by
  subst hij
  obtain ⟨ao, cap, rfl, h3, h4, h5, h6⟩ := h
  have he : P.elem t = e := by simp [Program.elem, ht]
  have hrun : (Instr.slice t (.slice ao l.length cap) none (some (.int k j)) none).run P w = .ok (sliced ao 0 j cap sz) w := by
    rw [run_slice_h w t ao l.length cap (by rw [he]; exact ht) k j (by omega) (by omega), he, hs]; rfl
  unfold execOp
  simp only [ho, Option.map_some, Option.map_none, lk_ev hq, lk_ev hr, Instr.sliceAt, Sem.run_bind, run_underlying ht, Result.andThen_ok, hrun, Sem.run_pure]
  rfl
/-- 'append(v, src..)', v a row of the call's own, src any slice that is read. -/
theorem op_appendSrc {s q : Operand} {t : TypeId} (ho : o.op = .call { callee := .builtin .append, args := #[s, q], argTypes := #[t, t] })
    (base : Nat) (e : TypeId) {z : Value} {size bytes : Nat} (ht : P.underlying t = some (.slice e)) (hi : (P.info? e).map (fun i => (i.zero, i.size, i.bytes)) = some (some z, size, bytes))
    (hzs : z.cells.size = size) (hsz : Nat.blt 0 size = true) {u : Value} {k : Nat} {xs : List Value} (hs : ev m s = some u) (hown : w.ownsRow base e size u k xs)
    (hx : ev m q = some v) (hsl : SliceOf enc size w v l) (hen : ∀ y ∈ l, (enc y).length = size ∧ ∀ u ∈ enc y, u.oneCell' = true)
    (h63 : k + l.length ≤ 9223372036854775807) (hbytes : (k + l.length) * bytes ≤ 140737488355328) (hbase : base ≤ w.heap.size) :
    Op1 P n m o w (fun r x => x.ownsRow base e size r (k + l.length) (xs ++ l.flatMap enc) ∧ w.grownBy x u.ownBlock) := by
  intro a ha K Q hN
  obtain ⟨i0, hii, hz0, hz1, hz2⟩ := info_parts hi
  exact wp_append_src s q t ho base e i0 z size bytes ht hii hz0 hz1 hz2 hzs (by simpa using hsz) u k xs (ha.ev hs) hown enc l v (ha.ev hx) hsl hen (by unfold maxLen; exact h63) hbytes hbase (fun v' w' h2 h3 => hN _ _ ⟨h2, h3⟩)
theorem row_of_blk {base : Nat} (h : Blk w N T #[]) (hb : base ≤ N) (sz : Nat) : w.ownsRow base T sz (.slice (some ⟨N, 0, none⟩) 0 0) 0 [] :=
  ⟨by simp, .inr ⟨N, 0, #[], rfl, hb, h, Nat.le_refl _, by decide, by simp, by simp⟩⟩
theorem row_of_blkL {base : Nat} (h : Blk w N T #[]) (hb : base ≤ N) (sz : Nat) (enc : α → List Value) : w.ownsRow base T sz (.slice (some ⟨N, 0, none⟩) 0 0) ([] : List α).length (([] : List α).flatMap enc) := row_of_blk h hb sz
theorem row_nilL (w : World) (base : Nat) (T : TypeId) (sz : Nat) (enc : α → List Value) : w.ownsRow base T sz (.slice none 0 0) ([] : List α).length (([] : List α).flatMap enc) := World.ownsRow_nil _ _ _ _
theorem row_push {base : Nat} {u : Value} {y : α} {k : Nat} {xs : List Value} (h : w.ownsRow base T sz u (l.length + k) (l.flatMap enc ++ xs)) (hk : k = 1) (he : enc y = xs) : w.ownsRow base T sz u (l ++ [y]).length ((l ++ [y]).flatMap enc) := by
  subst hk he; simpa using h
theorem row_app {base : Nat} {u : Value} {l' : List α} (h : w.ownsRow base T sz u (l.length + l'.length) (l.flatMap enc ++ l'.flatMap enc)) : w.ownsRow base T sz u (l ++ l').length ((l ++ l').flatMap enc) := by
  simpa using h
theorem row_lows {base base' : Nat} {u : Value} {k : Nat} {xs : List Value} (h : w.ownsRow base T sz u k xs) (hb : base' ≤ base) : w.ownsRow base' T sz u k xs := by
  refine ⟨h.1, ?_⟩
  rcases h.2 with h2 | ⟨g, c, r, e, hg, h3⟩
  · exact .inl h2
  · exact .inr ⟨g, c, r, e, by omega, h3⟩
theorem row_eq {base : Nat} {u : Value} {l' : List α} (h : w.ownsRow base T sz u l.length (l.flatMap enc)) (e : l = l') : w.ownsRow base T sz u l'.length (l'.flatMap enc) := by subst e; exact h
theorem row_sl {base : Nat} (h : w.ownsRow base T sz v l.length (l.flatMap enc)) (hsz : ∀ y : α, (enc y).length = sz) : SliceOf enc sz w v l := SliceOf.own h (fun y _ => hsz y)
theorem row_fresh {base : Nat} {k : Nat} {xs : List Value} (h : w.ownsRow base T sz v k xs) (hN : N = w.heap.size) : v.ownBlock ≠ some N := fun e => by have := (h.lt N e).2; omega
theorem rn_neS {T T' : TypeId} {q r : Operand} {a b : Array Value} {c : Bool} (ho : o.op = .binOp .neq T q r T') (hq : ev m q = some (.agg a)) (hr : ev m r = some (.agg b)) (hg : P.eqGuardType P.depth T = false) (h : (binOp .eql T (.agg a) (.agg b)).run P w = .ok (.bool c) w) : (execOp (lk m) o).run P w = .ok (.value (.bool !c)) w := by
  unfold execOp
  have h0 : (eqGuard .neq T q r (.agg a) (.agg b)).run P w = .ok () w := by
    simp [eqGuard, Sem.run_bind, run_program, hg]
  have h1 : (binOp .neq T (.agg a) (.agg b)).run P w = .ok (.bool !c) w := by
    have h2 : (Op.equal T (.agg a) (.agg b)).run P w = .ok c w := by
      cases h3 : (Op.equal T (.agg a) (.agg b)).run P w with
      | ok y w1 =>
        simp only [binOp, Sem.run_bind, h3, Result.andThen_ok, Sem.run_pure, Result.ok.injEq, Value.bool.injEq] at h
        rw [h.1, h.2]
      | halt y w1 => simp [binOp, Sem.run_bind, h3] at h
    simp only [binOp, Sem.run_bind, h2, Result.andThen_ok, Sem.run_pure]
  simp only [ho, lk_ev hq, lk_ev hr, Sem.run_bind, h0, h1, Result.andThen_ok, Sem.run_pure]
theorem rn_rem {T T' : TypeId} {q r : Operand} {k : IntKind} {i j : Int} (ho : o.op = .binOp .rem T q r T') (hq : ev m q = some (.int k i)) (hr : ev m r = some (.int k j)) (hi : 0 ≤ i) (hj : 0 < j) : (execOp (lk m) o).run P w = .ok (.value (.int k (i % j))) w := by
  unfold execOp
  have hne : ¬ j = 0 := by omega
  have he : i.tmod j = i % j := Int.tmod_eq_emod_of_nonneg hi
  simp only [ho, lk_ev hq, lk_ev hr]
  simp [eqGuard, binOp, Op.intDiv, hne, he]
/-- A struct and a slot as results. -/
theorem co_retC1 {Q : Exit → Act → World → Prop} {a : Act} {fn : Func} {E : Ending → World → Prop} {t u : Nat} {T' : TypeId} {y : Value} {d : TypeDesc} (hs : Slots n m a) (hr : fn.results = #[.cell t T', .tmp u]) (ht : m.lookup t = some (.pointer (some ⟨N, 0, none⟩))) (hu : m.lookup u = some y) (hb : Blk w N T cs)
    (hd : P.underlying T' = some d) (hrow : d.isRow = true) (hi : (P.info? T').map (·.size) = some cs.size) (h : E (.returned (.tuple #[.agg cs, y])) w) : bodyPost P fn E .ret a w := by
  have h1 := hs.look t _ ht
  have h2 := hs.look u _ hu
  have hl := run_loadVar_mid w N 0 T' cs.toList d hb.all hd hrow (by simpa using hi)
  have hrun : (results fn a.tmps).run P w = .ok (.tuple #[.agg cs, y]) w := by
    have h1' : (a.tmps[t]?).getD undef = .pointer (some ⟨N, 0, none⟩) := by rw [← h1, Array.getD_eq_getD_getElem?]
    have h2' : (a.tmps[u]?).getD undef = y := by rw [← h2, Array.getD_eq_getD_getElem?]
    simp [results, hr, h1', h2', asAddr, hl, Sem.run_bind]
  exact bodyPost_ret hrun hs.defers h
/-- A struct as the result. -/
theorem co_retC {Q : Exit → Act → World → Prop} {a : Act} {fn : Func} {E : Ending → World → Prop} {t : Nat} {T' : TypeId} {d : TypeDesc} (hs : Slots n m a) (hr : fn.results = #[.cell t T']) (ht : m.lookup t = some (.pointer (some ⟨N, 0, none⟩))) (hb : Blk w N T cs)
    (hd : P.underlying T' = some d) (hrow : d.isRow = true) (hi : (P.info? T').map (·.size) = some cs.size) (h : E (.returned (.agg cs)) w) : bodyPost P fn E .ret a w := by
  have h1 := hs.look t _ ht
  have hl := run_loadVar_mid w N 0 T' cs.toList d hb.all hd hrow (by simpa using hi)
  have hrun : (results fn a.tmps).run P w = .ok (.agg cs) w := by
    have h1' : (a.tmps[t]?).getD undef = .pointer (some ⟨N, 0, none⟩) := by rw [← h1, Array.getD_eq_getD_getElem?]
    simp [results, hr, h1', asAddr, hl, Sem.run_bind]
  exact bodyPost_ret hrun hs.defers h
end
end Go.Proofs.Ytaoibbakflacoaa

/- Drawn regions in which several operations may come up: each way for itself. Conditions: none. -/
namespace Go.Proofs.Ytaoibbakflacoaa
open Go.RowKit

section
variable {P : Program} {n : Nat} {m : List (Nat × Value)} {w : World} {o : Oper} {ops : Array Oper} {Q : Exit → Act → World → Prop} {R : Value → World → Prop} {md : Region.Mode} {S : World → Prop} {fuel i d : Nat} {listed : Array Bool} {a : Act}
def AllW (P : Program) (md : Region.Mode) (ops : Array Oper) (Q : Exit → Act → World → Prop) (S : World → Prop) (fuel : Nat) (listed : Array Bool) (a : Act) (w : World) : List Nat → Prop
  | [] => True
  | i :: r => wpOp P ops (NP Q) i (fun a' w' => S w' ∧ wpAnyH P md ops (NP Q) S fuel (listed.setIfInBounds i true) a' w') a w ∧ AllW P md ops Q S fuel listed a w r
theorem AllW.all : ∀ (rs : List Nat), AllW P md ops Q S fuel listed a w rs → ∀ i ∈ rs, wpOp P ops (NP Q) i (fun a' w' => S w' ∧ wpAnyH P md ops (NP Q) S fuel (listed.setIfInBounds i true) a' w') a w
  | [], _, _, h => by cases h
  | i :: r, h, j, hj => by
    rcases List.mem_cons.1 hj with rfl | hj
    · exact h.1
    · exact AllW.all r h.2 j hj
/-- Several may come up. -/
theorem dr_many (rs : List Nat) (hr : Region.ready md ops listed = rs) (hne : rs ≠ []) (h : AllW P md ops Q S fuel listed a w rs) : wpAnyH P md ops (NP Q) S (fuel + 1) listed a w := wpAnyH_all hr hne (AllW.all rs h)
theorem dr_op (hs : Slots n m a) (ho : ops[i]? = some o) (hw : wantB m ops o = some true) (hd : o.dst = some d) (hdn : Nat.blt d n = true) (h1 : Op1 P n m o w R) (hS : ∀ v w', R v w' → S w')
    (h : ∀ v w' a', R v w' → Slots n ((d, v) :: m) a' → wpAnyH P md ops (NP Q) S fuel (listed.setIfInBounds i true) a' w') : wpOp P ops (NP Q) i (fun a' w' => S w' ∧ wpAnyH P md ops (NP Q) S fuel (listed.setIfInBounds i true) a' w') a w := by
  unfold wpOp
  simp only [ho, hs.wants hw, if_true]
  exact .inl (h1 a hs _ _ fun v w' hv => ⟨hS v w' hv, h v w' _ hv (by rw [hd]; exact hs.put (by simpa using hdn))⟩)
end
theorem row_one {w : World} {B sz k : Nat} {T : TypeId} {v : Value} {xs : List Value} (h : w.ownsRow B T sz v k xs) : v.oneCell' = true := by
  rcases h.2 with ⟨rfl, _⟩ | ⟨g, cap, cur, rfl, _⟩ <;> rfl
theorem sl_one {α : Type} {enc : α → List Value} {sz : Nat} {w : World} {v : Value} {l : List α} (h : SliceOf enc sz w v l) : v.oneCell' = true := by
  obtain ⟨ao, cap, rfl, _⟩ := h; rfl
theorem all_nil : ([] : List Value).toArray.all (·.oneCell') = true := by simp
theorem all_cons {u : Value} {l : List Value} (h : u.oneCell' = true) (hl : l.toArray.all (·.oneCell') = true) : (u :: l).toArray.all (·.oneCell') = true := by
  simp only [List.all_toArray, List.all_cons, Bool.and_eq_true] at hl ⊢
  exact ⟨h, hl⟩
/-- A block of known cells, as a row of its own. -/
theorem row_of_cells {α : Type} {enc : α → List Value} {sz base N : Nat} {w : World} {T : TypeId} {cs : Array Value} (l : List α) (h : Blk w N T cs) (hb : base ≤ N) (hl : cs.toList = l.flatMap enc) (hs : cs.size = l.length * sz) (hm : l.length ≤ maxLen) :
    w.ownsRow base T sz (.slice (some ⟨N, 0, none⟩) l.length l.length) l.length (l.flatMap enc) := by
  have hcs : cs.toList.length = l.length * sz := by simpa using hs
  refine ⟨by rw [← hl, hcs], .inr ⟨N, l.length, cs, rfl, hb, h, Nat.le_refl _, hm, hs, ?_⟩⟩
  rw [← hl, List.take_of_length_le (by omega)]
/-- A pointer. -/
abbrev pt (b o : Nat) : Value := .pointer (some ⟨b, o, none⟩)
/-! ### Short forms: what follows by computing alone stands behind. -/
section
variable {P : Program} {n : Nat} {m : List (Nat × Value)} {w : World} {o : Oper} {ops : Array Oper} {rest : List Oper} {Q : Exit → Act → World → Prop} {R : Value → World → Prop} {md : Region.Mode} {S : World → Prop} {fuel d : Nat} {listed : Array Bool} {a : Act} {v : Value}
theorem pk (hs : Slots n m a) (hd : o.dst = some d) (hrun : (execOp (lk m) o).run P w = .ok (.value v) w) (h : ∀ a', Slots n ((d, v) :: m) a' → wpList P ops Q rest a' w)
    (hg : wantB m ops o = some true := by rfl) (hdn : Nat.blt d n = true := by rfl) (hok : okOps m o.op = true := by kernel_rfl) (hsel : (match o.op with | .select .. => true | _ => false) = false := by kernel_rfl) : wpList P ops Q (o :: rest) a w := pl_val hs hg hd hdn hok hsel hrun h
theorem pk0 (hs : Slots n m a) (hd : o.dst = some d) (h : ∀ a', Slots n ((d, v) :: m) a' → wpList P ops Q rest a' w)
    (hg : wantB m ops o = some true := by rfl) (hdn : Nat.blt d n = true := by rfl) (hok : okOps m o.op = true := by kernel_rfl) (hsel : (match o.op with | .select .. => true | _ => false) = false := by kernel_rfl) (hrun : (execOp (lk m) o).run P w = .ok (.value v) w := by kernel_rfl) : wpList P ops Q (o :: rest) a w := pl_val hs hg hd hdn hok hsel hrun h
theorem pw (hs : Slots n m a) (hd : o.dst = some d) (h1 : Op1 P n m o w R) (h : ∀ v w' a', R v w' → Slots n ((d, v) :: m) a' → wpList P ops Q rest a' w') (hg : wantB m ops o = some true := by rfl) (hdn : Nat.blt d n = true := by rfl) : wpList P ops Q (o :: rest) a w := pl_want hs hg hd hdn h1 h
theorem pwD (hs : Slots n m a) (hd : o.dst = none) (h1 : Op1 P n m o w R) (h : ∀ v w' a', R v w' → Slots n m a' → wpList P ops Q rest a' w') (hg : wantB m ops o = some true := by rfl) : wpList P ops Q (o :: rest) a w := pl_doW hs hg hd h1 h
theorem psk (hs : Slots n m a) (hd : o.dst = some d) (h : ∀ a', Slots n ((d, undef) :: m) a' → wpList P ops Q rest a' w) (hg : wantB m ops o = some false := by rfl) (hdn : Nat.blt d n = true := by rfl) : wpList P ops Q (o :: rest) a w := pl_skip hs hg hd hdn h
theorem dk (i : Nat) (hs : Slots n m a) (ho : ops[i]? = some o) (hd : o.dst = some d) (hS : S w) (hrun : ∀ w, S w → (execOp (lk m) o).run P w = .ok (.value v) w) (h : ∀ a', Slots n ((d, v) :: m) a' → wpAnyH P md ops (NP Q) S fuel (listed.setIfInBounds i true) a' w)
    (hsel : Region.noSelect ops = true := by kernel_rfl) (hf : Region.free md ops listed i = true := by kernel_rfl) (hr : (Region.ready md ops listed).contains i = true := by kernel_rfl) (hw : wantB m ops o = some true := by rfl) (hdn : Nat.blt d n = true := by rfl) (hok : okOps m o.op = true := by kernel_rfl) : wpAnyH P md ops (NP Q) S (fuel + 1) listed a w := dr_take hs ho hsel hf hr hw hd hdn hS hok hrun h
theorem dk0 (i : Nat) (hs : Slots n m a) (ho : ops[i]? = some o) (hd : o.dst = some d) (hS : S w) (h : ∀ a', Slots n ((d, v) :: m) a' → wpAnyH P md ops (NP Q) S fuel (listed.setIfInBounds i true) a' w)
    (hsel : Region.noSelect ops = true := by kernel_rfl) (hf : Region.free md ops listed i = true := by kernel_rfl) (hr : (Region.ready md ops listed).contains i = true := by kernel_rfl) (hw : wantB m ops o = some true := by rfl) (hdn : Nat.blt d n = true := by rfl) (hok : okOps m o.op = true := by kernel_rfl) (hrun : ∀ w, S w → (execOp (lk m) o).run P w = .ok (.value v) w := by intro _ _; kernel_rfl) : wpAnyH P md ops (NP Q) S (fuel + 1) listed a w := dr_take hs ho hsel hf hr hw hd hdn hS hok hrun h
theorem dsk (i : Nat) (hs : Slots n m a) (ho : ops[i]? = some o) (hd : o.dst = some d) (hS : S w) (h : ∀ a', Slots n ((d, undef) :: m) a' → wpAnyH P md ops (NP Q) S fuel (listed.setIfInBounds i true) a' w)
    (hsel : Region.noSelect ops = true := by kernel_rfl) (hf : Region.free md ops listed i = true := by kernel_rfl) (hr : (Region.ready md ops listed).contains i = true := by kernel_rfl) (hw : wantB m ops o = some false := by rfl) (hdn : Nat.blt d n = true := by rfl) : wpAnyH P md ops (NP Q) S (fuel + 1) listed a w := dr_skip hs ho hsel hf hr hw hd hdn hS h
theorem d1 (i : Nat) (hs : Slots n m a) (ho : ops[i]? = some o) (hd : o.dst = some d) (h1 : Op1 P n m o w R) (hS : ∀ v w', R v w' → S w') (h : ∀ v w' a', R v w' → Slots n ((d, v) :: m) a' → wpAnyH P md ops (NP Q) S fuel (listed.setIfInBounds i true) a' w')
    (hr : Region.ready md ops listed = [i] := by kernel_rfl) (hw : wantB m ops o = some true := by rfl) (hdn : Nat.blt d n = true := by rfl) : wpAnyH P md ops (NP Q) S (fuel + 1) listed a w := dr_one hs ho hr hw hd hdn h1 hS h
theorem d1D (i : Nat) (hs : Slots n m a) (ho : ops[i]? = some o) (hd : o.dst = none) (h1 : Op1 P n m o w R) (hS : ∀ v w', R v w' → S w') (h : ∀ v w' a', R v w' → Slots n m a' → wpAnyH P md ops (NP Q) S fuel (listed.setIfInBounds i true) a' w')
    (hr : Region.ready md ops listed = [i] := by kernel_rfl) (hw : wantB m ops o = some true := by rfl) : wpAnyH P md ops (NP Q) S (fuel + 1) listed a w := dr_oneDo hs ho hr hw hd h1 hS h
end
end Go.Proofs.Ytaoibbakflacoaa

/- Steps of a walk over known slots: rows and blocks of other types lie apart; three results, the first one a struct in a cell. Conditions: none. -/
namespace Go.Proofs.Ytaoibbakflacoaa
open Go.RowKit
section
variable {P : Program} {n : Nat} {m : List (Nat × Value)} {w x : World} {N : Nat} {T : TypeId} {cs : Array Value}
theorem own_neT {B sz k : Nat} {e : TypeId} {v : Value} {xs : List Value} (h : w.ownsRow B e sz v k xs) (hb : Blk w N T cs) (hT : e ≠ T) : v.ownBlock ≠ some N := fun e1 => by
  rcases h.2 with ⟨rfl, _⟩ | ⟨g, c, cur, rfl, hg, hh, _⟩
  · simp [Value.ownBlock] at e1
  · simp only [Value.ownBlock, Option.some.injEq] at e1
    subst e1
    have := hh.symm.trans hb
    simp only [Option.some.injEq, Obj.cells.injEq] at this
    exact hT this.2.1
theorem row_form {B sz k : Nat} {e : TypeId} {v : Value} {xs : List Value} (h : w.ownsRow B e sz v k xs) : ∃ a n c, v = .slice a n c := by
  rcases h.2 with ⟨rfl, _⟩ | ⟨g, c, cur, rfl, _⟩
  · exact ⟨_, _, _, rfl⟩
  · exact ⟨_, _, _, rfl⟩
end
end Go.Proofs.Ytaoibbakflacoaa

/- Maps that the call makes: a list of keys and values; lookups, stores, deletes, lengths. Conditions: none. -/
namespace Go.Proofs.Ytaoibbakflacoaa
open Go.RowKit

section
variable {K : Type} [DecidableEq K]
/-- The place and the value of a key. -/
def lookK (a : K) : List (K × Value) → Nat → Option (Nat × Value)
  | [], _ => none
  | p :: r, i => if a = p.1 then some (i, p.2) else lookK a r (i + 1)
def getK (l : List (K × Value)) (a : K) : Option Value := (lookK a l 0).map (·.2)
def putK (l : List (K × Value)) (a : K) (v : Value) : List (K × Value) :=
  match lookK a l 0 with
  | some (i, _) => l.modify i fun p => (p.1, v)
  | none => l ++ [(a, v)]
theorem lookK_shift (a : K) : ∀ (l : List (K × Value)) (i j : Nat), lookK a l (i + j) = (lookK a l j).map fun p => (i + p.1, p.2)
  | [], _, _ => rfl
  | p :: r, i, j => by
    unfold lookK
    split
    · rfl
    · rw [Nat.add_assoc]; exact lookK_shift a r i (j + 1)
theorem lookK_some {a : K} : ∀ {l : List (K × Value)} {i : Nat} {v : Value}, lookK a l 0 = some (i, v) → l[i]? = some (a, v)
  | [], i, v, h => by simp [lookK] at h
  | p :: r, i, v, h => by
    unfold lookK at h
    split at h
    · rename_i e
      simp only [Option.some.injEq, Prod.mk.injEq] at h
      obtain ⟨rfl, rfl⟩ := h
      subst e; rfl
    · rw [show (0 : Nat) + 1 = 1 + 0 from rfl, lookK_shift] at h
      cases hr : lookK a r 0 with
      | none => rw [hr] at h; simp at h
      | some q =>
        obtain ⟨k, u⟩ := q
        rw [hr] at h
        simp only [Option.map_some, Option.some.injEq, Prod.mk.injEq] at h
        obtain ⟨rfl, rfl⟩ := h
        rw [Nat.add_comm, List.getElem?_cons_succ]
        exact lookK_some hr
theorem lookK_none {a : K} : ∀ {l : List (K × Value)}, lookK a l 0 = none → ∀ p ∈ l, p.1 ≠ a
  | [], _, p, hp => by simp at hp
  | q :: r, h, p, hp => by
    unfold lookK at h
    split at h
    · simp at h
    · rename_i e
      rw [show (0 : Nat) + 1 = 1 + 0 from rfl, lookK_shift] at h
      have hr : lookK a r 0 = none := by cases hr : lookK a r 0 <;> simp_all
      rcases List.mem_cons.1 hp with rfl | hp
      · exact fun e' => e e'.symm
      · exact lookK_none hr p hp
theorem getK_cons (p : K × Value) (l : List (K × Value)) (b : K) : getK (p :: l) b = if b = p.1 then some p.2 else getK l b := by
  simp only [getK, lookK]
  split
  · rfl
  · rw [show (0 : Nat) + 1 = 1 + 0 from rfl, lookK_shift]; cases lookK b l 0 <;> rfl
@[simp] theorem getK_nil (b : K) : getK ([] : List (K × Value)) b = none := rfl
theorem getK_append (l r : List (K × Value)) (b : K) : getK (l ++ r) b = (getK l b).or (getK r b) := by
  induction l with
  | nil => simp
  | cons p l ih => rw [List.cons_append, getK_cons, getK_cons, ih]; split <;> simp
theorem getK_none {l : List (K × Value)} {b : K} (h : ∀ p ∈ l, p.1 ≠ b) : getK l b = none := by
  induction l with
  | nil => rfl
  | cons p l ih => rw [getK_cons, if_neg (fun e => h p (by simp) e.symm), ih (fun q hq => h q (by simp [hq]))]
theorem getK_modify : ∀ (l : List (K × Value)) (i : Nat) (a : K) (u v : Value) (b : K), l[i]? = some (a, u) → (∀ j, j < i → ∀ p, l[j]? = some p → p.1 ≠ a) → getK (l.modify i fun p => (p.1, v)) b = if b = a then some v else getK l b
  | [], i, a, u, v, b, h, _ => by simp at h
  | p :: r, 0, a, u, v, b, h, _ => by
    simp at h; subst h
    rw [List.modify_zero_cons, getK_cons, getK_cons]
    split <;> simp_all
  | p :: r, i + 1, a, u, v, b, h, hn => by
    rw [List.modify_succ_cons, getK_cons, getK_cons, getK_modify r i a u v b (by simpa using h) (fun j hj q hq => hn (j + 1) (by omega) q (by simpa using hq))]
    have hp : p.1 ≠ a := hn 0 (by omega) p rfl
    by_cases e : b = p.1
    · subst e; simp [hp]
    · simp [e]
theorem lookK_first {a : K} : ∀ {l : List (K × Value)} {i : Nat} {v : Value}, lookK a l 0 = some (i, v) → ∀ j, j < i → ∀ p, l[j]? = some p → p.1 ≠ a
  | [], i, v, h => by simp [lookK] at h
  | q :: r, i, v, h => by
    intro j hj p hp
    unfold lookK at h
    split at h
    · simp at h; omega
    · rename_i e
      rw [show (0 : Nat) + 1 = 1 + 0 from rfl, lookK_shift] at h
      cases hr : lookK a r 0 with
      | none => rw [hr] at h; simp at h
      | some x =>
        obtain ⟨k, u⟩ := x
        rw [hr] at h
        simp only [Option.map_some, Option.some.injEq, Prod.mk.injEq] at h
        cases j with
        | zero => simp at hp; subst hp; exact fun e' => e e'.symm
        | succ j => exact lookK_first hr j (by omega) p (by simpa using hp)
theorem getK_put (l : List (K × Value)) (a : K) (v : Value) (b : K) : getK (putK l a v) b = if b = a then some v else getK l b := by
  unfold putK
  cases h : lookK a l 0 with
  | none =>
    simp only []
    rw [getK_append]
    by_cases e : b = a
    · subst e; rw [getK_none (lookK_none h)]; simp [getK_cons]
    · simp [getK_cons, e]
  | some x =>
    obtain ⟨i, u⟩ := x
    exact getK_modify l i a u v b (lookK_some h) (lookK_first h)
theorem putK_keys (l : List (K × Value)) (a : K) (v : Value) (h : (l.map (·.1)).Nodup) : ((putK l a v).map (·.1)).Nodup := by
  unfold putK
  cases h1 : lookK a l 0 with
  | none =>
    simp only [List.map_append, List.map_cons, List.map_nil]
    rw [List.nodup_append]
    refine ⟨h, by simp, ?_⟩
    intro x hx y hy
    obtain ⟨p, hp, rfl⟩ := List.mem_map.1 hx
    simp at hy; subst hy
    exact lookK_none h1 p hp
  | some x =>
    obtain ⟨i, u⟩ := x
    have : (l.modify i fun p => (p.1, v)).map (·.1) = l.map (·.1) := by
      apply List.ext_getElem?
      intro j
      simp only [List.getElem?_map, List.getElem?_modify]
      cases l[j]? <;> simp
      split <;> rfl
    simp only []
    rw [this]; exact h
end

section
variable {K : Type}
variable {P : Program} {n : Nat} {m : List (Nat × Value)} {w x : World} {o : Oper} {B : Nat} {l : List (K × Value)} {kv : K → Value} {kt e t : TypeId} {q r : Operand} {a : K}
/-- Block B is a map that holds just these entries. -/
def MapB (kv : K → Value) (w : World) (B : Nat) (l : List (K × Value)) : Prop :=
  ∃ es clock, w.heap[B]? = some (.map es clock) ∧ es.toList.map (fun e => (e.key, e.val)) = l.map (fun p => (kv p.1, p.2)) ∧ (l.map (·.1)).Nodup ∧ (es.toList.map (·.born)).Nodup ∧ ∀ e ∈ es.toList, e.born < clock
theorem MapB.lt (h : MapB kv w B l) : B < w.heap.size := by obtain ⟨_, _, h, _⟩ := h; exact (Array.getElem?_eq_some_iff.1 h).1
theorem MapB.keys (h : MapB kv w B l) : (l.map (·.1)).Nodup := by obtain ⟨_, _, _, _, h, _⟩ := h; exact h
theorem MapB.kept {row : Option Nat} (h : MapB kv w B l) (hg : w.grownBy x row) (hne : row ≠ some B) : MapB kv x B l := by
  obtain ⟨es, c, h1, h2⟩ := h
  exact ⟨es, c, by rw [hg.block B (Array.getElem?_eq_some_iff.1 h1).1 (fun e => hne e.symm)]; exact h1, h2⟩
theorem MapB.below (h : MapB kv w B l) (hb : Below w.heap.size w x) : MapB kv x B l := h.kept (below_grown hb) (by simp)
theorem op_makeMap (kv : K → Value) (hrun : (execOp (lk m) o).run P w = .ok (.value (.map (some w.heap.size))) (w.alloc (.map #[] 0))) (hok : okOps m o.op = true) (hsel : (match o.op with | .select .. => true | _ => false) = false) :
    Op1 P n m o w (fun u x => ∃ N, u = .map (some N) ∧ N = w.heap.size ∧ x.heap.size = N + 1 ∧ MapB kv x N [] ∧ w.grownBy x none) :=
  (op_run hok hsel hrun).mono fun u x ⟨h1, h2⟩ => by
    subst h2
    exact ⟨w.heap.size, h1, rfl, by simp, ⟨#[], 0, heap_alloc_new w _, by simp, by simp, by simp, by simp⟩, World.grownBy_alloc w _ none⟩
theorem rn_lenMap {ts : Array TypeId} (ho : o.op = .call { callee := .builtin .len, args := #[q], argTypes := #[t] }) (hq : ev m q = some (.map (some B))) (ht : P.underlying t = some (.map kt e)) (h : MapB kv w B l) : (execOp (lk m) o).run P w = .ok (.value (.int .i64 (l.length : Nat))) w := by
  obtain ⟨es, cl, h1, h2, _⟩ := h
  have hl : es.size = l.length := by have := congrArg List.length h2; simpa using this
  have hg : (getObj B).run P w = .ok (.map es cl) w := by simp [getObj, Sem.run, h1]
  unfold execOp
  simp [ho, resolve, invoke, builtin, Sem.run_bind, lk_ev hq, Builtin.len_, goInt, run_underlying ht, hg, hl]
theorem setObj_grown (w : World) (B : Nat) (ob : Obj) : w.grownBy { w with heap := w.heap.setIfInBounds B ob } (some B) :=
  ⟨rfl, rfl, rfl, by simp, fun k _ hk => by simp [Array.getElem?_setIfInBounds_ne (show B ≠ k from fun e => hk (by rw [e]))]⟩

end

section
variable {K : Type} [DecidableEq K]
/-- How keys of a kind lie in memory, are found, stay. -/
structure KL (P : Program) (kt : TypeId) (kv : K → Value) : Prop where
  chk : ∀ (w : World) (em : Bool) (a : K), (Instr.checkKey em 10000 kt (kv a)).run P w = .ok () w
  fnd : ∀ (w : World) (a : K) (es : List MapEntry) (l : List (K × Value)), es.map (fun e => (e.key, e.val)) = l.map (fun p => (kv p.1, p.2)) → (Instr.findKey kt (kv a) es).run P w = .ok (lookK a l 0) w
  bits : ∀ a : K, Instr.sameBits 10000 (kv a) (kv a) = true

variable {P : Program} {n : Nat} {m : List (Nat × Value)} {w x : World} {o : Oper} {B : Nat} {l : List (K × Value)} {kv : K → Value} {kt e t : TypeId} {q r : Operand} {a : K}
theorem run_update (KK : KL P kt kv) (ht : P.underlying t = some (.map kt e)) (v : Value) (h : MapB kv w B l) :
    ∃ x, (Instr.mapUpdate t (.map (some B)) (kv a) v).run P w = .ok () x ∧ MapB kv x B (putK l a v) ∧ x.heap.size = w.heap.size ∧ w.grownBy x (some B) := by
  have hkn := putK_keys l a v h.keys
  obtain ⟨es, cl, h1, h2, h3, h4, h5⟩ := h
  have hlt := (Array.getElem?_eq_some_iff.1 h1).1
  have hg : (getObj B).run P w = .ok (.map es cl) w := by simp [getObj, Sem.run, h1]
  have hso : ∀ ob : Obj, (setObj B ob).run P w = .ok () { w with heap := w.heap.setIfInBounds B ob } := fun ob => by simp [setObj, Sem.run, h1]
  have hf := KK.fnd w a es.toList l h2
  cases hL : lookK a l 0 with
  | none =>
    refine ⟨{ w with heap := w.heap.setIfInBounds B (.map (es.push { key := kv a, val := v, born := cl }) (cl + 1)) }, ?_, ⟨es.push { key := kv a, val := v, born := cl }, cl + 1, by simp [hlt], ?_, hkn, ?_, ?_⟩, by simp, setObj_grown w B _⟩
    · simp only [Instr.mapUpdate, Sem.run_bind, run_underlying ht, Result.andThen_ok, hg, KK.chk, hf, hL, hso]
    · simp [putK, hL, h2]
    · simp only [Array.toList_push, List.map_append, List.map_cons, List.map_nil]
      rw [List.nodup_append]
      refine ⟨h4, by simp, fun y hy z hz => ?_⟩
      obtain ⟨e0, he, rfl⟩ := List.mem_map.1 hy
      simp at hz; subst hz
      have := h5 e0 he; omega
    · intro e0 he
      simp only [Array.toList_push, List.mem_append, List.mem_singleton] at he
      rcases he with he | rfl
      · have := h5 e0 he; omega
      · exact Nat.lt_succ_self _
  | some p =>
    obtain ⟨i, u⟩ := p
    have hli := lookK_some hL
    have hei : (es.toList.map (fun e => (e.key, e.val)))[i]? = some (kv a, u) := by rw [h2]; simp [hli]
    rw [List.getElem?_map] at hei
    cases he : es.toList[i]? with
    | none => rw [he] at hei; simp at hei
    | some e0 =>
      rw [he] at hei
      simp only [Option.map_some, Option.some.injEq, Prod.mk.injEq] at hei
      have he' : es[i]? = some e0 := by rw [← Array.getElem?_toList]; exact he
      have hst : (Instr.keyThatStays e0.key (kv a)).run P w = .ok (kv a) w := by
        rw [hei.1]; unfold Instr.keyThatStays; rw [KK.bits a]; rfl
      refine ⟨{ w with heap := w.heap.setIfInBounds B (.map (es.modify i fun e => { e with key := kv a, val := v }) cl) }, ?_, ⟨es.modify i fun e => { e with key := kv a, val := v }, cl, by simp [hlt], ?_, hkn, ?_, ?_⟩, by simp, setObj_grown w B _⟩
      · simp only [Instr.mapUpdate, Sem.run_bind, run_underlying ht, Result.andThen_ok, hg, KK.chk, hf, hL, he', Option.map_some, Option.getD_some, hst, hso]
      · simp only [putK, hL, Array.toList_modify]
        apply List.ext_getElem?
        intro j
        have hj : (es.toList.map (fun e => (e.key, e.val)))[j]? = (l.map (fun p => (kv p.1, p.2)))[j]? := by rw [h2]
        simp only [List.getElem?_map, List.getElem?_modify] at hj ⊢
        by_cases e1 : i = j
        · subst e1; simp [he, hli]
        · simp only [e1, if_false]
          cases hx : es.toList[j]? <;> cases hy : l[j]? <;> simp_all
      · have : (es.toList.modify i fun e0 => { e0 with key := kv a, val := v }).map (·.born) = es.toList.map (·.born) := by
          apply List.ext_getElem?
          intro j
          simp only [List.getElem?_map, List.getElem?_modify]
          cases es.toList[j]? <;> simp
          split <;> rfl
        rw [Array.toList_modify, this]; exact h4
      · intro e1 h1'
        rw [Array.toList_modify] at h1'
        obtain ⟨j, hj⟩ := List.getElem?_of_mem h1'
        rw [List.getElem?_modify] at hj
        cases hx : es.toList[j]? with
        | none => rw [hx] at hj; simp at hj
        | some e2 =>
          rw [hx] at hj
          have := h5 e2 (List.mem_of_getElem? hx)
          simp at hj; subst hj
          split <;> simpa using this
theorem op_mapUpdate (KK : KL P kt kv) {s : Operand} {v : Value} (ho : o.op = .mapUpdate t q r s) (hq : ev m q = some (.map (some B))) (hr : ev m r = some (kv a)) (hs : ev m s = some v) (ht : P.underlying t = some (.map kt e)) (h : MapB kv w B l) :
    Op1 P n m o w (fun _ x => MapB kv x B (putK l a v) ∧ x.heap.size = w.heap.size ∧ w.grownBy x (some B)) := by
  intro ac ha N Q hN
  obtain ⟨x, hx, h1, h2, h3⟩ := run_update (a := a) KK ht v h
  unfold Oper.wp execOp
  simp only [ho, ha.ev hq, ha.ev hr, ha.ev hs, Sem.run_bind, hx, Result.andThen_ok, Sem.run_pure]
  exact hN _ _ ⟨h1, h2, h3⟩
end
end Go.Proofs.Ytaoibbakflacoaa

/- Keys of maps: ints, texts, and structs or arrays that are compared part by part. Conditions: none. -/
namespace Go.Proofs.Ytaoibbakflacoaa
open Go.RowKit

theorem findNow_keys {K : Type} [DecidableEq K] {kv : K → Value} {d : TypeDesc} (h : ∀ a b, Instr.sameNow d (kv a) (kv b) = some (decide (a = b))) (a : K) : ∀ (es : List MapEntry) (l : List (K × Value)) (i : Nat), es.map (fun e => (e.key, e.val)) = l.map (fun p => (kv p.1, p.2)) → Instr.findNow d (kv a) es i = some (lookK a l i)
  | [], [], _, _ => rfl
  | [], p :: r, _, h => by simp at h
  | e :: es, [], _, h => by simp at h
  | e :: es, p :: r, i, he => by
    simp only [List.map_cons, List.cons.injEq, Prod.mk.injEq] at he
    obtain ⟨⟨h1, h2⟩, h3⟩ := he
    unfold Instr.findNow lookK
    rw [h1, h a p.1, h2]
    by_cases e1 : a = p.1
    · simp [e1]
    · simp only [e1, decide_false, if_false]
      exact findNow_keys h a es r (i + 1) h3
theorem plainKL {P : Program} {kt : TypeId} {K : Type} [DecidableEq K] {kv : K → Value} {d : TypeDesc} (ht : P.underlying kt = some d) (h : ∀ a b, Instr.sameNow d (kv a) (kv b) = some (decide (a = b))) (hc : ∀ (w : World) em a, (Instr.checkKey em 10000 kt (kv a)).run P w = .ok () w) (hb : ∀ a, Instr.sameBits 10000 (kv a) (kv a) = true) : KL P kt kv where
  chk := hc
  fnd w a es l hl := by
    simp only [Instr.findKey, Sem.run_bind, run_underlying ht, Result.andThen_ok, findNow_keys h a es l 0 hl, Sem.run_pure]
  bits := hb
def strK (s : ByteArray) : Value := .string s
theorem beq_bytes (a b : ByteArray) : (a == b) = decide (a = b) := by
  rw [beq_toListBytes, Go.ByteArray.toList_eq, Go.ByteArray.toList_eq]
  by_cases h : a = b
  · subst h; simp
  · rw [decide_eq_false h, beq_eq_false_iff_ne]
    intro e; exact h (by apply ByteArray.ext; exact Array.toList_inj.1 e)
theorem strKL {P : Program} {kt : TypeId} (ht : P.underlying kt = some .string) : KL P kt strK :=
  plainKL ht (fun a b => by simp only [Instr.sameNow, strK]; rw [beq_bytes]) (fun w em a => (show ∀ d, (Instr.checkKey em (d + 1) kt (strK a)).run P w = .ok () w from fun d => by
    simp only [Instr.checkKey, Sem.run_bind, run_underlying ht, Result.andThen_ok, strK, Sem.run_pure]) 9999) (fun a => (show ∀ d, Instr.sameBits (d + 1) (strK a) (strK a) = true from fun d => by simp only [Instr.sameBits, strK]; rw [beq_bytes]; simp) 9999)
end Go.Proofs.Ytaoibbakflacoaa

/- Maps that the call makes, told by a function that says what each key has (a default for those that are not there). Conditions: none. -/
namespace Go.Proofs.Ytaoibbakflacoaa
open Go.RowKit

section
variable {K V : Type} {P : Program} {n : Nat} {m : List (Nat × Value)} {w x : World} {o : Oper} {B : Nat} {kv : K → Value} {kt e t : TypeId} {q r : Operand} {a : K} {enc : V → Value} {z : V} {g : K → V}

/-- Block B is a map; a key a has g a (z, if it is not there). -/
def MapG [DecidableEq K] (kv : K → Value) (enc : V → Value) (z : V) (w : World) (B : Nat) (g : K → V) : Prop := ∃ l, MapB kv w B l ∧ ∀ a, (getK l a).getD (enc z) = enc (g a)
variable [DecidableEq K]
theorem MapG.lt (h : MapG kv enc z w B g) : B < w.heap.size := by obtain ⟨l, h, _⟩ := h; exact h.lt
theorem MapG.kept {row : Option Nat} (h : MapG kv enc z w B g) (hg : w.grownBy x row) (hne : row ≠ some B) : MapG kv enc z x B g := by
  obtain ⟨l, h1, h2⟩ := h; exact ⟨l, h1.kept hg hne, h2⟩
theorem MapG.below (h : MapG kv enc z w B g) (hb : Below w.heap.size w x) : MapG kv enc z x B g := h.kept (below_grown hb) (by simp)
theorem MapG.row {B' : Nat} {T : TypeId} {sz k : Nat} {v : Value} {xs : List Value} (h : MapG kv enc z w B g) (hr : w.ownsRow B' T sz v k xs) : v.ownBlock ≠ some B := by
  intro e1
  obtain ⟨l, ⟨es, c, h1, _⟩, _⟩ := h
  rcases hr.2 with ⟨rfl, _⟩ | ⟨g1, _, _, rfl, _, hg1, _⟩
  · simp [Value.ownBlock] at e1
  · simp [Value.ownBlock] at e1
    subst e1; rw [h1] at hg1; cases hg1
end
end Go.Proofs.Ytaoibbakflacoaa

/- Ranges over maps that the call made: what is still to come, whichever comes next. Conditions: none. -/
namespace Go.Proofs.Ytaoibbakflacoaa
open Go.RowKit Go.ChangeMaps

section
variable {K : Type} {P : Program} {n : Nat} {m : List (Nat × Value)} {w x : World} {o : Oper} {B r : Nat} {l left : List (K × Value)} {kv : K → Value} {kt e t : TypeId} {q : Operand}
/-- Block r ranges over the map at B; left is still to come. -/
def IterB (kv : K → Value) (w : World) (r B : Nat) (left : List (K × Value)) : Prop :=
  ∃ es clock since seen c0, w.heap[B]? = some (.map es clock) ∧ w.heap[r]? = some (.mapIter (some B) since seen c0) ∧ since ≤ c0 ∧ c0 = clock ∧ (∀ e ∈ es.toList, e.born < since) ∧ (es.toList.map (·.born)).Nodup ∧
    (es.toList.filter fun e => !seen.contains e.born).map (fun e => (e.key, e.val)) = left.map (fun p => (kv p.1, p.2))
theorem IterB.lt (h : IterB kv w r B left) : r < w.heap.size := by obtain ⟨_, _, _, _, _, _, h, _⟩ := h; exact (Array.getElem?_eq_some_iff.1 h).1
theorem IterB.kept {row : Option Nat} (h : IterB kv w r B left) (hg : w.grownBy x row) (h1 : row ≠ some B) (h2 : row ≠ some r) : IterB kv x r B left := by
  obtain ⟨es, c, s, sn, c0, a1, a2, a3⟩ := h
  exact ⟨es, c, s, sn, c0, by rw [hg.block B (Array.getElem?_eq_some_iff.1 a1).1 (fun e => h1 e.symm)]; exact a1, by rw [hg.block r (Array.getElem?_eq_some_iff.1 a2).1 (fun e => h2 e.symm)]; exact a2, a3⟩
theorem IterB.row {B' : Nat} {T : TypeId} {sz k : Nat} {v : Value} {xs : List Value} (h : IterB kv w r B left) (hr : w.ownsRow B' T sz v k xs) : v.ownBlock ≠ some B ∧ v.ownBlock ≠ some r := by
  obtain ⟨es, c, s, sn, c0, a1, a2, _⟩ := h
  rcases hr.2 with ⟨rfl, _⟩ | ⟨g1, _, _, rfl, _, hg1, _⟩
  · simp [Value.ownBlock]
  · constructor
    · intro e1
      simp [Value.ownBlock] at e1
      subst e1; rw [a1] at hg1; cases hg1
    · intro e1
      simp [Value.ownBlock] at e1
      subst e1; rw [a2] at hg1; cases hg1
theorem op_range {a : K} (ho : o.op = .range t q) (hq : ev m q = some (.map (some B))) (ht : P.underlying t = some (.map kt e)) (h : MapB kv w B l) :
    Op1 P n m o w (fun u x => ∃ r, u = .pointer (some ⟨r, 0, none⟩) ∧ r = w.heap.size ∧ IterB kv x r B l ∧ x.heap.size = r + 1 ∧ w.grownBy x none) := by
  intro ac ha N Q hN
  obtain ⟨es, cl, h1, h2, h3, h4, h5⟩ := h
  have hg : (getObj B).run P w = .ok (.map es cl) w := by simp [getObj, Sem.run, h1]
  have hrun : (Instr.range t (.map (some B))).run P w = .ok (.pointer (some ⟨w.heap.size, 0, none⟩)) (w.alloc (.mapIter (some B) cl #[] cl)) := by
    simp only [Instr.range, Sem.run_bind, run_underlying ht, Result.andThen_ok, hg, Sem.run_pure]
    rfl
  unfold Oper.wp execOp
  simp only [ho, ha.ev hq, Sem.run_bind, hrun, Result.andThen_ok, Sem.run_pure]
  have hlt := (Array.getElem?_eq_some_iff.1 h1).1
  have hgr := World.grownBy_alloc w (.mapIter (some B) cl #[] cl) none
  refine hN _ _ ⟨w.heap.size, rfl, rfl, ⟨es, cl, cl, #[], cl, ?_, heap_alloc_new w _, Nat.le_refl _, rfl, h5, h4, ?_⟩, by simp, hgr⟩
  · rw [hgr.block B hlt (by simp)]; exact h1
  · rw [← h2]; congr 1; exact List.filter_eq_self.2 (fun _ _ => by simp)
theorem filter_born : ∀ (L1 L2 : List MapEntry) (e : MapEntry), ((L1 ++ e :: L2).map (·.born)).Nodup → (L1 ++ e :: L2).filter (fun x => x.born != e.born) = L1 ++ L2
  | L1, L2, e, h => by
    rw [List.map_append, List.map_cons, List.nodup_append] at h
    obtain ⟨h1, h2, h3⟩ := h
    rw [List.nodup_cons] at h2
    rw [List.filter_append, List.filter_cons]
    simp only [bne_self_eq_false, Bool.false_eq_true, if_false]
    rw [List.filter_eq_self.2, List.filter_eq_self.2]
    · intro y hy
      have : y.born ≠ e.born := fun hq => h2.1 (hq ▸ List.mem_map_of_mem hy)
      simpa using this
    · intro y hy
      have := h3 y.born (List.mem_map_of_mem hy) e.born (by simp)
      simpa using this
/-- The next one: none is left; or one that is left. -/
theorem op_next (ho : o.op = .next q false) (hq : ev m q = some (.pointer (some ⟨r, 0, none⟩))) (h : IterB kv w r B left) :
    Op1 P n m o w (fun u x => (left = [] ∧ u = .tuple #[.bool false] ∧ x = w) ∨
      ∃ p l1 l2, left = l1 ++ p :: l2 ∧ u = .tuple #[.bool true, kv p.1, p.2] ∧ IterB kv x r B (l1 ++ l2) ∧ (Instr.entry (.pointer (some ⟨r, 0, none⟩))).run P x = .ok (.tuple #[kv p.1, p.2]) x ∧ x.heap.size = w.heap.size ∧ w.grownBy x (some r)) := by
  intro ac ha N Q hN
  obtain ⟨es, cl, since, seen, c0, hB, hr, hsc, rfl, hold, hnd, hl⟩ := h
  have hLl : (leftOf es seen).toList = es.toList.filter fun e => !seen.contains e.born := by unfold leftOf; rw [Array.toList_filter]
  unfold Oper.wp execOp
  simp only [ho, ha.ev hq, Sem.run_bind]
  rcases run_next_at (P := P) w o.type r B since c0 seen es c0 hr hB hold hsc with ⟨h0, hrun⟩ | ⟨e, he, w1, hal, hrun⟩
  · simp only [hrun, Result.andThen_ok, Sem.run_pure]
    refine hN _ _ (.inl ⟨?_, rfl, rfl⟩)
    have h1 : (leftOf es seen).toList = [] := by rw [Array.eq_empty_of_size_eq_zero h0]
    rw [← hLl, h1] at hl
    exact List.map_eq_nil_iff.1 hl.symm
  · simp only [hrun, Result.andThen_ok, Sem.run_pure]
    have hem := mem_left he
    rw [hLl] at he
    obtain ⟨L1, L2, hL⟩ := List.append_of_mem he
    rw [hL, List.map_append, List.map_cons] at hl
    obtain ⟨l1, l2', h1, h2, h3⟩ := List.map_eq_append_iff.1 hl.symm
    obtain ⟨p, l2, h4, h5, h6⟩ := List.map_eq_cons_iff.1 h3
    subst h1 h4
    have hkey : kv p.1 = e.key := (Prod.mk.inj h5).1
    have hval : p.2 = e.val := (Prod.mk.inj h5).2
    have hr1 : w1.heap[r]? = some (.mapIter (some B) since seen c0) := by rcases hal with rfl | rfl <;> exact hr
    have hb1 : w1.heap[B]? = some (.map es c0) := by rcases hal with rfl | rfl <;> exact hB
    have hne : B ≠ r := fun e1 => by subst e1; rw [hr] at hB; cases hB
    have hset := Go.MapKept.heap_set (o' := .mapIter (some B) since (seen.push e.born) c0) hr1
    have hb' : (setBlock w1 r (.mapIter (some B) since (seen.push e.born) c0)).heap[B]? = some (.map es c0) := (hset.2 B hne).trans hb1
    have hgr : w.grownBy (setBlock w1 r (.mapIter (some B) since (seen.push e.born) c0)) (some r) := by
      rcases hal with rfl | rfl
      · exact ⟨rfl, rfl, rfl, by simp [setBlock], fun k _ hk => hset.2 k (fun e1 => hk (by rw [e1]))⟩
      · exact ⟨rfl, rfl, rfl, by show _ ≤ (w.heap.setIfInBounds r _).size; simp, fun k _ hk => hset.2 k (fun e1 => hk (by rw [e1]))⟩
    have hsz : (setBlock w1 r (.mapIter (some B) since (seen.push e.born) c0)).heap.size = w.heap.size := by
      rcases hal with rfl | rfl
      · simp [setBlock]
      · show (w.heap.setIfInBounds r _).size = _; simp
    have hen := run_entry_at (P := P) _ r B since seen es c0 e hset.1 hb' hem.1 hnd
    rw [← hkey, ← hval]
    refine hN _ _ (.inr ⟨p, l1, l2, rfl, rfl, ⟨es, c0, since, seen.push e.born, c0, hb', hset.1, hsc, rfl, hold, hnd, ?_⟩, by rw [hen, hkey, hval], hsz, hgr⟩)
    have hf : (es.toList.filter fun x => !(seen.push e.born).contains x.born) = (es.toList.filter fun x => !seen.contains x.born).filter fun x => x.born != e.born := by
      rw [List.filter_filter]
      congr 1
      funext y
      rw [contains_push]
      cases seen.contains y.born <;> cases hq : (y.born == e.born) <;> simp [bne, hq]
    rw [hf, hL, filter_born L1 L2 e, List.map_append, ← h2, ← h6, List.map_append]
    rw [← hL]
    exact (List.filter_sublist.map _).nodup hnd
theorem rn_entry {u : Value} (ho : o.op = .entry q) (hq : ev m q = some (.pointer (some ⟨r, 0, none⟩))) (h : (Instr.entry (.pointer (some ⟨r, 0, none⟩))).run P w = .ok u w) : (execOp (lk m) o).run P w = .ok (.value u) w := by
  unfold execOp
  simp only [ho, lk_ev hq, Sem.run_bind, h, Result.andThen_ok, Sem.run_pure]
end
end Go.Proofs.Ytaoibbakflacoaa

/- Maps that the call made, told by a function: what a key has, if anything; and ranges over them. Conditions: none. -/
namespace Go.Proofs.Ytaoibbakflacoaa
open Go.RowKit

section
variable {K V : Type} [DecidableEq K] {P : Program} {n : Nat} {m : List (Nat × Value)} {w x : World} {o : Oper} {B r c : Nat} {kv : K → Value} {enc : V → Value} {g : K → Option V} {kt e t : TypeId} {q s : Operand} {a : K} {v : V} {left : List (K × V)}
/-- Block B is a map of at most c entries; a key a has g a. -/
def MapO (kv : K → Value) (enc : V → Value) (w : World) (B : Nat) (g : K → Option V) (c : Nat) : Prop := ∃ l, MapB kv w B l ∧ (∀ a, getK l a = (g a).map enc) ∧ l.length ≤ c
theorem MapO.lt (h : MapO kv enc w B g c) : B < w.heap.size := by obtain ⟨l, h, _⟩ := h; exact h.lt
theorem MapO.kept {row : Option Nat} (h : MapO kv enc w B g c) (hg : w.grownBy x row) (hne : row ≠ some B) : MapO kv enc x B g c := by
  obtain ⟨l, h1, h2⟩ := h; exact ⟨l, h1.kept hg hne, h2⟩
theorem MapO.below (h : MapO kv enc w B g c) (hb : Below w.heap.size w x) : MapO kv enc x B g c := h.kept (below_grown hb) (by simp)
theorem MapO.row {B' : Nat} {T : TypeId} {sz k : Nat} {u : Value} {xs : List Value} (h : MapO kv enc w B g c) (hr : w.ownsRow B' T sz u k xs) : u.ownBlock ≠ some B := by
  intro e1
  obtain ⟨l, ⟨es, c', h1, _⟩, _⟩ := h
  rcases hr.2 with ⟨rfl, _⟩ | ⟨g1, _, _, rfl, _, hg1, _⟩
  · simp [Value.ownBlock] at e1
  · simp [Value.ownBlock] at e1
    subst e1; rw [h1] at hg1; cases hg1
theorem MapO.eq {g' : K → Option V} {c' : Nat} (h : MapO kv enc w B g c) (hg : g = g') (hc : c ≤ c') : MapO kv enc w B g' c' := by
  subst hg; obtain ⟨l, h1, h2, h3⟩ := h; exact ⟨l, h1, h2, Nat.le_trans h3 hc⟩
theorem op_makeO (kv : K → Value) (enc : V → Value) (hrun : (execOp (lk m) o).run P w = .ok (.value (.map (some w.heap.size))) (w.alloc (.map #[] 0))) (hok : okOps m o.op = true) (hsel : (match o.op with | .select .. => true | _ => false) = false) :
    Op1 P n m o w (fun u x => ∃ N, u = .map (some N) ∧ N = w.heap.size ∧ x.heap.size = N + 1 ∧ MapO kv enc x N (fun _ => none) 0 ∧ w.grownBy x none) :=
  (op_makeMap kv hrun hok hsel).mono fun u x ⟨N, h1, h2, h3, h4, h5⟩ => ⟨N, h1, h2, h3, ⟨[], h4, fun a => by simp, by simp⟩, h5⟩
theorem putK_len (l : List (K × Value)) (a : K) (v : Value) : (putK l a v).length ≤ l.length + 1 := by unfold putK; split <;> simp
theorem op_updateO (KK : KL P kt kv) {q1 : Operand} (ho : o.op = .mapUpdate t q q1 s) (hq : ev m q = some (.map (some B))) (hr : ev m q1 = some (kv a)) (hs : ev m s = some (enc v)) (ht : P.underlying t = some (.map kt e)) (h : MapO kv enc w B g c) :
    Op1 P n m o w (fun _ x => MapO kv enc x B (fun b => if b = a then some v else g b) (c + 1) ∧ x.heap.size = w.heap.size ∧ w.grownBy x (some B)) := by
  obtain ⟨l, h1, h2, h3⟩ := h
  refine (op_mapUpdate KK ho hq hr hs ht h1).mono fun _ x ⟨k1, k2, k3⟩ => ⟨⟨_, k1, fun b => ?_, Nat.le_trans (putK_len _ _ _) (by omega)⟩, k2, k3⟩
  rw [getK_put]
  by_cases e1 : b = a <;> simp [e1, h2]
theorem rn_lenO {ts : Array TypeId} (ho : o.op = .call { callee := .builtin .len, args := #[q], argTypes := #[t] }) (hq : ev m q = some (.map (some B))) (ht : P.underlying t = some (.map kt e)) (h : MapO kv enc w B g c) :
    ∃ k : Nat, k ≤ c ∧ (execOp (lk m) o).run P w = .ok (.value (.int .i64 (k : Nat))) w := by
  obtain ⟨l, h1, h2, h3⟩ := h
  exact ⟨l.length, h3, rn_lenMap (ts := ts) ho hq ht h1⟩
theorem op_lenO {ts : Array TypeId} (ho : o.op = .call { callee := .builtin .len, args := #[q], argTypes := #[t] }) (hq : ev m q = some (.map (some B))) (ht : P.underlying t = some (.map kt e)) (h : MapO kv enc w B g c) (hok : okOps m o.op = true) (hsel : (match o.op with | .select .. => true | _ => false) = false) :
    Op1 P n m o w (fun u x => ∃ k : Nat, u = .int .i64 ((k : Nat) : Int) ∧ k ≤ c ∧ w = x) := by
  obtain ⟨k, h1, h2⟩ := rn_lenO (ts := ts) ho hq ht h
  exact (op_run hok hsel h2).mono fun u x ⟨e1, e2⟩ => ⟨k, e1, h1, e2.symm⟩
/-- lt holds just what g has. -/
def Full (g : K → Option V) (lt : List (K × V)) : Prop := (lt.map (·.1)).Nodup ∧ ∀ a v, g a = some v ↔ (a, v) ∈ lt
theorem getK_mem : ∀ (l : List (K × Value)) (a : K) (u : Value), (l.map (·.1)).Nodup → (getK l a = some u ↔ (a, u) ∈ l)
  | [], a, u, _ => by simp
  | p :: r, a, u, h => by
    rw [List.map_cons, List.nodup_cons] at h
    have ih := getK_mem r a u h.2
    rw [getK_cons]
    by_cases e1 : a = p.1
    · rw [if_pos e1]
      constructor
      · intro h1
        have : p.2 = u := Option.some.inj h1
        exact List.mem_cons.2 (.inl (Prod.ext e1 this.symm))
      · intro h1
        rcases List.mem_cons.1 h1 with h2 | h2
        · rw [← h2]
        · exact absurd (e1 ▸ List.mem_map_of_mem (f := (·.1)) h2) h.1
    · rw [if_neg e1, ih]
      constructor
      · exact fun h1 => List.mem_cons_of_mem _ h1
      · intro h1
        rcases List.mem_cons.1 h1 with h2 | h2
        · exact absurd (by rw [← h2]) e1
        · exact h2
omit [DecidableEq K] in
theorem typed_list (g : K → Option V) (enc : V → Value) : ∀ (l : List (K × Value)), (∀ p ∈ l, (g p.1).map enc = some p.2) → ∃ lt : List (K × V), l = lt.map (fun p => (p.1, enc p.2)) ∧ ∀ p ∈ lt, g p.1 = some p.2
  | [], _ => ⟨[], rfl, by simp⟩
  | p :: r, h => by
    obtain ⟨lt, h1, h2⟩ := typed_list g enc r (fun y hy => h y (List.mem_cons_of_mem _ hy))
    have hp := h p (by simp)
    cases hg : g p.1 with
    | none => rw [hg] at hp; cases hp
    | some v =>
      rw [hg] at hp
      have hv : enc v = p.2 := Option.some.inj hp
      refine ⟨(p.1, v) :: lt, by rw [List.map_cons, ← h1, hv], fun y hy => ?_⟩
      rcases List.mem_cons.1 hy with rfl | hy
      · exact hg
      · exact h2 y hy
theorem MapO.list (h : MapO kv enc w B g c) : ∃ lt : List (K × V), MapB kv w B (lt.map fun p => (p.1, enc p.2)) ∧ Full g lt ∧ lt.length ≤ c := by
  obtain ⟨l, h1, h2, h3⟩ := h
  have hn := h1.keys
  obtain ⟨lt, e1, e2⟩ := typed_list g enc l (fun p hp => by rw [← h2]; exact (getK_mem l p.1 p.2 hn).2 hp)
  subst e1
  have hn' : (lt.map (·.1)).Nodup := by rw [List.map_map] at hn; exact hn
  refine ⟨lt, h1, ⟨hn', fun a v => ⟨fun hg => ?_, fun hm => e2 _ hm⟩⟩, by simpa using h3⟩
  have h4 := h2 a
  rw [hg] at h4
  have h5 := (getK_mem _ a (enc v) hn).1 h4
  obtain ⟨p, hp, hq⟩ := List.mem_map.1 h5
  have e3 : p.1 = a := (Prod.mk.inj hq).1
  have e4 := e2 p hp
  rw [e3, hg] at e4
  have : v = p.2 := Option.some.inj e4
  rw [← e3, this]; exact hp
/-- A range over it, what is still to come told as keys and values. -/
def IterO (kv : K → Value) (enc : V → Value) (w : World) (r B : Nat) (left : List (K × V)) : Prop := IterB kv w r B (left.map fun p => (p.1, enc p.2))
omit [DecidableEq K] in
theorem IterO.lt (h : IterO kv enc w r B left) : r < w.heap.size := IterB.lt h
omit [DecidableEq K] in
theorem IterO.kept {row : Option Nat} (h : IterO kv enc w r B left) (hg : w.grownBy x row) (h1 : row ≠ some B) (h2 : row ≠ some r) : IterO kv enc x r B left := IterB.kept h hg h1 h2
omit [DecidableEq K] in
theorem IterO.row {B' : Nat} {T : TypeId} {sz k : Nat} {u : Value} {xs : List Value} (h : IterO kv enc w r B left) (hr : w.ownsRow B' T sz u k xs) : u.ownBlock ≠ some B ∧ u.ownBlock ≠ some r := IterB.row h hr
theorem op_rangeO (a : K) (ho : o.op = .range t q) (hq : ev m q = some (.map (some B))) (ht : P.underlying t = some (.map kt e)) (h : MapO kv enc w B g c) :
    Op1 P n m o w (fun u x => ∃ r, u = .pointer (some ⟨r, 0, none⟩) ∧ r = w.heap.size ∧ x.heap.size = r + 1 ∧ (∃ lt : List (K × V), IterO kv enc x r B lt ∧ Full g lt ∧ lt.length ≤ c) ∧ w.grownBy x none) := by
  obtain ⟨lt, h1, h2, h3⟩ := h.list
  exact (op_range (a := a) ho hq ht h1).mono fun u x ⟨r, k1, k2, k3, k4, k5⟩ => ⟨r, k1, k2, k4, ⟨lt, k3, h2, h3⟩, k5⟩
omit [DecidableEq K] in
theorem op_nextO (ho : o.op = .next q false) (hq : ev m q = some (.pointer (some ⟨r, 0, none⟩))) (h : IterO kv enc w r B left) :
    Op1 P n m o w (fun u x => (left = [] ∧ u = .tuple #[.bool false] ∧ w = x) ∨
      ∃ p l1 l2, left = l1 ++ p :: l2 ∧ u = .tuple #[.bool true, kv p.1, enc p.2] ∧ IterO kv enc x r B (l1 ++ l2) ∧ (Instr.entry (.pointer (some ⟨r, 0, none⟩))).run P x = .ok (.tuple #[kv p.1, enc p.2]) x ∧ x.heap.size = w.heap.size ∧ w.grownBy x (some r)) :=
  (op_next ho hq h).mono fun u x hx => by
    rcases hx with ⟨h1, h2, h3⟩ | ⟨p, l1, l2, h1, h2, h3, h4, h5, h6⟩
    · exact .inl ⟨List.map_eq_nil_iff.1 h1, h2, h3.symm⟩
    · obtain ⟨k1, k2', e1, e2, e3⟩ := List.map_eq_append_iff.1 h1
      obtain ⟨p', k2, e4, e5, e6⟩ := List.map_eq_cons_iff.1 e3
      subst e1 e4 e2 e5 e6
      exact .inr ⟨p', k1, k2, rfl, h2, by unfold IterO; rw [List.map_append]; exact h3, h4, h5, h6⟩
end
section
variable {P : Program} {n : Nat} {m : List (Nat × Value)} {w : World} {o : Oper}
/-- make of no element, room for k: the call's own row. -/
theorem op_makeOwn {α : Type} {enc : α → List Value} {p q : Operand} {base k : Nat} {t e : TypeId} {z : Value} {size by_ : Nat} (ho : o.op = .makeSlice t p q) (hp : ev m p = some (.int .i64 0)) (hq : ev m q = some (.int .i64 ((k : Nat) : Int)))
    (h1 : P.underlying t = some (.slice e)) (hi : (P.info? e).map (fun i => (i.zero, i.size, i.bytes)) = some (some z, size, by_)) (b2 : by_ * k ≤ 281474976710656) (b3 : k ≤ maxLen) (b4 : base ≤ w.heap.size) :
    Op1 P n m o w (fun u x => ∃ N, u = .slice (some ⟨N, 0, none⟩) 0 k ∧ N = w.heap.size ∧ x.ownsRow base e size (.slice (some ⟨N, 0, none⟩) 0 k) ([] : List α).length (([] : List α).flatMap enc) ∧ w.grownBy x none) := by
  intro ac ha N Q hN
  obtain ⟨i, h2, h3, h4, h5⟩ := info_parts hi
  subst h5
  obtain ⟨x, hx, k1, k2⟩ := run_make_own (P := P) w base t e i z size h1 h2 h3 h4 .i64 .i64 k b2 b3 b4
  unfold Oper.wp
  simp [execOp, ho, ha.ev hp, ha.ev hq, hx, Result.andThen]
  exact hN _ _ ⟨w.heap.size, rfl, rfl, k1, k2⟩
end
end Go.Proofs.Ytaoibbakflacoaa

/- A world that is as another was, but for some blocks. Conditions: none. -/
namespace Go.Proofs.Ytaoibbakflacoaa
open Go.RowKit

/-- What was there is as it was, but for the blocks that S tells. -/
structure But (S : Nat → Prop) (w w' : World) : Prop where
  os : w'.os = w.os
  tape : w'.tape = w.tape
  output : w'.output = w.output
  size : w.heap.size ≤ w'.heap.size
  block : ∀ k, k < w.heap.size → ¬ S k → w'.heap[k]? = w.heap[k]?

theorem But.refl (S : Nat → Prop) (w : World) : But S w w := ⟨rfl, rfl, rfl, Nat.le_refl _, fun _ _ _ => rfl⟩
theorem But.trans {S : Nat → Prop} {a b c : World} (h : But S a b) (k : But S b c) : But S a c :=
  ⟨k.os.trans h.os, k.tape.trans h.tape, k.output.trans h.output, Nat.le_trans h.size k.size, fun i hi hs => (k.block i (Nat.lt_of_lt_of_le hi h.size) hs).trans (h.block i hi hs)⟩
theorem But.mono {S S' : Nat → Prop} {w w' : World} (h : But S w w') (hs : ∀ k, k < w.heap.size → S k → S' k) : But S' w w' :=
  ⟨h.os, h.tape, h.output, h.size, fun k hk hn => h.block k hk (fun h1 => hn (hs k hk h1))⟩
theorem But.of_below {S : Nat → Prop} {w w' : World} (h : Below w.heap.size w w') : But S w w' := ⟨h.os, h.tape, h.output, h.size, fun k hk _ => h.block k hk⟩
theorem But.below {S : Nat → Prop} {w w' : World} {B : Nat} (h : But S w w') (hB : B ≤ w.heap.size) (hs : ∀ k, k < w.heap.size → S k → B ≤ k) : Below B w w' :=
  ⟨h.os, h.tape, h.output, h.size, fun k hk => h.block k (by omega) (fun h1 => by have := hs k (by omega) h1; omega)⟩
/-- Two steps, the second one over blocks that may be new. -/
theorem But.trans' {S S' : Nat → Prop} {a b c : World} (h : But S a b) (k : But S' b c) (hs : ∀ i, i < a.heap.size → S' i → S i) : But S a c :=
  ⟨k.os.trans h.os, k.tape.trans h.tape, k.output.trans h.output, Nat.le_trans h.size k.size, fun i hi hn => (k.block i (Nat.lt_of_lt_of_le hi h.size) (fun h1 => hn (hs i hi h1))).trans (h.block i hi hn)⟩
/-- From below B on: what turns are blocks from B on. -/
theorem below_but {S : Nat → Prop} {B : Nat} {a b c : World} (h : Below B a b) (k : But S b c) (hB : B ≤ b.heap.size) (hs : ∀ i, i < b.heap.size → S i → B ≤ i) : Below B a c := h.trans (k.below hB hs)
theorem But.alloc {S : Nat → Prop} {a w : World} (h : But S a w) (o : Obj) : But S a (w.alloc o) :=
  h.trans ⟨rfl, rfl, rfl, by simp, fun k hk _ => Below.heap_alloc _ _ _ hk⟩
theorem But.drew {S : Nat → Prop} {a w : World} (h : But S a w) : But S a w.drew := ⟨h.os, h.tape, h.output, h.size, h.block⟩
theorem But.setCell {S : Nat → Prop} {a w : World} (h : But S a w) {p : Addr} (hp : p.block < a.heap.size → S p.block) (u : Value) : But S a (w.setCell p u) :=
  h.trans' (S' := fun k => k = p.block) ⟨rfl, rfl, rfl, by simp [World.setCell], fun k _ hn => Below.heap_setCell _ _ _ _ hn⟩ (fun i hi e => by subst e; exact hp hi)
theorem But.cell {S : Nat → Prop} {w w' : World} (h : But S w w') {a : Addr} {v : Value} (hs : ¬ S a.block) (hc : w.cell? a = some v) : w'.cell? a = some v := by
  rw [World.cell?_of_block (w := w) (h.block _ (World.block_lt_of_cell? w a hc) hs)]; exact hc
theorem But.frozen {S : Nat → Prop} {w w' : World} (h : But S w w') {a : Addr} (hl : a.block < w.heap.size) (hs : ¬ S a.block) : w'.frozen? a = w.frozen? a := World.frozen?_of_block (w := w) (h.block _ hl hs)
/-- A store into one block. -/
theorem But.store {a w : World} {b : Nat} (h : But (fun x => x = b) a w) (o : Nat) (u : Value) : But (fun x => x = b) a (w.setCell ⟨b, o, none⟩ u) :=
  h.setCell (p := ⟨b, o, none⟩) (fun _ => rfl) u
end Go.Proofs.Ytaoibbakflacoaa

/- Steps of a walk over an object's own parts: effects upon a set of blocks, appends that tell where the row went, bytes, maps looked up, rows and maps cleared. Conditions: none. -/
namespace Go.Proofs.Ytaoibbakflacoaa
open Go.RowKit

section
variable {P : Program} {n : Nat} {m : List (Nat × Value)} {w x w0 : World} {o : Oper} {N : Nat} {T : TypeId} {cs : Array Value} {S : Nat → Prop} {v u : Value} {k : Nat}
theorem grown_butU {row : Option Nat} (hg : w.grownBy x row) : But (fun k => row = some k) w x := ⟨hg.os, hg.tape, hg.output, hg.size, fun k hk hn => hg.block k hk (fun e => hn e.symm)⟩
/-- Where a row lies: in S, or it was made since a world of n blocks. -/
def InS (S : Nat → Prop) (n : Nat) (v : Value) : Prop := ∀ k, v.ownBlock = some k → S k ∨ n ≤ k
theorem InS.nil : InS S k (.slice none 0 0) := fun i hi => by simp [Value.ownBlock] at hi
theorem InS.of (h : ∀ i, v.ownBlock = some i → S i) : InS S k v := fun i hi => .inl (h i hi)
/-- What S grows to. -/
def grow' (S : Nat → Prop) (a b : Nat) : Nat → Prop := fun q => S q ∨ (a ≤ q ∧ q < b)
theorem InS.fin {e : TypeId} {sz q B : Nat} {xs : List Value} (h : InS S k v) (hr : w.ownsRow B e sz v q xs) : ∀ i, v.ownBlock = some i → grow' S k w.heap.size i := fun i hi => by
  rcases h i hi with h1 | h1
  · exact .inl h1
  · exact .inr ⟨h1, (hr.lt i hi).2⟩

end
section
variable {K V : Type} [DecidableEq K] {P : Program} {n : Nat} {m : List (Nat × Value)} {w x : World} {o : Oper} {B r c : Nat} {kv : K → Value} {enc : V → Value} {g : K → Option V} {kt e t : TypeId} {q s : Operand} {a : K} {v : V}
end
section
variable {P : Program} {n : Nat} {m : List (Nat × Value)} {w : World} {o : Oper} {v : Value} {α : Type} {enc : α → List Value} {l : List α} {sz base : Nat} {T : TypeId}
/-- What is left of a row that is cut. -/
theorem row_cut (h : w.ownsRow base T sz v l.length (l.flatMap enc)) (hsz : ∀ y, (enc y).length = sz) (k : Nat) (hk : k ≤ l.length) (h0 : v ≠ .slice none 0 0 ∨ True) : w.ownsRow base T sz (subV v 0 k sz) (l.take k).length ((l.take k).flatMap enc) := by
  have hlt : (l.take k).length = k := by rw [List.length_take]; omega
  have hfl : ((l.take k).flatMap enc).length = k * sz := by rw [flat_len _ (fun y _ => hsz y), hlt]
  refine ⟨by rw [hfl, hlt], ?_⟩
  rcases h.2 with ⟨rfl, h1⟩ | ⟨g, cap, cur, rfl, hg, hh, hnc, hcm, hcs, htk⟩
  · obtain rfl : l = [] := List.eq_nil_of_length_eq_zero h1
    obtain rfl : k = 0 := by simpa using hk
    exact .inl ⟨by simp [subV, sliced], rfl⟩
  · refine .inr ⟨g, cap, cur, by rw [hlt]; simp [subV, sliced, Addr.add], hg, hh, by rw [hlt]; omega, hcm, hcs, ?_⟩
    rw [hlt]
    have h2 : cur.toList.take (k * sz) = (cur.toList.take (l.length * sz)).take (k * sz) := by
      rw [List.take_take]; congr 1; rw [Nat.min_eq_left (Nat.mul_le_mul_right _ hk)]
    rw [h2, htk]
    have h3 : l.flatMap enc = (l.take k).flatMap enc ++ (l.drop k).flatMap enc := by rw [← List.flatMap_append, List.take_append_drop]
    rw [h3, List.take_append_of_le_length (by rw [hfl]; exact Nat.le_refl _), List.take_of_length_le (by rw [hfl]; exact Nat.le_refl _)]
end
end Go.Proofs.Ytaoibbakflacoaa

/- Package ops: Check of both. Conditions: none. -/
namespace Go.Proofs.Ytaoibbakflacoaa
open Go.RowKit Go.PlainAid
set_option linter.unusedVariables false


abbrev OpT := ByteArray × ByteArray × Bool
def opE (o : OpT) : List Value := [.string o.1, .string o.2.1, .bool o.2.2]
theorem opE_len (o : OpT) : (opE o).length = 3 := rfl
theorem opE_one (o : OpT) : ∀ u ∈ opE o, u.oneCell' = true := by intro u hu; simp [opE] at hu; rcases hu with rfl | rfl | rfl <;> rfl
theorem bl_flip : ∀ (x y : List UInt8), (Op.bytesLess x y || x == y) = !Op.bytesLess y x
  | [], [] => rfl
  | [], _ :: _ => rfl
  | _ :: _, [] => rfl
  | a :: x, b :: y => by
    have ih := bl_flip x y
    show ((decide (a < b) || (a == b && Op.bytesLess x y)) || (a == b && x == y)) = !(decide (b < a) || (b == a && Op.bytesLess y x))
    rcases Nat.lt_trichotomy a.toNat b.toNat with h | h | h
    · have h1 : a < b := h
      have h2 : ¬ b < a := fun q => by have : b.toNat < a.toNat := q; omega
      have h3 : ¬ b = a := fun q => by subst q; omega
      simp [h1, h2, h3]
    · have e : a = b := UInt8.toNat.inj h
      subst e
      have h2 : ¬ a < a := fun q => by have : a.toNat < a.toNat := q; omega
      simp [h2]; simpa using ih
    · have h1 : ¬ a < b := fun q => by have : a.toNat < b.toNat := q; omega
      have h2 : b < a := h
      have h3 : ¬ a = b := fun q => by subst q; omega
      simp [h1, h2, h3]
/-- What a key's check answers; an operation's; those of all, each key above the one ahead of it. -/
def keyC (k : ByteArray) : Int := if ((k.size : Nat) : Int) < 1 ∨ ((k.size : Nat) : Int) > 8 then 10 else 0
def delV (o : OpT) : Bool := o.2.2 && !(o.2.1.toList == (⟨#[]⟩ : ByteArray).toList)
theorem delV_t {o : OpT} {b : Bool} (h : o.2.2 = true) (h2 : (!(o.2.1.toList == (⟨#[]⟩ : ByteArray).toList)) = b) : delV o = b := by unfold delV; rw [h, h2]; rfl
theorem delV_f {o : OpT} (h : o.2.2 = false) : delV o = false := by unfold delV; rw [h]; rfl
def chkOp (o : OpT) : Int := if keyC o.1 ≠ 0 then keyC o.1 else if ((o.2.1.size : Nat) : Int) > 8 then 3 else if delV o = true then 4 else 0
def keyUp (p : Option ByteArray) (k : ByteArray) : Bool := match p with | some q => Op.bytesLess q.toList k.toList | none => true
def chkL : Option ByteArray → List OpT → Int
  | _, [] => 0
  | p, o :: r => if chkOp o ≠ 0 then chkOp o else if keyUp p o.1 = true then chkL (some o.1) r else 18
def prevK (l : List OpT) (i : Nat) : Option ByteArray := if i = 0 then none else (l[i - 1]?).map (·.1)
def chkB (c r : Int) (l : List OpT) : Int := if c < 0 ∨ c ≥ 3 then 1 else if r < 1 ∨ r > 1073741824 then 5 else if ((l.length : Nat) : Int) > 4 then 6 else chkL none l
theorem prevK_succ {l : List OpT} {i : Nat} {y : OpT} (h : l[i]? = some y) : prevK l (i + 1) = some y.1 := by simp [prevK, h]
theorem prevK_pos {l : List OpT} {i j : Nat} {y : OpT} (hj : j = i - 1) (h0 : 0 < i) (h : l[j]? = some y) : prevK l i = some y.1 := by
  subst hj; simp [prevK, h]; omega
theorem dropO_at {l : List OpT} {i : Nat} {y : OpT} (h : l[i]? = some y) : l.drop i = y :: l.drop (i + 1) := by
  obtain ⟨hi, rfl⟩ := List.getElem?_eq_some_iff.1 h
  exact List.drop_eq_getElem_cons hi
theorem takeO_at {α : Type} {l : List α} {i : Nat} {y : α} (h : l[i]? = some y) : l.take (i + 1) = l.take i ++ [y] := by
  rw [List.take_add_one, h]; rfl
theorem chkL_bad {l : List OpT} {i : Nat} {y : OpT} {z : Int} (h : chkL (prevK l i) (l.drop i) = z) (hy : l[i]? = some y) (hc : chkOp y ≠ 0) : chkOp y = z := by
  rw [dropO_at hy] at h; unfold chkL at h; rwa [if_pos hc] at h
theorem chkL_step {l : List OpT} {i : Nat} {y : OpT} {z : Int} (h : chkL (prevK l i) (l.drop i) = z) (hy : l[i]? = some y) (hc : chkOp y = 0) (hu : keyUp (prevK l i) y.1 = true) : chkL (prevK l (i + 1)) (l.drop (i + 1)) = z := by
  rw [dropO_at hy] at h; unfold chkL at h; rw [if_neg (by simp [hc]), if_pos hu] at h
  rw [prevK_succ hy]; exact h
theorem chkL_ord {l : List OpT} {i : Nat} {y : OpT} {z : Int} (h : chkL (prevK l i) (l.drop i) = z) (hy : l[i]? = some y) (hc : chkOp y = 0) (hu : keyUp (prevK l i) y.1 = false) : 18 = z := by
  rw [dropO_at hy] at h; unfold chkL at h; rwa [if_neg (by simp [hc]), if_neg (by simp [hu])] at h
theorem chkL_end {l : List OpT} {i : Nat} {z : Int} (h : chkL (prevK l i) (l.drop i) = z) (hi : l.length ≤ i) : 0 = z := by
  rw [List.drop_eq_nil_of_le hi] at h; simpa [chkL] using h
theorem keyUp_at {l : List OpT} {i j : Nat} {y y' : OpT} {b : Bool} (hj : j = i - 1) (h0 : 0 < i) (h : l[j]? = some y') (hb : Op.bytesLess y'.1.toList y.1.toList = b) : keyUp (prevK l i) y.1 = b := by rw [prevK_pos hj h0 h]; exact hb
theorem keyUp_flip {l : List OpT} {i j : Nat} {y y' : OpT} {b : Bool} (hj : j = i - 1) (h0 : 0 < i) (h : l[j]? = some y') (hb : (Op.bytesLess y.1.toList y'.1.toList || y.1.toList == y'.1.toList) = b) : keyUp (prevK l i) y.1 = !b := by
  rw [bl_flip] at hb; rw [prevK_pos hj h0 h]; rw [← hb]; simp [keyUp]
theorem keyUp_0 {l : List OpT} {i : Nat} {k : ByteArray} (h0 : ¬ (0 : Int) < i) : keyUp (prevK l i) k = true := by
  obtain rfl : i = 0 := by omega
  rfl
theorem chkB_a {c r z : Int} {l : List OpT} (hz : chkB c r l = z) (h : c < 0 ∨ c ≥ 3) : 1 = z := by unfold chkB at hz; rwa [if_pos h] at hz
theorem chkB_b {c r z : Int} {l : List OpT} (hz : chkB c r l = z) (h : ¬ (c < 0 ∨ c ≥ 3)) (h1 : r < 1 ∨ r > 1073741824) : 5 = z := by unfold chkB at hz; rwa [if_neg h, if_pos h1] at hz
theorem chkB_c {c r z : Int} {l : List OpT} (hz : chkB c r l = z) (h : ¬ (c < 0 ∨ c ≥ 3)) (h1 : ¬ (r < 1 ∨ r > 1073741824)) (h2 : ((l.length : Nat) : Int) > 4) : 6 = z := by unfold chkB at hz; rwa [if_neg h, if_neg h1, if_pos h2] at hz
theorem chkB_d {c r z : Int} {l : List OpT} (hz : chkB c r l = z) (h : ¬ (c < 0 ∨ c ≥ 3)) (h1 : ¬ (r < 1 ∨ r > 1073741824)) (h2 : ¬ ((l.length : Nat) : Int) > 4) : chkL (prevK l 0) (l.drop 0) = z := by unfold chkB at hz; rwa [if_neg h, if_neg h1, if_neg h2] at hz
theorem chkOp_a {o : OpT} (h : keyC o.1 ≠ 0) : chkOp o = keyC o.1 := by unfold chkOp; rw [if_pos h]
theorem chkOp_b {o : OpT} (h : ¬ keyC o.1 ≠ 0) (h1 : ((o.2.1.size : Nat) : Int) > 8) : chkOp o = 3 := by unfold chkOp; rw [if_neg h, if_pos h1]
theorem chkOp_c {o : OpT} (h : ¬ keyC o.1 ≠ 0) (h1 : ¬ ((o.2.1.size : Nat) : Int) > 8) (h2 : delV o = true) : chkOp o = 4 := by unfold chkOp; rw [if_neg h, if_neg h1, if_pos h2]
theorem chkOp_d {o : OpT} (h : ¬ keyC o.1 ≠ 0) (h1 : ¬ ((o.2.1.size : Nat) : Int) > 8) (h2 : delV o = false) : chkOp o = 0 := by unfold chkOp; rw [if_neg h, if_neg h1, if_neg (by simp [h2])]
theorem keyC_ten {k : ByteArray} (h : keyC k ≠ 0) : keyC k = 10 := by unfold keyC at h ⊢; split <;> simp_all
set_option maxRecDepth 100000 in
theorem pKey_any (k : ByteArray) (w : World)  :
    Calls Try.prog 31 #[.string k] w fun e w' => e = .returned (.int .i64 (keyC k)) ∧ Below w.heap.size w w' := by
 have hB0 := Below.refl w.heap.size w;refine co_enter (n := 11) Try.func31 rfl rfl rfl [(0, .string k)] rfl (fun a s => ?_);refine q2 ?_;refine pk0 (v := .int .i64 0) s rfl fun _ s => q6 ?_;refine pk0 (v := .string k) s rfl fun _ s => ?_;refine pk (v := .int .i64 (k.size : Int)) s rfl (rn_lenStr rfl rfl Try.underlying9) fun _ s => ?_;refine pk0 (v := .bool (decide ((k.size : Int) < 1))) s rfl fun _ s => ?_;refine pk0 (v := .bool (decide ((k.size : Int) < 1))) s rfl fun _ s => ?_;cases hc6 : (decide ((k.size : Int) < 1))
 ·
  rw [hc6] at s;have hp7 : ¬ ((k.size : Int) < 1) := of_decide_eq_false hc6;refine pk0 (v := .string k) s rfl fun _ s => ?_;refine pk (v := .int .i64 (k.size : Int)) s rfl (rn_lenStr rfl rfl Try.underlying9) fun _ s => ?_;refine pk0 (v := .bool (decide ((k.size : Int) > 8))) s rfl fun _ s => ?_;refine pk0 (v := .bool (decide ((k.size : Int) > 8))) s rfl fun _ s => q1 ?_;cases hc12 : (decide ((k.size : Int) > 8))
  ·
   rw [hc12] at s;have hp13 : ¬ ((k.size : Int) > 8) := of_decide_eq_false hc12;refine co_false s rfl <| q7 ?_;refine pk0 (v := .int .i64 0) s rfl fun _ s => q4 ?_;refine co_ret1 s rfl rfl ?_;exact ⟨ret_int (by unfold keyC; first | rw [if_pos (by omega)] | rw [if_neg (by omega)]), hB0⟩
  rw [hc12] at s;have hp15 : (k.size : Int) > 8 := of_decide_eq_true hc12;refine co_true s rfl <| q2 ?_;refine pk0 (v := .int .i64 10) s rfl fun _ s => q5 ?_;refine co_ret1 s rfl rfl ?_;exact ⟨ret_int (by unfold keyC; first | rw [if_pos (by omega)] | rw [if_neg (by omega)]), hB0⟩
 rw [hc6] at s;have hp17 : (k.size : Int) < 1 := of_decide_eq_true hc6;refine psk s rfl fun _ s => ?_;refine psk s rfl fun _ s => ?_;refine psk s rfl fun _ s => ?_;refine pk0 (v := .bool true) s rfl fun _ s => q1 ?_;refine co_true s rfl <| q2 ?_;refine pk0 (v := .int .i64 10) s rfl fun _ s => q5 ?_;refine co_ret1 s rfl rfl ?_;exact ⟨ret_int (by unfold keyC; first | rw [if_pos (by omega)] | rw [if_neg (by omega)]), hB0⟩
set_option maxRecDepth 100000 in
theorem rKey_any (k : ByteArray) (w : World)  :
    Calls Try.prog 15 #[.string k] w fun e w' => e = .returned (.int .i64 (keyC k)) ∧ Below w.heap.size w w' := by
 have hB0 := Below.refl w.heap.size w;refine co_enter (n := 11) Try.func15 rfl rfl rfl [(0, .string k)] rfl (fun a s => ?_);refine q2 ?_;refine pk0 (v := .int .i64 0) s rfl fun _ s => q6 ?_;refine pk0 (v := .string k) s rfl fun _ s => ?_;refine pk (v := .int .i64 (k.size : Int)) s rfl (rn_lenStr rfl rfl Try.underlying9) fun _ s => ?_;refine pk0 (v := .bool (decide ((k.size : Int) < 1))) s rfl fun _ s => ?_;refine pk0 (v := .bool (decide ((k.size : Int) < 1))) s rfl fun _ s => ?_;cases hc6 : (decide ((k.size : Int) < 1))
 ·
  rw [hc6] at s;have hp7 : ¬ ((k.size : Int) < 1) := of_decide_eq_false hc6;refine pk0 (v := .string k) s rfl fun _ s => ?_;refine pk (v := .int .i64 (k.size : Int)) s rfl (rn_lenStr rfl rfl Try.underlying9) fun _ s => ?_;refine pk0 (v := .bool (decide ((k.size : Int) > 8))) s rfl fun _ s => ?_;refine pk0 (v := .bool (decide ((k.size : Int) > 8))) s rfl fun _ s => q1 ?_;cases hc12 : (decide ((k.size : Int) > 8))
  ·
   rw [hc12] at s;have hp13 : ¬ ((k.size : Int) > 8) := of_decide_eq_false hc12;refine co_false s rfl <| q7 ?_;refine pk0 (v := .int .i64 0) s rfl fun _ s => q4 ?_;refine co_ret1 s rfl rfl ?_;exact ⟨ret_int (by unfold keyC; first | rw [if_pos (by omega)] | rw [if_neg (by omega)]), hB0⟩
  rw [hc12] at s;have hp15 : (k.size : Int) > 8 := of_decide_eq_true hc12;refine co_true s rfl <| q2 ?_;refine pk0 (v := .int .i64 10) s rfl fun _ s => q5 ?_;refine co_ret1 s rfl rfl ?_;exact ⟨ret_int (by unfold keyC; first | rw [if_pos (by omega)] | rw [if_neg (by omega)]), hB0⟩
 rw [hc6] at s;have hp17 : (k.size : Int) < 1 := of_decide_eq_true hc6;refine psk s rfl fun _ s => ?_;refine psk s rfl fun _ s => ?_;refine psk s rfl fun _ s => ?_;refine pk0 (v := .bool true) s rfl fun _ s => q1 ?_;refine co_true s rfl <| q2 ?_;refine pk0 (v := .int .i64 10) s rfl fun _ s => q5 ?_;refine co_ret1 s rfl rfl ?_;exact ⟨ret_int (by unfold keyC; first | rw [if_pos (by omega)] | rw [if_neg (by omega)]), hB0⟩
set_option maxRecDepth 100000 in
theorem chkOp_any (o : OpT) (w : World)  :
    Calls Try.prog 39 #[.agg #[.string o.1, .string o.2.1, .bool o.2.2]] w fun e w' => e = .returned (.int .i64 (chkOp o)) ∧ Below w.heap.size w w' := by
 have hB0 := Below.refl w.heap.size w;refine co_enter (n := 21) Try.func39 rfl rfl rfl [(0, .agg #[.string o.1, .string o.2.1, .bool o.2.2])] rfl (fun a s => ?_);refine q2 ?_;refine pw s rfl (op_new (v := fun N => pt N 0) (T := 59) (cs := #[.string o.1, .string o.2.1, .bool o.2.2]) (by kernel_rfl) (by kernel_rfl) (by kernel_rfl)) ?_;rintro _ w2 a1 ⟨N3, rfl, hN6, hz7, hk5, hg4⟩ s;have hz8 := hg4.size
 try dsimp only at s
 refine pk0 (v := .int .i64 0) s rfl fun _ s => q6 ?_;refine pk0 (v := pt N3 0) s rfl fun _ s => ?_;refine pk (v := .string o.1) s rfl (rn_load1 rfl rfl Try.isAgg9 (hk5.cell rfl)) fun _ s => ?_;refine pw s rfl (op_call (args := #[.string o.1]) (R := fun res xw => res = .int .i64 (keyC o.1) ∧ Below w2.heap.size w2 xw) rfl rfl rfl (by kernel_rfl) (by kernel_rfl) (Try.call31 _ _) (pKey_any o.1 w2 ) (by rintro e x ⟨rfl, hb14⟩; exact ⟨_, rfl, ⟨rfl, hb14⟩⟩)) ?_;rintro _ w13 a12 ⟨rfl, hb14⟩ s;have hz15 := hb14.size;refine pk0 (v := .int .i64 (keyC o.1)) s rfl fun _ s => q3 ?_;refine pk0 (v := .int .i64 (keyC o.1)) s rfl fun _ s => ?_;refine pk0 (v := .bool (keyC o.1 != 0)) s rfl fun _ s => q1 ?_;have hB20 := hb_new hB0 hg4;have hB21 := hb_call hB20 hb14;cases hc19 : (keyC o.1 != 0)
 ·
  rw [hc19] at s;have hp22 : ¬ (keyC o.1 ≠ 0) := by first | simpa using hc19 | simpa [and_assoc] using hc19
  refine co_false s rfl <| q8 ?_;refine pk0 (v := pt N3 1) s rfl fun _ s => ?_;have hk24 := hk5.below hb14;refine pk (v := .string o.2.1) s rfl (rn_load1 rfl rfl Try.isAgg9 (hk24.cell rfl)) fun _ s => ?_;refine pk (v := .int .i64 (o.2.1.size : Int)) s rfl (rn_lenStr rfl rfl Try.underlying9) fun _ s => ?_;refine pk0 (v := .bool (decide ((o.2.1.size : Int) > 8))) s rfl fun _ s => q1 ?_;cases hc28 : (decide ((o.2.1.size : Int) > 8))
  ·
   rw [hc28] at s;have hp29 : ¬ ((o.2.1.size : Int) > 8) := of_decide_eq_false hc28;refine co_false s rfl <| q8 ?_;refine pk0 (v := pt N3 2) s rfl fun _ s => ?_;refine pk (v := .bool o.2.2) s rfl (rn_load1 rfl rfl Try.isAgg4 (hk24.cell rfl)) fun _ s => ?_;refine pk0 (v := .bool o.2.2) s rfl fun _ s => ?_;cases hc33 : (o.2.2)
   ·
    rw [hc33] at s;refine psk s rfl fun _ s => ?_;refine psk s rfl fun _ s => ?_;refine psk s rfl fun _ s => ?_;refine pk0 (v := .bool false) s rfl fun _ s => q1 ?_;refine co_false s rfl <| q7 ?_;refine pk0 (v := .int .i64 0) s rfl fun _ s => q4 ?_;refine co_ret1 s rfl rfl ?_;exact ⟨ret_int (by first | exact (chkOp_a (by assumption)).symm | exact (chkOp_b (by assumption) (by assumption)).symm | exact (chkOp_c (by assumption) (by assumption) (by first | exact delV_t (by assumption) (by assumption) | exact delV_f (by assumption))).symm | exact (chkOp_d (by assumption) (by assumption) (by first | exact delV_t (by assumption) (by assumption) | exact delV_f (by assumption))).symm), hB21⟩
   rw [hc33] at s;refine pk0 (v := pt N3 1) s rfl fun _ s => ?_;refine pk (v := .string o.2.1) s rfl (rn_load1 rfl rfl Try.isAgg9 (hk24.cell rfl)) fun _ s => ?_;refine pk0 (v := .bool (!(o.2.1.toList == (⟨#[]⟩ : ByteArray).toList))) s rfl fun _ s => ?_;refine pk0 (v := .bool (!(o.2.1.toList == (⟨#[]⟩ : ByteArray).toList))) s rfl fun _ s => q1 ?_;cases hc43 : (!(o.2.1.toList == (⟨#[]⟩ : ByteArray).toList))
   ·
    rw [hc43] at s;refine co_false s rfl <| q7 ?_;refine pk0 (v := .int .i64 0) s rfl fun _ s => q4 ?_;refine co_ret1 s rfl rfl ?_;exact ⟨ret_int (by first | exact (chkOp_a (by assumption)).symm | exact (chkOp_b (by assumption) (by assumption)).symm | exact (chkOp_c (by assumption) (by assumption) (by first | exact delV_t (by assumption) (by assumption) | exact delV_f (by assumption))).symm | exact (chkOp_d (by assumption) (by assumption) (by first | exact delV_t (by assumption) (by assumption) | exact delV_f (by assumption))).symm), hB21⟩
   rw [hc43] at s;refine co_true s rfl <| q2 ?_;refine pk0 (v := .int .i64 4) s rfl fun _ s => q5 ?_;refine co_ret1 s rfl rfl ?_;exact ⟨ret_int (by first | exact (chkOp_a (by assumption)).symm | exact (chkOp_b (by assumption) (by assumption)).symm | exact (chkOp_c (by assumption) (by assumption) (by first | exact delV_t (by assumption) (by assumption) | exact delV_f (by assumption))).symm | exact (chkOp_d (by assumption) (by assumption) (by first | exact delV_t (by assumption) (by assumption) | exact delV_f (by assumption))).symm), hB21⟩
  rw [hc28] at s;have hp46 : (o.2.1.size : Int) > 8 := of_decide_eq_true hc28;refine co_true s rfl <| q2 ?_;refine pk0 (v := .int .i64 3) s rfl fun _ s => q5 ?_;refine co_ret1 s rfl rfl ?_;exact ⟨ret_int (by first | exact (chkOp_a (by assumption)).symm | exact (chkOp_b (by assumption) (by assumption)).symm | exact (chkOp_c (by assumption) (by assumption) (by first | exact delV_t (by assumption) (by assumption) | exact delV_f (by assumption))).symm | exact (chkOp_d (by assumption) (by assumption) (by first | exact delV_t (by assumption) (by assumption) | exact delV_f (by assumption))).symm), hB21⟩
 rw [hc19] at s;have hp48 : keyC o.1 ≠ 0 := by first | simpa using hc19 | simpa [and_assoc] using hc19
 refine co_true s rfl <| q2 ?_;refine pk0 (v := .int .i64 (keyC o.1)) s rfl fun _ s => ?_;refine pk0 (v := .int .i64 (keyC o.1)) s rfl fun _ s => q5 ?_;refine co_ret1 s rfl rfl ?_;exact ⟨ret_int (by first | exact (chkOp_a (by assumption)).symm | exact (chkOp_b (by assumption) (by assumption)).symm | exact (chkOp_c (by assumption) (by assumption) (by first | exact delV_t (by assumption) (by assumption) | exact delV_f (by assumption))).symm | exact (chkOp_d (by assumption) (by assumption) (by first | exact delV_t (by assumption) (by assumption) | exact delV_f (by assumption))).symm), hB21⟩
set_option maxRecDepth 100000 in
theorem opsCheck_any (c : Int) (r : Int) (v : Value) (l : List OpT) (w : World) (hs : SliceOf opE 3 w v l) :
    Calls Try.prog 29 #[.agg #[.int .i64 c, .int .i64 r, v]] w fun e w' => e = .returned (.int .i64 (chkB c r l)) ∧ Below w.heap.size w w' := by
 have hB0 := Below.refl w.heap.size w;have hl_hs := sl_len hs;refine co_enter (n := 54) Try.func29 rfl rfl rfl [(0, .agg #[.int .i64 c, .int .i64 r, v])] rfl (fun a s => ?_);refine q2 ?_;refine pw s rfl (op_new (v := fun N => pt N 0) (T := 42) (cs := #[.int .i64 c, .int .i64 r, v]) (by kernel_rfl) (by kernel_rfl) (by kernel_rfl)) ?_;rintro _ w2 a1 ⟨N3, rfl, hN6, hz7, hk5, hg4⟩ s;have hz8 := hg4.size
 try dsimp only at s
 refine pk0 (v := .int .i64 0) s rfl fun _ s => q6 ?_;refine pk0 (v := pt N3 0) s rfl fun _ s => ?_;refine pk (v := .int .i64 c) s rfl (rn_load1 rfl rfl Try.isAgg3 (hk5.cell rfl)) fun _ s => ?_;refine pk0 (v := .bool (decide (c < 0))) s rfl fun _ s => ?_;refine pk0 (v := .bool (decide (c < 0))) s rfl fun _ s => ?_;have hB15 := hb_new hB0 hg4;cases hc14 : (decide (c < 0))
 ·
  rw [hc14] at s;have hp16 : ¬ (c < 0) := of_decide_eq_false hc14;refine pk0 (v := pt N3 0) s rfl fun _ s => ?_;refine pk (v := .int .i64 c) s rfl (rn_load1 rfl rfl Try.isAgg3 (hk5.cell rfl)) fun _ s => ?_;refine pk0 (v := .bool (decide (c ≥ 3))) s rfl fun _ s => ?_;refine pk0 (v := .bool (decide (c ≥ 3))) s rfl fun _ s => q1 ?_;cases hc21 : (decide (c ≥ 3))
  ·
   rw [hc21] at s;have hp22 : ¬ (c ≥ 3) := of_decide_eq_false hc21;refine co_false s rfl <| q8 ?_;refine pk0 (v := pt N3 1) s rfl fun _ s => ?_;refine pk (v := .int .i64 r) s rfl (rn_load1 rfl rfl Try.isAgg3 (hk5.cell rfl)) fun _ s => ?_;refine pk0 (v := .bool (decide (r < 1))) s rfl fun _ s => ?_;refine pk0 (v := .bool (decide (r < 1))) s rfl fun _ s => ?_;cases hc27 : (decide (r < 1))
   ·
    rw [hc27] at s;have hp28 : ¬ (r < 1) := of_decide_eq_false hc27;refine pk0 (v := pt N3 1) s rfl fun _ s => ?_;refine pk (v := .int .i64 r) s rfl (rn_load1 rfl rfl Try.isAgg3 (hk5.cell rfl)) fun _ s => ?_;refine pk0 (v := .bool (decide (r > 1073741824))) s rfl fun _ s => ?_;refine pk0 (v := .bool (decide (r > 1073741824))) s rfl fun _ s => q1 ?_;cases hc33 : (decide (r > 1073741824))
    ·
     rw [hc33] at s;have hp34 : ¬ (r > 1073741824) := of_decide_eq_false hc33;refine co_false s rfl <| q8 ?_;refine pk0 (v := pt N3 2) s rfl fun _ s => ?_;refine pk (v := v) s rfl (rn_load1 rfl rfl Try.isAgg23 (hk5.cell rfl)) fun _ s => ?_;refine pk (v := .int .i64 (l.length : Int)) s rfl (rn_len rfl rfl Try.underlying23 (hs.below hB15)) fun _ s => ?_;refine pk0 (v := .bool (decide ((l.length : Int) > 4))) s rfl fun _ s => q1 ?_;cases hc39 : (decide ((l.length : Int) > 4))
     ·
      rw [hc39] at s;have hp40 : ¬ ((l.length : Int) > 4) := of_decide_eq_false hc39;refine co_false s rfl <| q8 ?_;refine pk0 (v := pt N3 2) s rfl fun _ s => ?_;refine pk (v := v) s rfl (rn_load1 rfl rfl Try.isAgg23 (hk5.cell rfl)) fun _ s => ?_;refine pk (v := .int .i64 (l.length : Int)) s rfl (rn_len rfl rfl Try.underlying23 (hs.below hB15)) fun _ s => ?_;refine pk0 (v := .int .i64 0) s rfl fun _ s => q1 <| wp_block ?_;have s : Slots 54 [(1, pt N3 0), (2, .int .i64 0), (27, v), (28, .int .i64 (l.length : Int)), (29, .int .i64 0)] _ := s.sub ⟨rfl, rfl, rfl, rfl, rfl, trivial⟩;refine co_loop (fun mm a x => ∃ (i : Nat), Slots 54 [(1, pt N3 0), (2, .int .i64 0), (27, v), (28, .int .i64 (l.length : Int)), (29, .int .i64 (i : Int))] a ∧ mm = l.length - i ∧ (i ≤ l.length) ∧ (chkL (prevK l i) (l.drop i) = chkB c r l) ∧ Below w.heap.size w x ∧ Blk x N3 42 #[.int .i64 c, .int .i64 r, v]) (l.length - 0) ?_ ?_
      · exact ⟨0, s.sub ⟨rfl, rfl, rfl, rfl, (slot_eq rfl (congrArg (Value.int .i64) (by first | rfl | omega))), trivial⟩, rfl, by omega, by first | exact chkB_d rfl (by omega) (by omega) (by omega) | exact hL', hB15, hk5⟩
      · rintro k46 a47 w48 ⟨i, s, rfl, hi49, hi50, hB51, hk52⟩
        have hz53 := hB51.size;have hl54 := hk52.lt;have hL : chkL (prevK l i) (l.drop i) = chkB c r l := by assumption
        refine q2 ?_;refine pk0 (v := .bool (decide ((i : Int) < (l.length : Int)))) s rfl fun _ s => q1 <| co_seq ?_;cases hc56 : (decide ((i : Int) < (l.length : Int)))
        ·
         rw [hc56] at s;have hp57 : ¬ ((i : Int) < (l.length : Int)) := of_decide_eq_false hc56;refine co_false s rfl <| wp_exit <| co_thenX <| co_thenX <| qx <| q2 ?_;refine pk0 (v := .int .i64 0) s rfl fun _ s => q4 ?_;refine co_ret1 s rfl rfl ?_;exact ⟨ret_int (chkL_end (i := i) hL (by omega)), hB51⟩
        rw [hc56] at s;have hp59 : (i : Int) < (l.length : Int) := of_decide_eq_true hc56;refine co_true s rfl <| q0 <| co_seq <| wp_block <| q2 ?_;refine pk0 (v := .int .i64 (i : Int)) s rfl fun _ s => ?_;obtain ⟨y61, hy61⟩ : ∃ z, l[i]? = some z := ⟨_, List.getElem?_eq_getElem (by first | omega | (simp; done) | (simp; omega))⟩;refine pk (v := pt (blkOf v) (offOf v + i * 3)) s rfl (rn_index rfl rfl rfl Try.underlying23 Try.sizeOf59 (hs.below hB51) (by omega) (by first | omega | (simp; done) | (simp; omega))) fun _ s => ?_;refine pk (v := .agg #[.string y61.1, .string y61.2.1, .bool y61.2.2]) s rfl (rn_loadN rfl rfl Try.underlying59 rfl (by kernel_rfl) (sl_at (hs.below hB51) hy61)) fun _ s => ?_;refine pw s rfl (op_new (v := fun N => pt N 0) (T := 59) (cs := #[.string (⟨#[]⟩), .string (⟨#[]⟩), .bool false]) (by kernel_rfl) (by kernel_rfl) (by kernel_rfl)) ?_;rintro _ w65 a64 ⟨N66, rfl, hN69, hz70, hk68, hg67⟩ s;have hz71 := hg67.size
        try dsimp only at s
        refine pk0 (v := .int .i64 (i : Int)) s rfl fun _ s => ?_;refine pwD s rfl (op_storeN rfl rfl rfl (by kernel_rfl) (by kernel_rfl) hk68 rfl) ?_;rintro _ w74 a73 ⟨hk75, hz76, hg77⟩ s;have hk75' : Blk w74 N66 59 #[.string y61.1, .string y61.2.1, .bool y61.2.2] := hk75;have hz78 := hg77.size;refine q6 ?_;refine pk (v := .agg #[.string y61.1, .string y61.2.1, .bool y61.2.2]) s rfl (rn_loadN rfl rfl Try.underlying59 rfl (by kernel_rfl) hk75'.all) fun _ s => ?_;refine pw s rfl (op_call (args := #[.agg #[.string y61.1, .string y61.2.1, .bool y61.2.2]]) (R := fun res xw => res = .int .i64 (chkOp y61) ∧ Below w74.heap.size w74 xw) rfl rfl rfl (by kernel_rfl) (by kernel_rfl) (Try.call39 _ _) (chkOp_any y61 w74 ) (by rintro e x ⟨rfl, hb82⟩; exact ⟨_, rfl, ⟨rfl, hb82⟩⟩)) ?_;rintro _ w81 a80 ⟨rfl, hb82⟩ s;have hz83 := hb82.size;refine pk0 (v := .int .i64 (chkOp y61)) s rfl fun _ s => q3 ?_;refine pk0 (v := .int .i64 (chkOp y61)) s rfl fun _ s => ?_;refine pk0 (v := .bool (chkOp y61 != 0)) s rfl fun _ s => q1 ?_;have hB88 := hb_new hB51 hg67;have hB89 := hb_at hB88 hg77 (by omega);have hB90 := hb_call hB89 hb82;have hk91 := hk52.kept hg67 (by simp);have hk92 := hk91.kept hg77 (by simp; omega);have hk93 := hk92.below hb82;cases hc87 : (chkOp y61 != 0)
        ·
         rw [hc87] at s;have hp94 : ¬ (chkOp y61 ≠ 0) := by first | simpa using hc87 | simpa [and_assoc] using hc87
         refine co_false s rfl <| q0 <| co_seq ?_;refine dr_eq (by kernel_rfl) (fun w95 hg96 => ?_);have hz97 := hg96.size;refine dk0 0 (v := .int .i64 (i : Int)) s rfl rfl rfl fun _ s => ?_;refine dk0 1 (v := .bool (decide ((i : Int) > 0))) s rfl rfl rfl fun _ s => ?_;refine dk0 2 (v := .bool (decide ((i : Int) > 0))) s rfl rfl rfl fun _ s => ?_;have hB102 := hb_new hB90 hg96;have hk103 := hk75'.below hb82;have hk104 := hk103.kept hg96 (by simp);cases hc101 : (decide ((i : Int) > 0))
         ·
          rw [hc101] at s;have hp105 : ¬ ((i : Int) > 0) := of_decide_eq_false hc101;refine dsk 3 s rfl rfl rfl fun _ s => ?_;refine dsk 4 s rfl rfl rfl fun _ s => ?_;refine dsk 5 s rfl rfl rfl fun _ s => ?_;refine dsk 6 s rfl rfl rfl fun _ s => ?_;refine dsk 7 s rfl rfl rfl fun _ s => ?_;refine dsk 8 s rfl rfl rfl fun _ s => ?_;refine dsk 9 s rfl rfl rfl fun _ s => ?_;refine dsk 10 s rfl rfl rfl fun _ s => ?_;refine dsk 11 s rfl rfl rfl fun _ s => ?_;refine dsk 12 s rfl rfl rfl fun _ s => ?_;refine dk0 13 (v := .bool false) s rfl rfl rfl fun _ s => ?_;refine dr_done (by kernel_rfl) ?_;refine co_then ?_;refine co_false s rfl <| wp_skip <| co_blockN <| co_then <| co_reg ?_;refine pk (v := .int .i64 ((i + 1 : Nat) : Int)) s rfl (rn_arith' rfl rfl rfl rfl rfl rfl (IntWalk.i64_in _ (by omega)) (by omega)) fun _ s => ?_;refine pk0 (v := .int .i64 ((i + 1 : Nat) : Int)) s rfl fun _ s => q1 ?_;refine ⟨(l.length - (i + 1)), by omega, ?_⟩;have hO : chkOp y61 = 0 := by omega
          have hU : keyUp (prevK l i) y61.1 = true := (keyUp_0 (by omega));have hL' := chkL_step (i := i) hL hy61 hO hU;have hk119 := hk93.kept hg96 (by simp);exact ⟨i + 1, s.sub ⟨rfl, rfl, rfl, rfl, rfl, trivial⟩, rfl, by omega, by first | exact chkB_d rfl (by omega) (by omega) (by omega) | exact hL', hB102, hk119⟩
         rw [hc101] at s;have hp120 : (i : Int) > 0 := of_decide_eq_true hc101;refine dk0 3 (v := pt N66 0) s rfl rfl rfl fun _ s => ?_;refine dk 4 (v := .string y61.1) s rfl rfl rfl (fun x hx => by subst hx; exact (rn_load1 rfl rfl Try.isAgg9 (hk104.cell rfl))) fun _ s => ?_;refine dk0 5 (v := pt N3 2) s rfl rfl rfl fun _ s => ?_;have hk124 := hk93.kept hg96 (by simp);refine dk 6 (v := v) s rfl rfl rfl (fun x hx => by subst hx; exact (rn_load1 rfl rfl Try.isAgg23 (hk124.cell rfl))) fun _ s => ?_;refine dk0 7 (v := .int .i64 (i : Int)) s rfl rfl rfl fun _ s => ?_;refine dk 8 (v := .int .i64 ((i : Int) - 1)) s rfl rfl rfl (fun x hx => by subst hx; exact (rn_arith rfl rfl rfl rfl rfl rfl (IntWalk.i64_in _ (by omega)))) fun _ s => ?_;obtain ⟨y128, hy128⟩ : ∃ z, l[((i : Int) - 1).toNat]? = some z := ⟨_, List.getElem?_eq_getElem (by first | omega | (simp; done) | (simp; omega))⟩;refine dk 9 (v := pt (blkOf v) (offOf v + (((i : Int) - 1).toNat) * 3)) s rfl rfl rfl (fun x hx => by subst hx; exact (rn_index rfl rfl rfl Try.underlying23 Try.sizeOf59 (hs.below hB102) (by omega) (by first | omega | (simp; done) | (simp; omega)))) fun _ s => ?_;refine dk0 10 (v := pt (blkOf v) (offOf v + (((i : Int) - 1).toNat) * 3)) s rfl rfl rfl fun _ s => ?_;refine dk 11 (v := .string y128.1) s rfl rfl rfl (fun x hx => by subst hx; exact (rn_load1 rfl rfl Try.isAgg9 ((sl_at (hs.below hB102) hy128) 0 _ rfl))) fun _ s => ?_;refine dk0 12 (v := .bool (Op.bytesLess y61.1.toList y128.1.toList || y61.1.toList == y128.1.toList)) s rfl rfl rfl fun _ s => ?_;refine dk0 13 (v := .bool (Op.bytesLess y61.1.toList y128.1.toList || y61.1.toList == y128.1.toList)) s rfl rfl rfl fun _ s => ?_;refine dr_done (by kernel_rfl) ?_;refine co_then ?_;cases hc134 : ((Op.bytesLess y61.1.toList y128.1.toList || y61.1.toList == y128.1.toList))
         ·
          rw [hc134] at s;refine co_false s rfl <| wp_skip <| co_blockN <| co_then <| co_reg ?_;refine pk (v := .int .i64 ((i + 1 : Nat) : Int)) s rfl (rn_arith' rfl rfl rfl rfl rfl rfl (IntWalk.i64_in _ (by omega)) (by omega)) fun _ s => ?_;refine pk0 (v := .int .i64 ((i + 1 : Nat) : Int)) s rfl fun _ s => q1 ?_;refine ⟨(l.length - (i + 1)), by omega, ?_⟩;have hO : chkOp y61 = 0 := by omega
          have hU : keyUp (prevK l i) y61.1 = true := (keyUp_flip (l := l) (i := i) (b := false) (y := y61) (j := ((i : Int) - 1).toNat) (by omega) (by omega) hy128 (by assumption));have hL' := chkL_step (i := i) hL hy61 hO hU;exact ⟨i + 1, s.sub ⟨rfl, rfl, rfl, rfl, rfl, trivial⟩, rfl, by omega, by first | exact chkB_d rfl (by omega) (by omega) (by omega) | exact hL', hB102, hk124⟩
         rw [hc134] at s;refine co_true s rfl <| q2 ?_;refine pk0 (v := .int .i64 18) s rfl fun _ s => q4 <| qr <| co_thenR <| qr ?_;refine co_ret1 s rfl rfl ?_;have hO : chkOp y61 = 0 := by omega
         exact ⟨ret_int (chkL_ord (i := i) hL hy61 hO (keyUp_flip (l := l) (i := i) (b := true) (y := y61) (j := ((i : Int) - 1).toNat) (by omega) (by omega) hy128 (by assumption))), hB102⟩
        rw [hc87] at s;have hp138 : chkOp y61 ≠ 0 := by first | simpa using hc87 | simpa [and_assoc] using hc87
        refine co_true s rfl <| q2 ?_;refine pk0 (v := .int .i64 (chkOp y61)) s rfl fun _ s => ?_;refine pk0 (v := .int .i64 (chkOp y61)) s rfl fun _ s => q5 <| qr <| co_thenR <| qr ?_;refine co_ret1 s rfl rfl ?_;exact ⟨ret_int (chkL_bad (i := i) hL hy61 (by assumption)), hB90⟩
     rw [hc39] at s;have hp141 : (l.length : Int) > 4 := of_decide_eq_true hc39;refine co_true s rfl <| q2 ?_;refine pk0 (v := .int .i64 6) s rfl fun _ s => q5 ?_;refine co_ret1 s rfl rfl ?_;exact ⟨ret_int (chkB_c rfl (by omega) (by omega) (by omega)), hB15⟩
    rw [hc33] at s;have hp143 : r > 1073741824 := of_decide_eq_true hc33;refine co_true s rfl <| q2 ?_;refine pk0 (v := .int .i64 5) s rfl fun _ s => q5 ?_;refine co_ret1 s rfl rfl ?_;exact ⟨ret_int (chkB_b rfl (by omega) (by omega)), hB15⟩
   rw [hc27] at s;have hp145 : r < 1 := of_decide_eq_true hc27;refine psk s rfl fun _ s => ?_;refine psk s rfl fun _ s => ?_;refine psk s rfl fun _ s => ?_;refine pk0 (v := .bool true) s rfl fun _ s => q1 ?_;refine co_true s rfl <| q2 ?_;refine pk0 (v := .int .i64 5) s rfl fun _ s => q5 ?_;refine co_ret1 s rfl rfl ?_;exact ⟨ret_int (chkB_b rfl (by omega) (by omega)), hB15⟩
  rw [hc21] at s;have hp151 : c ≥ 3 := of_decide_eq_true hc21;refine co_true s rfl <| q2 ?_;refine pk0 (v := .int .i64 1) s rfl fun _ s => q5 ?_;refine co_ret1 s rfl rfl ?_;exact ⟨ret_int (chkB_a rfl (by omega)), hB15⟩
 rw [hc14] at s;have hp153 : c < 0 := of_decide_eq_true hc14;refine psk s rfl fun _ s => ?_;refine psk s rfl fun _ s => ?_;refine psk s rfl fun _ s => ?_;refine pk0 (v := .bool true) s rfl fun _ s => q1 ?_;refine co_true s rfl <| q2 ?_;refine pk0 (v := .int .i64 1) s rfl fun _ s => q5 ?_;refine co_ret1 s rfl rfl ?_;exact ⟨ret_int (chkB_a rfl (by omega)), hB15⟩
set_option maxRecDepth 100000 in
theorem ropsCheck_any (c : Int) (r : Int) (v : Value) (l : List OpT) (w : World) (hs : SliceOf opE 3 w v l) :
    Calls Try.prog 36 #[.agg #[.int .i64 c, .int .i64 r, v]] w fun e w' => e = .returned (.int .i64 (chkB c r l)) ∧ Below w.heap.size w w' := by
 have hB0 := Below.refl w.heap.size w;have hl_hs := sl_len hs;refine co_enter (n := 66) Try.func36 rfl rfl rfl [(0, .agg #[.int .i64 c, .int .i64 r, v])] rfl (fun a s => ?_);refine q2 ?_;refine pw s rfl (op_new (v := fun N => pt N 0) (T := 42) (cs := #[.int .i64 c, .int .i64 r, v]) (by kernel_rfl) (by kernel_rfl) (by kernel_rfl)) ?_;rintro _ w2 a1 ⟨N3, rfl, hN6, hz7, hk5, hg4⟩ s;have hz8 := hg4.size
 try dsimp only at s
 refine pk0 (v := .int .i64 0) s rfl fun _ s => q6 ?_;refine pk0 (v := pt N3 0) s rfl fun _ s => ?_;refine pk (v := .int .i64 c) s rfl (rn_load1 rfl rfl Try.isAgg3 (hk5.cell rfl)) fun _ s => ?_;refine pk0 (v := .bool (decide (c < 0))) s rfl fun _ s => ?_;refine pk0 (v := .bool (decide (c < 0))) s rfl fun _ s => ?_;have hB15 := hb_new hB0 hg4;cases hc14 : (decide (c < 0))
 ·
  rw [hc14] at s;have hp16 : ¬ (c < 0) := of_decide_eq_false hc14;refine pk0 (v := pt N3 0) s rfl fun _ s => ?_;refine pk (v := .int .i64 c) s rfl (rn_load1 rfl rfl Try.isAgg3 (hk5.cell rfl)) fun _ s => ?_;refine pk0 (v := .bool (decide (c ≥ 3))) s rfl fun _ s => ?_;refine pk0 (v := .bool (decide (c ≥ 3))) s rfl fun _ s => q1 ?_;cases hc21 : (decide (c ≥ 3))
  ·
   rw [hc21] at s;have hp22 : ¬ (c ≥ 3) := of_decide_eq_false hc21;refine co_false s rfl <| q8 ?_;refine pk0 (v := pt N3 1) s rfl fun _ s => ?_;refine pk (v := .int .i64 r) s rfl (rn_load1 rfl rfl Try.isAgg3 (hk5.cell rfl)) fun _ s => ?_;refine pk0 (v := .bool (decide (r < 1))) s rfl fun _ s => ?_;refine pk0 (v := .bool (decide (r < 1))) s rfl fun _ s => ?_;cases hc27 : (decide (r < 1))
   ·
    rw [hc27] at s;have hp28 : ¬ (r < 1) := of_decide_eq_false hc27;refine pk0 (v := pt N3 1) s rfl fun _ s => ?_;refine pk (v := .int .i64 r) s rfl (rn_load1 rfl rfl Try.isAgg3 (hk5.cell rfl)) fun _ s => ?_;refine pk0 (v := .bool (decide (r > 1073741824))) s rfl fun _ s => ?_;refine pk0 (v := .bool (decide (r > 1073741824))) s rfl fun _ s => q1 ?_;cases hc33 : (decide (r > 1073741824))
    ·
     rw [hc33] at s;have hp34 : ¬ (r > 1073741824) := of_decide_eq_false hc33;refine co_false s rfl <| q8 ?_;refine pk0 (v := pt N3 2) s rfl fun _ s => ?_;refine pk (v := v) s rfl (rn_load1 rfl rfl Try.isAgg23 (hk5.cell rfl)) fun _ s => ?_;refine pk (v := .int .i64 (l.length : Int)) s rfl (rn_len rfl rfl Try.underlying23 (hs.below hB15)) fun _ s => ?_;refine pk0 (v := .bool (decide ((l.length : Int) > 4))) s rfl fun _ s => q1 ?_;cases hc39 : (decide ((l.length : Int) > 4))
     ·
      rw [hc39] at s;have hp40 : ¬ ((l.length : Int) > 4) := of_decide_eq_false hc39;refine co_false s rfl <| q8 ?_;refine pk0 (v := .int .i64 0) s rfl fun _ s => q1 <| wp_block ?_;have s : Slots 66 [(1, pt N3 0), (2, .int .i64 0), (3, .int .i64 0)] _ := s.sub ⟨rfl, rfl, rfl, trivial⟩;refine co_loop (fun mm a x => ∃ (i : Nat), Slots 66 [(1, pt N3 0), (2, .int .i64 0), (3, .int .i64 (i : Int))] a ∧ mm = l.length - i ∧ (i ≤ l.length) ∧ (chkL (prevK l i) (l.drop i) = chkB c r l) ∧ Below w.heap.size w x ∧ Blk x N3 42 #[.int .i64 c, .int .i64 r, v]) (l.length - 0) ?_ ?_
      · exact ⟨0, s.sub ⟨rfl, rfl, (slot_eq rfl (congrArg (Value.int .i64) (by first | rfl | omega))), trivial⟩, rfl, by omega, by first | exact chkB_d rfl (by omega) (by omega) (by omega) | exact hL', hB15, hk5⟩
      · rintro k43 a44 w45 ⟨i, s, rfl, hi46, hi47, hB48, hk49⟩
        have hz50 := hB48.size;have hl51 := hk49.lt;have hL : chkL (prevK l i) (l.drop i) = chkB c r l := by assumption
        refine q9 ?_;refine pk0 (v := .int .i64 (i : Int)) s rfl fun _ s => ?_;refine pk0 (v := pt N3 2) s rfl fun _ s => ?_;refine pk (v := v) s rfl (rn_load1 rfl rfl Try.isAgg23 (hk49.cell rfl)) fun _ s => ?_;refine pk (v := .int .i64 (l.length : Int)) s rfl (rn_len rfl rfl Try.underlying23 (hs.below hB48)) fun _ s => ?_;refine pk0 (v := .bool (decide ((i : Int) < (l.length : Int)))) s rfl fun _ s => q1 ?_;cases hc57 : (decide ((i : Int) < (l.length : Int)))
        ·
         rw [hc57] at s;have hp58 : ¬ ((i : Int) < (l.length : Int)) := of_decide_eq_false hc57;refine co_false s rfl <| wp_exit <| co_thenX <| co_thenX <| qx <| q2 ?_;refine pk0 (v := .int .i64 0) s rfl fun _ s => q4 ?_;refine co_ret1 s rfl rfl ?_;exact ⟨ret_int (chkL_end (i := i) hL (by omega)), hB48⟩
        rw [hc57] at s;have hp60 : (i : Int) < (l.length : Int) := of_decide_eq_true hc57;refine co_true s rfl <| q0 <| co_seq <| wp_block <| q2 ?_;refine pk0 (v := pt N3 2) s rfl fun _ s => ?_;refine pk (v := v) s rfl (rn_load1 rfl rfl Try.isAgg23 (hk49.cell rfl)) fun _ s => ?_;refine pk0 (v := .int .i64 (i : Int)) s rfl fun _ s => ?_;obtain ⟨y64, hy64⟩ : ∃ z, l[i]? = some z := ⟨_, List.getElem?_eq_getElem (by first | omega | (simp; done) | (simp; omega))⟩;refine pk (v := pt (blkOf v) (offOf v + i * 3)) s rfl (rn_index rfl rfl rfl Try.underlying23 Try.sizeOf59 (hs.below hB48) (by omega) (by first | omega | (simp; done) | (simp; omega))) fun _ s => ?_;refine pk (v := .agg #[.string y64.1, .string y64.2.1, .bool y64.2.2]) s rfl (rn_loadN rfl rfl Try.underlying59 rfl (by kernel_rfl) (sl_at (hs.below hB48) hy64)) fun _ s => ?_;refine pw s rfl (op_new (v := fun N => pt N 0) (T := 59) (cs := #[.string (⟨#[]⟩), .string (⟨#[]⟩), .bool false]) (by kernel_rfl) (by kernel_rfl) (by kernel_rfl)) ?_;rintro _ w68 a67 ⟨N69, rfl, hN72, hz73, hk71, hg70⟩ s;have hz74 := hg70.size
        try dsimp only at s
        refine pwD s rfl (op_storeN rfl rfl rfl (by kernel_rfl) (by kernel_rfl) hk71 rfl) ?_;rintro _ w76 a75 ⟨hk77, hz78, hg79⟩ s;have hk77' : Blk w76 N69 59 #[.string y64.1, .string y64.2.1, .bool y64.2.2] := hk77;have hz80 := hg79.size;refine q6 ?_;refine pk0 (v := pt N69 0) s rfl fun _ s => ?_;refine pk (v := .string y64.1) s rfl (rn_load1 rfl rfl Try.isAgg9 (hk77'.cell rfl)) fun _ s => ?_;refine pw s rfl (op_call (args := #[.string y64.1]) (R := fun res xw => res = .int .i64 (keyC y64.1) ∧ Below w76.heap.size w76 xw) rfl rfl rfl (by kernel_rfl) (by kernel_rfl) (Try.call15 _ _) (rKey_any y64.1 w76 ) (by rintro e x ⟨rfl, hb85⟩; exact ⟨_, rfl, ⟨rfl, hb85⟩⟩)) ?_;rintro _ w84 a83 ⟨rfl, hb85⟩ s;have hz86 := hb85.size;refine pk0 (v := .bool (keyC y64.1 != 0)) s rfl fun _ s => q1 ?_;have hB89 := hb_new hB48 hg70;have hB90 := hb_at hB89 hg79 (by omega);have hB91 := hb_call hB90 hb85;have hk92 := hk49.kept hg70 (by simp);have hk93 := hk92.kept hg79 (by simp; omega);have hk94 := hk93.below hb85;cases hc88 : (keyC y64.1 != 0)
        ·
         rw [hc88] at s;have hp95 : ¬ (keyC y64.1 ≠ 0) := by first | simpa using hc88 | simpa [and_assoc] using hc88
         refine co_false s rfl <| q8 ?_;refine pk0 (v := pt N69 1) s rfl fun _ s => ?_;have hk97 := hk77'.below hb85;refine pk (v := .string y64.2.1) s rfl (rn_load1 rfl rfl Try.isAgg9 (hk97.cell rfl)) fun _ s => ?_;refine pk (v := .int .i64 (y64.2.1.size : Int)) s rfl (rn_lenStr rfl rfl Try.underlying9) fun _ s => ?_;refine pk0 (v := .bool (decide ((y64.2.1.size : Int) > 8))) s rfl fun _ s => q1 ?_;cases hc101 : (decide ((y64.2.1.size : Int) > 8))
         ·
          rw [hc101] at s;have hp102 : ¬ ((y64.2.1.size : Int) > 8) := of_decide_eq_false hc101;refine co_false s rfl <| q8 ?_;refine pk0 (v := pt N69 2) s rfl fun _ s => ?_;refine pk (v := .bool y64.2.2) s rfl (rn_load1 rfl rfl Try.isAgg4 (hk97.cell rfl)) fun _ s => ?_;refine pk0 (v := .bool y64.2.2) s rfl fun _ s => ?_;cases hc106 : (y64.2.2)
          ·
           rw [hc106] at s;refine psk s rfl fun _ s => ?_;refine psk s rfl fun _ s => ?_;refine psk s rfl fun _ s => ?_;refine pk0 (v := .bool false) s rfl fun _ s => q1 ?_;refine co_false s rfl <| q0 <| co_seq ?_;refine dr_eq (by kernel_rfl) (fun w111 hg112 => ?_);have hz113 := hg112.size;refine dk0 0 (v := .int .i64 (i : Int)) s rfl rfl rfl fun _ s => ?_;refine dk0 1 (v := .bool (decide ((i : Int) > 0))) s rfl rfl rfl fun _ s => ?_;refine dk0 2 (v := .bool (decide ((i : Int) > 0))) s rfl rfl rfl fun _ s => ?_;have hB118 := hb_new hB91 hg112;cases hc117 : (decide ((i : Int) > 0))
           ·
            rw [hc117] at s;have hp119 : ¬ ((i : Int) > 0) := of_decide_eq_false hc117;refine dsk 3 s rfl rfl rfl fun _ s => ?_;refine dsk 4 s rfl rfl rfl fun _ s => ?_;refine dsk 5 s rfl rfl rfl fun _ s => ?_;refine dsk 6 s rfl rfl rfl fun _ s => ?_;refine dsk 7 s rfl rfl rfl fun _ s => ?_;refine dsk 8 s rfl rfl rfl fun _ s => ?_;refine dsk 9 s rfl rfl rfl fun _ s => ?_;refine dsk 10 s rfl rfl rfl fun _ s => ?_;refine dsk 11 s rfl rfl rfl fun _ s => ?_;refine dsk 12 s rfl rfl rfl fun _ s => ?_;refine dk0 13 (v := .bool false) s rfl rfl rfl fun _ s => ?_;refine dr_done (by kernel_rfl) ?_;refine co_then ?_;refine co_false s rfl <| wp_skip <| co_blockN <| co_then <| co_reg ?_;refine pk0 (v := .int .i64 (i : Int)) s rfl fun _ s => ?_;refine pk (v := .int .i64 ((i + 1 : Nat) : Int)) s rfl (rn_arith' rfl rfl rfl rfl rfl rfl (IntWalk.i64_in _ (by omega)) (by omega)) fun _ s => ?_;refine pk0 (v := .int .i64 ((i + 1 : Nat) : Int)) s rfl fun _ s => q1 ?_;refine ⟨(l.length - (i + 1)), by omega, ?_⟩;have hO : chkOp y64 = 0 := chkOp_d (by assumption) (by assumption) (by first | exact delV_t (by assumption) (by assumption) | exact delV_f (by assumption));have hU : keyUp (prevK l i) y64.1 = true := (keyUp_0 (by omega));have hL' := chkL_step (i := i) hL hy64 hO hU;have hk134 := hk94.kept hg112 (by simp);exact ⟨i + 1, s.sub ⟨rfl, rfl, rfl, trivial⟩, rfl, by omega, by first | exact chkB_d rfl (by omega) (by omega) (by omega) | exact hL', hB118, hk134⟩
           rw [hc117] at s;have hp135 : (i : Int) > 0 := of_decide_eq_true hc117;refine dk0 3 (v := pt N3 2) s rfl rfl rfl fun _ s => ?_;have hk137 := hk94.kept hg112 (by simp);refine dk 4 (v := v) s rfl rfl rfl (fun x hx => by subst hx; exact (rn_load1 rfl rfl Try.isAgg23 (hk137.cell rfl))) fun _ s => ?_;refine dk0 5 (v := .int .i64 (i : Int)) s rfl rfl rfl fun _ s => ?_;refine dk 6 (v := .int .i64 ((i : Int) - 1)) s rfl rfl rfl (fun x hx => by subst hx; exact (rn_arith rfl rfl rfl rfl rfl rfl (IntWalk.i64_in _ (by omega)))) fun _ s => ?_;obtain ⟨y141, hy141⟩ : ∃ z, l[((i : Int) - 1).toNat]? = some z := ⟨_, List.getElem?_eq_getElem (by first | omega | (simp; done) | (simp; omega))⟩;refine dk 7 (v := pt (blkOf v) (offOf v + (((i : Int) - 1).toNat) * 3)) s rfl rfl rfl (fun x hx => by subst hx; exact (rn_index rfl rfl rfl Try.underlying23 Try.sizeOf59 (hs.below hB118) (by omega) (by first | omega | (simp; done) | (simp; omega)))) fun _ s => ?_;refine dk0 8 (v := pt (blkOf v) (offOf v + (((i : Int) - 1).toNat) * 3)) s rfl rfl rfl fun _ s => ?_;refine dk 9 (v := .string y141.1) s rfl rfl rfl (fun x hx => by subst hx; exact (rn_load1 rfl rfl Try.isAgg9 ((sl_at (hs.below hB118) hy141) 0 _ rfl))) fun _ s => ?_;refine dk0 10 (v := pt N69 0) s rfl rfl rfl fun _ s => ?_;have hk146 := hk97.kept hg112 (by simp);refine dk 11 (v := .string y64.1) s rfl rfl rfl (fun x hx => by subst hx; exact (rn_load1 rfl rfl Try.isAgg9 (hk146.cell rfl))) fun _ s => ?_;refine dk0 12 (v := .bool (!(Op.bytesLess y141.1.toList y64.1.toList))) s rfl rfl rfl fun _ s => ?_;refine dk0 13 (v := .bool (!(Op.bytesLess y141.1.toList y64.1.toList))) s rfl rfl rfl fun _ s => ?_;refine dr_done (by kernel_rfl) ?_;refine co_then ?_;cases hc150 : (!(Op.bytesLess y141.1.toList y64.1.toList))
           ·
            rw [hc150] at s;refine co_false s rfl <| wp_skip <| co_blockN <| co_then <| co_reg ?_;refine pk0 (v := .int .i64 (i : Int)) s rfl fun _ s => ?_;refine pk (v := .int .i64 ((i + 1 : Nat) : Int)) s rfl (rn_arith' rfl rfl rfl rfl rfl rfl (IntWalk.i64_in _ (by omega)) (by omega)) fun _ s => ?_;refine pk0 (v := .int .i64 ((i + 1 : Nat) : Int)) s rfl fun _ s => q1 ?_;refine ⟨(l.length - (i + 1)), by omega, ?_⟩;have hO : chkOp y64 = 0 := chkOp_d (by assumption) (by assumption) (by first | exact delV_t (by assumption) (by assumption) | exact delV_f (by assumption));have hU : keyUp (prevK l i) y64.1 = true := (keyUp_at (l := l) (i := i) (y := y64) (j := ((i : Int) - 1).toNat) (by omega) (by omega) hy141 (by simpa using hc150));have hL' := chkL_step (i := i) hL hy64 hO hU;exact ⟨i + 1, s.sub ⟨rfl, rfl, rfl, trivial⟩, rfl, by omega, by first | exact chkB_d rfl (by omega) (by omega) (by omega) | exact hL', hB118, hk137⟩
           rw [hc150] at s;refine co_true s rfl <| q2 ?_;refine pk0 (v := .int .i64 18) s rfl fun _ s => q4 <| qr <| co_thenR <| qr ?_;refine co_ret1 s rfl rfl ?_;have hO : chkOp y64 = 0 := chkOp_d (by assumption) (by assumption) (by first | exact delV_t (by assumption) (by assumption) | exact delV_f (by assumption));exact ⟨ret_int (chkL_ord (i := i) hL hy64 hO (keyUp_at (l := l) (i := i) (y := y64) (j := ((i : Int) - 1).toNat) (by omega) (by omega) hy141 (by simpa using hc150))), hB118⟩
          rw [hc106] at s;refine pk0 (v := pt N69 1) s rfl fun _ s => ?_;refine pk (v := .string y64.2.1) s rfl (rn_load1 rfl rfl Try.isAgg9 (hk97.cell rfl)) fun _ s => ?_;refine pk0 (v := .bool (!(y64.2.1.toList == (⟨#[]⟩ : ByteArray).toList))) s rfl fun _ s => ?_;refine pk0 (v := .bool (!(y64.2.1.toList == (⟨#[]⟩ : ByteArray).toList))) s rfl fun _ s => q1 ?_;cases hc159 : (!(y64.2.1.toList == (⟨#[]⟩ : ByteArray).toList))
          ·
           rw [hc159] at s;refine co_false s rfl <| q0 <| co_seq ?_;refine dr_eq (by kernel_rfl) (fun w160 hg161 => ?_);have hz162 := hg161.size;refine dk0 0 (v := .int .i64 (i : Int)) s rfl rfl rfl fun _ s => ?_;refine dk0 1 (v := .bool (decide ((i : Int) > 0))) s rfl rfl rfl fun _ s => ?_;refine dk0 2 (v := .bool (decide ((i : Int) > 0))) s rfl rfl rfl fun _ s => ?_;have hB167 := hb_new hB91 hg161;cases hc166 : (decide ((i : Int) > 0))
           ·
            rw [hc166] at s;have hp168 : ¬ ((i : Int) > 0) := of_decide_eq_false hc166;refine dsk 3 s rfl rfl rfl fun _ s => ?_;refine dsk 4 s rfl rfl rfl fun _ s => ?_;refine dsk 5 s rfl rfl rfl fun _ s => ?_;refine dsk 6 s rfl rfl rfl fun _ s => ?_;refine dsk 7 s rfl rfl rfl fun _ s => ?_;refine dsk 8 s rfl rfl rfl fun _ s => ?_;refine dsk 9 s rfl rfl rfl fun _ s => ?_;refine dsk 10 s rfl rfl rfl fun _ s => ?_;refine dsk 11 s rfl rfl rfl fun _ s => ?_;refine dsk 12 s rfl rfl rfl fun _ s => ?_;refine dk0 13 (v := .bool false) s rfl rfl rfl fun _ s => ?_;refine dr_done (by kernel_rfl) ?_;refine co_then ?_;refine co_false s rfl <| wp_skip <| co_blockN <| co_then <| co_reg ?_;refine pk0 (v := .int .i64 (i : Int)) s rfl fun _ s => ?_;refine pk (v := .int .i64 ((i + 1 : Nat) : Int)) s rfl (rn_arith' rfl rfl rfl rfl rfl rfl (IntWalk.i64_in _ (by omega)) (by omega)) fun _ s => ?_;refine pk0 (v := .int .i64 ((i + 1 : Nat) : Int)) s rfl fun _ s => q1 ?_;refine ⟨(l.length - (i + 1)), by omega, ?_⟩;have hO : chkOp y64 = 0 := chkOp_d (by assumption) (by assumption) (by first | exact delV_t (by assumption) (by assumption) | exact delV_f (by assumption));have hU : keyUp (prevK l i) y64.1 = true := (keyUp_0 (by omega));have hL' := chkL_step (i := i) hL hy64 hO hU;have hk183 := hk94.kept hg161 (by simp);exact ⟨i + 1, s.sub ⟨rfl, rfl, rfl, trivial⟩, rfl, by omega, by first | exact chkB_d rfl (by omega) (by omega) (by omega) | exact hL', hB167, hk183⟩
           rw [hc166] at s;have hp184 : (i : Int) > 0 := of_decide_eq_true hc166;refine dk0 3 (v := pt N3 2) s rfl rfl rfl fun _ s => ?_;have hk186 := hk94.kept hg161 (by simp);refine dk 4 (v := v) s rfl rfl rfl (fun x hx => by subst hx; exact (rn_load1 rfl rfl Try.isAgg23 (hk186.cell rfl))) fun _ s => ?_;refine dk0 5 (v := .int .i64 (i : Int)) s rfl rfl rfl fun _ s => ?_;refine dk 6 (v := .int .i64 ((i : Int) - 1)) s rfl rfl rfl (fun x hx => by subst hx; exact (rn_arith rfl rfl rfl rfl rfl rfl (IntWalk.i64_in _ (by omega)))) fun _ s => ?_;obtain ⟨y190, hy190⟩ : ∃ z, l[((i : Int) - 1).toNat]? = some z := ⟨_, List.getElem?_eq_getElem (by first | omega | (simp; done) | (simp; omega))⟩;refine dk 7 (v := pt (blkOf v) (offOf v + (((i : Int) - 1).toNat) * 3)) s rfl rfl rfl (fun x hx => by subst hx; exact (rn_index rfl rfl rfl Try.underlying23 Try.sizeOf59 (hs.below hB167) (by omega) (by first | omega | (simp; done) | (simp; omega)))) fun _ s => ?_;refine dk0 8 (v := pt (blkOf v) (offOf v + (((i : Int) - 1).toNat) * 3)) s rfl rfl rfl fun _ s => ?_;refine dk 9 (v := .string y190.1) s rfl rfl rfl (fun x hx => by subst hx; exact (rn_load1 rfl rfl Try.isAgg9 ((sl_at (hs.below hB167) hy190) 0 _ rfl))) fun _ s => ?_;refine dk0 10 (v := pt N69 0) s rfl rfl rfl fun _ s => ?_;have hk195 := hk97.kept hg161 (by simp);refine dk 11 (v := .string y64.1) s rfl rfl rfl (fun x hx => by subst hx; exact (rn_load1 rfl rfl Try.isAgg9 (hk195.cell rfl))) fun _ s => ?_;refine dk0 12 (v := .bool (!(Op.bytesLess y190.1.toList y64.1.toList))) s rfl rfl rfl fun _ s => ?_;refine dk0 13 (v := .bool (!(Op.bytesLess y190.1.toList y64.1.toList))) s rfl rfl rfl fun _ s => ?_;refine dr_done (by kernel_rfl) ?_;refine co_then ?_;cases hc199 : (!(Op.bytesLess y190.1.toList y64.1.toList))
           ·
            rw [hc199] at s;refine co_false s rfl <| wp_skip <| co_blockN <| co_then <| co_reg ?_;refine pk0 (v := .int .i64 (i : Int)) s rfl fun _ s => ?_;refine pk (v := .int .i64 ((i + 1 : Nat) : Int)) s rfl (rn_arith' rfl rfl rfl rfl rfl rfl (IntWalk.i64_in _ (by omega)) (by omega)) fun _ s => ?_;refine pk0 (v := .int .i64 ((i + 1 : Nat) : Int)) s rfl fun _ s => q1 ?_;refine ⟨(l.length - (i + 1)), by omega, ?_⟩;have hO : chkOp y64 = 0 := chkOp_d (by assumption) (by assumption) (by first | exact delV_t (by assumption) (by assumption) | exact delV_f (by assumption));have hU : keyUp (prevK l i) y64.1 = true := (keyUp_at (l := l) (i := i) (y := y64) (j := ((i : Int) - 1).toNat) (by omega) (by omega) hy190 (by simpa using hc199));have hL' := chkL_step (i := i) hL hy64 hO hU;exact ⟨i + 1, s.sub ⟨rfl, rfl, rfl, trivial⟩, rfl, by omega, by first | exact chkB_d rfl (by omega) (by omega) (by omega) | exact hL', hB167, hk186⟩
           rw [hc199] at s;refine co_true s rfl <| q2 ?_;refine pk0 (v := .int .i64 18) s rfl fun _ s => q4 <| qr <| co_thenR <| qr ?_;refine co_ret1 s rfl rfl ?_;have hO : chkOp y64 = 0 := chkOp_d (by assumption) (by assumption) (by first | exact delV_t (by assumption) (by assumption) | exact delV_f (by assumption));exact ⟨ret_int (chkL_ord (i := i) hL hy64 hO (keyUp_at (l := l) (i := i) (y := y64) (j := ((i : Int) - 1).toNat) (by omega) (by omega) hy190 (by simpa using hc199))), hB167⟩
          rw [hc159] at s;refine co_true s rfl <| q2 ?_;refine pk0 (v := .int .i64 4) s rfl fun _ s => q5 <| qr <| co_thenR <| qr ?_;refine co_ret1 s rfl rfl ?_;have hO : chkOp y64 = 4 := chkOp_c (by assumption) (by assumption) (by first | exact delV_t (by assumption) (by assumption) | exact delV_f (by assumption));exact ⟨ret_int (hO.symm.trans (chkL_bad (i := i) hL hy64 (by omega))), hB91⟩
         rw [hc101] at s;have hp205 : (y64.2.1.size : Int) > 8 := of_decide_eq_true hc101;refine co_true s rfl <| q2 ?_;refine pk0 (v := .int .i64 3) s rfl fun _ s => q5 <| qr <| co_thenR <| qr ?_;refine co_ret1 s rfl rfl ?_;have hO : chkOp y64 = 3 := chkOp_b (by assumption) (by assumption);exact ⟨ret_int (hO.symm.trans (chkL_bad (i := i) hL hy64 (by omega))), hB91⟩
        rw [hc88] at s;have hp207 : keyC y64.1 ≠ 0 := by first | simpa using hc88 | simpa [and_assoc] using hc88
        refine co_true s rfl <| q2 ?_;refine pk0 (v := .int .i64 10) s rfl fun _ s => q5 <| qr <| co_thenR <| qr ?_;refine co_ret1 s rfl rfl ?_;have hO : chkOp y64 = 10 := by rw [chkOp_a (by assumption), keyC_ten (by assumption)]
        exact ⟨ret_int (hO.symm.trans (chkL_bad (i := i) hL hy64 (by omega))), hB91⟩
     rw [hc39] at s;have hp209 : (l.length : Int) > 4 := of_decide_eq_true hc39;refine co_true s rfl <| q2 ?_;refine pk0 (v := .int .i64 6) s rfl fun _ s => q5 ?_;refine co_ret1 s rfl rfl ?_;exact ⟨ret_int (chkB_c rfl (by omega) (by omega) (by omega)), hB15⟩
    rw [hc33] at s;have hp211 : r > 1073741824 := of_decide_eq_true hc33;refine co_true s rfl <| q2 ?_;refine pk0 (v := .int .i64 5) s rfl fun _ s => q5 ?_;refine co_ret1 s rfl rfl ?_;exact ⟨ret_int (chkB_b rfl (by omega) (by omega)), hB15⟩
   rw [hc27] at s;have hp213 : r < 1 := of_decide_eq_true hc27;refine psk s rfl fun _ s => ?_;refine psk s rfl fun _ s => ?_;refine psk s rfl fun _ s => ?_;refine pk0 (v := .bool true) s rfl fun _ s => q1 ?_;refine co_true s rfl <| q2 ?_;refine pk0 (v := .int .i64 5) s rfl fun _ s => q5 ?_;refine co_ret1 s rfl rfl ?_;exact ⟨ret_int (chkB_b rfl (by omega) (by omega)), hB15⟩
  rw [hc21] at s;have hp219 : c ≥ 3 := of_decide_eq_true hc21;refine co_true s rfl <| q2 ?_;refine pk0 (v := .int .i64 1) s rfl fun _ s => q5 ?_;refine co_ret1 s rfl rfl ?_;exact ⟨ret_int (chkB_a rfl (by omega)), hB15⟩
 rw [hc14] at s;have hp221 : c < 0 := of_decide_eq_true hc14;refine psk s rfl fun _ s => ?_;refine psk s rfl fun _ s => ?_;refine psk s rfl fun _ s => ?_;refine pk0 (v := .bool true) s rfl fun _ s => q1 ?_;refine co_true s rfl <| q2 ?_;refine pk0 (v := .int .i64 1) s rfl fun _ s => q5 ?_;refine co_ret1 s rfl rfl ?_;exact ⟨ret_int (chkB_a rfl (by omega)), hB15⟩
end Go.Proofs.Ytaoibbakflacoaa

/- Slices of any elements that came in, opened by their readings. Conditions: none. -/
namespace Go.Proofs.Ytaoibbakflacoaa
open Go.RowKit Go.ChangeShapes Go.WideShapes Go.Deep

section
variable {H : Type} {enc : TypeId × Value → H} {P : Program} {w : World} {base : Nat} {spare : Nat → Bool} {held : Bool}
theorem open_rows {α : Type} [Inhabited α] {t e : TypeId} {fuel : Nat} {cs : List Value} {x : DataW H × List MemPlace} (E : α → List Value) (sz : Nat) (good : α → Prop)
    (ht : P.underlying t = some (.slice e)) (hC : P.cellsOf e = sz) (hpos : 0 < sz)
    (elem : ∀ n cs x, DataW.trod enc P w base spare held n e cs = some x → ∃ a : α, cs = E a ∧ good a)
    (h : DataW.trod enc P w base spare held fuel t cs = some x) :
    ∃ (l : List α) (v : Value), cs = [v] ∧ SliceOf E sz w v l ∧ ∀ a ∈ l, good a := by
  rcases open_slice ht h with ⟨hcs, _⟩ | ⟨a, len, cap, m, n, D, Pl, hcs, _, hl, hm, hmm, _, hi⟩
  · exact ⟨[], _, hcs, SliceOf.nil _ _ _, by simp⟩
  · have hlm : len ≤ m := by rw [hmm]; split <;> omega
    rw [hC] at hi
    obtain ⟨f, hf⟩ := choose_lt (α := α) (n := len) (p := fun i y => (∀ j u, (E y)[j]? = some u → w.cell? ((a.add (i * sz)).add j) = some u) ∧ good y ∧ (E y).length = sz) (fun i hilt => by
      obtain ⟨cs', hc, ht'⟩ := hi i (by omega)
      obtain ⟨y, rfl, hg⟩ := elem n cs' _ ht'
      obtain ⟨_, hcl, hat⟩ := World.cells?_some hc
      exact ⟨y, fun j u hu => by
        have hj : j < (E y).length := (List.getElem?_eq_some_iff.1 hu).1
        rw [hat j (by omega), hu], hg, hcl⟩)
    refine ⟨(List.range len).map f, _, hcs, ⟨some a, cap, by simp, by simpa using hl, by unfold maxLen at hm; omega, fun h => (by cases h), fun j hj => ?_⟩, fun y hy => ?_⟩
    · have hj' : j < len := by simpa using hj
      obtain ⟨b, off, spot⟩ := a
      have hspot : spot = none := by
        obtain ⟨h1, _, h3⟩ := hf 0 (by omega)
        have hc0 := h1 0 _ (List.getElem?_eq_getElem (show 0 < (E (f 0)).length by omega))
        simpa [Addr.add] using World.cell?_spot hc0
      subst hspot
      refine ⟨b, off, rfl, fun i u hu => ?_⟩
      have := (hf j hj').1 i u (by simpa using hu)
      rw [Addr.add_lit, Addr.add_lit] at this
      exact this
    · obtain ⟨i, hi', rfl⟩ := List.mem_map.1 hy
      exact (hf i (List.mem_range.1 hi')).2.1
/-- A struct of one-cell fields: each field's cell, and its reading. -/
theorem trod_fields {t : TypeId} {fs : Array Field} {fuel : Nat} {cs : List Value} {x : DataW H × List MemPlace} (hs : P.underlying t = some (.struct fs)) (hone : oneCellFields P fs = true) (hC : P.cellsOf t = fs.size)
    (h : DataW.trod enc P w base spare held fuel t cs = some x) :
    cs.length = fs.size ∧ ∃ m, ∀ (j : Nat) (f : Field), fs[j]? = some f → ∃ c y, cs[j]? = some c ∧ DataW.trod enc P w base spare held m f.type [c] = some y := by
  obtain ⟨xs, m, _, _, hl, hx, hf⟩ := DataW.trod_struct hs h
  rw [hC] at hl
  refine ⟨hl, m, fun j f hj => ?_⟩
  have hjl : j < fs.size := (Array.getElem?_eq_some_iff.1 hj).1
  obtain ⟨o, k⟩ := hone_of hone j f hj
  have h1 := hf j f hj
  rw [o, k, List.drop_eq_getElem_cons (by omega), List.take_succ_cons, List.take_zero, List.getElem?_eq_getElem (by omega)] at h1
  exact ⟨_, _, List.getElem?_eq_getElem (by omega), h1⟩
end
end Go.Proofs.Ytaoibbakflacoaa

/- Entries of a log that came in (over the texts of ops): a batch (client, request, operations), a timestamp; with how much they hold. Conditions: none. -/
namespace Go.Proofs.Ytaoibbakflacoaa
open Go.RowKit Go.ChangeShapes Go.WideShapes Go.Deep Go.PlainAid

def opOk (o : OpT) : Prop := o.1.size ≤ 9223372036854775807 ∧ o.2.1.size ≤ 9223372036854775807
/-- An entry: client, request, the operations' slice as a value and as a list, timestamp. -/
structure EntT where
  client : Int
  req : Int
  ops : Value
  opl : List OpT
  ts : Int
instance : Inhabited EntT := ⟨⟨0, 0, .slice none 0 0, [], 0⟩⟩
def entE (e : EntT) : List Value := [.int .i64 e.client, .int .i64 e.req, e.ops, .int .u64 e.ts]
/-- What is known of an entry that came in. -/
structure EntOk (w : World) (e : EntT) : Prop where
  ops : SliceOf opE 3 w e.ops e.opl
  each : ∀ o ∈ e.opl, opOk o
  ts0 : 0 ≤ e.ts
  ts1 : e.ts < 18446744073709551616
  cl : (Lit.int .i64 e.client).wf = true
  rq : (Lit.int .i64 e.req).wf = true
theorem EntOk.below {w w' : World} {e : EntT} (h : EntOk w e) (hb : Below w.heap.size w w') : EntOk w' e := ⟨h.ops.below hb, h.each, h.ts0, h.ts1, h.cl, h.rq⟩
section
variable {H : Type} {enc : TypeId × Value → H} {w : World} {base : Nat} {spare : Nat → Bool} {held : Bool}
set_option maxRecDepth 10000 in
theorem elem_opS (n : Nat) (cs : List Value) (x : DataW H × List MemPlace) (h : DataW.trod enc Try.prog w base spare held n 59 cs = some x) : ∃ p : OpT, cs = opE p ∧ opOk p := by
  obtain ⟨hl, m, hf⟩ := trod_fields Try.underlying59 (by kernel_rfl) (by kernel_rfl) h
  have hl3 : cs.length = 3 := hl
  clear hl
  match cs, hl3 with
  | [c0, c1, c2], _ =>
    obtain ⟨_, y0, e0, h0⟩ := hf 0 _ rfl
    obtain ⟨_, y1, e1, h1⟩ := hf 1 _ rfl
    obtain ⟨_, y2, e2, h2⟩ := hf 2 _ rfl
    cases e0; cases e1; cases e2
    obtain ⟨a, e0, _, w0⟩ := DataW.trod_string Try.underlying9 h0
    obtain ⟨b, e1, _, w1⟩ := DataW.trod_string Try.underlying9 h1
    obtain ⟨c, e2, _⟩ := DataW.trod_bool Try.underlying4 h2
    simp only [List.cons.injEq, and_true] at e0 e1 e2
    subst e0 e1 e2
    exact ⟨(a, b, c), rfl, by unfold maxLen at w0; exact w0, by unfold maxLen at w1; exact w1⟩
theorem open_opsS {fuel : Nat} {cs : List Value} {x : DataW H × List MemPlace} (h : DataW.trod enc Try.prog w base spare held fuel 23 cs = some x) :
    ∃ (l : List OpT) (v : Value), cs = [v] ∧ SliceOf opE 3 w v l ∧ ∀ p ∈ l, opOk p :=
  open_rows opE 3 opOk Try.underlying23 (by kernel_rfl) (by omega) elem_opS h
set_option maxRecDepth 10000 in
theorem elem_ent (n : Nat) (cs : List Value) (x : DataW H × List MemPlace) (h : DataW.trod enc Try.prog w base spare held n 108 cs = some x) : ∃ e, cs = entE e ∧ EntOk w e := by
  obtain ⟨xs, m, _, _, hl, hxl, hf⟩ := DataW.trod_struct Try.underlying108 h
  have hl4 : cs.length = 4 := hl
  have hx2 : xs.length = 2 := hxl
  clear hl hxl
  match cs, hl4 with
  | [c0, c1, c2, c3], _ =>
    have h0 := hf 0 _ rfl
    have h1 := hf 1 _ rfl
    obtain ⟨y0, hy0⟩ : ∃ y, xs[0]? = some y := ⟨_, List.getElem?_eq_getElem (by omega)⟩
    obtain ⟨y1, hy1⟩ : ∃ y, xs[1]? = some y := ⟨_, List.getElem?_eq_getElem (by omega)⟩
    rw [hy0] at h0
    rw [hy1] at h1
    have h0' : DataW.trod enc Try.prog w base spare held m 42 [c0, c1, c2] = some y0 := h0
    have h1' : DataW.trod enc Try.prog w base spare held m 22 [c3] = some y1 := h1
    obtain ⟨ts, e3, _, w3⟩ := DataW.trod_int Try.underlying22 h1'
    obtain ⟨_, m2, hf2⟩ := trod_fields Try.underlying42 (by kernel_rfl) (by kernel_rfl) h0'
    obtain ⟨_, z0, e0, g0⟩ := hf2 0 _ rfl
    obtain ⟨_, z1, e1, g1⟩ := hf2 1 _ rfl
    obtain ⟨_, z2, e2, g2⟩ := hf2 2 _ rfl
    cases e0; cases e1; cases e2
    obtain ⟨a, e0, _, w0⟩ := DataW.trod_int Try.underlying3 g0
    obtain ⟨b, e1, _, w1⟩ := DataW.trod_int Try.underlying3 g1
    obtain ⟨l, v, e2, hs, hall⟩ := open_opsS g2
    simp only [List.cons.injEq, and_true] at e0 e1 e2 e3
    subst e0 e1 e2 e3
    have := wf_u64 w3
    exact ⟨⟨a, b, c2, l, ts⟩, rfl, ⟨hs, hall, this.1, this.2, w0, w1⟩⟩
theorem open_ents {fuel : Nat} {cs : List Value} {x : DataW H × List MemPlace} (h : DataW.trod enc Try.prog w base spare held fuel 43 cs = some x) :
    ∃ (l : List EntT) (v : Value), cs = [v] ∧ SliceOf entE 4 w v l ∧ ∀ p ∈ l, EntOk w p :=
  open_rows entE 4 (EntOk w) Try.underlying43 (by kernel_rfl) (by omega) elem_ent h
end
section
variable {H : Type} {enc : TypeId × Value → H} {P : Program} {w : World} {base : Nat} {spare : Nat → Bool} {held : Bool}
end
section
variable {H : Type} {enc : TypeId × Value → H} {w : World} {base : Nat} {spare : Nat → Bool} {held : Bool}
end

end Go.Proofs.Ytaoibbakflacoaa

/- Stores into a part of a block; boxes of an opaque value. Conditions: none. -/
namespace Go.Proofs.Ytaoibbakflacoaa
open Go.RowKit

section
variable {P : Program} {n : Nat} {m : List (Nat × Value)} {w x w0 : World} {o : Oper} {N : Nat} {T : TypeId} {cs : Array Value} {S : Nat → Prop}
theorem op_storePart {t : TypeId} {p q : Operand} {cells cs' : Array Value} {k : Nat} (ho : o.op = .store t p q) (hp : ev m p = some (.pointer (some ⟨N, k, none⟩))) (hq : ev m q = some (.agg cells)) (h1 : cells.all (·.oneCell') = true) (hi : (P.info? t).map (·.size) = some cells.size)
    (hb : Blk w N T cs) (hk : Nat.ble (k + cells.size) cs.size = true) (he : (cs.toList.take k ++ cells.toList ++ cs.toList.drop (k + cells.size)).toArray = cs') : Op1 P n m o w (fun _ x => Blk x N T cs' ∧ x.heap.size = w.heap.size ∧ w.grownBy x (some N)) := by
  intro a ha K Q hN
  have hk' : k + cells.size ≤ cs.size := by simpa using hk
  have hthere : w.there N k cells.size := fun j hj => ⟨by rw [hb.cell (k := k + j) (v := cs[k + j]'(by omega)) (by rw [Array.getElem?_eq_getElem])]; rfl, hb.frozen _⟩
  refine wp_store_mid t p q ho N k cells (ha.ev hp) (ha.ev hq) hthere hi h1 (hN _ _ ⟨?_, ?_, ?_⟩)
  · have := setCells_blk cells.toList w cs k hb (by simpa using hk')
    simp only [Array.length_toList] at this
    rw [he] at this; exact this
  · have hsz : ∀ (vs : List Value) (k : Nat) (w : World), (w.setCells N k vs).heap.size = w.heap.size := by
      intro vs
      induction vs with
      | nil => intro k w; rfl
      | cons v r ih => intro k w; rw [World.setCells, ih]; simp [World.setCell]
    exact hsz _ _ _
  · have hg : ∀ (vs : List Value) (k : Nat) (w : World), w.grownBy (w.setCells N k vs) (some N) := by
      intro vs
      induction vs with
      | nil => intro k w; exact World.grownBy.refl _ _
      | cons v r ih => intro k w; rw [World.setCells]; exact (grown_setCell w N k v).trans (ih _ _)
    exact hg _ _ _
end
end Go.Proofs.Ytaoibbakflacoaa

/- Package item: Check, Stamped, Last of both; Twins of the document's; how much a list holds. Conditions: none. -/
namespace Go.Proofs.Ytaoibbakflacoaa
open Go.RowKit Go.PlainAid
set_option linter.unusedVariables false


-- left out here





set_option maxRecDepth 100000 in
theorem ritemCheck_any (c : Int) (r : Int) (v : Value) (l : List OpT) (ts : Int) (w : World) (hs : SliceOf opE 3 w v l) :
    Calls Try.prog 42 #[.agg #[.int .i64 c, .int .i64 r, v, .int .u64 ts]] w fun e w' => e = .returned (.int .i64 (chkB c r l)) ∧ Below w.heap.size w w' := by
 have hB0 := Below.refl w.heap.size w;have hl_hs := sl_len hs;refine co_enter (n := 6) Try.func42 rfl rfl rfl [(0, .agg #[.int .i64 c, .int .i64 r, v, .int .u64 ts])] rfl (fun a s => ?_);refine q2 ?_;refine pw s rfl (op_new (v := fun N => pt N 0) (T := 108) (cs := #[.int .i64 c, .int .i64 r, v, .int .u64 ts]) (by kernel_rfl) (by kernel_rfl) (by kernel_rfl)) ?_;rintro _ w2 a1 ⟨N3, rfl, hN6, hz7, hk5, hg4⟩ s;have hz8 := hg4.size
 try dsimp only at s
 refine pk0 (v := .int .i64 0) s rfl fun _ s => q3 ?_;refine pk0 (v := pt N3 0) s rfl fun _ s => ?_;refine pk (v := .agg #[.int .i64 c, .int .i64 r, v]) s rfl (rn_loadN rfl rfl Try.underlying42 rfl (by kernel_rfl) (blk_part hk5 0 (by rfl))) fun _ s => ?_;have hB14 := hb_new hB0 hg4;refine pw s rfl (op_call (args := #[.agg #[.int .i64 c, .int .i64 r, v]]) (R := fun res xw => res = .int .i64 (chkB c r l) ∧ Below w2.heap.size w2 xw) rfl rfl rfl (by kernel_rfl) (by kernel_rfl) (Try.call36 _ _) (ropsCheck_any c r v l w2 (hs.below hB14)) (by rintro e x ⟨rfl, hb15⟩; exact ⟨_, rfl, ⟨rfl, hb15⟩⟩)) ?_;rintro _ w13 a12 ⟨rfl, hb15⟩ s;have hz16 := hb15.size;refine pk0 (v := .int .i64 (chkB c r l)) s rfl fun _ s => q4 ?_;refine co_ret1 s rfl rfl ?_;have hB18 := hb_call hB14 hb15;exact ⟨rfl, hB18⟩
end Go.Proofs.Ytaoibbakflacoaa

/- A text's bytes, by the index. Conditions: none. -/
namespace Go.Proofs.Ytaoibbakflacoaa
open Go.RowKit Go.PlainAid Go.ChangeMaps
def byteAt (s : ByteArray) (i : Nat) : Int := ((s.data[i]?.getD 0).toNat : Int)
section
variable {P : Program} {n : Nat} {m : List (Nat × Value)} {w x : World} {o : Oper} {r pos : Nat} {s : ByteArray} {q : Operand} {t : TypeId}
theorem byteAt_get {k : Nat} (h : k < s.size) : byteAt s k = ((s[k]'h).toNat : Int) := by
  unfold byteAt
  have : s.data[k]? = some (s[k]'h) := Array.getElem?_eq_getElem h
  rw [this]; rfl
theorem rn_indexStr {r : Operand} {k : IntKind} {i : Int} {j : Nat} (ho : o.op = .index t q r) (hq : ev m q = some (.string s)) (hr : ev m r = some (.int k i)) (ht : P.underlying t = some .string) (hij : i = (j : Nat)) (hj : j < s.size) : (execOp (lk m) o).run P w = .ok (.value (.int .u8 (byteAt s j))) w := by
  subst hij
  unfold execOp
  simp only [ho, lk_ev hq, lk_ev hr, Sem.run_bind, run_index_string w t s k _ ht]
  simp [hj, byteAt_get hj]
end
end Go.Proofs.Ytaoibbakflacoaa

/- A range over a text: the call's own place among its bytes. Conditions: the bytes are below 128. -/
namespace Go.Proofs.Ytaoibbakflacoaa
open Go.RowKit Go.PlainAid Go.ChangeMaps
def SIt (w : World) (r : Nat) (s : ByteArray) (pos : Nat) : Prop := w.heap[r]? = some (.stringIter s pos)
def Ascii (s : ByteArray) : Prop := ∀ i (h : i < s.size), (s[i]'h).toNat < 128
section
variable {P : Program} {n : Nat} {m : List (Nat × Value)} {w x : World} {o : Oper} {r pos : Nat} {s : ByteArray} {q : Operand} {t : TypeId}
theorem SIt.lt (h : SIt w r s pos) : r < w.heap.size := (Array.getElem?_eq_some_iff.1 (show w.heap[r]? = _ from h)).1
theorem SIt.kept {row : Option Nat} (h : SIt w r s pos) (hg : w.grownBy x row) (h2 : row ≠ some r) : SIt x r s pos := by
  unfold SIt; rw [hg.block r h.lt (fun e => h2 e.symm)]; exact h
theorem SIt.row {B' : Nat} {T : TypeId} {sz k : Nat} {v : Value} {xs : List Value} (h : SIt w r s pos) (hr : w.ownsRow B' T sz v k xs) : v.ownBlock ≠ some r := by
  intro e
  obtain ⟨_, h2⟩ := hr
  rcases h2 with h2 | ⟨g, cap, cur, hv, hg, hh, _⟩
  · rw [h2.1] at e; simp [Value.ownBlock] at e
  · rw [hv] at e
    simp only [Value.ownBlock, Option.some.injEq] at e
    subst e
    rw [show w.heap[g]? = _ from h] at hh; cases hh
theorem SIt.but {S : Nat → Prop} (h : SIt w r s pos) (hb : But S w x) (hn : ¬ S r) : SIt x r s pos := by
  unfold SIt; rw [hb.block r h.lt hn]; exact h
theorem op_rangeS (ho : o.op = .range t q) (hq : ev m q = some (.string s)) (ht : P.underlying t = some .string) :
    Op1 P n m o w (fun u x => ∃ r, u = .pointer (some ⟨r, 0, none⟩) ∧ r = w.heap.size ∧ SIt x r s 0 ∧ x.heap.size = r + 1 ∧ w.grownBy x none) := by
  intro ac ha N Q hN
  unfold Oper.wp execOp
  simp only [ho, ha.ev hq, Sem.run_bind, run_range_string w t s ht, Result.andThen_ok, Sem.run_pure]
  have hgr := World.grownBy_alloc w (.stringIter s 0) none
  refine hN _ _ ⟨w.heap.size, rfl, rfl, w.iter_heap s 0, ?_, hgr⟩
  show (w.heap.push _).size = _
  rw [Array.size_push]
theorem op_nextS (ho : o.op = .next q true) (hq : ev m q = some (.pointer (some ⟨r, 0, none⟩))) (h : SIt w r s pos) (ha : Ascii s) :
    Op1 P n m o w (fun u x => (s.size ≤ pos ∧ u = .tuple #[.bool false] ∧ w = x) ∨
      (pos < s.size ∧ u = .tuple #[.bool true, .int .i64 ((pos : Nat) : Int), .int .i32 (byteAt s pos)] ∧ SIt x r s (pos + 1) ∧ x.heap.size = w.heap.size ∧ w.grownBy x (some r))) := by
  intro ac hac N Q hN
  have hr : w.heap[r]? = some (.stringIter s pos) := h
  unfold Oper.wp execOp
  simp only [ho, hac.ev hq, Sem.run_bind]
  have hg : (getObj r).run P w = .ok (.stringIter s pos) w := by simp [getObj, Sem.run, hr]
  by_cases hp : pos < s.size
  · have hset := Go.MapKept.heap_set (o' := .stringIter s (pos + 1)) hr
    have hb : byteAt s pos = ((s[pos]'hp).toNat : Int) := by
      unfold byteAt
      have : s.data[pos]? = some (s[pos]'hp) := Array.getElem?_eq_getElem hp
      rw [this]; rfl
    have hrun : (Instr.next (.pointer (some ⟨r, 0, none⟩)) true o.type).run P w = .ok (.tuple #[.bool true, .int .i64 ((pos : Nat) : Int), .int .i32 (byteAt s pos)]) (setBlock w r (.stringIter s (pos + 1))) := by
      rw [hb]
      simp only [Instr.next, Sem.run_bind, hg, Result.andThen_ok, hp, if_true, decode_ascii s pos hp (ha pos hp)]
      simp [goInt, setObj, Sem.run, setBlock, hr]
    simp only [hrun, Result.andThen_ok, Sem.run_pure]
    have hgr : w.grownBy (setBlock w r (.stringIter s (pos + 1))) (some r) := ⟨rfl, rfl, rfl, by simp [setBlock], fun k _ hk => hset.2 k (fun e1 => hk (by rw [e1]))⟩
    exact hN _ _ (.inr ⟨hp, rfl, hset.1, by simp [setBlock], hgr⟩)
  · have hrun : (Instr.next (.pointer (some ⟨r, 0, none⟩)) true o.type).run P w = .ok (.tuple #[.bool false]) w := by
      simp only [Instr.next, Sem.run_bind, hg, Result.andThen_ok, hp, if_false]
      simp [Sem.run]
    simp only [hrun, Result.andThen_ok, Sem.run_pure]
    exact hN _ _ (.inl ⟨by omega, rfl, rfl⟩)
end
end Go.Proofs.Ytaoibbakflacoaa

/- Package mess: parts, numbers, lists checked. Conditions: none. -/
namespace Go.Proofs.Ytaoibbakflacoaa
open Go.RowKit Go.PlainAid
set_option linter.unusedVariables false


abbrev PrT := ByteArray × ByteArray
def prE (y : PrT) : List Value := [.string y.1, .string y.2]
theorem prE_len (y : PrT) : (prE y).length = 2 := rfl
theorem prE_one (y : PrT) : ∀ u ∈ prE y, u.oneCell' = true := by intro u hu; simp [prE] at hu; rcases hu with rfl | rfl <;> rfl
/-- A message, without where its lists lie. -/
structure MsgD where
  k : Int
  ep : Int
  rq : Int
  sr : Int
  fg : Bool
  at_ : Int
  la : Int
  n : Int
  m : Int
  p : Int
  e : Int
  key : ByteArray
  to_ : ByteArray
  cep : Int
  cms : List MemT
  cfl : Int
  bc : Int
  br : Int
  bl : List OpT
  en : List EntT
  st : List Int
  pr : List PrT
/-- What is known of a message that may be. -/
structure MsgR (d : MsgD) : Prop where
  mem : ∀ m ∈ d.cms, memOk m
  rng : (-9223372036854775808 ≤ d.cep ∧ d.cep ≤ 9223372036854775807) ∧ (0 ≤ d.cfl ∧ d.cfl < 18446744073709551616) ∧ (0 ≤ d.at_ ∧ d.at_ < 18446744073709551616) ∧ (0 ≤ d.la ∧ d.la < 18446744073709551616)
  st : ∀ t ∈ d.st, 0 ≤ t ∧ t < 18446744073709551616
/-- The parts of a kind, by the program's letters; by the document's. -/
def ptL (k : Int) : List UInt8 := if k = 1 then [67, 97] else if k = 2 then [101, 115, 102, 97, 108] else if k = 3 then [101, 110, 109, 112, 113, 97, 76] else if k = 4 then [101, 110, 109, 112, 83] else if k = 5 then [101, 66] else if k = 6 ∨ k = 11 then [113, 97] else if k = 7 then [113, 120, 101, 110] else if k = 8 then [113, 107, 97] else if k = 9 then [113, 107, 116, 97, 110] else if k = 10 then [113, 107, 97, 102, 82] else if k = 12 ∨ k = 13 ∨ k = 14 then [113, 110] else []
def pstr (k : Int) : ByteArray := ⟨(ptL k).toArray⟩
def numP (d : MsgD) (p : Int) : Int := if p = 101 then d.ep else if p = 115 then d.sr else if p = 113 then d.rq else if p = 110 then d.n else if p = 109 then d.m else if p = 112 then d.p else d.e
theorem np_1 {d : MsgD} {p : Int} (h : p = 101) : d.ep = numP d p := by unfold numP; rw [if_pos h]
theorem np_2 {d : MsgD} {p : Int} (h : p = 115) : d.sr = numP d p := by unfold numP; rw [if_neg (by omega), if_pos h]
theorem np_3 {d : MsgD} {p : Int} (h : p = 113) : d.rq = numP d p := by unfold numP; rw [if_neg (by omega), if_neg (by omega), if_pos h]
theorem np_4 {d : MsgD} {p : Int} (h : p = 110) : d.n = numP d p := by unfold numP; rw [if_neg (by omega), if_neg (by omega), if_neg (by omega), if_pos h]
theorem np_5 {d : MsgD} {p : Int} (h : p = 109) : d.m = numP d p := by unfold numP; rw [if_neg (by omega), if_neg (by omega), if_neg (by omega), if_neg (by omega), if_pos h]
theorem np_6 {d : MsgD} {p : Int} (h : p = 112) : d.p = numP d p := by unfold numP; rw [if_neg (by omega), if_neg (by omega), if_neg (by omega), if_neg (by omega), if_neg (by omega), if_pos h]
theorem np_7 {d : MsgD} {p : Int} (h : ¬ (p = 101 ∨ p = 115 ∨ p = 113 ∨ p = 110 ∨ p = 109 ∨ p = 112)) : d.e = numP d p := by unfold numP; rw [if_neg (by omega), if_neg (by omega), if_neg (by omega), if_neg (by omega), if_neg (by omega), if_neg (by omega)]
def chkF {α : Type} (f : α → Int) : List α → Int
  | [] => 0
  | x :: r => if f x ≠ 0 then f x else chkF f r
def chkLs {α : Type} (most : Int) (f : α → Int) (l : List α) : Int := if (l.length : Int) > most then 6 else chkF f l
theorem dropM {α : Type} {l : List α} {i : Nat} {y : α} (h : l[i]? = some y) : l.drop i = y :: l.drop (i + 1) := by
  obtain ⟨hi, rfl⟩ := List.getElem?_eq_some_iff.1 h
  exact List.drop_eq_getElem_cons hi
theorem cF_step {α : Type} {f : α → Int} {l : List α} {i : Nat} {y : α} {z : Int} (h : chkF f (l.drop i) = z) (hy : l[i]? = some y) (hc : f y = 0) : chkF f (l.drop (i + 1)) = z := by
  rw [dropM hy] at h; unfold chkF at h; rw [if_neg (by omega)] at h; exact h
theorem cF_bad {α : Type} {f : α → Int} {l : List α} {i : Nat} {y : α} {z : Int} (h : chkF f (l.drop i) = z) (hy : l[i]? = some y) (hc : f y ≠ 0) : f y = z := by
  rw [dropM hy] at h; unfold chkF at h; rwa [if_pos hc] at h
theorem cF_end {α : Type} {f : α → Int} {l : List α} {i : Nat} {z : Int} (h : chkF f (l.drop i) = z) (hi : l.length ≤ i) : 0 = z := by
  rw [List.drop_eq_nil_of_le hi] at h; simpa [chkF] using h
def chkPair (y : PrT) : Int := if keyC y.1 ≠ 0 then keyC y.1 else if (y.2.size : Int) > 8 then 3 else 0
def chkEn (e : EntT) : Int := chkB e.client e.req e.opl
def chkSt (_ : Int) : Int := 0
def numL (p : Int) : Prop := p = 101 ∨ p = 115 ∨ p = 113 ∨ p = 110 ∨ p = 109 ∨ p = 112
instance (p : Int) : Decidable (numL p) := by unfold numL; infer_instance
def chkP (d : MsgD) (p : Int) : Int :=
  if p = 120 then (if d.e < 0 ∨ d.e > 21 then 1 else 0)
  else if numL p then (if numP d p < 0 ∨ numP d p > 1073741824 then 5 else 0)
  else if p = 107 then (if (d.key.size : Int) > 8 then 3 else 0)
  else if p = 116 then (if (d.to_.size : Int) > 8 then 3 else 0)
  else if p = 67 then chkC d.cep d.cms
  else if p = 66 then chkB d.bc d.br d.bl
  else if p = 76 then chkLs 4 chkEn d.en
  else if p = 83 then chkLs 8 chkSt d.st
  else if p = 82 then chkLs 32 chkPair d.pr else 0

-- left out here






-- left out here









































































-- left out here

































-- left out here













-- left out here



-- left out here




















-- left out here


















end Go.Proofs.Ytaoibbakflacoaa
