/- Put together: LibMpq, SlMpq, ConfAMpq, ConfBMpq, ConfDMpq, ConfEMpq, ConfFMpq, VnAMpq, ButMpq, AppStrMpq, WireAMpq, WireBMpq, WireCMpq, WireDMpq, WireEMpq, WireFMpq, VnBMpq, WireGMpq, WireHMpq, WireIMpq, StrOpsMpq, WireJMpq, WireKMpq, WireLMpq, VnFMpq, WireNMpq, WireOMpq, WireTMpq, ConfSMpq, ConfTaMpq, PexMpq. Conditions: as each says. -/
import Derived.Test.YtcbagajjgbfgdaaGreatRows
import Derived.WalkKit
import Derived.WalkSpells
import Derived.WalkLawsBesides
import Derived.Deep.LoopGhost
import Derived.Lib.Hide
import Derived.Laws.IdiomStrings
import Derived.Lib.QuietBelow
import Derived.BigQuiet
import Derived.PlainAid
import Derived.Lib.SmallJoins
import Derived.Deep.MidRow
import Derived.Laws.AppendOwnNone
import Derived.Laws.StructEq
import Derived.Laws.Pointers
import Derived.Deep.QuietTactic
import Derived.Deep.RegionHeld3
import Derived.Lib.AppendStr
import Derived.Deep.RegionLaw
import Derived.Deep.AppendLies
import Derived.Defers
import Derived.Recover
import Derived.Laws.BytesArg
import Derived.Laws.Concat
/- Small laws on worlds, rows and bounds that the walks of this seat share. Conditions: none. -/
namespace Go.Proofs.YtcbagajjgbfgdaaGreat
open Go.RowKit

theorem ret_int {k : IntKind} {a b : Int} (h : a = b) : Ending.returned (.int k a) = .returned (.int k b) := by rw [h]
theorem ret_bool {a b : Bool} (h : a = b) : Ending.returned (.bool a) = .returned (.bool b) := by rw [h]
/-- One new cell, at its block's head. -/
theorem one_cell (w : World) (v : Value) (T : TypeId) : ∀ (j : Nat) u, [v][j]? = some u → (w.alloc (.cells #[v] T)).cell? ((⟨w.heap.size, 0, none⟩ : Addr).add j) = some u := by
  intro j u hj
  match j, hj with
  | 0, hj => simp at hj; subst hj; rw [Addr.add_lit, World.cell?_alloc_mark]; rfl
/-- A row of a world is a row of what comes behind it. -/
theorem row_below {B : Nat} {e : TypeId} {k : Nat} {v : Value} {n : Nat} {xs : List Value} {w w' : World} (h : w.ownsRow B e k v n xs) (hb : Below w.heap.size w w') : w'.ownsRow B e k v n xs := by
  obtain ⟨h1, h2⟩ := h
  refine ⟨h1, ?_⟩
  rcases h2 with h2 | ⟨g, cap, cur, hv, hg, hh, r⟩
  · exact Or.inl h2
  · exact Or.inr ⟨g, cap, cur, hv, hg, by rw [hb.block g (Array.getElem?_eq_some_iff.1 hh).1]; exact hh, r⟩
theorem wf_u64 {a : Int} (h : (Lit.int .u64 a).wf = true) : 0 ≤ a ∧ a < 18446744073709551616 := by
  have : 0 ≤ a ∧ a ≤ 18446744073709551615 := by simpa [Lit.wf, IntKind.min, IntKind.max, IntKind.signed, IntKind.bits] using h
  omega
theorem wf_i64 {a : Int} (h : (Lit.int .i64 a).wf = true) : -9223372036854775808 ≤ a ∧ a ≤ 9223372036854775807 := by
  simpa [Lit.wf, IntKind.min, IntKind.max, IntKind.signed, IntKind.bits] using h
theorem made_rep (v : Value) (h : v.cells = #[v]) (k : Nat) : (madeCells v.cells k).toList = List.replicate k v := by
  rw [h]
  apply List.ext_getElem
  · simp [madeCells]
  · intro i h1 h2
    simp [madeCells, Nat.mod_one]
/-- An owned row of cells of one value each, as a slice: its cells. -/
theorem row_view {w : World} {B : Nat} {e : TypeId} {v : Value} {n : Nat} {xs : List Value} (h : w.ownsRow B e 1 v n xs) :
    ∃ ao c, v = .slice ao n c ∧ n ≤ 9223372036854775807 ∧ ∀ j, j < n → ∃ g, ao = some ⟨g, 0, none⟩ ∧ B ≤ g ∧ w.cell? ⟨g, j, none⟩ = xs[j]? := by
  rcases h.2 with ⟨hv, hn⟩ | ⟨g, cap, cur, hv, hg, _⟩
  · subst hn; exact ⟨none, 0, hv, by omega, fun j hj => absurd hj (by omega)⟩
  · subst hv
    obtain ⟨_, hnc, hcm, _⟩ := ‹_ ∧ _ ∧ _ ∧ _›
    exact ⟨_, _, rfl, by unfold maxLen at hcm; omega, fun j hj => ⟨g, rfl, hg, h.cellAt j (by omega)⟩⟩
theorem below_draws {B : Nat} {w w' : World} (h : Below B w w') (n : Nat) : Below B w (w'.drewN n) := ⟨h.os, h.tape, h.output, h.size, h.block⟩
/-- A cell of a world, read behind it. -/
theorem cell_below {w w' : World} (h : Below w.heap.size w w') {a : Addr} {v : Value} (hc : w.cell? a = some v) : w'.cell? a = some v :=
  (h.cell (World.block_lt_of_cell? w a hc)).trans hc
end Go.Proofs.YtcbagajjgbfgdaaGreat

/- Slices that are read, whatever their elements: their cells; a struct that is loaded out of one; an append from one. Conditions: none. -/
namespace Go.Proofs.YtcbagajjgbfgdaaGreat
open Go.RowKit

/-- The slice v reads as the list l: each element's cells are what enc says, sz of them. -/
def SliceOf {α : Type} (enc : α → List Value) (sz : Nat) (w : World) (v : Value) (l : List α) : Prop :=
  ∃ ao cap, v = .slice ao l.length cap ∧ l.length ≤ cap ∧ cap ≤ 9223372036854775807 ∧ (ao = none → l.length = 0 ∧ cap = 0) ∧
    ∀ j (h : j < l.length), ∃ b off, ao = some ⟨b, off, none⟩ ∧ w.rangeAt b (off + j * sz) (enc l[j])

theorem SliceOf.below {α : Type} {enc : α → List Value} {sz : Nat} {w w' : World} {v : Value} {l : List α} (h : SliceOf enc sz w v l) (hb : Below w.heap.size w w') : SliceOf enc sz w' v l := by
  obtain ⟨ao, cap, hv, h1, h2, h3, h4⟩ := h
  refine ⟨ao, cap, hv, h1, h2, h3, fun j hj => ?_⟩
  obtain ⟨b, off, e, hr⟩ := h4 j hj
  exact ⟨b, off, e, fun i u hu => cell_below hb (hr i u hu)⟩
theorem SliceOf.nil {α : Type} (enc : α → List Value) (sz : Nat) (w : World) : SliceOf enc sz w (.slice none 0 0) ([] : List α) :=
  ⟨none, 0, rfl, by simp, by omega, fun _ => ⟨rfl, rfl⟩, fun j hj => absurd hj (by simp)⟩
/-- One integer a cell. -/
def intE (k : IntKind) (n : Int) : List Value := [.int k n]
/-- The cells of rows of one size, one behind the other. -/
theorem flat_at {α : Type} {enc : α → List Value} {size : Nat} : ∀ (l : List α) (q r : Nat) (hql : q < l.length), (∀ y ∈ l, (enc y).length = size) → r < size → (l.flatMap enc)[q * size + r]? = (enc l[q])[r]?
  | [], q, r, hql, _, _ => absurd hql (by simp)
  | y :: l, 0, r, _, hy, hr => by
    rw [List.flatMap_cons, Nat.zero_mul, Nat.zero_add, List.getElem?_append_left (by rw [hy y (by simp)]; exact hr)]; rfl
  | y :: l, q + 1, r, hql, hy, hr => by
    rw [List.flatMap_cons, List.getElem?_append_right (by rw [hy y (by simp), Nat.add_mul]; omega), hy y (by simp), show (q + 1) * size + r - size = q * size + r by rw [Nat.add_mul]; omega]
    exact flat_at l q r (by simpa using hql) (fun z hz => hy z (by simp [hz])) hr
theorem flat_len {α : Type} {enc : α → List Value} {size : Nat} : ∀ (l : List α), (∀ y ∈ l, (enc y).length = size) → (l.flatMap enc).length = l.length * size
  | [], _ => by simp
  | y :: l, hy => by rw [List.flatMap_cons, List.length_append, hy y (by simp), flat_len l (fun z hz => hy z (by simp [hz])), List.length_cons, Nat.add_mul]; omega
/-- A row of the call's own. -/
theorem SliceOf.own {α : Type} {enc : α → List Value} {sz : Nat} {w : World} {B : Nat} {e : TypeId} {v : Value} {l : List α} (h : w.ownsRow B e sz v l.length (l.flatMap enc)) (hsz : ∀ x ∈ l, (enc x).length = sz) : SliceOf enc sz w v l := by
  rcases h.2 with ⟨hv, hn⟩ | ⟨g, cap, cur, hv, hg, _, hnc, hcm, _⟩
  · obtain rfl : l = [] := List.eq_nil_of_length_eq_zero hn
    rw [hv]; exact SliceOf.nil _ _ _
  · refine ⟨some ⟨g, 0, none⟩, cap, hv, hnc, by unfold maxLen at hcm; omega, fun h => by (cases h), fun j hj => ⟨g, 0, rfl, fun i u hu => ?_⟩⟩
    have hi : i < sz := by rw [← hsz _ (List.getElem_mem hj)]; exact (List.getElem?_eq_some_iff.1 hu).1
    have hlt : j * sz + i < l.length * sz := by
      have : (j + 1) * sz ≤ l.length * sz := Nat.mul_le_mul_right _ hj
      rw [Nat.add_mul] at this; omega
    have hc := h.cells (g := g) (by rw [hv]; rfl) (j * sz + i) u
    rw [Addr.add_lit] at hc
    rw [Nat.zero_add]; rw [Nat.zero_add] at hc
    exact hc (by rw [flat_at l j i hj hsz hi]; exact hu)

end Go.Proofs.YtcbagajjgbfgdaaGreat

/- Configurations: members, places. Conditions: none. -/
namespace Go.Proofs.YtcbagajjgbfgdaaGreat
open Go.RowKit Go.PlainAid

/-- A member: Id, Serial. -/
abbrev MemT := Int × Int
def memE (m : MemT) : List Value := [.int .i64 m.1, .int .i64 m.2]
def memV (m : MemT) : Value := .agg #[.int .i64 m.1, .int .i64 m.2]
def memOk (m : MemT) : Prop := (-9223372036854775808 ≤ m.1 ∧ m.1 ≤ 9223372036854775807) ∧ (-9223372036854775808 ≤ m.2 ∧ m.2 ≤ 9223372036854775807)
structure ConfT where
  ep : Int
  mv : Value
  ms : List MemT
  fl : Int
instance : Inhabited ConfT := ⟨⟨0, .slice none 0 0, [], 0⟩⟩
def confE (c : ConfT) : List Value := [.int .i64 c.ep, c.mv, .int .u64 c.fl]
def confV (c : ConfT) : Value := .agg #[.int .i64 c.ep, c.mv, .int .u64 c.fl]
structure ConfOk (w : World) (c : ConfT) : Prop where
  ms : SliceOf memE 2 w c.mv c.ms
  each : ∀ m ∈ c.ms, memOk m
  e0 : -9223372036854775808 ≤ c.ep
  e1 : c.ep ≤ 9223372036854775807
  f0 : 0 ≤ c.fl
  f1 : c.fl < 18446744073709551616
theorem ConfOk.below {w w' : World} {c : ConfT} (h : ConfOk w c) (hb : Below w.heap.size w w') : ConfOk w' c := ⟨h.ms.below hb, h.each, h.e0, h.e1, h.f0, h.f1⟩
/-- The place of the first member of which P holds. -/
def fndF (P : MemT → Bool) : List MemT → Nat → Int
  | [], _ => -1
  | m :: r, i => if P m then (i : Int) else fndF P r (i + 1)
theorem fndF_cons {P : MemT → Bool} {l : List MemT} {i : Nat} (h : i < l.length) : fndF P (l.drop i) i = if P l[i] then (i : Int) else fndF P (l.drop (i + 1)) (i + 1) := by
  rw [List.drop_eq_getElem_cons h]; rfl
theorem fndF_end {P : MemT → Bool} {l : List MemT} {i : Nat} (h : l.length ≤ i) : fndF P (l.drop i) i = -1 := by
  rw [List.drop_eq_nil_of_le h]; rfl
def fnd (P : MemT → Bool) (l : List MemT) : Int := fndF P l 0
theorem neq_mem (a b : MemT) (w : World) : (binOp .neq 128 (memV a) (memV b)).run Tryz.prog w = .ok (.bool (!(a == b))) w := by
  have u := Tryz.underlying3
  have hS : Tryz.prog.underlying 128 = some (.struct (Tryz.prog.fieldsOf 128)) := by kernel_rfl
  have hp : Tryz.prog.stoodInHeld 128 = false := by kernel_rfl
  obtain ⟨a1, a2⟩ := a
  obtain ⟨b1, b2⟩ := b
  unfold memV
  rw [run_neq_struct, show (10000 : Nat) = 9999 + 1 from rfl, run_equalIn_agg w 9999 128 _ _ hS hp]
  simp only [Program.fieldsOf, Tryz.underlying128]
  go_simp
  by_cases h1 : a1 = b1 <;> by_cases h2 : a2 = b2 <;> simp [h1, h2]
set_option maxRecDepth 100000 in
set_option maxHeartbeats 1600000 in
theorem first_any (F : FuncId) (p : Value) (P : MemT → Bool) (v : Value) (l : List MemT) (w : World) (hs : SliceOf memE 2 w v l)
    (hF : ∀ (x : Value) (u : World), Sem.run Tryz.prog (callFunc F #[x, p]) u = .ok (.enter F #[x, p]) u)
    (hc : ∀ (m : MemT) (u : World), Below w.heap.size w u → Calls Tryz.prog F #[memV m, p] u fun e u' => e = .returned (.bool (P m)) ∧ Below u.heap.size u u') :
    Calls Tryz.prog 117 #[v, .func (.func F) #[] #[p]] w fun e w' => e = .returned (.int .i64 (fnd P l)) ∧ Below w.heap.size w w' := by
  obtain ⟨ao, cap, rfl, hcap, hcm, _, hcell⟩ := hs
  have HC := Lib.hid hcell; have HCC := Lib.hid hc; have HFF := Lib.hid hF
  clear hcell hc hF
  have hF := HFF.out
  go_enter Tryz.func117, Tryz.ntmps117
  go_wp2
  go_loopg [9] (l.length + 1) (fun g s9 wr => ∃ i : Nat, s9 = .int .i64 i ∧ i ≤ l.length ∧ l.length + 1 ≤ i + g ∧ fnd P l = fndF P (l.drop i) i ∧ Below w.heap.size w wr)
  case atStart => exact ⟨0, rfl, by omega, by omega, rfl, Below.refl _ _⟩
  case round =>
    obtain ⟨i, rfl, hi, hg, hf, hbel⟩ := hrel
    have HB := Lib.hid hbel; have hsz := hbel.size; have HFD := Lib.hid hf
    clear hbel hf
    by_cases hlt : i < l.length
    · obtain ⟨b, off, rfl, hr⟩ := HC.out i hlt
      have hr1 : wr.rangeAt b (off + i * 2) (memE l[i]) := fun j u hu => cell_below HB.out (hr j u hu)
      have HS := Lib.hid (fndF_cons (P := P) hlt)
      obtain ⟨m, hm⟩ : ∃ m, m = l[i] := ⟨_, rfl⟩
      rw [← hm] at hr1 HS
      have HR := Lib.hid hr1
      clear hr hr1 hm
      have HB1 := Lib.hid (HB.out.alloc hsz (.cells #[.int .i64 m.1, .int .i64 m.2] 128))
      by_cases hP : P m = true
      · have HS2 : Hid (fnd P l = i) := Lib.hid (by rw [HFD.out, HS.out, if_pos hP])
        go_wp2_with (refine wpList_load_mid rfl 128 (.tmp 12) rfl b (off + i * 2) rfl (memE m) _ HR.out Tryz.underlying128 rfl (by kernel_rfl) ?_; unfold memE)
        refine (HCC.out m _ HB1.out).mono ?_
        rintro e w2 ⟨rfl, hb⟩
        have HB2 := Lib.hid (HB1.out.trans (hb.mono HB1.out.size))
        clear hb
        rw [hP]
        go_wp2
        go_ret
        exact ⟨ret_int HS2.out.symm, HB2.out⟩
      · have hP2 : P m = false := by simpa using hP
        have HS2 : Hid (fnd P l = fndF P (l.drop (i + 1)) (i + 1)) := Lib.hid (by rw [HFD.out, HS.out, if_neg hP])
        clear hP
        go_wp2_with (refine wpList_load_mid rfl 128 (.tmp 12) rfl b (off + i * 2) rfl (memE m) _ HR.out Tryz.underlying128 rfl (by kernel_rfl) ?_; unfold memE)
        refine (HCC.out m _ HB1.out).mono ?_
        rintro e w2 ⟨rfl, hb⟩
        have HB2 := Lib.hid (HB1.out.trans (hb.mono HB1.out.size))
        clear hb
        rw [hP2]
        go_wp2
        go_roundg (gk - 1)
        case rel => exact ⟨i + 1, by go_num, by omega, by omega, HS2.out, HB2.out⟩
        case measure => omega
    · have HS2 : Hid (fnd P l = -1) := Lib.hid (by rw [HFD.out, fndF_end (by omega)])
      go_wp2
      go_ret
      exact ⟨ret_int HS2.out.symm, HB.out⟩

set_option maxRecDepth 100000 in
set_option maxHeartbeats 1600000 in
theorem hasId (b : Nat) (m o : MemT) (w : World) (h0 : w.cell? ⟨b, 0, none⟩ = some (.int .i64 m.1)) (h1 : w.cell? ⟨b, 1, none⟩ = some (.int .i64 m.2)) :
    Calls Tryz.prog 116 #[memV o, .pointer (some ⟨b, 0, none⟩)] w fun e w' => e = .returned (.bool (o.1 == m.1)) ∧ Below w.heap.size w w' := by
  have hbs : b < w.heap.size := World.block_lt_of_cell? w _ h0
  unfold memV
  go_enter Tryz.func116, Tryz.ntmps116
  go_wp2
  go_ret
  exact ⟨rfl, (Below.refl _ _).alloc (Nat.le_refl _) _⟩
end Go.Proofs.YtcbagajjgbfgdaaGreat

/- Package conf and the document's own: places, who stands ahead and behind. Conditions: none. -/
namespace Go.Proofs.YtcbagajjgbfgdaaGreat
open Go.RowKit Go.PlainAid

def HA (n : Nat) (c : ConfT) (m : MemT) (w' : World) : Prop := w'.cell? ⟨n, 0, none⟩ = some (.int .i64 c.ep) ∧ w'.cell? ⟨n, 1, none⟩ = some c.mv ∧ w'.cell? ⟨n, 2, none⟩ = some (.int .u64 c.fl) ∧ w'.cell? ⟨n + 1, 0, none⟩ = some (.int .i64 m.1) ∧ w'.cell? ⟨n + 1, 1, none⟩ = some (.int .i64 m.2)
theorem HA.step {n : Nat} {c : ConfT} {m : MemT} {w1 w2 : World} (h : w1.cell? ⟨n, 0, none⟩ = some (.int .i64 c.ep) ∧ w1.cell? ⟨n, 1, none⟩ = some c.mv ∧ w1.cell? ⟨n, 2, none⟩ = some (.int .u64 c.fl) ∧ w1.cell? ⟨n + 1, 0, none⟩ = some (.int .i64 m.1) ∧ w1.cell? ⟨n + 1, 1, none⟩ = some (.int .i64 m.2)) (hb : Below w1.heap.size w1 w2) : HA n c m w2 :=
  ⟨cell_below hb h.1, cell_below hb h.2.1, cell_below hb h.2.2.1, cell_below hb h.2.2.2.1, cell_below hb h.2.2.2.2⟩
end Go.Proofs.YtcbagajjgbfgdaaGreat

/- Package conf and the document's own: what is wrong with a configuration. Conditions: none. -/
namespace Go.Proofs.YtcbagajjgbfgdaaGreat
open Go.RowKit Go.PlainAid

def badId (m : MemT) : Prop := m.1 < 0 ∨ 4 ≤ m.1
def badSer (m : MemT) : Prop := m.2 < 1 ∨ 1073741824 < m.2
instance (m : MemT) : Decidable (badId m) := by unfold badId; infer_instance
instance (m : MemT) : Decidable (badSer m) := by unfold badSer; infer_instance
def chkM : List MemT → List MemT → Int
  | _, [] => 0
  | pre, m :: r => if badId m then 1 else if badSer m then 5 else if 0 ≤ fnd (fun o => o.1 == m.1) pre then 18 else chkM (pre ++ [m]) r
def chkC (ep : Int) (ms : List MemT) : Int := if ep < 1 ∨ 1073741824 < ep then 5 else if ms.length = 0 then 7 else if 4 < ms.length then 6 else chkM [] ms
theorem takeS {α : Type} {l : List α} {i : Nat} (h : i < l.length) : l.take (i + 1) = l.take i ++ [l[i]] := by
  rw [List.take_add_one, List.getElem?_eq_getElem h]; rfl
theorem chkM_at {ms : List MemT} {i : Nat} (h : i < ms.length) : chkM (ms.take i) (ms.drop i) = if badId ms[i] then 1 else if badSer ms[i] then 5 else if 0 ≤ fnd (fun o => o.1 == ms[i].1) (ms.take i) then 18 else chkM (ms.take (i + 1)) (ms.drop (i + 1)) := by
  rw [List.drop_eq_getElem_cons h, takeS h]; rfl
theorem chkM_end {ms : List MemT} {i : Nat} (h : ms.length ≤ i) : chkM (ms.take i) (ms.drop i) = 0 := by
  rw [List.drop_eq_nil_of_le h]; rfl
theorem SliceOf.takeN {α : Type} {enc : α → List Value} {sz : Nat} {w : World} {ao : Option Addr} {cap : Nat} {l : List α} (h : SliceOf enc sz w (.slice ao l.length cap) l) (i : Nat) (hi : i ≤ l.length) : SliceOf enc sz w (.slice ao i cap) (l.take i) := by
  obtain ⟨ao', cap', hv, h1, h2, h3, h4⟩ := h
  injection hv with e1 e2 e3
  subst e1 e3
  have hl : (l.take i).length = i := by rw [List.length_take]; omega
  refine ⟨ao, cap, by rw [hl], by omega, h2, fun e => ⟨by have := (h3 e).1; omega, (h3 e).2⟩, fun j hj => ?_⟩
  obtain ⟨b, off, e, hr⟩ := h4 j (by omega)
  refine ⟨b, off, e, ?_⟩
  rw [List.getElem_take]; exact hr
set_option maxRecDepth 100000 in
set_option maxHeartbeats 3200000 in
theorem check_any (c : ConfT) (w : World) (h : ConfOk w c) :
    Calls Tryz.prog 71 #[confV c] w fun e w' => e = .returned (.int .i64 (chkC c.ep c.ms)) ∧ Below w.heap.size w w' := by
  have hmf : ∀ (fn : Fn) (first cap : Array Value) (w : World), (Instr.makeFunc fn first cap).run Tryz.prog w = .ok (.func fn first cap) w := fun _ _ _ _ => rfl
  obtain ⟨ep, mv, ms, fl⟩ := c
  have hms := h.ms
  obtain ⟨ao, cap, hmv, hcap, hcm, _, hcell⟩ := h.ms
  simp only at hmv hcap hcell hms ⊢
  subst hmv
  unfold confV
  obtain ⟨W, hW⟩ : ∃ W, W = (w.alloc (.cells #[.int .i64 ep, .slice ao ms.length cap, .int .u64 fl] 26)) := ⟨_, rfl⟩
  have hb1 : Below w.heap.size w W := by rw [hW]; exact (Below.refl _ _).alloc (Nat.le_refl _) _
  have q0 : W.cell? ⟨w.heap.size, 0, none⟩ = some (.int .i64 ep) := by rw [hW]; simp
  have q1 : W.cell? ⟨w.heap.size, 1, none⟩ = some (.slice ao ms.length cap) := by rw [hW]; simp
  have Q1 := Lib.hid q1
  have HB := Lib.hid hb1; have HW := Lib.hid hW; have HC := Lib.hid hcell; have HMS := Lib.hid hms
  clear h hb1 hW hcell hms
  by_cases he : ep < 1 ∨ 1073741824 < ep
  · have HZ : Hid (chkC ep ms = 5) := Lib.hid (by unfold chkC; rw [if_pos he])
    rcases (show ep < 1 ∨ (1 ≤ ep ∧ 1073741824 < ep) by omega) with h1 | ⟨h1, h2⟩
    all_goals
      clear he
      go_enter Tryz.func71, Tryz.ntmps71
      go_wp2_with fail
      go_ret
      exact ⟨ret_int HZ.out.symm, by have := HB.out; rw [HW.out] at this; exact this⟩
  · have h1 : 1 ≤ ep := by omega
    have h2 : ep ≤ 1073741824 := by omega
    by_cases hl0 : ms.length = 0
    · have HZ : Hid (chkC ep ms = 7) := Lib.hid (by unfold chkC; rw [if_neg he, if_pos hl0])
      have hl1 : ((ms.length : Int) == 0) = true := by simp [hl0]
      clear he hl0
      go_enter Tryz.func71, Tryz.ntmps71
      go_wp2_with fail
      go_ret
      exact ⟨ret_int HZ.out.symm, by have := HB.out; rw [HW.out] at this; exact this⟩
    · have hl1 : ((ms.length : Int) == 0) = false := beq_eq_false_iff_ne.2 (by omega)
      by_cases hl4 : 4 < ms.length
      · have HZ : Hid (chkC ep ms = 6) := Lib.hid (by unfold chkC; rw [if_neg he, if_neg hl0, if_pos hl4])
        clear he hl0
        go_enter Tryz.func71, Tryz.ntmps71
        go_wp2_with fail
        go_ret
        exact ⟨ret_int HZ.out.symm, by have := HB.out; rw [HW.out] at this; exact this⟩
      · have HZ : Hid (chkC ep ms = chkM (ms.take 0) (ms.drop 0)) := Lib.hid (by unfold chkC; rw [if_neg he, if_neg hl0, if_neg hl4]; rfl)
        clear he hl0
        go_enter Tryz.func71, Tryz.ntmps71
        go_wp2_with fail
        rw [← HW.out]
        go_loopg [25] (ms.length + 1) (fun g s25 wr => ∃ i : Nat, s25 = .int .i64 i ∧ i ≤ ms.length ∧ ms.length + 1 ≤ i + g ∧ chkC ep ms = chkM (ms.take i) (ms.drop i) ∧ Below W.heap.size W wr)
        case atStart => exact ⟨0, rfl, by omega, by omega, HZ.out, Below.refl _ _⟩
        case round =>
          clear HZ
          obtain ⟨i, rfl, hi, hg, hf, hwr⟩ := hrel
          have HF := Lib.hid hf; have HWR := Lib.hid hwr
          have hbw : Below w.heap.size w wr := HB.out.trans (hwr.mono HB.out.size)
          have HBW := Lib.hid hbw
          have q1 := cell_below hwr Q1.out
          have hsz := hbw.size
          have hszW : w.heap.size < wr.heap.size := World.block_lt_of_cell? wr _ q1
          clear hf hwr hbw
          by_cases hlt : i < ms.length
          · obtain ⟨b, off, rfl, hr⟩ := HC.out i hlt
            have hr1 : wr.rangeAt b (off + i * 2) (memE ms[i]) := fun j u hu => cell_below HBW.out (hr j u hu)
            have HS := Lib.hid (chkM_at hlt)
            obtain ⟨m, hm⟩ : ∃ m, m = ms[i] := ⟨_, rfl⟩
            rw [← hm] at hr1 HS
            have HR := Lib.hid hr1
            obtain ⟨W2, hW2⟩ : ∃ W2, W2 = wr.alloc (.cells #[.int .i64 m.1, .int .i64 m.2] 128) := ⟨_, rfl⟩
            have hb2 : Below wr.heap.size wr W2 := by rw [hW2]; exact (Below.refl _ _).alloc (Nat.le_refl _) _
            have c0 : W2.cell? ⟨wr.heap.size, 0, none⟩ = some (.int .i64 m.1) := by rw [hW2]; simp
            have c1 : W2.cell? ⟨wr.heap.size, 1, none⟩ = some (.int .i64 m.2) := by rw [hW2]; simp
            have C0 := Lib.hid c0; have C1 := Lib.hid c1
            have HB2 := Lib.hid (HBW.out.trans (hb2.mono hsz))
            have HBW2 := Lib.hid (HWR.out.trans (hb2.mono HWR.out.size))
            have HT := Lib.hid ((HMS.out.takeN i hi).below HB2.out)
            have HW2 := Lib.hid hW2
            clear hr hr1 hm hW2 hb2 c0 c1
            by_cases hbi : badId m
            · have HZ : Hid (chkC ep ms = 1) := Lib.hid (by rw [HF.out, HS.out, if_pos hbi])
              unfold badId at hbi
              rcases (show m.1 < 0 ∨ (0 ≤ m.1 ∧ 4 ≤ m.1) by omega) with k1 | ⟨k1, k2⟩
              all_goals
                clear hbi
                go_wp2_with (refine wpList_load_mid rfl 128 (.tmp 28) rfl b (off + i * 2) rfl (memE m) _ HR.out Tryz.underlying128 rfl (by kernel_rfl) ?_; unfold memE)
                go_ret
                exact ⟨ret_int HZ.out.symm, by have := HB2.out; rw [HW2.out] at this; exact this⟩
            · by_cases hbs : badSer m
              · have HZ : Hid (chkC ep ms = 5) := Lib.hid (by rw [HF.out, HS.out, if_neg hbi, if_pos hbs])
                unfold badId at hbi
                unfold badSer at hbs
                have k1 : 0 ≤ m.1 := by omega
                have k2 : m.1 < 4 := by omega
                rcases (show m.2 < 1 ∨ (1 ≤ m.2 ∧ 1073741824 < m.2) by omega) with k3 | ⟨k3, k4⟩
                all_goals
                  clear hbi hbs
                  go_wp2_with (refine wpList_load_mid rfl 128 (.tmp 28) rfl b (off + i * 2) rfl (memE m) _ HR.out Tryz.underlying128 rfl (by kernel_rfl) ?_; unfold memE)
                  go_ret
                  exact ⟨ret_int HZ.out.symm, by have := HB2.out; rw [HW2.out] at this; exact this⟩
              · obtain ⟨r, hr⟩ : ∃ r, r = fnd (fun o => o.1 == m.1) (ms.take i) := ⟨_, rfl⟩
                by_cases h0 : 0 ≤ r
                · have HZ : Hid (chkC ep ms = 18) := Lib.hid (by rw [HF.out, HS.out, if_neg hbi, if_neg hbs, if_pos (by omega)])
                  unfold badId at hbi
                  unfold badSer at hbs
                  have k1 : 0 ≤ m.1 := by omega
                  have k2 : m.1 < 4 := by omega
                  have k3 : 1 ≤ m.2 := by omega
                  have k4 : m.2 ≤ 1073741824 := by omega
                  have HRr := Lib.hid hr
                  clear hbi hbs hr
                  go_wp2_with (refine wpList_load_mid rfl 128 (.tmp 28) rfl b (off + i * 2) rfl (memE m) _ HR.out Tryz.underlying128 rfl (by kernel_rfl) ?_; unfold memE)
                  rw [← HW2.out]
                  refine (first_any 116 (.pointer (some ⟨wr.heap.size, 0, none⟩)) (fun o => o.1 == m.1) _ (ms.take i) _ HT.out (fun _ _ => rfl) (fun o u hb => hasId _ m o u (cell_below hb C0.out) (cell_below hb C1.out))).mono ?_
                  rintro e w3 ⟨rfl, hb⟩
                  rw [← HRr.out]
                  have HB3 := Lib.hid (HB2.out.trans (hb.mono HB2.out.size))
                  clear hb
                  go_wp2
                  go_ret
                  exact ⟨ret_int HZ.out.symm, HB3.out⟩
                · have HZ : Hid (chkC ep ms = chkM (ms.take (i + 1)) (ms.drop (i + 1))) := Lib.hid (by rw [HF.out, HS.out, if_neg hbi, if_neg hbs, if_neg (by omega)])
                  unfold badId at hbi
                  unfold badSer at hbs
                  have k1 : 0 ≤ m.1 := by omega
                  have k2 : m.1 < 4 := by omega
                  have k3 : 1 ≤ m.2 := by omega
                  have k4 : m.2 ≤ 1073741824 := by omega
                  have HRr := Lib.hid hr
                  clear hbi hbs hr
                  go_wp2_with (refine wpList_load_mid rfl 128 (.tmp 28) rfl b (off + i * 2) rfl (memE m) _ HR.out Tryz.underlying128 rfl (by kernel_rfl) ?_; unfold memE)
                  rw [← HW2.out]
                  refine (first_any 116 (.pointer (some ⟨wr.heap.size, 0, none⟩)) (fun o => o.1 == m.1) _ (ms.take i) _ HT.out (fun _ _ => rfl) (fun o u hb => hasId _ m o u (cell_below hb C0.out) (cell_below hb C1.out))).mono ?_
                  rintro e w3 ⟨rfl, hb⟩
                  rw [← HRr.out]
                  have HB3 := Lib.hid (HBW2.out.trans (hb.mono HBW2.out.size))
                  clear hb
                  go_wp2
                  go_roundg (gk - 1)
                  case rel => exact ⟨i + 1, by go_num, by omega, by omega, HZ.out, HB3.out⟩
                  case measure => omega
          · have HZ : Hid (chkC ep ms = 0) := Lib.hid (by rw [HF.out, chkM_end (by omega)])
            go_wp2
            go_ret
            exact ⟨ret_int HZ.out.symm, HBW.out⟩
end Go.Proofs.YtcbagajjgbfgdaaGreat

/- The document's own conf: what is wrong with a configuration. Conditions: none. -/
namespace Go.Proofs.YtcbagajjgbfgdaaGreat
open Go.RowKit Go.PlainAid

set_option maxRecDepth 100000 in
set_option maxHeartbeats 3200000 in
theorem rcheck_any (c : ConfT) (w : World) (h : ConfOk w c) :
    Calls Tryz.prog 79 #[confV c] w fun e w' => e = .returned (.int .i64 (chkC c.ep c.ms)) ∧ Below w.heap.size w w' := by
  have hmf : ∀ (fn : Fn) (first cap : Array Value) (w : World), (Instr.makeFunc fn first cap).run Tryz.prog w = .ok (.func fn first cap) w := fun _ _ _ _ => rfl
  obtain ⟨ep, mv, ms, fl⟩ := c
  have hms := h.ms
  obtain ⟨ao, cap, hmv, hcap, hcm, _, hcell⟩ := h.ms
  simp only at hmv hcap hcell hms ⊢
  subst hmv
  unfold confV
  obtain ⟨W, hW⟩ : ∃ W, W = (w.alloc (.cells #[.int .i64 ep, .slice ao ms.length cap, .int .u64 fl] 26)) := ⟨_, rfl⟩
  have hb1 : Below w.heap.size w W := by rw [hW]; exact (Below.refl _ _).alloc (Nat.le_refl _) _
  have q0 : W.cell? ⟨w.heap.size, 0, none⟩ = some (.int .i64 ep) := by rw [hW]; simp
  have q1 : W.cell? ⟨w.heap.size, 1, none⟩ = some (.slice ao ms.length cap) := by rw [hW]; simp
  have Q1 := Lib.hid q1
  have HB := Lib.hid hb1; have HW := Lib.hid hW; have HC := Lib.hid hcell; have HMS := Lib.hid hms
  clear h hb1 hW hcell hms
  by_cases he : ep < 1 ∨ 1073741824 < ep
  · have HZ : Hid (chkC ep ms = 5) := Lib.hid (by unfold chkC; rw [if_pos he])
    rcases (show ep < 1 ∨ (1 ≤ ep ∧ 1073741824 < ep) by omega) with h1 | ⟨h1, h2⟩
    all_goals
      clear he
      go_enter Tryz.func79, Tryz.ntmps79
      go_wp2_with fail
      go_ret
      exact ⟨ret_int HZ.out.symm, by have := HB.out; rw [HW.out] at this; exact this⟩
  · have h1 : 1 ≤ ep := by omega
    have h2 : ep ≤ 1073741824 := by omega
    by_cases hl0 : ms.length = 0
    · have HZ : Hid (chkC ep ms = 7) := Lib.hid (by unfold chkC; rw [if_neg he, if_pos hl0])
      have hl1 : ((ms.length : Int) == 0) = true := by simp [hl0]
      clear he hl0
      go_enter Tryz.func79, Tryz.ntmps79
      go_wp2_with fail
      go_ret
      exact ⟨ret_int HZ.out.symm, by have := HB.out; rw [HW.out] at this; exact this⟩
    · have hl1 : ((ms.length : Int) == 0) = false := beq_eq_false_iff_ne.2 (by omega)
      by_cases hl4 : 4 < ms.length
      · have HZ : Hid (chkC ep ms = 6) := Lib.hid (by unfold chkC; rw [if_neg he, if_neg hl0, if_pos hl4])
        clear he hl0
        go_enter Tryz.func79, Tryz.ntmps79
        go_wp2_with fail
        go_ret
        exact ⟨ret_int HZ.out.symm, by have := HB.out; rw [HW.out] at this; exact this⟩
      · have HZ : Hid (chkC ep ms = chkM (ms.take 0) (ms.drop 0)) := Lib.hid (by unfold chkC; rw [if_neg he, if_neg hl0, if_neg hl4]; rfl)
        clear he hl0
        go_enter Tryz.func79, Tryz.ntmps79
        go_wp2_with fail
        rw [← HW.out]
        go_loopg [3] (ms.length + 1) (fun g s3 wr => ∃ i : Nat, s3 = .int .i64 i ∧ i ≤ ms.length ∧ ms.length + 1 ≤ i + g ∧ chkC ep ms = chkM (ms.take i) (ms.drop i) ∧ Below W.heap.size W wr)
        case atStart => exact ⟨0, rfl, by omega, by omega, HZ.out, Below.refl _ _⟩
        case round =>
          clear HZ
          obtain ⟨i, rfl, hi, hg, hf, hwr⟩ := hrel
          have HF := Lib.hid hf; have HWR := Lib.hid hwr
          have hbw : Below w.heap.size w wr := HB.out.trans (hwr.mono HB.out.size)
          have HBW := Lib.hid hbw
          have q1 := cell_below hwr Q1.out
          have hsz := hbw.size
          have hszW : w.heap.size < wr.heap.size := World.block_lt_of_cell? wr _ q1
          clear hf hwr hbw
          by_cases hlt : i < ms.length
          · obtain ⟨b, off, rfl, hr⟩ := HC.out i hlt
            have hr1 : wr.rangeAt b (off + i * 2) (memE ms[i]) := fun j u hu => cell_below HBW.out (hr j u hu)
            have HS := Lib.hid (chkM_at hlt)
            obtain ⟨m, hm⟩ : ∃ m, m = ms[i] := ⟨_, rfl⟩
            rw [← hm] at hr1 HS
            have HR := Lib.hid hr1; have HR0 := Lib.hid hr1
            obtain ⟨W2, hW2⟩ : ∃ W2, W2 = wr.alloc (.cells #[.int .i64 m.1, .int .i64 m.2] 128) := ⟨_, rfl⟩
            have hb2 : Below wr.heap.size wr W2 := by rw [hW2]; exact (Below.refl _ _).alloc (Nat.le_refl _) _
            have c0 : W2.cell? ⟨wr.heap.size, 0, none⟩ = some (.int .i64 m.1) := by rw [hW2]; simp
            have c1 : W2.cell? ⟨wr.heap.size, 1, none⟩ = some (.int .i64 m.2) := by rw [hW2]; simp
            have C0 := Lib.hid c0; have C1 := Lib.hid c1
            have HB2 := Lib.hid (HBW.out.trans (hb2.mono hsz))
            have HBW2 := Lib.hid (HWR.out.trans (hb2.mono HWR.out.size))
            have HT := Lib.hid ((HMS.out.takeN i hi).below HB2.out)
            have HW2 := Lib.hid hW2
            clear hr hr1 hm hW2 hb2 c0 c1
            by_cases hbi : badId m
            · have HZ : Hid (chkC ep ms = 1) := Lib.hid (by rw [HF.out, HS.out, if_pos hbi])
              unfold badId at hbi
              rcases (show m.1 < 0 ∨ (0 ≤ m.1 ∧ 4 ≤ m.1) by omega) with k1 | ⟨k1, k2⟩
              all_goals
                clear hbi
                go_wp2_with (refine wpList_load_mid rfl 128 (.tmp 32) rfl b (off + i * 2) rfl (memE m) _ HR.out Tryz.underlying128 rfl (by kernel_rfl) ?_; unfold memE)
                go_ret
                exact ⟨ret_int HZ.out.symm, by have := HB2.out; rw [HW2.out] at this; exact this⟩
            · by_cases hbs : badSer m
              · have HZ : Hid (chkC ep ms = 5) := Lib.hid (by rw [HF.out, HS.out, if_neg hbi, if_pos hbs])
                unfold badId at hbi
                unfold badSer at hbs
                have k1 : 0 ≤ m.1 := by omega
                have k2 : m.1 < 4 := by omega
                rcases (show m.2 < 1 ∨ (1 ≤ m.2 ∧ 1073741824 < m.2) by omega) with k3 | ⟨k3, k4⟩
                all_goals
                  clear hbi hbs
                  go_wp2_with (refine wpList_load_mid rfl 128 (.tmp 32) rfl b (off + i * 2) rfl (memE m) _ HR.out Tryz.underlying128 rfl (by kernel_rfl) ?_; unfold memE)
                  go_ret
                  exact ⟨ret_int HZ.out.symm, by have := HB2.out; rw [HW2.out] at this; exact this⟩
              · have HZ2 : Hid (0 ≤ fnd (fun o => o.1 == m.1) (ms.take i) → chkC ep ms = 18) := Lib.hid (fun h => by rw [HF.out, HS.out, if_neg hbi, if_neg hbs, if_pos h])
                have HZ3 : Hid (¬ 0 ≤ fnd (fun o => o.1 == m.1) (ms.take i) → chkC ep ms = chkM (ms.take (i + 1)) (ms.drop (i + 1))) := Lib.hid (fun h => by rw [HF.out, HS.out, if_neg hbi, if_neg hbs, if_neg h])
                unfold badId at hbi
                unfold badSer at hbs
                have k1 : 0 ≤ m.1 := by omega
                have k2 : m.1 < 4 := by omega
                have k3 : 1 ≤ m.2 := by omega
                have k4 : m.2 ≤ 1073741824 := by omega
                have hzW2 : W2.heap.size = wr.heap.size + 1 := by rw [HW2.out]; simp
                have HQ2 := Lib.hid (cell_below HBW2.out Q1.out)
                clear hbi hbs HF HS HR hzW2
                obtain ⟨bm, hbm⟩ : ∃ bm, bm = wr.heap.size := ⟨_, rfl⟩
                go_wp2_with (refine wpList_load_mid rfl 128 (.tmp 32) rfl b (off + i * 2) rfl (memE m) _ (fun j u hu => HR0.out j u hu) Tryz.underlying128 rfl (by kernel_rfl) ?_; unfold memE)
                rw [← HW2.out]
                rw [← hbm] at C0 C1 ⊢
                obtain ⟨gO, hgO⟩ : ∃ gO, gO = gk := ⟨_, rfl⟩
                rw [← hgO] at hg
                have HGO := Lib.hid hgO
                obtain ⟨wo, hwo⟩ : ∃ wo : World, wo = wr := ⟨_, rfl⟩
                clear hbm hszW hsz hgO q1 hwo
                go_loopg [5] (i + 1) (fun g s5 wr => ∃ k : Nat, s5 = .int .i64 k ∧ k ≤ i ∧ i + 1 ≤ k + g ∧ fnd (fun o => o.1 == m.1) (ms.take i) = fndF (fun o => o.1 == m.1) ((ms.take i).drop k) k ∧ Below W2.heap.size W2 wr)
                case atStart => exact ⟨0, rfl, by omega, by omega, rfl, Below.refl _ _⟩
                case round =>
                  obtain ⟨k, rfl, hk, hg2, hf2, hwq⟩ := hrel
                  have hbq : Below w.heap.size w wr := HB2.out.trans (hwq.mono HB2.out.size)
                  have hbQ : Below W.heap.size W wr := HBW2.out.trans (hwq.mono HBW2.out.size)
                  have q1 := cell_below hwq HQ2.out
                  have e0 := cell_below hwq C0.out
                  have HBQ := Lib.hid hbq; have HBQW := Lib.hid hbQ; have HF2 := Lib.hid hf2; have HWQ := Lib.hid hwq
                  clear hf2 hwq hbQ
                  by_cases hlt2 : k < i
                  · obtain ⟨b2, off2, he2, hr2⟩ := HC.out k (by omega)
                    have hkl : k < (ms.take i).length := by rw [List.length_take]; omega
                    have HS2 := Lib.hid (fndF_cons (P := fun o => o.1 == m.1) hkl)
                    have hge : (ms.take i)[k] = ms[k] := by rw [List.getElem_take]
                    rw [hge] at HS2
                    injection he2 with he3
                    injection he3 with h31 h32 h33
                    subst h31 h32
                    have d0 := cell_below hbq (hr2 0 _ rfl)
                    rw [Nat.add_zero] at d0
                    obtain ⟨o, ho⟩ : ∃ o, o = ms[k] := ⟨_, rfl⟩
                    rw [← ho] at d0 HS2
                    have hkm : k < ms.length := by omega
                    clear hr2 ho hge hbq hkl
                    by_cases hP : (o.1 == m.1) = true
                    · have HS3 : Hid (chkC ep ms = 18) := Lib.hid (HZ2.out (by rw [HF2.out, HS2.out]; simp only [hP, if_true]; omega))
                      go_wp2_with fail
                      go_quiet (fail)
                      go_wp2
                      go_ret
                      exact ⟨ret_int HS3.out.symm, below_draws HBQ.out _⟩
                    · have hP2 : (o.1 == m.1) = false := by simpa using hP
                      have HS3 : Hid (fnd (fun o => o.1 == m.1) (ms.take i) = fndF (fun o => o.1 == m.1) ((ms.take i).drop (k + 1)) (k + 1)) := Lib.hid (by rw [HF2.out, HS2.out]; simp only [hP2]; rfl)
                      clear hP
                      go_wp2_with fail
                      go_quiet (fail)
                      go_wp2
                      go_roundg (gk - 1)
                      case rel => exact ⟨k + 1, by go_num, by omega, by omega, HS3.out, below_draws HWQ.out _⟩
                      case measure => omega
                  · have HS3 : Hid (fnd (fun o => o.1 == m.1) (ms.take i) = -1) := Lib.hid (by rw [HF2.out, fndF_end (by rw [List.length_take]; omega)])
                    have HZ4 := Lib.hid (HZ3.out (by rw [HS3.out]; omega))
                    clear hbq
                    go_wp2
                    go_roundg (gO - 1)
                    case rel => exact ⟨i + 1, by go_num, by omega, by omega, HZ4.out, HBQW.out⟩
                    case measure => have := HGO.out; omega
          · have HZ : Hid (chkC ep ms = 0) := Lib.hid (by rw [HF.out, chkM_end (by omega)])
            go_wp2
            go_ret
            exact ⟨ret_int HZ.out.symm, HBW.out⟩
end Go.Proofs.YtcbagajjgbfgdaaGreat

/- Package conf and the document's own: are two configurations the same? Conditions: none. -/
namespace Go.Proofs.YtcbagajjgbfgdaaGreat
open Go.RowKit Go.PlainAid

def sameC (a b : ConfT) : Bool := decide (a.ep = b.ep ∧ a.fl = b.fl ∧ a.ms = b.ms)
theorem ne_of_at {l k : List MemT} {i : Nat} (h1 : i < l.length) (h2 : i < k.length) (h : l[i] ≠ k[i]) : l ≠ k := by
  intro e; subst e; exact h rfl
theorem eq_of_takes {l k : List MemT} (hl : l.length = k.length) (h : l.take l.length = k.take l.length) : l = k := by
  rw [List.take_length, hl, List.take_length] at h; exact h
set_option maxRecDepth 100000 in
set_option maxHeartbeats 1600000 in
theorem equal_any (v1 v2 : Value) (l k : List MemT) (w : World) (hs1 : SliceOf memE 2 w v1 l) (hs2 : SliceOf memE 2 w v2 k) :
    Calls Tryz.prog 122 #[v1, v2] w fun e w' => e = .returned (.bool (decide (l = k))) ∧ Below w.heap.size w w' := by
  obtain ⟨ao1, cap1, rfl, hcap1, hcm1, _, hcell1⟩ := hs1
  obtain ⟨ao2, cap2, rfl, hcap2, hcm2, _, hcell2⟩ := hs2
  have HC1 := Lib.hid hcell1; have HC2 := Lib.hid hcell2
  have heq := fun o m => neq_mem o m
  unfold memV at heq
  have HEq := Lib.hid heq
  clear hcell1 hcell2 heq
  by_cases hl : l.length = k.length
  · have hlt : ((l.length : Int) == (k.length : Int)) = true := by simp [hl]
    have hlt2 : ((l.length : Int) != (k.length : Int)) = false := by simp [hl]
    have HL := Lib.hid hl
    have hle : l.length ≤ k.length := by omega
    have hge : k.length ≤ l.length := by omega
    clear hl
    go_enter Tryz.func122, Tryz.ntmps122
    go_wp2
    go_loopg [13] (l.length + 1) (fun g s13 wr => ∃ i : Nat, s13 = .int .i64 i ∧ i ≤ l.length ∧ l.length + 1 ≤ i + g ∧ l.take i = k.take i ∧ Below w.heap.size w wr)
    case atStart => exact ⟨0, rfl, by omega, by omega, rfl, Below.refl _ _⟩
    case round =>
      obtain ⟨i, rfl, hi, hg, ht, hbel⟩ := hrel
      have HT := Lib.hid ht; have HB := Lib.hid hbel
      clear ht hbel
      by_cases hlt : i < l.length
      · have hlt2 : i < k.length := by omega
        obtain ⟨b1, off1, rfl, hr1⟩ := HC1.out i hlt
        obtain ⟨b2, off2, rfl, hr2⟩ := HC2.out i hlt2
        have d0 := cell_below HB.out (hr1 0 _ rfl)
        have d1 := cell_below HB.out (hr1 1 _ rfl)
        have e0 := cell_below HB.out (hr2 0 _ rfl)
        have e1 := cell_below HB.out (hr2 1 _ rfl)
        rw [Nat.add_zero] at d0 e0
        obtain ⟨o, ho⟩ : ∃ o, o = l[i] := ⟨_, rfl⟩
        obtain ⟨m, hm⟩ : ∃ m, m = k[i] := ⟨_, rfl⟩
        have HO := Lib.hid ho; have HM := Lib.hid hm
        rw [← ho] at d0 d1
        rw [← hm] at e0 e1
        have he := HEq.out o m
        clear hr1 hr2 ho hm
        by_cases hP : o = m
        · have HT2 : Hid (l.take (i + 1) = k.take (i + 1)) := Lib.hid (by rw [takeS hlt, takeS hlt2, HT.out, ← HO.out, ← HM.out, hP])
          rw [show (!(o == m)) = false by simp [hP]] at he
          clear hP
          go_wp2_with fail
          go_quiet (fail)
          go_wp2
          go_roundg (gk - 1)
          case rel => exact ⟨i + 1, by go_num, by omega, by omega, HT2.out, below_draws HB.out _⟩
          case measure => omega
        · have HF : Hid (decide (l = k) = false) := Lib.hid (decide_eq_false (ne_of_at hlt hlt2 (by rw [← HO.out, ← HM.out]; exact hP)))
          rw [show (!(o == m)) = true by simp [hP]] at he
          clear hP
          go_wp2_with fail
          go_quiet (fail)
          go_wp2
          go_ret
          exact ⟨ret_bool HF.out.symm, below_draws HB.out _⟩
      · have HF : Hid (decide (l = k) = true) := Lib.hid (decide_eq_true (eq_of_takes HL.out (by have := HT.out; rw [show i = l.length by omega] at this; exact this)))
        go_wp2
        go_ret
        exact ⟨ret_bool HF.out.symm, HB.out⟩
  · have HF : Hid (decide (l = k) = false) := Lib.hid (decide_eq_false (fun e => hl (by rw [e])))
    have hlt : ((l.length : Int) == (k.length : Int)) = false := beq_eq_false_iff_ne.2 (by omega)
    have hlt2 : ((l.length : Int) != (k.length : Int)) = true := by rw [bne, hlt]; rfl
    clear hl
    go_enter Tryz.func122, Tryz.ntmps122
    go_wp2
    go_ret
    exact ⟨ret_bool HF.out.symm, Below.refl _ _⟩
theorem two_confs (w : World) (a b : ConfT) : Below w.heap.size w ((w.alloc (.cells #[.int .i64 a.ep, a.mv, .int .u64 a.fl] 26)).alloc (.cells #[.int .i64 b.ep, b.mv, .int .u64 b.fl] 26)) :=
  ((Below.refl _ _).alloc (Nat.le_refl _) _).alloc (by simp) _
set_option maxRecDepth 100000 in
set_option maxHeartbeats 1600000 in
theorem same_any (a b : ConfT) (w : World) (ha : ConfOk w a) (hb : ConfOk w b) :
    Calls Tryz.prog 88 #[confV a, confV b] w fun e w' => e = .returned (.bool (sameC a b)) ∧ Below w.heap.size w w' := by
  have HB := Lib.hid (two_confs w a b)
  have HA1 := Lib.hid (ha.below HB.out); have HB1 := Lib.hid (hb.below HB.out)
  unfold confV
  by_cases h1 : a.ep = b.ep
  · have h1b : (a.ep == b.ep) = true := beq_iff_eq.2 h1
    by_cases h2 : a.fl = b.fl
    · have h2b : (a.fl == b.fl) = true := beq_iff_eq.2 h2
      have HF : Hid (sameC a b = decide (a.ms = b.ms)) := Lib.hid (by unfold sameC; simp [h1, h2])
      clear ha hb h1 h2
      go_enter Tryz.func88, Tryz.ntmps88
      go_wp2_with fail
      refine (equal_any a.mv b.mv a.ms b.ms _ HA1.out.ms HB1.out.ms).mono ?_
      rintro e w1 ⟨rfl, hb⟩
      have HB2 := Lib.hid (HB.out.trans (hb.mono HB.out.size)); clear hb
      go_wp2
      go_ret
      exact ⟨ret_bool HF.out.symm, HB2.out⟩
    · have h2b : (a.fl == b.fl) = false := beq_eq_false_iff_ne.2 h2
      have HF : Hid (sameC a b = false) := Lib.hid (by unfold sameC; exact decide_eq_false (fun h => h2 h.2.1))
      clear ha hb h1 h2
      go_enter Tryz.func88, Tryz.ntmps88
      go_wp2
      go_ret
      exact ⟨ret_bool HF.out.symm, HB.out⟩
  · have h1b : (a.ep == b.ep) = false := beq_eq_false_iff_ne.2 h1
    have HF : Hid (sameC a b = false) := Lib.hid (by unfold sameC; exact decide_eq_false (fun h => h1 h.1))
    clear ha hb h1
    go_enter Tryz.func88, Tryz.ntmps88
    go_wp2
    go_ret
    exact ⟨ret_bool HF.out.symm, HB.out⟩
set_option maxRecDepth 100000 in
set_option maxHeartbeats 3200000 in
theorem rsame_any (a b : ConfT) (w : World) (ha : ConfOk w a) (hb : ConfOk w b) :
    Calls Tryz.prog 30 #[confV a, confV b] w fun e w' => e = .returned (.bool (sameC a b)) ∧ Below w.heap.size w w' := by
  obtain ⟨W, hW⟩ : ∃ W, W = ((w.alloc (.cells #[.int .i64 a.ep, a.mv, .int .u64 a.fl] 26)).alloc (.cells #[.int .i64 b.ep, b.mv, .int .u64 b.fl] 26)) := ⟨_, rfl⟩
  have hb1 := two_confs w a b
  rw [← hW] at hb1
  have HB := Lib.hid hb1
  obtain ⟨aep, amv, l, afl⟩ := a
  obtain ⟨bep, bmv, k, bfl⟩ := b
  obtain ⟨ao1, cap1, hv1, hcap1, hcm1, _, hcell1⟩ := ha.ms
  obtain ⟨ao2, cap2, hv2, hcap2, hcm2, _, hcell2⟩ := hb.ms
  simp only at hv1 hcap1 hcell1 hv2 hcap2 hcell2 hW ⊢
  subst hv1 hv2
  have q1 : W.cell? ⟨w.heap.size, 1, none⟩ = some (.slice ao1 l.length cap1) := by rw [hW]; simp
  have q2 : W.cell? ⟨w.heap.size + 1, 1, none⟩ = some (.slice ao2 k.length cap2) := by rw [hW]; simp
  have Q1 := Lib.hid q1; have Q2 := Lib.hid q2; have HW := Lib.hid hW
  have HC1 := Lib.hid hcell1; have HC2 := Lib.hid hcell2
  have heq := fun o m => neq_mem o m
  unfold memV at heq
  have HEq := Lib.hid heq
  clear ha hb hb1 q1 q2 hcell1 hcell2 heq hW
  unfold confV
  have no : ∀ {x : Bool}, sameC ⟨aep, .slice ao1 l.length cap1, l, afl⟩ ⟨bep, .slice ao2 k.length cap2, k, bfl⟩ = x → True := fun _ => trivial
  by_cases h1 : aep = bep
  · by_cases h2 : afl = bfl
    · by_cases hl : l.length = k.length
      · have HF : Hid (sameC ⟨aep, .slice ao1 l.length cap1, l, afl⟩ ⟨bep, .slice ao2 k.length cap2, k, bfl⟩ = decide (l = k)) := Lib.hid (by unfold sameC; simp [h1, h2])
        have h1b : (aep != bep) = false := by simp [h1]
        have h2b : (afl != bfl) = false := by simp [h2]
        have hlb : ((l.length : Int) != (k.length : Int)) = false := by simp [hl]
        have HL := Lib.hid hl
        have hle : l.length ≤ k.length := by omega
        have hge : k.length ≤ l.length := by omega
        clear h1 h2 hl no
        go_enter Tryz.func30, Tryz.ntmps30
        go_wp2
        rw [← HW.out]
        go_loopg [5] (l.length + 1) (fun g s5 wr => ∃ i : Nat, s5 = .int .i64 i ∧ i ≤ l.length ∧ l.length + 1 ≤ i + g ∧ l.take i = k.take i ∧ Below W.heap.size W wr)
        case atStart => exact ⟨0, rfl, by omega, by omega, rfl, Below.refl _ _⟩
        case round =>
          obtain ⟨i, rfl, hi, hg, ht, hwr⟩ := hrel
          have HT := Lib.hid ht; have HWR := Lib.hid hwr
          have HBW := Lib.hid (HB.out.trans (hwr.mono HB.out.size))
          have q1 := cell_below hwr Q1.out
          have q2 := cell_below hwr Q2.out
          clear ht hwr
          by_cases hlt : i < l.length
          · have hlt2 : i < k.length := by omega
            obtain ⟨b1, off1, rfl, hr1⟩ := HC1.out i hlt
            obtain ⟨b2, off2, rfl, hr2⟩ := HC2.out i hlt2
            have d0 := cell_below HBW.out (hr1 0 _ rfl)
            have d1 := cell_below HBW.out (hr1 1 _ rfl)
            have e0 := cell_below HBW.out (hr2 0 _ rfl)
            have e1 := cell_below HBW.out (hr2 1 _ rfl)
            rw [Nat.add_zero] at d0 e0
            obtain ⟨o, ho⟩ : ∃ o, o = l[i] := ⟨_, rfl⟩
            obtain ⟨m, hm⟩ : ∃ m, m = k[i] := ⟨_, rfl⟩
            have HO := Lib.hid ho; have HM := Lib.hid hm
            rw [← ho] at d0 d1
            rw [← hm] at e0 e1
            have he := HEq.out o m
            clear hr1 hr2 ho hm
            by_cases hP : o = m
            · have HT2 : Hid (l.take (i + 1) = k.take (i + 1)) := Lib.hid (by rw [takeS hlt, takeS hlt2, HT.out, ← HO.out, ← HM.out, hP])
              rw [show (!(o == m)) = false by simp [hP]] at he
              clear hP
              go_wp2_with fail
              go_quiet (fail)
              go_wp2
              go_roundg (gk - 1)
              case rel => exact ⟨i + 1, by go_num, by omega, by omega, HT2.out, below_draws HWR.out _⟩
              case measure => omega
            · have HF2 : Hid (decide (l = k) = false) := Lib.hid (decide_eq_false (ne_of_at hlt hlt2 (by rw [← HO.out, ← HM.out]; exact hP)))
              rw [show (!(o == m)) = true by simp [hP]] at he
              clear hP
              go_wp2_with fail
              go_quiet (fail)
              go_wp2
              go_ret
              exact ⟨ret_bool (by rw [HF.out, HF2.out]), below_draws HBW.out _⟩
          · have HF2 : Hid (decide (l = k) = true) := Lib.hid (decide_eq_true (eq_of_takes HL.out (by have := HT.out; rw [show i = l.length by omega] at this; exact this)))
            go_wp2
            go_ret
            exact ⟨ret_bool (by rw [HF.out, HF2.out]), HBW.out⟩
      · have HF : Hid (sameC ⟨aep, .slice ao1 l.length cap1, l, afl⟩ ⟨bep, .slice ao2 k.length cap2, k, bfl⟩ = false) := Lib.hid (by unfold sameC; exact decide_eq_false (fun h => hl (congrArg List.length h.2.2)))
        have h1b : (aep != bep) = false := by simp [h1]
        have h2b : (afl != bfl) = false := by simp [h2]
        have hlb : ((l.length : Int) != (k.length : Int)) = true := by rw [bne, beq_eq_false_iff_ne.2 (show (l.length : Int) ≠ k.length by omega)]; rfl
        clear h1 h2 hl no
        go_enter Tryz.func30, Tryz.ntmps30
        go_wp2
        go_ret
        exact ⟨ret_bool HF.out.symm, by have := HB.out; rw [HW.out] at this; exact this⟩
    · have HF : Hid (sameC ⟨aep, .slice ao1 l.length cap1, l, afl⟩ ⟨bep, .slice ao2 k.length cap2, k, bfl⟩ = false) := Lib.hid (by unfold sameC; exact decide_eq_false (fun h => h2 h.2.1))
      have h1b : (aep != bep) = false := by simp [h1]
      have h2b : (afl != bfl) = true := by simp [h2]
      clear h1 h2 no
      go_enter Tryz.func30, Tryz.ntmps30
      go_wp2
      go_ret
      exact ⟨ret_bool HF.out.symm, by have := HB.out; rw [HW.out] at this; exact this⟩
  · have HF : Hid (sameC ⟨aep, .slice ao1 l.length cap1, l, afl⟩ ⟨bep, .slice ao2 k.length cap2, k, bfl⟩ = false) := Lib.hid (by unfold sameC; exact decide_eq_false (fun h => h1 h.1))
    have h1b : (aep != bep) = true := by simp [h1]
    clear h1 no
    go_enter Tryz.func30, Tryz.ntmps30
    go_wp2
    go_ret
    exact ⟨ret_bool HF.out.symm, by have := HB.out; rw [HW.out] at this; exact this⟩
end Go.Proofs.YtcbagajjgbfgdaaGreat

/- Package varnum: what Put, Len and the count of bytes answer for every number. Conditions: none. -/
namespace Go.Proofs.YtcbagajjgbfgdaaGreat
open Go.RowKit

def wd (n : Int) : Int :=
  if n < 256 then 1 else if n < 65536 then 2 else if n < 16777216 then 3 else if n < 4294967296 then 4
  else if n < 1099511627776 then 5 else if n < 281474976710656 then 6 else if n < 72057594037927936 then 7 else 8

theorem wd_step (m : Int) (h : 0 ≤ m) (h1 : m < 18446744073709551616) (h2 : m / 256 ≠ 0) : wd m = 1 + wd (m / 256) := by
  unfold wd; repeat' split
  all_goals omega
theorem wd_bd (m : Int) : 1 ≤ wd m ∧ wd m ≤ 8 := by unfold wd; repeat' split
                                                    all_goals omega
theorem wd_end (m : Int) (h2 : m / 256 = 0) : wd m = 1 := by
  unfold wd; rw [if_pos (by omega)]
def lenOf (n : Int) : Int := if n < 248 then 1 else 1 + wd n
theorem lenOf_small (n : Int) (h : n < 248) : lenOf n = 1 := if_pos h
theorem lenOf_big (n : Int) (h : ¬ n < 248) : lenOf n = 1 + wd n := if_neg h

/-- k bytes of n, the most significant one first. -/
def be : Nat → Nat → List UInt8
  | 0, _ => []
  | k + 1, n => be k (n / 256) ++ [UInt8.ofNat n]
theorem be_len (k n : Nat) : (be k n).length = k := by
  induction k generalizing n with
  | zero => rfl
  | succ k ih => simp [be, ih]
def putL (n : Int) : List UInt8 := if n < 248 then [UInt8.ofNat n.toNat] else UInt8.ofNat (247 + wd n).toNat :: be (wd n).toNat n.toNat
theorem putL_small (n : Int) (h : n < 248) : putL n = [UInt8.ofNat n.toNat] := if_pos h
theorem putL_big (n : Int) (h : ¬ n < 248) : putL n = UInt8.ofNat (247 + wd n).toNat :: be (wd n).toNat n.toNat := if_neg h


set_option maxRecDepth 100000 in
set_option maxHeartbeats 1600000 in
theorem width_any (n : Int) (w : World) (h0 : 0 ≤ n) (h1 : n < 18446744073709551616) :
    Calls Tryz.prog 136 #[.int .u64 n] w fun e w' => e = .returned (.int .i64 (wd n)) ∧ w = w' := by
  go_enter Tryz.func136, Tryz.ntmps136
  go_wp2; go_step3; go_wp2; go_step3; go_wp2
  go_loopg [0, 3] 10 (fun g s0 s3 wr => ∃ (m : Int) (k : Nat), s0 = .int .u64 m ∧ s3 = .int .i64 k ∧ 0 ≤ m ∧ m < 18446744073709551616 ∧ k + g ≤ 11 ∧ 11 ≤ k + g ∧ 1 ≤ g ∧ wd n + 1 = k + wd m ∧ w = wr)
  case atStart => exact ⟨n, 1, rfl, rfl, h0, h1, by omega, by omega, by omega, by omega, rfl⟩
  case round =>
    obtain ⟨m, k, rfl, rfl, hm0, hm1, hk, hk2, hg, hw, rfl⟩ := hrel
    have hk8 : k ≤ 10 := by omega
    have H := Lib.hid hw; have H1 := Lib.hid hm1; clear hw h1 hm1
    go_wp2
    · have hz : m / 256 = 0 := by simpa using ‹(m / 256 == 0) = true›
      rw [Exit.noGoto_ret]; go_ret
      have := H.out; have := wd_end m hz
      exact ⟨ret_int (by omega), rfl⟩
    · have hz : m / 256 ≠ 0 := by simpa using ‹(m / 256 == 0) = false›
      have := H.out; have := wd_step m hm0 H1.out hz; have := wd_bd (m/256); have := wd_bd n; have := H1.out
      go_roundg (gk - 1)
      case rel => exact ⟨m / 256, k + 1, rfl, by go_num, by omega, by omega, by omega, by omega, by omega, by omega, rfl⟩
      case measure => omega

set_option maxRecDepth 100000 in
set_option maxHeartbeats 1600000 in
theorem len_any (n : Int) (w : World) (h0 : 0 ≤ n) (h1 : n < 18446744073709551616) :
    Calls Tryz.prog 138 #[.int .u64 n] w fun e w' => e = .returned (.int .i64 (lenOf n)) ∧ w = w' := by
  have := wd_bd n
  have H1 := Lib.hid h1; clear h1
  by_cases h : n < 248
  · rw [lenOf_small n h]
    go_enter Tryz.func138, Tryz.ntmps138
    go_wp2
    go_ret
    exact ⟨rfl, rfl⟩
  · rw [lenOf_big n h]
    go_enter Tryz.func138, Tryz.ntmps138
    go_wp2_with (go_at_call 136; refine (width_any _ _ h0 H1.out).mono ?_; rintro e w' ⟨rfl, rfl⟩)
    go_ret
    exact ⟨rfl, rfl⟩

set_option maxRecDepth 100000 in
set_option maxHeartbeats 1600000 in
theorem put_small (n : Int) (w : World) (h0 : 0 ≤ n) (h1 : n < 248) :
    Calls Tryz.prog 111 #[.int .u64 n] w fun e w' => e = .returned (.string ⟨(putL n).toArray⟩) ∧ Below w.heap.size w w' := by
  have hc := run_convert_bytes_back (P := Tryz.prog) (w.alloc (.cells #[.int .u8 n] 5)) 99 9 5 ⟨w.heap.size, 0, none⟩ 1 (putL n) Tryz.underlying99 Tryz.underlying5 Tryz.underlying9
    (by rw [putL_small n h1]; intro j hj; simp at hj; subst hj; rw [Addr.add_lit, World.cell?_alloc_mark]; simp; omega)
  rw [show (putL n).length = 1 by rw [putL_small n h1]; rfl] at hc
  go_enter Tryz.func111, Tryz.ntmps111
  go_wp2
  go_ret
  exact ⟨rfl, (Below.refl _ _).alloc (Nat.le_refl _) _⟩

theorem info_u8 : (Tryz.prog.info? 5).map (fun i => (i.zero, i.size, i.bytes)) = some (some (.int .u8 0), 1, 1) := by kernel_rfl

def bs (l : List UInt8) : List Value := l.map fun b => .int .u8 (b.toNat : Int)

theorem byte_at (n : Int) (h : 0 ≤ n) (j : Nat) : n / 2 ^ (8 * j) % 256 = ((UInt8.ofNat (n.toNat / 256 ^ j)).toNat : Int) := by
  obtain ⟨m, rfl⟩ := Int.eq_ofNat_of_zero_le h
  rw [Int.toNat_natCast, UInt8.toNat_ofNat', show (2 : Int) ^ (8 * j) = ((256 ^ j : Nat) : Int) by rw [Int.pow_mul]; norm_cast, show (2 : Nat) ^ 8 = 256 from rfl, Int.natCast_emod, Int.natCast_ediv]
  rfl
theorem u8_head (k : Nat) (h : k ≤ 8) : (247 + (k : Int)) = ((UInt8.ofNat (247 + k)).toNat : Int) := by
  rw [UInt8.toNat_ofNat']; omega
theorem be_snoc (n k i : Nat) (h : i < k) : be (i + 1) (n / 256 ^ (k - (i + 1))) = be i (n / 256 ^ (k - i)) ++ [UInt8.ofNat (n / 256 ^ (k - 1 - i))] := by
  rw [be]
  have e1 : k - (i + 1) = k - 1 - i := by omega
  have e2 : k - i = (k - 1 - i) + 1 := by omega
  rw [e1, e2, Nat.pow_succ, Nat.div_div_eq_div_mul]
theorem bs_at {l : List UInt8} {j : Nat} (hj : j < l.length) : (bs l)[j]? = some (.int .u8 (l[j].toNat : Int)) := by
  simp [bs, List.getElem?_eq_getElem hj]
set_option maxRecDepth 100000 in
set_option maxHeartbeats 1600000 in
theorem put_big (n : Int) (w : World) (h0 : 248 ≤ n) (h1 : n < 18446744073709551616) :
    Calls Tryz.prog 111 #[.int .u64 n] w fun e w' => e = .returned (.string ⟨(putL n).toArray⟩) ∧ Below w.heap.size w w' := by
  obtain ⟨i0, hi, hz0, hz1, hz2⟩ := info_parts info_u8
  obtain ⟨hk1, hk8⟩ := wd_bd n
  have H1 := Lib.hid h1; clear h1
  obtain ⟨k, hk⟩ : ∃ k : Nat, (k : Int) = wd n := ⟨(wd n).toNat, by omega⟩
  rw [← hk] at hk1 hk8
  have HK := Lib.hid hk; clear hk
  go_enter Tryz.func111, Tryz.ntmps111
  go_wp2_with (first
    | (go_at_call 136; refine (width_any _ _ (by omega) H1.out).mono ?_; rintro e w' ⟨rfl, rfl⟩; rw [← HK.out])
    | (at_make; go_loud (refine wpList_make_own _ rfl (.const (.int .i64 0)) (.tmp 15) 99 rfl w.heap.size 5 i0 (.int .u8 0) 1 Tryz.underlying99 hi hz0 hz1 .i64 .i64 (1 + (k : Int)) (k + 1) rfl rfl (by omega) (by rw [hz2]; omega) (by unfold maxLen; omega) (Nat.le_refl _) ?_); intro w1 hown1 hgr1)
    | (at_builtin; refine wpList_append_fits _ rfl (.tmp 17) (.tmp 21) 99 rfl w.heap.size 5 i0 1 Tryz.underlying99 hi hz1 w.heap.size 0 (k+1) [] rfl (hown1.alloc _) ⟨w1.heap.size, 0, none⟩ 1 1 [.int .u8 (247 + (k : Int))] rfl rfl (one_cell _ _ _) (by simp [Value.oneCell']) (by omega) ?_; intro w2 hown2 hgr2))
  have B1 : Below w.heap.size w w2 := ((((Below.refl _ _).grown hgr1 (Nat.le_refl _) (by intro k h; cases h)).alloc (by have := hgr1.size; simpa using this) _).grown hgr2 (by have := hgr1.size; simp; omega) (by intro k h; cases h; exact Nat.le_refl _))
  go_loopg [4, 24] (k + 1) (fun g s4 s24 wr => ∃ i : Nat, s4 = .slice (some ⟨w.heap.size, 0, none⟩) (i + 1) (k + 1) ∧ s24 = .int .i64 i ∧ i ≤ k ∧ i + g ≤ k + 1 ∧ k + 1 ≤ i + g ∧ 1 ≤ g ∧
    wr.ownsRow w.heap.size 5 1 s4 (i + 1) (bs (UInt8.ofNat (247 + k) :: be i (n.toNat / 256 ^ (k - i)))) ∧ Below w.heap.size w wr)
  case atStart => exact ⟨0, rfl, rfl, by omega, by omega, by omega, by omega, by have := hown2; rw [u8_head k (by omega)] at this; exact this, B1⟩
  case round =>
    clear hown2 hown1 hgr1 hgr2 B1
    obtain ⟨i, rfl, rfl, hik, hg1, hg2, hg3, hown, hbel⟩ := hrel
    have hsz := hbel.size
    have HO := Lib.hid hown; clear hown
    by_cases hlt : i < k
    · go_wp2_with (at_builtin; refine wpList_append_fits _ rfl (.tmp 27) (.tmp 36) 99 rfl w.heap.size 5 i0 1 Tryz.underlying99 hi hz1 w.heap.size (i + 1) (k+1) _ rfl (HO.out.alloc _) ⟨wr.heap.size, 0, none⟩ 1 1 [.int .u8 (n / 2 ^ (8 * (k - 1 - i)) % 256)] rfl rfl (one_cell _ _ _) (by simp [Value.oneCell']) (by omega) ?_; intro w3 hown3 hgr3)
      have hown4 := hown3
      rw [byte_at n (by omega)] at hown4
      have e : bs (UInt8.ofNat (247 + k) :: be i (n.toNat / 256 ^ (k - i))) ++ [.int .u8 ((UInt8.ofNat (n.toNat / 256 ^ (k - 1 - i))).toNat : Int)] = bs (UInt8.ofNat (247 + k) :: be (i + 1) (n.toNat / 256 ^ (k - (i + 1)))) := by
        rw [be_snoc _ _ _ hlt]; simp [bs]
      rw [e] at hown4
      clear hown3
      go_roundg (gk - 1)
      case rel => exact ⟨i + 1, rfl, by go_num, by omega, by omega, by omega, by omega, hown4, (hbel.alloc hsz _).grown hgr3 (by simp; omega) (by intro k h; cases h; exact Nat.le_refl _)⟩
      case measure => omega
    · obtain rfl : k = i := by omega
      have hl : (putL n).length = k + 1 := by rw [putL_big n (by omega)]; have := HK.out; simp [be_len]; omega
      have he : putL n = UInt8.ofNat (247 + k) :: be k (n.toNat / 256 ^ (k - k)) := by
        rw [putL_big n (by omega), ← HK.out, show (247 + (k : Int)).toNat = 247 + k by omega, Int.toNat_natCast, Nat.sub_self, Nat.pow_zero, Nat.div_one]
      have HO2 := HO.out
      rw [← he] at HO2
      have hc := run_convert_bytes_back (P := Tryz.prog) wr 99 9 5 ⟨w.heap.size, 0, none⟩ (k + 1) (putL n) Tryz.underlying99 Tryz.underlying5 Tryz.underlying9
        (by intro j hj; exact HO2.cells (g := w.heap.size) rfl j _ (bs_at hj))
      rw [hl] at hc
      have hb1 := wd_bd n
      clear HO HO2 he hl
      go_wp2
      go_ret
      exact ⟨rfl, hbel⟩

theorem put_any (n : Int) (w : World) (h0 : 0 ≤ n) (h1 : n < 18446744073709551616) :
    Calls Tryz.prog 111 #[.int .u64 n] w fun e w' => e = .returned (.string ⟨(putL n).toArray⟩) ∧ Below w.heap.size w w' := by
  by_cases h : n < 248
  · exact put_small n w h0 h
  · exact put_big n w (by omega) h1
end Go.Proofs.YtcbagajjgbfgdaaGreat

/- A world that is as another was, but for some blocks. Conditions: none. -/
namespace Go.Proofs.YtcbagajjgbfgdaaGreat
open Go.RowKit

/-- What was there is as it was, but for the blocks that S tells. -/
structure But (S : Nat → Prop) (w w' : World) : Prop where
  os : w'.os = w.os
  tape : w'.tape = w.tape
  output : w'.output = w.output
  size : w.heap.size ≤ w'.heap.size
  block : ∀ k, k < w.heap.size → ¬ S k → w'.heap[k]? = w.heap[k]?

theorem But.refl (S : Nat → Prop) (w : World) : But S w w := ⟨rfl, rfl, rfl, Nat.le_refl _, fun _ _ _ => rfl⟩
theorem But.trans {S : Nat → Prop} {a b c : World} (h : But S a b) (k : But S b c) : But S a c :=
  ⟨k.os.trans h.os, k.tape.trans h.tape, k.output.trans h.output, Nat.le_trans h.size k.size, fun i hi hs => (k.block i (Nat.lt_of_lt_of_le hi h.size) hs).trans (h.block i hi hs)⟩
theorem But.mono {S S' : Nat → Prop} {w w' : World} (h : But S w w') (hs : ∀ k, k < w.heap.size → S k → S' k) : But S' w w' :=
  ⟨h.os, h.tape, h.output, h.size, fun k hk hn => h.block k hk (fun h1 => hn (hs k hk h1))⟩
theorem But.of_below {S : Nat → Prop} {w w' : World} (h : Below w.heap.size w w') : But S w w' := ⟨h.os, h.tape, h.output, h.size, fun k hk _ => h.block k hk⟩
theorem But.below {S : Nat → Prop} {w w' : World} {B : Nat} (h : But S w w') (hB : B ≤ w.heap.size) (hs : ∀ k, k < w.heap.size → S k → B ≤ k) : Below B w w' :=
  ⟨h.os, h.tape, h.output, h.size, fun k hk => h.block k (by omega) (fun h1 => by have := hs k (by omega) h1; omega)⟩
/-- Two steps, the second one over blocks that may be new. -/
theorem But.trans' {S S' : Nat → Prop} {a b c : World} (h : But S a b) (k : But S' b c) (hs : ∀ i, i < a.heap.size → S' i → S i) : But S a c :=
  ⟨k.os.trans h.os, k.tape.trans h.tape, k.output.trans h.output, Nat.le_trans h.size k.size, fun i hi hn => (k.block i (Nat.lt_of_lt_of_le hi h.size) (fun h1 => hn (hs i hi h1))).trans (h.block i hi hn)⟩
/-- From below B on: what turns are blocks from B on. -/
theorem below_but {S : Nat → Prop} {B : Nat} {a b c : World} (h : Below B a b) (k : But S b c) (hB : B ≤ b.heap.size) (hs : ∀ i, i < b.heap.size → S i → B ≤ i) : Below B a c := h.trans (k.below hB hs)
theorem But.alloc {S : Nat → Prop} {a w : World} (h : But S a w) (o : Obj) : But S a (w.alloc o) :=
  h.trans ⟨rfl, rfl, rfl, by simp, fun k hk _ => Below.heap_alloc _ _ _ hk⟩
theorem But.drew {S : Nat → Prop} {a w : World} (h : But S a w) : But S a w.drew := ⟨h.os, h.tape, h.output, h.size, h.block⟩
theorem But.draws {S : Nat → Prop} {a w : World} (h : But S a w) (n : Nat) : But S a (w.drewN n) := ⟨h.os, h.tape, h.output, h.size, h.block⟩
theorem But.setCell {S : Nat → Prop} {a w : World} (h : But S a w) {p : Addr} (hp : p.block < a.heap.size → S p.block) (u : Value) : But S a (w.setCell p u) :=
  h.trans' (S' := fun k => k = p.block) ⟨rfl, rfl, rfl, by simp [World.setCell], fun k _ hn => Below.heap_setCell _ _ _ _ hn⟩ (fun i hi e => by subst e; exact hp hi)
theorem But.cell {S : Nat → Prop} {w w' : World} (h : But S w w') {a : Addr} {v : Value} (hs : ¬ S a.block) (hc : w.cell? a = some v) : w'.cell? a = some v := by
  rw [World.cell?_of_block (w := w) (h.block _ (World.block_lt_of_cell? w a hc) hs)]; exact hc
theorem But.frozen {S : Nat → Prop} {w w' : World} (h : But S w w') {a : Addr} (hl : a.block < w.heap.size) (hs : ¬ S a.block) : w'.frozen? a = w.frozen? a := World.frozen?_of_block (w := w) (h.block _ hl hs)
/-- A store into one block. -/
theorem But.store {a w : World} {b : Nat} (h : But (fun x => x = b) a w) (o : Nat) (u : Value) : But (fun x => x = b) a (w.setCell ⟨b, o, none⟩ u) :=
  h.setCell (p := ⟨b, o, none⟩) (fun _ => rfl) u
end Go.Proofs.YtcbagajjgbfgdaaGreat

/- 'append(row, text...)' in a region that draws its order. Conditions: none. -/
namespace Go.Proofs.YtcbagajjgbfgdaaGreat
open Go.RowKit

theorem row_low {w : World} {B B' : Nat} {e : TypeId} {k : Nat} {v : Value} {n : Nat} {xs : List Value} (h : w.ownsRow B e k v n xs) (hB : B' ≤ B) : w.ownsRow B' e k v n xs := by
  obtain ⟨h1, h2⟩ := h
  refine ⟨h1, ?_⟩
  rcases h2 with h2 | ⟨g, cap, cur, hv, hg, r⟩
  · exact Or.inl h2
  · exact Or.inr ⟨g, cap, cur, hv, Nat.le_trans hB hg, r⟩
/-- An append of a text: the row stays in its block, or goes into a new one. -/
theorem run_append_str_fresh {P : Program} (w : World) (base : Nat) (t u ty e : TypeId) (i : TypeInfo) (ht : P.underlying t = some (.slice e)) (hu : P.underlying u = some .string) (hi : P.info? e = some i) (hz : i.zero = some (.int .u8 0))
    (hsize : i.size = 1) (hby : i.bytes = 1)
    (v : Value) (n : Nat) (xs : List Value) (hown : w.ownsRow base e 1 v n xs) (s : ByteArray)
    (h63 : n + s.size ≤ maxLen) (hbytes : n + s.size ≤ 140737488355328) (hbase : base ≤ w.heap.size) :
    ∃ v' w', (Builtin.append_ #[t, u] ty #[v, .string s]).run P w = .ok v' w' ∧ w'.ownsRow base e 1 v' (n + s.size) (xs ++ Lib.strCells s) ∧ w.grownBy w' v.ownBlock ∧
      (v'.ownBlock = v.ownBlock ∨ ∀ k, v'.ownBlock = some k → w.heap.size ≤ k) := by
  have hsmall : n + s.size ≤ 9223372036854775807 := by simp only [maxLen] at h63; omega
  have hxl : xs.length = n := by simpa using hown.1
  have hown2 := hown
  rcases hown.2 with ⟨rfl, rfl⟩ | ⟨g, cap, cur, rfl, hbg, hg, hnc, hcm, hcs, htake⟩
  · have h0 : w.ownsRow w.heap.size e 1 (.slice none 0 0) 0 xs := ⟨hown.1, Or.inl ⟨rfl, rfl⟩⟩
    obtain ⟨v', w', hr, h2, h3, _⟩ := Lib.run_append_own_string (P := P) w w.heap.size t u ty e i ht hu hi hz hsize hby _ 0 xs h0 s h63 hbytes (Nat.le_refl _)
    exact ⟨v', w', hr, row_low h2 hbase, h3, Or.inr (fun k hk => (h2.lt k hk).1)⟩
  · obtain ⟨v', w', hr, h2, h3, _⟩ := Lib.run_append_own_string (P := P) w base t u ty e i ht hu hi hz hsize hby _ n xs hown s h63 hbytes hbase
    refine ⟨v', w', hr, h2, h3, ?_⟩
    by_cases hroom : n + s.size ≤ cap
    · have hcs' : cur.size = cap := by simpa using hcs
      have hr2 := Lib.run_append_room_string (P := P) w t u ty e i ht hu hi hsize g n cap cur hg s hroom (by omega)
      rw [hr] at hr2
      simp only [Result.ok.injEq] at hr2
      rw [hr2.1]
      exact Or.inl rfl
    · have holds : ∀ j u, xs[j]? = some u → w.cell? ((⟨g, 0, none⟩ : Addr).add j) = some u := hown2.cells (g := g) rfl
      have hr2 := Lib.run_append_grow_string (P := P) w t u ty e i (.int .u8 0) ht hu hi hz ⟨g, 0, none⟩ n cap xs (by rw [hsize]; simpa using hxl) holds s (by omega) (by omega) (by rw [hby]; exact growslice_fits (by omega) (by omega))
      rw [hr] at hr2
      simp only [Result.ok.injEq] at hr2
      rw [hr2.1]
      exact Or.inr (fun k hk => by simp [Value.ownBlock] at hk; omega)
theorem step_append_str {P : Program} {w : World} {ops : Array Oper} {o : Oper} {a : Act} {K : Act → World → Prop} {Q : Exit → Act → World → Prop} {E : Prop} (hgd : o.guard = none) (sl x : Operand) (t u : TypeId)
    (ho : o.op = .call { callee := .builtin .append, args := #[sl, x], argTypes := #[t, u] })
    (base : Nat) (e : TypeId) (i : TypeInfo) (ht : P.underlying t = some (.slice e)) (hu : P.underlying u = some .string) (hi : P.info? e = some i) (hz : i.zero = some (.int .u8 0))
    (hsize : i.size = 1) (hby : i.bytes = 1)
    (v : Value) (n : Nat) (xs : List Value) (hs : a.eval sl = v) (hown : w.ownsRow base e 1 v n xs) (s : ByteArray) (hx : a.eval x = .string s)
    (h63 : n + s.size ≤ maxLen) (hbytes : n + s.size ≤ 140737488355328) (hbase : base ≤ w.heap.size)
    (h : ∀ ao c w', w'.ownsRow base e 1 (.slice ao (n + s.size) c) (n + s.size) (xs ++ Lib.strCells s) → w.grownBy w' v.ownBlock → ((Value.slice ao (n + s.size) c).ownBlock = v.ownBlock ∨ ∀ k, (Value.slice ao (n + s.size) c).ownBlock = some k → w.heap.size ≤ k) → K (a.put o.dst (.slice ao (n + s.size) c)) w') :
    if Region.wanted o (yielded ops a.tmps) = true then Oper.wp P o a w K Q else E := by
  have hw : Region.wanted o (yielded ops a.tmps) = true := by simp [Region.wanted, hgd]
  rw [if_pos hw]
  obtain ⟨v', w', hr, h2, h3, h4⟩ := run_append_str_fresh (P := P) w base t u o.type e i ht hu hi hz hsize hby v n xs hown s h63 hbytes hbase
  unfold Oper.wp execOp
  simp only [ho, resolve, invoke, builtin, Sem.run_bind, Sem.run_pure, Result.andThen_ok, List.map_toArray, List.map_cons, List.map_nil, hs, hx, hr]
  obtain ⟨ao, c, rfl, _⟩ := row_view h2
  exact h ao c w' h2 h3 h4
end Go.Proofs.YtcbagajjgbfgdaaGreat

/- Package wire: a writer, what it gathers. Conditions: none. -/
namespace Go.Proofs.YtcbagajjgbfgdaaGreat
open Go.RowKit Go.PlainAid

theorem putL_le (n : Int) : (putL n).length ≤ 9 := by
  have := wd_bd n
  unfold putL
  split
  · simp
  · rw [List.length_cons, be_len]; omega
/-- A writer that was made: block b; its bytes lie from block B on. -/
structure Wr (w : World) (b B : Nat) (l : List UInt8) (e : Int) : Prop where
  made : w.cell? ⟨b, 0, none⟩ = some (.bool true)
  err : w.cell? ⟨b, 2, none⟩ = some (.int .i64 e)
  fr1 : w.frozen? ⟨b, 1, none⟩ = false
  fr2 : w.frozen? ⟨b, 2, none⟩ = false
  lt : b < B
  le : B ≤ w.heap.size
  buf : ∃ v, w.cell? ⟨b, 1, none⟩ = some v ∧ w.ownsRow B 5 1 v l.length (bs l)

theorem bs_app (l k : List UInt8) : bs (l ++ k) = bs l ++ bs k := by simp [bs]
theorem bs_str (s : ByteArray) : Lib.strCells s = bs s.data.toList := rfl
/-- A row is as it was where its own block is. -/
theorem row_but {S : Nat → Prop} {B : Nat} {e : TypeId} {k : Nat} {v : Value} {n : Nat} {xs : List Value} {w w' : World} (h : w.ownsRow B e k v n xs) (hb : But S w w') (hs : ∀ i, B ≤ i → ¬ S i) : w'.ownsRow B e k v n xs := by
  obtain ⟨h1, h2⟩ := h
  refine ⟨h1, ?_⟩
  rcases h2 with h2 | ⟨g, cap, cur, hv, hg, hh, r⟩
  · exact Or.inl h2
  · exact Or.inr ⟨g, cap, cur, hv, hg, by rw [hb.block g (Array.getElem?_eq_some_iff.1 hh).1 (hs g hg)]; exact hh, r⟩
theorem Wr.but {S : Nat → Prop} {w w' : World} {b B : Nat} {l : List UInt8} {e : Int} (h : Wr w b B l e) (hb : But S w w') (hs : ¬ S b) (hB : ∀ i, B ≤ i → ¬ S i) : Wr w' b B l e := by
  have hl : b < w.heap.size := World.block_lt_of_cell? w _ h.made
  obtain ⟨v, hc, ho⟩ := h.buf
  exact ⟨hb.cell hs h.made, hb.cell hs h.err, by rw [hb.frozen hl hs]; exact h.fr1, by rw [hb.frozen hl hs]; exact h.fr2, h.lt, Nat.le_trans h.le hb.size, v, hb.cell hs hc, row_but ho hb hB⟩
theorem Wr.below {w w' : World} {b B : Nat} {l : List UInt8} {e : Int} (h : Wr w b B l e) (hb : Below w.heap.size w w') : Wr w' b B l e := h.but (But.of_below (S := fun _ => False) hb) id (fun _ _ => id)
theorem Wr.setErr {w : World} {b B : Nat} {l : List UInt8} {e : Int} (h : Wr w b B l e) (e' : Int) : Wr (w.setCell ⟨b, 2, none⟩ (.int .i64 e')) b B l e' := by
  obtain ⟨v, hc, ho⟩ := h.buf
  refine ⟨?_, World.cell?_setCell_same _ _ _ h.err, by rw [World.frozen?_setCell]; exact h.fr1, by rw [World.frozen?_setCell]; exact h.fr2, h.lt, by rw [World.size_setCell]; exact h.le, v, ?_, ownsRow_setCell_below ho h.lt _⟩
  · rw [World.cell?_setCell_other _ _ _ _ (by simp)]; exact h.made
  · rw [World.cell?_setCell_other _ _ _ _ (by simp)]; exact hc
theorem fr_grown {w w2 w3 : World} {b : Nat} {row : Option Nat} (hb : Below w.heap.size w w2) (hg : w2.grownBy w3 row) (hl : b < w.heap.size) (hne : some b ≠ row) (hf : w.frozen? ⟨b, 1, none⟩ = false) : w3.frozen? ⟨b, 1, none⟩ = false := by
  rw [World.frozen?_of_block (w := w2) (hg.block b (Nat.lt_of_lt_of_le hl hb.size) hne), hb.frozen hl]; exact hf
/-- What a writer's calls turn. -/
def WrOnly (b B k : Nat) : Prop := k = b ∨ B ≤ k

/-- The block in which the bytes lie. -/
def rowOf (w : World) (b : Nat) : Option Nat := match w.cell? ⟨b, 1, none⟩ with | some v => v.ownBlock | none => none
/-- What one call turns: the writer, its bytes. -/
def Rw (w : World) (b k : Nat) : Prop := k = b ∨ rowOf w b = some k
theorem rowOf_cell {w : World} {b : Nat} {v : Value} (h : w.cell? ⟨b, 1, none⟩ = some v) : rowOf w b = v.ownBlock := by unfold rowOf; rw [h]
theorem Wr.row {w : World} {b B : Nat} {l : List UInt8} {e : Int} (h : Wr w b B l e) {k : Nat} (hk : rowOf w b = some k) : B ≤ k ∧ k < w.heap.size := by
  obtain ⟨v, hc, ho⟩ := h.buf
  rw [rowOf_cell hc] at hk
  exact ho.lt k hk
theorem Wr.only {w : World} {b B : Nat} {l : List UInt8} {e : Int} (h : Wr w b B l e) {k : Nat} (hk : Rw w b k) : WrOnly b B k := by
  rcases hk with hk | hk
  · exact Or.inl hk
  · exact Or.inr (h.row hk).1
theorem Wr.rw_below {w w' : World} {b B : Nat} {l : List UInt8} {e : Int} (h : Wr w b B l e) (hb : Below w.heap.size w w') : rowOf w' b = rowOf w b := by
  obtain ⟨v, hc, _⟩ := h.buf
  rw [rowOf_cell hc, rowOf_cell (cell_below hb hc)]
theorem Wr.rw_back {w w' : World} {b B : Nat} {l : List UInt8} {e : Int} (h : Wr w b B l e) (hb : Below w.heap.size w w') {k : Nat} (hk : Rw w' b k) : Rw w b k := by
  unfold Rw at hk ⊢; rwa [h.rw_below hb] at hk
theorem But.grown {S : Nat → Prop} {w w' : World} {row : Option Nat} (hg : w.grownBy w' row) (hs : ∀ k, row = some k → S k) : But S w w' :=
  ⟨hg.os, hg.tape, hg.output, hg.size, fun k hk hn => hg.block k hk (fun e => hn (hs k e.symm))⟩
/-- The bytes stay in their block, or go into a new one. -/
def Keep (w w' : World) (b : Nat) : Prop := ∀ k, rowOf w' b = some k → rowOf w b = some k ∨ w.heap.size ≤ k
theorem Wr.grow {w w2 w3 : World} {b B : Nat} {l : List UInt8} {e : Int} {row : Option Nat} {ao : Option Addr} {c : Nat} {s : ByteArray} (h : Wr w b B l e) (hb : Below w.heap.size w w2) (hg : w2.grownBy w3 row) (hne : some b ≠ row) (hrow : row = rowOf w b)
    (hown : w3.ownsRow B 5 1 (.slice ao (l.length + s.size) c) (l.length + s.size) (bs l ++ Lib.strCells s)) (hfr : (Value.slice ao (l.length + s.size) c).ownBlock = row ∨ ∀ k, (Value.slice ao (l.length + s.size) c).ownBlock = some k → w2.heap.size ≤ k) :
    Wr (w3.setCell ⟨b, 1, none⟩ (.slice ao (l.length + s.size) c)) b B (l ++ s.data.toList) e ∧ But (Rw w b) w (w3.setCell ⟨b, 1, none⟩ (.slice ao (l.length + s.size) c)) ∧ Keep w (w3.setCell ⟨b, 1, none⟩ (.slice ao (l.length + s.size) c)) b := by
  have hl : b < w.heap.size := Nat.lt_of_lt_of_le h.lt h.le
  have hn : (l ++ s.data.toList).length = l.length + s.size := by rw [List.length_append]; simp
  have hB3 : But (Rw w b) w w3 := (But.of_below hb).trans (But.grown hg (fun k hk => Or.inr (by rw [← hrow]; exact hk)))
  have kb : ∀ j v, w.cell? ⟨b, j, none⟩ = some v → w3.cell? ⟨b, j, none⟩ = some v := fun j v hc => hg.cell (a := ⟨b, j, none⟩) (cell_below hb hc) hne
  have fb : ∀ j, w3.frozen? ⟨b, j, none⟩ = w.frozen? ⟨b, j, none⟩ := fun j => by
    rw [World.frozen?_of_block (w := w2) (hg.block b (Nat.lt_of_lt_of_le hl hb.size) hne), hb.frozen hl]
  obtain ⟨v, hc, _⟩ := h.buf
  refine ⟨⟨?_, ?_, by rw [World.frozen?_setCell, fb]; exact h.fr1, by rw [World.frozen?_setCell, fb]; exact h.fr2, h.lt, by rw [World.size_setCell]; exact Nat.le_trans h.le hB3.size, _, World.cell?_setCell_same _ _ _ (kb 1 _ hc), ?_⟩, hB3.setCell (p := ⟨b, 1, none⟩) (fun _ => Or.inl rfl) _, fun k hk => ?_⟩
  · rw [World.cell?_setCell_other _ _ _ _ (by simp)]; exact kb 0 _ h.made
  · rw [World.cell?_setCell_other _ _ _ _ (by simp)]; exact kb 2 _ h.err
  · refine ownsRow_setCell_below ?_ h.lt _
    rw [hn, bs_app, ← bs_str]; exact hown
  · rw [rowOf_cell (World.cell?_setCell_same _ _ _ (kb 1 _ hc))] at hk
    rcases hfr with hf | hf
    · rw [hf, hrow] at hk; exact Or.inl hk
    · exact Or.inr (Nat.le_trans hb.size (hf k hk))

set_option maxRecDepth 100000 in
set_option maxHeartbeats 1600000 in
theorem big_any (b B : Nat) (l : List UInt8) (e : Int) (n : Int) (w : World) (h : Wr w b B l e) (hl : l.length ≤ 140737488355000) (h0 : 0 ≤ n) (h1 : n < 18446744073709551616) :
    Calls Tryz.prog 56 #[.pointer (some ⟨b, 0, none⟩), .int .u64 n] w fun x w' => x = .returned (.tuple #[]) ∧ Wr w' b B (l ++ putL n) e ∧ But (Rw w b) w w' ∧ Keep w w' b := by
  obtain ⟨i0, hi, hz0, hz1, hz2⟩ := info_parts info_u8
  have H := Lib.hid h
  obtain ⟨v, hc, ho⟩ := h.buf
  obtain ⟨ao, cp, rfl, _⟩ := row_view ho
  have k1 : w.drew.cell? ⟨b, 1, none⟩ = some (.slice ao l.length cp) := hc
  have HC := Lib.hid hc; have HO := Lib.hid ho
  have hbs : b < w.heap.size := Nat.lt_of_lt_of_le h.lt h.le
  have hlt := h.lt
  have hpl : (putL n).length ≤ 9 := putL_le n
  have hp1 : (⟨(putL n).toArray⟩ : ByteArray).size = (putL n).length := rfl
  have hA : Hid (l.length + (⟨(putL n).toArray⟩ : ByteArray).size ≤ maxLen) := Lib.hid (by unfold maxLen; omega)
  have hBy : Hid (l.length + (⟨(putL n).toArray⟩ : ByteArray).size ≤ 140737488355328) := Lib.hid (by omega)
  have hne : Hid (some b ≠ (Value.slice ao l.length cp).ownBlock) := Lib.hid (fun e => by
    cases ao with
    | none => cases e
    | some a =>
      have h9 := (ho.lt a.block rfl).1
      have : b = a.block := by simpa [Value.ownBlock] using e
      omega)
  have hrow : Hid ((Value.slice ao l.length cp).ownBlock = rowOf w b) := Lib.hid (rowOf_cell hc).symm
  clear h hc ho hp1
  go_enter Tryz.func56, Tryz.ntmps56
  go_wp2_with fail
  go_region_law (first | (go_simp; go_at_call 111; refine Calls.mono (put_any n _ h0 h1) ?_; rintro e w2 ⟨rfl, hb2⟩; have hb3 : Below w.heap.size w w2 := Below.trans ((Below.refl _ _).drew) hb2; have c1 := cell_below hb3 HC.out; have HO2 := Lib.hid (row_below HO.out hb3); have HB2 := Lib.hid hb3; clear hb2 hb3) | (refine step_append_str rfl (.tmp 8) (.tmp 10) 99 9 rfl B 5 i0 Tryz.underlying99 Tryz.underlying9 hi hz0 hz1 hz2 _ l.length _ rfl HO2.out ⟨(putL n).toArray⟩ rfl hA.out hBy.out (Nat.le_trans H.out.le HB2.out.size) ?_; intro ao3 c3 w3 hown3 hgr3 hfr3; have HFr3 := Lib.hid hfr3; have c4 := hgr3.cell c1 hne.out; have z4 : w3.frozen? ⟨b, 1, none⟩ = false := fr_grown HB2.out hgr3 hbs hne.out H.out.fr1; have HO3 := Lib.hid hown3; have HG3 := Lib.hid hgr3; clear hown3 hgr3 hfr3))
  all_goals
    have HF := Lib.hid (H.out.grow HB2.out HG3.out hne.out hrow.out HO3.out HFr3.out)
    go_wp2
    go_end0
    exact ⟨rfl, HF.out.1, HF.out.2.1, HF.out.2.2⟩
end Go.Proofs.YtcbagajjgbfgdaaGreat

/- Package wire: what a deferred closure makes of a panic. Conditions: none. -/
namespace Go.Proofs.YtcbagajjgbfgdaaGreat
open Go.RowKit Go.PlainAid

theorem ta_nil (w : World) : (Instr.typeAssert Value.nilIface 20 23 true).run Tryz.prog w = .ok (.tuple #[.int .i64 0, .bool false]) w := by kernel_rfl
theorem ta_err (x : Int) (w : World) : (Instr.typeAssert (.iface 23 (.int .i64 x)) 20 23 true).run Tryz.prog w = .ok (.tuple #[.int .i64 x, .bool true]) w := by kernel_rfl
set_option maxRecDepth 100000 in
set_option maxHeartbeats 1600000 in
theorem catch_idle (p : Addr) (w : World) :
    CallsD Tryz.prog 135 #[.pointer (some p)] .returning w fun e u' w' => e = .returned (.tuple #[]) ∧ u' = .returning ∧ w' = w := by
  refine callsD_of_wpS Tryz.func135 rfl fun c₀ cs hu => ?_
  apply wpS_seq
  apply wpS_region
  simp [wpOpsS, go_sem, recoverD, hu, Tryz.ntmps135, Exit.thenS, ta_nil, ta_err]
  apply wpS_seq
  apply wpS_region
  simp [wpOpsS, go_sem, recoverD, hu, Exit.thenS]
  refine wpS_cond (t := false) (by simp [Act.eval, Array.replicate]) ?_
  simp only [Bool.false_eq_true, if_false]
  refine wpS_of_wp (wp_skip ?_)
  cases c₀
  simp_all [bodyPostS, results, Tryz.results135]
set_option maxRecDepth 100000 in
set_option maxHeartbeats 1600000 in
theorem catch_errno (p : Addr) (b : Nat) (x y : Int) (older : List PanicEntry) (w : World) (hp : w.cell? p = some (.pointer (some ⟨b, 0, none⟩))) (hc : w.cell? ⟨b, 2, none⟩ = some (.int .i64 y)) (hz : w.frozen? ⟨b, 2, none⟩ = false) :
    CallsD Tryz.prog 135 #[.pointer (some p)] (.panicking ({ v := .iface 23 (.int .i64 x), recovered := false } :: older)) w fun e u' w' => e = .returned (.tuple #[]) ∧ u' = .panicking ({ v := .iface 23 (.int .i64 x), recovered := true } :: older) ∧ w' = w.setCell ⟨b, 2, none⟩ (.int .i64 x) := by
  refine callsD_of_wpS Tryz.func135 rfl fun c₀ cs hu => ?_
  apply wpS_seq
  apply wpS_region
  simp [wpOpsS, go_sem, recoverD, hu, Tryz.ntmps135, Exit.thenS, ta_nil, ta_err]
  apply wpS_seq
  apply wpS_region
  simp [wpOpsS, go_sem, recoverD, hu, Exit.thenS]
  refine wpS_cond (t := true) (by simp [Act.eval, Array.replicate]) ?_
  simp only [if_true]
  apply wpS_region
  simp [wpOpsS, go_sem, hp, hc, hz, bodyPostS, results, Tryz.results135]
end Go.Proofs.YtcbagajjgbfgdaaGreat

/- Package wire: a number is written. Conditions: none. -/
namespace Go.Proofs.YtcbagajjgbfgdaaGreat
open Go.RowKit Go.PlainAid

def errV (x : Int) : PanicEntry := { v := .iface 23 (.int .i64 x), recovered := false }
set_option maxRecDepth 100000 in
set_option maxHeartbeats 1600000 in
theorem stepNum_bad (pn pw : Addr) (b : Nat) (n : Int) (w : World) (hn : w.cell? pn = some (.int .i64 n)) (hw : w.cell? pw = some (.pointer (some ⟨b, 0, none⟩))) (h0 : n < 0) :
    Calls Tryz.prog 55 #[.pointer (some pn), .pointer (some pw)] w fun e w' => e = .panicked [errV 5] ∧ w = w' := by
  go_enter Tryz.func55, Tryz.ntmps55
  go_wp2
  exact ⟨rfl, rfl, rfl⟩
set_option maxRecDepth 100000 in
set_option maxHeartbeats 1600000 in
theorem stepNum_good (pn pw : Addr) (b B : Nat) (l : List UInt8) (n : Int) (w : World) (hn : w.cell? pn = some (.int .i64 n)) (hw : w.cell? pw = some (.pointer (some ⟨b, 0, none⟩))) (h : Wr w b B l 0) (hl : l.length ≤ 140737488355000) (h0 : 0 ≤ n) (h1 : n ≤ 9223372036854775807) :
    Calls Tryz.prog 55 #[.pointer (some pn), .pointer (some pw)] w fun e w' => e = .returned (.tuple #[]) ∧ Wr w' b B (l ++ putL n) 0 ∧ But (Rw w b) w w' := by
  have H := Lib.hid h; clear h
  have hwu : IntKind.u64.wrap n = n := u64_nonneg h0 (by omega)
  go_enter Tryz.func55, Tryz.ntmps55
  go_wp2_with fail
  refine (big_any b B l 0 n _ H.out hl h0 (by omega)).mono ?_
  rintro e w1 ⟨rfl, hm, hb, _⟩
  have HM := Lib.hid hm; have HB := Lib.hid hb; clear hm hb
  go_wp2
  go_end0
  exact ⟨rfl, HM.out, HB.out⟩

set_option maxRecDepth 100000 in
set_option maxHeartbeats 1600000 in
theorem runNum_good (pn pw : Addr) (b B : Nat) (l : List UInt8) (n : Int) (w : World) (hn : w.cell? pn = some (.int .i64 n)) (hw : w.cell? pw = some (.pointer (some ⟨b, 0, none⟩))) (h : Wr w b B l 0) (hl : l.length ≤ 140737488355000) (h0 : 0 ≤ n) (h1 : n ≤ 9223372036854775807) :
    Calls Tryz.prog 110 #[.pointer (some ⟨b, 0, none⟩), .func (.func 55) #[] #[.pointer (some pn), .pointer (some pw)]] w fun e w' => e = .returned (.tuple #[]) ∧ Wr w' b B (l ++ putL n) 0 ∧ But (Rw w b) w w' := by
  have hmf : ∀ (fn : Fn) (first cap : Array Value) (w : World), (Instr.makeFunc fn first cap).run Tryz.prog w = .ok (.func fn first cap) w := fun _ _ _ _ => rfl
  have hb1 : Below w.heap.size w (w.alloc (.cells #[.pointer (some ⟨b, 0, none⟩)] 51)) := (Below.refl _ _).alloc (Nat.le_refl _) _
  have H1 := Lib.hid (h.below hb1)
  have HRB := Lib.hid (fun k (hk : Rw _ b k) => h.rw_back hb1 hk)
  have hn1 := cell_below hb1 hn; have hw1 := cell_below hb1 hw
  have hbx : But (Rw w b) w (w.alloc (.cells #[.pointer (some ⟨b, 0, none⟩)] 51)) := But.of_below hb1
  have HN1 := Lib.hid hn1; have HW1 := Lib.hid hw1; have HBX := Lib.hid hbx
  clear hn hw h hb1 hn1 hw1 hbx
  go_enter_defers Tryz.func110, Tryz.ntmps110
  go_wp2_with fail
  refine (stepNum_good pn pw b B l n _ HN1.out HW1.out H1.out hl h0 h1).mono ?_
  rintro e w2 ⟨rfl, hm, hb⟩
  have HM := Lib.hid hm
  have HB := Lib.hid (HBX.out.trans (hb.mono (fun k _ hk => HRB.out k hk)))
  clear hm hb
  go_wp2
  refine leaves_cons (f := 135) (args := #[.pointer (some ⟨w.heap.size, 0, none⟩)]) (by simp) (by simp [go_sem]) ?_
  refine (catch_idle _ _).mono ?_
  rintro e u' w'' ⟨rfl, rfl, rfl⟩
  simp only [Leaves, settle, results, Tryz.results110]
  simp
  exact ⟨HM.out, HB.out⟩
set_option maxRecDepth 100000 in
set_option maxHeartbeats 1600000 in
theorem runNum_bad (pn pw : Addr) (b B : Nat) (l : List UInt8) (n : Int) (w : World) (hn : w.cell? pn = some (.int .i64 n)) (hw : w.cell? pw = some (.pointer (some ⟨b, 0, none⟩))) (h : Wr w b B l 0) (h0 : n < 0) :
    Calls Tryz.prog 110 #[.pointer (some ⟨b, 0, none⟩), .func (.func 55) #[] #[.pointer (some pn), .pointer (some pw)]] w fun e w' => e = .returned (.tuple #[]) ∧ Wr w' b B l 5 ∧ But (Rw w b) w w' := by
  have hmf : ∀ (fn : Fn) (first cap : Array Value) (w : World), (Instr.makeFunc fn first cap).run Tryz.prog w = .ok (.func fn first cap) w := fun _ _ _ _ => rfl
  have hb1 : Below w.heap.size w (w.alloc (.cells #[.pointer (some ⟨b, 0, none⟩)] 51)) := (Below.refl _ _).alloc (Nat.le_refl _) _
  have H1 := Lib.hid (h.below hb1)
  have HRB := Lib.hid (fun k (hk : Rw _ b k) => h.rw_back hb1 hk)
  have hn1 := cell_below hb1 hn; have hw1 := cell_below hb1 hw
  have hbx : But (Rw w b) w (w.alloc (.cells #[.pointer (some ⟨b, 0, none⟩)] 51)) := But.of_below hb1
  have HN1 := Lib.hid hn1; have HW1 := Lib.hid hw1; have HBX := Lib.hid hbx
  have HP : Hid ((w.alloc (.cells #[.pointer (some ⟨b, 0, none⟩)] 51)).cell? ⟨w.heap.size, 0, none⟩ = some (.pointer (some ⟨b, 0, none⟩))) := Lib.hid (by simp)
  clear hn hw h hb1 hn1 hw1 hbx
  go_enter_defers Tryz.func110, Tryz.ntmps110
  go_wp2_with fail
  refine (stepNum_bad pn pw b n _ HN1.out HW1.out h0).mono ?_
  rintro e w2 ⟨rfl, rfl⟩
  go_wp2
  refine leaves_cons (f := 135) (args := #[.pointer (some ⟨w.heap.size, 0, none⟩)]) (by simp) (by simp [go_sem]) ?_
  refine (catch_errno _ b 5 0 [] _ HP.out H1.out.err H1.out.fr2).mono ?_
  rintro e u' w'' ⟨rfl, rfl, rfl⟩
  have HF := Lib.hid (H1.out.setErr 5)
  have HB2 := Lib.hid (HBX.out.setCell (p := ⟨b, 2, none⟩) (fun _ => Or.inl rfl) (.int .i64 5))
  simp [Leaves, settle, results, Tryz.results110, go_sem]
  exact ⟨HF.out, HB2.out⟩
end Go.Proofs.YtcbagajjgbfgdaaGreat

/- Package wire: a big number, a text, a flag are written. Conditions: none. -/
namespace Go.Proofs.YtcbagajjgbfgdaaGreat
open Go.RowKit Go.PlainAid

set_option maxRecDepth 100000 in
set_option maxHeartbeats 1600000 in
theorem stepBig (pn pw : Addr) (b B : Nat) (l : List UInt8) (n : Int) (w : World) (hn : w.cell? pn = some (.int .u64 n)) (hw : w.cell? pw = some (.pointer (some ⟨b, 0, none⟩))) (h : Wr w b B l 0) (hl : l.length ≤ 140737488355000) (h0 : 0 ≤ n) (h1 : n < 18446744073709551616) :
    Calls Tryz.prog 113 #[.pointer (some pw), .pointer (some pn)] w fun e w' => e = .returned (.tuple #[]) ∧ Wr w' b B (l ++ putL n) 0 ∧ But (Rw w b) w w' := by
  have H := Lib.hid h; clear h
  go_enter Tryz.func113, Tryz.ntmps113
  go_wp2_with fail
  refine (big_any b B l 0 n _ H.out hl h0 h1).mono ?_
  rintro e w1 ⟨rfl, hm, hb, _⟩
  have HM := Lib.hid hm; have HB := Lib.hid hb; clear hm hb
  go_wp2
  go_end0
  exact ⟨rfl, HM.out, HB.out⟩
theorem Wr.buf_form {w : World} {b B : Nat} {l : List UInt8} {e : Int} (h : Wr w b B l e) : ∃ ao cp, w.cell? ⟨b, 1, none⟩ = some (.slice ao l.length cp) ∧ w.ownsRow B 5 1 (.slice ao l.length cp) l.length (bs l) ∧ some b ≠ (Value.slice ao l.length cp).ownBlock ∧ (Value.slice ao l.length cp).ownBlock = rowOf w b := by
  obtain ⟨v, hc, ho⟩ := h.buf
  obtain ⟨ao, cp, rfl, _⟩ := row_view ho
  refine ⟨ao, cp, hc, ho, fun e => ?_, (rowOf_cell hc).symm⟩
  have := (ho.lt b e.symm).1
  have := h.lt
  omega
set_option maxRecDepth 100000 in
set_option maxHeartbeats 1600000 in
theorem stepText (pn pw : Addr) (b B : Nat) (l : List UInt8) (s : ByteArray) (w : World) (hn : w.cell? pn = some (.string s)) (hw : w.cell? pw = some (.pointer (some ⟨b, 0, none⟩))) (h : Wr w b B l 0) (hl : l.length + s.size ≤ 140737488355000) (hpn : ¬ Rw w b pn.block) (hpw : ¬ Rw w b pw.block) :
    Calls Tryz.prog 114 #[.pointer (some pw), .pointer (some pn)] w fun e w' => e = .returned (.tuple #[]) ∧ Wr w' b B (l ++ putL (s.size : Int) ++ s.data.toList) 0 ∧ But (Rw w b) w w' := by
  obtain ⟨i0, hi, hz0, hz1, hz2⟩ := info_parts info_u8
  have H := Lib.hid h
  have hwu : IntKind.u64.wrap (s.size : Int) = (s.size : Int) := u64_nonneg (by omega) (by omega)
  have HPN := Lib.hid hpn; have HPW := Lib.hid hpw; have HN := Lib.hid hn; have HW := Lib.hid hw
  obtain ⟨m, hme⟩ : ∃ m, m = l ++ putL (s.size : Int) := ⟨_, rfl⟩
  simp only [← hme]
  have HMe := Lib.hid hme
  have hml : m.length ≤ l.length + 9 := by rw [hme, List.length_append]; have := putL_le (s.size : Int); omega
  clear hpn hpw hme
  go_enter Tryz.func114, Tryz.ntmps114
  go_wp2_with fail
  refine (big_any b B l 0 (s.size : Int) _ H.out (by omega) (by omega) (by omega)).mono ?_
  rintro e w2 ⟨rfl, hm, hb, hkp⟩
  rw [← HMe.out] at hm
  have HM := Lib.hid hm; have HB := Lib.hid hb; have HKP := Lib.hid hkp
  have n2 := hb.cell HPN.out HN.out; have p2 := hb.cell HPW.out HW.out
  have hrn : ∀ q : Addr, ¬ Rw w b q.block → q.block < w.heap.size → ¬ (rowOf w2 b = some q.block) := fun q h1 h2 h3 => by
    rcases hkp _ h3 with h4 | h4
    · exact h1 (Or.inr h4)
    · omega
  have hrp := hrn pw HPW.out (World.block_lt_of_cell? w _ HW.out)
  have hrs := hrn pn HPN.out (World.block_lt_of_cell? w _ HN.out)
  obtain ⟨ao, cp, hc, ho, hne, hrow⟩ := HM.out.buf_form
  have hqp : Hid (some pw.block ≠ (Value.slice ao m.length cp).ownBlock) := Lib.hid (fun e => hrp (by rw [← hrow]; exact e.symm))
  have hqn : Hid (some pn.block ≠ (Value.slice ao m.length cp).ownBlock) := Lib.hid (fun e => hrs (by rw [← hrow]; exact e.symm))
  have P2 := Lib.hid p2; have N2 := Lib.hid n2
  have hbs : b < w2.heap.size := Nat.lt_of_lt_of_le HM.out.lt HM.out.le
  have hA : Hid (m.length + s.size ≤ maxLen) := Lib.hid (by unfold maxLen; omega)
  have hBy : Hid (m.length + s.size ≤ 140737488355328) := Lib.hid (by omega)
  have HO : Hid (w2.drew.ownsRow B 5 1 (.slice ao m.length cp) m.length (bs m)) := Lib.hid ho
  have HNe := Lib.hid hne; have HRow := Lib.hid hrow; have HC := Lib.hid hc
  have HBd : Hid (Below w2.heap.size w2 w2.drew) := Lib.hid (Below.refl _ _).drew
  clear hn hw h hm hb ho hne hrow hwu hkp hrn hrp hrs
  go_wp2_with fail
  go_region_law (first | (refine step_append_str rfl (.tmp 11) (.tmp 12) 99 9 rfl B 5 i0 Tryz.underlying99 Tryz.underlying9 hi hz0 hz1 hz2 _ m.length _ rfl HO.out s rfl hA.out hBy.out HM.out.le ?_; intro ao3 c3 w3 hown3 hgr3 hfr3; have HFr3 := Lib.hid hfr3; have c4 := hgr3.cell HC.out HNe.out; have p4 := hgr3.cell P2.out hqp.out; have n4 := hgr3.cell N2.out hqn.out; have z4 : w3.frozen? ⟨b, 1, none⟩ = false := fr_grown HBd.out hgr3 hbs HNe.out HM.out.fr1; have HO3 := Lib.hid hown3; have HG3 := Lib.hid hgr3; clear hown3 hgr3 hfr3))
  all_goals
    have HF := Lib.hid (HM.out.grow HBd.out HG3.out HNe.out HRow.out HO3.out HFr3.out)
    have HBF := Lib.hid (HB.out.trans' HF.out.2.1 (fun i hi hk => by
      rcases hk with hk | hk
      · exact Or.inl hk
      · rcases HKP.out _ hk with h4 | h4
        · exact Or.inr h4
        · omega))
    go_wp2
    go_end0
    exact ⟨rfl, HF.out.1, HBF.out⟩
theorem fresh_lies {row : Option Nat} {g n c H H2 : Nat} (h : row = some g ∨ g = H) (hH : H2 ≤ H) : (Value.slice (some ⟨g, 0, none⟩) n c).ownBlock = row ∨ ∀ k, (Value.slice (some ⟨g, 0, none⟩) n c).ownBlock = some k → H2 ≤ k := by
  rcases h with h | h
  · exact Or.inl h.symm
  · exact Or.inr (fun k hk => by simp [Value.ownBlock] at hk; omega)
def flagB (f : Bool) : UInt8 := if f then 1 else 0
set_option maxRecDepth 100000 in
set_option maxHeartbeats 1600000 in
theorem stepFlag (pn pw : Addr) (b B : Nat) (l : List UInt8) (f : Bool) (w : World) (hn : w.cell? pn = some (.bool f)) (hw : w.cell? pw = some (.pointer (some ⟨b, 0, none⟩))) (h : Wr w b B l 0) (hl : l.length ≤ 140737488355000) (hpw : ¬ Rw w b pw.block) :
    Calls Tryz.prog 112 #[.pointer (some pn), .pointer (some pw)] w fun e w' => e = .returned (.tuple #[]) ∧ Wr w' b B (l ++ [flagB f]) 0 ∧ But (Rw w b) w w' := by
  obtain ⟨i0, hi, hz0, hz1, hz2⟩ := info_parts info_u8
  have H := Lib.hid h
  obtain ⟨ao, cp, hc, ho, hne, hrow⟩ := h.buf_form
  have hbs : b < w.heap.size := Nat.lt_of_lt_of_le h.lt h.le
  have hA : Hid (l.length + 1 ≤ maxLen) := Lib.hid (by unfold maxLen; omega)
  have hBy : Hid ((l.length + 1) * 1 ≤ 140737488355328) := Lib.hid (by omega)
  have hle := h.le
  have HNe := Lib.hid hne; have HRow := Lib.hid hrow; have HC := Lib.hid hc; have HO := Lib.hid ho
  have hqp : Hid (some pw.block ≠ (Value.slice ao l.length cp).ownBlock) := Lib.hid (fun e => hpw (Or.inr (by rw [← hrow]; exact e.symm)))
  have HW := Lib.hid hw; have HN := Lib.hid hn
  clear h ho hne hrow hpw hn hw
  cases f
  · have hbel : Below w.heap.size w (w.alloc (.cells #[.int .u8 0] 5)).drew := ((Below.refl _ _).alloc (Nat.le_refl _) _).drew
    have HB2 := Lib.hid hbel
    have p1 := cell_below hbel HW.out; have p0 := HW.out; have n0 := HN.out; have c0 := HC.out; have c1 := cell_below hbel HC.out
    have HSz : Hid ((w.alloc (.cells #[.int .u8 0] 5)).drew.heap.size = w.heap.size + 1) := Lib.hid (by simp [World.drew])
    have HOne : Hid (∀ u ∈ [Value.int .u8 0], u.oneCell' = true) := Lib.hid (by simp [Value.oneCell'])
    have HOa : Hid ((w.alloc (.cells #[.int .u8 0] 5)).drew.ownsRow B 5 1 (.slice ao l.length cp) l.length (bs l)) := Lib.hid (HO.out.alloc _)
    clear hbel
    go_enter Tryz.func112, Tryz.ntmps112
    go_wp2_with fail
    go_region_law (first | (refine step_append_lies _ rfl (.tmp 8) (.tmp 10) 99 rfl B 5 i0 (.int .u8 0) 1 1 Tryz.underlying99 hi hz0 hz1 hz2 rfl (by decide) _ l.length _ rfl HOa.out ⟨w.heap.size, 0, none⟩ 1 1 [.int .u8 0] rfl rfl (one_cell w _ _) HOne.out Nat.one_pos hA.out hBy.out (Nat.le_trans hle HB2.out.size) (w.heap.size + 1) HSz.out ?_; intro g3 c3 w3 hown3 hgr3 hg3 _; have hfr3 := fresh_lies (n := l.length + 1) (c := c3) hg3 (Nat.le_of_eq HSz.out); have HFr3 := Lib.hid hfr3; have p4 := hgr3.cell (cell_below HB2.out HW.out) hqp.out; have c4 := hgr3.cell (cell_below HB2.out HC.out) HNe.out; have z4 : w3.frozen? ⟨b, 1, none⟩ = false := fr_grown HB2.out hgr3 hbs HNe.out H.out.fr1; have HO3 := Lib.hid hown3; have HG3 := Lib.hid hgr3; clear hown3 hgr3 hfr3))
    all_goals
      have HF := Lib.hid (Wr.grow (s := ⟨#[0]⟩) H.out HB2.out HG3.out HNe.out HRow.out HO3.out HFr3.out)
      go_wp2
      go_end0
      exact ⟨rfl, HF.out.1, HF.out.2.1⟩
  · have hbel : Below w.heap.size w (w.alloc (.cells #[.int .u8 1] 5)).drew := ((Below.refl _ _).alloc (Nat.le_refl _) _).drew
    have HB2 := Lib.hid hbel
    have p1 := cell_below hbel HW.out; have p0 := HW.out; have n0 := HN.out; have c0 := HC.out; have c1 := cell_below hbel HC.out
    have HSz : Hid ((w.alloc (.cells #[.int .u8 1] 5)).drew.heap.size = w.heap.size + 1) := Lib.hid (by simp [World.drew])
    have HOne : Hid (∀ u ∈ [Value.int .u8 1], u.oneCell' = true) := Lib.hid (by simp [Value.oneCell'])
    have HOa : Hid ((w.alloc (.cells #[.int .u8 1] 5)).drew.ownsRow B 5 1 (.slice ao l.length cp) l.length (bs l)) := Lib.hid (HO.out.alloc _)
    clear hbel
    go_enter Tryz.func112, Tryz.ntmps112
    go_wp2_with fail
    go_region_law (first | (refine step_append_lies _ rfl (.tmp 8) (.tmp 10) 99 rfl B 5 i0 (.int .u8 0) 1 1 Tryz.underlying99 hi hz0 hz1 hz2 rfl (by decide) _ l.length _ rfl HOa.out ⟨w.heap.size, 0, none⟩ 1 1 [.int .u8 1] rfl rfl (one_cell w _ _) HOne.out Nat.one_pos hA.out hBy.out (Nat.le_trans hle HB2.out.size) (w.heap.size + 1) HSz.out ?_; intro g3 c3 w3 hown3 hgr3 hg3 _; have hfr3 := fresh_lies (n := l.length + 1) (c := c3) hg3 (Nat.le_of_eq HSz.out); have HFr3 := Lib.hid hfr3; have p4 := hgr3.cell (cell_below HB2.out HW.out) hqp.out; have c4 := hgr3.cell (cell_below HB2.out HC.out) HNe.out; have z4 : w3.frozen? ⟨b, 1, none⟩ = false := fr_grown HB2.out hgr3 hbs HNe.out H.out.fr1; have HO3 := Lib.hid hown3; have HG3 := Lib.hid hgr3; clear hown3 hgr3 hfr3))
    all_goals
      have HF := Lib.hid (Wr.grow (s := ⟨#[1]⟩) H.out HB2.out HG3.out HNe.out HRow.out HO3.out HFr3.out)
      go_wp2
      go_end0
      exact ⟨rfl, HF.out.1, HF.out.2.1⟩

set_option maxRecDepth 100000 in
set_option maxHeartbeats 1600000 in
theorem runBig (pn pw : Addr) (b B : Nat) (l : List UInt8) (n : Int) (w : World) (hn : w.cell? pn = some (.int .u64 n)) (hw : w.cell? pw = some (.pointer (some ⟨b, 0, none⟩))) (h : Wr w b B l 0) (hl : l.length ≤ 140737488355000) (h0 : 0 ≤ n) (h1 : n < 18446744073709551616) :
    Calls Tryz.prog 110 #[.pointer (some ⟨b, 0, none⟩), .func (.func 113) #[] #[.pointer (some pw), .pointer (some pn)]] w fun e w' => e = .returned (.tuple #[]) ∧ Wr w' b B (l ++ putL n) 0 ∧ But (Rw w b) w w' := by
  have hmf : ∀ (fn : Fn) (first cap : Array Value) (w : World), (Instr.makeFunc fn first cap).run Tryz.prog w = .ok (.func fn first cap) w := fun _ _ _ _ => rfl
  have hb1 : Below w.heap.size w (w.alloc (.cells #[.pointer (some ⟨b, 0, none⟩)] 51)) := (Below.refl _ _).alloc (Nat.le_refl _) _
  have H1 := Lib.hid (h.below hb1)
  have HRB := Lib.hid (fun k (hk : Rw _ b k) => h.rw_back hb1 hk)
  have hn1 := cell_below hb1 hn; have hw1 := cell_below hb1 hw
  have hbx : But (Rw w b) w (w.alloc (.cells #[.pointer (some ⟨b, 0, none⟩)] 51)) := But.of_below hb1
  have HN1 := Lib.hid hn1; have HW1 := Lib.hid hw1; have HBX := Lib.hid hbx
  clear hn hw h hb1 hn1 hw1 hbx
  go_enter_defers Tryz.func110, Tryz.ntmps110
  go_wp2_with fail
  refine (stepBig pn pw b B l n _ HN1.out HW1.out H1.out hl h0 h1).mono ?_
  rintro e w2 ⟨rfl, hm, hb⟩
  have HM := Lib.hid hm
  have HB := Lib.hid (HBX.out.trans (hb.mono (fun k _ hk => HRB.out k hk)))
  clear hm hb
  go_wp2
  refine leaves_cons (f := 135) (args := #[.pointer (some ⟨w.heap.size, 0, none⟩)]) (by simp) (by simp [go_sem]) ?_
  refine (catch_idle _ _).mono ?_
  rintro e u' w'' ⟨rfl, rfl, rfl⟩
  simp only [Leaves, settle, results, Tryz.results110]
  simp
  exact ⟨HM.out, HB.out⟩
set_option maxRecDepth 100000 in
set_option maxHeartbeats 1600000 in
theorem runText (pn pw : Addr) (b B : Nat) (l : List UInt8) (s : ByteArray) (w : World) (hn : w.cell? pn = some (.string s)) (hw : w.cell? pw = some (.pointer (some ⟨b, 0, none⟩))) (h : Wr w b B l 0) (hl : l.length + s.size ≤ 140737488355000) (hpn : ¬ Rw w b pn.block) (hpw : ¬ Rw w b pw.block) :
    Calls Tryz.prog 110 #[.pointer (some ⟨b, 0, none⟩), .func (.func 114) #[] #[.pointer (some pw), .pointer (some pn)]] w fun e w' => e = .returned (.tuple #[]) ∧ Wr w' b B (l ++ putL (s.size : Int) ++ s.data.toList) 0 ∧ But (Rw w b) w w' := by
  have hmf : ∀ (fn : Fn) (first cap : Array Value) (w : World), (Instr.makeFunc fn first cap).run Tryz.prog w = .ok (.func fn first cap) w := fun _ _ _ _ => rfl
  have hb1 : Below w.heap.size w (w.alloc (.cells #[.pointer (some ⟨b, 0, none⟩)] 51)) := (Below.refl _ _).alloc (Nat.le_refl _) _
  have H1 := Lib.hid (h.below hb1)
  have HRB := Lib.hid (fun k (hk : Rw _ b k) => h.rw_back hb1 hk)
  have hn1 := cell_below hb1 hn; have hw1 := cell_below hb1 hw
  have hbx : But (Rw w b) w (w.alloc (.cells #[.pointer (some ⟨b, 0, none⟩)] 51)) := But.of_below hb1
  have HN1 := Lib.hid hn1; have HW1 := Lib.hid hw1; have HBX := Lib.hid hbx
  have HRow := Lib.hid (h.rw_below hb1)
  clear hn hw h hb1 hn1 hw1 hbx
  go_enter_defers Tryz.func110, Tryz.ntmps110
  go_wp2_with fail
  refine (stepText pn pw b B l s _ HN1.out HW1.out H1.out hl (by have := HRow.out; unfold Rw; rw [this]; exact hpn) (by have := HRow.out; unfold Rw; rw [this]; exact hpw)).mono ?_
  rintro e w2 ⟨rfl, hm, hb⟩
  have HM := Lib.hid hm
  have HB := Lib.hid (HBX.out.trans (hb.mono (fun k _ hk => HRB.out k hk)))
  clear hm hb
  go_wp2
  refine leaves_cons (f := 135) (args := #[.pointer (some ⟨w.heap.size, 0, none⟩)]) (by simp) (by simp [go_sem]) ?_
  refine (catch_idle _ _).mono ?_
  rintro e u' w'' ⟨rfl, rfl, rfl⟩
  simp only [Leaves, settle, results, Tryz.results110]
  simp
  exact ⟨by rw [← List.append_assoc]; exact HM.out, HB.out⟩
set_option maxRecDepth 100000 in
set_option maxHeartbeats 1600000 in
theorem runFlag (pn pw : Addr) (b B : Nat) (l : List UInt8) (f : Bool) (w : World) (hn : w.cell? pn = some (.bool f)) (hw : w.cell? pw = some (.pointer (some ⟨b, 0, none⟩))) (h : Wr w b B l 0) (hl : l.length ≤ 140737488355000) (hpw : ¬ Rw w b pw.block) :
    Calls Tryz.prog 110 #[.pointer (some ⟨b, 0, none⟩), .func (.func 112) #[] #[.pointer (some pn), .pointer (some pw)]] w fun e w' => e = .returned (.tuple #[]) ∧ Wr w' b B (l ++ [flagB f]) 0 ∧ But (Rw w b) w w' := by
  have hmf : ∀ (fn : Fn) (first cap : Array Value) (w : World), (Instr.makeFunc fn first cap).run Tryz.prog w = .ok (.func fn first cap) w := fun _ _ _ _ => rfl
  have hb1 : Below w.heap.size w (w.alloc (.cells #[.pointer (some ⟨b, 0, none⟩)] 51)) := (Below.refl _ _).alloc (Nat.le_refl _) _
  have H1 := Lib.hid (h.below hb1)
  have HRB := Lib.hid (fun k (hk : Rw _ b k) => h.rw_back hb1 hk)
  have hn1 := cell_below hb1 hn; have hw1 := cell_below hb1 hw
  have hbx : But (Rw w b) w (w.alloc (.cells #[.pointer (some ⟨b, 0, none⟩)] 51)) := But.of_below hb1
  have HN1 := Lib.hid hn1; have HW1 := Lib.hid hw1; have HBX := Lib.hid hbx
  have HRow := Lib.hid (h.rw_below hb1)
  clear hn hw h hb1 hn1 hw1 hbx
  go_enter_defers Tryz.func110, Tryz.ntmps110
  go_wp2_with fail
  refine (stepFlag pn pw b B l f _ HN1.out HW1.out H1.out hl (by have := HRow.out; unfold Rw; rw [this]; exact hpw)).mono ?_
  rintro e w2 ⟨rfl, hm, hb⟩
  have HM := Lib.hid hm
  have HB := Lib.hid (HBX.out.trans (hb.mono (fun k _ hk => HRB.out k hk)))
  clear hm hb
  go_wp2
  refine leaves_cons (f := 135) (args := #[.pointer (some ⟨w.heap.size, 0, none⟩)]) (by simp) (by simp [go_sem]) ?_
  refine (catch_idle _ _).mono ?_
  rintro e u' w'' ⟨rfl, rfl, rfl⟩
  simp only [Leaves, settle, results, Tryz.results110]
  simp
  exact ⟨HM.out, HB.out⟩
end Go.Proofs.YtcbagajjgbfgdaaGreat

/- Package wire: a writer's calls. Conditions: none. -/
namespace Go.Proofs.YtcbagajjgbfgdaaGreat
open Go.RowKit Go.PlainAid

set_option maxRecDepth 100000 in
set_option maxHeartbeats 1600000 in
theorem add_made (b B : Nat) (l : List UInt8) (st : Value) (Post : World → Prop) (w : World) (h : Wr w b B l 0) (hr : Calls Tryz.prog 110 #[.pointer (some ⟨b, 0, none⟩), st] w fun e w' => e = .returned (.tuple #[]) ∧ Post w') :
    Calls Tryz.prog 54 #[.pointer (some ⟨b, 0, none⟩), st] w fun e w' => e = .returned (.pointer (some ⟨b, 0, none⟩)) ∧ Post w' := by
  have c0 := h.made; have c2 := h.err
  clear h
  go_enter Tryz.func54, Tryz.ntmps54
  go_wp2_with fail
  refine hr.mono ?_
  rintro e w1 ⟨rfl, hb⟩
  have HB := Lib.hid hb; clear hb
  go_wp2
  go_ret
  exact ⟨rfl, HB.out⟩
set_option maxRecDepth 100000 in
set_option maxHeartbeats 1600000 in
theorem add_err (b B : Nat) (l : List UInt8) (x : Int) (st : Value) (w : World) (h : Wr w b B l x) (hx : x ≠ 0) :
    Calls Tryz.prog 54 #[.pointer (some ⟨b, 0, none⟩), st] w fun e w' => e = .returned (.pointer (some ⟨b, 0, none⟩)) ∧ w = w' := by
  have c0 := h.made; have c2 := h.err
  have hq : (x = 0) = False := by simp [hx]
  clear h
  go_enter Tryz.func54, Tryz.ntmps54
  go_wp2
  go_ret
  exact ⟨rfl, rfl⟩
/-- Two boxes are laid. -/
theorem two_boxes (w : World) (u v : Value) (t t' : TypeId) : Below w.heap.size w ((w.alloc (.cells #[u] t)).alloc (.cells #[v] t')) := ((Below.refl _ _).alloc (Nat.le_refl _) _).alloc (by simp) _
theorem Wr.not_rw {w w' : World} {b B : Nat} {l : List UInt8} {e : Int} (h : Wr w b B l e) (hb : Below w.heap.size w w') {k : Nat} (hk : w.heap.size ≤ k) : ¬ Rw w' b k := by
  have h1 := h.lt; have h2 := h.le
  rintro (h3 | h3)
  · omega
  · rw [h.rw_below hb] at h3
    have := (h.row h3).2
    omega
def wNum (n : Int) (p : List UInt8 × Int) : List UInt8 × Int := if p.2 ≠ 0 then p else if n < 0 then (p.1, 5) else (p.1 ++ putL n, 0)
def wBig (n : Int) (p : List UInt8 × Int) : List UInt8 × Int := if p.2 ≠ 0 then p else (p.1 ++ putL n, 0)
def wText (s : ByteArray) (p : List UInt8 × Int) : List UInt8 × Int := if p.2 ≠ 0 then p else (p.1 ++ putL (s.size : Int) ++ s.data.toList, 0)
def wFlag (f : Bool) (p : List UInt8 × Int) : List UInt8 × Int := if p.2 ≠ 0 then p else (p.1 ++ [flagB f], 0)
set_option maxRecDepth 100000 in
set_option maxHeartbeats 1600000 in
theorem wNum_rw (b B : Nat) (l : List UInt8) (x : Int) (n : Int) (w : World) (h : Wr w b B l x) (hl : l.length ≤ 140737488355000) (h1 : n ≤ 9223372036854775807) :
    Calls Tryz.prog 19 #[.pointer (some ⟨b, 0, none⟩), .int .i64 n] w fun e w' => e = .returned (.pointer (some ⟨b, 0, none⟩)) ∧ Wr w' b B (wNum n (l, x)).1 (wNum n (l, x)).2 ∧ But (Rw w b) w w' := by
  have hmf : ∀ (fn : Fn) (first cap : Array Value) (w : World), (Instr.makeFunc fn first cap).run Tryz.prog w = .ok (.func fn first cap) w := fun _ _ _ _ => rfl
  have hb1 := two_boxes w (.pointer (some ⟨b, 0, none⟩)) (.int .i64 n) 51 3
  have H1 := Lib.hid (h.below hb1)
  have HRB := Lib.hid (fun k (hk : Rw _ b k) => h.rw_back hb1 hk)
  have p1 : ((w.alloc (.cells #[.pointer (some ⟨b, 0, none⟩)] 51)).alloc (.cells #[.int .i64 n] 3)).cell? ⟨w.heap.size, 0, none⟩ = some (.pointer (some ⟨b, 0, none⟩)) := by simp
  have n1 : ((w.alloc (.cells #[.pointer (some ⟨b, 0, none⟩)] 51)).alloc (.cells #[.int .i64 n] 3)).cell? ⟨w.heap.size + 1, 0, none⟩ = some (.int .i64 n) := by simp
  have r1 := h.not_rw hb1 (k := w.heap.size) (Nat.le_refl _)
  have r2 := h.not_rw hb1 (k := w.heap.size + 1) (by omega)
  have HB := Lib.hid (But.of_below (S := Rw w b) hb1)
  have P1 := Lib.hid p1; have N1 := Lib.hid n1; have R1 := Lib.hid r1; have R2 := Lib.hid r2
  clear h hb1 n1 r1 r2
  go_enter Tryz.func19, Tryz.ntmps19
  go_wp2_with fail
  refine Calls.mono (R := fun e w' => e = .returned (.pointer (some ⟨b, 0, none⟩)) ∧ Wr w' b B (wNum n (l, x)).1 (wNum n (l, x)).2 ∧ But (Rw w b) w w') ?_ ?_
  · by_cases hx : x = 0
    · subst hx
      by_cases h9 : n < 0
      · have hq : wNum n (l, 0) = (l, 5) := by simp [wNum, h9]
        rw [hq]
        refine (add_made b B l _ _ _ H1.out (runNum_bad ⟨w.heap.size + 1, 0, none⟩ ⟨w.heap.size, 0, none⟩ b B l n _ N1.out P1.out H1.out h9)).mono ?_
        rintro e w1 ⟨rfl, hm, hb⟩
        exact ⟨rfl, hm, HB.out.trans (hb.mono (fun k _ hk => HRB.out k hk))⟩
      · have hq : wNum n (l, 0) = (l ++ putL n, 0) := by simp [wNum, h9]
        rw [hq]
        refine (add_made b B l _ _ _ H1.out (runNum_good ⟨w.heap.size + 1, 0, none⟩ ⟨w.heap.size, 0, none⟩ b B l n _ N1.out P1.out H1.out hl (by omega) h1)).mono ?_
        rintro e w1 ⟨rfl, hm, hb⟩
        exact ⟨rfl, hm, HB.out.trans (hb.mono (fun k _ hk => HRB.out k hk))⟩
    · refine (add_err b B l x _ _ H1.out hx).mono ?_
      rintro e w1 ⟨rfl, rfl⟩
      have hq : wNum n (l, x) = (l, x) := by simp [wNum, hx]
      rw [hq]
      exact ⟨rfl, H1.out, HB.out⟩
  rintro e w1 ⟨rfl, hm, hb⟩
  have HM := Lib.hid hm; have HB3 := Lib.hid hb; clear hm hb
  go_wp2
  go_ret
  exact ⟨rfl, HM.out, HB3.out⟩
set_option maxRecDepth 100000 in
set_option maxHeartbeats 1600000 in
theorem wBig_rw (b B : Nat) (l : List UInt8) (x : Int) (n : Int) (w : World) (h : Wr w b B l x) (hl : l.length ≤ 140737488355000) (h0 : 0 ≤ n) (h1 : n < 18446744073709551616) :
    Calls Tryz.prog 58 #[.pointer (some ⟨b, 0, none⟩), .int .u64 n] w fun e w' => e = .returned (.pointer (some ⟨b, 0, none⟩)) ∧ Wr w' b B (wBig n (l, x)).1 (wBig n (l, x)).2 ∧ But (Rw w b) w w' := by
  have hmf : ∀ (fn : Fn) (first cap : Array Value) (w : World), (Instr.makeFunc fn first cap).run Tryz.prog w = .ok (.func fn first cap) w := fun _ _ _ _ => rfl
  have hb1 := two_boxes w (.pointer (some ⟨b, 0, none⟩)) (.int .u64 n) 51 22
  have H1 := Lib.hid (h.below hb1)
  have HRB := Lib.hid (fun k (hk : Rw _ b k) => h.rw_back hb1 hk)
  have p1 : ((w.alloc (.cells #[.pointer (some ⟨b, 0, none⟩)] 51)).alloc (.cells #[.int .u64 n] 22)).cell? ⟨w.heap.size, 0, none⟩ = some (.pointer (some ⟨b, 0, none⟩)) := by simp
  have n1 : ((w.alloc (.cells #[.pointer (some ⟨b, 0, none⟩)] 51)).alloc (.cells #[.int .u64 n] 22)).cell? ⟨w.heap.size + 1, 0, none⟩ = some (.int .u64 n) := by simp
  have r1 := h.not_rw hb1 (k := w.heap.size) (Nat.le_refl _)
  have r2 := h.not_rw hb1 (k := w.heap.size + 1) (by omega)
  have HB := Lib.hid (But.of_below (S := Rw w b) hb1)
  have P1 := Lib.hid p1; have N1 := Lib.hid n1; have R1 := Lib.hid r1; have R2 := Lib.hid r2
  clear h hb1 n1 r1 r2
  go_enter Tryz.func58, Tryz.ntmps58
  go_wp2_with fail
  refine Calls.mono (R := fun e w' => e = .returned (.pointer (some ⟨b, 0, none⟩)) ∧ Wr w' b B (wBig n (l, x)).1 (wBig n (l, x)).2 ∧ But (Rw w b) w w') ?_ ?_
  · by_cases hx : x = 0
    · subst hx
      have hq : wBig n (l, 0) = (l ++ putL n, 0) := by simp [wBig]
      rw [hq]
      refine (add_made b B l _ _ _ H1.out (runBig ⟨w.heap.size + 1, 0, none⟩ ⟨w.heap.size, 0, none⟩ b B l n _ N1.out P1.out H1.out hl h0 h1)).mono ?_
      rintro e w1 ⟨rfl, hm, hb⟩
      exact ⟨rfl, hm, HB.out.trans (hb.mono (fun k _ hk => HRB.out k hk))⟩
    · refine (add_err b B l x _ _ H1.out hx).mono ?_
      rintro e w1 ⟨rfl, rfl⟩
      have hq : wBig n (l, x) = (l, x) := by simp [wBig, hx]
      rw [hq]
      exact ⟨rfl, H1.out, HB.out⟩
  rintro e w1 ⟨rfl, hm, hb⟩
  have HM := Lib.hid hm; have HB3 := Lib.hid hb; clear hm hb
  go_wp2
  go_ret
  exact ⟨rfl, HM.out, HB3.out⟩
set_option maxRecDepth 100000 in
set_option maxHeartbeats 1600000 in
theorem wText_rw (b B : Nat) (l : List UInt8) (x : Int) (s : ByteArray) (w : World) (h : Wr w b B l x) (hl : l.length + s.size ≤ 140737488355000) :
    Calls Tryz.prog 59 #[.pointer (some ⟨b, 0, none⟩), .string s] w fun e w' => e = .returned (.pointer (some ⟨b, 0, none⟩)) ∧ Wr w' b B (wText s (l, x)).1 (wText s (l, x)).2 ∧ But (Rw w b) w w' := by
  have hmf : ∀ (fn : Fn) (first cap : Array Value) (w : World), (Instr.makeFunc fn first cap).run Tryz.prog w = .ok (.func fn first cap) w := fun _ _ _ _ => rfl
  have hb1 := two_boxes w (.pointer (some ⟨b, 0, none⟩)) (.string s) 51 9
  have H1 := Lib.hid (h.below hb1)
  have HRB := Lib.hid (fun k (hk : Rw _ b k) => h.rw_back hb1 hk)
  have p1 : ((w.alloc (.cells #[.pointer (some ⟨b, 0, none⟩)] 51)).alloc (.cells #[.string s] 9)).cell? ⟨w.heap.size, 0, none⟩ = some (.pointer (some ⟨b, 0, none⟩)) := by simp
  have n1 : ((w.alloc (.cells #[.pointer (some ⟨b, 0, none⟩)] 51)).alloc (.cells #[.string s] 9)).cell? ⟨w.heap.size + 1, 0, none⟩ = some (.string s) := by simp
  have r1 := h.not_rw hb1 (k := w.heap.size) (Nat.le_refl _)
  have r2 := h.not_rw hb1 (k := w.heap.size + 1) (by omega)
  have HB := Lib.hid (But.of_below (S := Rw w b) hb1)
  have P1 := Lib.hid p1; have N1 := Lib.hid n1; have R1 := Lib.hid r1; have R2 := Lib.hid r2
  clear h hb1 n1 r1 r2
  go_enter Tryz.func59, Tryz.ntmps59
  go_wp2_with fail
  refine Calls.mono (R := fun e w' => e = .returned (.pointer (some ⟨b, 0, none⟩)) ∧ Wr w' b B (wText s (l, x)).1 (wText s (l, x)).2 ∧ But (Rw w b) w w') ?_ ?_
  · by_cases hx : x = 0
    · subst hx
      have hq : wText s (l, 0) = (l ++ putL (s.size : Int) ++ s.data.toList, 0) := by simp [wText]
      rw [hq]
      refine (add_made b B l _ _ _ H1.out (runText ⟨w.heap.size + 1, 0, none⟩ ⟨w.heap.size, 0, none⟩ b B l s _ N1.out P1.out H1.out hl R2.out R1.out)).mono ?_
      rintro e w1 ⟨rfl, hm, hb⟩
      exact ⟨rfl, hm, HB.out.trans (hb.mono (fun k _ hk => HRB.out k hk))⟩
    · refine (add_err b B l x _ _ H1.out hx).mono ?_
      rintro e w1 ⟨rfl, rfl⟩
      have hq : wText s (l, x) = (l, x) := by simp [wText, hx]
      rw [hq]
      exact ⟨rfl, H1.out, HB.out⟩
  rintro e w1 ⟨rfl, hm, hb⟩
  have HM := Lib.hid hm; have HB3 := Lib.hid hb; clear hm hb
  go_wp2
  go_ret
  exact ⟨rfl, HM.out, HB3.out⟩
set_option maxRecDepth 100000 in
set_option maxHeartbeats 1600000 in
theorem wFlag_rw (b B : Nat) (l : List UInt8) (x : Int) (f : Bool) (w : World) (h : Wr w b B l x) (hl : l.length ≤ 140737488355000) :
    Calls Tryz.prog 57 #[.pointer (some ⟨b, 0, none⟩), .bool f] w fun e w' => e = .returned (.pointer (some ⟨b, 0, none⟩)) ∧ Wr w' b B (wFlag f (l, x)).1 (wFlag f (l, x)).2 ∧ But (Rw w b) w w' := by
  have hmf : ∀ (fn : Fn) (first cap : Array Value) (w : World), (Instr.makeFunc fn first cap).run Tryz.prog w = .ok (.func fn first cap) w := fun _ _ _ _ => rfl
  have hb1 := two_boxes w (.pointer (some ⟨b, 0, none⟩)) (.bool f) 51 4
  have H1 := Lib.hid (h.below hb1)
  have HRB := Lib.hid (fun k (hk : Rw _ b k) => h.rw_back hb1 hk)
  have p1 : ((w.alloc (.cells #[.pointer (some ⟨b, 0, none⟩)] 51)).alloc (.cells #[.bool f] 4)).cell? ⟨w.heap.size, 0, none⟩ = some (.pointer (some ⟨b, 0, none⟩)) := by simp
  have n1 : ((w.alloc (.cells #[.pointer (some ⟨b, 0, none⟩)] 51)).alloc (.cells #[.bool f] 4)).cell? ⟨w.heap.size + 1, 0, none⟩ = some (.bool f) := by simp
  have r1 := h.not_rw hb1 (k := w.heap.size) (Nat.le_refl _)
  have r2 := h.not_rw hb1 (k := w.heap.size + 1) (by omega)
  have HB := Lib.hid (But.of_below (S := Rw w b) hb1)
  have P1 := Lib.hid p1; have N1 := Lib.hid n1; have R1 := Lib.hid r1; have R2 := Lib.hid r2
  clear h hb1 n1 r1 r2
  go_enter Tryz.func57, Tryz.ntmps57
  go_wp2_with fail
  refine Calls.mono (R := fun e w' => e = .returned (.pointer (some ⟨b, 0, none⟩)) ∧ Wr w' b B (wFlag f (l, x)).1 (wFlag f (l, x)).2 ∧ But (Rw w b) w w') ?_ ?_
  · by_cases hx : x = 0
    · subst hx
      have hq : wFlag f (l, 0) = (l ++ [flagB f], 0) := by simp [wFlag]
      rw [hq]
      refine (add_made b B l _ _ _ H1.out (runFlag ⟨w.heap.size + 1, 0, none⟩ ⟨w.heap.size, 0, none⟩ b B l f _ N1.out P1.out H1.out hl R1.out)).mono ?_
      rintro e w1 ⟨rfl, hm, hb⟩
      exact ⟨rfl, hm, HB.out.trans (hb.mono (fun k _ hk => HRB.out k hk))⟩
    · refine (add_err b B l x _ _ H1.out hx).mono ?_
      rintro e w1 ⟨rfl, rfl⟩
      have hq : wFlag f (l, x) = (l, x) := by simp [wFlag, hx]
      rw [hq]
      exact ⟨rfl, H1.out, HB.out⟩
  rintro e w1 ⟨rfl, hm, hb⟩
  have HM := Lib.hid hm; have HB3 := Lib.hid hb; clear hm hb
  go_wp2
  go_ret
  exact ⟨rfl, HM.out, HB3.out⟩
end Go.Proofs.YtcbagajjgbfgdaaGreat

/- Package wire: a writer is made, and answers. Conditions: none. -/
namespace Go.Proofs.YtcbagajjgbfgdaaGreat
open Go.RowKit Go.PlainAid

theorem row_text {w : World} {B : Nat} {v : Value} (l : List UInt8) (h : w.ownsRow B 5 1 v l.length (bs l)) : (convert 99 9 v).run Tryz.prog w = .ok (.string ⟨l.toArray⟩) w := by
  obtain ⟨ao, c, rfl, _, hv⟩ := row_view h
  cases ao with
  | none =>
    have : l = [] := by
      cases l with
      | nil => rfl
      | cons x r => obtain ⟨g, hg, _⟩ := hv 0 (by simp); cases hg
    subst this
    exact run_convert_bytes_nil w _ _ Tryz.underlying99 Tryz.underlying5 _ _ _ Tryz.underlying9
  | some a =>
    refine run_convert_bytes_back (P := Tryz.prog) w 99 9 5 a c l Tryz.underlying99 Tryz.underlying5 Tryz.underlying9 (fun j hj => ?_)
    obtain ⟨g, hg, _, hc⟩ := hv j hj
    cases hg
    rw [Addr.add_lit, Nat.zero_add, hc]
    simp [bs, hj]
set_option maxRecDepth 100000 in
set_option maxHeartbeats 1600000 in
theorem wDone_ok (b B : Nat) (l : List UInt8) (w : World) (h : Wr w b B l 0) :
    Calls Tryz.prog 22 #[.pointer (some ⟨b, 0, none⟩)] w fun e w' => e = .returned (.tuple #[.string ⟨l.toArray⟩, .int .i64 0]) ∧ w = w' := by
  have c0 := h.made; have c2 := h.err
  obtain ⟨v, c1, ho⟩ := h.buf
  have hcv := row_text l ho
  clear h ho
  go_enter Tryz.func22, Tryz.ntmps22
  go_wp2
  go_ret2
  exact ⟨rfl, rfl⟩
/-- A writer that nobody made does nothing: there is none, or it is a zero one. -/
def NoWr (w : World) (p : Value) : Prop := p = .pointer none ∨ ∃ b, p = .pointer (some ⟨b, 0, none⟩) ∧ w.cell? ⟨b, 0, none⟩ = some (.bool false)
theorem NoWr.below {w w' : World} {p : Value} (h : NoWr w p) (hb : Below w.heap.size w w') : NoWr w' p := by
  rcases h with h | ⟨b, h, hc⟩
  · exact Or.inl h
  · exact Or.inr ⟨b, h, cell_below hb hc⟩
/-- A writer that was just made. -/
structure FreshW (w : World) (b : Nat) : Prop where
  made : w.cell? ⟨b, 0, none⟩ = some (.bool true)
  buf : w.cell? ⟨b, 1, none⟩ = some (.slice none 0 0)
  err : w.cell? ⟨b, 2, none⟩ = some (.int .i64 0)
  fr1 : w.frozen? ⟨b, 1, none⟩ = false
  fr2 : w.frozen? ⟨b, 2, none⟩ = false
theorem FreshW.wr {w w' : World} {b B : Nat} (h : FreshW w b) (hb : Below w.heap.size w w') (h1 : b < B) (h2 : B ≤ w'.heap.size) : Wr w' b B [] 0 := by
  have hl := World.block_lt_of_cell? w _ h.made
  exact ⟨cell_below hb h.made, cell_below hb h.err, (hb.frozen (p := ⟨b, 1, none⟩) hl).trans h.fr1, (hb.frozen (p := ⟨b, 2, none⟩) hl).trans h.fr2, h1, h2, _, cell_below hb h.buf, rfl, Or.inl ⟨rfl, rfl⟩⟩
set_option maxRecDepth 100000 in
set_option maxHeartbeats 1600000 in
theorem wnew_any (w : World) :
    Calls Tryz.prog 18 #[] w fun e w' => e = .returned (.pointer (some ⟨w.heap.size, 0, none⟩)) ∧ FreshW w' w.heap.size ∧ w'.heap.size = w.heap.size + 1 ∧ Below w.heap.size w w' := by
  go_enter Tryz.func18, Tryz.ntmps18
  go_wp2
  go_ret
  refine ⟨rfl, ⟨by simp, by simp, by simp, by simp, by simp⟩, by simp, (Below.refl _ _).alloc (Nat.le_refl _) _⟩
end Go.Proofs.YtcbagajjgbfgdaaGreat

/- Package varnum: what Get answers for every text and place; what was put is got. Conditions: texts of at most 2^63-1 bytes. -/
namespace Go.Proofs.YtcbagajjgbfgdaaGreat
open Go.RowKit Go.PlainAid

set_option maxRecDepth 100000 in
set_option maxHeartbeats 400000 in
theorem get_direct (s : ByteArray) (a : Nat) (w : World) (hs : s.size ≤ 9223372036854775807) (ha : a < s.size) (hd : bt s a < 248) :
    Calls Tryz.prog 137 #[.string s, .int .i64 a] w fun e w' => e = .returned (.tuple #[.int .u64 (bt s a), .int .i64 (a + 1), .int .i64 0]) ∧ w = w' := by
  have hb := get_bt s
  have hb0 := bt_nonneg s a
  have hne : ((a : Int) == (s.size : Int)) = false := by simp; omega
  go_enter Tryz.func137, Tryz.ntmps137
  go_wp2
  go_ret3
  exact ⟨rfl, rfl⟩

set_option maxRecDepth 100000 in
set_option maxHeartbeats 400000 in
theorem get_none (s : ByteArray) (a : Int) (w : World) (ha : a < 0 ∨ (s.size : Int) < a) :
    Calls Tryz.prog 137 #[.string s, .int .i64 a] w fun e w' => e = .returned (.tuple #[.int .u64 0, .int .i64 0, .int .i64 1]) ∧ w = w' := by
  rcases ha with ha | ha
  · go_enter Tryz.func137, Tryz.ntmps137
    go_wp2
    go_ret3
    exact ⟨rfl, rfl⟩
  · have h0 : ¬ a < 0 := by omega
    go_enter Tryz.func137, Tryz.ntmps137
    go_wp2
    go_ret3
    exact ⟨rfl, rfl⟩

set_option maxRecDepth 100000 in
set_option maxHeartbeats 400000 in
theorem get_end (s : ByteArray) (w : World) :
    Calls Tryz.prog 137 #[.string s, .int .i64 s.size] w fun e w' => e = .returned (.tuple #[.int .u64 0, .int .i64 0, .int .i64 2]) ∧ w = w' := by
  go_enter Tryz.func137, Tryz.ntmps137
  go_wp2
  go_ret3
  exact ⟨rfl, rfl⟩

set_option maxRecDepth 100000 in
set_option maxHeartbeats 400000 in
theorem get_short (s : ByteArray) (a : Nat) (w : World) (_hs : s.size ≤ 9223372036854775807) (ha : a < s.size) (hd : 248 ≤ bt s a) (hl : (s.size : Int) - a - 1 < bt s a - 247) :
    Calls Tryz.prog 137 #[.string s, .int .i64 a] w fun e w' => e = .returned (.tuple #[.int .u64 0, .int .i64 0, .int .i64 2]) ∧ w = w' := by
  have hb := get_bt s
  have hb0 := bt_le s a
  have hne : ((a : Int) == (s.size : Int)) = false := by simp; omega
  go_enter Tryz.func137, Tryz.ntmps137
  go_wp2
  go_ret3
  exact ⟨rfl, rfl⟩

/-- The number that k bytes of s behind place a make. -/
def val (s : ByteArray) (a : Nat) : Nat → Int
  | 0 => 0
  | k + 1 => val s a k * 256 + bt s (a + k)
theorem val_nonneg (s : ByteArray) (a k : Nat) : 0 ≤ val s a k := by
  induction k with
  | zero => simp [val]
  | succ k ih => have := bt_nonneg s (a + k); simp only [val]; omega
theorem val_lt (s : ByteArray) (a k : Nat) : val s a k < 256 ^ k := by
  induction k with
  | zero => simp [val]
  | succ k ih => have := bt_le s (a + k); simp only [val, Int.pow_succ]; omega

theorem or_low (v b : Int) (h0 : 0 ≤ v) (h1 : v ≤ 72057594037927935) (b0 : 0 ≤ b) (b1 : b ≤ 255) : bits .or .u64 (v * 256) b = v * 256 + b := by
  obtain ⟨x, rfl⟩ := Int.eq_ofNat_of_zero_le h0
  obtain ⟨y, rfl⟩ := Int.eq_ofNat_of_zero_le b0
  have e : ((x : Int) * 256) = ((x * 256 : Nat) : Int) := by omega
  rw [e, u64_or_nat _ _ (by omega) (by omega)]
  have h := Nat.two_pow_add_eq_or_of_lt (i := 8) (b := y) (by omega) x
  rw [show x * 256 = 2 ^ 8 * x by omega, ← h]
  omega
theorem val_56 (s : ByteArray) (a i : Nat) (h : i < 8) : val s a i ≤ 72057594037927935 := by
  have v1 := val_lt s a i
  have : (256 : Nat) ^ i ≤ 256 ^ 7 := Nat.pow_le_pow_right (by decide) (by omega)
  have e : ((256 : Int) ^ i) = ((256 ^ i : Nat) : Int) := by rw [Int.natCast_pow]; rfl
  have : (256 : Nat) ^ 7 = 72057594037927936 := by decide
  omega

def getLong (s : ByteArray) (a k : Nat) : Value :=
  if lenOf (val s (a + 1) k) = 1 + k then .tuple #[.int .u64 (val s (a + 1) k), .int .i64 (a + 1 + k), .int .i64 0] else .tuple #[.int .u64 0, .int .i64 0, .int .i64 4]
theorem getLong_yes {s : ByteArray} {a k : Nat} (h : lenOf (val s (a + 1) k) = 1 + k) : getLong s a k = .tuple #[.int .u64 (val s (a + 1) k), .int .i64 (a + 1 + k), .int .i64 0] := if_pos h
theorem getLong_no {s : ByteArray} {a k : Nat} (h : ¬ lenOf (val s (a + 1) k) = 1 + k) : getLong s a k = .tuple #[.int .u64 0, .int .i64 0, .int .i64 4] := if_neg h

set_option maxRecDepth 100000 in
set_option maxHeartbeats 400000 in
theorem get_long (s : ByteArray) (a k : Nat) (w : World) (hs : s.size ≤ 9223372036854775807) (ha : a < s.size) (hk0 : 1 ≤ k) (hk8 : k ≤ 8) (hd : bt s a = 247 + k) (hl : a + k < s.size) :
    Calls Tryz.prog 137 #[.string s, .int .i64 a] w fun e w' => e = .returned (getLong s a k) ∧ w = w' := by
  have hb := get_bt s
  have hne : ((a : Int) == (s.size : Int)) = false := by simp; omega
  go_enter Tryz.func137, Tryz.ntmps137
  have hsub : (247 + (k : Int) - 247) = k := by omega
  go_wp2
  go_loopg [8, 45] (k + 1) (fun g s8 s45 wr => ∃ i : Nat, s8 = .int .u64 (val s (a + 1) i) ∧ s45 = .int .i64 i ∧ i ≤ k ∧ i + g ≤ k + 1 ∧ k + 1 ≤ i + g ∧ 1 ≤ g ∧ w = wr)
  case atStart => exact ⟨0, rfl, rfl, by omega, by omega, by omega, by omega, rfl⟩
  case round =>
    obtain ⟨i, rfl, rfl, hik, hg1, hg2, hg3, rfl⟩ := hrel
    have v0 := val_nonneg s (a + 1) i
    have v1 := val_lt s (a + 1) i
    by_cases hlt : i < k
    · have v2 := val_56 s (a + 1) i (by omega)
      have b0 := bt_nonneg s (a + 1 + i)
      have b1 := bt_le s (a + 1 + i)
      have hor := or_low _ _ v0 v2 b0 b1
      clear v1
      go_wp2
      go_roundg (gk - 1)
      case rel => exact ⟨i + 1, by simp [val], by go_num, by omega, by omega, by omega, by omega, rfl⟩
      case measure => omega
    · obtain rfl : k = i := by omega
      have v3 : val s (a + 1) k < 18446744073709551616 := by
        have : (256 : Nat) ^ k ≤ 256 ^ 8 := Nat.pow_le_pow_right (by decide) (by omega)
        have e : ((256 : Int) ^ k) = ((256 ^ k : Nat) : Int) := by rw [Int.natCast_pow]; rfl
        have : (256 : Nat) ^ 8 = 18446744073709551616 := by decide
        omega
      have H3 := Lib.hid v3; clear v3 v1
      by_cases hle : lenOf (val s (a + 1) k) = 1 + k
      · have HL := Lib.hid (getLong_yes hle)
        have hb1 : (lenOf (val s (a + 1) k) != 1 + (k : Int)) = false := by simp [hle]
        clear hle
        go_wp2_with (go_at_call 138; refine (len_any _ _ v0 H3.out).mono ?_; rintro e w' ⟨rfl, rfl⟩)
        go_ret3
        exact ⟨by rw [HL.out]; rfl, rfl⟩
      · have HL := Lib.hid (getLong_no hle)
        have hb1 : (lenOf (val s (a + 1) k) != 1 + (k : Int)) = true := by simp [hle]
        clear hle
        go_wp2_with (go_at_call 138; refine (len_any _ _ v0 H3.out).mono ?_; rintro e w' ⟨rfl, rfl⟩)
        go_ret3
        exact ⟨by rw [HL.out]; rfl, rfl⟩

/-- What Get answers: the number, the place behind it, the error. -/
def getR (s : ByteArray) (a : Int) : Int × Int × Int :=
  if a < 0 ∨ (s.size : Int) < a then (0, 0, 1) else if a = s.size then (0, 0, 2)
  else if bt s a.toNat < 248 then (bt s a.toNat, a + 1, 0)
  else if (s.size : Int) - a - 1 < bt s a.toNat - 247 then (0, 0, 2)
  else if lenOf (val s (a.toNat + 1) (bt s a.toNat - 247).toNat) = bt s a.toNat - 246 then (val s (a.toNat + 1) (bt s a.toNat - 247).toNat, a + 1 + (bt s a.toNat - 247), 0)
  else (0, 0, 4)
def getV (r : Int × Int × Int) : Value := .tuple #[.int .u64 r.1, .int .i64 r.2.1, .int .i64 r.2.2]

theorem get_any (s : ByteArray) (a : Int) (w : World) (hs : s.size ≤ 9223372036854775807) :
    Calls Tryz.prog 137 #[.string s, .int .i64 a] w fun e w' => e = .returned (getV (getR s a)) ∧ w = w' := by
  by_cases h1 : a < 0 ∨ (s.size : Int) < a
  · rw [show getR s a = (0, 0, 1) from if_pos h1]; exact get_none s a w h1
  obtain ⟨n, rfl⟩ := Int.eq_ofNat_of_zero_le (show 0 ≤ a by omega)
  unfold getR
  rw [if_neg h1, Int.toNat_natCast]
  by_cases h2 : (n : Int) = s.size
  · rw [if_pos h2, h2]; exact get_end s w
  rw [if_neg h2]
  have hn : n < s.size := by omega
  by_cases h3 : bt s n < 248
  · rw [if_pos h3]; exact get_direct s n w hs hn h3
  rw [if_neg h3]
  have hb := bt_le s n
  by_cases h4 : (s.size : Int) - n - 1 < bt s n - 247
  · rw [if_pos h4]; exact get_short s n w hs hn (by omega) h4
  rw [if_neg h4]
  obtain ⟨k, hk⟩ := Int.eq_ofNat_of_zero_le (show 0 ≤ bt s n - 247 by omega)
  rw [show bt s n - 246 = 1 + k by omega, hk, Int.toNat_natCast]
  have := get_long s n k w hs hn (by omega) (by omega) (by omega) (by omega)
  unfold getLong at this
  by_cases h5 : lenOf (val s (n + 1) k) = 1 + k
  · rw [if_pos h5] at this ⊢; exact this
  · rw [if_neg h5] at this ⊢; exact this

/-- The bytes from place a on are those of l. -/
def has (s : ByteArray) (a : Nat) (l : List UInt8) : Prop := ∀ j (h : j < l.length), bt s (a + j) = (l[j].toNat : Int)
end Go.Proofs.YtcbagajjgbfgdaaGreat

/- Package wire: a reader; its steps. Conditions: texts of at most 2^63-1 bytes. -/
namespace Go.Proofs.YtcbagajjgbfgdaaGreat
open Go.RowKit Go.PlainAid

/-- A reader that was made: block b. -/
structure Rd (w : World) (b : Nat) (s : ByteArray) (a e : Int) : Prop where
  made : w.cell? ⟨b, 0, none⟩ = some (.bool true)
  txt : w.cell? ⟨b, 1, none⟩ = some (.string s)
  pos : w.cell? ⟨b, 2, none⟩ = some (.int .i64 a)
  err : w.cell? ⟨b, 3, none⟩ = some (.int .i64 e)
  fr2 : w.frozen? ⟨b, 2, none⟩ = false
  fr3 : w.frozen? ⟨b, 3, none⟩ = false
theorem Rd.lt {w : World} {b : Nat} {s : ByteArray} {a e : Int} (h : Rd w b s a e) : b < w.heap.size := World.block_lt_of_cell? w _ h.made
theorem Rd.but {S : Nat → Prop} {w w' : World} {b : Nat} {s : ByteArray} {a e : Int} (h : Rd w b s a e) (hb : But S w w') (hs : ¬ S b) : Rd w' b s a e :=
  ⟨hb.cell hs h.made, hb.cell hs h.txt, hb.cell hs h.pos, hb.cell hs h.err, by rw [hb.frozen h.lt hs]; exact h.fr2, by rw [hb.frozen h.lt hs]; exact h.fr3⟩
theorem Rd.below {w w' : World} {b : Nat} {s : ByteArray} {a e : Int} (h : Rd w b s a e) (hb : Below w.heap.size w w') : Rd w' b s a e := h.but (But.of_below (S := fun _ => False) hb) id
theorem Rd.setPos {w : World} {b : Nat} {s : ByteArray} {a e : Int} (h : Rd w b s a e) (a' : Int) : Rd (w.setCell ⟨b, 2, none⟩ (.int .i64 a')) b s a' e := by
  refine ⟨?_, ?_, World.cell?_setCell_same _ _ _ h.pos, ?_, by rw [World.frozen?_setCell]; exact h.fr2, by rw [World.frozen?_setCell]; exact h.fr3⟩
  · rw [World.cell?_setCell_other _ _ _ _ (by simp)]; exact h.made
  · rw [World.cell?_setCell_other _ _ _ _ (by simp)]; exact h.txt
  · rw [World.cell?_setCell_other _ _ _ _ (by simp)]; exact h.err
theorem Rd.setErr {w : World} {b : Nat} {s : ByteArray} {a e : Int} (h : Rd w b s a e) (e' : Int) : Rd (w.setCell ⟨b, 3, none⟩ (.int .i64 e')) b s a e' := by
  refine ⟨?_, ?_, ?_, World.cell?_setCell_same _ _ _ h.err, by rw [World.frozen?_setCell]; exact h.fr2, by rw [World.frozen?_setCell]; exact h.fr3⟩
  · rw [World.cell?_setCell_other _ _ _ _ (by simp)]; exact h.made
  · rw [World.cell?_setCell_other _ _ _ _ (by simp)]; exact h.txt
  · rw [World.cell?_setCell_other _ _ _ _ (by simp)]; exact h.pos
/-- Only the reader's own block may have turned. -/
def Own (b k : Nat) : Prop := k = b
def thrown (x : Int) : PanicEntry := { v := .iface 23 (.int .i64 x), recovered := false }
def RB (b : Nat) (s : ByteArray) (a : Int) (w w' : World) : Prop := But (Own b) w w' ∧ Rd w' b s a 0
theorem RB.start {b : Nat} {s : ByteArray} {a : Int} {w : World} (h : Rd w b s a 0) : RB b s a w w.drew := ⟨(But.of_below (Below.refl _ _)).draws 1, h.below (Below.refl _ _).drew⟩
theorem RB.to {b : Nat} {s : ByteArray} {a a' : Int} {w w1 w2 : World} (h : RB b s a w w1) (h2 : RB b s a' w1 w2) : RB b s a' w w2 := ⟨h.1.trans h2.1, h2.2⟩
theorem RB.pos {b : Nat} {s : ByteArray} {a : Int} {w w' : World} (h : RB b s a w w') (a' : Int) : RB b s a' w (w'.setCell ⟨b, 2, none⟩ (.int .i64 a')) := ⟨h.1.setCell (p := ⟨b, 2, none⟩) (fun _ => rfl) _, h.2.setPos a'⟩
set_option maxRecDepth 100000 in
set_option maxHeartbeats 1600000 in
theorem rbig_bad (b : Nat) (s : ByteArray) (a : Int) (w : World) (h : Rd w b s a 0) (hs : s.size ≤ 9223372036854775807) (he : (getR s a).2.2 ≠ 0) :
    Calls Tryz.prog 125 #[.pointer (some ⟨b, 0, none⟩)] w fun e w' => e = .panicked [thrown (getR s a).2.2] ∧ RB b s a w w' := by
  have H := Lib.hid (RB.start h)
  have c1 : w.drew.cell? ⟨b, 1, none⟩ = some (.string s) := h.txt
  have c2 : w.drew.cell? ⟨b, 2, none⟩ = some (.int .i64 a) := h.pos
  have K1 := Lib.hid c1; have K2 := Lib.hid c2
  have hg := fun w => get_any s a w hs
  unfold getV at hg
  generalize getR s a = g at he hg ⊢
  obtain ⟨g1, g2, g3⟩ := g
  have hq : (g3 != 0) = true := by simp at he; simp [he]
  have HG := Lib.hid hg
  clear h hg he c1 c2
  go_enter Tryz.func125, Tryz.ntmps125
  go_wp2_with fail
  go_region_held3 (fun w' => w'.cell? ⟨b, 1, none⟩ = some (.string s) ∧ w'.cell? ⟨b, 2, none⟩ = some (.int .i64 a) ∧ RB b s a w w') (first | exact ⟨K1.out, K2.out, H.out⟩ | assumption) (first | (go_at_call 137; (with_reducible refine (HG.out _).mono ?_); rintro e w7 ⟨rfl, rfl⟩))
  have HQ : Hid (RB b s a w _) := Lib.hid (by assumption : _ ∧ _ ∧ RB b s a w _).2.2
  go_wp2
  exact ⟨rfl, rfl, HQ.out⟩
set_option maxRecDepth 100000 in
set_option maxHeartbeats 1600000 in
theorem rbig_good (b : Nat) (s : ByteArray) (a : Int) (w : World) (h : Rd w b s a 0) (hs : s.size ≤ 9223372036854775807) (he : (getR s a).2.2 = 0) :
    Calls Tryz.prog 125 #[.pointer (some ⟨b, 0, none⟩)] w fun e w' => e = .returned (.int .u64 (getR s a).1) ∧ RB b s (getR s a).2.1 w w' := by
  have H := Lib.hid (RB.start h)
  have c1 : w.drew.cell? ⟨b, 1, none⟩ = some (.string s) := h.txt
  have c2 : w.drew.cell? ⟨b, 2, none⟩ = some (.int .i64 a) := h.pos
  have K1 := Lib.hid c1; have K2 := Lib.hid c2
  have hg := fun w => get_any s a w hs
  unfold getV at hg
  generalize getR s a = g at he hg ⊢
  obtain ⟨g1, g2, g3⟩ := g
  simp only at he
  subst he
  have HG := Lib.hid hg
  clear h hg c1 c2
  go_enter Tryz.func125, Tryz.ntmps125
  go_wp2_with fail
  go_region_held3 (fun w' => w'.cell? ⟨b, 1, none⟩ = some (.string s) ∧ w'.cell? ⟨b, 2, none⟩ = some (.int .i64 a) ∧ RB b s a w w') (first | exact ⟨K1.out, K2.out, H.out⟩ | assumption) (first | (go_at_call 137; (with_reducible refine (HG.out _).mono ?_); rintro e w7 ⟨rfl, rfl⟩))
  have HQ : Hid (RB b s a w _) := Lib.hid (by assumption : _ ∧ _ ∧ RB b s a w _).2.2
  have k2 := HQ.out.2.pos; have f2 := HQ.out.2.fr2
  have HQ2 := Lib.hid (HQ.out.pos g2)
  go_wp2
  go_ret
  exact ⟨rfl, HQ2.out⟩
/-- What upTo reads: the number, the place, the error. -/
def upR (s : ByteArray) (a m x : Int) : Int × Int × Int :=
  if (getR s a).2.2 ≠ 0 then (0, a, (getR s a).2.2) else if m < 0 ∨ m < (getR s a).1 then (0, (getR s a).2.1, x) else ((getR s a).1, (getR s a).2.1, 0)
theorem upR_of {s : ByteArray} {a m x g1 g2 g3 : Int} (h : getR s a = (g1, g2, g3)) : upR s a m x = if g3 ≠ 0 then (0, a, g3) else if m < 0 ∨ m < g1 then (0, g2, x) else (g1, g2, 0) := by unfold upR; rw [h]
theorem getR_range (s : ByteArray) (a : Int) : 0 ≤ (getR s a).1 := by
  unfold getR
  split
  · simp
  split
  · simp
  split
  · exact bt_nonneg _ _
  split
  · simp
  split
  · exact val_nonneg _ _ _
  · simp
set_option maxRecDepth 100000 in
set_option maxHeartbeats 1600000 in
theorem upTo_any (b : Nat) (s : ByteArray) (a m x : Int) (w : World) (h : Rd w b s a 0) (hs : s.size ≤ 9223372036854775807) (hm : m ≤ 9223372036854775807) (hx : x ≠ 0) :
    Calls Tryz.prog 96 #[.pointer (some ⟨b, 0, none⟩), .int .i64 m, .int .i64 x] w fun e w' => e = (if (upR s a m x).2.2 = 0 then .returned (.int .i64 (upR s a m x).1) else .panicked [thrown (upR s a m x).2.2]) ∧ RB b s (upR s a m x).2.1 w w' := by
  have hr := getR_range s a
  rcases hg : getR s a with ⟨g1, g2, g3⟩
  rw [hg] at hr
  have hu := upR_of (m := m) (x := x) hg
  simp only at hr
  by_cases he : g3 = 0
  · subst he
    have hb := rbig_good b s a w h hs (by rw [hg])
    rw [hg] at hb
    simp only at hb
    have HG := Lib.hid hb
    clear h hb hg
    rw [if_neg (by simp)] at hu
    by_cases h1 : m < 0 ∨ m < g1
    · rw [if_pos h1] at hu
      rw [hu]
      dsimp only
      rw [if_neg hx]
      clear hu
      go_enter Tryz.func96, Tryz.ntmps96
      rcases (show m < 0 ∨ 0 ≤ m by omega) with h2 | h2
      · go_wp2_with fail
        refine HG.out.mono ?_
        rintro e w1 ⟨rfl, hb⟩
        have HB := Lib.hid hb; clear hb h1
        go_wp2
        exact ⟨rfl, rfl, HB.out⟩
      · have h3 : m < g1 := by omega
        have hwm : IntKind.u64.wrap m = m := u64_nonneg h2 (by omega)
        have h0 : ¬ m < 0 := by omega
        go_wp2_with fail
        refine HG.out.mono ?_
        rintro e w1 ⟨rfl, hb⟩
        have HB := Lib.hid hb; clear hb h1
        go_wp2
        exact ⟨rfl, rfl, HB.out⟩
    · rw [if_neg h1] at hu
      rw [hu]
      dsimp only
      rw [if_pos rfl]
      clear hu
      have h0 : ¬ m < 0 := by omega
      have h3 : ¬ m < g1 := by omega
      have hwm : IntKind.u64.wrap m = m := u64_nonneg (by omega) (by omega)
      have hwg : IntKind.i64.wrap g1 = g1 := IntWalk.i64_in g1 ⟨by omega, by omega⟩
      clear h1
      go_enter Tryz.func96, Tryz.ntmps96
      go_wp2_with fail
      refine HG.out.mono ?_
      rintro e w1 ⟨rfl, hb⟩
      have HB := Lib.hid hb; clear hb
      go_wp2
      go_ret
      exact ⟨rfl, HB.out⟩
  · have hb := rbig_bad b s a w h hs (by rw [hg]; exact he)
    rw [hg] at hb
    simp only at hb
    have HG := Lib.hid hb
    clear h hb hg
    rw [if_pos he] at hu
    rw [hu]
    dsimp only
    rw [if_neg he]
    clear hu
    go_enter Tryz.func96, Tryz.ntmps96
    go_wp2_with fail
    refine HG.out.mono ?_
    rintro e w1 ⟨rfl, hb⟩
    have HB := Lib.hid hb; clear hb
    go_wp2
    exact ⟨rfl, rfl, HB.out⟩
end Go.Proofs.YtcbagajjgbfgdaaGreat

/- Package wire: a reader's take. Conditions: none. -/
namespace Go.Proofs.YtcbagajjgbfgdaaGreat
open Go.RowKit Go.PlainAid

set_option maxRecDepth 100000 in
set_option maxHeartbeats 1600000 in
theorem rcatch_idle (p : Addr) (w : World) :
    CallsD Tryz.prog 124 #[.pointer (some p)] .returning w fun e u' w' => e = .returned (.tuple #[]) ∧ u' = .returning ∧ w' = w := by
  refine callsD_of_wpS Tryz.func124 rfl fun c₀ cs hu => ?_
  apply wpS_seq
  apply wpS_region
  simp [wpOpsS, go_sem, recoverD, hu, Tryz.ntmps124, Exit.thenS, ta_nil, ta_err]
  apply wpS_seq
  apply wpS_region
  simp [wpOpsS, go_sem, recoverD, hu, Exit.thenS]
  refine wpS_cond (t := false) (by simp [Act.eval, Array.replicate]) ?_
  simp only [Bool.false_eq_true, if_false]
  refine wpS_of_wp (wp_skip ?_)
  cases c₀
  simp_all [bodyPostS, results, Tryz.results124]
set_option maxRecDepth 100000 in
set_option maxHeartbeats 1600000 in
theorem rcatch_errno (p : Addr) (b : Nat) (x y : Int) (older : List PanicEntry) (w : World) (hp : w.cell? p = some (.pointer (some ⟨b, 0, none⟩))) (hc : w.cell? ⟨b, 3, none⟩ = some (.int .i64 y)) (hz : w.frozen? ⟨b, 3, none⟩ = false) :
    CallsD Tryz.prog 124 #[.pointer (some p)] (.panicking ({ v := .iface 23 (.int .i64 x), recovered := false } :: older)) w fun e u' w' => e = .returned (.tuple #[]) ∧ u' = .panicking ({ v := .iface 23 (.int .i64 x), recovered := true } :: older) ∧ w' = w.setCell ⟨b, 3, none⟩ (.int .i64 x) := by
  refine callsD_of_wpS Tryz.func124 rfl fun c₀ cs hu => ?_
  apply wpS_seq
  apply wpS_region
  simp [wpOpsS, go_sem, recoverD, hu, Tryz.ntmps124, Exit.thenS, ta_nil, ta_err]
  apply wpS_seq
  apply wpS_region
  simp [wpOpsS, go_sem, recoverD, hu, Exit.thenS]
  refine wpS_cond (t := true) (by simp [Act.eval, Array.replicate]) ?_
  simp only [if_true]
  apply wpS_region
  simp [wpOpsS, go_sem, hp, hc, hz, bodyPostS, results, Tryz.results124]
set_option maxRecDepth 100000 in
set_option maxHeartbeats 1600000 in
theorem err_made (b : Nat) (s : ByteArray) (a x : Int) (w : World) (h : Rd w b s a x) :
    Calls Tryz.prog 48 #[.pointer (some ⟨b, 0, none⟩)] w fun e w' => e = .returned (.int .i64 x) ∧ w = w' := by
  have c0 := h.made; have c3 := h.err
  clear h
  go_enter Tryz.func48, Tryz.ntmps48
  go_wp2
  go_ret
  exact ⟨rfl, rfl⟩
/-- A reader's box. -/
def rBox (w : World) (p : Value) : World := w.alloc (.cells #[p] 87)
theorem rBox_below (w : World) (p : Value) : Below w.heap.size w (rBox w p) := (Below.refl _ _).alloc (Nat.le_refl _) _
theorem rBox_cell (w : World) (p : Value) : (rBox w p).cell? ⟨w.heap.size, 0, none⟩ = some p := by simp [rBox]
set_option maxRecDepth 100000 in
set_option maxHeartbeats 1600000 in
theorem take_good (b : Nat) (s : ByteArray) (a : Int) (F : FuncId) (cs : Array Value) (Post : World → Prop) (hF : ∀ w, Sem.run Tryz.prog (callFunc F cs) w = .ok (.enter F cs) w) (w : World) (h : Rd w b s a 0) (hst : Calls Tryz.prog F cs (rBox w (.pointer (some ⟨b, 0, none⟩))) fun e w' => e = .returned (.tuple #[]) ∧ Post w') :
    Calls Tryz.prog 94 #[.pointer (some ⟨b, 0, none⟩), .func (.func F) #[] cs] w fun e w' => e = .returned (.tuple #[]) ∧ Post w' := by
  have hmf : ∀ (fn : Fn) (first cap : Array Value) (w : World), (Instr.makeFunc fn first cap).run Tryz.prog w = .ok (.func fn first cap) w := fun _ _ _ _ => rfl
  have H1 := Lib.hid (h.below (rBox_below w (.pointer (some ⟨b, 0, none⟩))))
  have HS := Lib.hid hst
  clear h hst
  go_enter_defers Tryz.func94, Tryz.ntmps94
  go_wp2_with fail
  refine (err_made b s a 0 _ H1.out).mono ?_
  rintro e w1 ⟨rfl, rfl⟩
  go_wp2_with fail
  refine HS.out.mono ?_
  rintro e w2 ⟨rfl, hm⟩
  have HM := Lib.hid hm
  clear hm
  go_wp2
  refine leaves_cons (f := 124) (args := #[.pointer (some ⟨w.heap.size, 0, none⟩)]) (by simp) (by simp [go_sem]) ?_
  refine (rcatch_idle _ _).mono ?_
  rintro e u' w'' ⟨rfl, rfl, rfl⟩
  simp only [Leaves, settle, results, Tryz.results94]
  simp
  exact HM.out
set_option maxRecDepth 100000 in
set_option maxHeartbeats 1600000 in
theorem take_bad (b : Nat) (s : ByteArray) (a x : Int) (F : FuncId) (cs : Array Value) (hF : ∀ w, Sem.run Tryz.prog (callFunc F cs) w = .ok (.enter F cs) w) (w : World) (h : Rd w b s a 0) (hst : Calls Tryz.prog F cs (rBox w (.pointer (some ⟨b, 0, none⟩))) fun e w' => e = .panicked [thrown x] ∧ ∃ a', RB b s a' (rBox w (.pointer (some ⟨b, 0, none⟩))) w') :
    Calls Tryz.prog 94 #[.pointer (some ⟨b, 0, none⟩), .func (.func F) #[] cs] w fun e w' => e = .returned (.tuple #[]) ∧ ∃ a', But (Own b) w w' ∧ Rd w' b s a' x := by
  have hmf : ∀ (fn : Fn) (first cap : Array Value) (w : World), (Instr.makeFunc fn first cap).run Tryz.prog w = .ok (.func fn first cap) w := fun _ _ _ _ => rfl
  have hb1 := rBox_below w (.pointer (some ⟨b, 0, none⟩))
  have H1 := Lib.hid (h.below hb1)
  have HB1 := Lib.hid (But.of_below (S := Own b) hb1)
  have HP := Lib.hid (rBox_cell w (.pointer (some ⟨b, 0, none⟩)))
  have hlt : ¬ Own b w.heap.size := by have := h.lt; unfold Own; omega
  have HL := Lib.hid hlt
  have HS := Lib.hid hst
  clear h hst hb1 hlt
  go_enter_defers Tryz.func94, Tryz.ntmps94
  go_wp2_with fail
  refine (err_made b s a 0 _ H1.out).mono ?_
  rintro e w1 ⟨rfl, rfl⟩
  go_wp2_with fail
  refine HS.out.mono ?_
  rintro e w2 ⟨rfl, a', hm⟩
  have HM := Lib.hid hm
  have HP2 := Lib.hid (hm.1.cell (a := ⟨w.heap.size, 0, none⟩) HL.out HP.out)
  clear hm
  go_wp2
  refine leaves_cons (f := 124) (args := #[.pointer (some ⟨w.heap.size, 0, none⟩)]) (by simp) (by simp [go_sem]) ?_
  refine (rcatch_errno _ b x 0 [] _ HP2.out HM.out.2.err HM.out.2.fr3).mono ?_
  rintro e u' w'' ⟨rfl, rfl, rfl⟩
  have HF := Lib.hid (HM.out.2.setErr x)
  have HB2 := Lib.hid ((HB1.out.trans HM.out.1).setCell (p := ⟨b, 3, none⟩) (fun _ => rfl) (.int .i64 x))
  simp [Leaves, settle, results, Tryz.results94, go_sem]
  exact ⟨HB2.out, a', HF.out⟩
set_option maxRecDepth 100000 in
set_option maxHeartbeats 1600000 in
theorem take_err (b : Nat) (s : ByteArray) (a x : Int) (st : Value) (w : World) (h : Rd w b s a x) (hx : x ≠ 0) :
    Calls Tryz.prog 94 #[.pointer (some ⟨b, 0, none⟩), st] w fun e w' => e = .returned (.tuple #[]) ∧ Below w.heap.size w w' := by
  have hb1 := rBox_below w (.pointer (some ⟨b, 0, none⟩))
  have H1 := Lib.hid (h.below hb1)
  have HB := Lib.hid hb1
  have hq : (x != 0) = true := by simp [hx]
  clear h hb1
  go_enter_defers Tryz.func94, Tryz.ntmps94
  go_wp2_with fail
  refine (err_made b s a x _ H1.out).mono ?_
  rintro e w1 ⟨rfl, rfl⟩
  go_wp2
  simp [bodyPostD, Leaves, settle, results, Tryz.results94]
  exact HB.out
end Go.Proofs.YtcbagajjgbfgdaaGreat

/- Package wire: a reader's numbers. Conditions: texts of at most 2^63-1 bytes. -/
namespace Go.Proofs.YtcbagajjgbfgdaaGreat
open Go.RowKit Go.PlainAid

/-- A step of a reader has read: its answer lies in p. -/
def RC (b : Nat) (p : Addr) (s : ByteArray) (a : Int) (v : Value) (w w' : World) : Prop := But (fun k => k = b ∨ k = p.block) w w' ∧ Rd w' b s a 0 ∧ w'.cell? p = some v
theorem RC.of {b : Nat} {p : Addr} {s : ByteArray} {a : Int} {v v0 : Value} {w w1 : World} (h : RB b s a w w1) (hc : w1.cell? p = some v0) (hp : p.block ≠ b) : RC b p s a v w (w1.setCell p v) := by
  have hbt : But (fun k => k = p.block) w1 (w1.setCell p v) := (But.of_below (S := fun k => k = p.block) (Below.refl _ _)).setCell (p := p) (fun _ => rfl) v
  exact ⟨(h.1.mono (fun k _ hk => Or.inl hk)).trans (hbt.mono (fun k _ hk => Or.inr hk)), h.2.but hbt (fun e => hp e.symm), World.cell?_setCell_same _ _ _ hc⟩
set_option maxRecDepth 100000 in
set_option maxHeartbeats 1600000 in
theorem sNum_good (pr pm pn : Addr) (b : Nat) (s : ByteArray) (a m : Int) (v0 : Value) (w : World) (hr : w.cell? pr = some (.pointer (some ⟨b, 0, none⟩))) (hm : w.cell? pm = some (.int .i64 m)) (hn : w.cell? pn = some v0) (hz : w.frozen? pn = false) (hp : pn.block ≠ b) (h : Rd w b s a 0) (hs : s.size ≤ 9223372036854775807) (hm1 : m ≤ 9223372036854775807) (he : (upR s a m 5).2.2 = 0) :
    Calls Tryz.prog 95 #[.pointer (some pr), .pointer (some pm), .pointer (some pn)] w fun e w' => e = .returned (.tuple #[]) ∧ RC b pn s (upR s a m 5).2.1 (.int .i64 (upR s a m 5).1) w w' := by
  have hu := upTo_any b s a m 5 w h hs hm1 (by decide)
  rw [if_pos he] at hu
  have HU := Lib.hid hu; have HN := Lib.hid hn; have HZ := Lib.hid hz
  have hl := World.block_lt_of_cell? w _ hn
  clear hu hn hz h he
  go_enter Tryz.func95, Tryz.ntmps95
  go_wp2_with fail
  refine HU.out.mono ?_
  rintro e w1 ⟨rfl, hb⟩
  have n1 := hb.1.cell (a := pn) hp HN.out
  have z1 : w1.frozen? pn = false := by rw [hb.1.frozen hl hp]; exact HZ.out
  have HF := Lib.hid (RC.of (v := .int .i64 (upR s a m 5).1) hb n1 hp)
  clear hb
  go_wp2
  go_end0
  exact ⟨rfl, HF.out⟩
set_option maxRecDepth 100000 in
set_option maxHeartbeats 1600000 in
theorem sNum_bad (pr pm pn : Addr) (b : Nat) (s : ByteArray) (a m : Int) (w : World) (hr : w.cell? pr = some (.pointer (some ⟨b, 0, none⟩))) (hm : w.cell? pm = some (.int .i64 m)) (h : Rd w b s a 0) (hs : s.size ≤ 9223372036854775807) (hm1 : m ≤ 9223372036854775807) (he : (upR s a m 5).2.2 ≠ 0) :
    Calls Tryz.prog 95 #[.pointer (some pr), .pointer (some pm), .pointer (some pn)] w fun e w' => e = .panicked [thrown (upR s a m 5).2.2] ∧ ∃ a', RB b s a' w w' := by
  have hu := upTo_any b s a m 5 w h hs hm1 (by decide)
  rw [if_neg he] at hu
  have HU := Lib.hid hu
  clear hu h he
  go_enter Tryz.func95, Tryz.ntmps95
  go_wp2_with fail
  refine HU.out.mono ?_
  rintro e w1 ⟨rfl, hb⟩
  have HB := Lib.hid hb; clear hb
  go_wp2
  exact ⟨rfl, rfl, _, HB.out⟩
set_option maxRecDepth 100000 in
set_option maxHeartbeats 1600000 in
theorem sBig_good (pr pn : Addr) (b : Nat) (s : ByteArray) (a : Int) (v0 : Value) (w : World) (hr : w.cell? pr = some (.pointer (some ⟨b, 0, none⟩))) (hn : w.cell? pn = some v0) (hz : w.frozen? pn = false) (hp : pn.block ≠ b) (h : Rd w b s a 0) (hs : s.size ≤ 9223372036854775807) (he : (getR s a).2.2 = 0) :
    Calls Tryz.prog 127 #[.pointer (some pr), .pointer (some pn)] w fun e w' => e = .returned (.tuple #[]) ∧ RC b pn s (getR s a).2.1 (.int .u64 (getR s a).1) w w' := by
  have HU := Lib.hid (rbig_good b s a w h hs he); have HN := Lib.hid hn; have HZ := Lib.hid hz
  have hl := World.block_lt_of_cell? w _ hn
  clear hn hz h he
  go_enter Tryz.func127, Tryz.ntmps127
  go_wp2_with fail
  refine HU.out.mono ?_
  rintro e w1 ⟨rfl, hb⟩
  have n1 := hb.1.cell (a := pn) hp HN.out
  have z1 : w1.frozen? pn = false := by rw [hb.1.frozen hl hp]; exact HZ.out
  have HF := Lib.hid (RC.of (v := .int .u64 (getR s a).1) hb n1 hp)
  clear hb
  go_wp2
  go_end0
  exact ⟨rfl, HF.out⟩
set_option maxRecDepth 100000 in
set_option maxHeartbeats 1600000 in
theorem sBig_bad (pr pn : Addr) (b : Nat) (s : ByteArray) (a : Int) (w : World) (hr : w.cell? pr = some (.pointer (some ⟨b, 0, none⟩))) (h : Rd w b s a 0) (hs : s.size ≤ 9223372036854775807) (he : (getR s a).2.2 ≠ 0) :
    Calls Tryz.prog 127 #[.pointer (some pr), .pointer (some pn)] w fun e w' => e = .panicked [thrown (getR s a).2.2] ∧ ∃ a', RB b s a' w w' := by
  have HU := Lib.hid (rbig_bad b s a w h hs he)
  clear h he
  go_enter Tryz.func127, Tryz.ntmps127
  go_wp2_with fail
  refine HU.out.mono ?_
  rintro e w1 ⟨rfl, hb⟩
  have HB := Lib.hid hb; clear hb
  go_wp2
  exact ⟨rfl, rfl, _, HB.out⟩
theorem two_lay (w : World) (u v : Value) (t t' : TypeId) : Below w.heap.size w ((w.alloc (.cells #[u] t)).alloc (.cells #[v] t')) := ((Below.refl _ _).alloc (Nat.le_refl _) _).alloc (by simp) _
theorem But.fresh {S T : Nat → Prop} {w w1 w2 : World} (h : But S w w1) (h2 : But T w1 w2) (hT : ∀ k, k < w.heap.size → T k → S k) : But S w w2 :=
  ⟨h2.os.trans h.os, h2.tape.trans h.tape, h2.output.trans h.output, Nat.le_trans h.size h2.size, fun k hk hS => (h2.block k (Nat.lt_of_lt_of_le hk h.size) (fun ht => hS (hT k hk ht))).trans (h.block k hk hS)⟩
/-- What a reader answers and keeps: the answer, the place, the error. -/
def numR (s : ByteArray) (a x m : Int) : Int × Int × Int := if x ≠ 0 then (0, a, x) else ((if (upR s a m 5).2.2 = 0 then (upR s a m 5).1 else 0), (upR s a m 5).2.1, (upR s a m 5).2.2)
def bigR (s : ByteArray) (a x : Int) : Int × Int × Int := if x ≠ 0 then (0, a, x) else ((if (getR s a).2.2 = 0 then (getR s a).1 else 0), (getR s a).2.1, (getR s a).2.2)
/-- The reader has a place, whichever, behind an error. -/
def RE (w : World) (b : Nat) (s : ByteArray) (a x : Int) : Prop := if x = 0 then Rd w b s a 0 else ∃ a', Rd w b s a' x
theorem RE.good {w : World} {b : Nat} {s : ByteArray} {a : Int} (h : Rd w b s a 0) : RE w b s a 0 := by unfold RE; rw [if_pos rfl]; exact h
theorem RE.bad {w : World} {b : Nat} {s : ByteArray} {a a' x : Int} (hx : x ≠ 0) (h : Rd w b s a' x) : RE w b s a x := by unfold RE; rw [if_neg hx]; exact ⟨a', h⟩
theorem lay2 (w : World) (p z : Value) (t1 t3 : TypeId) : Below w.heap.size w ((w.alloc (.cells #[p] t1)).alloc (.cells #[z] t3)) ∧ ((w.alloc (.cells #[p] t1)).alloc (.cells #[z] t3)).cell? ⟨w.heap.size, 0, none⟩ = some p ∧ ((w.alloc (.cells #[p] t1)).alloc (.cells #[z] t3)).cell? ⟨w.heap.size + 1, 0, none⟩ = some z ∧ ((w.alloc (.cells #[p] t1)).alloc (.cells #[z] t3)).frozen? ⟨w.heap.size + 1, 0, none⟩ = false := by
  refine ⟨two_lay w p z t1 t3, ?_, ?_, ?_⟩ <;> simp
theorem lay3 (w : World) (p v z : Value) (t1 t2 t3 : TypeId) : Below w.heap.size w (((w.alloc (.cells #[p] t1)).alloc (.cells #[v] t2)).alloc (.cells #[z] t3)) ∧ (((w.alloc (.cells #[p] t1)).alloc (.cells #[v] t2)).alloc (.cells #[z] t3)).cell? ⟨w.heap.size, 0, none⟩ = some p ∧ (((w.alloc (.cells #[p] t1)).alloc (.cells #[v] t2)).alloc (.cells #[z] t3)).cell? ⟨w.heap.size + 1, 0, none⟩ = some v ∧ (((w.alloc (.cells #[p] t1)).alloc (.cells #[v] t2)).alloc (.cells #[z] t3)).cell? ⟨w.heap.size + 1 + 1, 0, none⟩ = some z ∧ (((w.alloc (.cells #[p] t1)).alloc (.cells #[v] t2)).alloc (.cells #[z] t3)).frozen? ⟨w.heap.size + 1 + 1, 0, none⟩ = false := by
  obtain ⟨a0, a1, a2, _⟩ := lay2 w p v t1 t2
  have hsz : ((w.alloc (.cells #[p] t1)).alloc (.cells #[v] t2)).heap.size = w.heap.size + 1 + 1 := by simp
  generalize (w.alloc (.cells #[p] t1)).alloc (.cells #[v] t2) = W at a0 a1 a2 hsz ⊢
  have hb : Below W.heap.size W (W.alloc (.cells #[z] t3)) := (Below.refl _ _).alloc (Nat.le_refl _) _
  refine ⟨a0.alloc (by omega) _, cell_below hb a1, cell_below hb a2, ?_, ?_⟩
  · rw [← hsz]; simp
  · rw [← hsz]; simp
set_option maxRecDepth 100000 in
set_option maxHeartbeats 1600000 in
theorem rNum_any (b : Nat) (s : ByteArray) (a x m : Int) (w : World) (h : Rd w b s a x) (hs : s.size ≤ 9223372036854775807) (hm : m ≤ 9223372036854775807) :
    Calls Tryz.prog 47 #[.pointer (some ⟨b, 0, none⟩), .int .i64 m] w fun e w' => e = .returned (.int .i64 (numR s a x m).1) ∧ RE w' b s (numR s a x m).2.1 (numR s a x m).2.2 ∧ But (Own b) w w' := by
  have hmf : ∀ (fn : Fn) (first cap : Array Value) (w : World), (Instr.makeFunc fn first cap).run Tryz.prog w = .ok (.func fn first cap) w := fun _ _ _ _ => rfl
  obtain ⟨W, hW⟩ : ∃ W, W = (((w.alloc (.cells #[.pointer (some ⟨b, 0, none⟩)] 87)).alloc (.cells #[.int .i64 m] 3)).alloc (.cells #[.int .i64 0] 3)) := ⟨_, rfl⟩
  have hl := lay3 w (.pointer (some ⟨b, 0, none⟩)) (.int .i64 m) (.int .i64 0) 87 3 3
  rw [← hW] at hl
  obtain ⟨l0, l1, l2, l3, l4⟩ := hl
  have H1 := Lib.hid (h.below l0)
  have HB := Lib.hid (But.of_below (S := Own b) l0)
  have hlt := h.lt
  have k1 := rBox_below W (.pointer (some ⟨b, 0, none⟩))
  have H2 := Lib.hid (H1.out.below k1)
  have HB2 := Lib.hid (But.of_below (S := Own b) k1)
  have L1 := Lib.hid (cell_below k1 l1); have L2 := Lib.hid (cell_below k1 l2); have L3 := Lib.hid (cell_below k1 l3)
  have L4 : Hid ((rBox W (.pointer (some ⟨b, 0, none⟩))).frozen? ⟨w.heap.size + 1 + 1, 0, none⟩ = false) := Lib.hid (by rw [k1.frozen (World.block_lt_of_cell? W _ l3)]; exact l4)
  have HW := Lib.hid hW; have M3 := Lib.hid l3
  have hF : ∀ u, Sem.run Tryz.prog (callFunc 95 #[.pointer (some ⟨w.heap.size, 0, none⟩), .pointer (some ⟨w.heap.size + 1, 0, none⟩), .pointer (some ⟨w.heap.size + 1 + 1, 0, none⟩)]) u = .ok (.enter 95 #[.pointer (some ⟨w.heap.size, 0, none⟩), .pointer (some ⟨w.heap.size + 1, 0, none⟩), .pointer (some ⟨w.heap.size + 1 + 1, 0, none⟩)]) u := fun _ => rfl
  have hd : w.heap.size + 1 + 1 ≠ b := by omega
  have HFn := Lib.hid hF
  clear h l0 l1 l2 l3 l4 k1 hF
  go_enter Tryz.func47, Tryz.ntmps47
  go_wp2_with fail
  rw [← HW.out]
  refine Calls.mono (R := fun e w' => e = .returned (.tuple #[]) ∧ w'.cell? ⟨w.heap.size + 1 + 1, 0, none⟩ = some (.int .i64 (numR s a x m).1) ∧ RE w' b s (numR s a x m).2.1 (numR s a x m).2.2 ∧ But (Own b) w w') ?_ ?_
  · by_cases hx : x = 0
    · subst hx
      by_cases hu : (upR s a m 5).2.2 = 0
      · have hq : numR s a 0 m = ((upR s a m 5).1, (upR s a m 5).2.1, 0) := by unfold numR; rw [if_neg (by simp), if_pos hu, hu]
        rw [hq]
        refine (take_good b s a _ _ _ HFn.out _ H1.out (sNum_good _ _ _ b s a m _ _ L1.out L2.out L3.out L4.out hd H2.out hs hm hu)).mono ?_
        rintro e w1 ⟨rfl, r1, r2, r3⟩
        refine ⟨rfl, r3, RE.good r2, (HB.out.trans HB2.out).fresh r1 (fun k hk hS => ?_)⟩
        rcases hS with hS | hS
        · exact hS
        · simp only at hS; omega
      · have hq : numR s a 0 m = (0, (upR s a m 5).2.1, (upR s a m 5).2.2) := by unfold numR; rw [if_neg (by simp), if_neg hu]
        rw [hq]
        refine (take_bad b s a _ _ _ HFn.out _ H1.out (sNum_bad _ _ _ b s a m _ L1.out L2.out H2.out hs hm hu)).mono ?_
        rintro e w1 ⟨rfl, a', r1, r2⟩
        exact ⟨rfl, r1.cell (a := ⟨w.heap.size + 1 + 1, 0, none⟩) hd M3.out, RE.bad hu r2, HB.out.trans r1⟩
    · have hq : numR s a x m = (0, a, x) := by unfold numR; rw [if_pos hx]
      rw [hq]
      refine (take_err b s a x _ _ H1.out hx).mono ?_
      rintro e w1 ⟨rfl, r1⟩
      exact ⟨rfl, cell_below r1 M3.out, RE.bad hx (H1.out.below r1), HB.out.trans (But.of_below r1)⟩
  rintro e w1 ⟨rfl, r1, r2, r3⟩
  have R2 := Lib.hid r2; have R3 := Lib.hid r3; clear r2 r3
  go_wp2
  go_ret
  exact ⟨rfl, R2.out, R3.out⟩
set_option maxRecDepth 100000 in
set_option maxHeartbeats 1600000 in
theorem rBig_any (b : Nat) (s : ByteArray) (a x : Int) (w : World) (h : Rd w b s a x) (hs : s.size ≤ 9223372036854775807) :
    Calls Tryz.prog 98 #[.pointer (some ⟨b, 0, none⟩)] w fun e w' => e = .returned (.int .u64 (bigR s a x).1) ∧ RE w' b s (bigR s a x).2.1 (bigR s a x).2.2 ∧ But (Own b) w w' := by
  have hmf : ∀ (fn : Fn) (first cap : Array Value) (w : World), (Instr.makeFunc fn first cap).run Tryz.prog w = .ok (.func fn first cap) w := fun _ _ _ _ => rfl
  obtain ⟨W, hW⟩ : ∃ W, W = ((w.alloc (.cells #[.pointer (some ⟨b, 0, none⟩)] 87)).alloc (.cells #[.int .u64 0] 22)) := ⟨_, rfl⟩
  have hl := lay2 w (.pointer (some ⟨b, 0, none⟩)) (.int .u64 0) 87 22
  rw [← hW] at hl
  obtain ⟨l0, l1, l3, l4⟩ := hl
  have H1 := Lib.hid (h.below l0)
  have HB := Lib.hid (But.of_below (S := Own b) l0)
  have hlt := h.lt
  have k1 := rBox_below W (.pointer (some ⟨b, 0, none⟩))
  have H2 := Lib.hid (H1.out.below k1)
  have HB2 := Lib.hid (But.of_below (S := Own b) k1)
  have L1 := Lib.hid (cell_below k1 l1); have L3 := Lib.hid (cell_below k1 l3)
  have L4 : Hid ((rBox W (.pointer (some ⟨b, 0, none⟩))).frozen? ⟨w.heap.size + 1, 0, none⟩ = false) := Lib.hid (by rw [k1.frozen (World.block_lt_of_cell? W _ l3)]; exact l4)
  have HW := Lib.hid hW; have M3 := Lib.hid l3
  have hF : ∀ u, Sem.run Tryz.prog (callFunc 127 #[.pointer (some ⟨w.heap.size, 0, none⟩), .pointer (some ⟨w.heap.size + 1, 0, none⟩)]) u = .ok (.enter 127 #[.pointer (some ⟨w.heap.size, 0, none⟩), .pointer (some ⟨w.heap.size + 1, 0, none⟩)]) u := fun _ => rfl
  have hd : w.heap.size + 1 ≠ b := by omega
  have HFn := Lib.hid hF
  clear h l0 l1 l3 l4 k1 hF
  go_enter Tryz.func98, Tryz.ntmps98
  go_wp2_with fail
  rw [← HW.out]
  refine Calls.mono (R := fun e w' => e = .returned (.tuple #[]) ∧ w'.cell? ⟨w.heap.size + 1, 0, none⟩ = some (.int .u64 (bigR s a x).1) ∧ RE w' b s (bigR s a x).2.1 (bigR s a x).2.2 ∧ But (Own b) w w') ?_ ?_
  · by_cases hx : x = 0
    · subst hx
      by_cases hu : (getR s a).2.2 = 0
      · have hq : bigR s a 0 = ((getR s a).1, (getR s a).2.1, 0) := by unfold bigR; rw [if_neg (by simp), if_pos hu, hu]
        rw [hq]
        refine (take_good b s a _ _ _ HFn.out _ H1.out (sBig_good _ _ b s a _ _ L1.out L3.out L4.out hd H2.out hs hu)).mono ?_
        rintro e w1 ⟨rfl, r1, r2, r3⟩
        refine ⟨rfl, r3, RE.good r2, (HB.out.trans HB2.out).fresh r1 (fun k hk hS => ?_)⟩
        rcases hS with hS | hS
        · exact hS
        · simp only at hS; omega
      · have hq : bigR s a 0 = (0, (getR s a).2.1, (getR s a).2.2) := by unfold bigR; rw [if_neg (by simp), if_neg hu]
        rw [hq]
        refine (take_bad b s a _ _ _ HFn.out _ H1.out (sBig_bad _ _ b s a _ L1.out H2.out hs hu)).mono ?_
        rintro e w1 ⟨rfl, a', r1, r2⟩
        exact ⟨rfl, r1.cell (a := ⟨w.heap.size + 1, 0, none⟩) hd M3.out, RE.bad hu r2, HB.out.trans r1⟩
    · have hq : bigR s a x = (0, a, x) := by unfold bigR; rw [if_pos hx]
      rw [hq]
      refine (take_err b s a x _ _ H1.out hx).mono ?_
      rintro e w1 ⟨rfl, r1⟩
      exact ⟨rfl, cell_below r1 M3.out, RE.bad hx (H1.out.below r1), HB.out.trans (But.of_below r1)⟩
  rintro e w1 ⟨rfl, r1, r2, r3⟩
  have R2 := Lib.hid r2; have R3 := Lib.hid r3; clear r2 r3
  go_wp2
  go_ret
  exact ⟨rfl, R2.out, R3.out⟩
end Go.Proofs.YtcbagajjgbfgdaaGreat

/- Texts cut and put together: runs as equations. Conditions: none. -/
namespace Go.Proofs.YtcbagajjgbfgdaaGreat
open Go.RowKit

theorem slice_run (s : ByteArray) (i j : Nat) (I J : Int) (hI : I = (i : Int)) (hJ : J = (j : Int)) (hij : i ≤ j) (hj : j ≤ s.size) (w : World) :
    (Instr.slice 9 (.string s) (some (.int .i64 I)) (some (.int .i64 J)) none).run Tryz.prog w = .ok (.string (s.extract i j)) w := by
  subst hI hJ
  rw [run_slice_string_if w 9 s .i64 .i64 (i : Int) (j : Int) Tryz.underlying9, if_pos ⟨by omega, by omega⟩, if_pos ⟨by omega, by omega⟩]
  simp
theorem concat_run (x y : ByteArray) (h : x.size + y.size ≤ 9223372036854775807) (w : World) : (Op.stringOp .add x y).run Tryz.prog w = .ok (.string (x ++ y)) w := run_string_add_sum w x y h
end Go.Proofs.YtcbagajjgbfgdaaGreat

/- Package wire: a reader's texts. Conditions: texts of at most 2^63-1 bytes. -/
namespace Go.Proofs.YtcbagajjgbfgdaaGreat
open Go.RowKit Go.PlainAid

/-- What lies in a cell. -/
def PV (p : Addr) (w : World) : Value := (w.cell? p).getD (.bool false)
theorem pv_some {p : Addr} {w : World} {v : Value} (h : w.cell? p = some v) : w.cell? p = some (PV p w) := by unfold PV; rw [h]; rfl
def SX (pr pn : Addr) (b : Nat) (s : ByteArray) (a2 : Nat) (w' : World) : Prop := w'.cell? pr = some (.pointer (some ⟨b, 0, none⟩)) ∧ w'.cell? ⟨b, 1, none⟩ = some (.string s) ∧ w'.cell? ⟨b, 2, none⟩ = some (.int .i64 a2) ∧ w'.cell? pn = some (PV pn w') ∧ w'.frozen? pn = false
theorem SX.set {pr pn : Addr} {b : Nat} {s : ByteArray} {a2 : Nat} {w' : World} (hpp : pr.block ≠ pn.block) (hp : pn.block ≠ b) (h : w'.cell? pr = some (.pointer (some ⟨b, 0, none⟩)) ∧ w'.cell? ⟨b, 1, none⟩ = some (.string s) ∧ w'.cell? ⟨b, 2, none⟩ = some (.int .i64 a2) ∧ w'.cell? pn = some (PV pn w') ∧ w'.frozen? pn = false) (v : Value) : SX pr pn b s a2 (w'.setCell pn v) := by
  obtain ⟨h1, h2, h3, h4, h5⟩ := h
  refine ⟨?_, ?_, ?_, pv_some (World.cell?_setCell_same _ _ _ h4), by rw [World.frozen?_setCell]; exact h5⟩
  · rw [World.cell?_setCell_far _ _ _ _ (fun e => hpp e.symm)]; exact h1
  · rw [World.cell?_setCell_far _ _ _ _ hp]; exact h2
  · rw [World.cell?_setCell_far _ _ _ _ hp]; exact h3
theorem RC.pos {b : Nat} {p : Addr} {s : ByteArray} {a : Int} {v : Value} {w w' : World} (h : RC b p s a v w w') (hp : p.block ≠ b) (a' : Int) : RC b p s a' v w (w'.setCell ⟨b, 2, none⟩ (.int .i64 a')) :=
  ⟨h.1.setCell (p := ⟨b, 2, none⟩) (fun _ => Or.inl rfl) _, h.2.1.setPos a', by rw [World.cell?_setCell_far _ _ _ _ (fun e => hp e.symm)]; exact h.2.2⟩
set_option maxRecDepth 100000 in
set_option maxHeartbeats 1600000 in
theorem sText_good (pr pm pn : Addr) (b : Nat) (s : ByteArray) (a m : Int) (n a2 : Nat) (v0 : Value) (w : World) (hr : w.cell? pr = some (.pointer (some ⟨b, 0, none⟩))) (hm : w.cell? pm = some (.int .i64 m)) (hn : w.cell? pn = some v0) (hz : w.frozen? pn = false) (hp : pn.block ≠ b) (hpr : pr.block ≠ b) (hpp : pr.block ≠ pn.block) (h : Rd w b s a 0) (hs : s.size ≤ 9223372036854775807) (hm1 : m ≤ 9223372036854775807) (he : upR s a m 3 = ((n : Int), (a2 : Int), 0)) (hle : a2 + n ≤ s.size) :
    Calls Tryz.prog 128 #[.pointer (some pr), .pointer (some pm), .pointer (some pn)] w fun e w' => e = .returned (.tuple #[]) ∧ RC b pn s ((a2 : Int) + n) (.string (s.extract a2 (a2 + n))) w w' := by
  have hu := upTo_any b s a m 3 w h hs hm1 (by decide)
  rw [he] at hu
  dsimp only at hu
  rw [if_pos rfl] at hu
  have HU := Lib.hid hu; have HN := Lib.hid hn; have HZ := Lib.hid hz; have HR := Lib.hid hr
  have hl := World.block_lt_of_cell? w _ hn
  have hsub : IntKind.i64.wrap ((s.size : Int) - (a2 : Int)) = (s.size : Int) - (a2 : Int) := IntWalk.i64_in _ ⟨by omega, by omega⟩
  have hadd : IntKind.i64.wrap ((a2 : Int) + (n : Int)) = (a2 : Int) + (n : Int) := IntWalk.i64_in _ ⟨by omega, by omega⟩
  have hlt : ¬ ((s.size : Int) - (a2 : Int) < (n : Int)) := by omega
  have hsl := slice_run s a2 (a2 + n) (a2 : Int) ((a2 : Int) + (n : Int)) rfl (by omega) (by omega) (by omega)
  clear hu hn hz h he
  go_enter Tryz.func128, Tryz.ntmps128
  go_wp2_with fail
  refine HU.out.mono ?_
  rintro e w1 ⟨rfl, hb⟩
  have r1 := hb.1.cell (a := pr) hpr HR.out
  have n1 := hb.1.cell (a := pn) hp HN.out
  have z1 : w1.frozen? pn = false := by rw [hb.1.frozen hl hp]; exact HZ.out
  have c1 := hb.2.txt; have c2 := hb.2.pos; have c3 := hb.2.fr2
  have HB := Lib.hid hb
  clear hb hr
  go_wp2_with fail
  go_quiet (fail)
  go_wp2_with fail
  obtain ⟨w2, hw2⟩ : ∃ w2, w2 = w1.drewN nq := ⟨_, rfl⟩
  have d1 : w2.drew.cell? pr = some (.pointer (some ⟨b, 0, none⟩)) := by rw [hw2]; exact r1
  have d4 : w2.drew.cell? pn = some v0 := by rw [hw2]; exact n1
  have d5 : w2.drew.frozen? pn = false := by rw [hw2]; exact z1
  have HB2 : Hid (RB b s a2 w w2.drew) := Lib.hid (by rw [hw2]; exact ⟨(HB.out.1.draws nq).draws 1, HB.out.2.below (below_draws (below_draws (Below.refl _ _) nq) 1)⟩)
  have HS : Hid (SX pr pn b s a2 w2.drew) := Lib.hid ⟨d1, HB2.out.2.txt, HB2.out.2.pos, pv_some d4, d5⟩
  have HD := Lib.hid d4; have HE := Lib.hid d1
  have HF := Lib.hid (RC.of (v := .string (s.extract a2 (a2 + n))) HB2.out d4 hp)
  rw [← hw2]
  clear r1 n1 z1 c1 c2 c3 hw2 HB d1 d4 d5
  go_region_held3 (fun w' => w'.cell? pr = some (.pointer (some ⟨b, 0, none⟩)) ∧ w'.cell? ⟨b, 1, none⟩ = some (.string s) ∧ w'.cell? ⟨b, 2, none⟩ = some (.int .i64 a2) ∧ w'.cell? pn = some (PV pn w') ∧ w'.frozen? pn = false) (first | exact HS.out | exact SX.set hpp hp (by assumption) _ | assumption) (fail)
  have e1 : (w2.setCell pn (.string (s.extract a2 (a2 + n)))).drew.cell? pr = some (.pointer (some ⟨b, 0, none⟩)) := (World.cell?_setCell_far w2.drew pn pr _ (fun e => hpp e.symm)).trans HE.out
  have e2 : (w2.setCell pn (.string (s.extract a2 (a2 + n)))).drew.cell? ⟨b, 2, none⟩ = some (.int .i64 a2) := HF.out.2.1.pos
  have e3 : (w2.setCell pn (.string (s.extract a2 (a2 + n)))).drew.frozen? ⟨b, 2, none⟩ = false := HF.out.2.1.fr2
  have HG := Lib.hid (HF.out.pos hp ((a2 : Int) + n))
  rename_i hHeld
  clear hHeld
  go_wp2
  go_end0
  exact ⟨rfl, HG.out⟩
set_option maxRecDepth 100000 in
set_option maxHeartbeats 1600000 in
theorem sText_bad (pr pm pn : Addr) (b : Nat) (s : ByteArray) (a m : Int) (w : World) (hr : w.cell? pr = some (.pointer (some ⟨b, 0, none⟩))) (hm : w.cell? pm = some (.int .i64 m)) (h : Rd w b s a 0) (hs : s.size ≤ 9223372036854775807) (hm1 : m ≤ 9223372036854775807) (he : (upR s a m 3).2.2 ≠ 0) :
    Calls Tryz.prog 128 #[.pointer (some pr), .pointer (some pm), .pointer (some pn)] w fun e w' => e = .panicked [thrown (upR s a m 3).2.2] ∧ ∃ a', RB b s a' w w' := by
  have hu := upTo_any b s a m 3 w h hs hm1 (by decide)
  rw [if_neg he] at hu
  have HU := Lib.hid hu
  clear hu h he
  go_enter Tryz.func128, Tryz.ntmps128
  go_wp2_with fail
  refine HU.out.mono ?_
  rintro e w1 ⟨rfl, hb⟩
  have HB := Lib.hid hb; clear hb
  go_wp2
  exact ⟨rfl, rfl, _, HB.out⟩
set_option maxRecDepth 100000 in
set_option maxHeartbeats 1600000 in
theorem sText_short (pr pm pn : Addr) (b : Nat) (s : ByteArray) (a m : Int) (n a2 : Nat) (w : World) (hr : w.cell? pr = some (.pointer (some ⟨b, 0, none⟩))) (hm : w.cell? pm = some (.int .i64 m)) (hpr : pr.block ≠ b) (h : Rd w b s a 0) (hs : s.size ≤ 9223372036854775807) (hm1 : m ≤ 9223372036854775807) (he : upR s a m 3 = ((n : Int), (a2 : Int), 0)) (ha : a2 ≤ s.size) (hle : ¬ a2 + n ≤ s.size) :
    Calls Tryz.prog 128 #[.pointer (some pr), .pointer (some pm), .pointer (some pn)] w fun e w' => e = .panicked [thrown 2] ∧ ∃ a', RB b s a' w w' := by
  have hu := upTo_any b s a m 3 w h hs hm1 (by decide)
  rw [he] at hu
  dsimp only at hu
  rw [if_pos rfl] at hu
  have HU := Lib.hid hu; have HR := Lib.hid hr
  have hsub : IntKind.i64.wrap ((s.size : Int) - (a2 : Int)) = (s.size : Int) - (a2 : Int) := IntWalk.i64_in _ ⟨by omega, by omega⟩
  have hlt : ((s.size : Int) - (a2 : Int) < (n : Int)) := by omega
  clear hu h he
  go_enter Tryz.func128, Tryz.ntmps128
  go_wp2_with fail
  refine HU.out.mono ?_
  rintro e w1 ⟨rfl, hb⟩
  have r1 := hb.1.cell (a := pr) hpr HR.out
  have c1 := hb.2.txt; have c2 := hb.2.pos
  have HB := Lib.hid hb
  clear hb hr
  go_wp2_with fail
  go_quiet (fail)
  have HB2 : Hid (RB b s a2 w (w1.drewN nq)) := Lib.hid ⟨HB.out.1.draws nq, HB.out.2.below (below_draws (Below.refl _ _) nq)⟩
  go_wp2
  exact ⟨rfl, rfl, _, HB2.out⟩
theorem getR_pos {s : ByteArray} {a g1 g2 : Int} (h : getR s a = (g1, g2, 0)) : 0 ≤ g2 ∧ g2 ≤ s.size := by
  unfold getR at h
  split at h
  · simp at h
  rename_i h1
  have h2 : 0 ≤ a ∧ a ≤ s.size := by omega
  split at h
  · simp at h
  rename_i h3
  split at h
  · simp only [Prod.mk.injEq] at h; omega
  rename_i h4
  split at h
  · simp at h
  rename_i h5
  split at h
  · simp only [Prod.mk.injEq] at h; omega
  · simp at h
theorem upR_good {s : ByteArray} {a m x : Int} (hx : x ≠ 0) (h : (upR s a m x).2.2 = 0) : ∃ n a2 : Nat, upR s a m x = ((n : Int), (a2 : Int), 0) ∧ a2 ≤ s.size := by
  have hr := getR_range s a
  rcases hg : getR s a with ⟨g1, g2, g3⟩
  rw [hg] at hr
  rw [upR_of hg] at h ⊢
  by_cases h3 : g3 = 0
  · subst h3
    have hp := getR_pos hg
    rw [if_neg (by simp)] at h ⊢
    by_cases hm : m < 0 ∨ m < g1
    · rw [if_pos hm] at h; exact absurd h hx
    · rw [if_neg hm]
      obtain ⟨n, rfl⟩ := Int.eq_ofNat_of_zero_le hr
      obtain ⟨k, rfl⟩ := Int.eq_ofNat_of_zero_le hp.1
      exact ⟨n, k, rfl, by omega⟩
  · rw [if_pos h3] at h; exact absurd h h3
/-- What Text answers and keeps. -/
def textR (s : ByteArray) (a x m : Int) : ByteArray × Int × Int :=
  if x ≠ 0 then (⟨#[]⟩, a, x) else if (upR s a m 3).2.2 ≠ 0 then (⟨#[]⟩, (upR s a m 3).2.1, (upR s a m 3).2.2)
  else if (s.size : Int) < (upR s a m 3).2.1 + (upR s a m 3).1 then (⟨#[]⟩, (upR s a m 3).2.1, 2)
  else (s.extract (upR s a m 3).2.1.toNat ((upR s a m 3).2.1.toNat + (upR s a m 3).1.toNat), (upR s a m 3).2.1 + (upR s a m 3).1, 0)
set_option maxRecDepth 100000 in
set_option maxHeartbeats 1600000 in
theorem rText_any (b : Nat) (s : ByteArray) (a x m : Int) (w : World) (h : Rd w b s a x) (hs : s.size ≤ 9223372036854775807) (hm : m ≤ 9223372036854775807) :
    Calls Tryz.prog 99 #[.pointer (some ⟨b, 0, none⟩), .int .i64 m] w fun e w' => e = .returned (.string (textR s a x m).1) ∧ RE w' b s (textR s a x m).2.1 (textR s a x m).2.2 ∧ But (Own b) w w' := by
  have hmf : ∀ (fn : Fn) (first cap : Array Value) (w : World), (Instr.makeFunc fn first cap).run Tryz.prog w = .ok (.func fn first cap) w := fun _ _ _ _ => rfl
  obtain ⟨W, hW⟩ : ∃ W, W = (((w.alloc (.cells #[.pointer (some ⟨b, 0, none⟩)] 87)).alloc (.cells #[.int .i64 m] 3)).alloc (.cells #[.string ⟨#[]⟩] 9)) := ⟨_, rfl⟩
  have hl := lay3 w (.pointer (some ⟨b, 0, none⟩)) (.int .i64 m) (.string ⟨#[]⟩) 87 3 9
  rw [← hW] at hl
  obtain ⟨l0, l1, l2, l3, l4⟩ := hl
  have H1 := Lib.hid (h.below l0)
  have HB := Lib.hid (But.of_below (S := Own b) l0)
  have hlt := h.lt
  have k1 := rBox_below W (.pointer (some ⟨b, 0, none⟩))
  have H2 := Lib.hid (H1.out.below k1)
  have HB2 := Lib.hid (But.of_below (S := Own b) k1)
  have L1 := Lib.hid (cell_below k1 l1); have L2 := Lib.hid (cell_below k1 l2); have L3 := Lib.hid (cell_below k1 l3)
  have L4 : Hid ((rBox W (.pointer (some ⟨b, 0, none⟩))).frozen? ⟨w.heap.size + 1 + 1, 0, none⟩ = false) := Lib.hid (by rw [k1.frozen (World.block_lt_of_cell? W _ l3)]; exact l4)
  have HW := Lib.hid hW; have M3 := Lib.hid l3
  have hF : ∀ u, Sem.run Tryz.prog (callFunc 128 #[.pointer (some ⟨w.heap.size, 0, none⟩), .pointer (some ⟨w.heap.size + 1, 0, none⟩), .pointer (some ⟨w.heap.size + 1 + 1, 0, none⟩)]) u = .ok (.enter 128 #[.pointer (some ⟨w.heap.size, 0, none⟩), .pointer (some ⟨w.heap.size + 1, 0, none⟩), .pointer (some ⟨w.heap.size + 1 + 1, 0, none⟩)]) u := fun _ => rfl
  have hd : w.heap.size + 1 + 1 ≠ b := by omega
  have HFn := Lib.hid hF
  clear h l0 l1 l2 l3 l4 k1 hF
  go_enter Tryz.func99, Tryz.ntmps99
  go_wp2_with fail
  rw [← HW.out]
  refine Calls.mono (R := fun e w' => e = .returned (.tuple #[]) ∧ w'.cell? ⟨w.heap.size + 1 + 1, 0, none⟩ = some (.string (textR s a x m).1) ∧ RE w' b s (textR s a x m).2.1 (textR s a x m).2.2 ∧ But (Own b) w w') ?_ ?_
  · by_cases hx : x = 0
    · subst hx
      by_cases hu : (upR s a m 3).2.2 = 0
      · obtain ⟨n, a2, hn, ha2⟩ := upR_good (by decide) hu
        by_cases hle : a2 + n ≤ s.size
        · have hq : textR s a 0 m = (s.extract a2 (a2 + n), (a2 : Int) + n, 0) := by unfold textR; rw [if_neg (by simp), hn, if_neg (by simp), if_neg (by simp only; omega)]; simp
          rw [hq]
          refine (take_good b s a _ _ _ HFn.out _ H1.out (sText_good _ _ _ b s a m n a2 _ _ L1.out L2.out L3.out L4.out hd (by simp only; omega) (by simp only; omega) H2.out hs hm hn hle)).mono ?_
          rintro e w1 ⟨rfl, r1, r2, r3⟩
          refine ⟨rfl, r3, RE.good r2, (HB.out.trans HB2.out).fresh r1 (fun k hk hS => ?_)⟩
          rcases hS with hS | hS
          · exact hS
          · simp only at hS; omega
        · have hq : textR s a 0 m = (⟨#[]⟩, (a2 : Int), 2) := by unfold textR; rw [if_neg (by simp), hn, if_neg (by simp), if_pos (by simp only; omega)]
          rw [hq]
          refine (take_bad b s a _ _ _ HFn.out _ H1.out (sText_short _ _ _ b s a m n a2 _ L1.out L2.out (by simp only; omega) H2.out hs hm hn ha2 hle)).mono ?_
          rintro e w1 ⟨rfl, a', r1, r2⟩
          exact ⟨rfl, r1.cell (a := ⟨w.heap.size + 1 + 1, 0, none⟩) hd M3.out, RE.bad (by simp) r2, HB.out.trans r1⟩
      · have hq : textR s a 0 m = (⟨#[]⟩, (upR s a m 3).2.1, (upR s a m 3).2.2) := by unfold textR; rw [if_neg (by simp), if_pos hu]
        rw [hq]
        refine (take_bad b s a _ _ _ HFn.out _ H1.out (sText_bad _ _ _ b s a m _ L1.out L2.out H2.out hs hm hu)).mono ?_
        rintro e w1 ⟨rfl, a', r1, r2⟩
        exact ⟨rfl, r1.cell (a := ⟨w.heap.size + 1 + 1, 0, none⟩) hd M3.out, RE.bad hu r2, HB.out.trans r1⟩
    · have hq : textR s a x m = (⟨#[]⟩, a, x) := by unfold textR; rw [if_pos hx]
      rw [hq]
      refine (take_err b s a x _ _ H1.out hx).mono ?_
      rintro e w1 ⟨rfl, r1⟩
      exact ⟨rfl, cell_below r1 M3.out, RE.bad hx (H1.out.below r1), HB.out.trans (But.of_below r1)⟩
  rintro e w1 ⟨rfl, r1, r2, r3⟩
  have R2 := Lib.hid r2; have R3 := Lib.hid r3; clear r2 r3
  go_wp2
  go_ret
  exact ⟨rfl, R2.out, R3.out⟩
end Go.Proofs.YtcbagajjgbfgdaaGreat

/- Package wire: a reader's flags. Conditions: texts of at most 2^63-1 bytes. -/
namespace Go.Proofs.YtcbagajjgbfgdaaGreat
open Go.RowKit Go.PlainAid

theorem rd_draws {b : Nat} {s : ByteArray} {a : Int} {w : World} (h : Rd w b s a 0) (n : Nat) : RB b s a w (w.drewN n) := ⟨(But.refl _ _).draws n, h.below (below_draws (Below.refl _ _) n)⟩
theorem rd_draws2 {b : Nat} {s : ByteArray} {a : Int} {w : World} (h : Rd w b s a 0) (n k : Nat) : RB b s a w ((w.drewN n).drewN k) := ⟨((But.refl _ _).draws n).draws k, h.below (below_draws (below_draws (Below.refl _ _) n) k)⟩
set_option maxRecDepth 100000 in
set_option maxHeartbeats 1600000 in
theorem sFlag_end (pr pn : Addr) (b : Nat) (s : ByteArray) (w : World) (hr : w.cell? pr = some (.pointer (some ⟨b, 0, none⟩))) (h : Rd w b s s.size 0) (hs : s.size ≤ 9223372036854775807) :
    Calls Tryz.prog 126 #[.pointer (some pr), .pointer (some pn)] w fun e w' => e = .panicked [thrown 2] ∧ ∃ a', RB b s a' w w' := by
  have H := Lib.hid h
  have c1 := h.txt; have c2 := h.pos
  clear h
  go_enter Tryz.func126, Tryz.ntmps126
  go_wp2_with fail
  go_quiet (fail)
  have HB2 := Lib.hid (rd_draws H.out nq)
  go_wp2
  exact ⟨rfl, rfl, _, HB2.out⟩
set_option maxRecDepth 100000 in
set_option maxHeartbeats 1600000 in
theorem sFlag_form (pr pn : Addr) (b : Nat) (s : ByteArray) (a : Nat) (w : World) (hr : w.cell? pr = some (.pointer (some ⟨b, 0, none⟩))) (h : Rd w b s a 0) (hs : s.size ≤ 9223372036854775807) (ha : a < s.size) (hf : 1 < bt s a) :
    Calls Tryz.prog 126 #[.pointer (some pr), .pointer (some pn)] w fun e w' => e = .panicked [thrown 4] ∧ ∃ a', RB b s a' w w' := by
  have H := Lib.hid h
  have c1 := h.txt; have c2 := h.pos
  have hbt := get_bt s
  have hne : ((a : Int) == (s.size : Int)) = false := by simp; omega
  clear h
  go_enter Tryz.func126, Tryz.ntmps126
  go_wp2_with fail
  go_quiet (fail)
  obtain ⟨k1, hk1⟩ : ∃ k, k = nq := ⟨_, rfl⟩
  rw [← hk1]
  go_wp2_with fail
  go_quiet (fail)
  go_wp2
  exact ⟨rfl, rfl, _, rd_draws H.out _⟩
set_option maxRecDepth 100000 in
set_option maxHeartbeats 1600000 in
theorem sFlag_good (pr pn : Addr) (b : Nat) (s : ByteArray) (a : Nat) (v0 : Value) (w : World) (hr : w.cell? pr = some (.pointer (some ⟨b, 0, none⟩))) (hn : w.cell? pn = some v0) (hz : w.frozen? pn = false) (hp : pn.block ≠ b) (hpr : pr.block ≠ b) (hpp : pr.block ≠ pn.block) (h : Rd w b s a 0) (hs : s.size ≤ 9223372036854775807) (ha : a < s.size) (hf : ¬ 1 < bt s a) :
    Calls Tryz.prog 126 #[.pointer (some pr), .pointer (some pn)] w fun e w' => e = .returned (.tuple #[]) ∧ RC b pn s ((a : Int) + 1) (.bool (bt s a == 1)) w w' := by
  have H := Lib.hid h
  have c1 := h.txt; have c2 := h.pos
  have hbt := get_bt s
  have hne : ((a : Int) == (s.size : Int)) = false := by simp; omega
  have HN := Lib.hid hn; have HZ := Lib.hid hz; have HR := Lib.hid hr
  have hadd : IntKind.i64.wrap ((a : Int) + 1) = (a : Int) + 1 := IntWalk.i64_in _ ⟨by omega, by omega⟩
  clear h hn hz
  go_enter Tryz.func126, Tryz.ntmps126
  go_wp2_with fail
  go_quiet (fail)
  obtain ⟨k1, hk1⟩ : ∃ k, k = nq := ⟨_, rfl⟩
  rw [← hk1]
  go_wp2_with fail
  go_quiet (fail)
  go_wp2_with fail
  obtain ⟨w2, hw2⟩ : ∃ w2, w2 = (w.drewN k1).drewN nq := ⟨_, rfl⟩
  have d1 : w2.drew.cell? pr = some (.pointer (some ⟨b, 0, none⟩)) := by rw [hw2]; exact HR.out
  have d4 : w2.drew.cell? pn = some v0 := by rw [hw2]; exact HN.out
  have d5 : w2.drew.frozen? pn = false := by rw [hw2]; exact HZ.out
  have HB2 : Hid (RB b s a w w2.drew) := Lib.hid (by rw [hw2]; exact ⟨(rd_draws2 H.out k1 nq).1.draws 1, (rd_draws2 H.out k1 nq).2.below (below_draws (Below.refl _ _) 1)⟩)
  have HS : Hid (SX pr pn b s a w2.drew) := Lib.hid ⟨d1, HB2.out.2.txt, HB2.out.2.pos, pv_some d4, d5⟩
  have HD := Lib.hid d4; have HE := Lib.hid d1
  have HF := Lib.hid (RC.of (v := .bool (bt s a == 1)) HB2.out d4 hp)
  rw [← hw2]
  clear c1 c2 hw2 d1 d4 d5 hr
  go_region_held3 (fun w' => w'.cell? pr = some (.pointer (some ⟨b, 0, none⟩)) ∧ w'.cell? ⟨b, 1, none⟩ = some (.string s) ∧ w'.cell? ⟨b, 2, none⟩ = some (.int .i64 a) ∧ w'.cell? pn = some (PV pn w') ∧ w'.frozen? pn = false) (first | exact HS.out | exact SX.set hpp hp (by assumption) _ | assumption) (fail)
  have e1 : (w2.setCell pn (.bool (bt s a == 1))).drew.cell? pr = some (.pointer (some ⟨b, 0, none⟩)) := (World.cell?_setCell_far w2.drew pn pr _ (fun e => hpp e.symm)).trans HE.out
  have e2 : (w2.setCell pn (.bool (bt s a == 1))).drew.cell? ⟨b, 2, none⟩ = some (.int .i64 a) := HF.out.2.1.pos
  have e3 : (w2.setCell pn (.bool (bt s a == 1))).drew.frozen? ⟨b, 2, none⟩ = false := HF.out.2.1.fr2
  have HG := Lib.hid (HF.out.pos hp ((a : Int) + 1))
  rename_i hHeld
  clear hHeld
  go_wp2
  go_end0
  exact ⟨rfl, HG.out⟩
/-- What Flag answers and keeps. -/
def flagR (s : ByteArray) (a : Nat) (x : Int) : Bool × Int × Int :=
  if x ≠ 0 then (false, a, x) else if a = s.size then (false, a, 2) else if 1 < bt s a then (false, a, 4) else (bt s a == 1, (a : Int) + 1, 0)
set_option maxRecDepth 100000 in
set_option maxHeartbeats 1600000 in
theorem rFlag_any (b : Nat) (s : ByteArray) (a : Nat) (x : Int) (w : World) (h : Rd w b s a x) (hs : s.size ≤ 9223372036854775807) (ha : a ≤ s.size) :
    Calls Tryz.prog 97 #[.pointer (some ⟨b, 0, none⟩)] w fun e w' => e = .returned (.bool (flagR s a x).1) ∧ RE w' b s (flagR s a x).2.1 (flagR s a x).2.2 ∧ But (Own b) w w' := by
  have hmf : ∀ (fn : Fn) (first cap : Array Value) (w : World), (Instr.makeFunc fn first cap).run Tryz.prog w = .ok (.func fn first cap) w := fun _ _ _ _ => rfl
  obtain ⟨W, hW⟩ : ∃ W, W = ((w.alloc (.cells #[.pointer (some ⟨b, 0, none⟩)] 87)).alloc (.cells #[.bool false] 4)) := ⟨_, rfl⟩
  have hl := lay2 w (.pointer (some ⟨b, 0, none⟩)) (.bool false) 87 4
  rw [← hW] at hl
  obtain ⟨l0, l1, l3, l4⟩ := hl
  have H1 := Lib.hid (h.below l0)
  have HB := Lib.hid (But.of_below (S := Own b) l0)
  have hlt := h.lt
  have k1 := rBox_below W (.pointer (some ⟨b, 0, none⟩))
  have H2 := Lib.hid (H1.out.below k1)
  have HB2 := Lib.hid (But.of_below (S := Own b) k1)
  have L1 := Lib.hid (cell_below k1 l1); have L3 := Lib.hid (cell_below k1 l3)
  have L4 : Hid ((rBox W (.pointer (some ⟨b, 0, none⟩))).frozen? ⟨w.heap.size + 1, 0, none⟩ = false) := Lib.hid (by rw [k1.frozen (World.block_lt_of_cell? W _ l3)]; exact l4)
  have HW := Lib.hid hW; have M3 := Lib.hid l3
  have hF : ∀ u, Sem.run Tryz.prog (callFunc 126 #[.pointer (some ⟨w.heap.size, 0, none⟩), .pointer (some ⟨w.heap.size + 1, 0, none⟩)]) u = .ok (.enter 126 #[.pointer (some ⟨w.heap.size, 0, none⟩), .pointer (some ⟨w.heap.size + 1, 0, none⟩)]) u := fun _ => rfl
  have hd : w.heap.size + 1 ≠ b := by omega
  have HFn := Lib.hid hF
  clear h l0 l1 l3 l4 k1 hF
  go_enter Tryz.func97, Tryz.ntmps97
  go_wp2_with fail
  rw [← HW.out]
  refine Calls.mono (R := fun e w' => e = .returned (.tuple #[]) ∧ w'.cell? ⟨w.heap.size + 1, 0, none⟩ = some (.bool (flagR s a x).1) ∧ RE w' b s (flagR s a x).2.1 (flagR s a x).2.2 ∧ But (Own b) w w') ?_ ?_
  · by_cases hx : x = 0
    · subst hx
      by_cases hu : a = s.size
      · have hq : flagR s a 0 = (false, (a : Int), 2) := by unfold flagR; rw [if_neg (by simp), if_pos hu]
        rw [hq]
        have H3 : Rd (rBox W (.pointer (some ⟨b, 0, none⟩))) b s s.size 0 := by rw [← hu]; exact H2.out
        refine (take_bad b s a 2 _ _ HFn.out _ H1.out (sFlag_end _ _ b s _ L1.out H3 hs)).mono ?_
        rintro e w1 ⟨rfl, a', r1, r2⟩
        exact ⟨rfl, r1.cell (a := ⟨w.heap.size + 1, 0, none⟩) hd M3.out, RE.bad (by simp) r2, HB.out.trans r1⟩
      · by_cases hf : 1 < bt s a
        · have hq : flagR s a 0 = (false, (a : Int), 4) := by unfold flagR; rw [if_neg (by simp), if_neg hu, if_pos hf]
          rw [hq]
          refine (take_bad b s a 4 _ _ HFn.out _ H1.out (sFlag_form _ _ b s a _ L1.out H2.out hs (by omega) hf)).mono ?_
          rintro e w1 ⟨rfl, a', r1, r2⟩
          exact ⟨rfl, r1.cell (a := ⟨w.heap.size + 1, 0, none⟩) hd M3.out, RE.bad (by simp) r2, HB.out.trans r1⟩
        · have hq : flagR s a 0 = (bt s a == 1, (a : Int) + 1, 0) := by unfold flagR; rw [if_neg (by simp), if_neg hu, if_neg hf]
          rw [hq]
          refine (take_good b s a _ _ _ HFn.out _ H1.out (sFlag_good _ _ b s a _ _ L1.out L3.out L4.out hd (by simp only; omega) (by simp only; omega) H2.out hs (by omega) hf)).mono ?_
          rintro e w1 ⟨rfl, r1, r2, r3⟩
          refine ⟨rfl, r3, RE.good r2, (HB.out.trans HB2.out).fresh r1 (fun k hk hS => ?_)⟩
          rcases hS with hS | hS
          · exact hS
          · simp only at hS; omega
    · have hq : flagR s a x = (false, (a : Int), x) := by unfold flagR; rw [if_pos hx]
      rw [hq]
      refine (take_err b s a x _ _ H1.out hx).mono ?_
      rintro e w1 ⟨rfl, r1⟩
      exact ⟨rfl, cell_below r1 M3.out, RE.bad hx (H1.out.below r1), HB.out.trans (But.of_below r1)⟩
  rintro e w1 ⟨rfl, r1, r2, r3⟩
  have R2 := Lib.hid r2; have R3 := Lib.hid r3; clear r2 r3
  go_wp2
  go_ret
  exact ⟨rfl, R2.out, R3.out⟩
end Go.Proofs.YtcbagajjgbfgdaaGreat

/- Package wire: a reader is opened; what is left; one that nobody made. Conditions: texts of at most 2^63-1 bytes. -/
namespace Go.Proofs.YtcbagajjgbfgdaaGreat
open Go.RowKit Go.PlainAid

set_option maxRecDepth 100000 in
set_option maxHeartbeats 1600000 in
theorem open_any (s : ByteArray) (w : World) :
    Calls Tryz.prog 46 #[.string s] w fun e w' => e = .returned (.pointer (some ⟨w.heap.size, 0, none⟩)) ∧ Rd w' w.heap.size s 0 0 ∧ Below w.heap.size w w' := by
  go_enter Tryz.func46, Tryz.ntmps46
  go_wp2
  go_ret
  exact ⟨rfl, ⟨by simp, by simp, by simp, by simp, by simp, by simp⟩, (Below.refl _ _).alloc (Nat.le_refl _) _⟩
set_option maxRecDepth 100000 in
set_option maxHeartbeats 1600000 in
theorem left_ok (b : Nat) (s : ByteArray) (a : Nat) (w : World) (h : Rd w b s a 0) (hs : s.size ≤ 9223372036854775807) (ha : a ≤ s.size) :
    Calls Tryz.prog 105 #[.pointer (some ⟨b, 0, none⟩)] w fun e w' => e = .returned (.int .i64 ((s.size : Int) - a)) ∧ Below w.heap.size w w' := by
  have H := Lib.hid h
  have c1 := h.txt; have c2 := h.pos
  have hsub : IntKind.i64.wrap ((s.size : Int) - (a : Int)) = (s.size : Int) - (a : Int) := IntWalk.i64_in _ ⟨by omega, by omega⟩
  clear h
  go_enter Tryz.func105, Tryz.ntmps105
  go_wp2_with fail
  refine (err_made b s a 0 _ H.out).mono ?_
  rintro e w1 ⟨rfl, rfl⟩
  go_wp2_with fail
  go_quiet (fail)
  go_wp2
  go_ret
  exact ⟨rfl, below_draws (Below.refl _ _) _⟩
set_option maxRecDepth 100000 in
set_option maxHeartbeats 1600000 in
theorem left_err (b : Nat) (s : ByteArray) (a x : Int) (w : World) (h : Rd w b s a x) (hx : x ≠ 0) :
    Calls Tryz.prog 105 #[.pointer (some ⟨b, 0, none⟩)] w fun e w' => e = .returned (.int .i64 0) ∧ w = w' := by
  have H := Lib.hid h
  clear h
  have hq : (x != 0) = true := by simp [hx]
  go_enter Tryz.func105, Tryz.ntmps105
  go_wp2_with fail
  refine (err_made b s a x _ H.out).mono ?_
  rintro e w1 ⟨rfl, rfl⟩
  go_wp2
  go_ret
  exact ⟨rfl, rfl⟩
set_option maxRecDepth 100000 in
set_option maxHeartbeats 1600000 in
theorem end_err (b : Nat) (s : ByteArray) (a x : Int) (w : World) (h : Rd w b s a x) (hx : x ≠ 0) :
    Calls Tryz.prog 50 #[.pointer (some ⟨b, 0, none⟩)] w fun e w' => e = .returned (.int .i64 x) ∧ w = w' := by
  have H := Lib.hid h
  clear h
  go_enter Tryz.func50, Tryz.ntmps50
  go_wp2_with fail
  refine (left_err b s a x _ H.out hx).mono ?_
  rintro e w1 ⟨rfl, rfl⟩
  go_wp2_with fail
  refine (err_made b s a x _ H.out).mono ?_
  rintro e w1 ⟨rfl, rfl⟩
  go_wp2
  go_ret
  exact ⟨rfl, rfl⟩
/-- A reader that nobody made: there is none, or it is a zero one. -/
def NoRd (w : World) (p : Value) : Prop := p = .pointer none ∨ ∃ b, p = .pointer (some ⟨b, 0, none⟩) ∧ w.cell? ⟨b, 0, none⟩ = some (.bool false)
theorem NoRd.below {w w' : World} {p : Value} (h : NoRd w p) (hb : Below w.heap.size w w') : NoRd w' p := by
  rcases h with h | ⟨b, h, hc⟩
  · exact Or.inl h
  · exact Or.inr ⟨b, h, cell_below hb hc⟩
set_option maxRecDepth 100000 in
set_option maxHeartbeats 1600000 in
theorem end_ok (b : Nat) (s : ByteArray) (a : Nat) (w : World) (h : Rd w b s a 0) (hs : s.size ≤ 9223372036854775807) (ha : a ≤ s.size) :
    Calls Tryz.prog 50 #[.pointer (some ⟨b, 0, none⟩)] w fun e w' => e = .returned (.int .i64 (if a < s.size then 4 else 0)) ∧ Below w.heap.size w w' := by
  have H := Lib.hid h
  clear h
  by_cases hlt : a < s.size
  · rw [if_pos hlt]
    have hq : 0 < (s.size : Int) - (a : Int) := by omega
    go_enter Tryz.func50, Tryz.ntmps50
    go_wp2_with fail
    refine (left_ok b s a _ H.out hs ha).mono ?_
    rintro e w1 ⟨rfl, hb⟩
    have HB := Lib.hid hb; clear hb
    go_wp2
    go_ret
    exact ⟨rfl, HB.out⟩
  · rw [if_neg hlt]
    have hq : ¬ 0 < (s.size : Int) - (a : Int) := by omega
    go_enter Tryz.func50, Tryz.ntmps50
    go_wp2_with fail
    refine (left_ok b s a _ H.out hs ha).mono ?_
    rintro e w1 ⟨rfl, hb⟩
    have HB := Lib.hid hb; have H1 := Lib.hid (H.out.below hb); clear hb
    go_wp2_with fail
    refine (err_made b s a 0 _ H1.out).mono ?_
    rintro e w2 ⟨rfl, rfl⟩
    go_wp2
    go_ret
    exact ⟨rfl, HB.out⟩
theorem RE.ok {w : World} {b : Nat} {s : ByteArray} {a : Int} (h : RE w b s a 0) : Rd w b s a 0 := by unfold RE at h; rw [if_pos rfl] at h; exact h
end Go.Proofs.YtcbagajjgbfgdaaGreat

/- The reference of package varnum (needs, Put, Get, All): it answers what the package does. Conditions: texts of at most 2^63-1 bytes, for All 2^43. -/
namespace Go.Proofs.YtcbagajjgbfgdaaGreat
open Go.RowKit Go.PlainAid

def wz (x : Int) : Int := if x = 0 then 0 else wd x
theorem wz_step (x : Int) (h : 0 < x) (h1 : x < 18446744073709551616) : wz x = 1 + wz (x / 256) := by
  have := wd_end x; have := wd_step x (by omega) h1
  unfold wz; rw [if_neg (by omega)]
  split
  · have := wd_end x ‹_›; omega
  · have := wd_step x (by omega) h1 ‹_›; omega
theorem wd_wz (x : Int) (h : 0 ≤ x) (h1 : x < 18446744073709551616) : wd x = 1 + wz (x / 256) := by
  unfold wz; split
  · have := wd_end x ‹_›; omega
  · have := wd_step x h h1 ‹_›; omega
theorem wz_bd (x : Int) : 0 ≤ wz x ∧ wz x ≤ 8 := by have := wd_bd x; unfold wz; split <;> omega

set_option maxHeartbeats 400000 in
theorem needs_any (n : Int) (w : World) (h0 : 0 ≤ n) (h1 : n < 18446744073709551616) :
    Calls Tryz.prog 115 #[.int .u64 n] w fun e w' => e = .returned (.int .i64 (wd n)) ∧ w = w' := by
  have hw0 := Lib.hid (wd_wz n h0 h1)
  have h2 : n ≤ 18446744073709551615 := by omega
  clear h1
  go_enter Tryz.func115, Tryz.ntmps115
  go_wp2
  go_loopg [3, 4] 10 (fun g s3 s4 wr => ∃ (m : Int) (k : Nat), s4 = .int .u64 m ∧ s3 = .int .i64 k ∧ 0 ≤ m ∧ m ≤ 18446744073709551615 ∧ k + g ≤ 11 ∧ 11 ≤ k + g ∧ 1 ≤ k ∧ 0 ≤ wz m ∧ wz m ≤ 8 ∧ wd n = k + wz m ∧ w = wr)
  case atStart => exact ⟨n / 256, 1, rfl, rfl, by omega, by omega, by omega, by omega, by omega, (wz_bd _).1, (wz_bd _).2, hw0.out, rfl⟩
  case round =>
    obtain ⟨m, k, rfl, rfl, hm0, hm1, hk, hk2, hk1, hz0, hz1, hw, rfl⟩ := hrel
    have H := Lib.hid hw
    have hb := wd_bd n
    have hk9 : k ≤ 8 := by omega
    have HZ := Lib.hid hz1
    clear hw hb hz1 hz0
    by_cases hp : 0 < m
    · have hs := Lib.hid (wz_step m hp (by omega))
      go_wp2
      go_roundg (gk - 1)
      case rel => exact ⟨m / 256, k + 1, rfl, by go_num, by omega, by omega, by omega, by omega, by omega, (wz_bd _).1, (wz_bd _).2, by have := hs.out; have := H.out; omega, rfl⟩
      case measure => have := hs.out; have := H.out; have := wz_bd (m / 256); have := wd_bd n; omega
    · have e : wz m = 0 := by unfold wz; rw [if_pos (by omega)]
      have HE := Lib.hid (show wd n = k by have := H.out; omega)
      clear e
      go_wp2
      go_ret
      exact ⟨ret_int (by have := HE.out; omega), rfl⟩

set_option maxHeartbeats 400000 in
theorem rput_small (n : Int) (w : World) (h0 : 0 ≤ n) (h1 : n < 248) :
    Calls Tryz.prog 63 #[.int .u64 n] w fun e w' => e = .returned (.string ⟨(putL n).toArray⟩) ∧ Below w.heap.size w w' := by
  have hc := run_convert_bytes_back (P := Tryz.prog) (w.alloc (.cells #[.int .u8 n] 5)) 99 9 5 ⟨w.heap.size, 0, none⟩ 1 (putL n) Tryz.underlying99 Tryz.underlying5 Tryz.underlying9
    (by rw [putL_small n h1]; intro j hj; simp at hj; subst hj; rw [Addr.add_lit, World.cell?_alloc_mark]; simp; omega)
  rw [show (putL n).length = 1 by rw [putL_small n h1]; rfl] at hc
  go_enter Tryz.func63, Tryz.ntmps63
  go_wp2
  go_ret
  exact ⟨rfl, (Below.refl _ _).alloc (Nat.le_refl _) _⟩

theorem be_cons (j n : Nat) : be (j + 1) n = UInt8.ofNat (n / 256 ^ j) :: be j n := by
  induction j generalizing n with
  | zero => simp [be]
  | succ j ih =>
    rw [be, ih, be, List.cons_append, Nat.div_div_eq_div_mul, Nat.pow_succ, Nat.mul_comm 256]
/-- The bytes while they are written: i of them are still zero. -/
def half (k i n : Nat) : List UInt8 := UInt8.ofNat (247 + k) :: (List.replicate i 0 ++ be (k - i) n)
theorem half_len (k i n : Nat) (h : i ≤ k) : (half k i n).length = k + 1 := by simp [half, be_len]; omega
theorem half_set (k i n : Nat) (h : i < k) : (bs (half k (i + 1) n)).set (i + 1) (.int .u8 ((UInt8.ofNat (n / 256 ^ (k - (i + 1)))).toNat : Int)) = bs (half k i n) := by
  unfold half bs
  rw [show k - i = (k - (i + 1)) + 1 by omega, be_cons, List.map_cons, List.set_cons_succ, List.map_cons, List.map_append, List.map_append, List.replicate_succ', List.map_append]
  congr 1
  rw [List.append_assoc, List.set_append_right _ _ (by simp)]
  simp
theorem half_zero (k n : Nat) : bs (half k k n) = (Value.int .u8 ((UInt8.ofNat (247 + k)).toNat : Int)) :: List.replicate k (.int .u8 0) := by
  simp [half, bs, be]
theorem byte_mod (n : Int) (h : 0 ≤ n) (j : Nat) : n / 256 ^ j % 256 = ((UInt8.ofNat (n.toNat / 256 ^ j)).toNat : Int) := by
  rw [← byte_at n h j, Int.pow_mul]; rfl

set_option maxRecDepth 100000 in
set_option maxHeartbeats 400000 in
theorem rput_big (n : Int) (w : World) (h0 : 248 ≤ n) (h1 : n < 18446744073709551616) :
    Calls Tryz.prog 63 #[.int .u64 n] w fun e w' => e = .returned (.string ⟨(putL n).toArray⟩) ∧ Below w.heap.size w w' := by
  obtain ⟨i0, hi, hz0, hz1, hz2⟩ := info_parts info_u8
  obtain ⟨hk1, hk8⟩ := wd_bd n
  have h2 : n ≤ 18446744073709551615 := by omega
  have H1 := Lib.hid h1; clear h1
  obtain ⟨k, hk⟩ : ∃ k : Nat, (k : Int) = wd n := ⟨(wd n).toNat, by omega⟩
  rw [← hk] at hk1 hk8
  have HK := Lib.hid hk; clear hk
  go_enter Tryz.func63, Tryz.ntmps63
  go_wp2_with (first
    | (go_at_call 115; refine (needs_any _ _ (by omega) H1.out).mono ?_; rintro e w' ⟨rfl, rfl⟩; rw [← HK.out])
    | (at_make; refine wpList_make_full _ rfl (.tmp 15) (.tmp 15) 99 rfl w.heap.size 5 i0 (.int .u8 0) 1 Tryz.underlying99 hi hz0 hz1 .i64 .i64 (k + 1 : Int) (k + 1 : Int) (k + 1) rfl rfl (by omega) (by omega) (by rw [hz2]; omega) (by unfold maxLen; omega) (Nat.le_refl _) ?_; intro w1 hown1 hgr1; rw [made_rep _ rfl, Nat.mul_one] at hown1; have hc0 : w1.cell? ⟨w.heap.size, 0, none⟩ = some (.int .u8 0) := (by rw [hown1.cellAt 0 (by omega)]; rfl); have hf0 := hown1.frozenAt 0))
  obtain ⟨hown2, hgr2⟩ := hown1.stored 0 (.int .u8 (247 + (k : Int)))
  rw [u8_head k (by omega), show (List.replicate (k + 1) (Value.int .u8 0)).set 0 (.int .u8 ((UInt8.ofNat (247 + k)).toNat : Int)) = bs (half k k n.toNat) by rw [half_zero]; rfl] at hown2
  rw [u8_head k (by omega)] at hgr2
  have hbel2 : Below w.heap.size w (w1.setCell ⟨w.heap.size, 0, none⟩ (.int .u8 ((UInt8.ofNat (247 + k)).toNat : Int))) :=
    ((Below.refl _ _).grown hgr1 (Nat.le_refl _) (by intro k h; cases h)).grown hgr2 (by have := hgr1.size; omega) (by intro k h; cases h; exact Nat.le_refl _)
  rw [u8_head k (by omega)]
  clear hown1 hgr1 hgr2 hc0 hf0
  go_loopg [0, 5] (k + 1) (fun g s0 s5 wr => ∃ (i : Nat) (m : Int), s0 = .int .u64 m ∧ s5 = .int .i64 i ∧ m = n / 256 ^ (k - i) ∧ 0 ≤ m ∧ m ≤ 18446744073709551615 ∧ i ≤ k ∧ i + 1 ≤ g ∧
    wr.ownsRow w.heap.size 5 1 (.slice (some ⟨w.heap.size, 0, none⟩) (k + 1) (k + 1)) (k + 1) (bs (half k i n.toNat)) ∧ Below w.heap.size w wr)
  case atStart => exact ⟨k, n, rfl, rfl, by simp, by omega, h2, by omega, by omega, hown2, hbel2⟩
  case round =>
    clear hown2 hbel2
    obtain ⟨i, m, rfl, rfl, hm, hm0, hm1, hik, hg, hown, hbel⟩ := hrel
    have hsz := hbel.size
    have HO := Lib.hid hown; have HM := Lib.hid hm
    clear hown hm
    by_cases hi0 : 0 < i
    · obtain ⟨j, rfl⟩ : ∃ j, i = j + 1 := ⟨i - 1, by omega⟩
      have hl := half_len k (j + 1) n.toNat hik
      obtain ⟨u, hc0⟩ : ∃ u, wr.cell? ⟨w.heap.size, j + 1, none⟩ = some u :=
        ⟨_, by rw [HO.out.cellAt (j + 1) (by omega)]; exact bs_at (show j + 1 < (half k (j + 1) n.toNat).length by omega)⟩
      have hf0 := HO.out.frozenAt (j + 1)
      clear hl
      go_wp2
      obtain ⟨hown3, hgr3⟩ := HO.out.stored (j + 1) (.int .u8 (m % 256))
      have hb3 := hbel.grown hgr3 hsz (by intro k h; cases h; exact Nat.le_refl _)
      have e : m % 256 = ((UInt8.ofNat (n.toNat / 256 ^ (k - (j + 1)))).toNat : Int) := by rw [HM.out]; exact byte_mod n (by omega) _
      have hown4 := hown3
      rw [e, half_set k j n.toNat (by omega), ← e] at hown4
      clear hown3
      go_roundg (gk - 1)
      case rel => exact ⟨j, m / 256, rfl, by go_num, by rw [HM.out, show k - j = k - (j + 1) + 1 by omega, Int.pow_succ, Int.ediv_ediv_of_nonneg (Int.pow_nonneg (by decide))], by omega, by omega, by omega, by omega, hown4, hb3⟩
      case measure => omega
    · obtain rfl : i = 0 := by omega
      have hl : (putL n).length = k + 1 := by rw [putL_big n (by omega)]; have := HK.out; simp [be_len]; omega
      have he : putL n = half k 0 n.toNat := by
        rw [putL_big n (by omega), ← HK.out, show (247 + (k : Int)).toNat = 247 + k by omega, Int.toNat_natCast]; rfl
      have HO2 := HO.out
      rw [← he] at HO2
      have hc := run_convert_bytes_back (P := Tryz.prog) wr 99 9 5 ⟨w.heap.size, 0, none⟩ (k + 1) (putL n) Tryz.underlying99 Tryz.underlying5 Tryz.underlying9
        (by intro j hj; exact HO2.cells (g := w.heap.size) rfl j _ (bs_at hj))
      rw [hl] at hc
      clear HO HO2 he hl
      go_wp2
      go_ret
      exact ⟨rfl, hbel⟩

theorem rput_any (n : Int) (w : World) (h0 : 0 ≤ n) (h1 : n < 18446744073709551616) :
    Calls Tryz.prog 63 #[.int .u64 n] w fun e w' => e = .returned (.string ⟨(putL n).toArray⟩) ∧ Below w.heap.size w w' := by
  by_cases h : n < 248
  · exact rput_small n w h0 h
  · exact rput_big n w (by omega) h1
end Go.Proofs.YtcbagajjgbfgdaaGreat

/- Package catenaref02: a Writer. Conditions: what is written is at most 2^47 bytes. -/
namespace Go.Proofs.YtcbagajjgbfgdaaGreat
open Go.RowKit Go.PlainAid

theorem ba_app (l k : List UInt8) : (⟨l.toArray⟩ ++ ⟨k.toArray⟩ : ByteArray) = ⟨(l ++ k).toArray⟩ := by
  apply ByteArray.ext
  simp
theorem ba_app2 (k : List UInt8) (s : ByteArray) : (⟨k.toArray⟩ ++ s : ByteArray) = ⟨(k ++ s.data.toList).toArray⟩ := by
  apply ByteArray.ext
  simp
/-- The document's own Writer: block b. -/
structure RWr (w : World) (b : Nat) (l : List UInt8) (e : Int) : Prop where
  txt : w.cell? ⟨b, 0, none⟩ = some (.string ⟨l.toArray⟩)
  err : w.cell? ⟨b, 1, none⟩ = some (.int .i64 e)
  fr0 : w.frozen? ⟨b, 0, none⟩ = false
  fr1 : w.frozen? ⟨b, 1, none⟩ = false
theorem RWr.lt {w : World} {b : Nat} {l : List UInt8} {e : Int} (h : RWr w b l e) : b < w.heap.size := World.block_lt_of_cell? w _ h.txt
theorem RWr.but {S : Nat → Prop} {w w' : World} {b : Nat} {l : List UInt8} {e : Int} (h : RWr w b l e) (hb : But S w w') (hs : ¬ S b) : RWr w' b l e :=
  ⟨hb.cell hs h.txt, hb.cell hs h.err, by rw [hb.frozen h.lt hs]; exact h.fr0, by rw [hb.frozen h.lt hs]; exact h.fr1⟩
theorem RWr.below {w w' : World} {b : Nat} {l : List UInt8} {e : Int} (h : RWr w b l e) (hb : Below w.heap.size w w') : RWr w' b l e := h.but (But.of_below (S := fun _ => False) hb) id
theorem RWr.setTxt {w : World} {b : Nat} {l : List UInt8} {e : Int} (h : RWr w b l e) (k : List UInt8) : RWr (w.setCell ⟨b, 0, none⟩ (.string ⟨k.toArray⟩)) b k e :=
  ⟨World.cell?_setCell_same _ _ _ h.txt, by rw [World.cell?_setCell_other _ _ _ _ (by simp)]; exact h.err, by rw [World.frozen?_setCell]; exact h.fr0, by rw [World.frozen?_setCell]; exact h.fr1⟩
theorem RWr.setErr {w : World} {b : Nat} {l : List UInt8} {e : Int} (h : RWr w b l e) (x : Int) : RWr (w.setCell ⟨b, 1, none⟩ (.int .i64 x)) b l x :=
  ⟨by rw [World.cell?_setCell_other _ _ _ _ (by simp)]; exact h.txt, World.cell?_setCell_same _ _ _ h.err, by rw [World.frozen?_setCell]; exact h.fr0, by rw [World.frozen?_setCell]; exact h.fr1⟩
theorem RWr.grown {w w2 : World} {b : Nat} {l : List UInt8} {e : Int} (h : RWr w b l e) (hb : Below w.heap.size w w2) (k : List UInt8) : RWr (w2.setCell ⟨b, 0, none⟩ (.string ⟨k.toArray⟩)) b k e ∧ But (Own b) w (w2.setCell ⟨b, 0, none⟩ (.string ⟨k.toArray⟩)) :=
  ⟨(h.below hb).setTxt k, (But.of_below (S := Own b) hb).setCell (p := ⟨b, 0, none⟩) (fun _ => rfl) _⟩
set_option maxRecDepth 100000 in
set_option maxHeartbeats 1600000 in
theorem xBig_any (b : Nat) (l : List UInt8) (x : Int) (n : Int) (w : World) (h : RWr w b l x) (hl : l.length ≤ 140737488355000) (h0 : 0 ≤ n) (h1 : n < 18446744073709551616) :
    Calls Tryz.prog 65 #[.pointer (some ⟨b, 0, none⟩), .int .u64 n] w fun e w' => e = .returned (.tuple #[]) ∧ RWr w' b (wBig n (l, x)).1 (wBig n (l, x)).2 ∧ But (Own b) w w' := by
  have H := Lib.hid h
  have k0 := h.err
  by_cases hx : x = 0
  · subst hx
    have hq : wBig n (l, 0) = (l ++ putL n, 0) := by simp [wBig]
    rw [hq]
    have hpl := putL_le n
    have hcat := concat_run ⟨l.toArray⟩ ⟨(putL n).toArray⟩ (show l.length + (putL n).length ≤ _ by omega)
    rw [ba_app] at hcat
    have k1 : w.drew.cell? ⟨b, 0, none⟩ = some (.string ⟨l.toArray⟩) := h.txt
    clear h hpl hq
    go_enter Tryz.func65, Tryz.ntmps65
    go_wp2_with fail
    go_region_law (first | (go_simp; go_at_call 63; refine Calls.mono (rput_any n _ h0 h1) ?_; rintro e w2 ⟨rfl, hb2⟩; have hb3 : Below w.heap.size w w2 := Below.trans ((Below.refl _ _).drew) hb2; have c1 := (H.out.below hb3).txt; have z1 := (H.out.below hb3).fr0; have HB2 := Lib.hid hb3; clear hb2 hb3))
    all_goals
      have HF := Lib.hid (H.out.grown HB2.out (l ++ putL n))
      go_wp2
      go_end0
      exact ⟨rfl, HF.out.1, HF.out.2⟩
  · have hq : wBig n (l, x) = (l, x) := by simp [wBig, hx]
    rw [hq]
    have hne : (x == 0) = false := by simp [hx]
    clear h hq
    go_enter Tryz.func65, Tryz.ntmps65
    go_wp2
    go_end0
    exact ⟨rfl, H.out, But.refl _ _⟩
set_option maxRecDepth 100000 in
set_option maxHeartbeats 1600000 in
theorem xNum_any (b : Nat) (l : List UInt8) (x : Int) (n : Int) (w : World) (h : RWr w b l x) (hl : l.length ≤ 140737488355000) (hn1 : n ≤ 9223372036854775807) :
    Calls Tryz.prog 23 #[.pointer (some ⟨b, 0, none⟩), .int .i64 n] w fun e w' => e = .returned (.tuple #[]) ∧ RWr w' b (wNum n (l, x)).1 (wNum n (l, x)).2 ∧ But (Own b) w w' := by
  have H := Lib.hid h
  have c0 := h.err
  by_cases hx : x = 0
  · subst hx
    by_cases hn : n < 0
    · have hq : wNum n (l, 0) = (l, 5) := by simp [wNum, hn]
      rw [hq]
      have z0 := h.fr1
      have HF := Lib.hid (h.setErr 5)
      have HB := Lib.hid ((But.refl (Own b) w).setCell (p := ⟨b, 1, none⟩) (fun _ => rfl) (.int .i64 5))
      clear h hq
      go_enter Tryz.func23, Tryz.ntmps23
      go_wp2
      go_end0
      exact ⟨rfl, HF.out, HB.out⟩
    · have h0 : 0 ≤ n := by omega
      have h1 : n < 18446744073709551616 := by omega
      have hwu : IntKind.u64.wrap n = n := u64_nonneg h0 (by omega)
      have hq : wNum n (l, 0) = (l ++ putL n, 0) := by simp [wNum, hn]
      rw [hq]
      have hpl := putL_le n
      have hcat := concat_run ⟨l.toArray⟩ ⟨(putL n).toArray⟩ (show l.length + (putL n).length ≤ _ by omega)
      rw [ba_app] at hcat
      have k1 : w.drew.cell? ⟨b, 0, none⟩ = some (.string ⟨l.toArray⟩) := h.txt
      clear h hpl hq
      go_enter Tryz.func23, Tryz.ntmps23
      go_wp2_with fail
      go_region_law (first | (go_simp; go_at_call 63; refine Calls.mono (rput_any n _ h0 h1) ?_; rintro e w2 ⟨rfl, hb2⟩; have hb3 : Below w.heap.size w w2 := Below.trans ((Below.refl _ _).drew) hb2; have c1 := (H.out.below hb3).txt; have z1 := (H.out.below hb3).fr0; have HB2 := Lib.hid hb3; clear hb2 hb3))
      all_goals
        have HF := Lib.hid (H.out.grown HB2.out (l ++ putL n))
        go_wp2
        go_end0
        exact ⟨rfl, HF.out.1, HF.out.2⟩
  · have hq : wNum n (l, x) = (l, x) := by simp [wNum, hx]
    rw [hq]
    have hne : (x == 0) = false := by simp [hx]
    clear h hq
    go_enter Tryz.func23, Tryz.ntmps23
    go_wp2
    go_end0
    exact ⟨rfl, H.out, But.refl _ _⟩
set_option maxRecDepth 100000 in
set_option maxHeartbeats 1600000 in
theorem xText_any (b : Nat) (l : List UInt8) (x : Int) (s : ByteArray) (w : World) (h : RWr w b l x) (hl : l.length + s.size ≤ 140737488355000) :
    Calls Tryz.prog 67 #[.pointer (some ⟨b, 0, none⟩), .string s] w fun e w' => e = .returned (.tuple #[]) ∧ RWr w' b (wText s (l, x)).1 (wText s (l, x)).2 ∧ But (Own b) w w' := by
  have H := Lib.hid h
  have c0 := h.err
  by_cases hx : x = 0
  · subst hx
    have hq : wText s (l, 0) = (l ++ putL (s.size : Int) ++ s.data.toList, 0) := by simp [wText]
    rw [hq]
    have hpl := putL_le (s.size : Int)
    have h0 : 0 ≤ (s.size : Int) := by omega
    have h1 : (s.size : Int) < 18446744073709551616 := by omega
    have hwu : IntKind.u64.wrap (s.size : Int) = (s.size : Int) := u64_nonneg h0 (by omega)
    have hcat := concat_run ⟨l.toArray⟩ ⟨(putL (s.size : Int)).toArray⟩ (show l.length + (putL (s.size : Int)).length ≤ _ by omega)
    rw [ba_app] at hcat
    have hcat2 := concat_run ⟨(l ++ putL (s.size : Int)).toArray⟩ s (show (l ++ putL (s.size : Int)).length + s.size ≤ _ by rw [List.length_append]; omega)
    rw [ba_app2] at hcat2
    obtain ⟨m, hm⟩ : ∃ m, m = l ++ putL (s.size : Int) ++ s.data.toList := ⟨_, rfl⟩
    rw [← hm] at hcat2 ⊢
    clear hm
    have k1 : w.drew.cell? ⟨b, 0, none⟩ = some (.string ⟨l.toArray⟩) := h.txt
    clear h hpl hq
    go_enter Tryz.func67, Tryz.ntmps67
    go_wp2_with fail
    go_region_law (first | (go_simp; go_at_call 63; refine Calls.mono (rput_any (s.size : Int) _ h0 h1) ?_; rintro e w2 ⟨rfl, hb2⟩; have hb3 : Below w.heap.size w w2 := Below.trans ((Below.refl _ _).drew) hb2; have c1 := (H.out.below hb3).txt; have z1 := (H.out.below hb3).fr0; have HB2 := Lib.hid hb3; clear hb2 hb3))
    all_goals
      have HF := Lib.hid (H.out.grown HB2.out m)
      go_wp2
      go_end0
      exact ⟨rfl, HF.out.1, HF.out.2⟩
  · have hq : wText s (l, x) = (l, x) := by simp [wText, hx]
    rw [hq]
    have hne : (x == 0) = false := by simp [hx]
    clear h hq
    go_enter Tryz.func67, Tryz.ntmps67
    go_wp2
    go_end0
    exact ⟨rfl, H.out, But.refl _ _⟩
theorem flag_big (f : Bool) (p : List UInt8 × Int) : wFlag f p = wBig (if f then 1 else 0) p := by
  unfold wFlag wBig; cases f <;> rfl
set_option maxRecDepth 100000 in
set_option maxHeartbeats 1600000 in
theorem xFlag_any (b : Nat) (l : List UInt8) (x : Int) (f : Bool) (w : World) (h : RWr w b l x) (hl : l.length ≤ 140737488355000) :
    Calls Tryz.prog 66 #[.pointer (some ⟨b, 0, none⟩), .bool f] w fun e w' => e = .returned (.tuple #[]) ∧ RWr w' b (wFlag f (l, x)).1 (wFlag f (l, x)).2 ∧ But (Own b) w w' := by
  have H := Lib.hid h
  rw [flag_big]
  clear h
  cases f
  · go_enter Tryz.func66, Tryz.ntmps66
    go_wp2_with fail
    refine (xBig_any b l x 0 _ H.out hl (by omega) (by omega)).mono ?_
    rintro e w1 ⟨rfl, hm, hb⟩
    have HM := Lib.hid hm; have HB := Lib.hid hb; clear hm hb
    go_wp2
    go_end0
    exact ⟨rfl, HM.out, HB.out⟩
  · go_enter Tryz.func66, Tryz.ntmps66
    go_wp2_with fail
    refine (xBig_any b l x 1 _ H.out hl (by omega) (by omega)).mono ?_
    rintro e w1 ⟨rfl, hm, hb⟩
    have HM := Lib.hid hm; have HB := Lib.hid hb; clear hm hb
    go_wp2
    go_end0
    exact ⟨rfl, HM.out, HB.out⟩
set_option maxRecDepth 100000 in
set_option maxHeartbeats 1600000 in
theorem xDone_any (b : Nat) (l : List UInt8) (x : Int)  (w : World) (h : RWr w b l x) :
    Calls Tryz.prog 26 #[.pointer (some ⟨b, 0, none⟩)] w fun e w' => e = .returned (.tuple #[.string (if x = 0 then ⟨l.toArray⟩ else ⟨#[]⟩), .int .i64 x]) ∧ Below w.heap.size w w' := by
  have c0 := h.txt; have c1 := h.err
  clear h
  by_cases hx : x = 0
  · subst hx
    rw [if_pos rfl]
    go_enter Tryz.func26, Tryz.ntmps26
    go_wp2
    go_ret2
    exact ⟨rfl, Below.refl _ _⟩
  · rw [if_neg hx]
    have hq : (x != 0) = true := by simp [hx]
    go_enter Tryz.func26, Tryz.ntmps26
    go_wp2_with fail
    go_quiet (fail)
    go_wp2
    go_ret2
    exact ⟨rfl, below_draws (Below.refl _ _) _⟩
end Go.Proofs.YtcbagajjgbfgdaaGreat

/- Package catenaref02: a Reader. Conditions: texts of at most 2^63-1 bytes. -/
namespace Go.Proofs.YtcbagajjgbfgdaaGreat
open Go.RowKit Go.PlainAid

/-- The document's own Reader: block b. -/
structure XRd (w : World) (b : Nat) (s : ByteArray) (a e : Int) : Prop where
  txt : w.cell? ⟨b, 0, none⟩ = some (.string s)
  pos : w.cell? ⟨b, 1, none⟩ = some (.int .i64 a)
  err : w.cell? ⟨b, 2, none⟩ = some (.int .i64 e)
  fr1 : w.frozen? ⟨b, 1, none⟩ = false
  fr2 : w.frozen? ⟨b, 2, none⟩ = false
theorem XRd.lt {w : World} {b : Nat} {s : ByteArray} {a e : Int} (h : XRd w b s a e) : b < w.heap.size := World.block_lt_of_cell? w _ h.txt
theorem XRd.but {S : Nat → Prop} {w w' : World} {b : Nat} {s : ByteArray} {a e : Int} (h : XRd w b s a e) (hb : But S w w') (hs : ¬ S b) : XRd w' b s a e :=
  ⟨hb.cell hs h.txt, hb.cell hs h.pos, hb.cell hs h.err, by rw [hb.frozen h.lt hs]; exact h.fr1, by rw [hb.frozen h.lt hs]; exact h.fr2⟩
theorem XRd.below {w w' : World} {b : Nat} {s : ByteArray} {a e : Int} (h : XRd w b s a e) (hb : Below w.heap.size w w') : XRd w' b s a e := h.but (But.of_below (S := fun _ => False) hb) id
theorem XRd.setPos {w : World} {b : Nat} {s : ByteArray} {a e : Int} (h : XRd w b s a e) (a' : Int) : XRd (w.setCell ⟨b, 1, none⟩ (.int .i64 a')) b s a' e :=
  ⟨by rw [World.cell?_setCell_other _ _ _ _ (by simp)]; exact h.txt, World.cell?_setCell_same _ _ _ h.pos, by rw [World.cell?_setCell_other _ _ _ _ (by simp)]; exact h.err, by rw [World.frozen?_setCell]; exact h.fr1, by rw [World.frozen?_setCell]; exact h.fr2⟩
theorem XRd.setErr {w : World} {b : Nat} {s : ByteArray} {a e : Int} (h : XRd w b s a e) (x : Int) : XRd (w.setCell ⟨b, 2, none⟩ (.int .i64 x)) b s a x :=
  ⟨by rw [World.cell?_setCell_other _ _ _ _ (by simp)]; exact h.txt, by rw [World.cell?_setCell_other _ _ _ _ (by simp)]; exact h.pos, World.cell?_setCell_same _ _ _ h.err, by rw [World.frozen?_setCell]; exact h.fr1, by rw [World.frozen?_setCell]; exact h.fr2⟩
def XRE (w : World) (b : Nat) (s : ByteArray) (a x : Int) : Prop := if x = 0 then XRd w b s a 0 else ∃ a', XRd w b s a' x
theorem XRE.good {w : World} {b : Nat} {s : ByteArray} {a : Int} (h : XRd w b s a 0) : XRE w b s a 0 := by unfold XRE; rw [if_pos rfl]; exact h
theorem XRE.bad {w : World} {b : Nat} {s : ByteArray} {a a' x : Int} (hx : x ≠ 0) (h : XRd w b s a' x) : XRE w b s a x := by unfold XRE; rw [if_neg hx]; exact ⟨a', h⟩
/-- The reader is as it was; what came up is new. -/
def XB (b : Nat) (s : ByteArray) (a : Int) (w w' : World) : Prop := Below w.heap.size w w' ∧ XRd w' b s a 0
theorem XB.start {b : Nat} {s : ByteArray} {a : Int} {w : World} (h : XRd w b s a 0) : w.drew.cell? ⟨b, 0, none⟩ = some (.string s) ∧ w.drew.cell? ⟨b, 1, none⟩ = some (.int .i64 a) ∧ XB b s a w w.drew := ⟨h.txt, h.pos, (Below.refl _ _).drew, h.below (Below.refl _ _).drew⟩
theorem XB.step {b : Nat} {s : ByteArray} {a : Int} {w w1 w2 : World} (h : w1.cell? ⟨b, 0, none⟩ = some (.string s) ∧ w1.cell? ⟨b, 1, none⟩ = some (.int .i64 a) ∧ XB b s a w w1) (hb : Below w1.heap.size w1 w2) : w2.cell? ⟨b, 0, none⟩ = some (.string s) ∧ w2.cell? ⟨b, 1, none⟩ = some (.int .i64 a) ∧ XB b s a w w2 :=
  ⟨(h.2.2.2.below hb).txt, (h.2.2.2.below hb).pos, h.2.2.1.trans (hb.mono h.2.2.1.size), h.2.2.2.below hb⟩
theorem XRE.ok {w : World} {b : Nat} {s : ByteArray} {a : Int} (h : XRE w b s a 0) : XRd w b s a 0 := by unfold XRE at h; rw [if_pos rfl] at h; exact h
theorem XRE.err {w : World} {b : Nat} {s : ByteArray} {a x : Int} (hx : x ≠ 0) (h : XRE w b s a x) : ∃ a', XRd w b s a' x := by unfold XRE at h; rw [if_neg hx] at h; exact h
end Go.Proofs.YtcbagajjgbfgdaaGreat

/- Package wire and the document's Reader: every call, behind an error or not. Conditions: texts of at most 2^63-1 bytes. -/
namespace Go.Proofs.YtcbagajjgbfgdaaGreat
open Go.RowKit Go.PlainAid

theorem RE.err {w : World} {b : Nat} {s : ByteArray} {a x : Int} (hx : x ≠ 0) (h : RE w b s a x) : ∃ a', Rd w b s a' x := by unfold RE at h; rw [if_neg hx] at h; exact h
theorem RE.below {w w' : World} {b : Nat} {s : ByteArray} {a x : Int} (h : RE w b s a x) (hb : Below w.heap.size w w') : RE w' b s a x := by
  by_cases hx : x = 0
  · subst hx; exact RE.good (h.ok.below hb)
  · obtain ⟨a', h'⟩ := RE.err hx h; exact RE.bad hx (h'.below hb)
theorem RE.but {S : Nat → Prop} {w w' : World} {b : Nat} {s : ByteArray} {a x : Int} (h : RE w b s a x) (hb : But S w w') (hs : ¬ S b) : RE w' b s a x := by
  by_cases hx : x = 0
  · subst hx; exact RE.good (h.ok.but hb hs)
  · obtain ⟨a', h'⟩ := RE.err hx h; exact RE.bad hx (h'.but hb hs)
theorem RE.weak {w : World} {b : Nat} {s : ByteArray} {a a2 x : Int} (hx : x ≠ 0) (h : RE w b s a x) : RE w b s a2 x := by
  obtain ⟨a', h'⟩ := RE.err hx h; exact RE.bad hx h'
theorem RE.lt {w : World} {b : Nat} {s : ByteArray} {a x : Int} (h : RE w b s a x) : b < w.heap.size := by
  by_cases hx : x = 0
  · subst hx; exact h.ok.lt
  · obtain ⟨a', h'⟩ := RE.err hx h; exact h'.lt
theorem XRE.below {w w' : World} {b : Nat} {s : ByteArray} {a x : Int} (h : XRE w b s a x) (hb : Below w.heap.size w w') : XRE w' b s a x := by
  by_cases hx : x = 0
  · subst hx; exact XRE.good (h.ok.below hb)
  · obtain ⟨a', h'⟩ := XRE.err hx h; exact XRE.bad hx (h'.below hb)
theorem XRE.but {S : Nat → Prop} {w w' : World} {b : Nat} {s : ByteArray} {a x : Int} (h : XRE w b s a x) (hb : But S w w') (hs : ¬ S b) : XRE w' b s a x := by
  by_cases hx : x = 0
  · subst hx; exact XRE.good (h.ok.but hb hs)
  · obtain ⟨a', h'⟩ := XRE.err hx h; exact XRE.bad hx (h'.but hb hs)
theorem XRE.weak {w : World} {b : Nat} {s : ByteArray} {a a2 x : Int} (hx : x ≠ 0) (h : XRE w b s a x) : XRE w b s a2 x := by
  obtain ⟨a', h'⟩ := XRE.err hx h; exact XRE.bad hx h'
theorem XRE.cell {w : World} {b : Nat} {s : ByteArray} {a x : Int} (h : XRE w b s a x) : w.cell? ⟨b, 2, none⟩ = some (.int .i64 x) := by
  by_cases hx : x = 0
  · subst hx; exact h.ok.err
  · obtain ⟨a', h'⟩ := XRE.err hx h; exact h'.err
theorem numR_err {s : ByteArray} {a x m : Int} (hx : x ≠ 0) : numR s a x m = (0, a, x) := by unfold numR; rw [if_pos hx]
theorem bigR_err {s : ByteArray} {a x : Int} (hx : x ≠ 0) : bigR s a x = (0, a, x) := by unfold bigR; rw [if_pos hx]
theorem textR_err {s : ByteArray} {a x m : Int} (hx : x ≠ 0) : textR s a x m = (⟨#[]⟩, a, x) := by unfold textR; rw [if_pos hx]
theorem flagR_err {s : ByteArray} {a : Nat} {x : Int} (hx : x ≠ 0) : flagR s a x = (false, (a : Int), x) := by unfold flagR; rw [if_pos hx]

theorem rNum_re (b : Nat) (s : ByteArray) (a x m : Int) (w : World) (h : RE w b s a x) (hs : s.size ≤ 9223372036854775807) (hm : m ≤ 9223372036854775807) :
    Calls Tryz.prog 47 #[.pointer (some ⟨b, 0, none⟩), .int .i64 m] w fun e w' => e = .returned (.int .i64 (numR s a x m).1) ∧ RE w' b s (numR s a x m).2.1 (numR s a x m).2.2 ∧ But (Own b) w w' := by
  by_cases hx : x = 0
  · subst hx; exact rNum_any b s a 0 m w h.ok hs hm
  · obtain ⟨a', h'⟩ := RE.err hx h
    refine (rNum_any b s a' x m w h' hs hm).mono ?_
    rw [numR_err hx, numR_err hx]
    exact fun e w' ⟨h1, h2, h3⟩ => ⟨h1, RE.weak hx h2, h3⟩
theorem rBig_re (b : Nat) (s : ByteArray) (a x : Int) (w : World) (h : RE w b s a x) (hs : s.size ≤ 9223372036854775807) :
    Calls Tryz.prog 98 #[.pointer (some ⟨b, 0, none⟩)] w fun e w' => e = .returned (.int .u64 (bigR s a x).1) ∧ RE w' b s (bigR s a x).2.1 (bigR s a x).2.2 ∧ But (Own b) w w' := by
  by_cases hx : x = 0
  · subst hx; exact rBig_any b s a 0 w h.ok hs
  · obtain ⟨a', h'⟩ := RE.err hx h
    refine (rBig_any b s a' x w h' hs).mono ?_
    rw [bigR_err hx, bigR_err hx]
    exact fun e w' ⟨h1, h2, h3⟩ => ⟨h1, RE.weak hx h2, h3⟩
theorem rText_re (b : Nat) (s : ByteArray) (a x m : Int) (w : World) (h : RE w b s a x) (hs : s.size ≤ 9223372036854775807) (hm : m ≤ 9223372036854775807) :
    Calls Tryz.prog 99 #[.pointer (some ⟨b, 0, none⟩), .int .i64 m] w fun e w' => e = .returned (.string (textR s a x m).1) ∧ RE w' b s (textR s a x m).2.1 (textR s a x m).2.2 ∧ But (Own b) w w' := by
  by_cases hx : x = 0
  · subst hx; exact rText_any b s a 0 m w h.ok hs hm
  · obtain ⟨a', h'⟩ := RE.err hx h
    refine (rText_any b s a' x m w h' hs hm).mono ?_
    rw [textR_err hx, textR_err hx]
    exact fun e w' ⟨h1, h2, h3⟩ => ⟨h1, RE.weak hx h2, h3⟩
set_option maxRecDepth 100000 in
set_option maxHeartbeats 1600000 in
theorem rFlag_err (b : Nat) (s : ByteArray) (a x : Int) (w : World) (h : Rd w b s a x) (hx : x ≠ 0) :
    Calls Tryz.prog 97 #[.pointer (some ⟨b, 0, none⟩)] w fun e w' => e = .returned (.bool false) ∧ RE w' b s a x ∧ But (Own b) w w' := by
  have hmf : ∀ (fn : Fn) (first cap : Array Value) (w : World), (Instr.makeFunc fn first cap).run Tryz.prog w = .ok (.func fn first cap) w := fun _ _ _ _ => rfl
  obtain ⟨W, hW⟩ : ∃ W, W = ((w.alloc (.cells #[.pointer (some ⟨b, 0, none⟩)] 87)).alloc (.cells #[.bool false] 4)) := ⟨_, rfl⟩
  have hl := lay2 w (.pointer (some ⟨b, 0, none⟩)) (.bool false) 87 4
  rw [← hW] at hl
  obtain ⟨l0, l1, l3, l4⟩ := hl
  have H1 := Lib.hid (h.below l0)
  have HB := Lib.hid (But.of_below (S := Own b) l0)
  have hlt := h.lt
  have HW := Lib.hid hW; have M3 := Lib.hid l3
  clear h l0 l1 l3 l4
  go_enter Tryz.func97, Tryz.ntmps97
  go_wp2_with fail
  rw [← HW.out]
  refine (take_err b s a x _ _ H1.out hx).mono ?_
  rintro e w1 ⟨rfl, r1⟩
  have c3 := cell_below r1 M3.out
  have R2 : Hid (RE w1 b s a x) := Lib.hid (RE.bad hx (H1.out.below r1))
  have R3 := Lib.hid (HB.out.trans (But.of_below r1))
  clear r1
  go_wp2
  go_ret
  exact ⟨rfl, R2.out, R3.out⟩
theorem rFlag_re (b : Nat) (s : ByteArray) (a : Nat) (x : Int) (w : World) (h : RE w b s a x) (hs : s.size ≤ 9223372036854775807) (ha : x = 0 → a ≤ s.size) :
    Calls Tryz.prog 97 #[.pointer (some ⟨b, 0, none⟩)] w fun e w' => e = .returned (.bool (flagR s a x).1) ∧ RE w' b s (flagR s a x).2.1 (flagR s a x).2.2 ∧ But (Own b) w w' := by
  by_cases hx : x = 0
  · subst hx; exact rFlag_any b s a 0 w h.ok hs (ha rfl)
  · obtain ⟨a', h'⟩ := RE.err hx h
    rw [flagR_err hx]
    exact (rFlag_err b s a' x w h' hx).mono fun e w' ⟨h1, h2, h3⟩ => ⟨h1, RE.weak hx h2, h3⟩
def endV (s : ByteArray) (a : Nat) (x : Int) : Int := if x = 0 then (if a < s.size then 4 else 0) else x
theorem err_re (b : Nat) (s : ByteArray) (a x : Int) (w : World) (h : RE w b s a x) :
    Calls Tryz.prog 48 #[.pointer (some ⟨b, 0, none⟩)] w fun e w' => e = .returned (.int .i64 x) ∧ w = w' := by
  by_cases hx : x = 0
  · subst hx; exact err_made b s a 0 w h.ok
  · obtain ⟨a', h'⟩ := RE.err hx h; exact err_made b s a' x w h'
theorem end_re (b : Nat) (s : ByteArray) (a : Nat) (x : Int) (w : World) (h : RE w b s a x) (hs : s.size ≤ 9223372036854775807) (ha : x = 0 → a ≤ s.size) :
    Calls Tryz.prog 50 #[.pointer (some ⟨b, 0, none⟩)] w fun e w' => e = .returned (.int .i64 (endV s a x)) ∧ Below w.heap.size w w' := by
  by_cases hx : x = 0
  · subst hx; exact end_ok b s a w h.ok hs (ha rfl)
  · obtain ⟨a', h'⟩ := RE.err hx h
    unfold endV
    rw [if_neg hx]
    exact (end_err b s a' x w h' hx).mono fun e w' ⟨h1, h2⟩ => ⟨h1, h2 ▸ Below.refl _ _⟩
/-- Where a read leaves the place. -/
theorem getR_at {s : ByteArray} {a : Int} (h : (getR s a).2.2 = 0) : 0 ≤ (getR s a).2.1 ∧ (getR s a).2.1 ≤ s.size := by
  rcases hg : getR s a with ⟨g1, g2, g3⟩
  rw [hg] at h
  simp only at h
  subst h
  exact getR_pos hg
theorem numR_at {s : ByteArray} {a x m : Int} (h : (numR s a x m).2.2 = 0) : 0 ≤ (numR s a x m).2.1 ∧ (numR s a x m).2.1 ≤ s.size := by
  by_cases hx : x = 0
  · subst hx
    have e : numR s a 0 m = ((if (upR s a m 5).2.2 = 0 then (upR s a m 5).1 else 0), (upR s a m 5).2.1, (upR s a m 5).2.2) := by unfold numR; rw [if_neg (by simp)]
    rw [e] at h ⊢
    obtain ⟨n, a2, h1, h2⟩ := upR_good (by decide) h
    rw [h1]; simp only; omega
  · rw [numR_err hx] at h; exact absurd h hx
theorem bigR_at {s : ByteArray} {a x : Int} (h : (bigR s a x).2.2 = 0) : 0 ≤ (bigR s a x).2.1 ∧ (bigR s a x).2.1 ≤ s.size := by
  by_cases hx : x = 0
  · subst hx
    have e : bigR s a 0 = ((if (getR s a).2.2 = 0 then (getR s a).1 else 0), (getR s a).2.1, (getR s a).2.2) := by unfold bigR; rw [if_neg (by simp)]
    rw [e] at h ⊢
    exact getR_at h
  · rw [bigR_err hx] at h; exact absurd h hx
theorem textR_at {s : ByteArray} {a x m : Int} (h : (textR s a x m).2.2 = 0) : 0 ≤ (textR s a x m).2.1 ∧ (textR s a x m).2.1 ≤ s.size := by
  by_cases hx : x = 0
  · subst hx
    unfold textR at h ⊢
    rw [if_neg (by simp)] at h ⊢
    by_cases hu : (upR s a m 3).2.2 = 0
    · rw [if_neg (by simp [hu])] at h ⊢
      obtain ⟨n, a2, h1, h2⟩ := upR_good (by decide) hu
      rw [h1] at h ⊢
      simp only at h ⊢
      split at h
      · simp at h
      · rw [if_neg (by assumption)]; simp only; omega
    · rw [if_pos hu] at h; exact absurd h hu
  · rw [textR_err hx] at h; exact absurd h hx
theorem flagR_at {s : ByteArray} {a : Nat} {x : Int} (ha : x = 0 → a ≤ s.size) (h : (flagR s a x).2.2 = 0) : 0 ≤ (flagR s a x).2.1 ∧ (flagR s a x).2.1 ≤ s.size := by
  by_cases hx : x = 0
  · subst hx
    have := ha rfl
    unfold flagR at h ⊢
    rw [if_neg (by simp)] at h ⊢
    split at h
    · simp at h
    rename_i h1
    rw [if_neg h1]
    split at h
    · simp at h
    rename_i h2
    rw [if_neg h2]
    simp only; omega
  · rw [flagR_err hx] at h; exact absurd h hx
end Go.Proofs.YtcbagajjgbfgdaaGreat

/- Configurations: what is read; without the program. Conditions: none. -/
namespace Go.Proofs.YtcbagajjgbfgdaaGreat
open Go.RowKit Go.PlainAid

def ofRows (s : ByteArray) : Nat → Int → Int → List MemT → List MemT × Int × Int
  | 0, a, x, acc => (acc, a, x)
  | k + 1, a, x, acc => ofRows s k (numR s (numR s a x 3).2.1 (numR s a x 3).2.2 1073741824).2.1 (numR s (numR s a x 3).2.1 (numR s a x 3).2.2 1073741824).2.2 (acc ++ [((numR s a x 3).1, (numR s (numR s a x 3).2.1 (numR s a x 3).2.2 1073741824).1)])
/-- All that is read: epoch, members, floor, the place, the error. -/
def ofAll (s : ByteArray) : Int × List MemT × Int × Int × Int :=
  let r0 := numR s 0 0 1073741824
  let r1 := numR s r0.2.1 r0.2.2 4
  let r2 := ofRows s r1.1.toNat r1.2.1 r1.2.2 []
  let r3 := bigR s r2.2.1 r2.2.2
  (r0.1, r2.1, r3.1, r3.2.1, r3.2.2)
def ofErr (s : ByteArray) : Int := if endV s (ofAll s).2.2.2.1.toNat (ofAll s).2.2.2.2 ≠ 0 then endV s (ofAll s).2.2.2.1.toNat (ofAll s).2.2.2.2 else chkC (ofAll s).1 (ofAll s).2.1
end Go.Proofs.YtcbagajjgbfgdaaGreat

/- Package conf: bytes that are put, what the check tells. Conditions: none. -/
namespace Go.Proofs.YtcbagajjgbfgdaaGreat
open Go.RowKit Go.PlainAid

def putM (l : List MemT) : List UInt8 := l.flatMap fun m => putL m.1 ++ putL m.2
theorem putM_len (l : List MemT) : (putM l).length ≤ 18 * l.length := by
  induction l with
  | nil => simp [putM]
  | cons m r ih =>
    have h1 := putL_le m.1; have h2 := putL_le m.2
    have e : putM (m :: r) = putL m.1 ++ putL m.2 ++ putM r := by simp [putM]
    rw [e]; simp only [List.length_append, List.length_cons]; omega
def putC (ep : Int) (ms : List MemT) (fl : Int) : List UInt8 := putL ep ++ putL (ms.length : Int) ++ putM ms ++ putL fl
/-- What a configuration that may be is like. -/
theorem chkM_ok : ∀ (pre r : List MemT), chkM pre r = 0 → ∀ m ∈ r, (0 ≤ m.1 ∧ m.1 < 4) ∧ (1 ≤ m.2 ∧ m.2 ≤ 1073741824)
  | _, [], _ => by simp
  | pre, m :: r, h => by
    unfold chkM at h
    split at h
    · omega
    rename_i h1
    split at h
    · omega
    rename_i h2
    split at h
    · omega
    intro o ho
    rcases List.mem_cons.1 ho with rfl | ho
    · unfold badId at h1; unfold badSer at h2; exact ⟨by omega, by omega⟩
    · exact chkM_ok _ r h o ho
theorem chkC_ok {ep : Int} {ms : List MemT} (h : chkC ep ms = 0) : (1 ≤ ep ∧ ep ≤ 1073741824) ∧ (0 < ms.length ∧ ms.length ≤ 4) ∧ chkM [] ms = 0 ∧ ∀ m ∈ ms, (0 ≤ m.1 ∧ m.1 < 4) ∧ (1 ≤ m.2 ∧ m.2 ≤ 1073741824) := by
  unfold chkC at h
  split at h
  · omega
  split at h
  · omega
  split at h
  · omega
  exact ⟨by omega, by omega, h, chkM_ok _ _ h⟩
end Go.Proofs.YtcbagajjgbfgdaaGreat

/- Steps of a walk over known slots: what a frame's slots hold is kept as a list; each operation, branch and loop by one law. Conditions: none. -/
namespace Go.Proofs.YtcbagajjgbfgdaaGreat
open Go.RowKit

section
variable {P : Program} {n : Nat} {m : List (Nat × Value)} {a : Act} {w : World}

/-- What is known of a frame: its size, that nothing is deferred, what some of its slots hold. -/
structure Slots (n : Nat) (m : List (Nat × Value)) (a : Act) : Prop where
  size : a.tmps.size = n
  defers : a.defers = []
  look : ∀ t v, m.lookup t = some v → a.tmps.getD t undef = v

def ev (m : List (Nat × Value)) : Operand → Option Value
  | .tmp t => m.lookup t
  | .const v => some v
  | .global g => some (.pointer (some ⟨g, 0, none⟩))
  | .func f => some (.func (.func f) #[] #[])
theorem Slots.ev (h : Slots n m a) {x : Operand} {v : Value} (hx : ev m x = some v) : a.eval x = v := by
  cases x with
  | tmp t => exact h.look t v hx
  | const u => simpa [Go.Proofs.YtcbagajjgbfgdaaGreat.ev, Act.eval] using hx
  | global g => simpa [Go.Proofs.YtcbagajjgbfgdaaGreat.ev, Act.eval] using hx
  | func f => simpa [Go.Proofs.YtcbagajjgbfgdaaGreat.ev, Act.eval] using hx
def lk (m : List (Nat × Value)) (x : Operand) : Value := (ev m x).getD undef
def okOps (m : List (Nat × Value)) (o : Op) : Bool := o.operands.all fun x => (ev m x).isSome
theorem Slots.lk (h : Slots n m a) {x : Operand} (hx : (Go.Proofs.YtcbagajjgbfgdaaGreat.ev m x).isSome = true) : a.eval x = lk m x := by
  obtain ⟨v, hv⟩ := Option.isSome_iff_exists.1 hx
  rw [h.ev hv]; simp [Go.Proofs.YtcbagajjgbfgdaaGreat.lk, hv]
theorem Slots.put {d : Nat} {v : Value} (h : Slots n m a) (hd : d < n) : Slots n ((d, v) :: m) (a.put (some d) v) := by
  obtain ⟨h1, h2, h3⟩ := h
  refine ⟨by simp [Act.put, h1], h2, fun t u ht => ?_⟩
  rw [List.lookup_cons] at ht
  by_cases e : t = d
  · subst e
    simp at ht
    subst ht
    simp [Act.put, h1, hd]
  · have : (t == d) = false := by simpa using e
    rw [this] at ht
    have := h3 t u ht
    simp only [Act.put, Array.getD_eq_getD_getElem?] at this ⊢
    rw [Array.getElem?_setIfInBounds_ne (by omega)]
    exact this
/-- Less is known. -/
def Sub (m : List (Nat × Value)) : List (Nat × Value) → Prop
  | [] => True
  | p :: r => m.lookup p.1 = some p.2 ∧ Sub m r
theorem slot_eq {m : List (Nat × Value)} {t : Nat} {v v' : Value} (h : m.lookup t = some v) (e : v = v') : m.lookup (t, v').1 = some (t, v').2 := by subst e; exact h
theorem Sub.get {m : List (Nat × Value)} : ∀ {l : List (Nat × Value)}, Sub m l → ∀ t v, l.lookup t = some v → m.lookup t = some v
  | [], _, t, v, h => by simp at h
  | p :: r, hs, t, v, h => by
    rw [List.lookup_cons] at h
    by_cases e : t = p.1
    · subst e; simp at h; subst h; exact hs.1
    · have : (t == p.1) = false := by simpa using e
      rw [this] at h
      exact hs.2.get t v h
theorem Slots.sub {l : List (Nat × Value)} (h : Slots n m a) (hs : Sub m l) : Slots n l a := ⟨h.size, h.defers, fun t v ht => h.look t v (hs.get t v ht)⟩
theorem Slots.none {dst : Option Tmp} {v : Value} (h : Slots n m a) (hd : dst = none) : Slots n m (a.put dst v) := by subst hd; exact h

/-- Operation o, in a frame of which m is known and in world w: its value and the world behind it. -/
def Op1 (P : Program) (n : Nat) (m : List (Nat × Value)) (o : Oper) (w : World) (R : Value → World → Prop) : Prop :=
  ∀ a, Slots n m a → ∀ (N : Act → World → Prop) (Q : Exit → Act → World → Prop), (∀ v w', R v w' → N (a.put o.dst v) w') → o.wp P a w N Q

variable {o : Oper} {ops : Array Oper} {rest : List Oper} {Q : Exit → Act → World → Prop} {R : Value → World → Prop}
theorem op_run {v : Value} {w' : World} (hok : okOps m o.op = true) (hsel : (match o.op with | .select .. => true | _ => false) = false) (hrun : (execOp (lk m) o).run P w = .ok (.value v) w') : Op1 P n m o w (fun u x => u = v ∧ x = w') := by
  intro a ha N Q h
  have he : execOp a.eval o = execOp (lk m) o := execOp_congr o (fun cs b e => by simp [e] at hsel) (fun x hx => ha.lk (Array.all_eq_true_iff_forall_mem.1 hok x hx))
  unfold Oper.wp
  rw [he, hrun]
  exact h _ _ ⟨rfl, rfl⟩
theorem Op1.mono {R' : Value → World → Prop} (h : Op1 P n m o w R) (hr : ∀ v w', R v w' → R' v w') : Op1 P n m o w R' := fun a ha N Q hN => h a ha N Q fun v w' hv => hN v w' (hr v w' hv)
/-- A call of a Go function. -/
theorem op_call {c : Call} {x : Operand} {f : FuncId} {args : Array Value} {E : Ending → World → Prop} (ho : o.op = .call c) (hc : c.callee = .value x) (hf : ev m x = some (.func (.func f) #[] #[]))
    (hok : okOps m o.op = true) (hargs : c.args.map (lk m) = args) (hcall : (callFunc f args).run P w = .ok (.enter f args) w) (h : Calls P f args w E) (hE : ∀ e w', E e w' → ∃ v, e = .returned v ∧ R v w') : Op1 P n m o w R := by
  intro a ha N Q hN
  have he : execOp a.eval o = execOp (lk m) o := execOp_congr o (fun cs b e => by simp [e] at ho) (fun x hx => ha.lk (Array.all_eq_true_iff_forall_mem.1 hok x hx))
  unfold Oper.wp
  rw [he]
  have hfx : lk m x = .func (.func f) #[] #[] := by simp [lk, hf]
  have : (execOp (lk m) o).run P w = .ok (.enter f args) w := by
    simp only [execOp, ho, resolve, hc, hfx, Deferred.ofValue, hargs, Sem.run_bind, Sem.run_pure, Result.andThen_ok, invoke]
    simpa using hcall
  rw [this, Oper.upon_enter]
  refine h.mono fun e w' he => ?_
  obtain ⟨v, rfl, hv⟩ := hE e w' he
  exact hN v w' hv
theorem lk_ev {x : Operand} {v : Value} (hx : ev m x = some v) : lk m x = v := by simp [lk, hx]
/-- One cell is loaded. -/
theorem rn_load1 {t : TypeId} {x : Operand} {p : Addr} {v : Value} (ho : o.op = .load t x) (hx : ev m x = some (.pointer (some p))) (ht : ∀ w : World, (isAgg t).run P w = .ok false w) (hc : w.cell? p = some v) : (execOp (lk m) o).run P w = .ok (.value v) w := by
  unfold execOp
  have hl : (Instr.loadAt t (.pointer (some p))).run P w = .ok v w := by
    simp [Instr.loadAt, Instr.sureAddr, loadVar, ht, Sem.run_bind, load, Sem.run, hc]
  simp only [ho, lk_ev hx, Sem.run_bind, hl, Result.andThen_ok, Sem.run_pure]
/-- Several cells are loaded. -/
theorem rn_loadN {t : TypeId} {x : Operand} {b o' : Nat} {cs : List Value} {d : TypeDesc} (ho : o.op = .load t x) (hx : ev m x = some (.pointer (some ⟨b, o', none⟩))) (hu : P.underlying t = some d) (hd : d.isRow = true) (hi : (P.info? t).map (·.size) = some cs.length) (hc : w.rangeAt b o' cs) : (execOp (lk m) o).run P w = .ok (.value (.agg cs.toArray)) w := by
  unfold execOp
  simp only [ho, lk_ev hx, Instr.loadAt, Instr.sureAddr, Sem.run_bind, Sem.run_pure, Result.andThen_ok, run_loadVar_mid w b o' t cs d hc hu hd hi]
/-- An int's sum, difference, product that is in range. -/
theorem rn_arith {op : BinOp} {T T' : TypeId} {x y : Operand} {k : IntKind} {i j z : Int} (ho : o.op = .binOp op T x y T') (hx : ev m x = some (.int k i)) (hy : ev m y = some (.int k j)) (hop : Op.intArith op k i j = .pure (.int k (k.wrap z))) (hne : (op matches .shl | .shr | .eql | .neq) = false) (hcl : binOp op T (.int k i) (.int k j) = Op.intArith op k i j) (hz : k.wrap z = z) : (execOp (lk m) o).run P w = .ok (.value (.int k z)) w := by
  unfold execOp
  have hg : (eqGuard op T x y (.int k i) (.int k j)).run P w = .ok () w := by
    unfold eqGuard
    cases op <;> simp at hne <;> rfl
  simp only [ho, lk_ev hx, lk_ev hy, Sem.run_bind, hg, hcl, hop, hz, Result.andThen_ok]
  rfl

theorem rn_arith' {op : BinOp} {T T' : TypeId} {x y : Operand} {k : IntKind} {i j z z' : Int} (ho : o.op = .binOp op T x y T') (hx : ev m x = some (.int k i)) (hy : ev m y = some (.int k j)) (hop : Op.intArith op k i j = .pure (.int k (k.wrap z))) (hne : (op matches .shl | .shr | .eql | .neq) = false) (hcl : binOp op T (.int k i) (.int k j) = Op.intArith op k i j) (hz : k.wrap z = z) (he : z = z') : (execOp (lk m) o).run P w = .ok (.value (.int k z')) w := by
  subst he; exact rn_arith ho hx hy hop hne hcl hz
section minmax
variable {ts : Array TypeId} {x y : Operand} {k : IntKind} {i j : Int}
end minmax

/-! ### A plain region -/
theorem pl_nil (h : Q .normal a w) : wpList P ops Q [] a w := h
theorem getD_some {tmps : Array Value} {t : Nat} {b : Bool} (h : tmps.getD t undef = .bool b) : tmps[t]? = some (.bool b) := by
  rw [Array.getD_eq_getD_getElem?] at h
  cases hx : tmps[t]? with
  | none => rw [hx] at h; simp [undef] at h
  | some u => rw [hx] at h; simp at h; rw [h]
/-- Is a guarded operation wanted? -/
def wantB (m : List (Nat × Value)) (ops : Array Oper) (o : Oper) : Option Bool :=
  match o.guard with
  | none => some true
  | some (g, b) => match ((ops[g]?).bind (·.dst)).bind (m.lookup ·) with
    | some (.bool c) => some (c == b)
    | some (.tuple _) => some false
    | _ => none
theorem Slots.wants {c : Bool} (hs : Slots n m a) (h : wantB m ops o = some c) : Region.wanted o (yielded ops a.tmps) = c := by
  unfold wantB at h
  unfold Region.wanted
  cases hg : o.guard with
  | none => rw [hg] at h; simpa using h
  | some p =>
    obtain ⟨g, b⟩ := p
    rw [hg] at h
    simp only at h ⊢
    cases hd : (ops[g]?).bind (·.dst) with
    | none => rw [hd] at h; simp at h
    | some d =>
      rw [hd] at h
      simp only [Option.bind_some] at h
      cases hm : m.lookup d with
      | none => rw [hm] at h; simp at h
      | some u =>
        rw [hm] at h
        cases u <;> simp at h
        · rename_i q
          have := getD_some (hs.look d _ hm)
          simp [yielded, hd, this, h]
        · rename_i q
          subst h
          have h1 := hs.look d _ hm
          rw [Array.getD_eq_getD_getElem?] at h1
          have h2 : yielded ops a.tmps g = Option.none := by
            unfold yielded
            rw [hd]
            simp only [Option.bind_some]
            cases hx : a.tmps[d]? with
            | none => rfl
            | some u => rw [hx] at h1; simp at h1; subst h1; rfl
          rw [h2]; rfl
theorem pl_want {d : Nat} (hs : Slots n m a) (hg : wantB m ops o = some true) (hd : o.dst = some d) (hdn : Nat.blt d n = true) (h1 : Op1 P n m o w R)
    (h : ∀ v w' a', R v w' → Slots n ((d, v) :: m) a' → wpList P ops Q rest a' w') : wpList P ops Q (o :: rest) a w :=
  wpList_step fun K hK => by
    rw [if_pos (hs.wants hg)]
    exact h1 a hs K Q fun v w' hv => hK _ _ (h v w' _ hv (by rw [hd]; exact hs.put (by simpa using hdn)))
theorem pl_doW (hs : Slots n m a) (hg : wantB m ops o = some true) (hd : o.dst = none) (h1 : Op1 P n m o w R)
    (h : ∀ v w' a', R v w' → Slots n m a' → wpList P ops Q rest a' w') : wpList P ops Q (o :: rest) a w :=
  wpList_step fun K hK => by
    rw [if_pos (hs.wants hg)]
    exact h1 a hs K Q fun v w' hv => hK _ _ (h v w' _ hv (hs.none hd))
theorem pl_skip {d : Nat} (hs : Slots n m a) (hg : wantB m ops o = some false) (hd : o.dst = some d) (hdn : Nat.blt d n = true)
    (h : ∀ a', Slots n ((d, undef) :: m) a' → wpList P ops Q rest a' w) : wpList P ops Q (o :: rest) a w :=
  wpList_step fun K hK => by
    rw [if_neg (by simp [hs.wants hg])]
    exact hK _ _ (h _ (by rw [hd]; exact hs.put (by simpa using hdn)))

/-- An operation that leaves the world as it is. -/
theorem pl_val {d : Nat} {v : Value} (hs : Slots n m a) (hg : wantB m ops o = some true) (hd : o.dst = some d) (hdn : Nat.blt d n = true) (hok : okOps m o.op = true) (hsel : (match o.op with | .select .. => true | _ => false) = false) (hrun : (execOp (lk m) o).run P w = .ok (.value v) w)
    (h : ∀ a', Slots n ((d, v) :: m) a' → wpList P ops Q rest a' w) : wpList P ops Q (o :: rest) a w :=
  pl_want hs hg hd hdn (op_run hok hsel hrun) fun _ _ a' ⟨h1, h2⟩ hs' => by subst h1 h2; exact h a' hs'
/-! ### A region that draws its order -/
variable {md : Region.Mode} {S : World → Prop} {fuel : Nat} {listed : Array Bool} {i d : Nat}
abbrev NP (Q : Exit → Act → World → Prop) := NoPanic Q
theorem dr_start {id : Nat} {l : List Oper} (hm : P.follows .mixedOrders = true) (hS : S w.drew) (h : wpAnyH P .any l.toArray (NP Q) S l.length (Array.replicate l.length false) a w.drew) : (Code.region id l.toArray true).wp P Q a w :=
  wp_region_noPanic (wp_region_held_drew (S := S) hm hS fun _ => by simpa using h)
/-- Number i, which yields v in every world that meets S, is taken first. -/
theorem dr_take {v : Value} (hs : Slots n m a) (ho : ops[i]? = some o) (hsel : Region.noSelect ops = true) (hf : Region.free md ops listed i = true) (hr : (Region.ready md ops listed).contains i = true)
    (hw : wantB m ops o = some true) (hd : o.dst = some d) (hdn : Nat.blt d n = true) (hS : S w) (hok : okOps m o.op = true) (hrun : ∀ w, S w → (execOp (lk m) o).run P w = .ok (.value v) w)
    (h : ∀ a', Slots n ((d, v) :: m) a' → wpAnyH P md ops (NP Q) S fuel (listed.setIfInBounds i true) a' w) : wpAnyH P md ops (NP Q) S (fuel + 1) listed a w := by
  have he : execOp a.eval o = execOp (lk m) o := execOp_congr o (fun cs b e => Region.noSelect_spec hsel i o cs b ho e) (fun x hx => hs.lk (Array.all_eq_true_iff_forall_mem.1 hok x hx))
  refine wpAnyH_take ho hsel hf hr (fun _ _ _ h => h) (Or.inl ⟨hs.wants hw, fun w' hw' => by rw [he]; exact hrun w' hw'⟩) hS ?_
  exact h _ (by rw [hd]; exact hs.put (by simpa using hdn))
/-- Number i, which is not wanted. -/
theorem dr_skip (hs : Slots n m a) (ho : ops[i]? = some o) (hsel : Region.noSelect ops = true) (hf : Region.free md ops listed i = true) (hr : (Region.ready md ops listed).contains i = true)
    (hw : wantB m ops o = some false) (hd : o.dst = some d) (hdn : Nat.blt d n = true) (hS : S w)
    (h : ∀ a', Slots n ((d, undef) :: m) a' → wpAnyH P md ops (NP Q) S fuel (listed.setIfInBounds i true) a' w) : wpAnyH P md ops (NP Q) S (fuel + 1) listed a w := by
  refine wpAnyH_take ho hsel hf hr (fun _ _ _ h => h) (Or.inr ⟨hs.wants hw, rfl⟩) hS ?_
  exact h _ (by rw [hd]; exact hs.put (by simpa using hdn))
/-- Number i alone may come up. -/
theorem dr_one (hs : Slots n m a) (ho : ops[i]? = some o) (hr : Region.ready md ops listed = [i]) (hw : wantB m ops o = some true) (hd : o.dst = some d) (hdn : Nat.blt d n = true) (h1 : Op1 P n m o w R) (hS : ∀ v w', R v w' → S w')
    (h : ∀ v w' a', R v w' → Slots n ((d, v) :: m) a' → wpAnyH P md ops (NP Q) S fuel (listed.setIfInBounds i true) a' w') : wpAnyH P md ops (NP Q) S (fuel + 1) listed a w := by
  refine wpAnyH_all hr (by simp) fun j hj => ?_
  simp only [List.mem_singleton] at hj
  subst hj
  unfold wpOp
  simp only [ho, hs.wants hw, if_true]
  exact .inl (h1 a hs _ _ fun v w' hv => ⟨hS v w' hv, h v w' _ hv (by rw [hd]; exact hs.put (by simpa using hdn))⟩)
theorem dr_oneDo (hs : Slots n m a) (ho : ops[i]? = some o) (hr : Region.ready md ops listed = [i]) (hw : wantB m ops o = some true) (hd : o.dst = none) (h1 : Op1 P n m o w R) (hS : ∀ v w', R v w' → S w')
    (h : ∀ v w' a', R v w' → Slots n m a' → wpAnyH P md ops (NP Q) S fuel (listed.setIfInBounds i true) a' w') : wpAnyH P md ops (NP Q) S (fuel + 1) listed a w := by
  refine wpAnyH_all hr (by simp) fun j hj => ?_
  simp only [List.mem_singleton] at hj
  subst hj
  unfold wpOp
  simp only [ho, hs.wants hw, if_true]
  exact .inl (h1 a hs _ _ fun v w' hv => ⟨hS v w' hv, h v w' _ hv (hs.none hd)⟩)
theorem dr_done (hr : Region.ready md ops listed = []) (h : Q .normal a w) : wpAnyH P md ops (NP Q) S fuel listed a w := wpAnyH_done hr (NoPanic.normal h) fuel

/-! ### Code -/
theorem co_seq {x y : Code} (h : x.wp P (Exit.then (y.wp P Q) Q) a w) : (Code.seq x y).wp P Q a w := wp_seq h
theorem co_reg {id : Nat} {l : List Oper} (h : wpList P l.toArray Q l a w) : (Code.region id l.toArray false).wp P Q a w := wp_region_lit h
theorem co_then {K : Act → World → Prop} (h : K a w) : Exit.then K Q .normal a w := h
theorem co_true {c : Operand} {x y : Code} (hs : Slots n m a) (hc : ev m c = some (.bool true)) (h : x.wp P Q a w) : (Code.cond c x y).wp P Q a w := wp_cond_true (hs.ev hc) h
theorem co_false {c : Operand} {x y : Code} (hs : Slots n m a) (hc : ev m c = some (.bool false)) (h : y.wp P Q a w) : (Code.cond c x y).wp P Q a w := wp_cond_false (hs.ev hc) h
theorem co_loop {c : Code} (I : Nat → Act → World → Prop) (k : Nat) (h₀ : I k a w) (round : ∀ k a w, I k a w → c.wp P (Exit.then (fun a' w' => ∃ k', k' < k ∧ I k' a' w') Q) a w) : (Code.loop c).wp P Q a w := wp_loop_ghost I k h₀ round
theorem co_thenX {K : Act → World → Prop} {i : Nat} (h : Q (.exit i) a w) : Exit.then K Q (.exit i) a w := h
theorem co_thenR {K : Act → World → Prop} (h : Q .ret a w) : Exit.then K Q .ret a w := h
theorem co_blockN {i : Nat} (h : Q .normal a w) : Exit.inBlock i Q .normal a w := h
theorem co_blockX {i : Nat} (h : Q .normal a w) : Exit.inBlock i Q (.exit i) a w := by simpa [Exit.inBlock] using h
theorem co_blockY {i j : Nat} (hne : i ≠ j) (h : Q (.exit i) a w) : Exit.inBlock j Q (.exit i) a w := by simpa [Exit.inBlock, hne] using h
theorem co_blockR {i : Nat} (h : Q .ret a w) : Exit.inBlock i Q .ret a w := h
theorem co_cut {x y : Code} (M : Act → World → Prop) (h1 : x.wp P (Exit.then M Q) a w) (h2 : ∀ a w, M a w → y.wp P Q a w) : (Code.seq x y).wp P Q a w :=
  wp_seq (Code.wp_mono (fun e a' w' q => by cases e <;> first | exact h2 _ _ q | exact q) h1)
/-- The call begins. -/
theorem q0 {K : Act → World → Prop} (h : K a w) : Code.skip.wp P (Exit.then K Q) a w := wp_skip h
theorem q1 {K : Act → World → Prop} (h : K a w) : wpList P ops (Exit.then K Q) [] a w := h
theorem q2 {id : Nat} {l : List Oper} {y : Code} (h : wpList P l.toArray (Exit.then (y.wp P Q) Q) l a w) : (Code.seq (Code.region id l.toArray false) y).wp P Q a w := co_seq (co_reg h)
theorem q9 {id : Nat} {l : List Oper} {y z : Code} (h : wpList P l.toArray (Exit.then (y.wp P (Exit.then (z.wp P Q) Q)) (Exit.then (z.wp P Q) Q)) l a w) : (Code.seq (Code.seq (Code.region id l.toArray false) y) z).wp P Q a w := co_seq (q2 h)
theorem q3 {Q' : Exit → Act → World → Prop} {id : Nat} {l : List Oper} {y : Code} (h : wpList P l.toArray (Exit.then (y.wp P Q) Q) l a w) : wpList P ops (Exit.then ((Code.seq (Code.region id l.toArray false) y).wp P Q) Q') [] a w := q1 (q2 h)
theorem q6 {Q' : Exit → Act → World → Prop} {id : Nat} {l : List Oper} {y z : Code} (h : wpList P l.toArray (Exit.then (y.wp P (Exit.then (z.wp P Q) Q)) (Exit.then (z.wp P Q) Q)) l a w) : wpList P ops (Exit.then ((Code.seq (Code.seq (Code.region id l.toArray false) y) z).wp P Q) Q') [] a w := q1 (q9 h)
theorem q7 {Q' : Exit → Act → World → Prop} {id : Nat} {l : List Oper} {y : Code} (h : wpList P l.toArray (Exit.then (y.wp P Q) Q) l a w) : Code.skip.wp P (Exit.then ((Code.seq (Code.region id l.toArray false) y).wp P Q) Q') a w := q0 (q2 h)
theorem q8 {Q' : Exit → Act → World → Prop} {id : Nat} {l : List Oper} {y z : Code} (h : wpList P l.toArray (Exit.then (y.wp P (Exit.then (z.wp P Q) Q)) (Exit.then (z.wp P Q) Q)) l a w) : Code.skip.wp P (Exit.then ((Code.seq (Code.seq (Code.region id l.toArray false) y) z).wp P Q) Q') a w := q0 (q9 h)
theorem q4 {Q' : Exit → Act → World → Prop} (h : Q .ret a w) : wpList P ops (Exit.then (Code.ret.wp P Q) Q') [] a w := q1 (wp_ret h)
theorem q5 {K : Act → World → Prop} {Q' : Exit → Act → World → Prop} (h : Q .ret a w) : wpList P ops (Exit.then (Code.ret.wp P (Exit.then K Q)) Q') [] a w := q4 h
theorem qr {K : Act → World → Prop} {i : Nat} (h : Q .ret a w) : Exit.inBlock i (Exit.then K Q) .ret a w := h
theorem qx {K : Act → World → Prop} {i : Nat} (h : K a w) : Exit.inBlock i (Exit.then K Q) (.exit i) a w := co_blockX h
theorem co_enter {f : FuncId} {fn : Func} {c : Code} {args : Array Value} {E : Ending → World → Prop} (hf : P.funcs[f]? = some fn) (hb : fn.body = some c) (hn : fn.ntmps = n) (hl : Nat.ble args.size n = true) (m : List (Nat × Value)) (hm : m = args.toList.zipIdx.map fun p => (p.2, p.1))
    (h : ∀ a, Slots n m a → c.wp P (bodyPost P fn E) a w) : Calls P f args w E := by
  have hl := Nat.le_of_ble_eq_true hl
  refine calls_of_wp hf hb (h _ ⟨by simp [hn]; omega, rfl, fun t v ht => ?_⟩)
  subst hm
  have hlk : ∀ (l : List Value) (k t : Nat) v, ((l.zipIdx k).map fun p => (p.2, p.1)).lookup t = some v → k ≤ t ∧ l[t - k]? = some v := by
    intro l
    induction l with
    | nil => intro k t v h; simp at h
    | cons x l ih =>
      intro k t v h
      rw [List.zipIdx_cons, List.map_cons, List.lookup_cons] at h
      by_cases e : t = k
      · subst e; simp at h; subst h; simp
      · have hb : (t == k) = false := by simpa using e
        rw [hb] at h
        obtain ⟨h1, h2⟩ := ih (k + 1) t v h
        refine ⟨by omega, ?_⟩
        rw [show t - k = (t - (k + 1)) + 1 by omega, List.getElem?_cons_succ]; exact h2
  obtain ⟨_, h2⟩ := hlk _ 0 t v ht
  simp only [Nat.sub_zero, Array.getElem?_toList] at h2
  rw [Array.getD_eq_getD_getElem?, Array.getElem?_append_left (Array.getElem?_eq_some_iff.1 h2).1, h2]; rfl
/-- The call ends. -/
theorem co_ret1 {fn : Func} {E : Ending → World → Prop} {t : Nat} {v : Value} (hs : Slots n m a) (hr : fn.results = #[.tmp t]) (ht : m.lookup t = some v) (h : E (.returned v) w) : bodyPost P fn E .ret a w := by
  have := hs.look t v ht
  exact bodyPost_ret (results_tmp hr a.tmps P w) hs.defers (by rw [this]; exact h)
theorem co_ret2 {fn : Func} {E : Ending → World → Prop} {t u : Nat} {v x : Value} (hs : Slots n m a) (hr : fn.results = #[.tmp t, .tmp u]) (ht : m.lookup t = some v) (hu : m.lookup u = some x) (h : E (.returned (.tuple #[v, x])) w) : bodyPost P fn E .ret a w := by
  have h1 := hs.look t v ht
  have h2 := hs.look u x hu
  exact bodyPost_ret (results_tmp2 hr a.tmps P w) hs.defers (by rw [h1, h2]; exact h)
theorem co_ret0n {fn : Func} {E : Ending → World → Prop} (hs : Slots n m a) (hr : fn.results = #[]) (h : E (.returned (.tuple #[])) w) : bodyPost P fn E .normal a w :=
  bodyPost_end (results_none hr a.tmps P w) hs.defers h
end
end Go.Proofs.YtcbagajjgbfgdaaGreat
