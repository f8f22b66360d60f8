/- Put together: LibCzq, SlCzq, ConfACzq, ConfBCzq, ConfDCzq, VnACzq, ButCzq, AppStrCzq, WireACzq, WireBCzq, WireCCzq, WireDCzq, WireECzq, WireFCzq, VnBCzq, WireGCzq, WireICzq, WireJCzq, WireLCzq, WireNCzq, WireOCzq, WireTCzq, ConfTaCzq, PexCzq, PexBCzq, PexCCzq, PexDCzq, ObjCzq, OpsACzq, OpsBCzq, PexECzq, ConfWCzq, OpenCzq, EntBCzq, MapCzq, MapCCzq. Conditions: as each says. -/
import Derived.Test.YtifknllhmbkkcaaGreatRows
import Derived.WalkKit
import Derived.WalkSpells
import Derived.WalkLawsBesides
import Derived.Deep.LoopGhost
import Derived.Lib.Hide
import Derived.Laws.IdiomStrings
import Derived.Lib.QuietBelow
import Derived.BigQuiet
import Derived.PlainAid
import Derived.Lib.SmallJoins
import Derived.Deep.MidRow
import Derived.Laws.AppendOwnNone
import Derived.Laws.StructEq
import Derived.Laws.Pointers
import Derived.Deep.QuietTactic
import Derived.Deep.RegionHeld3
import Derived.Lib.AppendStr
import Derived.Deep.RegionLaw
import Derived.Deep.AppendLies
import Derived.Defers
import Derived.Recover
import Derived.Laws.BytesArg
import Derived.Laws.Concat
import Derived.ProofKit
import Derived.Deep.Slices
import Derived.Deep.Fields
import Derived.SliceStrings
import Derived.SizedLaws
import Derived.StringKeys
/- Small laws on worlds, rows and bounds that the walks of this seat share. Conditions: none. -/
namespace Go.Proofs.YtifknllhmbkkcaaGreat
open Go.RowKit

theorem ret_int {k : IntKind} {a b : Int} (h : a = b) : Ending.returned (.int k a) = .returned (.int k b) := by rw [h]
theorem ret_bool {a b : Bool} (h : a = b) : Ending.returned (.bool a) = .returned (.bool b) := by rw [h]
/-- One new cell, at its block's head. -/
theorem one_cell (w : World) (v : Value) (T : TypeId) : ∀ (j : Nat) u, [v][j]? = some u → (w.alloc (.cells #[v] T)).cell? ((⟨w.heap.size, 0, none⟩ : Addr).add j) = some u := by
  intro j u hj
  match j, hj with
  | 0, hj => simp at hj; subst hj; rw [Addr.add_lit, World.cell?_alloc_mark]; rfl
/-- A row of a world is a row of what comes behind it. -/
theorem row_below {B : Nat} {e : TypeId} {k : Nat} {v : Value} {n : Nat} {xs : List Value} {w w' : World} (h : w.ownsRow B e k v n xs) (hb : Below w.heap.size w w') : w'.ownsRow B e k v n xs := by
  obtain ⟨h1, h2⟩ := h
  refine ⟨h1, ?_⟩
  rcases h2 with h2 | ⟨g, cap, cur, hv, hg, hh, r⟩
  · exact Or.inl h2
  · exact Or.inr ⟨g, cap, cur, hv, hg, by rw [hb.block g (Array.getElem?_eq_some_iff.1 hh).1]; exact hh, r⟩
theorem wf_u64 {a : Int} (h : (Lit.int .u64 a).wf = true) : 0 ≤ a ∧ a < 18446744073709551616 := by
  have : 0 ≤ a ∧ a ≤ 18446744073709551615 := by simpa [Lit.wf, IntKind.min, IntKind.max, IntKind.signed, IntKind.bits] using h
  omega
/-- An owned row of cells of one value each, as a slice: its cells. -/
theorem row_view {w : World} {B : Nat} {e : TypeId} {v : Value} {n : Nat} {xs : List Value} (h : w.ownsRow B e 1 v n xs) :
    ∃ ao c, v = .slice ao n c ∧ n ≤ 9223372036854775807 ∧ ∀ j, j < n → ∃ g, ao = some ⟨g, 0, none⟩ ∧ B ≤ g ∧ w.cell? ⟨g, j, none⟩ = xs[j]? := by
  rcases h.2 with ⟨hv, hn⟩ | ⟨g, cap, cur, hv, hg, _⟩
  · subst hn; exact ⟨none, 0, hv, by omega, fun j hj => absurd hj (by omega)⟩
  · subst hv
    obtain ⟨_, hnc, hcm, _⟩ := ‹_ ∧ _ ∧ _ ∧ _›
    exact ⟨_, _, rfl, by unfold maxLen at hcm; omega, fun j hj => ⟨g, rfl, hg, h.cellAt j (by omega)⟩⟩
/-- A cell of a world, read behind it. -/
theorem cell_below {w w' : World} (h : Below w.heap.size w w') {a : Addr} {v : Value} (hc : w.cell? a = some v) : w'.cell? a = some v :=
  (h.cell (World.block_lt_of_cell? w a hc)).trans hc
end Go.Proofs.YtifknllhmbkkcaaGreat

/- Slices that are read, whatever their elements: their cells; a struct that is loaded out of one; an append from one. Conditions: none. -/
namespace Go.Proofs.YtifknllhmbkkcaaGreat
open Go.RowKit

/-- The slice v reads as the list l: each element's cells are what enc says, sz of them. -/
def SliceOf {α : Type} (enc : α → List Value) (sz : Nat) (w : World) (v : Value) (l : List α) : Prop :=
  ∃ ao cap, v = .slice ao l.length cap ∧ l.length ≤ cap ∧ cap ≤ 9223372036854775807 ∧ (ao = none → l.length = 0 ∧ cap = 0) ∧
    ∀ j (h : j < l.length), ∃ b off, ao = some ⟨b, off, none⟩ ∧ w.rangeAt b (off + j * sz) (enc l[j])

theorem SliceOf.below {α : Type} {enc : α → List Value} {sz : Nat} {w w' : World} {v : Value} {l : List α} (h : SliceOf enc sz w v l) (hb : Below w.heap.size w w') : SliceOf enc sz w' v l := by
  obtain ⟨ao, cap, hv, h1, h2, h3, h4⟩ := h
  refine ⟨ao, cap, hv, h1, h2, h3, fun j hj => ?_⟩
  obtain ⟨b, off, e, hr⟩ := h4 j hj
  exact ⟨b, off, e, fun i u hu => cell_below hb (hr i u hu)⟩
theorem SliceOf.nil {α : Type} (enc : α → List Value) (sz : Nat) (w : World) : SliceOf enc sz w (.slice none 0 0) ([] : List α) :=
  ⟨none, 0, rfl, by simp, by omega, fun _ => ⟨rfl, rfl⟩, fun j hj => absurd hj (by simp)⟩
/-- One integer a cell. -/
def intE (k : IntKind) (n : Int) : List Value := [.int k n]
/-- The cells of rows of one size, one behind the other. -/
theorem flat_at {α : Type} {enc : α → List Value} {size : Nat} : ∀ (l : List α) (q r : Nat) (hql : q < l.length), (∀ y ∈ l, (enc y).length = size) → r < size → (l.flatMap enc)[q * size + r]? = (enc l[q])[r]?
  | [], q, r, hql, _, _ => absurd hql (by simp)
  | y :: l, 0, r, _, hy, hr => by
    rw [List.flatMap_cons, Nat.zero_mul, Nat.zero_add, List.getElem?_append_left (by rw [hy y (by simp)]; exact hr)]; rfl
  | y :: l, q + 1, r, hql, hy, hr => by
    rw [List.flatMap_cons, List.getElem?_append_right (by rw [hy y (by simp), Nat.add_mul]; omega), hy y (by simp), show (q + 1) * size + r - size = q * size + r by rw [Nat.add_mul]; omega]
    exact flat_at l q r (by simpa using hql) (fun z hz => hy z (by simp [hz])) hr
/-- A row of the call's own. -/
theorem SliceOf.own {α : Type} {enc : α → List Value} {sz : Nat} {w : World} {B : Nat} {e : TypeId} {v : Value} {l : List α} (h : w.ownsRow B e sz v l.length (l.flatMap enc)) (hsz : ∀ x ∈ l, (enc x).length = sz) : SliceOf enc sz w v l := by
  rcases h.2 with ⟨hv, hn⟩ | ⟨g, cap, cur, hv, hg, _, hnc, hcm, _⟩
  · obtain rfl : l = [] := List.eq_nil_of_length_eq_zero hn
    rw [hv]; exact SliceOf.nil _ _ _
  · refine ⟨some ⟨g, 0, none⟩, cap, hv, hnc, by unfold maxLen at hcm; omega, fun h => by (cases h), fun j hj => ⟨g, 0, rfl, fun i u hu => ?_⟩⟩
    have hi : i < sz := by rw [← hsz _ (List.getElem_mem hj)]; exact (List.getElem?_eq_some_iff.1 hu).1
    have hlt : j * sz + i < l.length * sz := by
      have : (j + 1) * sz ≤ l.length * sz := Nat.mul_le_mul_right _ hj
      rw [Nat.add_mul] at this; omega
    have hc := h.cells (g := g) (by rw [hv]; rfl) (j * sz + i) u
    rw [Addr.add_lit] at hc
    rw [Nat.zero_add]; rw [Nat.zero_add] at hc
    exact hc (by rw [flat_at l j i hj hsz hi]; exact hu)

end Go.Proofs.YtifknllhmbkkcaaGreat

/- Configurations: members, places. Conditions: none. -/
namespace Go.Proofs.YtifknllhmbkkcaaGreat
open Go.RowKit Go.PlainAid

/-- A member: Id, Serial. -/
abbrev MemT := Int × Int
def memE (m : MemT) : List Value := [.int .i64 m.1, .int .i64 m.2]
def memV (m : MemT) : Value := .agg #[.int .i64 m.1, .int .i64 m.2]
def memOk (m : MemT) : Prop := (-9223372036854775808 ≤ m.1 ∧ m.1 ≤ 9223372036854775807) ∧ (-9223372036854775808 ≤ m.2 ∧ m.2 ≤ 9223372036854775807)
structure ConfT where
  ep : Int
  mv : Value
  ms : List MemT
  fl : Int
instance : Inhabited ConfT := ⟨⟨0, .slice none 0 0, [], 0⟩⟩
def confV (c : ConfT) : Value := .agg #[.int .i64 c.ep, c.mv, .int .u64 c.fl]
structure ConfOk (w : World) (c : ConfT) : Prop where
  ms : SliceOf memE 2 w c.mv c.ms
  each : ∀ m ∈ c.ms, memOk m
  e0 : -9223372036854775808 ≤ c.ep
  e1 : c.ep ≤ 9223372036854775807
  f0 : 0 ≤ c.fl
  f1 : c.fl < 18446744073709551616
theorem ConfOk.below {w w' : World} {c : ConfT} (h : ConfOk w c) (hb : Below w.heap.size w w') : ConfOk w' c := ⟨h.ms.below hb, h.each, h.e0, h.e1, h.f0, h.f1⟩
/-- The place of the first member of which P holds. -/
def fndF (P : MemT → Bool) : List MemT → Nat → Int
  | [], _ => -1
  | m :: r, i => if P m then (i : Int) else fndF P r (i + 1)
theorem fndF_cons {P : MemT → Bool} {l : List MemT} {i : Nat} (h : i < l.length) : fndF P (l.drop i) i = if P l[i] then (i : Int) else fndF P (l.drop (i + 1)) (i + 1) := by
  rw [List.drop_eq_getElem_cons h]; rfl
theorem fndF_end {P : MemT → Bool} {l : List MemT} {i : Nat} (h : l.length ≤ i) : fndF P (l.drop i) i = -1 := by
  rw [List.drop_eq_nil_of_le h]; rfl
def fnd (P : MemT → Bool) (l : List MemT) : Int := fndF P l 0
set_option maxRecDepth 100000 in
set_option maxHeartbeats 1600000 in
theorem first_any (F : FuncId) (p : Value) (P : MemT → Bool) (v : Value) (l : List MemT) (w : World) (hs : SliceOf memE 2 w v l)
    (hF : ∀ (x : Value) (u : World), Sem.run Tryz.prog (callFunc F #[x, p]) u = .ok (.enter F #[x, p]) u)
    (hc : ∀ (m : MemT) (u : World), Below w.heap.size w u → Calls Tryz.prog F #[memV m, p] u fun e u' => e = .returned (.bool (P m)) ∧ Below u.heap.size u u') :
    Calls Tryz.prog 172 #[v, .func (.func F) #[] #[p]] w fun e w' => e = .returned (.int .i64 (fnd P l)) ∧ Below w.heap.size w w' := by
  obtain ⟨ao, cap, rfl, hcap, hcm, _, hcell⟩ := hs
  have HC := Lib.hid hcell; have HCC := Lib.hid hc; have HFF := Lib.hid hF
  clear hcell hc hF
  have hF := HFF.out
  go_enter Tryz.func172, Tryz.ntmps172
  go_wp2
  go_loopg [9] (l.length + 1) (fun g s9 wr => ∃ i : Nat, s9 = .int .i64 i ∧ i ≤ l.length ∧ l.length + 1 ≤ i + g ∧ fnd P l = fndF P (l.drop i) i ∧ Below w.heap.size w wr)
  case atStart => exact ⟨0, rfl, by omega, by omega, rfl, Below.refl _ _⟩
  case round =>
    obtain ⟨i, rfl, hi, hg, hf, hbel⟩ := hrel
    have HB := Lib.hid hbel; have hsz := hbel.size; have HFD := Lib.hid hf
    clear hbel hf
    by_cases hlt : i < l.length
    · obtain ⟨b, off, rfl, hr⟩ := HC.out i hlt
      have hr1 : wr.rangeAt b (off + i * 2) (memE l[i]) := fun j u hu => cell_below HB.out (hr j u hu)
      have HS := Lib.hid (fndF_cons (P := P) hlt)
      obtain ⟨m, hm⟩ : ∃ m, m = l[i] := ⟨_, rfl⟩
      rw [← hm] at hr1 HS
      have HR := Lib.hid hr1
      clear hr hr1 hm
      have HB1 := Lib.hid (HB.out.alloc hsz (.cells #[.int .i64 m.1, .int .i64 m.2] 181))
      by_cases hP : P m = true
      · have HS2 : Hid (fnd P l = i) := Lib.hid (by rw [HFD.out, HS.out, if_pos hP])
        go_wp2_with (refine wpList_load_mid rfl 181 (.tmp 12) rfl b (off + i * 2) rfl (memE m) _ HR.out Tryz.underlying181 rfl (by kernel_rfl) ?_; unfold memE)
        refine (HCC.out m _ HB1.out).mono ?_
        rintro e w2 ⟨rfl, hb⟩
        have HB2 := Lib.hid (HB1.out.trans (hb.mono HB1.out.size))
        clear hb
        rw [hP]
        go_wp2
        go_ret
        exact ⟨ret_int HS2.out.symm, HB2.out⟩
      · have hP2 : P m = false := by simpa using hP
        have HS2 : Hid (fnd P l = fndF P (l.drop (i + 1)) (i + 1)) := Lib.hid (by rw [HFD.out, HS.out, if_neg hP])
        clear hP
        go_wp2_with (refine wpList_load_mid rfl 181 (.tmp 12) rfl b (off + i * 2) rfl (memE m) _ HR.out Tryz.underlying181 rfl (by kernel_rfl) ?_; unfold memE)
        refine (HCC.out m _ HB1.out).mono ?_
        rintro e w2 ⟨rfl, hb⟩
        have HB2 := Lib.hid (HB1.out.trans (hb.mono HB1.out.size))
        clear hb
        rw [hP2]
        go_wp2
        go_roundg (gk - 1)
        case rel => exact ⟨i + 1, by go_num, by omega, by omega, HS2.out, HB2.out⟩
        case measure => omega
    · have HS2 : Hid (fnd P l = -1) := Lib.hid (by rw [HFD.out, fndF_end (by omega)])
      go_wp2
      go_ret
      exact ⟨ret_int HS2.out.symm, HB.out⟩

set_option maxRecDepth 100000 in
set_option maxHeartbeats 1600000 in
theorem hasId (b : Nat) (m o : MemT) (w : World) (h0 : w.cell? ⟨b, 0, none⟩ = some (.int .i64 m.1)) (h1 : w.cell? ⟨b, 1, none⟩ = some (.int .i64 m.2)) :
    Calls Tryz.prog 171 #[memV o, .pointer (some ⟨b, 0, none⟩)] w fun e w' => e = .returned (.bool (o.1 == m.1)) ∧ Below w.heap.size w w' := by
  have hbs : b < w.heap.size := World.block_lt_of_cell? w _ h0
  unfold memV
  go_enter Tryz.func171, Tryz.ntmps171
  go_wp2
  go_ret
  exact ⟨rfl, (Below.refl _ _).alloc (Nat.le_refl _) _⟩
end Go.Proofs.YtifknllhmbkkcaaGreat

/- Package conf and the document's own: places, who stands ahead and behind. Conditions: none. -/
namespace Go.Proofs.YtifknllhmbkkcaaGreat
open Go.RowKit Go.PlainAid

def HA (n : Nat) (c : ConfT) (m : MemT) (w' : World) : Prop := w'.cell? ⟨n, 0, none⟩ = some (.int .i64 c.ep) ∧ w'.cell? ⟨n, 1, none⟩ = some c.mv ∧ w'.cell? ⟨n, 2, none⟩ = some (.int .u64 c.fl) ∧ w'.cell? ⟨n + 1, 0, none⟩ = some (.int .i64 m.1) ∧ w'.cell? ⟨n + 1, 1, none⟩ = some (.int .i64 m.2)
theorem HA.step {n : Nat} {c : ConfT} {m : MemT} {w1 w2 : World} (h : w1.cell? ⟨n, 0, none⟩ = some (.int .i64 c.ep) ∧ w1.cell? ⟨n, 1, none⟩ = some c.mv ∧ w1.cell? ⟨n, 2, none⟩ = some (.int .u64 c.fl) ∧ w1.cell? ⟨n + 1, 0, none⟩ = some (.int .i64 m.1) ∧ w1.cell? ⟨n + 1, 1, none⟩ = some (.int .i64 m.2)) (hb : Below w1.heap.size w1 w2) : HA n c m w2 :=
  ⟨cell_below hb h.1, cell_below hb h.2.1, cell_below hb h.2.2.1, cell_below hb h.2.2.2.1, cell_below hb h.2.2.2.2⟩
end Go.Proofs.YtifknllhmbkkcaaGreat

/- Package conf and the document's own: what is wrong with a configuration. Conditions: none. -/
namespace Go.Proofs.YtifknllhmbkkcaaGreat
open Go.RowKit Go.PlainAid

def badId (m : MemT) : Prop := m.1 < 0 ∨ 4 ≤ m.1
def badSer (m : MemT) : Prop := m.2 < 1 ∨ 1073741824 < m.2
instance (m : MemT) : Decidable (badId m) := by unfold badId; infer_instance
instance (m : MemT) : Decidable (badSer m) := by unfold badSer; infer_instance
def chkM : List MemT → List MemT → Int
  | _, [] => 0
  | pre, m :: r => if badId m then 1 else if badSer m then 5 else if 0 ≤ fnd (fun o => o.1 == m.1) pre then 18 else chkM (pre ++ [m]) r
def chkC (ep : Int) (ms : List MemT) : Int := if ep < 1 ∨ 1073741824 < ep then 5 else if ms.length = 0 then 7 else if 4 < ms.length then 6 else chkM [] ms
theorem takeS {α : Type} {l : List α} {i : Nat} (h : i < l.length) : l.take (i + 1) = l.take i ++ [l[i]] := by
  rw [List.take_add_one, List.getElem?_eq_getElem h]; rfl
theorem chkM_at {ms : List MemT} {i : Nat} (h : i < ms.length) : chkM (ms.take i) (ms.drop i) = if badId ms[i] then 1 else if badSer ms[i] then 5 else if 0 ≤ fnd (fun o => o.1 == ms[i].1) (ms.take i) then 18 else chkM (ms.take (i + 1)) (ms.drop (i + 1)) := by
  rw [List.drop_eq_getElem_cons h, takeS h]; rfl
theorem chkM_end {ms : List MemT} {i : Nat} (h : ms.length ≤ i) : chkM (ms.take i) (ms.drop i) = 0 := by
  rw [List.drop_eq_nil_of_le h]; rfl
theorem SliceOf.takeN {α : Type} {enc : α → List Value} {sz : Nat} {w : World} {ao : Option Addr} {cap : Nat} {l : List α} (h : SliceOf enc sz w (.slice ao l.length cap) l) (i : Nat) (hi : i ≤ l.length) : SliceOf enc sz w (.slice ao i cap) (l.take i) := by
  obtain ⟨ao', cap', hv, h1, h2, h3, h4⟩ := h
  injection hv with e1 e2 e3
  subst e1 e3
  have hl : (l.take i).length = i := by rw [List.length_take]; omega
  refine ⟨ao, cap, by rw [hl], by omega, h2, fun e => ⟨by have := (h3 e).1; omega, (h3 e).2⟩, fun j hj => ?_⟩
  obtain ⟨b, off, e, hr⟩ := h4 j (by omega)
  refine ⟨b, off, e, ?_⟩
  rw [List.getElem_take]; exact hr
set_option maxRecDepth 100000 in
set_option maxHeartbeats 3200000 in
theorem check_any (c : ConfT) (w : World) (h : ConfOk w c) :
    Calls Tryz.prog 152 #[confV c] w fun e w' => e = .returned (.int .i64 (chkC c.ep c.ms)) ∧ Below w.heap.size w w' := by
  have hmf : ∀ (fn : Fn) (first cap : Array Value) (w : World), (Instr.makeFunc fn first cap).run Tryz.prog w = .ok (.func fn first cap) w := fun _ _ _ _ => rfl
  obtain ⟨ep, mv, ms, fl⟩ := c
  have hms := h.ms
  obtain ⟨ao, cap, hmv, hcap, hcm, _, hcell⟩ := h.ms
  simp only at hmv hcap hcell hms ⊢
  subst hmv
  unfold confV
  obtain ⟨W, hW⟩ : ∃ W, W = (w.alloc (.cells #[.int .i64 ep, .slice ao ms.length cap, .int .u64 fl] 59)) := ⟨_, rfl⟩
  have hb1 : Below w.heap.size w W := by rw [hW]; exact (Below.refl _ _).alloc (Nat.le_refl _) _
  have q0 : W.cell? ⟨w.heap.size, 0, none⟩ = some (.int .i64 ep) := by rw [hW]; simp
  have q1 : W.cell? ⟨w.heap.size, 1, none⟩ = some (.slice ao ms.length cap) := by rw [hW]; simp
  have Q1 := Lib.hid q1
  have HB := Lib.hid hb1; have HW := Lib.hid hW; have HC := Lib.hid hcell; have HMS := Lib.hid hms
  clear h hb1 hW hcell hms
  by_cases he : ep < 1 ∨ 1073741824 < ep
  · have HZ : Hid (chkC ep ms = 5) := Lib.hid (by unfold chkC; rw [if_pos he])
    rcases (show ep < 1 ∨ (1 ≤ ep ∧ 1073741824 < ep) by omega) with h1 | ⟨h1, h2⟩
    all_goals
      clear he
      go_enter Tryz.func152, Tryz.ntmps152
      go_wp2_with fail
      go_ret
      exact ⟨ret_int HZ.out.symm, by have := HB.out; rw [HW.out] at this; exact this⟩
  · have h1 : 1 ≤ ep := by omega
    have h2 : ep ≤ 1073741824 := by omega
    by_cases hl0 : ms.length = 0
    · have HZ : Hid (chkC ep ms = 7) := Lib.hid (by unfold chkC; rw [if_neg he, if_pos hl0])
      have hl1 : ((ms.length : Int) == 0) = true := by simp [hl0]
      clear he hl0
      go_enter Tryz.func152, Tryz.ntmps152
      go_wp2_with fail
      go_ret
      exact ⟨ret_int HZ.out.symm, by have := HB.out; rw [HW.out] at this; exact this⟩
    · have hl1 : ((ms.length : Int) == 0) = false := beq_eq_false_iff_ne.2 (by omega)
      by_cases hl4 : 4 < ms.length
      · have HZ : Hid (chkC ep ms = 6) := Lib.hid (by unfold chkC; rw [if_neg he, if_neg hl0, if_pos hl4])
        clear he hl0
        go_enter Tryz.func152, Tryz.ntmps152
        go_wp2_with fail
        go_ret
        exact ⟨ret_int HZ.out.symm, by have := HB.out; rw [HW.out] at this; exact this⟩
      · have HZ : Hid (chkC ep ms = chkM (ms.take 0) (ms.drop 0)) := Lib.hid (by unfold chkC; rw [if_neg he, if_neg hl0, if_neg hl4]; rfl)
        clear he hl0
        go_enter Tryz.func152, Tryz.ntmps152
        go_wp2_with fail
        rw [← HW.out]
        go_loopg [25] (ms.length + 1) (fun g s25 wr => ∃ i : Nat, s25 = .int .i64 i ∧ i ≤ ms.length ∧ ms.length + 1 ≤ i + g ∧ chkC ep ms = chkM (ms.take i) (ms.drop i) ∧ Below W.heap.size W wr)
        case atStart => exact ⟨0, rfl, by omega, by omega, HZ.out, Below.refl _ _⟩
        case round =>
          clear HZ
          obtain ⟨i, rfl, hi, hg, hf, hwr⟩ := hrel
          have HF := Lib.hid hf; have HWR := Lib.hid hwr
          have hbw : Below w.heap.size w wr := HB.out.trans (hwr.mono HB.out.size)
          have HBW := Lib.hid hbw
          have q1 := cell_below hwr Q1.out
          have hsz := hbw.size
          have hszW : w.heap.size < wr.heap.size := World.block_lt_of_cell? wr _ q1
          clear hf hwr hbw
          by_cases hlt : i < ms.length
          · obtain ⟨b, off, rfl, hr⟩ := HC.out i hlt
            have hr1 : wr.rangeAt b (off + i * 2) (memE ms[i]) := fun j u hu => cell_below HBW.out (hr j u hu)
            have HS := Lib.hid (chkM_at hlt)
            obtain ⟨m, hm⟩ : ∃ m, m = ms[i] := ⟨_, rfl⟩
            rw [← hm] at hr1 HS
            have HR := Lib.hid hr1
            obtain ⟨W2, hW2⟩ : ∃ W2, W2 = wr.alloc (.cells #[.int .i64 m.1, .int .i64 m.2] 181) := ⟨_, rfl⟩
            have hb2 : Below wr.heap.size wr W2 := by rw [hW2]; exact (Below.refl _ _).alloc (Nat.le_refl _) _
            have c0 : W2.cell? ⟨wr.heap.size, 0, none⟩ = some (.int .i64 m.1) := by rw [hW2]; simp
            have c1 : W2.cell? ⟨wr.heap.size, 1, none⟩ = some (.int .i64 m.2) := by rw [hW2]; simp
            have C0 := Lib.hid c0; have C1 := Lib.hid c1
            have HB2 := Lib.hid (HBW.out.trans (hb2.mono hsz))
            have HBW2 := Lib.hid (HWR.out.trans (hb2.mono HWR.out.size))
            have HT := Lib.hid ((HMS.out.takeN i hi).below HB2.out)
            have HW2 := Lib.hid hW2
            clear hr hr1 hm hW2 hb2 c0 c1
            by_cases hbi : badId m
            · have HZ : Hid (chkC ep ms = 1) := Lib.hid (by rw [HF.out, HS.out, if_pos hbi])
              unfold badId at hbi
              rcases (show m.1 < 0 ∨ (0 ≤ m.1 ∧ 4 ≤ m.1) by omega) with k1 | ⟨k1, k2⟩
              all_goals
                clear hbi
                go_wp2_with (refine wpList_load_mid rfl 181 (.tmp 28) rfl b (off + i * 2) rfl (memE m) _ HR.out Tryz.underlying181 rfl (by kernel_rfl) ?_; unfold memE)
                go_ret
                exact ⟨ret_int HZ.out.symm, by have := HB2.out; rw [HW2.out] at this; exact this⟩
            · by_cases hbs : badSer m
              · have HZ : Hid (chkC ep ms = 5) := Lib.hid (by rw [HF.out, HS.out, if_neg hbi, if_pos hbs])
                unfold badId at hbi
                unfold badSer at hbs
                have k1 : 0 ≤ m.1 := by omega
                have k2 : m.1 < 4 := by omega
                rcases (show m.2 < 1 ∨ (1 ≤ m.2 ∧ 1073741824 < m.2) by omega) with k3 | ⟨k3, k4⟩
                all_goals
                  clear hbi hbs
                  go_wp2_with (refine wpList_load_mid rfl 181 (.tmp 28) rfl b (off + i * 2) rfl (memE m) _ HR.out Tryz.underlying181 rfl (by kernel_rfl) ?_; unfold memE)
                  go_ret
                  exact ⟨ret_int HZ.out.symm, by have := HB2.out; rw [HW2.out] at this; exact this⟩
              · obtain ⟨r, hr⟩ : ∃ r, r = fnd (fun o => o.1 == m.1) (ms.take i) := ⟨_, rfl⟩
                by_cases h0 : 0 ≤ r
                · have HZ : Hid (chkC ep ms = 18) := Lib.hid (by rw [HF.out, HS.out, if_neg hbi, if_neg hbs, if_pos (by omega)])
                  unfold badId at hbi
                  unfold badSer at hbs
                  have k1 : 0 ≤ m.1 := by omega
                  have k2 : m.1 < 4 := by omega
                  have k3 : 1 ≤ m.2 := by omega
                  have k4 : m.2 ≤ 1073741824 := by omega
                  have HRr := Lib.hid hr
                  clear hbi hbs hr
                  go_wp2_with (refine wpList_load_mid rfl 181 (.tmp 28) rfl b (off + i * 2) rfl (memE m) _ HR.out Tryz.underlying181 rfl (by kernel_rfl) ?_; unfold memE)
                  rw [← HW2.out]
                  refine (first_any 171 (.pointer (some ⟨wr.heap.size, 0, none⟩)) (fun o => o.1 == m.1) _ (ms.take i) _ HT.out (fun _ _ => rfl) (fun o u hb => hasId _ m o u (cell_below hb C0.out) (cell_below hb C1.out))).mono ?_
                  rintro e w3 ⟨rfl, hb⟩
                  rw [← HRr.out]
                  have HB3 := Lib.hid (HB2.out.trans (hb.mono HB2.out.size))
                  clear hb
                  go_wp2
                  go_ret
                  exact ⟨ret_int HZ.out.symm, HB3.out⟩
                · have HZ : Hid (chkC ep ms = chkM (ms.take (i + 1)) (ms.drop (i + 1))) := Lib.hid (by rw [HF.out, HS.out, if_neg hbi, if_neg hbs, if_neg (by omega)])
                  unfold badId at hbi
                  unfold badSer at hbs
                  have k1 : 0 ≤ m.1 := by omega
                  have k2 : m.1 < 4 := by omega
                  have k3 : 1 ≤ m.2 := by omega
                  have k4 : m.2 ≤ 1073741824 := by omega
                  have HRr := Lib.hid hr
                  clear hbi hbs hr
                  go_wp2_with (refine wpList_load_mid rfl 181 (.tmp 28) rfl b (off + i * 2) rfl (memE m) _ HR.out Tryz.underlying181 rfl (by kernel_rfl) ?_; unfold memE)
                  rw [← HW2.out]
                  refine (first_any 171 (.pointer (some ⟨wr.heap.size, 0, none⟩)) (fun o => o.1 == m.1) _ (ms.take i) _ HT.out (fun _ _ => rfl) (fun o u hb => hasId _ m o u (cell_below hb C0.out) (cell_below hb C1.out))).mono ?_
                  rintro e w3 ⟨rfl, hb⟩
                  rw [← HRr.out]
                  have HB3 := Lib.hid (HBW2.out.trans (hb.mono HBW2.out.size))
                  clear hb
                  go_wp2
                  go_roundg (gk - 1)
                  case rel => exact ⟨i + 1, by go_num, by omega, by omega, HZ.out, HB3.out⟩
                  case measure => omega
          · have HZ : Hid (chkC ep ms = 0) := Lib.hid (by rw [HF.out, chkM_end (by omega)])
            go_wp2
            go_ret
            exact ⟨ret_int HZ.out.symm, HBW.out⟩
end Go.Proofs.YtifknllhmbkkcaaGreat

/- Package varnum: what Put, Len and the count of bytes answer for every number. Conditions: none. -/
namespace Go.Proofs.YtifknllhmbkkcaaGreat
open Go.RowKit

def wd (n : Int) : Int :=
  if n < 256 then 1 else if n < 65536 then 2 else if n < 16777216 then 3 else if n < 4294967296 then 4
  else if n < 1099511627776 then 5 else if n < 281474976710656 then 6 else if n < 72057594037927936 then 7 else 8

theorem wd_step (m : Int) (h : 0 ≤ m) (h1 : m < 18446744073709551616) (h2 : m / 256 ≠ 0) : wd m = 1 + wd (m / 256) := by
  unfold wd; repeat' split
  all_goals omega
theorem wd_bd (m : Int) : 1 ≤ wd m ∧ wd m ≤ 8 := by unfold wd; repeat' split
                                                    all_goals omega
theorem wd_end (m : Int) (h2 : m / 256 = 0) : wd m = 1 := by
  unfold wd; rw [if_pos (by omega)]
/-- k bytes of n, the most significant one first. -/
def be : Nat → Nat → List UInt8
  | 0, _ => []
  | k + 1, n => be k (n / 256) ++ [UInt8.ofNat n]
theorem be_len (k n : Nat) : (be k n).length = k := by
  induction k generalizing n with
  | zero => rfl
  | succ k ih => simp [be, ih]
def putL (n : Int) : List UInt8 := if n < 248 then [UInt8.ofNat n.toNat] else UInt8.ofNat (247 + wd n).toNat :: be (wd n).toNat n.toNat
theorem putL_small (n : Int) (h : n < 248) : putL n = [UInt8.ofNat n.toNat] := if_pos h
theorem putL_big (n : Int) (h : ¬ n < 248) : putL n = UInt8.ofNat (247 + wd n).toNat :: be (wd n).toNat n.toNat := if_neg h


set_option maxRecDepth 100000 in
set_option maxHeartbeats 1600000 in
theorem width_any (n : Int) (w : World) (h0 : 0 ≤ n) (h1 : n < 18446744073709551616) :
    Calls Tryz.prog 177 #[.int .u64 n] w fun e w' => e = .returned (.int .i64 (wd n)) ∧ w = w' := by
  go_enter Tryz.func177, Tryz.ntmps177
  go_wp2; go_step3; go_wp2; go_step3; go_wp2
  go_loopg [0, 3] 10 (fun g s0 s3 wr => ∃ (m : Int) (k : Nat), s0 = .int .u64 m ∧ s3 = .int .i64 k ∧ 0 ≤ m ∧ m < 18446744073709551616 ∧ k + g ≤ 11 ∧ 11 ≤ k + g ∧ 1 ≤ g ∧ wd n + 1 = k + wd m ∧ w = wr)
  case atStart => exact ⟨n, 1, rfl, rfl, h0, h1, by omega, by omega, by omega, by omega, rfl⟩
  case round =>
    obtain ⟨m, k, rfl, rfl, hm0, hm1, hk, hk2, hg, hw, rfl⟩ := hrel
    have hk8 : k ≤ 10 := by omega
    have H := Lib.hid hw; have H1 := Lib.hid hm1; clear hw h1 hm1
    go_wp2
    · have hz : m / 256 = 0 := by simpa using ‹(m / 256 == 0) = true›
      rw [Exit.noGoto_ret]; go_ret
      have := H.out; have := wd_end m hz
      exact ⟨ret_int (by omega), rfl⟩
    · have hz : m / 256 ≠ 0 := by simpa using ‹(m / 256 == 0) = false›
      have := H.out; have := wd_step m hm0 H1.out hz; have := wd_bd (m/256); have := wd_bd n; have := H1.out
      go_roundg (gk - 1)
      case rel => exact ⟨m / 256, k + 1, rfl, by go_num, by omega, by omega, by omega, by omega, by omega, by omega, rfl⟩
      case measure => omega

set_option maxRecDepth 100000 in
set_option maxHeartbeats 1600000 in
theorem put_small (n : Int) (w : World) (h0 : 0 ≤ n) (h1 : n < 248) :
    Calls Tryz.prog 165 #[.int .u64 n] w fun e w' => e = .returned (.string ⟨(putL n).toArray⟩) ∧ Below w.heap.size w w' := by
  have hc := run_convert_bytes_back (P := Tryz.prog) (w.alloc (.cells #[.int .u8 n] 5)) 202 9 5 ⟨w.heap.size, 0, none⟩ 1 (putL n) Tryz.underlying202 Tryz.underlying5 Tryz.underlying9
    (by rw [putL_small n h1]; intro j hj; simp at hj; subst hj; rw [Addr.add_lit, World.cell?_alloc_mark]; simp; omega)
  rw [show (putL n).length = 1 by rw [putL_small n h1]; rfl] at hc
  go_enter Tryz.func165, Tryz.ntmps165
  go_wp2
  go_ret
  exact ⟨rfl, (Below.refl _ _).alloc (Nat.le_refl _) _⟩

theorem info_u8 : (Tryz.prog.info? 5).map (fun i => (i.zero, i.size, i.bytes)) = some (some (.int .u8 0), 1, 1) := by kernel_rfl

def bs (l : List UInt8) : List Value := l.map fun b => .int .u8 (b.toNat : Int)

theorem byte_at (n : Int) (h : 0 ≤ n) (j : Nat) : n / 2 ^ (8 * j) % 256 = ((UInt8.ofNat (n.toNat / 256 ^ j)).toNat : Int) := by
  obtain ⟨m, rfl⟩ := Int.eq_ofNat_of_zero_le h
  rw [Int.toNat_natCast, UInt8.toNat_ofNat', show (2 : Int) ^ (8 * j) = ((256 ^ j : Nat) : Int) by rw [Int.pow_mul]; norm_cast, show (2 : Nat) ^ 8 = 256 from rfl, Int.natCast_emod, Int.natCast_ediv]
  rfl
theorem u8_head (k : Nat) (h : k ≤ 8) : (247 + (k : Int)) = ((UInt8.ofNat (247 + k)).toNat : Int) := by
  rw [UInt8.toNat_ofNat']; omega
theorem be_snoc (n k i : Nat) (h : i < k) : be (i + 1) (n / 256 ^ (k - (i + 1))) = be i (n / 256 ^ (k - i)) ++ [UInt8.ofNat (n / 256 ^ (k - 1 - i))] := by
  rw [be]
  have e1 : k - (i + 1) = k - 1 - i := by omega
  have e2 : k - i = (k - 1 - i) + 1 := by omega
  rw [e1, e2, Nat.pow_succ, Nat.div_div_eq_div_mul]
theorem bs_at {l : List UInt8} {j : Nat} (hj : j < l.length) : (bs l)[j]? = some (.int .u8 (l[j].toNat : Int)) := by
  simp [bs, List.getElem?_eq_getElem hj]
set_option maxRecDepth 100000 in
set_option maxHeartbeats 1600000 in
theorem put_big (n : Int) (w : World) (h0 : 248 ≤ n) (h1 : n < 18446744073709551616) :
    Calls Tryz.prog 165 #[.int .u64 n] w fun e w' => e = .returned (.string ⟨(putL n).toArray⟩) ∧ Below w.heap.size w w' := by
  obtain ⟨i0, hi, hz0, hz1, hz2⟩ := info_parts info_u8
  obtain ⟨hk1, hk8⟩ := wd_bd n
  have H1 := Lib.hid h1; clear h1
  obtain ⟨k, hk⟩ : ∃ k : Nat, (k : Int) = wd n := ⟨(wd n).toNat, by omega⟩
  rw [← hk] at hk1 hk8
  have HK := Lib.hid hk; clear hk
  go_enter Tryz.func165, Tryz.ntmps165
  go_wp2_with (first
    | (go_at_call 177; refine (width_any _ _ (by omega) H1.out).mono ?_; rintro e w' ⟨rfl, rfl⟩; rw [← HK.out])
    | (at_make; go_loud (refine wpList_make_own _ rfl (.const (.int .i64 0)) (.tmp 15) 202 rfl w.heap.size 5 i0 (.int .u8 0) 1 Tryz.underlying202 hi hz0 hz1 .i64 .i64 (1 + (k : Int)) (k + 1) rfl rfl (by omega) (by rw [hz2]; omega) (by unfold maxLen; omega) (Nat.le_refl _) ?_); intro w1 hown1 hgr1)
    | (at_builtin; refine wpList_append_fits _ rfl (.tmp 17) (.tmp 21) 202 rfl w.heap.size 5 i0 1 Tryz.underlying202 hi hz1 w.heap.size 0 (k+1) [] rfl (hown1.alloc _) ⟨w1.heap.size, 0, none⟩ 1 1 [.int .u8 (247 + (k : Int))] rfl rfl (one_cell _ _ _) (by simp [Value.oneCell']) (by omega) ?_; intro w2 hown2 hgr2))
  have B1 : Below w.heap.size w w2 := ((((Below.refl _ _).grown hgr1 (Nat.le_refl _) (by intro k h; cases h)).alloc (by have := hgr1.size; simpa using this) _).grown hgr2 (by have := hgr1.size; simp; omega) (by intro k h; cases h; exact Nat.le_refl _))
  go_loopg [4, 24] (k + 1) (fun g s4 s24 wr => ∃ i : Nat, s4 = .slice (some ⟨w.heap.size, 0, none⟩) (i + 1) (k + 1) ∧ s24 = .int .i64 i ∧ i ≤ k ∧ i + g ≤ k + 1 ∧ k + 1 ≤ i + g ∧ 1 ≤ g ∧
    wr.ownsRow w.heap.size 5 1 s4 (i + 1) (bs (UInt8.ofNat (247 + k) :: be i (n.toNat / 256 ^ (k - i)))) ∧ Below w.heap.size w wr)
  case atStart => exact ⟨0, rfl, rfl, by omega, by omega, by omega, by omega, by have := hown2; rw [u8_head k (by omega)] at this; exact this, B1⟩
  case round =>
    clear hown2 hown1 hgr1 hgr2 B1
    obtain ⟨i, rfl, rfl, hik, hg1, hg2, hg3, hown, hbel⟩ := hrel
    have hsz := hbel.size
    have HO := Lib.hid hown; clear hown
    by_cases hlt : i < k
    · go_wp2_with (at_builtin; refine wpList_append_fits _ rfl (.tmp 27) (.tmp 36) 202 rfl w.heap.size 5 i0 1 Tryz.underlying202 hi hz1 w.heap.size (i + 1) (k+1) _ rfl (HO.out.alloc _) ⟨wr.heap.size, 0, none⟩ 1 1 [.int .u8 (n / 2 ^ (8 * (k - 1 - i)) % 256)] rfl rfl (one_cell _ _ _) (by simp [Value.oneCell']) (by omega) ?_; intro w3 hown3 hgr3)
      have hown4 := hown3
      rw [byte_at n (by omega)] at hown4
      have e : bs (UInt8.ofNat (247 + k) :: be i (n.toNat / 256 ^ (k - i))) ++ [.int .u8 ((UInt8.ofNat (n.toNat / 256 ^ (k - 1 - i))).toNat : Int)] = bs (UInt8.ofNat (247 + k) :: be (i + 1) (n.toNat / 256 ^ (k - (i + 1)))) := by
        rw [be_snoc _ _ _ hlt]; simp [bs]
      rw [e] at hown4
      clear hown3
      go_roundg (gk - 1)
      case rel => exact ⟨i + 1, rfl, by go_num, by omega, by omega, by omega, by omega, hown4, (hbel.alloc hsz _).grown hgr3 (by simp; omega) (by intro k h; cases h; exact Nat.le_refl _)⟩
      case measure => omega
    · obtain rfl : k = i := by omega
      have hl : (putL n).length = k + 1 := by rw [putL_big n (by omega)]; have := HK.out; simp [be_len]; omega
      have he : putL n = UInt8.ofNat (247 + k) :: be k (n.toNat / 256 ^ (k - k)) := by
        rw [putL_big n (by omega), ← HK.out, show (247 + (k : Int)).toNat = 247 + k by omega, Int.toNat_natCast, Nat.sub_self, Nat.pow_zero, Nat.div_one]
      have HO2 := HO.out
      rw [← he] at HO2
      have hc := run_convert_bytes_back (P := Tryz.prog) wr 202 9 5 ⟨w.heap.size, 0, none⟩ (k + 1) (putL n) Tryz.underlying202 Tryz.underlying5 Tryz.underlying9
        (by intro j hj; exact HO2.cells (g := w.heap.size) rfl j _ (bs_at hj))
      rw [hl] at hc
      have hb1 := wd_bd n
      clear HO HO2 he hl
      go_wp2
      go_ret
      exact ⟨rfl, hbel⟩

theorem put_any (n : Int) (w : World) (h0 : 0 ≤ n) (h1 : n < 18446744073709551616) :
    Calls Tryz.prog 165 #[.int .u64 n] w fun e w' => e = .returned (.string ⟨(putL n).toArray⟩) ∧ Below w.heap.size w w' := by
  by_cases h : n < 248
  · exact put_small n w h0 h
  · exact put_big n w (by omega) h1
end Go.Proofs.YtifknllhmbkkcaaGreat

/- A world that is as another was, but for some blocks. Conditions: none. -/
namespace Go.Proofs.YtifknllhmbkkcaaGreat
open Go.RowKit

/-- What was there is as it was, but for the blocks that S tells. -/
structure But (S : Nat → Prop) (w w' : World) : Prop where
  os : w'.os = w.os
  tape : w'.tape = w.tape
  output : w'.output = w.output
  size : w.heap.size ≤ w'.heap.size
  block : ∀ k, k < w.heap.size → ¬ S k → w'.heap[k]? = w.heap[k]?

theorem But.refl (S : Nat → Prop) (w : World) : But S w w := ⟨rfl, rfl, rfl, Nat.le_refl _, fun _ _ _ => rfl⟩
theorem But.trans {S : Nat → Prop} {a b c : World} (h : But S a b) (k : But S b c) : But S a c :=
  ⟨k.os.trans h.os, k.tape.trans h.tape, k.output.trans h.output, Nat.le_trans h.size k.size, fun i hi hs => (k.block i (Nat.lt_of_lt_of_le hi h.size) hs).trans (h.block i hi hs)⟩
theorem But.mono {S S' : Nat → Prop} {w w' : World} (h : But S w w') (hs : ∀ k, k < w.heap.size → S k → S' k) : But S' w w' :=
  ⟨h.os, h.tape, h.output, h.size, fun k hk hn => h.block k hk (fun h1 => hn (hs k hk h1))⟩
theorem But.of_below {S : Nat → Prop} {w w' : World} (h : Below w.heap.size w w') : But S w w' := ⟨h.os, h.tape, h.output, h.size, fun k hk _ => h.block k hk⟩
theorem But.below {S : Nat → Prop} {w w' : World} {B : Nat} (h : But S w w') (hB : B ≤ w.heap.size) (hs : ∀ k, k < w.heap.size → S k → B ≤ k) : Below B w w' :=
  ⟨h.os, h.tape, h.output, h.size, fun k hk => h.block k (by omega) (fun h1 => by have := hs k (by omega) h1; omega)⟩
/-- Two steps, the second one over blocks that may be new. -/
theorem But.trans' {S S' : Nat → Prop} {a b c : World} (h : But S a b) (k : But S' b c) (hs : ∀ i, i < a.heap.size → S' i → S i) : But S a c :=
  ⟨k.os.trans h.os, k.tape.trans h.tape, k.output.trans h.output, Nat.le_trans h.size k.size, fun i hi hn => (k.block i (Nat.lt_of_lt_of_le hi h.size) (fun h1 => hn (hs i hi h1))).trans (h.block i hi hn)⟩
/-- From below B on: what turns are blocks from B on. -/
theorem below_but {S : Nat → Prop} {B : Nat} {a b c : World} (h : Below B a b) (k : But S b c) (hB : B ≤ b.heap.size) (hs : ∀ i, i < b.heap.size → S i → B ≤ i) : Below B a c := h.trans (k.below hB hs)
theorem But.alloc {S : Nat → Prop} {a w : World} (h : But S a w) (o : Obj) : But S a (w.alloc o) :=
  h.trans ⟨rfl, rfl, rfl, by simp, fun k hk _ => Below.heap_alloc _ _ _ hk⟩
theorem But.drew {S : Nat → Prop} {a w : World} (h : But S a w) : But S a w.drew := ⟨h.os, h.tape, h.output, h.size, h.block⟩
theorem But.setCell {S : Nat → Prop} {a w : World} (h : But S a w) {p : Addr} (hp : p.block < a.heap.size → S p.block) (u : Value) : But S a (w.setCell p u) :=
  h.trans' (S' := fun k => k = p.block) ⟨rfl, rfl, rfl, by simp [World.setCell], fun k _ hn => Below.heap_setCell _ _ _ _ hn⟩ (fun i hi e => by subst e; exact hp hi)
theorem But.cell {S : Nat → Prop} {w w' : World} (h : But S w w') {a : Addr} {v : Value} (hs : ¬ S a.block) (hc : w.cell? a = some v) : w'.cell? a = some v := by
  rw [World.cell?_of_block (w := w) (h.block _ (World.block_lt_of_cell? w a hc) hs)]; exact hc
theorem But.frozen {S : Nat → Prop} {w w' : World} (h : But S w w') {a : Addr} (hl : a.block < w.heap.size) (hs : ¬ S a.block) : w'.frozen? a = w.frozen? a := World.frozen?_of_block (w := w) (h.block _ hl hs)
/-- A store into one block. -/
theorem But.store {a w : World} {b : Nat} (h : But (fun x => x = b) a w) (o : Nat) (u : Value) : But (fun x => x = b) a (w.setCell ⟨b, o, none⟩ u) :=
  h.setCell (p := ⟨b, o, none⟩) (fun _ => rfl) u
end Go.Proofs.YtifknllhmbkkcaaGreat

/- 'append(row, text...)' in a region that draws its order. Conditions: none. -/
namespace Go.Proofs.YtifknllhmbkkcaaGreat
open Go.RowKit

theorem row_low {w : World} {B B' : Nat} {e : TypeId} {k : Nat} {v : Value} {n : Nat} {xs : List Value} (h : w.ownsRow B e k v n xs) (hB : B' ≤ B) : w.ownsRow B' e k v n xs := by
  obtain ⟨h1, h2⟩ := h
  refine ⟨h1, ?_⟩
  rcases h2 with h2 | ⟨g, cap, cur, hv, hg, r⟩
  · exact Or.inl h2
  · exact Or.inr ⟨g, cap, cur, hv, Nat.le_trans hB hg, r⟩
/-- An append of a text: the row stays in its block, or goes into a new one. -/
theorem run_append_str_fresh {P : Program} (w : World) (base : Nat) (t u ty e : TypeId) (i : TypeInfo) (ht : P.underlying t = some (.slice e)) (hu : P.underlying u = some .string) (hi : P.info? e = some i) (hz : i.zero = some (.int .u8 0))
    (hsize : i.size = 1) (hby : i.bytes = 1)
    (v : Value) (n : Nat) (xs : List Value) (hown : w.ownsRow base e 1 v n xs) (s : ByteArray)
    (h63 : n + s.size ≤ maxLen) (hbytes : n + s.size ≤ 140737488355328) (hbase : base ≤ w.heap.size) :
    ∃ v' w', (Builtin.append_ #[t, u] ty #[v, .string s]).run P w = .ok v' w' ∧ w'.ownsRow base e 1 v' (n + s.size) (xs ++ Lib.strCells s) ∧ w.grownBy w' v.ownBlock ∧
      (v'.ownBlock = v.ownBlock ∨ ∀ k, v'.ownBlock = some k → w.heap.size ≤ k) := by
  have hsmall : n + s.size ≤ 9223372036854775807 := by simp only [maxLen] at h63; omega
  have hxl : xs.length = n := by simpa using hown.1
  have hown2 := hown
  rcases hown.2 with ⟨rfl, rfl⟩ | ⟨g, cap, cur, rfl, hbg, hg, hnc, hcm, hcs, htake⟩
  · have h0 : w.ownsRow w.heap.size e 1 (.slice none 0 0) 0 xs := ⟨hown.1, Or.inl ⟨rfl, rfl⟩⟩
    obtain ⟨v', w', hr, h2, h3, _⟩ := Lib.run_append_own_string (P := P) w w.heap.size t u ty e i ht hu hi hz hsize hby _ 0 xs h0 s h63 hbytes (Nat.le_refl _)
    exact ⟨v', w', hr, row_low h2 hbase, h3, Or.inr (fun k hk => (h2.lt k hk).1)⟩
  · obtain ⟨v', w', hr, h2, h3, _⟩ := Lib.run_append_own_string (P := P) w base t u ty e i ht hu hi hz hsize hby _ n xs hown s h63 hbytes hbase
    refine ⟨v', w', hr, h2, h3, ?_⟩
    by_cases hroom : n + s.size ≤ cap
    · have hcs' : cur.size = cap := by simpa using hcs
      have hr2 := Lib.run_append_room_string (P := P) w t u ty e i ht hu hi hsize g n cap cur hg s hroom (by omega)
      rw [hr] at hr2
      simp only [Result.ok.injEq] at hr2
      rw [hr2.1]
      exact Or.inl rfl
    · have holds : ∀ j u, xs[j]? = some u → w.cell? ((⟨g, 0, none⟩ : Addr).add j) = some u := hown2.cells (g := g) rfl
      have hr2 := Lib.run_append_grow_string (P := P) w t u ty e i (.int .u8 0) ht hu hi hz ⟨g, 0, none⟩ n cap xs (by rw [hsize]; simpa using hxl) holds s (by omega) (by omega) (by rw [hby]; exact growslice_fits (by omega) (by omega))
      rw [hr] at hr2
      simp only [Result.ok.injEq] at hr2
      rw [hr2.1]
      exact Or.inr (fun k hk => by simp [Value.ownBlock] at hk; omega)
theorem step_append_str {P : Program} {w : World} {ops : Array Oper} {o : Oper} {a : Act} {K : Act → World → Prop} {Q : Exit → Act → World → Prop} {E : Prop} (hgd : o.guard = none) (sl x : Operand) (t u : TypeId)
    (ho : o.op = .call { callee := .builtin .append, args := #[sl, x], argTypes := #[t, u] })
    (base : Nat) (e : TypeId) (i : TypeInfo) (ht : P.underlying t = some (.slice e)) (hu : P.underlying u = some .string) (hi : P.info? e = some i) (hz : i.zero = some (.int .u8 0))
    (hsize : i.size = 1) (hby : i.bytes = 1)
    (v : Value) (n : Nat) (xs : List Value) (hs : a.eval sl = v) (hown : w.ownsRow base e 1 v n xs) (s : ByteArray) (hx : a.eval x = .string s)
    (h63 : n + s.size ≤ maxLen) (hbytes : n + s.size ≤ 140737488355328) (hbase : base ≤ w.heap.size)
    (h : ∀ ao c w', w'.ownsRow base e 1 (.slice ao (n + s.size) c) (n + s.size) (xs ++ Lib.strCells s) → w.grownBy w' v.ownBlock → ((Value.slice ao (n + s.size) c).ownBlock = v.ownBlock ∨ ∀ k, (Value.slice ao (n + s.size) c).ownBlock = some k → w.heap.size ≤ k) → K (a.put o.dst (.slice ao (n + s.size) c)) w') :
    if Region.wanted o (yielded ops a.tmps) = true then Oper.wp P o a w K Q else E := by
  have hw : Region.wanted o (yielded ops a.tmps) = true := by simp [Region.wanted, hgd]
  rw [if_pos hw]
  obtain ⟨v', w', hr, h2, h3, h4⟩ := run_append_str_fresh (P := P) w base t u o.type e i ht hu hi hz hsize hby v n xs hown s h63 hbytes hbase
  unfold Oper.wp execOp
  simp only [ho, resolve, invoke, builtin, Sem.run_bind, Sem.run_pure, Result.andThen_ok, List.map_toArray, List.map_cons, List.map_nil, hs, hx, hr]
  obtain ⟨ao, c, rfl, _⟩ := row_view h2
  exact h ao c w' h2 h3 h4
end Go.Proofs.YtifknllhmbkkcaaGreat

/- Package wire: a writer, what it gathers. Conditions: none. -/
namespace Go.Proofs.YtifknllhmbkkcaaGreat
open Go.RowKit Go.PlainAid

theorem putL_le (n : Int) : (putL n).length ≤ 9 := by
  have := wd_bd n
  unfold putL
  split
  · simp
  · rw [List.length_cons, be_len]; omega
/-- A writer that was made: block b; its bytes lie from block B on. -/
structure Wr (w : World) (b B : Nat) (l : List UInt8) (e : Int) : Prop where
  made : w.cell? ⟨b, 0, none⟩ = some (.bool true)
  err : w.cell? ⟨b, 2, none⟩ = some (.int .i64 e)
  fr1 : w.frozen? ⟨b, 1, none⟩ = false
  fr2 : w.frozen? ⟨b, 2, none⟩ = false
  lt : b < B
  le : B ≤ w.heap.size
  buf : ∃ v, w.cell? ⟨b, 1, none⟩ = some v ∧ w.ownsRow B 5 1 v l.length (bs l)

theorem bs_app (l k : List UInt8) : bs (l ++ k) = bs l ++ bs k := by simp [bs]
theorem bs_str (s : ByteArray) : Lib.strCells s = bs s.data.toList := rfl
/-- A row is as it was where its own block is. -/
theorem row_but {S : Nat → Prop} {B : Nat} {e : TypeId} {k : Nat} {v : Value} {n : Nat} {xs : List Value} {w w' : World} (h : w.ownsRow B e k v n xs) (hb : But S w w') (hs : ∀ i, B ≤ i → ¬ S i) : w'.ownsRow B e k v n xs := by
  obtain ⟨h1, h2⟩ := h
  refine ⟨h1, ?_⟩
  rcases h2 with h2 | ⟨g, cap, cur, hv, hg, hh, r⟩
  · exact Or.inl h2
  · exact Or.inr ⟨g, cap, cur, hv, hg, by rw [hb.block g (Array.getElem?_eq_some_iff.1 hh).1 (hs g hg)]; exact hh, r⟩
theorem Wr.but {S : Nat → Prop} {w w' : World} {b B : Nat} {l : List UInt8} {e : Int} (h : Wr w b B l e) (hb : But S w w') (hs : ¬ S b) (hB : ∀ i, B ≤ i → ¬ S i) : Wr w' b B l e := by
  have hl : b < w.heap.size := World.block_lt_of_cell? w _ h.made
  obtain ⟨v, hc, ho⟩ := h.buf
  exact ⟨hb.cell hs h.made, hb.cell hs h.err, by rw [hb.frozen hl hs]; exact h.fr1, by rw [hb.frozen hl hs]; exact h.fr2, h.lt, Nat.le_trans h.le hb.size, v, hb.cell hs hc, row_but ho hb hB⟩
theorem Wr.below {w w' : World} {b B : Nat} {l : List UInt8} {e : Int} (h : Wr w b B l e) (hb : Below w.heap.size w w') : Wr w' b B l e := h.but (But.of_below (S := fun _ => False) hb) id (fun _ _ => id)
theorem Wr.setErr {w : World} {b B : Nat} {l : List UInt8} {e : Int} (h : Wr w b B l e) (e' : Int) : Wr (w.setCell ⟨b, 2, none⟩ (.int .i64 e')) b B l e' := by
  obtain ⟨v, hc, ho⟩ := h.buf
  refine ⟨?_, World.cell?_setCell_same _ _ _ h.err, by rw [World.frozen?_setCell]; exact h.fr1, by rw [World.frozen?_setCell]; exact h.fr2, h.lt, by rw [World.size_setCell]; exact h.le, v, ?_, ownsRow_setCell_below ho h.lt _⟩
  · rw [World.cell?_setCell_other _ _ _ _ (by simp)]; exact h.made
  · rw [World.cell?_setCell_other _ _ _ _ (by simp)]; exact hc
theorem fr_grown {w w2 w3 : World} {b : Nat} {row : Option Nat} (hb : Below w.heap.size w w2) (hg : w2.grownBy w3 row) (hl : b < w.heap.size) (hne : some b ≠ row) (hf : w.frozen? ⟨b, 1, none⟩ = false) : w3.frozen? ⟨b, 1, none⟩ = false := by
  rw [World.frozen?_of_block (w := w2) (hg.block b (Nat.lt_of_lt_of_le hl hb.size) hne), hb.frozen hl]; exact hf
/-- What a writer's calls turn. -/
def WrOnly (b B k : Nat) : Prop := k = b ∨ B ≤ k

/-- The block in which the bytes lie. -/
def rowOf (w : World) (b : Nat) : Option Nat := match w.cell? ⟨b, 1, none⟩ with | some v => v.ownBlock | none => none
/-- What one call turns: the writer, its bytes. -/
def Rw (w : World) (b k : Nat) : Prop := k = b ∨ rowOf w b = some k
theorem rowOf_cell {w : World} {b : Nat} {v : Value} (h : w.cell? ⟨b, 1, none⟩ = some v) : rowOf w b = v.ownBlock := by unfold rowOf; rw [h]
theorem Wr.row {w : World} {b B : Nat} {l : List UInt8} {e : Int} (h : Wr w b B l e) {k : Nat} (hk : rowOf w b = some k) : B ≤ k ∧ k < w.heap.size := by
  obtain ⟨v, hc, ho⟩ := h.buf
  rw [rowOf_cell hc] at hk
  exact ho.lt k hk
theorem Wr.only {w : World} {b B : Nat} {l : List UInt8} {e : Int} (h : Wr w b B l e) {k : Nat} (hk : Rw w b k) : WrOnly b B k := by
  rcases hk with hk | hk
  · exact Or.inl hk
  · exact Or.inr (h.row hk).1
theorem Wr.rw_below {w w' : World} {b B : Nat} {l : List UInt8} {e : Int} (h : Wr w b B l e) (hb : Below w.heap.size w w') : rowOf w' b = rowOf w b := by
  obtain ⟨v, hc, _⟩ := h.buf
  rw [rowOf_cell hc, rowOf_cell (cell_below hb hc)]
theorem Wr.rw_back {w w' : World} {b B : Nat} {l : List UInt8} {e : Int} (h : Wr w b B l e) (hb : Below w.heap.size w w') {k : Nat} (hk : Rw w' b k) : Rw w b k := by
  unfold Rw at hk ⊢; rwa [h.rw_below hb] at hk
theorem But.grown {S : Nat → Prop} {w w' : World} {row : Option Nat} (hg : w.grownBy w' row) (hs : ∀ k, row = some k → S k) : But S w w' :=
  ⟨hg.os, hg.tape, hg.output, hg.size, fun k hk hn => hg.block k hk (fun e => hn (hs k e.symm))⟩
/-- The bytes stay in their block, or go into a new one. -/
def Keep (w w' : World) (b : Nat) : Prop := ∀ k, rowOf w' b = some k → rowOf w b = some k ∨ w.heap.size ≤ k
theorem Wr.grow {w w2 w3 : World} {b B : Nat} {l : List UInt8} {e : Int} {row : Option Nat} {ao : Option Addr} {c : Nat} {s : ByteArray} (h : Wr w b B l e) (hb : Below w.heap.size w w2) (hg : w2.grownBy w3 row) (hne : some b ≠ row) (hrow : row = rowOf w b)
    (hown : w3.ownsRow B 5 1 (.slice ao (l.length + s.size) c) (l.length + s.size) (bs l ++ Lib.strCells s)) (hfr : (Value.slice ao (l.length + s.size) c).ownBlock = row ∨ ∀ k, (Value.slice ao (l.length + s.size) c).ownBlock = some k → w2.heap.size ≤ k) :
    Wr (w3.setCell ⟨b, 1, none⟩ (.slice ao (l.length + s.size) c)) b B (l ++ s.data.toList) e ∧ But (Rw w b) w (w3.setCell ⟨b, 1, none⟩ (.slice ao (l.length + s.size) c)) ∧ Keep w (w3.setCell ⟨b, 1, none⟩ (.slice ao (l.length + s.size) c)) b := by
  have hl : b < w.heap.size := Nat.lt_of_lt_of_le h.lt h.le
  have hn : (l ++ s.data.toList).length = l.length + s.size := by rw [List.length_append]; simp
  have hB3 : But (Rw w b) w w3 := (But.of_below hb).trans (But.grown hg (fun k hk => Or.inr (by rw [← hrow]; exact hk)))
  have kb : ∀ j v, w.cell? ⟨b, j, none⟩ = some v → w3.cell? ⟨b, j, none⟩ = some v := fun j v hc => hg.cell (a := ⟨b, j, none⟩) (cell_below hb hc) hne
  have fb : ∀ j, w3.frozen? ⟨b, j, none⟩ = w.frozen? ⟨b, j, none⟩ := fun j => by
    rw [World.frozen?_of_block (w := w2) (hg.block b (Nat.lt_of_lt_of_le hl hb.size) hne), hb.frozen hl]
  obtain ⟨v, hc, _⟩ := h.buf
  refine ⟨⟨?_, ?_, by rw [World.frozen?_setCell, fb]; exact h.fr1, by rw [World.frozen?_setCell, fb]; exact h.fr2, h.lt, by rw [World.size_setCell]; exact Nat.le_trans h.le hB3.size, _, World.cell?_setCell_same _ _ _ (kb 1 _ hc), ?_⟩, hB3.setCell (p := ⟨b, 1, none⟩) (fun _ => Or.inl rfl) _, fun k hk => ?_⟩
  · rw [World.cell?_setCell_other _ _ _ _ (by simp)]; exact kb 0 _ h.made
  · rw [World.cell?_setCell_other _ _ _ _ (by simp)]; exact kb 2 _ h.err
  · refine ownsRow_setCell_below ?_ h.lt _
    rw [hn, bs_app, ← bs_str]; exact hown
  · rw [rowOf_cell (World.cell?_setCell_same _ _ _ (kb 1 _ hc))] at hk
    rcases hfr with hf | hf
    · rw [hf, hrow] at hk; exact Or.inl hk
    · exact Or.inr (Nat.le_trans hb.size (hf k hk))

set_option maxRecDepth 100000 in
set_option maxHeartbeats 1600000 in
theorem big_any (b B : Nat) (l : List UInt8) (e : Int) (n : Int) (w : World) (h : Wr w b B l e) (hl : l.length ≤ 140737488355000) (h0 : 0 ≤ n) (h1 : n < 18446744073709551616) :
    Calls Tryz.prog 132 #[.pointer (some ⟨b, 0, none⟩), .int .u64 n] w fun x w' => x = .returned (.tuple #[]) ∧ Wr w' b B (l ++ putL n) e ∧ But (Rw w b) w w' ∧ Keep w w' b := by
  obtain ⟨i0, hi, hz0, hz1, hz2⟩ := info_parts info_u8
  have H := Lib.hid h
  obtain ⟨v, hc, ho⟩ := h.buf
  obtain ⟨ao, cp, rfl, _⟩ := row_view ho
  have k1 : w.drew.cell? ⟨b, 1, none⟩ = some (.slice ao l.length cp) := hc
  have HC := Lib.hid hc; have HO := Lib.hid ho
  have hbs : b < w.heap.size := Nat.lt_of_lt_of_le h.lt h.le
  have hlt := h.lt
  have hpl : (putL n).length ≤ 9 := putL_le n
  have hp1 : (⟨(putL n).toArray⟩ : ByteArray).size = (putL n).length := rfl
  have hA : Hid (l.length + (⟨(putL n).toArray⟩ : ByteArray).size ≤ maxLen) := Lib.hid (by unfold maxLen; omega)
  have hBy : Hid (l.length + (⟨(putL n).toArray⟩ : ByteArray).size ≤ 140737488355328) := Lib.hid (by omega)
  have hne : Hid (some b ≠ (Value.slice ao l.length cp).ownBlock) := Lib.hid (fun e => by
    cases ao with
    | none => cases e
    | some a =>
      have h9 := (ho.lt a.block rfl).1
      have : b = a.block := by simpa [Value.ownBlock] using e
      omega)
  have hrow : Hid ((Value.slice ao l.length cp).ownBlock = rowOf w b) := Lib.hid (rowOf_cell hc).symm
  clear h hc ho hp1
  go_enter Tryz.func132, Tryz.ntmps132
  go_wp2_with fail
  go_region_law (first | (go_simp; go_at_call 165; refine Calls.mono (put_any n _ h0 h1) ?_; rintro e w2 ⟨rfl, hb2⟩; have hb3 : Below w.heap.size w w2 := Below.trans ((Below.refl _ _).drew) hb2; have c1 := cell_below hb3 HC.out; have HO2 := Lib.hid (row_below HO.out hb3); have HB2 := Lib.hid hb3; clear hb2 hb3) | (refine step_append_str rfl (.tmp 8) (.tmp 10) 202 9 rfl B 5 i0 Tryz.underlying202 Tryz.underlying9 hi hz0 hz1 hz2 _ l.length _ rfl HO2.out ⟨(putL n).toArray⟩ rfl hA.out hBy.out (Nat.le_trans H.out.le HB2.out.size) ?_; intro ao3 c3 w3 hown3 hgr3 hfr3; have HFr3 := Lib.hid hfr3; have c4 := hgr3.cell c1 hne.out; have z4 : w3.frozen? ⟨b, 1, none⟩ = false := fr_grown HB2.out hgr3 hbs hne.out H.out.fr1; have HO3 := Lib.hid hown3; have HG3 := Lib.hid hgr3; clear hown3 hgr3 hfr3))
  all_goals
    have HF := Lib.hid (H.out.grow HB2.out HG3.out hne.out hrow.out HO3.out HFr3.out)
    go_wp2
    go_end0
    exact ⟨rfl, HF.out.1, HF.out.2.1, HF.out.2.2⟩
end Go.Proofs.YtifknllhmbkkcaaGreat

/- Package wire: what a deferred closure makes of a panic. Conditions: none. -/
namespace Go.Proofs.YtifknllhmbkkcaaGreat
open Go.RowKit Go.PlainAid

theorem ta_nil (w : World) : (Instr.typeAssert Value.nilIface 20 26 true).run Tryz.prog w = .ok (.tuple #[.int .i64 0, .bool false]) w := by kernel_rfl
theorem ta_err (x : Int) (w : World) : (Instr.typeAssert (.iface 26 (.int .i64 x)) 20 26 true).run Tryz.prog w = .ok (.tuple #[.int .i64 x, .bool true]) w := by kernel_rfl
set_option maxRecDepth 100000 in
set_option maxHeartbeats 1600000 in
theorem catch_idle (p : Addr) (w : World) :
    CallsD Tryz.prog 176 #[.pointer (some p)] .returning w fun e u' w' => e = .returned (.tuple #[]) ∧ u' = .returning ∧ w' = w := by
  refine callsD_of_wpS Tryz.func176 rfl fun c₀ cs hu => ?_
  apply wpS_seq
  apply wpS_region
  simp [wpOpsS, go_sem, recoverD, hu, Tryz.ntmps176, Exit.thenS, ta_nil, ta_err]
  apply wpS_seq
  apply wpS_region
  simp [wpOpsS, go_sem, recoverD, hu, Exit.thenS]
  refine wpS_cond (t := false) (by simp [Act.eval, Array.replicate]) ?_
  simp only [Bool.false_eq_true, if_false]
  refine wpS_of_wp (wp_skip ?_)
  cases c₀
  simp_all [bodyPostS, results, Tryz.results176]
set_option maxRecDepth 100000 in
set_option maxHeartbeats 1600000 in
theorem catch_errno (p : Addr) (b : Nat) (x y : Int) (older : List PanicEntry) (w : World) (hp : w.cell? p = some (.pointer (some ⟨b, 0, none⟩))) (hc : w.cell? ⟨b, 2, none⟩ = some (.int .i64 y)) (hz : w.frozen? ⟨b, 2, none⟩ = false) :
    CallsD Tryz.prog 176 #[.pointer (some p)] (.panicking ({ v := .iface 26 (.int .i64 x), recovered := false } :: older)) w fun e u' w' => e = .returned (.tuple #[]) ∧ u' = .panicking ({ v := .iface 26 (.int .i64 x), recovered := true } :: older) ∧ w' = w.setCell ⟨b, 2, none⟩ (.int .i64 x) := by
  refine callsD_of_wpS Tryz.func176 rfl fun c₀ cs hu => ?_
  apply wpS_seq
  apply wpS_region
  simp [wpOpsS, go_sem, recoverD, hu, Tryz.ntmps176, Exit.thenS, ta_nil, ta_err]
  apply wpS_seq
  apply wpS_region
  simp [wpOpsS, go_sem, recoverD, hu, Exit.thenS]
  refine wpS_cond (t := true) (by simp [Act.eval, Array.replicate]) ?_
  simp only [if_true]
  apply wpS_region
  simp [wpOpsS, go_sem, hp, hc, hz, bodyPostS, results, Tryz.results176]
end Go.Proofs.YtifknllhmbkkcaaGreat

/- Package wire: a number is written. Conditions: none. -/
namespace Go.Proofs.YtifknllhmbkkcaaGreat
open Go.RowKit Go.PlainAid

def errV (x : Int) : PanicEntry := { v := .iface 26 (.int .i64 x), recovered := false }
set_option maxRecDepth 100000 in
set_option maxHeartbeats 1600000 in
theorem stepNum_bad (pn pw : Addr) (b : Nat) (n : Int) (w : World) (hn : w.cell? pn = some (.int .i64 n)) (hw : w.cell? pw = some (.pointer (some ⟨b, 0, none⟩))) (h0 : n < 0) :
    Calls Tryz.prog 131 #[.pointer (some pn), .pointer (some pw)] w fun e w' => e = .panicked [errV 5] ∧ w = w' := by
  go_enter Tryz.func131, Tryz.ntmps131
  go_wp2
  exact ⟨rfl, rfl, rfl⟩
set_option maxRecDepth 100000 in
set_option maxHeartbeats 1600000 in
theorem stepNum_good (pn pw : Addr) (b B : Nat) (l : List UInt8) (n : Int) (w : World) (hn : w.cell? pn = some (.int .i64 n)) (hw : w.cell? pw = some (.pointer (some ⟨b, 0, none⟩))) (h : Wr w b B l 0) (hl : l.length ≤ 140737488355000) (h0 : 0 ≤ n) (h1 : n ≤ 9223372036854775807) :
    Calls Tryz.prog 131 #[.pointer (some pn), .pointer (some pw)] w fun e w' => e = .returned (.tuple #[]) ∧ Wr w' b B (l ++ putL n) 0 ∧ But (Rw w b) w w' := by
  have H := Lib.hid h; clear h
  have hwu : IntKind.u64.wrap n = n := u64_nonneg h0 (by omega)
  go_enter Tryz.func131, Tryz.ntmps131
  go_wp2_with fail
  refine (big_any b B l 0 n _ H.out hl h0 (by omega)).mono ?_
  rintro e w1 ⟨rfl, hm, hb, _⟩
  have HM := Lib.hid hm; have HB := Lib.hid hb; clear hm hb
  go_wp2
  go_end0
  exact ⟨rfl, HM.out, HB.out⟩

set_option maxRecDepth 100000 in
set_option maxHeartbeats 1600000 in
theorem runNum_good (pn pw : Addr) (b B : Nat) (l : List UInt8) (n : Int) (w : World) (hn : w.cell? pn = some (.int .i64 n)) (hw : w.cell? pw = some (.pointer (some ⟨b, 0, none⟩))) (h : Wr w b B l 0) (hl : l.length ≤ 140737488355000) (h0 : 0 ≤ n) (h1 : n ≤ 9223372036854775807) :
    Calls Tryz.prog 164 #[.pointer (some ⟨b, 0, none⟩), .func (.func 131) #[] #[.pointer (some pn), .pointer (some pw)]] w fun e w' => e = .returned (.tuple #[]) ∧ Wr w' b B (l ++ putL n) 0 ∧ But (Rw w b) w w' := by
  have hmf : ∀ (fn : Fn) (first cap : Array Value) (w : World), (Instr.makeFunc fn first cap).run Tryz.prog w = .ok (.func fn first cap) w := fun _ _ _ _ => rfl
  have hb1 : Below w.heap.size w (w.alloc (.cells #[.pointer (some ⟨b, 0, none⟩)] 147)) := (Below.refl _ _).alloc (Nat.le_refl _) _
  have H1 := Lib.hid (h.below hb1)
  have HRB := Lib.hid (fun k (hk : Rw _ b k) => h.rw_back hb1 hk)
  have hn1 := cell_below hb1 hn; have hw1 := cell_below hb1 hw
  have hbx : But (Rw w b) w (w.alloc (.cells #[.pointer (some ⟨b, 0, none⟩)] 147)) := But.of_below hb1
  have HN1 := Lib.hid hn1; have HW1 := Lib.hid hw1; have HBX := Lib.hid hbx
  clear hn hw h hb1 hn1 hw1 hbx
  go_enter_defers Tryz.func164, Tryz.ntmps164
  go_wp2_with fail
  refine (stepNum_good pn pw b B l n _ HN1.out HW1.out H1.out hl h0 h1).mono ?_
  rintro e w2 ⟨rfl, hm, hb⟩
  have HM := Lib.hid hm
  have HB := Lib.hid (HBX.out.trans (hb.mono (fun k _ hk => HRB.out k hk)))
  clear hm hb
  go_wp2
  refine leaves_cons (f := 176) (args := #[.pointer (some ⟨w.heap.size, 0, none⟩)]) (by simp) (by simp [go_sem]) ?_
  refine (catch_idle _ _).mono ?_
  rintro e u' w'' ⟨rfl, rfl, rfl⟩
  simp only [Leaves, settle, results, Tryz.results164]
  simp
  exact ⟨HM.out, HB.out⟩
set_option maxRecDepth 100000 in
set_option maxHeartbeats 1600000 in
theorem runNum_bad (pn pw : Addr) (b B : Nat) (l : List UInt8) (n : Int) (w : World) (hn : w.cell? pn = some (.int .i64 n)) (hw : w.cell? pw = some (.pointer (some ⟨b, 0, none⟩))) (h : Wr w b B l 0) (h0 : n < 0) :
    Calls Tryz.prog 164 #[.pointer (some ⟨b, 0, none⟩), .func (.func 131) #[] #[.pointer (some pn), .pointer (some pw)]] w fun e w' => e = .returned (.tuple #[]) ∧ Wr w' b B l 5 ∧ But (Rw w b) w w' := by
  have hmf : ∀ (fn : Fn) (first cap : Array Value) (w : World), (Instr.makeFunc fn first cap).run Tryz.prog w = .ok (.func fn first cap) w := fun _ _ _ _ => rfl
  have hb1 : Below w.heap.size w (w.alloc (.cells #[.pointer (some ⟨b, 0, none⟩)] 147)) := (Below.refl _ _).alloc (Nat.le_refl _) _
  have H1 := Lib.hid (h.below hb1)
  have HRB := Lib.hid (fun k (hk : Rw _ b k) => h.rw_back hb1 hk)
  have hn1 := cell_below hb1 hn; have hw1 := cell_below hb1 hw
  have hbx : But (Rw w b) w (w.alloc (.cells #[.pointer (some ⟨b, 0, none⟩)] 147)) := But.of_below hb1
  have HN1 := Lib.hid hn1; have HW1 := Lib.hid hw1; have HBX := Lib.hid hbx
  have HP : Hid ((w.alloc (.cells #[.pointer (some ⟨b, 0, none⟩)] 147)).cell? ⟨w.heap.size, 0, none⟩ = some (.pointer (some ⟨b, 0, none⟩))) := Lib.hid (by simp)
  clear hn hw h hb1 hn1 hw1 hbx
  go_enter_defers Tryz.func164, Tryz.ntmps164
  go_wp2_with fail
  refine (stepNum_bad pn pw b n _ HN1.out HW1.out h0).mono ?_
  rintro e w2 ⟨rfl, rfl⟩
  go_wp2
  refine leaves_cons (f := 176) (args := #[.pointer (some ⟨w.heap.size, 0, none⟩)]) (by simp) (by simp [go_sem]) ?_
  refine (catch_errno _ b 5 0 [] _ HP.out H1.out.err H1.out.fr2).mono ?_
  rintro e u' w'' ⟨rfl, rfl, rfl⟩
  have HF := Lib.hid (H1.out.setErr 5)
  have HB2 := Lib.hid (HBX.out.setCell (p := ⟨b, 2, none⟩) (fun _ => Or.inl rfl) (.int .i64 5))
  simp [Leaves, settle, results, Tryz.results164, go_sem]
  exact ⟨HF.out, HB2.out⟩
end Go.Proofs.YtifknllhmbkkcaaGreat

/- Package wire: a big number, a text, a flag are written. Conditions: none. -/
namespace Go.Proofs.YtifknllhmbkkcaaGreat
open Go.RowKit Go.PlainAid

set_option maxRecDepth 100000 in
set_option maxHeartbeats 1600000 in
theorem stepBig (pn pw : Addr) (b B : Nat) (l : List UInt8) (n : Int) (w : World) (hn : w.cell? pn = some (.int .u64 n)) (hw : w.cell? pw = some (.pointer (some ⟨b, 0, none⟩))) (h : Wr w b B l 0) (hl : l.length ≤ 140737488355000) (h0 : 0 ≤ n) (h1 : n < 18446744073709551616) :
    Calls Tryz.prog 167 #[.pointer (some pw), .pointer (some pn)] w fun e w' => e = .returned (.tuple #[]) ∧ Wr w' b B (l ++ putL n) 0 ∧ But (Rw w b) w w' := by
  have H := Lib.hid h; clear h
  go_enter Tryz.func167, Tryz.ntmps167
  go_wp2_with fail
  refine (big_any b B l 0 n _ H.out hl h0 h1).mono ?_
  rintro e w1 ⟨rfl, hm, hb, _⟩
  have HM := Lib.hid hm; have HB := Lib.hid hb; clear hm hb
  go_wp2
  go_end0
  exact ⟨rfl, HM.out, HB.out⟩
theorem Wr.buf_form {w : World} {b B : Nat} {l : List UInt8} {e : Int} (h : Wr w b B l e) : ∃ ao cp, w.cell? ⟨b, 1, none⟩ = some (.slice ao l.length cp) ∧ w.ownsRow B 5 1 (.slice ao l.length cp) l.length (bs l) ∧ some b ≠ (Value.slice ao l.length cp).ownBlock ∧ (Value.slice ao l.length cp).ownBlock = rowOf w b := by
  obtain ⟨v, hc, ho⟩ := h.buf
  obtain ⟨ao, cp, rfl, _⟩ := row_view ho
  refine ⟨ao, cp, hc, ho, fun e => ?_, (rowOf_cell hc).symm⟩
  have := (ho.lt b e.symm).1
  have := h.lt
  omega
set_option maxRecDepth 100000 in
set_option maxHeartbeats 1600000 in
theorem stepText (pn pw : Addr) (b B : Nat) (l : List UInt8) (s : ByteArray) (w : World) (hn : w.cell? pn = some (.string s)) (hw : w.cell? pw = some (.pointer (some ⟨b, 0, none⟩))) (h : Wr w b B l 0) (hl : l.length + s.size ≤ 140737488355000) (hpn : ¬ Rw w b pn.block) (hpw : ¬ Rw w b pw.block) :
    Calls Tryz.prog 168 #[.pointer (some pw), .pointer (some pn)] w fun e w' => e = .returned (.tuple #[]) ∧ Wr w' b B (l ++ putL (s.size : Int) ++ s.data.toList) 0 ∧ But (Rw w b) w w' := by
  obtain ⟨i0, hi, hz0, hz1, hz2⟩ := info_parts info_u8
  have H := Lib.hid h
  have hwu : IntKind.u64.wrap (s.size : Int) = (s.size : Int) := u64_nonneg (by omega) (by omega)
  have HPN := Lib.hid hpn; have HPW := Lib.hid hpw; have HN := Lib.hid hn; have HW := Lib.hid hw
  obtain ⟨m, hme⟩ : ∃ m, m = l ++ putL (s.size : Int) := ⟨_, rfl⟩
  simp only [← hme]
  have HMe := Lib.hid hme
  have hml : m.length ≤ l.length + 9 := by rw [hme, List.length_append]; have := putL_le (s.size : Int); omega
  clear hpn hpw hme
  go_enter Tryz.func168, Tryz.ntmps168
  go_wp2_with fail
  refine (big_any b B l 0 (s.size : Int) _ H.out (by omega) (by omega) (by omega)).mono ?_
  rintro e w2 ⟨rfl, hm, hb, hkp⟩
  rw [← HMe.out] at hm
  have HM := Lib.hid hm; have HB := Lib.hid hb; have HKP := Lib.hid hkp
  have n2 := hb.cell HPN.out HN.out; have p2 := hb.cell HPW.out HW.out
  have hrn : ∀ q : Addr, ¬ Rw w b q.block → q.block < w.heap.size → ¬ (rowOf w2 b = some q.block) := fun q h1 h2 h3 => by
    rcases hkp _ h3 with h4 | h4
    · exact h1 (Or.inr h4)
    · omega
  have hrp := hrn pw HPW.out (World.block_lt_of_cell? w _ HW.out)
  have hrs := hrn pn HPN.out (World.block_lt_of_cell? w _ HN.out)
  obtain ⟨ao, cp, hc, ho, hne, hrow⟩ := HM.out.buf_form
  have hqp : Hid (some pw.block ≠ (Value.slice ao m.length cp).ownBlock) := Lib.hid (fun e => hrp (by rw [← hrow]; exact e.symm))
  have hqn : Hid (some pn.block ≠ (Value.slice ao m.length cp).ownBlock) := Lib.hid (fun e => hrs (by rw [← hrow]; exact e.symm))
  have P2 := Lib.hid p2; have N2 := Lib.hid n2
  have hbs : b < w2.heap.size := Nat.lt_of_lt_of_le HM.out.lt HM.out.le
  have hA : Hid (m.length + s.size ≤ maxLen) := Lib.hid (by unfold maxLen; omega)
  have hBy : Hid (m.length + s.size ≤ 140737488355328) := Lib.hid (by omega)
  have HO : Hid (w2.drew.ownsRow B 5 1 (.slice ao m.length cp) m.length (bs m)) := Lib.hid ho
  have HNe := Lib.hid hne; have HRow := Lib.hid hrow; have HC := Lib.hid hc
  have HBd : Hid (Below w2.heap.size w2 w2.drew) := Lib.hid (Below.refl _ _).drew
  clear hn hw h hm hb ho hne hrow hwu hkp hrn hrp hrs
  go_wp2_with fail
  go_region_law (first | (refine step_append_str rfl (.tmp 11) (.tmp 12) 202 9 rfl B 5 i0 Tryz.underlying202 Tryz.underlying9 hi hz0 hz1 hz2 _ m.length _ rfl HO.out s rfl hA.out hBy.out HM.out.le ?_; intro ao3 c3 w3 hown3 hgr3 hfr3; have HFr3 := Lib.hid hfr3; have c4 := hgr3.cell HC.out HNe.out; have p4 := hgr3.cell P2.out hqp.out; have n4 := hgr3.cell N2.out hqn.out; have z4 : w3.frozen? ⟨b, 1, none⟩ = false := fr_grown HBd.out hgr3 hbs HNe.out HM.out.fr1; have HO3 := Lib.hid hown3; have HG3 := Lib.hid hgr3; clear hown3 hgr3 hfr3))
  all_goals
    have HF := Lib.hid (HM.out.grow HBd.out HG3.out HNe.out HRow.out HO3.out HFr3.out)
    have HBF := Lib.hid (HB.out.trans' HF.out.2.1 (fun i hi hk => by
      rcases hk with hk | hk
      · exact Or.inl hk
      · rcases HKP.out _ hk with h4 | h4
        · exact Or.inr h4
        · omega))
    go_wp2
    go_end0
    exact ⟨rfl, HF.out.1, HBF.out⟩
theorem fresh_lies {row : Option Nat} {g n c H H2 : Nat} (h : row = some g ∨ g = H) (hH : H2 ≤ H) : (Value.slice (some ⟨g, 0, none⟩) n c).ownBlock = row ∨ ∀ k, (Value.slice (some ⟨g, 0, none⟩) n c).ownBlock = some k → H2 ≤ k := by
  rcases h with h | h
  · exact Or.inl h.symm
  · exact Or.inr (fun k hk => by simp [Value.ownBlock] at hk; omega)
def flagB (f : Bool) : UInt8 := if f then 1 else 0
set_option maxRecDepth 100000 in
set_option maxHeartbeats 1600000 in
theorem stepFlag (pn pw : Addr) (b B : Nat) (l : List UInt8) (f : Bool) (w : World) (hn : w.cell? pn = some (.bool f)) (hw : w.cell? pw = some (.pointer (some ⟨b, 0, none⟩))) (h : Wr w b B l 0) (hl : l.length ≤ 140737488355000) (hpw : ¬ Rw w b pw.block) :
    Calls Tryz.prog 166 #[.pointer (some pn), .pointer (some pw)] w fun e w' => e = .returned (.tuple #[]) ∧ Wr w' b B (l ++ [flagB f]) 0 ∧ But (Rw w b) w w' := by
  obtain ⟨i0, hi, hz0, hz1, hz2⟩ := info_parts info_u8
  have H := Lib.hid h
  obtain ⟨ao, cp, hc, ho, hne, hrow⟩ := h.buf_form
  have hbs : b < w.heap.size := Nat.lt_of_lt_of_le h.lt h.le
  have hA : Hid (l.length + 1 ≤ maxLen) := Lib.hid (by unfold maxLen; omega)
  have hBy : Hid ((l.length + 1) * 1 ≤ 140737488355328) := Lib.hid (by omega)
  have hle := h.le
  have HNe := Lib.hid hne; have HRow := Lib.hid hrow; have HC := Lib.hid hc; have HO := Lib.hid ho
  have hqp : Hid (some pw.block ≠ (Value.slice ao l.length cp).ownBlock) := Lib.hid (fun e => hpw (Or.inr (by rw [← hrow]; exact e.symm)))
  have HW := Lib.hid hw; have HN := Lib.hid hn
  clear h ho hne hrow hpw hn hw
  cases f
  · have hbel : Below w.heap.size w (w.alloc (.cells #[.int .u8 0] 5)).drew := ((Below.refl _ _).alloc (Nat.le_refl _) _).drew
    have HB2 := Lib.hid hbel
    have p1 := cell_below hbel HW.out; have p0 := HW.out; have n0 := HN.out; have c0 := HC.out; have c1 := cell_below hbel HC.out
    have HSz : Hid ((w.alloc (.cells #[.int .u8 0] 5)).drew.heap.size = w.heap.size + 1) := Lib.hid (by simp [World.drew])
    have HOne : Hid (∀ u ∈ [Value.int .u8 0], u.oneCell' = true) := Lib.hid (by simp [Value.oneCell'])
    have HOa : Hid ((w.alloc (.cells #[.int .u8 0] 5)).drew.ownsRow B 5 1 (.slice ao l.length cp) l.length (bs l)) := Lib.hid (HO.out.alloc _)
    clear hbel
    go_enter Tryz.func166, Tryz.ntmps166
    go_wp2_with fail
    go_region_law (first | (refine step_append_lies _ rfl (.tmp 8) (.tmp 10) 202 rfl B 5 i0 (.int .u8 0) 1 1 Tryz.underlying202 hi hz0 hz1 hz2 rfl (by decide) _ l.length _ rfl HOa.out ⟨w.heap.size, 0, none⟩ 1 1 [.int .u8 0] rfl rfl (one_cell w _ _) HOne.out Nat.one_pos hA.out hBy.out (Nat.le_trans hle HB2.out.size) (w.heap.size + 1) HSz.out ?_; intro g3 c3 w3 hown3 hgr3 hg3 _; have hfr3 := fresh_lies (n := l.length + 1) (c := c3) hg3 (Nat.le_of_eq HSz.out); have HFr3 := Lib.hid hfr3; have p4 := hgr3.cell (cell_below HB2.out HW.out) hqp.out; have c4 := hgr3.cell (cell_below HB2.out HC.out) HNe.out; have z4 : w3.frozen? ⟨b, 1, none⟩ = false := fr_grown HB2.out hgr3 hbs HNe.out H.out.fr1; have HO3 := Lib.hid hown3; have HG3 := Lib.hid hgr3; clear hown3 hgr3 hfr3))
    all_goals
      have HF := Lib.hid (Wr.grow (s := ⟨#[0]⟩) H.out HB2.out HG3.out HNe.out HRow.out HO3.out HFr3.out)
      go_wp2
      go_end0
      exact ⟨rfl, HF.out.1, HF.out.2.1⟩
  · have hbel : Below w.heap.size w (w.alloc (.cells #[.int .u8 1] 5)).drew := ((Below.refl _ _).alloc (Nat.le_refl _) _).drew
    have HB2 := Lib.hid hbel
    have p1 := cell_below hbel HW.out; have p0 := HW.out; have n0 := HN.out; have c0 := HC.out; have c1 := cell_below hbel HC.out
    have HSz : Hid ((w.alloc (.cells #[.int .u8 1] 5)).drew.heap.size = w.heap.size + 1) := Lib.hid (by simp [World.drew])
    have HOne : Hid (∀ u ∈ [Value.int .u8 1], u.oneCell' = true) := Lib.hid (by simp [Value.oneCell'])
    have HOa : Hid ((w.alloc (.cells #[.int .u8 1] 5)).drew.ownsRow B 5 1 (.slice ao l.length cp) l.length (bs l)) := Lib.hid (HO.out.alloc _)
    clear hbel
    go_enter Tryz.func166, Tryz.ntmps166
    go_wp2_with fail
    go_region_law (first | (refine step_append_lies _ rfl (.tmp 8) (.tmp 10) 202 rfl B 5 i0 (.int .u8 0) 1 1 Tryz.underlying202 hi hz0 hz1 hz2 rfl (by decide) _ l.length _ rfl HOa.out ⟨w.heap.size, 0, none⟩ 1 1 [.int .u8 1] rfl rfl (one_cell w _ _) HOne.out Nat.one_pos hA.out hBy.out (Nat.le_trans hle HB2.out.size) (w.heap.size + 1) HSz.out ?_; intro g3 c3 w3 hown3 hgr3 hg3 _; have hfr3 := fresh_lies (n := l.length + 1) (c := c3) hg3 (Nat.le_of_eq HSz.out); have HFr3 := Lib.hid hfr3; have p4 := hgr3.cell (cell_below HB2.out HW.out) hqp.out; have c4 := hgr3.cell (cell_below HB2.out HC.out) HNe.out; have z4 : w3.frozen? ⟨b, 1, none⟩ = false := fr_grown HB2.out hgr3 hbs HNe.out H.out.fr1; have HO3 := Lib.hid hown3; have HG3 := Lib.hid hgr3; clear hown3 hgr3 hfr3))
    all_goals
      have HF := Lib.hid (Wr.grow (s := ⟨#[1]⟩) H.out HB2.out HG3.out HNe.out HRow.out HO3.out HFr3.out)
      go_wp2
      go_end0
      exact ⟨rfl, HF.out.1, HF.out.2.1⟩

set_option maxRecDepth 100000 in
set_option maxHeartbeats 1600000 in
theorem runBig (pn pw : Addr) (b B : Nat) (l : List UInt8) (n : Int) (w : World) (hn : w.cell? pn = some (.int .u64 n)) (hw : w.cell? pw = some (.pointer (some ⟨b, 0, none⟩))) (h : Wr w b B l 0) (hl : l.length ≤ 140737488355000) (h0 : 0 ≤ n) (h1 : n < 18446744073709551616) :
    Calls Tryz.prog 164 #[.pointer (some ⟨b, 0, none⟩), .func (.func 167) #[] #[.pointer (some pw), .pointer (some pn)]] w fun e w' => e = .returned (.tuple #[]) ∧ Wr w' b B (l ++ putL n) 0 ∧ But (Rw w b) w w' := by
  have hmf : ∀ (fn : Fn) (first cap : Array Value) (w : World), (Instr.makeFunc fn first cap).run Tryz.prog w = .ok (.func fn first cap) w := fun _ _ _ _ => rfl
  have hb1 : Below w.heap.size w (w.alloc (.cells #[.pointer (some ⟨b, 0, none⟩)] 147)) := (Below.refl _ _).alloc (Nat.le_refl _) _
  have H1 := Lib.hid (h.below hb1)
  have HRB := Lib.hid (fun k (hk : Rw _ b k) => h.rw_back hb1 hk)
  have hn1 := cell_below hb1 hn; have hw1 := cell_below hb1 hw
  have hbx : But (Rw w b) w (w.alloc (.cells #[.pointer (some ⟨b, 0, none⟩)] 147)) := But.of_below hb1
  have HN1 := Lib.hid hn1; have HW1 := Lib.hid hw1; have HBX := Lib.hid hbx
  clear hn hw h hb1 hn1 hw1 hbx
  go_enter_defers Tryz.func164, Tryz.ntmps164
  go_wp2_with fail
  refine (stepBig pn pw b B l n _ HN1.out HW1.out H1.out hl h0 h1).mono ?_
  rintro e w2 ⟨rfl, hm, hb⟩
  have HM := Lib.hid hm
  have HB := Lib.hid (HBX.out.trans (hb.mono (fun k _ hk => HRB.out k hk)))
  clear hm hb
  go_wp2
  refine leaves_cons (f := 176) (args := #[.pointer (some ⟨w.heap.size, 0, none⟩)]) (by simp) (by simp [go_sem]) ?_
  refine (catch_idle _ _).mono ?_
  rintro e u' w'' ⟨rfl, rfl, rfl⟩
  simp only [Leaves, settle, results, Tryz.results164]
  simp
  exact ⟨HM.out, HB.out⟩
set_option maxRecDepth 100000 in
set_option maxHeartbeats 1600000 in
theorem runText (pn pw : Addr) (b B : Nat) (l : List UInt8) (s : ByteArray) (w : World) (hn : w.cell? pn = some (.string s)) (hw : w.cell? pw = some (.pointer (some ⟨b, 0, none⟩))) (h : Wr w b B l 0) (hl : l.length + s.size ≤ 140737488355000) (hpn : ¬ Rw w b pn.block) (hpw : ¬ Rw w b pw.block) :
    Calls Tryz.prog 164 #[.pointer (some ⟨b, 0, none⟩), .func (.func 168) #[] #[.pointer (some pw), .pointer (some pn)]] w fun e w' => e = .returned (.tuple #[]) ∧ Wr w' b B (l ++ putL (s.size : Int) ++ s.data.toList) 0 ∧ But (Rw w b) w w' := by
  have hmf : ∀ (fn : Fn) (first cap : Array Value) (w : World), (Instr.makeFunc fn first cap).run Tryz.prog w = .ok (.func fn first cap) w := fun _ _ _ _ => rfl
  have hb1 : Below w.heap.size w (w.alloc (.cells #[.pointer (some ⟨b, 0, none⟩)] 147)) := (Below.refl _ _).alloc (Nat.le_refl _) _
  have H1 := Lib.hid (h.below hb1)
  have HRB := Lib.hid (fun k (hk : Rw _ b k) => h.rw_back hb1 hk)
  have hn1 := cell_below hb1 hn; have hw1 := cell_below hb1 hw
  have hbx : But (Rw w b) w (w.alloc (.cells #[.pointer (some ⟨b, 0, none⟩)] 147)) := But.of_below hb1
  have HN1 := Lib.hid hn1; have HW1 := Lib.hid hw1; have HBX := Lib.hid hbx
  have HRow := Lib.hid (h.rw_below hb1)
  clear hn hw h hb1 hn1 hw1 hbx
  go_enter_defers Tryz.func164, Tryz.ntmps164
  go_wp2_with fail
  refine (stepText pn pw b B l s _ HN1.out HW1.out H1.out hl (by have := HRow.out; unfold Rw; rw [this]; exact hpn) (by have := HRow.out; unfold Rw; rw [this]; exact hpw)).mono ?_
  rintro e w2 ⟨rfl, hm, hb⟩
  have HM := Lib.hid hm
  have HB := Lib.hid (HBX.out.trans (hb.mono (fun k _ hk => HRB.out k hk)))
  clear hm hb
  go_wp2
  refine leaves_cons (f := 176) (args := #[.pointer (some ⟨w.heap.size, 0, none⟩)]) (by simp) (by simp [go_sem]) ?_
  refine (catch_idle _ _).mono ?_
  rintro e u' w'' ⟨rfl, rfl, rfl⟩
  simp only [Leaves, settle, results, Tryz.results164]
  simp
  exact ⟨by rw [← List.append_assoc]; exact HM.out, HB.out⟩
set_option maxRecDepth 100000 in
set_option maxHeartbeats 1600000 in
theorem runFlag (pn pw : Addr) (b B : Nat) (l : List UInt8) (f : Bool) (w : World) (hn : w.cell? pn = some (.bool f)) (hw : w.cell? pw = some (.pointer (some ⟨b, 0, none⟩))) (h : Wr w b B l 0) (hl : l.length ≤ 140737488355000) (hpw : ¬ Rw w b pw.block) :
    Calls Tryz.prog 164 #[.pointer (some ⟨b, 0, none⟩), .func (.func 166) #[] #[.pointer (some pn), .pointer (some pw)]] w fun e w' => e = .returned (.tuple #[]) ∧ Wr w' b B (l ++ [flagB f]) 0 ∧ But (Rw w b) w w' := by
  have hmf : ∀ (fn : Fn) (first cap : Array Value) (w : World), (Instr.makeFunc fn first cap).run Tryz.prog w = .ok (.func fn first cap) w := fun _ _ _ _ => rfl
  have hb1 : Below w.heap.size w (w.alloc (.cells #[.pointer (some ⟨b, 0, none⟩)] 147)) := (Below.refl _ _).alloc (Nat.le_refl _) _
  have H1 := Lib.hid (h.below hb1)
  have HRB := Lib.hid (fun k (hk : Rw _ b k) => h.rw_back hb1 hk)
  have hn1 := cell_below hb1 hn; have hw1 := cell_below hb1 hw
  have hbx : But (Rw w b) w (w.alloc (.cells #[.pointer (some ⟨b, 0, none⟩)] 147)) := But.of_below hb1
  have HN1 := Lib.hid hn1; have HW1 := Lib.hid hw1; have HBX := Lib.hid hbx
  have HRow := Lib.hid (h.rw_below hb1)
  clear hn hw h hb1 hn1 hw1 hbx
  go_enter_defers Tryz.func164, Tryz.ntmps164
  go_wp2_with fail
  refine (stepFlag pn pw b B l f _ HN1.out HW1.out H1.out hl (by have := HRow.out; unfold Rw; rw [this]; exact hpw)).mono ?_
  rintro e w2 ⟨rfl, hm, hb⟩
  have HM := Lib.hid hm
  have HB := Lib.hid (HBX.out.trans (hb.mono (fun k _ hk => HRB.out k hk)))
  clear hm hb
  go_wp2
  refine leaves_cons (f := 176) (args := #[.pointer (some ⟨w.heap.size, 0, none⟩)]) (by simp) (by simp [go_sem]) ?_
  refine (catch_idle _ _).mono ?_
  rintro e u' w'' ⟨rfl, rfl, rfl⟩
  simp only [Leaves, settle, results, Tryz.results164]
  simp
  exact ⟨HM.out, HB.out⟩
end Go.Proofs.YtifknllhmbkkcaaGreat

/- Package wire: a writer's calls. Conditions: none. -/
namespace Go.Proofs.YtifknllhmbkkcaaGreat
open Go.RowKit Go.PlainAid

set_option maxRecDepth 100000 in
set_option maxHeartbeats 1600000 in
theorem add_made (b B : Nat) (l : List UInt8) (st : Value) (Post : World → Prop) (w : World) (h : Wr w b B l 0) (hr : Calls Tryz.prog 164 #[.pointer (some ⟨b, 0, none⟩), st] w fun e w' => e = .returned (.tuple #[]) ∧ Post w') :
    Calls Tryz.prog 130 #[.pointer (some ⟨b, 0, none⟩), st] w fun e w' => e = .returned (.pointer (some ⟨b, 0, none⟩)) ∧ Post w' := by
  have c0 := h.made; have c2 := h.err
  clear h
  go_enter Tryz.func130, Tryz.ntmps130
  go_wp2_with fail
  refine hr.mono ?_
  rintro e w1 ⟨rfl, hb⟩
  have HB := Lib.hid hb; clear hb
  go_wp2
  go_ret
  exact ⟨rfl, HB.out⟩
set_option maxRecDepth 100000 in
set_option maxHeartbeats 1600000 in
theorem add_err (b B : Nat) (l : List UInt8) (x : Int) (st : Value) (w : World) (h : Wr w b B l x) (hx : x ≠ 0) :
    Calls Tryz.prog 130 #[.pointer (some ⟨b, 0, none⟩), st] w fun e w' => e = .returned (.pointer (some ⟨b, 0, none⟩)) ∧ w = w' := by
  have c0 := h.made; have c2 := h.err
  have hq : (x = 0) = False := by simp [hx]
  clear h
  go_enter Tryz.func130, Tryz.ntmps130
  go_wp2
  go_ret
  exact ⟨rfl, rfl⟩
/-- Two boxes are laid. -/
theorem two_boxes (w : World) (u v : Value) (t t' : TypeId) : Below w.heap.size w ((w.alloc (.cells #[u] t)).alloc (.cells #[v] t')) := ((Below.refl _ _).alloc (Nat.le_refl _) _).alloc (by simp) _
theorem Wr.not_rw {w w' : World} {b B : Nat} {l : List UInt8} {e : Int} (h : Wr w b B l e) (hb : Below w.heap.size w w') {k : Nat} (hk : w.heap.size ≤ k) : ¬ Rw w' b k := by
  have h1 := h.lt; have h2 := h.le
  rintro (h3 | h3)
  · omega
  · rw [h.rw_below hb] at h3
    have := (h.row h3).2
    omega
def wNum (n : Int) (p : List UInt8 × Int) : List UInt8 × Int := if p.2 ≠ 0 then p else if n < 0 then (p.1, 5) else (p.1 ++ putL n, 0)
def wBig (n : Int) (p : List UInt8 × Int) : List UInt8 × Int := if p.2 ≠ 0 then p else (p.1 ++ putL n, 0)
def wText (s : ByteArray) (p : List UInt8 × Int) : List UInt8 × Int := if p.2 ≠ 0 then p else (p.1 ++ putL (s.size : Int) ++ s.data.toList, 0)
def wFlag (f : Bool) (p : List UInt8 × Int) : List UInt8 × Int := if p.2 ≠ 0 then p else (p.1 ++ [flagB f], 0)
set_option maxRecDepth 100000 in
set_option maxHeartbeats 1600000 in
theorem wNum_rw (b B : Nat) (l : List UInt8) (x : Int) (n : Int) (w : World) (h : Wr w b B l x) (hl : l.length ≤ 140737488355000) (h1 : n ≤ 9223372036854775807) :
    Calls Tryz.prog 91 #[.pointer (some ⟨b, 0, none⟩), .int .i64 n] w fun e w' => e = .returned (.pointer (some ⟨b, 0, none⟩)) ∧ Wr w' b B (wNum n (l, x)).1 (wNum n (l, x)).2 ∧ But (Rw w b) w w' := by
  have hmf : ∀ (fn : Fn) (first cap : Array Value) (w : World), (Instr.makeFunc fn first cap).run Tryz.prog w = .ok (.func fn first cap) w := fun _ _ _ _ => rfl
  have hb1 := two_boxes w (.pointer (some ⟨b, 0, none⟩)) (.int .i64 n) 147 3
  have H1 := Lib.hid (h.below hb1)
  have HRB := Lib.hid (fun k (hk : Rw _ b k) => h.rw_back hb1 hk)
  have p1 : ((w.alloc (.cells #[.pointer (some ⟨b, 0, none⟩)] 147)).alloc (.cells #[.int .i64 n] 3)).cell? ⟨w.heap.size, 0, none⟩ = some (.pointer (some ⟨b, 0, none⟩)) := by simp
  have n1 : ((w.alloc (.cells #[.pointer (some ⟨b, 0, none⟩)] 147)).alloc (.cells #[.int .i64 n] 3)).cell? ⟨w.heap.size + 1, 0, none⟩ = some (.int .i64 n) := by simp
  have r1 := h.not_rw hb1 (k := w.heap.size) (Nat.le_refl _)
  have r2 := h.not_rw hb1 (k := w.heap.size + 1) (by omega)
  have HB := Lib.hid (But.of_below (S := Rw w b) hb1)
  have P1 := Lib.hid p1; have N1 := Lib.hid n1; have R1 := Lib.hid r1; have R2 := Lib.hid r2
  clear h hb1 n1 r1 r2
  go_enter Tryz.func91, Tryz.ntmps91
  go_wp2_with fail
  refine Calls.mono (R := fun e w' => e = .returned (.pointer (some ⟨b, 0, none⟩)) ∧ Wr w' b B (wNum n (l, x)).1 (wNum n (l, x)).2 ∧ But (Rw w b) w w') ?_ ?_
  · by_cases hx : x = 0
    · subst hx
      by_cases h9 : n < 0
      · have hq : wNum n (l, 0) = (l, 5) := by simp [wNum, h9]
        rw [hq]
        refine (add_made b B l _ _ _ H1.out (runNum_bad ⟨w.heap.size + 1, 0, none⟩ ⟨w.heap.size, 0, none⟩ b B l n _ N1.out P1.out H1.out h9)).mono ?_
        rintro e w1 ⟨rfl, hm, hb⟩
        exact ⟨rfl, hm, HB.out.trans (hb.mono (fun k _ hk => HRB.out k hk))⟩
      · have hq : wNum n (l, 0) = (l ++ putL n, 0) := by simp [wNum, h9]
        rw [hq]
        refine (add_made b B l _ _ _ H1.out (runNum_good ⟨w.heap.size + 1, 0, none⟩ ⟨w.heap.size, 0, none⟩ b B l n _ N1.out P1.out H1.out hl (by omega) h1)).mono ?_
        rintro e w1 ⟨rfl, hm, hb⟩
        exact ⟨rfl, hm, HB.out.trans (hb.mono (fun k _ hk => HRB.out k hk))⟩
    · refine (add_err b B l x _ _ H1.out hx).mono ?_
      rintro e w1 ⟨rfl, rfl⟩
      have hq : wNum n (l, x) = (l, x) := by simp [wNum, hx]
      rw [hq]
      exact ⟨rfl, H1.out, HB.out⟩
  rintro e w1 ⟨rfl, hm, hb⟩
  have HM := Lib.hid hm; have HB3 := Lib.hid hb; clear hm hb
  go_wp2
  go_ret
  exact ⟨rfl, HM.out, HB3.out⟩
set_option maxRecDepth 100000 in
set_option maxHeartbeats 1600000 in
theorem wBig_rw (b B : Nat) (l : List UInt8) (x : Int) (n : Int) (w : World) (h : Wr w b B l x) (hl : l.length ≤ 140737488355000) (h0 : 0 ≤ n) (h1 : n < 18446744073709551616) :
    Calls Tryz.prog 134 #[.pointer (some ⟨b, 0, none⟩), .int .u64 n] w fun e w' => e = .returned (.pointer (some ⟨b, 0, none⟩)) ∧ Wr w' b B (wBig n (l, x)).1 (wBig n (l, x)).2 ∧ But (Rw w b) w w' := by
  have hmf : ∀ (fn : Fn) (first cap : Array Value) (w : World), (Instr.makeFunc fn first cap).run Tryz.prog w = .ok (.func fn first cap) w := fun _ _ _ _ => rfl
  have hb1 := two_boxes w (.pointer (some ⟨b, 0, none⟩)) (.int .u64 n) 147 32
  have H1 := Lib.hid (h.below hb1)
  have HRB := Lib.hid (fun k (hk : Rw _ b k) => h.rw_back hb1 hk)
  have p1 : ((w.alloc (.cells #[.pointer (some ⟨b, 0, none⟩)] 147)).alloc (.cells #[.int .u64 n] 32)).cell? ⟨w.heap.size, 0, none⟩ = some (.pointer (some ⟨b, 0, none⟩)) := by simp
  have n1 : ((w.alloc (.cells #[.pointer (some ⟨b, 0, none⟩)] 147)).alloc (.cells #[.int .u64 n] 32)).cell? ⟨w.heap.size + 1, 0, none⟩ = some (.int .u64 n) := by simp
  have r1 := h.not_rw hb1 (k := w.heap.size) (Nat.le_refl _)
  have r2 := h.not_rw hb1 (k := w.heap.size + 1) (by omega)
  have HB := Lib.hid (But.of_below (S := Rw w b) hb1)
  have P1 := Lib.hid p1; have N1 := Lib.hid n1; have R1 := Lib.hid r1; have R2 := Lib.hid r2
  clear h hb1 n1 r1 r2
  go_enter Tryz.func134, Tryz.ntmps134
  go_wp2_with fail
  refine Calls.mono (R := fun e w' => e = .returned (.pointer (some ⟨b, 0, none⟩)) ∧ Wr w' b B (wBig n (l, x)).1 (wBig n (l, x)).2 ∧ But (Rw w b) w w') ?_ ?_
  · by_cases hx : x = 0
    · subst hx
      have hq : wBig n (l, 0) = (l ++ putL n, 0) := by simp [wBig]
      rw [hq]
      refine (add_made b B l _ _ _ H1.out (runBig ⟨w.heap.size + 1, 0, none⟩ ⟨w.heap.size, 0, none⟩ b B l n _ N1.out P1.out H1.out hl h0 h1)).mono ?_
      rintro e w1 ⟨rfl, hm, hb⟩
      exact ⟨rfl, hm, HB.out.trans (hb.mono (fun k _ hk => HRB.out k hk))⟩
    · refine (add_err b B l x _ _ H1.out hx).mono ?_
      rintro e w1 ⟨rfl, rfl⟩
      have hq : wBig n (l, x) = (l, x) := by simp [wBig, hx]
      rw [hq]
      exact ⟨rfl, H1.out, HB.out⟩
  rintro e w1 ⟨rfl, hm, hb⟩
  have HM := Lib.hid hm; have HB3 := Lib.hid hb; clear hm hb
  go_wp2
  go_ret
  exact ⟨rfl, HM.out, HB3.out⟩
set_option maxRecDepth 100000 in
set_option maxHeartbeats 1600000 in
theorem wText_rw (b B : Nat) (l : List UInt8) (x : Int) (s : ByteArray) (w : World) (h : Wr w b B l x) (hl : l.length + s.size ≤ 140737488355000) :
    Calls Tryz.prog 135 #[.pointer (some ⟨b, 0, none⟩), .string s] w fun e w' => e = .returned (.pointer (some ⟨b, 0, none⟩)) ∧ Wr w' b B (wText s (l, x)).1 (wText s (l, x)).2 ∧ But (Rw w b) w w' := by
  have hmf : ∀ (fn : Fn) (first cap : Array Value) (w : World), (Instr.makeFunc fn first cap).run Tryz.prog w = .ok (.func fn first cap) w := fun _ _ _ _ => rfl
  have hb1 := two_boxes w (.pointer (some ⟨b, 0, none⟩)) (.string s) 147 9
  have H1 := Lib.hid (h.below hb1)
  have HRB := Lib.hid (fun k (hk : Rw _ b k) => h.rw_back hb1 hk)
  have p1 : ((w.alloc (.cells #[.pointer (some ⟨b, 0, none⟩)] 147)).alloc (.cells #[.string s] 9)).cell? ⟨w.heap.size, 0, none⟩ = some (.pointer (some ⟨b, 0, none⟩)) := by simp
  have n1 : ((w.alloc (.cells #[.pointer (some ⟨b, 0, none⟩)] 147)).alloc (.cells #[.string s] 9)).cell? ⟨w.heap.size + 1, 0, none⟩ = some (.string s) := by simp
  have r1 := h.not_rw hb1 (k := w.heap.size) (Nat.le_refl _)
  have r2 := h.not_rw hb1 (k := w.heap.size + 1) (by omega)
  have HB := Lib.hid (But.of_below (S := Rw w b) hb1)
  have P1 := Lib.hid p1; have N1 := Lib.hid n1; have R1 := Lib.hid r1; have R2 := Lib.hid r2
  clear h hb1 n1 r1 r2
  go_enter Tryz.func135, Tryz.ntmps135
  go_wp2_with fail
  refine Calls.mono (R := fun e w' => e = .returned (.pointer (some ⟨b, 0, none⟩)) ∧ Wr w' b B (wText s (l, x)).1 (wText s (l, x)).2 ∧ But (Rw w b) w w') ?_ ?_
  · by_cases hx : x = 0
    · subst hx
      have hq : wText s (l, 0) = (l ++ putL (s.size : Int) ++ s.data.toList, 0) := by simp [wText]
      rw [hq]
      refine (add_made b B l _ _ _ H1.out (runText ⟨w.heap.size + 1, 0, none⟩ ⟨w.heap.size, 0, none⟩ b B l s _ N1.out P1.out H1.out hl R2.out R1.out)).mono ?_
      rintro e w1 ⟨rfl, hm, hb⟩
      exact ⟨rfl, hm, HB.out.trans (hb.mono (fun k _ hk => HRB.out k hk))⟩
    · refine (add_err b B l x _ _ H1.out hx).mono ?_
      rintro e w1 ⟨rfl, rfl⟩
      have hq : wText s (l, x) = (l, x) := by simp [wText, hx]
      rw [hq]
      exact ⟨rfl, H1.out, HB.out⟩
  rintro e w1 ⟨rfl, hm, hb⟩
  have HM := Lib.hid hm; have HB3 := Lib.hid hb; clear hm hb
  go_wp2
  go_ret
  exact ⟨rfl, HM.out, HB3.out⟩
set_option maxRecDepth 100000 in
set_option maxHeartbeats 1600000 in
theorem wFlag_rw (b B : Nat) (l : List UInt8) (x : Int) (f : Bool) (w : World) (h : Wr w b B l x) (hl : l.length ≤ 140737488355000) :
    Calls Tryz.prog 133 #[.pointer (some ⟨b, 0, none⟩), .bool f] w fun e w' => e = .returned (.pointer (some ⟨b, 0, none⟩)) ∧ Wr w' b B (wFlag f (l, x)).1 (wFlag f (l, x)).2 ∧ But (Rw w b) w w' := by
  have hmf : ∀ (fn : Fn) (first cap : Array Value) (w : World), (Instr.makeFunc fn first cap).run Tryz.prog w = .ok (.func fn first cap) w := fun _ _ _ _ => rfl
  have hb1 := two_boxes w (.pointer (some ⟨b, 0, none⟩)) (.bool f) 147 4
  have H1 := Lib.hid (h.below hb1)
  have HRB := Lib.hid (fun k (hk : Rw _ b k) => h.rw_back hb1 hk)
  have p1 : ((w.alloc (.cells #[.pointer (some ⟨b, 0, none⟩)] 147)).alloc (.cells #[.bool f] 4)).cell? ⟨w.heap.size, 0, none⟩ = some (.pointer (some ⟨b, 0, none⟩)) := by simp
  have n1 : ((w.alloc (.cells #[.pointer (some ⟨b, 0, none⟩)] 147)).alloc (.cells #[.bool f] 4)).cell? ⟨w.heap.size + 1, 0, none⟩ = some (.bool f) := by simp
  have r1 := h.not_rw hb1 (k := w.heap.size) (Nat.le_refl _)
  have r2 := h.not_rw hb1 (k := w.heap.size + 1) (by omega)
  have HB := Lib.hid (But.of_below (S := Rw w b) hb1)
  have P1 := Lib.hid p1; have N1 := Lib.hid n1; have R1 := Lib.hid r1; have R2 := Lib.hid r2
  clear h hb1 n1 r1 r2
  go_enter Tryz.func133, Tryz.ntmps133
  go_wp2_with fail
  refine Calls.mono (R := fun e w' => e = .returned (.pointer (some ⟨b, 0, none⟩)) ∧ Wr w' b B (wFlag f (l, x)).1 (wFlag f (l, x)).2 ∧ But (Rw w b) w w') ?_ ?_
  · by_cases hx : x = 0
    · subst hx
      have hq : wFlag f (l, 0) = (l ++ [flagB f], 0) := by simp [wFlag]
      rw [hq]
      refine (add_made b B l _ _ _ H1.out (runFlag ⟨w.heap.size + 1, 0, none⟩ ⟨w.heap.size, 0, none⟩ b B l f _ N1.out P1.out H1.out hl R1.out)).mono ?_
      rintro e w1 ⟨rfl, hm, hb⟩
      exact ⟨rfl, hm, HB.out.trans (hb.mono (fun k _ hk => HRB.out k hk))⟩
    · refine (add_err b B l x _ _ H1.out hx).mono ?_
      rintro e w1 ⟨rfl, rfl⟩
      have hq : wFlag f (l, x) = (l, x) := by simp [wFlag, hx]
      rw [hq]
      exact ⟨rfl, H1.out, HB.out⟩
  rintro e w1 ⟨rfl, hm, hb⟩
  have HM := Lib.hid hm; have HB3 := Lib.hid hb; clear hm hb
  go_wp2
  go_ret
  exact ⟨rfl, HM.out, HB3.out⟩
end Go.Proofs.YtifknllhmbkkcaaGreat

/- Package wire: a writer is made, and answers. Conditions: none. -/
namespace Go.Proofs.YtifknllhmbkkcaaGreat
open Go.RowKit Go.PlainAid

theorem row_text {w : World} {B : Nat} {v : Value} (l : List UInt8) (h : w.ownsRow B 5 1 v l.length (bs l)) : (convert 202 9 v).run Tryz.prog w = .ok (.string ⟨l.toArray⟩) w := by
  obtain ⟨ao, c, rfl, _, hv⟩ := row_view h
  cases ao with
  | none =>
    have : l = [] := by
      cases l with
      | nil => rfl
      | cons x r => obtain ⟨g, hg, _⟩ := hv 0 (by simp); cases hg
    subst this
    exact run_convert_bytes_nil w _ _ Tryz.underlying202 Tryz.underlying5 _ _ _ Tryz.underlying9
  | some a =>
    refine run_convert_bytes_back (P := Tryz.prog) w 202 9 5 a c l Tryz.underlying202 Tryz.underlying5 Tryz.underlying9 (fun j hj => ?_)
    obtain ⟨g, hg, _, hc⟩ := hv j hj
    cases hg
    rw [Addr.add_lit, Nat.zero_add, hc]
    simp [bs, hj]
set_option maxRecDepth 100000 in
set_option maxHeartbeats 1600000 in
theorem wDone_ok (b B : Nat) (l : List UInt8) (w : World) (h : Wr w b B l 0) :
    Calls Tryz.prog 93 #[.pointer (some ⟨b, 0, none⟩)] w fun e w' => e = .returned (.tuple #[.string ⟨l.toArray⟩, .int .i64 0]) ∧ w = w' := by
  have c0 := h.made; have c2 := h.err
  obtain ⟨v, c1, ho⟩ := h.buf
  have hcv := row_text l ho
  clear h ho
  go_enter Tryz.func93, Tryz.ntmps93
  go_wp2
  go_ret2
  exact ⟨rfl, rfl⟩
/-- A writer that nobody made does nothing: there is none, or it is a zero one. -/
def NoWr (w : World) (p : Value) : Prop := p = .pointer none ∨ ∃ b, p = .pointer (some ⟨b, 0, none⟩) ∧ w.cell? ⟨b, 0, none⟩ = some (.bool false)
theorem NoWr.below {w w' : World} {p : Value} (h : NoWr w p) (hb : Below w.heap.size w w') : NoWr w' p := by
  rcases h with h | ⟨b, h, hc⟩
  · exact Or.inl h
  · exact Or.inr ⟨b, h, cell_below hb hc⟩
/-- A writer that was just made. -/
structure FreshW (w : World) (b : Nat) : Prop where
  made : w.cell? ⟨b, 0, none⟩ = some (.bool true)
  buf : w.cell? ⟨b, 1, none⟩ = some (.slice none 0 0)
  err : w.cell? ⟨b, 2, none⟩ = some (.int .i64 0)
  fr1 : w.frozen? ⟨b, 1, none⟩ = false
  fr2 : w.frozen? ⟨b, 2, none⟩ = false
theorem FreshW.wr {w w' : World} {b B : Nat} (h : FreshW w b) (hb : Below w.heap.size w w') (h1 : b < B) (h2 : B ≤ w'.heap.size) : Wr w' b B [] 0 := by
  have hl := World.block_lt_of_cell? w _ h.made
  exact ⟨cell_below hb h.made, cell_below hb h.err, (hb.frozen (p := ⟨b, 1, none⟩) hl).trans h.fr1, (hb.frozen (p := ⟨b, 2, none⟩) hl).trans h.fr2, h1, h2, _, cell_below hb h.buf, rfl, Or.inl ⟨rfl, rfl⟩⟩
set_option maxRecDepth 100000 in
set_option maxHeartbeats 1600000 in
theorem wnew_any (w : World) :
    Calls Tryz.prog 90 #[] w fun e w' => e = .returned (.pointer (some ⟨w.heap.size, 0, none⟩)) ∧ FreshW w' w.heap.size ∧ w'.heap.size = w.heap.size + 1 ∧ Below w.heap.size w w' := by
  go_enter Tryz.func90, Tryz.ntmps90
  go_wp2
  go_ret
  refine ⟨rfl, ⟨by simp, by simp, by simp, by simp, by simp⟩, by simp, (Below.refl _ _).alloc (Nat.le_refl _) _⟩
end Go.Proofs.YtifknllhmbkkcaaGreat

/- Package varnum: what Get answers for every text and place; what was put is got. Conditions: texts of at most 2^63-1 bytes. -/
namespace Go.Proofs.YtifknllhmbkkcaaGreat
open Go.RowKit Go.PlainAid

/-- The number that k bytes of s behind place a make. -/
def val (s : ByteArray) (a : Nat) : Nat → Int
  | 0 => 0
  | k + 1 => val s a k * 256 + bt s (a + k)
/-- The bytes from place a on are those of l. -/
def has (s : ByteArray) (a : Nat) (l : List UInt8) : Prop := ∀ j (h : j < l.length), bt s (a + j) = (l[j].toNat : Int)
end Go.Proofs.YtifknllhmbkkcaaGreat

/- Package wire: a reader; its steps. Conditions: texts of at most 2^63-1 bytes. -/
namespace Go.Proofs.YtifknllhmbkkcaaGreat
open Go.RowKit Go.PlainAid

/-- A reader that was made: block b. -/
structure Rd (w : World) (b : Nat) (s : ByteArray) (a e : Int) : Prop where
  made : w.cell? ⟨b, 0, none⟩ = some (.bool true)
  txt : w.cell? ⟨b, 1, none⟩ = some (.string s)
  pos : w.cell? ⟨b, 2, none⟩ = some (.int .i64 a)
  err : w.cell? ⟨b, 3, none⟩ = some (.int .i64 e)
  fr2 : w.frozen? ⟨b, 2, none⟩ = false
  fr3 : w.frozen? ⟨b, 3, none⟩ = false
theorem Rd.lt {w : World} {b : Nat} {s : ByteArray} {a e : Int} (h : Rd w b s a e) : b < w.heap.size := World.block_lt_of_cell? w _ h.made
theorem Rd.but {S : Nat → Prop} {w w' : World} {b : Nat} {s : ByteArray} {a e : Int} (h : Rd w b s a e) (hb : But S w w') (hs : ¬ S b) : Rd w' b s a e :=
  ⟨hb.cell hs h.made, hb.cell hs h.txt, hb.cell hs h.pos, hb.cell hs h.err, by rw [hb.frozen h.lt hs]; exact h.fr2, by rw [hb.frozen h.lt hs]; exact h.fr3⟩
theorem Rd.below {w w' : World} {b : Nat} {s : ByteArray} {a e : Int} (h : Rd w b s a e) (hb : Below w.heap.size w w') : Rd w' b s a e := h.but (But.of_below (S := fun _ => False) hb) id
theorem Rd.setPos {w : World} {b : Nat} {s : ByteArray} {a e : Int} (h : Rd w b s a e) (a' : Int) : Rd (w.setCell ⟨b, 2, none⟩ (.int .i64 a')) b s a' e := by
  refine ⟨?_, ?_, World.cell?_setCell_same _ _ _ h.pos, ?_, by rw [World.frozen?_setCell]; exact h.fr2, by rw [World.frozen?_setCell]; exact h.fr3⟩
  · rw [World.cell?_setCell_other _ _ _ _ (by simp)]; exact h.made
  · rw [World.cell?_setCell_other _ _ _ _ (by simp)]; exact h.txt
  · rw [World.cell?_setCell_other _ _ _ _ (by simp)]; exact h.err
theorem Rd.setErr {w : World} {b : Nat} {s : ByteArray} {a e : Int} (h : Rd w b s a e) (e' : Int) : Rd (w.setCell ⟨b, 3, none⟩ (.int .i64 e')) b s a e' := by
  refine ⟨?_, ?_, ?_, World.cell?_setCell_same _ _ _ h.err, by rw [World.frozen?_setCell]; exact h.fr2, by rw [World.frozen?_setCell]; exact h.fr3⟩
  · rw [World.cell?_setCell_other _ _ _ _ (by simp)]; exact h.made
  · rw [World.cell?_setCell_other _ _ _ _ (by simp)]; exact h.txt
  · rw [World.cell?_setCell_other _ _ _ _ (by simp)]; exact h.pos
/-- Only the reader's own block may have turned. -/
def Own (b k : Nat) : Prop := k = b
def RB (b : Nat) (s : ByteArray) (a : Int) (w w' : World) : Prop := But (Own b) w w' ∧ Rd w' b s a 0
theorem RB.to {b : Nat} {s : ByteArray} {a a' : Int} {w w1 w2 : World} (h : RB b s a w w1) (h2 : RB b s a' w1 w2) : RB b s a' w w2 := ⟨h.1.trans h2.1, h2.2⟩
theorem RB.pos {b : Nat} {s : ByteArray} {a : Int} {w w' : World} (h : RB b s a w w') (a' : Int) : RB b s a' w (w'.setCell ⟨b, 2, none⟩ (.int .i64 a')) := ⟨h.1.setCell (p := ⟨b, 2, none⟩) (fun _ => rfl) _, h.2.setPos a'⟩
end Go.Proofs.YtifknllhmbkkcaaGreat

/- Package wire: a reader's numbers. Conditions: texts of at most 2^63-1 bytes. -/
namespace Go.Proofs.YtifknllhmbkkcaaGreat
open Go.RowKit Go.PlainAid

/-- A step of a reader has read: its answer lies in p. -/
def RC (b : Nat) (p : Addr) (s : ByteArray) (a : Int) (v : Value) (w w' : World) : Prop := But (fun k => k = b ∨ k = p.block) w w' ∧ Rd w' b s a 0 ∧ w'.cell? p = some v
theorem RC.of {b : Nat} {p : Addr} {s : ByteArray} {a : Int} {v v0 : Value} {w w1 : World} (h : RB b s a w w1) (hc : w1.cell? p = some v0) (hp : p.block ≠ b) : RC b p s a v w (w1.setCell p v) := by
  have hbt : But (fun k => k = p.block) w1 (w1.setCell p v) := (But.of_below (S := fun k => k = p.block) (Below.refl _ _)).setCell (p := p) (fun _ => rfl) v
  exact ⟨(h.1.mono (fun k _ hk => Or.inl hk)).trans (hbt.mono (fun k _ hk => Or.inr hk)), h.2.but hbt (fun e => hp e.symm), World.cell?_setCell_same _ _ _ hc⟩
theorem But.fresh {S T : Nat → Prop} {w w1 w2 : World} (h : But S w w1) (h2 : But T w1 w2) (hT : ∀ k, k < w.heap.size → T k → S k) : But S w w2 :=
  ⟨h2.os.trans h.os, h2.tape.trans h.tape, h2.output.trans h.output, Nat.le_trans h.size h2.size, fun k hk hS => (h2.block k (Nat.lt_of_lt_of_le hk h.size) (fun ht => hS (hT k hk ht))).trans (h.block k hk hS)⟩
/-- The reader has a place, whichever, behind an error. -/
def RE (w : World) (b : Nat) (s : ByteArray) (a x : Int) : Prop := if x = 0 then Rd w b s a 0 else ∃ a', Rd w b s a' x
theorem RE.good {w : World} {b : Nat} {s : ByteArray} {a : Int} (h : Rd w b s a 0) : RE w b s a 0 := by unfold RE; rw [if_pos rfl]; exact h
theorem RE.bad {w : World} {b : Nat} {s : ByteArray} {a a' x : Int} (hx : x ≠ 0) (h : Rd w b s a' x) : RE w b s a x := by unfold RE; rw [if_neg hx]; exact ⟨a', h⟩
end Go.Proofs.YtifknllhmbkkcaaGreat

/- Package wire: a reader's texts. Conditions: texts of at most 2^63-1 bytes. -/
namespace Go.Proofs.YtifknllhmbkkcaaGreat
open Go.RowKit Go.PlainAid

/-- What lies in a cell. -/
def PV (p : Addr) (w : World) : Value := (w.cell? p).getD (.bool false)
theorem pv_some {p : Addr} {w : World} {v : Value} (h : w.cell? p = some v) : w.cell? p = some (PV p w) := by unfold PV; rw [h]; rfl
def SX (pr pn : Addr) (b : Nat) (s : ByteArray) (a2 : Nat) (w' : World) : Prop := w'.cell? pr = some (.pointer (some ⟨b, 0, none⟩)) ∧ w'.cell? ⟨b, 1, none⟩ = some (.string s) ∧ w'.cell? ⟨b, 2, none⟩ = some (.int .i64 a2) ∧ w'.cell? pn = some (PV pn w') ∧ w'.frozen? pn = false
theorem SX.set {pr pn : Addr} {b : Nat} {s : ByteArray} {a2 : Nat} {w' : World} (hpp : pr.block ≠ pn.block) (hp : pn.block ≠ b) (h : w'.cell? pr = some (.pointer (some ⟨b, 0, none⟩)) ∧ w'.cell? ⟨b, 1, none⟩ = some (.string s) ∧ w'.cell? ⟨b, 2, none⟩ = some (.int .i64 a2) ∧ w'.cell? pn = some (PV pn w') ∧ w'.frozen? pn = false) (v : Value) : SX pr pn b s a2 (w'.setCell pn v) := by
  obtain ⟨h1, h2, h3, h4, h5⟩ := h
  refine ⟨?_, ?_, ?_, pv_some (World.cell?_setCell_same _ _ _ h4), by rw [World.frozen?_setCell]; exact h5⟩
  · rw [World.cell?_setCell_far _ _ _ _ (fun e => hpp e.symm)]; exact h1
  · rw [World.cell?_setCell_far _ _ _ _ hp]; exact h2
  · rw [World.cell?_setCell_far _ _ _ _ hp]; exact h3
theorem RC.pos {b : Nat} {p : Addr} {s : ByteArray} {a : Int} {v : Value} {w w' : World} (h : RC b p s a v w w') (hp : p.block ≠ b) (a' : Int) : RC b p s a' v w (w'.setCell ⟨b, 2, none⟩ (.int .i64 a')) :=
  ⟨h.1.setCell (p := ⟨b, 2, none⟩) (fun _ => Or.inl rfl) _, h.2.1.setPos a', by rw [World.cell?_setCell_far _ _ _ _ (fun e => hp e.symm)]; exact h.2.2⟩
end Go.Proofs.YtifknllhmbkkcaaGreat

/- Package wire: a reader is opened; what is left; one that nobody made. Conditions: texts of at most 2^63-1 bytes. -/
namespace Go.Proofs.YtifknllhmbkkcaaGreat
open Go.RowKit Go.PlainAid

/-- A reader that nobody made: there is none, or it is a zero one. -/
def NoRd (w : World) (p : Value) : Prop := p = .pointer none ∨ ∃ b, p = .pointer (some ⟨b, 0, none⟩) ∧ w.cell? ⟨b, 0, none⟩ = some (.bool false)
theorem NoRd.below {w w' : World} {p : Value} (h : NoRd w p) (hb : Below w.heap.size w w') : NoRd w' p := by
  rcases h with h | ⟨b, h, hc⟩
  · exact Or.inl h
  · exact Or.inr ⟨b, h, cell_below hb hc⟩
theorem RE.ok {w : World} {b : Nat} {s : ByteArray} {a : Int} (h : RE w b s a 0) : Rd w b s a 0 := by unfold RE at h; rw [if_pos rfl] at h; exact h
end Go.Proofs.YtifknllhmbkkcaaGreat

/- Package catenaref02: a Writer. Conditions: what is written is at most 2^47 bytes. -/
namespace Go.Proofs.YtifknllhmbkkcaaGreat
open Go.RowKit Go.PlainAid

/-- The document's own Writer: block b. -/
structure RWr (w : World) (b : Nat) (l : List UInt8) (e : Int) : Prop where
  txt : w.cell? ⟨b, 0, none⟩ = some (.string ⟨l.toArray⟩)
  err : w.cell? ⟨b, 1, none⟩ = some (.int .i64 e)
  fr0 : w.frozen? ⟨b, 0, none⟩ = false
  fr1 : w.frozen? ⟨b, 1, none⟩ = false
theorem RWr.lt {w : World} {b : Nat} {l : List UInt8} {e : Int} (h : RWr w b l e) : b < w.heap.size := World.block_lt_of_cell? w _ h.txt
theorem RWr.but {S : Nat → Prop} {w w' : World} {b : Nat} {l : List UInt8} {e : Int} (h : RWr w b l e) (hb : But S w w') (hs : ¬ S b) : RWr w' b l e :=
  ⟨hb.cell hs h.txt, hb.cell hs h.err, by rw [hb.frozen h.lt hs]; exact h.fr0, by rw [hb.frozen h.lt hs]; exact h.fr1⟩
theorem RWr.below {w w' : World} {b : Nat} {l : List UInt8} {e : Int} (h : RWr w b l e) (hb : Below w.heap.size w w') : RWr w' b l e := h.but (But.of_below (S := fun _ => False) hb) id
theorem RWr.setTxt {w : World} {b : Nat} {l : List UInt8} {e : Int} (h : RWr w b l e) (k : List UInt8) : RWr (w.setCell ⟨b, 0, none⟩ (.string ⟨k.toArray⟩)) b k e :=
  ⟨World.cell?_setCell_same _ _ _ h.txt, by rw [World.cell?_setCell_other _ _ _ _ (by simp)]; exact h.err, by rw [World.frozen?_setCell]; exact h.fr0, by rw [World.frozen?_setCell]; exact h.fr1⟩
theorem RWr.setErr {w : World} {b : Nat} {l : List UInt8} {e : Int} (h : RWr w b l e) (x : Int) : RWr (w.setCell ⟨b, 1, none⟩ (.int .i64 x)) b l x :=
  ⟨by rw [World.cell?_setCell_other _ _ _ _ (by simp)]; exact h.txt, World.cell?_setCell_same _ _ _ h.err, by rw [World.frozen?_setCell]; exact h.fr0, by rw [World.frozen?_setCell]; exact h.fr1⟩
theorem RWr.grown {w w2 : World} {b : Nat} {l : List UInt8} {e : Int} (h : RWr w b l e) (hb : Below w.heap.size w w2) (k : List UInt8) : RWr (w2.setCell ⟨b, 0, none⟩ (.string ⟨k.toArray⟩)) b k e ∧ But (Own b) w (w2.setCell ⟨b, 0, none⟩ (.string ⟨k.toArray⟩)) :=
  ⟨(h.below hb).setTxt k, (But.of_below (S := Own b) hb).setCell (p := ⟨b, 0, none⟩) (fun _ => rfl) _⟩
end Go.Proofs.YtifknllhmbkkcaaGreat

/- Package catenaref02: a Reader. Conditions: texts of at most 2^63-1 bytes. -/
namespace Go.Proofs.YtifknllhmbkkcaaGreat
open Go.RowKit Go.PlainAid

/-- The document's own Reader: block b. -/
structure XRd (w : World) (b : Nat) (s : ByteArray) (a e : Int) : Prop where
  txt : w.cell? ⟨b, 0, none⟩ = some (.string s)
  pos : w.cell? ⟨b, 1, none⟩ = some (.int .i64 a)
  err : w.cell? ⟨b, 2, none⟩ = some (.int .i64 e)
  fr1 : w.frozen? ⟨b, 1, none⟩ = false
  fr2 : w.frozen? ⟨b, 2, none⟩ = false
theorem XRd.lt {w : World} {b : Nat} {s : ByteArray} {a e : Int} (h : XRd w b s a e) : b < w.heap.size := World.block_lt_of_cell? w _ h.txt
theorem XRd.but {S : Nat → Prop} {w w' : World} {b : Nat} {s : ByteArray} {a e : Int} (h : XRd w b s a e) (hb : But S w w') (hs : ¬ S b) : XRd w' b s a e :=
  ⟨hb.cell hs h.txt, hb.cell hs h.pos, hb.cell hs h.err, by rw [hb.frozen h.lt hs]; exact h.fr1, by rw [hb.frozen h.lt hs]; exact h.fr2⟩
theorem XRd.below {w w' : World} {b : Nat} {s : ByteArray} {a e : Int} (h : XRd w b s a e) (hb : Below w.heap.size w w') : XRd w' b s a e := h.but (But.of_below (S := fun _ => False) hb) id
theorem XRd.setPos {w : World} {b : Nat} {s : ByteArray} {a e : Int} (h : XRd w b s a e) (a' : Int) : XRd (w.setCell ⟨b, 1, none⟩ (.int .i64 a')) b s a' e :=
  ⟨by rw [World.cell?_setCell_other _ _ _ _ (by simp)]; exact h.txt, World.cell?_setCell_same _ _ _ h.pos, by rw [World.cell?_setCell_other _ _ _ _ (by simp)]; exact h.err, by rw [World.frozen?_setCell]; exact h.fr1, by rw [World.frozen?_setCell]; exact h.fr2⟩
theorem XRd.setErr {w : World} {b : Nat} {s : ByteArray} {a e : Int} (h : XRd w b s a e) (x : Int) : XRd (w.setCell ⟨b, 2, none⟩ (.int .i64 x)) b s a x :=
  ⟨by rw [World.cell?_setCell_other _ _ _ _ (by simp)]; exact h.txt, by rw [World.cell?_setCell_other _ _ _ _ (by simp)]; exact h.pos, World.cell?_setCell_same _ _ _ h.err, by rw [World.frozen?_setCell]; exact h.fr1, by rw [World.frozen?_setCell]; exact h.fr2⟩
def XRE (w : World) (b : Nat) (s : ByteArray) (a x : Int) : Prop := if x = 0 then XRd w b s a 0 else ∃ a', XRd w b s a' x
theorem XRE.good {w : World} {b : Nat} {s : ByteArray} {a : Int} (h : XRd w b s a 0) : XRE w b s a 0 := by unfold XRE; rw [if_pos rfl]; exact h
theorem XRE.bad {w : World} {b : Nat} {s : ByteArray} {a a' x : Int} (hx : x ≠ 0) (h : XRd w b s a' x) : XRE w b s a x := by unfold XRE; rw [if_neg hx]; exact ⟨a', h⟩
/-- The reader is as it was; what came up is new. -/
def XB (b : Nat) (s : ByteArray) (a : Int) (w w' : World) : Prop := Below w.heap.size w w' ∧ XRd w' b s a 0
theorem XB.step {b : Nat} {s : ByteArray} {a : Int} {w w1 w2 : World} (h : w1.cell? ⟨b, 0, none⟩ = some (.string s) ∧ w1.cell? ⟨b, 1, none⟩ = some (.int .i64 a) ∧ XB b s a w w1) (hb : Below w1.heap.size w1 w2) : w2.cell? ⟨b, 0, none⟩ = some (.string s) ∧ w2.cell? ⟨b, 1, none⟩ = some (.int .i64 a) ∧ XB b s a w w2 :=
  ⟨(h.2.2.2.below hb).txt, (h.2.2.2.below hb).pos, h.2.2.1.trans (hb.mono h.2.2.1.size), h.2.2.2.below hb⟩
theorem XRE.ok {w : World} {b : Nat} {s : ByteArray} {a : Int} (h : XRE w b s a 0) : XRd w b s a 0 := by unfold XRE at h; rw [if_pos rfl] at h; exact h
theorem XRE.err {w : World} {b : Nat} {s : ByteArray} {a x : Int} (hx : x ≠ 0) (h : XRE w b s a x) : ∃ a', XRd w b s a' x := by unfold XRE at h; rw [if_neg hx] at h; exact h
end Go.Proofs.YtifknllhmbkkcaaGreat

/- Package wire and the document's Reader: every call, behind an error or not. Conditions: texts of at most 2^63-1 bytes. -/
namespace Go.Proofs.YtifknllhmbkkcaaGreat
open Go.RowKit Go.PlainAid

theorem RE.err {w : World} {b : Nat} {s : ByteArray} {a x : Int} (hx : x ≠ 0) (h : RE w b s a x) : ∃ a', Rd w b s a' x := by unfold RE at h; rw [if_neg hx] at h; exact h
theorem RE.below {w w' : World} {b : Nat} {s : ByteArray} {a x : Int} (h : RE w b s a x) (hb : Below w.heap.size w w') : RE w' b s a x := by
  by_cases hx : x = 0
  · subst hx; exact RE.good (h.ok.below hb)
  · obtain ⟨a', h'⟩ := RE.err hx h; exact RE.bad hx (h'.below hb)
theorem RE.but {S : Nat → Prop} {w w' : World} {b : Nat} {s : ByteArray} {a x : Int} (h : RE w b s a x) (hb : But S w w') (hs : ¬ S b) : RE w' b s a x := by
  by_cases hx : x = 0
  · subst hx; exact RE.good (h.ok.but hb hs)
  · obtain ⟨a', h'⟩ := RE.err hx h; exact RE.bad hx (h'.but hb hs)
theorem RE.lt {w : World} {b : Nat} {s : ByteArray} {a x : Int} (h : RE w b s a x) : b < w.heap.size := by
  by_cases hx : x = 0
  · subst hx; exact h.ok.lt
  · obtain ⟨a', h'⟩ := RE.err hx h; exact h'.lt
theorem XRE.below {w w' : World} {b : Nat} {s : ByteArray} {a x : Int} (h : XRE w b s a x) (hb : Below w.heap.size w w') : XRE w' b s a x := by
  by_cases hx : x = 0
  · subst hx; exact XRE.good (h.ok.below hb)
  · obtain ⟨a', h'⟩ := XRE.err hx h; exact XRE.bad hx (h'.below hb)
theorem XRE.but {S : Nat → Prop} {w w' : World} {b : Nat} {s : ByteArray} {a x : Int} (h : XRE w b s a x) (hb : But S w w') (hs : ¬ S b) : XRE w' b s a x := by
  by_cases hx : x = 0
  · subst hx; exact XRE.good (h.ok.but hb hs)
  · obtain ⟨a', h'⟩ := XRE.err hx h; exact XRE.bad hx (h'.but hb hs)
theorem XRE.cell {w : World} {b : Nat} {s : ByteArray} {a x : Int} (h : XRE w b s a x) : w.cell? ⟨b, 2, none⟩ = some (.int .i64 x) := by
  by_cases hx : x = 0
  · subst hx; exact h.ok.err
  · obtain ⟨a', h'⟩ := XRE.err hx h; exact h'.err
end Go.Proofs.YtifknllhmbkkcaaGreat

/- Package conf: bytes that are put, what the check tells. Conditions: none. -/
namespace Go.Proofs.YtifknllhmbkkcaaGreat
open Go.RowKit Go.PlainAid

def putM (l : List MemT) : List UInt8 := l.flatMap fun m => putL m.1 ++ putL m.2
theorem putM_len (l : List MemT) : (putM l).length ≤ 18 * l.length := by
  induction l with
  | nil => simp [putM]
  | cons m r ih =>
    have h1 := putL_le m.1; have h2 := putL_le m.2
    have e : putM (m :: r) = putL m.1 ++ putL m.2 ++ putM r := by simp [putM]
    rw [e]; simp only [List.length_append, List.length_cons]; omega
def putC (ep : Int) (ms : List MemT) (fl : Int) : List UInt8 := putL ep ++ putL (ms.length : Int) ++ putM ms ++ putL fl
/-- What a configuration that may be is like. -/
theorem chkM_ok : ∀ (pre r : List MemT), chkM pre r = 0 → ∀ m ∈ r, (0 ≤ m.1 ∧ m.1 < 4) ∧ (1 ≤ m.2 ∧ m.2 ≤ 1073741824)
  | _, [], _ => by simp
  | pre, m :: r, h => by
    unfold chkM at h
    split at h
    · omega
    rename_i h1
    split at h
    · omega
    rename_i h2
    split at h
    · omega
    intro o ho
    rcases List.mem_cons.1 ho with rfl | ho
    · unfold badId at h1; unfold badSer at h2; exact ⟨by omega, by omega⟩
    · exact chkM_ok _ r h o ho
theorem chkC_ok {ep : Int} {ms : List MemT} (h : chkC ep ms = 0) : (1 ≤ ep ∧ ep ≤ 1073741824) ∧ (0 < ms.length ∧ ms.length ≤ 4) ∧ chkM [] ms = 0 ∧ ∀ m ∈ ms, (0 ≤ m.1 ∧ m.1 < 4) ∧ (1 ≤ m.2 ∧ m.2 ≤ 1073741824) := by
  unfold chkC at h
  split at h
  · omega
  split at h
  · omega
  split at h
  · omega
  exact ⟨by omega, by omega, h, chkM_ok _ _ h⟩
end Go.Proofs.YtifknllhmbkkcaaGreat

/- Steps of a walk over known slots: what a frame's slots hold is kept as a list; each operation, branch and loop by one law. Conditions: none. -/
namespace Go.Proofs.YtifknllhmbkkcaaGreat
open Go.RowKit

section
variable {P : Program} {n : Nat} {m : List (Nat × Value)} {a : Act} {w : World}

/-- What is known of a frame: its size, that nothing is deferred, what some of its slots hold. -/
structure Slots (n : Nat) (m : List (Nat × Value)) (a : Act) : Prop where
  size : a.tmps.size = n
  defers : a.defers = []
  look : ∀ t v, m.lookup t = some v → a.tmps.getD t undef = v

def ev (m : List (Nat × Value)) : Operand → Option Value
  | .tmp t => m.lookup t
  | .const v => some v
  | .global g => some (.pointer (some ⟨g, 0, none⟩))
  | .func f => some (.func (.func f) #[] #[])
theorem Slots.ev (h : Slots n m a) {x : Operand} {v : Value} (hx : ev m x = some v) : a.eval x = v := by
  cases x with
  | tmp t => exact h.look t v hx
  | const u => simpa [Go.Proofs.YtifknllhmbkkcaaGreat.ev, Act.eval] using hx
  | global g => simpa [Go.Proofs.YtifknllhmbkkcaaGreat.ev, Act.eval] using hx
  | func f => simpa [Go.Proofs.YtifknllhmbkkcaaGreat.ev, Act.eval] using hx
def lk (m : List (Nat × Value)) (x : Operand) : Value := (ev m x).getD undef
def okOps (m : List (Nat × Value)) (o : Op) : Bool := o.operands.all fun x => (ev m x).isSome
theorem Slots.lk (h : Slots n m a) {x : Operand} (hx : (Go.Proofs.YtifknllhmbkkcaaGreat.ev m x).isSome = true) : a.eval x = lk m x := by
  obtain ⟨v, hv⟩ := Option.isSome_iff_exists.1 hx
  rw [h.ev hv]; simp [Go.Proofs.YtifknllhmbkkcaaGreat.lk, hv]
theorem Slots.put {d : Nat} {v : Value} (h : Slots n m a) (hd : d < n) : Slots n ((d, v) :: m) (a.put (some d) v) := by
  obtain ⟨h1, h2, h3⟩ := h
  refine ⟨by simp [Act.put, h1], h2, fun t u ht => ?_⟩
  rw [List.lookup_cons] at ht
  by_cases e : t = d
  · subst e
    simp at ht
    subst ht
    simp [Act.put, h1, hd]
  · have : (t == d) = false := by simpa using e
    rw [this] at ht
    have := h3 t u ht
    simp only [Act.put, Array.getD_eq_getD_getElem?] at this ⊢
    rw [Array.getElem?_setIfInBounds_ne (by omega)]
    exact this
/-- Less is known. -/
def Sub (m : List (Nat × Value)) : List (Nat × Value) → Prop
  | [] => True
  | p :: r => m.lookup p.1 = some p.2 ∧ Sub m r
theorem slot_eq {m : List (Nat × Value)} {t : Nat} {v v' : Value} (h : m.lookup t = some v) (e : v = v') : m.lookup (t, v').1 = some (t, v').2 := by subst e; exact h
theorem Sub.get {m : List (Nat × Value)} : ∀ {l : List (Nat × Value)}, Sub m l → ∀ t v, l.lookup t = some v → m.lookup t = some v
  | [], _, t, v, h => by simp at h
  | p :: r, hs, t, v, h => by
    rw [List.lookup_cons] at h
    by_cases e : t = p.1
    · subst e; simp at h; subst h; exact hs.1
    · have : (t == p.1) = false := by simpa using e
      rw [this] at h
      exact hs.2.get t v h
theorem Slots.sub {l : List (Nat × Value)} (h : Slots n m a) (hs : Sub m l) : Slots n l a := ⟨h.size, h.defers, fun t v ht => h.look t v (hs.get t v ht)⟩
theorem Slots.none {dst : Option Tmp} {v : Value} (h : Slots n m a) (hd : dst = none) : Slots n m (a.put dst v) := by subst hd; exact h

/-- Operation o, in a frame of which m is known and in world w: its value and the world behind it. -/
def Op1 (P : Program) (n : Nat) (m : List (Nat × Value)) (o : Oper) (w : World) (R : Value → World → Prop) : Prop :=
  ∀ a, Slots n m a → ∀ (N : Act → World → Prop) (Q : Exit → Act → World → Prop), (∀ v w', R v w' → N (a.put o.dst v) w') → o.wp P a w N Q

variable {o : Oper} {ops : Array Oper} {rest : List Oper} {Q : Exit → Act → World → Prop} {R : Value → World → Prop}
theorem op_run {v : Value} {w' : World} (hok : okOps m o.op = true) (hsel : (match o.op with | .select .. => true | _ => false) = false) (hrun : (execOp (lk m) o).run P w = .ok (.value v) w') : Op1 P n m o w (fun u x => u = v ∧ x = w') := by
  intro a ha N Q h
  have he : execOp a.eval o = execOp (lk m) o := execOp_congr o (fun cs b e => by simp [e] at hsel) (fun x hx => ha.lk (Array.all_eq_true_iff_forall_mem.1 hok x hx))
  unfold Oper.wp
  rw [he, hrun]
  exact h _ _ ⟨rfl, rfl⟩
theorem Op1.mono {R' : Value → World → Prop} (h : Op1 P n m o w R) (hr : ∀ v w', R v w' → R' v w') : Op1 P n m o w R' := fun a ha N Q hN => h a ha N Q fun v w' hv => hN v w' (hr v w' hv)
/-- A call of a Go function. -/
theorem op_call {c : Call} {x : Operand} {f : FuncId} {args : Array Value} {E : Ending → World → Prop} (ho : o.op = .call c) (hc : c.callee = .value x) (hf : ev m x = some (.func (.func f) #[] #[]))
    (hok : okOps m o.op = true) (hargs : c.args.map (lk m) = args) (hcall : (callFunc f args).run P w = .ok (.enter f args) w) (h : Calls P f args w E) (hE : ∀ e w', E e w' → ∃ v, e = .returned v ∧ R v w') : Op1 P n m o w R := by
  intro a ha N Q hN
  have he : execOp a.eval o = execOp (lk m) o := execOp_congr o (fun cs b e => by simp [e] at ho) (fun x hx => ha.lk (Array.all_eq_true_iff_forall_mem.1 hok x hx))
  unfold Oper.wp
  rw [he]
  have hfx : lk m x = .func (.func f) #[] #[] := by simp [lk, hf]
  have : (execOp (lk m) o).run P w = .ok (.enter f args) w := by
    simp only [execOp, ho, resolve, hc, hfx, Deferred.ofValue, hargs, Sem.run_bind, Sem.run_pure, Result.andThen_ok, invoke]
    simpa using hcall
  rw [this, Oper.upon_enter]
  refine h.mono fun e w' he => ?_
  obtain ⟨v, rfl, hv⟩ := hE e w' he
  exact hN v w' hv
theorem lk_ev {x : Operand} {v : Value} (hx : ev m x = some v) : lk m x = v := by simp [lk, hx]
/-- One cell is loaded. -/
theorem rn_load1 {t : TypeId} {x : Operand} {p : Addr} {v : Value} (ho : o.op = .load t x) (hx : ev m x = some (.pointer (some p))) (ht : ∀ w : World, (isAgg t).run P w = .ok false w) (hc : w.cell? p = some v) : (execOp (lk m) o).run P w = .ok (.value v) w := by
  unfold execOp
  have hl : (Instr.loadAt t (.pointer (some p))).run P w = .ok v w := by
    simp [Instr.loadAt, Instr.sureAddr, loadVar, ht, Sem.run_bind, load, Sem.run, hc]
  simp only [ho, lk_ev hx, Sem.run_bind, hl, Result.andThen_ok, Sem.run_pure]
/-- Several cells are loaded. -/
theorem rn_loadN {t : TypeId} {x : Operand} {b o' : Nat} {cs : List Value} {d : TypeDesc} (ho : o.op = .load t x) (hx : ev m x = some (.pointer (some ⟨b, o', none⟩))) (hu : P.underlying t = some d) (hd : d.isRow = true) (hi : (P.info? t).map (·.size) = some cs.length) (hc : w.rangeAt b o' cs) : (execOp (lk m) o).run P w = .ok (.value (.agg cs.toArray)) w := by
  unfold execOp
  simp only [ho, lk_ev hx, Instr.loadAt, Instr.sureAddr, Sem.run_bind, Sem.run_pure, Result.andThen_ok, run_loadVar_mid w b o' t cs d hc hu hd hi]
/-- An int's sum, difference, product that is in range. -/
theorem rn_arith {op : BinOp} {T T' : TypeId} {x y : Operand} {k : IntKind} {i j z : Int} (ho : o.op = .binOp op T x y T') (hx : ev m x = some (.int k i)) (hy : ev m y = some (.int k j)) (hop : Op.intArith op k i j = .pure (.int k (k.wrap z))) (hne : (op matches .shl | .shr | .eql | .neq) = false) (hcl : binOp op T (.int k i) (.int k j) = Op.intArith op k i j) (hz : k.wrap z = z) : (execOp (lk m) o).run P w = .ok (.value (.int k z)) w := by
  unfold execOp
  have hg : (eqGuard op T x y (.int k i) (.int k j)).run P w = .ok () w := by
    unfold eqGuard
    cases op <;> simp at hne <;> rfl
  simp only [ho, lk_ev hx, lk_ev hy, Sem.run_bind, hg, hcl, hop, hz, Result.andThen_ok]
  rfl

theorem rn_arith' {op : BinOp} {T T' : TypeId} {x y : Operand} {k : IntKind} {i j z z' : Int} (ho : o.op = .binOp op T x y T') (hx : ev m x = some (.int k i)) (hy : ev m y = some (.int k j)) (hop : Op.intArith op k i j = .pure (.int k (k.wrap z))) (hne : (op matches .shl | .shr | .eql | .neq) = false) (hcl : binOp op T (.int k i) (.int k j) = Op.intArith op k i j) (hz : k.wrap z = z) (he : z = z') : (execOp (lk m) o).run P w = .ok (.value (.int k z')) w := by
  subst he; exact rn_arith ho hx hy hop hne hcl hz
section minmax
variable {ts : Array TypeId} {x y : Operand} {k : IntKind} {i j : Int}
end minmax

/-! ### A plain region -/
theorem pl_nil (h : Q .normal a w) : wpList P ops Q [] a w := h
theorem getD_some {tmps : Array Value} {t : Nat} {b : Bool} (h : tmps.getD t undef = .bool b) : tmps[t]? = some (.bool b) := by
  rw [Array.getD_eq_getD_getElem?] at h
  cases hx : tmps[t]? with
  | none => rw [hx] at h; simp [undef] at h
  | some u => rw [hx] at h; simp at h; rw [h]
/-- Is a guarded operation wanted? -/
def wantB (m : List (Nat × Value)) (ops : Array Oper) (o : Oper) : Option Bool :=
  match o.guard with
  | none => some true
  | some (g, b) => match ((ops[g]?).bind (·.dst)).bind (m.lookup ·) with
    | some (.bool c) => some (c == b)
    | some (.tuple _) => some false
    | _ => none
theorem Slots.wants {c : Bool} (hs : Slots n m a) (h : wantB m ops o = some c) : Region.wanted o (yielded ops a.tmps) = c := by
  unfold wantB at h
  unfold Region.wanted
  cases hg : o.guard with
  | none => rw [hg] at h; simpa using h
  | some p =>
    obtain ⟨g, b⟩ := p
    rw [hg] at h
    simp only at h ⊢
    cases hd : (ops[g]?).bind (·.dst) with
    | none => rw [hd] at h; simp at h
    | some d =>
      rw [hd] at h
      simp only [Option.bind_some] at h
      cases hm : m.lookup d with
      | none => rw [hm] at h; simp at h
      | some u =>
        rw [hm] at h
        cases u <;> simp at h
        · rename_i q
          have := getD_some (hs.look d _ hm)
          simp [yielded, hd, this, h]
        · rename_i q
          subst h
          have h1 := hs.look d _ hm
          rw [Array.getD_eq_getD_getElem?] at h1
          have h2 : yielded ops a.tmps g = Option.none := by
            unfold yielded
            rw [hd]
            simp only [Option.bind_some]
            cases hx : a.tmps[d]? with
            | none => rfl
            | some u => rw [hx] at h1; simp at h1; subst h1; rfl
          rw [h2]; rfl
theorem pl_want {d : Nat} (hs : Slots n m a) (hg : wantB m ops o = some true) (hd : o.dst = some d) (hdn : Nat.blt d n = true) (h1 : Op1 P n m o w R)
    (h : ∀ v w' a', R v w' → Slots n ((d, v) :: m) a' → wpList P ops Q rest a' w') : wpList P ops Q (o :: rest) a w :=
  wpList_step fun K hK => by
    rw [if_pos (hs.wants hg)]
    exact h1 a hs K Q fun v w' hv => hK _ _ (h v w' _ hv (by rw [hd]; exact hs.put (by simpa using hdn)))
theorem pl_doW (hs : Slots n m a) (hg : wantB m ops o = some true) (hd : o.dst = none) (h1 : Op1 P n m o w R)
    (h : ∀ v w' a', R v w' → Slots n m a' → wpList P ops Q rest a' w') : wpList P ops Q (o :: rest) a w :=
  wpList_step fun K hK => by
    rw [if_pos (hs.wants hg)]
    exact h1 a hs K Q fun v w' hv => hK _ _ (h v w' _ hv (hs.none hd))
theorem pl_skip {d : Nat} (hs : Slots n m a) (hg : wantB m ops o = some false) (hd : o.dst = some d) (hdn : Nat.blt d n = true)
    (h : ∀ a', Slots n ((d, undef) :: m) a' → wpList P ops Q rest a' w) : wpList P ops Q (o :: rest) a w :=
  wpList_step fun K hK => by
    rw [if_neg (by simp [hs.wants hg])]
    exact hK _ _ (h _ (by rw [hd]; exact hs.put (by simpa using hdn)))

/-- An operation that leaves the world as it is. -/
theorem pl_val {d : Nat} {v : Value} (hs : Slots n m a) (hg : wantB m ops o = some true) (hd : o.dst = some d) (hdn : Nat.blt d n = true) (hok : okOps m o.op = true) (hsel : (match o.op with | .select .. => true | _ => false) = false) (hrun : (execOp (lk m) o).run P w = .ok (.value v) w)
    (h : ∀ a', Slots n ((d, v) :: m) a' → wpList P ops Q rest a' w) : wpList P ops Q (o :: rest) a w :=
  pl_want hs hg hd hdn (op_run hok hsel hrun) fun _ _ a' ⟨h1, h2⟩ hs' => by subst h1 h2; exact h a' hs'
/-! ### A region that draws its order -/
variable {md : Region.Mode} {S : World → Prop} {fuel : Nat} {listed : Array Bool} {i d : Nat}
abbrev NP (Q : Exit → Act → World → Prop) := NoPanic Q
theorem dr_start {id : Nat} {l : List Oper} (hm : P.follows .mixedOrders = true) (hS : S w.drew) (h : wpAnyH P .any l.toArray (NP Q) S l.length (Array.replicate l.length false) a w.drew) : (Code.region id l.toArray true).wp P Q a w :=
  wp_region_noPanic (wp_region_held_drew (S := S) hm hS fun _ => by simpa using h)
/-- Number i, which yields v in every world that meets S, is taken first. -/
theorem dr_take {v : Value} (hs : Slots n m a) (ho : ops[i]? = some o) (hsel : Region.noSelect ops = true) (hf : Region.free md ops listed i = true) (hr : (Region.ready md ops listed).contains i = true)
    (hw : wantB m ops o = some true) (hd : o.dst = some d) (hdn : Nat.blt d n = true) (hS : S w) (hok : okOps m o.op = true) (hrun : ∀ w, S w → (execOp (lk m) o).run P w = .ok (.value v) w)
    (h : ∀ a', Slots n ((d, v) :: m) a' → wpAnyH P md ops (NP Q) S fuel (listed.setIfInBounds i true) a' w) : wpAnyH P md ops (NP Q) S (fuel + 1) listed a w := by
  have he : execOp a.eval o = execOp (lk m) o := execOp_congr o (fun cs b e => Region.noSelect_spec hsel i o cs b ho e) (fun x hx => hs.lk (Array.all_eq_true_iff_forall_mem.1 hok x hx))
  refine wpAnyH_take ho hsel hf hr (fun _ _ _ h => h) (Or.inl ⟨hs.wants hw, fun w' hw' => by rw [he]; exact hrun w' hw'⟩) hS ?_
  exact h _ (by rw [hd]; exact hs.put (by simpa using hdn))
/-- Number i, which is not wanted. -/
theorem dr_skip (hs : Slots n m a) (ho : ops[i]? = some o) (hsel : Region.noSelect ops = true) (hf : Region.free md ops listed i = true) (hr : (Region.ready md ops listed).contains i = true)
    (hw : wantB m ops o = some false) (hd : o.dst = some d) (hdn : Nat.blt d n = true) (hS : S w)
    (h : ∀ a', Slots n ((d, undef) :: m) a' → wpAnyH P md ops (NP Q) S fuel (listed.setIfInBounds i true) a' w) : wpAnyH P md ops (NP Q) S (fuel + 1) listed a w := by
  refine wpAnyH_take ho hsel hf hr (fun _ _ _ h => h) (Or.inr ⟨hs.wants hw, rfl⟩) hS ?_
  exact h _ (by rw [hd]; exact hs.put (by simpa using hdn))
/-- Number i alone may come up. -/
theorem dr_one (hs : Slots n m a) (ho : ops[i]? = some o) (hr : Region.ready md ops listed = [i]) (hw : wantB m ops o = some true) (hd : o.dst = some d) (hdn : Nat.blt d n = true) (h1 : Op1 P n m o w R) (hS : ∀ v w', R v w' → S w')
    (h : ∀ v w' a', R v w' → Slots n ((d, v) :: m) a' → wpAnyH P md ops (NP Q) S fuel (listed.setIfInBounds i true) a' w') : wpAnyH P md ops (NP Q) S (fuel + 1) listed a w := by
  refine wpAnyH_all hr (by simp) fun j hj => ?_
  simp only [List.mem_singleton] at hj
  subst hj
  unfold wpOp
  simp only [ho, hs.wants hw, if_true]
  exact .inl (h1 a hs _ _ fun v w' hv => ⟨hS v w' hv, h v w' _ hv (by rw [hd]; exact hs.put (by simpa using hdn))⟩)
theorem dr_oneDo (hs : Slots n m a) (ho : ops[i]? = some o) (hr : Region.ready md ops listed = [i]) (hw : wantB m ops o = some true) (hd : o.dst = none) (h1 : Op1 P n m o w R) (hS : ∀ v w', R v w' → S w')
    (h : ∀ v w' a', R v w' → Slots n m a' → wpAnyH P md ops (NP Q) S fuel (listed.setIfInBounds i true) a' w') : wpAnyH P md ops (NP Q) S (fuel + 1) listed a w := by
  refine wpAnyH_all hr (by simp) fun j hj => ?_
  simp only [List.mem_singleton] at hj
  subst hj
  unfold wpOp
  simp only [ho, hs.wants hw, if_true]
  exact .inl (h1 a hs _ _ fun v w' hv => ⟨hS v w' hv, h v w' _ hv (hs.none hd)⟩)
theorem dr_done (hr : Region.ready md ops listed = []) (h : Q .normal a w) : wpAnyH P md ops (NP Q) S fuel listed a w := wpAnyH_done hr (NoPanic.normal h) fuel

/-! ### Code -/
theorem co_seq {x y : Code} (h : x.wp P (Exit.then (y.wp P Q) Q) a w) : (Code.seq x y).wp P Q a w := wp_seq h
theorem co_reg {id : Nat} {l : List Oper} (h : wpList P l.toArray Q l a w) : (Code.region id l.toArray false).wp P Q a w := wp_region_lit h
theorem co_then {K : Act → World → Prop} (h : K a w) : Exit.then K Q .normal a w := h
theorem co_true {c : Operand} {x y : Code} (hs : Slots n m a) (hc : ev m c = some (.bool true)) (h : x.wp P Q a w) : (Code.cond c x y).wp P Q a w := wp_cond_true (hs.ev hc) h
theorem co_false {c : Operand} {x y : Code} (hs : Slots n m a) (hc : ev m c = some (.bool false)) (h : y.wp P Q a w) : (Code.cond c x y).wp P Q a w := wp_cond_false (hs.ev hc) h
theorem co_loop {c : Code} (I : Nat → Act → World → Prop) (k : Nat) (h₀ : I k a w) (round : ∀ k a w, I k a w → c.wp P (Exit.then (fun a' w' => ∃ k', k' < k ∧ I k' a' w') Q) a w) : (Code.loop c).wp P Q a w := wp_loop_ghost I k h₀ round
theorem co_thenX {K : Act → World → Prop} {i : Nat} (h : Q (.exit i) a w) : Exit.then K Q (.exit i) a w := h
theorem co_thenR {K : Act → World → Prop} (h : Q .ret a w) : Exit.then K Q .ret a w := h
theorem co_blockN {i : Nat} (h : Q .normal a w) : Exit.inBlock i Q .normal a w := h
theorem co_blockX {i : Nat} (h : Q .normal a w) : Exit.inBlock i Q (.exit i) a w := by simpa [Exit.inBlock] using h
theorem co_blockY {i j : Nat} (hne : i ≠ j) (h : Q (.exit i) a w) : Exit.inBlock j Q (.exit i) a w := by simpa [Exit.inBlock, hne] using h
theorem co_blockR {i : Nat} (h : Q .ret a w) : Exit.inBlock i Q .ret a w := h
/-- The call begins. -/
theorem q0 {K : Act → World → Prop} (h : K a w) : Code.skip.wp P (Exit.then K Q) a w := wp_skip h
theorem q1 {K : Act → World → Prop} (h : K a w) : wpList P ops (Exit.then K Q) [] a w := h
theorem q2 {id : Nat} {l : List Oper} {y : Code} (h : wpList P l.toArray (Exit.then (y.wp P Q) Q) l a w) : (Code.seq (Code.region id l.toArray false) y).wp P Q a w := co_seq (co_reg h)
theorem q9 {id : Nat} {l : List Oper} {y z : Code} (h : wpList P l.toArray (Exit.then (y.wp P (Exit.then (z.wp P Q) Q)) (Exit.then (z.wp P Q) Q)) l a w) : (Code.seq (Code.seq (Code.region id l.toArray false) y) z).wp P Q a w := co_seq (q2 h)
theorem q3 {Q' : Exit → Act → World → Prop} {id : Nat} {l : List Oper} {y : Code} (h : wpList P l.toArray (Exit.then (y.wp P Q) Q) l a w) : wpList P ops (Exit.then ((Code.seq (Code.region id l.toArray false) y).wp P Q) Q') [] a w := q1 (q2 h)
theorem q6 {Q' : Exit → Act → World → Prop} {id : Nat} {l : List Oper} {y z : Code} (h : wpList P l.toArray (Exit.then (y.wp P (Exit.then (z.wp P Q) Q)) (Exit.then (z.wp P Q) Q)) l a w) : wpList P ops (Exit.then ((Code.seq (Code.seq (Code.region id l.toArray false) y) z).wp P Q) Q') [] a w := q1 (q9 h)
theorem q7 {Q' : Exit → Act → World → Prop} {id : Nat} {l : List Oper} {y : Code} (h : wpList P l.toArray (Exit.then (y.wp P Q) Q) l a w) : Code.skip.wp P (Exit.then ((Code.seq (Code.region id l.toArray false) y).wp P Q) Q') a w := q0 (q2 h)
theorem q8 {Q' : Exit → Act → World → Prop} {id : Nat} {l : List Oper} {y z : Code} (h : wpList P l.toArray (Exit.then (y.wp P (Exit.then (z.wp P Q) Q)) (Exit.then (z.wp P Q) Q)) l a w) : Code.skip.wp P (Exit.then ((Code.seq (Code.seq (Code.region id l.toArray false) y) z).wp P Q) Q') a w := q0 (q9 h)
theorem q4 {Q' : Exit → Act → World → Prop} (h : Q .ret a w) : wpList P ops (Exit.then (Code.ret.wp P Q) Q') [] a w := q1 (wp_ret h)
theorem q5 {K : Act → World → Prop} {Q' : Exit → Act → World → Prop} (h : Q .ret a w) : wpList P ops (Exit.then (Code.ret.wp P (Exit.then K Q)) Q') [] a w := q4 h
theorem qr {K : Act → World → Prop} {i : Nat} (h : Q .ret a w) : Exit.inBlock i (Exit.then K Q) .ret a w := h
theorem qx {K : Act → World → Prop} {i : Nat} (h : K a w) : Exit.inBlock i (Exit.then K Q) (.exit i) a w := co_blockX h
theorem co_enter {f : FuncId} {fn : Func} {c : Code} {args : Array Value} {E : Ending → World → Prop} (hf : P.funcs[f]? = some fn) (hb : fn.body = some c) (hn : fn.ntmps = n) (hl : Nat.ble args.size n = true) (m : List (Nat × Value)) (hm : m = args.toList.zipIdx.map fun p => (p.2, p.1))
    (h : ∀ a, Slots n m a → c.wp P (bodyPost P fn E) a w) : Calls P f args w E := by
  have hl := Nat.le_of_ble_eq_true hl
  refine calls_of_wp hf hb (h _ ⟨by simp [hn]; omega, rfl, fun t v ht => ?_⟩)
  subst hm
  have hlk : ∀ (l : List Value) (k t : Nat) v, ((l.zipIdx k).map fun p => (p.2, p.1)).lookup t = some v → k ≤ t ∧ l[t - k]? = some v := by
    intro l
    induction l with
    | nil => intro k t v h; simp at h
    | cons x l ih =>
      intro k t v h
      rw [List.zipIdx_cons, List.map_cons, List.lookup_cons] at h
      by_cases e : t = k
      · subst e; simp at h; subst h; simp
      · have hb : (t == k) = false := by simpa using e
        rw [hb] at h
        obtain ⟨h1, h2⟩ := ih (k + 1) t v h
        refine ⟨by omega, ?_⟩
        rw [show t - k = (t - (k + 1)) + 1 by omega, List.getElem?_cons_succ]; exact h2
  obtain ⟨_, h2⟩ := hlk _ 0 t v ht
  simp only [Nat.sub_zero, Array.getElem?_toList] at h2
  rw [Array.getD_eq_getD_getElem?, Array.getElem?_append_left (Array.getElem?_eq_some_iff.1 h2).1, h2]; rfl
/-- The call ends. -/
theorem co_ret1 {fn : Func} {E : Ending → World → Prop} {t : Nat} {v : Value} (hs : Slots n m a) (hr : fn.results = #[.tmp t]) (ht : m.lookup t = some v) (h : E (.returned v) w) : bodyPost P fn E .ret a w := by
  have := hs.look t v ht
  exact bodyPost_ret (results_tmp hr a.tmps P w) hs.defers (by rw [this]; exact h)
theorem co_ret2 {fn : Func} {E : Ending → World → Prop} {t u : Nat} {v x : Value} (hs : Slots n m a) (hr : fn.results = #[.tmp t, .tmp u]) (ht : m.lookup t = some v) (hu : m.lookup u = some x) (h : E (.returned (.tuple #[v, x])) w) : bodyPost P fn E .ret a w := by
  have h1 := hs.look t v ht
  have h2 := hs.look u x hu
  exact bodyPost_ret (results_tmp2 hr a.tmps P w) hs.defers (by rw [h1, h2]; exact h)
theorem co_ret0n {fn : Func} {E : Ending → World → Prop} (hs : Slots n m a) (hr : fn.results = #[]) (h : E (.returned (.tuple #[])) w) : bodyPost P fn E .normal a w :=
  bodyPost_end (results_none hr a.tmps P w) hs.defers h
end
end Go.Proofs.YtifknllhmbkkcaaGreat

/- Steps of a walk over known slots: blocks of the call's own, rows that grow, slices that came in. Conditions: none. -/
namespace Go.Proofs.YtifknllhmbkkcaaGreat
open Go.RowKit

/-- Block N of world w holds just these cells, and may be written. -/
def Blk (w : World) (N : Nat) (T : TypeId) (cs : Array Value) : Prop := w.heap[N]? = some (.cells cs T (0, 0))
section
variable {P : Program} {n : Nat} {m : List (Nat × Value)} {w x : World} {o : Oper} {N : Nat} {T : TypeId} {cs : Array Value}
theorem Blk.lt (h : Blk w N T cs) : N < w.heap.size := (Array.getElem?_eq_some_iff.1 h).1
theorem Blk.cell (h : Blk w N T cs) {k : Nat} {v : Value} (hk : cs[k]? = some v) : w.cell? ⟨N, k, none⟩ = some v := by
  unfold World.cell?; rw [show w.heap[N]? = _ from h]; simpa using hk
theorem Blk.frozen (h : Blk w N T cs) (k : Nat) : w.frozen? ⟨N, k, none⟩ = false := by
  unfold World.frozen?; rw [show w.heap[N]? = _ from h]; simp
theorem Blk.range (h : Blk w N T cs) (k : Nat) (l : List Value) (hl : ∀ j v, l[j]? = some v → cs[k + j]? = some v) : w.rangeAt N k l := fun j v hv => h.cell (hl j v hv)
theorem Blk.all (h : Blk w N T cs) : w.rangeAt N 0 cs.toList := fun j v hv => h.cell (by simpa using hv)
theorem Blk.kept {row : Option Nat} (h : Blk w N T cs) (hg : w.grownBy x row) (hne : row ≠ some N) : Blk x N T cs := by
  unfold Blk at *; rw [hg.block N (Array.getElem?_eq_some_iff.1 h).1 (fun e => hne e.symm)]; exact h
theorem Blk.below (h : Blk w N T cs) (hb : Below w.heap.size w x) : Blk x N T cs := by
  unfold Blk at *; rw [hb.block N (Array.getElem?_eq_some_iff.1 h).1]; exact h
theorem grown_below (hg : w.grownBy x none) : Below w.heap.size w x := ⟨hg.os, hg.tape, hg.output, hg.size, fun k hk => hg.block k hk (by simp)⟩
theorem below_grown (hb : Below w.heap.size w x) : w.grownBy x none := ⟨hb.os, hb.tape, hb.output, hb.size, fun k hk _ => hb.block k hk⟩
theorem hb_new {w0 : World} (h : Below w0.heap.size w0 w) (hg : w.grownBy x none) : Below w0.heap.size w0 x := h.grown hg h.size (fun _ e => by cases e)
theorem hb_at {w0 : World} (h : Below w0.heap.size w0 w) (hg : w.grownBy x (some N)) (hN : w0.heap.size ≤ N) : Below w0.heap.size w0 x := h.grown hg h.size (fun k e => by cases e; exact hN)
theorem hb_call {w0 : World} (h : Below w0.heap.size w0 w) (hb : Below w.heap.size w x) : Below w0.heap.size w0 x := h.trans (hb.mono h.size)
theorem row_kept_new {B : Nat} {e : TypeId} {sz k : Nat} {v : Value} {xs : List Value} (h : w.ownsRow B e sz v k xs) (hg : w.grownBy x none) : x.ownsRow B e sz v k xs :=
  h.kept hg (by cases v.ownBlock <;> simp)
theorem row_kept_at {B : Nat} {e : TypeId} {sz k : Nat} {v : Value} {xs : List Value} (h : w.ownsRow B e sz v k xs) (hg : w.grownBy x (some N)) (hne : v.ownBlock ≠ some N) : x.ownsRow B e sz v k xs := h.kept hg (.inr hne)
theorem blk_part (h : Blk w N T cs) (k : Nat) {l : List Value} (hl : (cs.toList.drop k).take l.length = l) : w.rangeAt N k l := fun j v hv => by
  refine h.cell ?_
  have hj := (List.getElem?_eq_some_iff.1 hv).1
  rw [← hl, List.getElem?_take, if_pos hj, List.getElem?_drop] at hv
  simpa using hv
/-- A variable, a struct, an array that is made. -/
theorem op_new {v : Nat → Value} (hok : okOps m o.op = true) (hsel : (match o.op with | .select .. => true | _ => false) = false) (hrun : (execOp (lk m) o).run P w = .ok (.value (v w.heap.size)) (w.alloc (.cells cs T))) :
    Op1 P n m o w (fun u x => ∃ N, u = v N ∧ N = w.heap.size ∧ x.heap.size = N + 1 ∧ Blk x N T cs ∧ w.grownBy x none) :=
  (op_run hok hsel hrun).mono fun u x ⟨h1, h2⟩ => by
    subst h2
    exact ⟨w.heap.size, h1, rfl, by simp, heap_alloc_new w _, World.grownBy_alloc w _ none⟩
theorem setCell_blk (h : Blk w N T cs) (k : Nat) (v : Value) : Blk (w.setCell ⟨N, k, none⟩ v) N T (cs.setIfInBounds k v) := by
  have hlt := (Array.getElem?_eq_some_iff.1 h).1
  have hx := (Array.getElem?_eq_some_iff.1 h).2
  unfold Blk World.setCell
  simp only [Array.getElem?_modify, if_true]
  rw [show w.heap[N]? = _ from h]
  simp
theorem grown_setCell (w : World) (N k : Nat) (v : Value) : w.grownBy (w.setCell ⟨N, k, none⟩ v) (some N) := ⟨rfl, rfl, rfl, by simp [World.setCell], fun j _ hj => Below.heap_setCell w _ v j (fun e => hj (by rw [e]))⟩
/-- A store of one cell into a block of the call's own. -/
theorem op_store1 {t : TypeId} {p q : Operand} {k : Nat} {v : Value} (ho : o.op = .store t p q) (hp : ev m p = some (.pointer (some ⟨N, k, none⟩))) (hq : ev m q = some v) (h1 : v.oneCell' = true) (hs : ∀ w : World, (sizeOf t).run P w = .ok 1 w)
    (hb : Blk w N T cs) (hk : Nat.blt k cs.size = true) : Op1 P n m o w (fun _ x => Blk x N T (cs.setIfInBounds k v) ∧ x.heap.size = w.heap.size ∧ w.grownBy x (some N)) := by
  intro a ha K Q hN
  have hk' : k < cs.size := by simpa using hk
  have hc : w.cell? ⟨N, k, none⟩ = some cs[k] := hb.cell (by simp [hk'])
  have hcell : v.cells = #[v] := by cases v <;> simp_all [Value.cells, Value.oneCell']
  have hrun : (Instr.storeAt t (.pointer (some ⟨N, k, none⟩)) v).run P w = .ok () (w.setCell ⟨N, k, none⟩ v) := by
    have h2 := run_storeCells_cells (P := P) N k [v] 0 w (fun j hj => by simp at hj; subst hj; simp [hc]) (fun j hj => by simpa using hb.frozen _) (by simpa using h1)
    simp only [Nat.add_zero] at h2
    simp [Instr.storeAt, Instr.sureAddr, storeVar, hcell, hs, Sem.run_bind, h2, World.setCells]
  unfold Oper.wp execOp
  simp only [ho, ha.ev hp, ha.ev hq, Sem.run_bind, hrun, Result.andThen_ok, Sem.run_pure]
  exact hN _ _ ⟨setCell_blk hb k v, by simp [World.setCell], grown_setCell w N k v⟩
theorem setCells_blk : ∀ (vs : List Value) (w : World) (cs : Array Value) (k : Nat), Blk w N T cs → k + vs.length ≤ cs.size → Blk (w.setCells N k vs) N T (cs.toList.take k ++ vs ++ cs.toList.drop (k + vs.length)).toArray
  | [], w, cs, k, h, _ => by simpa [World.setCells] using h
  | v :: r, w, cs, k, h, hl => by
    simp only [List.length_cons] at hl
    have := setCells_blk r (w.setCell ⟨N, k, none⟩ v) (cs.setIfInBounds k v) (k + 1) (setCell_blk h k v) (by simp; omega)
    rw [World.setCells]
    have e : ((cs.setIfInBounds k v).toList.take (k + 1) ++ r ++ (cs.setIfInBounds k v).toList.drop (k + 1 + r.length)) = cs.toList.take k ++ (v :: r) ++ cs.toList.drop (k + (r.length + 1)) := by
      simp only [Array.toList_setIfInBounds]
      rw [List.take_set, List.drop_set_of_lt (by omega), show k + 1 + r.length = k + (r.length + 1) by omega]
      have : (List.take (k + 1) cs.toList).set k v = cs.toList.take k ++ [v] := by
        rw [List.take_succ_eq_append_getElem (by simp; omega)]
        have hl : (List.take k cs.toList).length = k := by simp; omega
        rw [List.set_append, hl, if_neg (by omega)]
        simp
      rw [this]; simp
    rw [List.length_cons, ← e]; exact this
/-- A store of a whole value into a block of the call's own. -/
theorem op_storeN {t : TypeId} {p q : Operand} {cells : Array Value} (ho : o.op = .store t p q) (hp : ev m p = some (.pointer (some ⟨N, 0, none⟩))) (hq : ev m q = some (.agg cells)) (h1 : cells.all (·.oneCell') = true) (hi : (P.info? t).map (·.size) = some cells.size)
    (hb : Blk w N T cs) (hk : cs.size = cells.size) : Op1 P n m o w (fun _ x => Blk x N T cells ∧ x.heap.size = w.heap.size ∧ w.grownBy x (some N)) := by
  intro a ha K Q hN
  have hthere : w.there N 0 cells.size := fun j hj => ⟨by rw [hb.cell (k := 0 + j) (v := cs[j]) (by simp [hk, hj])]; rfl, hb.frozen _⟩
  refine wp_store_mid t p q ho N 0 cells (ha.ev hp) (ha.ev hq) hthere hi h1 (hN _ _ ⟨?_, ?_, ?_⟩)
  · have := setCells_blk cells.toList w cs 0 hb (by simp [hk])
    have e : (cells.toList ++ List.drop cells.size cs.toList).toArray = cells := by rw [List.drop_eq_nil_of_le (by simp [hk])]; simp
    simp only [List.take_zero, List.nil_append, Nat.zero_add, Array.length_toList, e] at this
    exact this
  · have hsz : ∀ (vs : List Value) (k : Nat) (w : World), (w.setCells N k vs).heap.size = w.heap.size := by
      intro vs
      induction vs with
      | nil => intro k w; rfl
      | cons v r ih => intro k w; rw [World.setCells, ih]; simp [World.setCell]
    exact hsz _ _ _
  · have hg : ∀ (vs : List Value) (k : Nat) (w : World), w.grownBy (w.setCells N k vs) (some N) := by
      intro vs
      induction vs with
      | nil => intro k w; exact World.grownBy.refl _ _
      | cons v r ih => intro k w; rw [World.setCells]; exact (grown_setCell w N k v).trans (ih _ _)
    exact hg _ _ _
/-- 'append(v, news..)', v a row of the call's own. -/
theorem op_append {s q : Operand} {t : TypeId} (ho : o.op = .call { callee := .builtin .append, args := #[s, q], argTypes := #[t, t] })
    (base : Nat) (e : TypeId) {z : Value} {size bytes : Nat} (ht : P.underlying t = some (.slice e)) (hi : (P.info? e).map (fun i => (i.zero, i.size, i.bytes)) = some (some z, size, bytes))
    (hzs : z.cells.size = size) (hsz : Nat.blt 0 size = true) {v : Value} {k : Nat} {xs : List Value} (hs : ev m s = some v) (hown : w.ownsRow base e size v k xs)
    {M q' c : Nat} {ws : Array Value} {T' : TypeId} (hx : ev m q = some (.slice (some ⟨M, 0, none⟩) q' c)) (hb : Blk w M T' ws) (hl : ws.size = q' * size) (h1 : ws.all (·.oneCell') = true)
    (h63 : k + q' ≤ 9223372036854775807) (hbytes : (k + q') * bytes ≤ 140737488355328) (hbase : base ≤ w.heap.size) :
    Op1 P n m o w (fun u x => x.ownsRow base e size u (k + q') (xs ++ ws.toList) ∧ w.grownBy x v.ownBlock) := by
  intro a ha K Q hN
  obtain ⟨i0, hii, hz0, hz1, hz2⟩ := info_parts hi
  refine wp_append_own w s q t ho base e i0 z size bytes ht hii hz0 hz1 hz2 hzs (by simpa using hsz) v k xs (ha.ev hs) hown ⟨M, 0, none⟩ q' c ws.toList (ha.ev hx) (by simpa using hl) ?_ ?_ (by unfold maxLen; exact h63) hbytes hbase (fun v' w' h2 h3 _ => hN _ _ ⟨h2, h3⟩)
  · intro j u hu
    rw [Addr.add_lit, Nat.zero_add]
    exact hb.cell (by simpa using hu)
  · intro u hu
    exact (Array.all_eq_true_iff_forall_mem.1 h1) u (by simpa using hu)

/-! ### A region that draws its order begins -/
section
variable {Q : Exit → Act → World → Prop} {a : Act}
theorem drew_grown (w : World) : w.grownBy w.drew none := ⟨rfl, rfl, rfl, Nat.le_refl _, fun _ _ _ => rfl⟩
theorem dr_eq {id : Nat} {l : List Oper} (hm : P.follows .mixedOrders = true) (h : ∀ wd, w.grownBy wd none → wpAnyH P .any l.toArray (NP Q) (fun x => x = wd) l.length (Array.replicate l.length false) a wd) : (Code.region id l.toArray true).wp P Q a w :=
  dr_start (S := fun x => x = w.drew) hm rfl (h _ (drew_grown w))
theorem dr_gen {id : Nat} {l : List Oper} (S : World → Prop) (hm : P.follows .mixedOrders = true) (hS : ∀ wd, w.grownBy wd none → S wd) (h : ∀ wd, w.grownBy wd none → wpAnyH P .any l.toArray (NP Q) S l.length (Array.replicate l.length false) a wd) : (Code.region id l.toArray true).wp P Q a w :=
  dr_start hm (hS _ (drew_grown w)) (h _ (drew_grown w))
end

/-! ### Slices that came in: the value is whatever it is, its place is told by two functions -/
def blkOf : Value → Nat
  | .slice (some a) _ _ => a.block
  | _ => 0
def offOf : Value → Nat
  | .slice (some a) _ _ => a.off
  | _ => 0
variable {α : Type} {enc : α → List Value} {sz : Nat} {v : Value} {l : List α}
theorem sl_len (h : SliceOf enc sz w v l) : l.length ≤ 9223372036854775807 := by obtain ⟨_, _, _, h1, h2, _⟩ := h; omega
theorem sl_at (h : SliceOf enc sz w v l) {i : Nat} {y : α} (hy : l[i]? = some y) : w.rangeAt (blkOf v) (offOf v + i * sz) (enc y) := by
  obtain ⟨ao, cap, rfl, _, _, _, hc⟩ := h
  obtain ⟨hi, e⟩ := List.getElem?_eq_some_iff.1 hy
  obtain ⟨b, off, rfl, hr⟩ := hc i hi
  rw [← e]; exact hr
/-- 'len(v)' -/
theorem rn_len {t : TypeId} {q : Operand} (ho : o.op = .call { callee := .builtin .len, args := #[q], argTypes := #[t] }) (hq : ev m q = some v) {e : TypeId} (ht : P.underlying t = some (.slice e)) (h : SliceOf enc sz w v l) : (execOp (lk m) o).run P w = .ok (.value (.int .i64 (l.length : Nat))) w := by
  obtain ⟨ao, cap, rfl, _, _, _, hc⟩ := h
  unfold execOp
  simp [ho, resolve, invoke, builtin, Sem.run_bind, lk_ev hq, Builtin.len_, goInt, run_underlying ht]
theorem rn_lenOwn {t : TypeId} {q : Operand} {base : Nat} {e : TypeId} {k : Nat} {xs : List Value} (ho : o.op = .call { callee := .builtin .len, args := #[q], argTypes := #[t] }) (hq : ev m q = some v) {e' : TypeId} (ht : P.underlying t = some (.slice e')) (h : w.ownsRow base e sz v k xs) : (execOp (lk m) o).run P w = .ok (.value (.int .i64 (k : Nat))) w := by
  rcases h.2 with ⟨rfl, rfl⟩ | ⟨g, cap, cur, rfl, _⟩
  · unfold execOp
    simp [ho, resolve, invoke, builtin, Sem.run_bind, lk_ev hq, Builtin.len_, goInt, run_underlying ht]
  · unfold execOp
    simp [ho, resolve, invoke, builtin, Sem.run_bind, lk_ev hq, Builtin.len_, goInt, run_underlying ht]
theorem rn_lenStr {t : TypeId} {q : Operand} {s : ByteArray} (ho : o.op = .call { callee := .builtin .len, args := #[q], argTypes := #[t] }) (hq : ev m q = some (.string s)) (ht : P.underlying t = some .string) : (execOp (lk m) o).run P w = .ok (.value (.int .i64 (s.size : Nat))) w := by
  unfold execOp
  simp [ho, resolve, invoke, builtin, Sem.run_bind, lk_ev hq, Builtin.len_, goInt, run_underlying ht]
/-- 'v[i]' as an address -/
theorem rn_index {t e : TypeId} {q r : Operand} {k : IntKind} {i : Int} {j : Nat} (ho : o.op = .indexAddr t q r) (hq : ev m q = some v) (hr : ev m r = some (.int k i)) (ht : P.underlying t = some (.slice e)) (hs : ∀ w : World, (sizeOf e).run P w = .ok sz w)
    (h : SliceOf enc sz w v l) (hij : i = (j : Nat)) (hj : j < l.length) : (execOp (lk m) o).run P w = .ok (.value (.pointer (some ⟨blkOf v, offOf v + j * sz, none⟩))) w := by
  subst hij
  obtain ⟨ao, cap, rfl, _, _, _, hc⟩ := h
  obtain ⟨b, off, rfl, _⟩ := hc j hj
  have hrun : (Instr.indexAt t (.slice (some ⟨b, off, none⟩) l.length cap) (.int k j)).run P w = .ok (.pointer (some ⟨b, off + j * sz, none⟩)) w := by
    have h0 : (0 : Int) ≤ (j : Nat) ∧ ((j : Nat) : Int) < (l.length : Nat) := by omega
    simp [Instr.indexAt, asIntOf, run_underlying ht, Sem.run_bind, h0, hs, hj, Addr.add_lit]
  unfold execOp
  simp only [ho, lk_ev hq, lk_ev hr, Sem.run_bind, hrun, Result.andThen_ok, Sem.run_pure]
  rfl
/-- A slice of another type, or nil, that is read as nothing. -/
theorem sl_nil (w : World) : SliceOf enc sz w (.slice none 0 0) ([] : List α) := SliceOf.nil _ _ _
end
end Go.Proofs.YtifknllhmbkkcaaGreat

/- Steps of a walk over known slots: slices cut, appended from, rows as lists, closures, structs compared. Conditions: none. -/
namespace Go.Proofs.YtifknllhmbkkcaaGreat
open Go.RowKit

section
variable {P : Program} {n : Nat} {m : List (Nat × Value)} {w x : World} {o : Oper} {N : Nat} {T : TypeId} {cs : Array Value} {α : Type} {enc : α → List Value} {sz : Nat} {v : Value} {l : List α}

theorem row_nilL (w : World) (base : Nat) (T : TypeId) (sz : Nat) (enc : α → List Value) : w.ownsRow base T sz (.slice none 0 0) ([] : List α).length (([] : List α).flatMap enc) := World.ownsRow_nil _ _ _ _
theorem row_push {base : Nat} {u : Value} {y : α} {k : Nat} {xs : List Value} (h : w.ownsRow base T sz u (l.length + k) (l.flatMap enc ++ xs)) (hk : k = 1) (he : enc y = xs) : w.ownsRow base T sz u (l ++ [y]).length ((l ++ [y]).flatMap enc) := by
  subst hk he; simpa using h
theorem row_lows {base base' : Nat} {u : Value} {k : Nat} {xs : List Value} (h : w.ownsRow base T sz u k xs) (hb : base' ≤ base) : w.ownsRow base' T sz u k xs := by
  refine ⟨h.1, ?_⟩
  rcases h.2 with h2 | ⟨g, c, r, e, hg, h3⟩
  · exact .inl h2
  · exact .inr ⟨g, c, r, e, by omega, h3⟩
theorem row_sl {base : Nat} (h : w.ownsRow base T sz v l.length (l.flatMap enc)) (hsz : ∀ y : α, (enc y).length = sz) : SliceOf enc sz w v l := SliceOf.own h (fun y _ => hsz y)
theorem row_fresh {base : Nat} {k : Nat} {xs : List Value} (h : w.ownsRow base T sz v k xs) (hN : N = w.heap.size) : v.ownBlock ≠ some N := fun e => by have := (h.lt N e).2; omega
/-- A call of a function value that has captured variables. -/
theorem op_callV {c : Call} {q : Operand} {f : FuncId} {args caps : Array Value} {E : Ending → World → Prop} {R : Value → World → Prop} (ho : o.op = .call c) (hc : c.callee = .value q) (hf : ev m q = some (.func (.func f) #[] caps))
    (hok : okOps m o.op = true) (hargs : c.args.map (lk m) ++ caps = args) (hcall : (callFunc f args).run P w = .ok (.enter f args) w) (h : Calls P f args w E) (hE : ∀ e w', E e w' → ∃ v, e = .returned v ∧ R v w') : Op1 P n m o w R := by
  intro a ha K Q hN
  have he : execOp a.eval o = execOp (lk m) o := execOp_congr o (fun cs b e => by simp [e] at ho) (fun x hx => ha.lk (Array.all_eq_true_iff_forall_mem.1 hok x hx))
  unfold Oper.wp
  rw [he]
  have hfx : lk m q = .func (.func f) #[] caps := by simp [lk, hf]
  have : (execOp (lk m) o).run P w = .ok (.enter f args) w := by
    simp only [execOp, ho, resolve, hc, hfx, Deferred.ofValue, Sem.run_bind, Sem.run_pure, Result.andThen_ok, invoke]
    simp only [Array.empty_append, hargs]
    exact hcall
  rw [this, Oper.upon_enter]
  refine h.mono fun e w' he => ?_
  obtain ⟨v, rfl, hv⟩ := hE e w' he
  exact hN v w' hv
/-- A struct and a slot as results. -/
theorem co_retC1 {Q : Exit → Act → World → Prop} {a : Act} {fn : Func} {E : Ending → World → Prop} {t u : Nat} {T' : TypeId} {y : Value} {d : TypeDesc} (hs : Slots n m a) (hr : fn.results = #[.cell t T', .tmp u]) (ht : m.lookup t = some (.pointer (some ⟨N, 0, none⟩))) (hu : m.lookup u = some y) (hb : Blk w N T cs)
    (hd : P.underlying T' = some d) (hrow : d.isRow = true) (hi : (P.info? T').map (·.size) = some cs.size) (h : E (.returned (.tuple #[.agg cs, y])) w) : bodyPost P fn E .ret a w := by
  have h1 := hs.look t _ ht
  have h2 := hs.look u _ hu
  have hl := run_loadVar_mid w N 0 T' cs.toList d hb.all hd hrow (by simpa using hi)
  have hrun : (results fn a.tmps).run P w = .ok (.tuple #[.agg cs, y]) w := by
    have h1' : (a.tmps[t]?).getD undef = .pointer (some ⟨N, 0, none⟩) := by rw [← h1, Array.getD_eq_getD_getElem?]
    have h2' : (a.tmps[u]?).getD undef = y := by rw [← h2, Array.getD_eq_getD_getElem?]
    simp [results, hr, h1', h2', asAddr, hl, Sem.run_bind]
  exact bodyPost_ret hrun hs.defers h
/-- A struct as the result. -/
theorem co_retC {Q : Exit → Act → World → Prop} {a : Act} {fn : Func} {E : Ending → World → Prop} {t : Nat} {T' : TypeId} {d : TypeDesc} (hs : Slots n m a) (hr : fn.results = #[.cell t T']) (ht : m.lookup t = some (.pointer (some ⟨N, 0, none⟩))) (hb : Blk w N T cs)
    (hd : P.underlying T' = some d) (hrow : d.isRow = true) (hi : (P.info? T').map (·.size) = some cs.size) (h : E (.returned (.agg cs)) w) : bodyPost P fn E .ret a w := by
  have h1 := hs.look t _ ht
  have hl := run_loadVar_mid w N 0 T' cs.toList d hb.all hd hrow (by simpa using hi)
  have hrun : (results fn a.tmps).run P w = .ok (.agg cs) w := by
    have h1' : (a.tmps[t]?).getD undef = .pointer (some ⟨N, 0, none⟩) := by rw [← h1, Array.getD_eq_getD_getElem?]
    simp [results, hr, h1', asAddr, hl, Sem.run_bind]
  exact bodyPost_ret hrun hs.defers h
end
end Go.Proofs.YtifknllhmbkkcaaGreat

/- Drawn regions in which several operations may come up: each way for itself. Conditions: none. -/
namespace Go.Proofs.YtifknllhmbkkcaaGreat
open Go.RowKit

section
variable {P : Program} {n : Nat} {m : List (Nat × Value)} {w : World} {o : Oper} {ops : Array Oper} {Q : Exit → Act → World → Prop} {R : Value → World → Prop} {md : Region.Mode} {S : World → Prop} {fuel i d : Nat} {listed : Array Bool} {a : Act}
def AllW (P : Program) (md : Region.Mode) (ops : Array Oper) (Q : Exit → Act → World → Prop) (S : World → Prop) (fuel : Nat) (listed : Array Bool) (a : Act) (w : World) : List Nat → Prop
  | [] => True
  | i :: r => wpOp P ops (NP Q) i (fun a' w' => S w' ∧ wpAnyH P md ops (NP Q) S fuel (listed.setIfInBounds i true) a' w') a w ∧ AllW P md ops Q S fuel listed a w r
theorem AllW.all : ∀ (rs : List Nat), AllW P md ops Q S fuel listed a w rs → ∀ i ∈ rs, wpOp P ops (NP Q) i (fun a' w' => S w' ∧ wpAnyH P md ops (NP Q) S fuel (listed.setIfInBounds i true) a' w') a w
  | [], _, _, h => by cases h
  | i :: r, h, j, hj => by
    rcases List.mem_cons.1 hj with rfl | hj
    · exact h.1
    · exact AllW.all r h.2 j hj
end
theorem row_one {w : World} {B sz k : Nat} {T : TypeId} {v : Value} {xs : List Value} (h : w.ownsRow B T sz v k xs) : v.oneCell' = true := by
  rcases h.2 with ⟨rfl, _⟩ | ⟨g, cap, cur, rfl, _⟩ <;> rfl
theorem sl_one {α : Type} {enc : α → List Value} {sz : Nat} {w : World} {v : Value} {l : List α} (h : SliceOf enc sz w v l) : v.oneCell' = true := by
  obtain ⟨ao, cap, rfl, _⟩ := h; rfl
theorem all_nil : ([] : List Value).toArray.all (·.oneCell') = true := by simp
theorem all_cons {u : Value} {l : List Value} (h : u.oneCell' = true) (hl : l.toArray.all (·.oneCell') = true) : (u :: l).toArray.all (·.oneCell') = true := by
  simp only [List.all_toArray, List.all_cons, Bool.and_eq_true] at hl ⊢
  exact ⟨h, hl⟩
/-- A block of known cells, as a row of its own. -/
theorem row_of_cells {α : Type} {enc : α → List Value} {sz base N : Nat} {w : World} {T : TypeId} {cs : Array Value} (l : List α) (h : Blk w N T cs) (hb : base ≤ N) (hl : cs.toList = l.flatMap enc) (hs : cs.size = l.length * sz) (hm : l.length ≤ maxLen) :
    w.ownsRow base T sz (.slice (some ⟨N, 0, none⟩) l.length l.length) l.length (l.flatMap enc) := by
  have hcs : cs.toList.length = l.length * sz := by simpa using hs
  refine ⟨by rw [← hl, hcs], .inr ⟨N, l.length, cs, rfl, hb, h, Nat.le_refl _, hm, hs, ?_⟩⟩
  rw [← hl, List.take_of_length_le (by omega)]
/-- A pointer. -/
abbrev pt (b o : Nat) : Value := .pointer (some ⟨b, o, none⟩)
/-! ### Short forms: what follows by computing alone stands behind. -/
section
variable {P : Program} {n : Nat} {m : List (Nat × Value)} {w : World} {o : Oper} {ops : Array Oper} {rest : List Oper} {Q : Exit → Act → World → Prop} {R : Value → World → Prop} {md : Region.Mode} {S : World → Prop} {fuel d : Nat} {listed : Array Bool} {a : Act} {v : Value}
theorem pk (hs : Slots n m a) (hd : o.dst = some d) (hrun : (execOp (lk m) o).run P w = .ok (.value v) w) (h : ∀ a', Slots n ((d, v) :: m) a' → wpList P ops Q rest a' w)
    (hg : wantB m ops o = some true := by rfl) (hdn : Nat.blt d n = true := by rfl) (hok : okOps m o.op = true := by kernel_rfl) (hsel : (match o.op with | .select .. => true | _ => false) = false := by kernel_rfl) : wpList P ops Q (o :: rest) a w := pl_val hs hg hd hdn hok hsel hrun h
theorem pk0 (hs : Slots n m a) (hd : o.dst = some d) (h : ∀ a', Slots n ((d, v) :: m) a' → wpList P ops Q rest a' w)
    (hg : wantB m ops o = some true := by rfl) (hdn : Nat.blt d n = true := by rfl) (hok : okOps m o.op = true := by kernel_rfl) (hsel : (match o.op with | .select .. => true | _ => false) = false := by kernel_rfl) (hrun : (execOp (lk m) o).run P w = .ok (.value v) w := by kernel_rfl) : wpList P ops Q (o :: rest) a w := pl_val hs hg hd hdn hok hsel hrun h
theorem pw (hs : Slots n m a) (hd : o.dst = some d) (h1 : Op1 P n m o w R) (h : ∀ v w' a', R v w' → Slots n ((d, v) :: m) a' → wpList P ops Q rest a' w') (hg : wantB m ops o = some true := by rfl) (hdn : Nat.blt d n = true := by rfl) : wpList P ops Q (o :: rest) a w := pl_want hs hg hd hdn h1 h
theorem pwD (hs : Slots n m a) (hd : o.dst = none) (h1 : Op1 P n m o w R) (h : ∀ v w' a', R v w' → Slots n m a' → wpList P ops Q rest a' w') (hg : wantB m ops o = some true := by rfl) : wpList P ops Q (o :: rest) a w := pl_doW hs hg hd h1 h
theorem psk (hs : Slots n m a) (hd : o.dst = some d) (h : ∀ a', Slots n ((d, undef) :: m) a' → wpList P ops Q rest a' w) (hg : wantB m ops o = some false := by rfl) (hdn : Nat.blt d n = true := by rfl) : wpList P ops Q (o :: rest) a w := pl_skip hs hg hd hdn h
theorem dk (i : Nat) (hs : Slots n m a) (ho : ops[i]? = some o) (hd : o.dst = some d) (hS : S w) (hrun : ∀ w, S w → (execOp (lk m) o).run P w = .ok (.value v) w) (h : ∀ a', Slots n ((d, v) :: m) a' → wpAnyH P md ops (NP Q) S fuel (listed.setIfInBounds i true) a' w)
    (hsel : Region.noSelect ops = true := by kernel_rfl) (hf : Region.free md ops listed i = true := by kernel_rfl) (hr : (Region.ready md ops listed).contains i = true := by kernel_rfl) (hw : wantB m ops o = some true := by rfl) (hdn : Nat.blt d n = true := by rfl) (hok : okOps m o.op = true := by kernel_rfl) : wpAnyH P md ops (NP Q) S (fuel + 1) listed a w := dr_take hs ho hsel hf hr hw hd hdn hS hok hrun h
theorem dk0 (i : Nat) (hs : Slots n m a) (ho : ops[i]? = some o) (hd : o.dst = some d) (hS : S w) (h : ∀ a', Slots n ((d, v) :: m) a' → wpAnyH P md ops (NP Q) S fuel (listed.setIfInBounds i true) a' w)
    (hsel : Region.noSelect ops = true := by kernel_rfl) (hf : Region.free md ops listed i = true := by kernel_rfl) (hr : (Region.ready md ops listed).contains i = true := by kernel_rfl) (hw : wantB m ops o = some true := by rfl) (hdn : Nat.blt d n = true := by rfl) (hok : okOps m o.op = true := by kernel_rfl) (hrun : ∀ w, S w → (execOp (lk m) o).run P w = .ok (.value v) w := by intro _ _; kernel_rfl) : wpAnyH P md ops (NP Q) S (fuel + 1) listed a w := dr_take hs ho hsel hf hr hw hd hdn hS hok hrun h
theorem dsk (i : Nat) (hs : Slots n m a) (ho : ops[i]? = some o) (hd : o.dst = some d) (hS : S w) (h : ∀ a', Slots n ((d, undef) :: m) a' → wpAnyH P md ops (NP Q) S fuel (listed.setIfInBounds i true) a' w)
    (hsel : Region.noSelect ops = true := by kernel_rfl) (hf : Region.free md ops listed i = true := by kernel_rfl) (hr : (Region.ready md ops listed).contains i = true := by kernel_rfl) (hw : wantB m ops o = some false := by rfl) (hdn : Nat.blt d n = true := by rfl) : wpAnyH P md ops (NP Q) S (fuel + 1) listed a w := dr_skip hs ho hsel hf hr hw hd hdn hS h
theorem d1 (i : Nat) (hs : Slots n m a) (ho : ops[i]? = some o) (hd : o.dst = some d) (h1 : Op1 P n m o w R) (hS : ∀ v w', R v w' → S w') (h : ∀ v w' a', R v w' → Slots n ((d, v) :: m) a' → wpAnyH P md ops (NP Q) S fuel (listed.setIfInBounds i true) a' w')
    (hr : Region.ready md ops listed = [i] := by kernel_rfl) (hw : wantB m ops o = some true := by rfl) (hdn : Nat.blt d n = true := by rfl) : wpAnyH P md ops (NP Q) S (fuel + 1) listed a w := dr_one hs ho hr hw hd hdn h1 hS h
theorem d1D (i : Nat) (hs : Slots n m a) (ho : ops[i]? = some o) (hd : o.dst = none) (h1 : Op1 P n m o w R) (hS : ∀ v w', R v w' → S w') (h : ∀ v w' a', R v w' → Slots n m a' → wpAnyH P md ops (NP Q) S fuel (listed.setIfInBounds i true) a' w')
    (hr : Region.ready md ops listed = [i] := by kernel_rfl) (hw : wantB m ops o = some true := by rfl) : wpAnyH P md ops (NP Q) S (fuel + 1) listed a w := dr_oneDo hs ho hr hw hd h1 hS h
end
end Go.Proofs.YtifknllhmbkkcaaGreat

/- Writers and readers that a walk has made: what they hold, what a call on them turns. Conditions: none. -/
namespace Go.Proofs.YtifknllhmbkkcaaGreat
open Go.RowKit Go.PlainAid
set_option linter.unusedVariables false

section
variable {w x w0 : World} {b N : Nat} {l l' : List UInt8} {m m' : Nat} {e : Int}
theorem grown_but {row : Option Nat} (h : w.grownBy x row) : But (fun k => row = some k) w x := ⟨h.os, h.tape, h.output, h.size, fun k hk hn => h.block k hk (fun e => hn e.symm)⟩
theorem Wr.lt' {B : Nat} (h : Wr w b B l e) : b < w.heap.size := World.block_lt_of_cell? w _ h.made
theorem Wr.keep {S : Nat → Prop} {B : Nat} (h : Wr w b B l e) (hb : But S w x) (hs : ¬ S b) (hr : ∀ k, rowOf w b = some k → ¬ S k) : Wr x b B l e := by
  have hl := h.lt'
  obtain ⟨v, hc, h1, h2⟩ := h.buf
  have hr' : ∀ k, v.ownBlock = some k → ¬ S k := fun k hk => hr k (by rw [rowOf_cell hc]; exact hk)
  refine ⟨hb.cell hs h.made, hb.cell hs h.err, by rw [hb.frozen hl hs]; exact h.fr1, by rw [hb.frozen hl hs]; exact h.fr2, h.lt, Nat.le_trans h.le hb.size, v, hb.cell hs hc, h1, ?_⟩
  rcases h2 with h2 | ⟨g, cap, cur, hv, hg, hh, r⟩
  · exact Or.inl h2
  · exact Or.inr ⟨g, cap, cur, hv, hg, by rw [hb.block g (Array.getElem?_eq_some_iff.1 hh).1 (hr' g (by rw [hv]; rfl))]; exact hh, r⟩
theorem Wr.row_is {B : Nat} (h : Wr w b B l e) {k : Nat} (hk : rowOf w b = some k) : ∃ cs, w.heap[k]? = some (.cells cs 5 (0, 0)) := by
  obtain ⟨v, hc, h1, h2⟩ := h.buf
  rw [rowOf_cell hc] at hk
  rcases h2 with ⟨hv, _⟩ | ⟨g, cap, cur, hv, hg, hh, r⟩
  · rw [hv] at hk; cases hk
  · rw [hv] at hk
    have : g = k := by simpa [Value.ownBlock] using hk
    subst this; exact ⟨cur, hh⟩
theorem Wr.ne_blk {B : Nat} {T : TypeId} {cs : Array Value} (h : Wr w b B l e) (hk : Blk w N T cs) (hT : T ≠ 5) : rowOf w b ≠ some N := fun e1 => by
  obtain ⟨c, h1⟩ := h.row_is e1
  unfold Blk at hk
  rw [hk] at h1
  injection h1 with h1; injection h1 with h2 h3
  exact hT h3
theorem Wr.ne_row {B B' k sz : Nat} {T : TypeId} {v : Value} {xs : List Value} (h : Wr w b B l e) (hr : w.ownsRow B' T sz v k xs) (hT : T ≠ 5) : ∀ g, v.ownBlock = some g → rowOf w b ≠ some g := fun g hg e1 => by
  obtain ⟨c, h1⟩ := h.row_is e1
  rcases hr.2 with ⟨hv, _⟩ | ⟨g', cap, cur, hv, _, hh, _⟩
  · rw [hv] at hg; cases hg
  · rw [hv] at hg
    have : g' = g := by simpa [Value.ownBlock] using hg
    subst this
    rw [hh] at h1
    injection h1 with h1; injection h1 with h2 h3
    exact hT h3
/-- The program's writer, block b: l, of at most m bytes, and no error. -/
structure OW (b : Nat) (l : List UInt8) (m : Nat) (w : World) : Prop where
  wr : Wr w b (b + 1) l 0
  len : l.length ≤ m
theorem OW.lt (h : OW b l m w) : b < w.heap.size := h.wr.lt'
theorem OW.below (h : OW b l m w) (hb : Below w.heap.size w x) : OW b l m x := ⟨h.wr.below hb, h.len⟩
theorem OW.new (h : OW b l m w) (hg : w.grownBy x none) : OW b l m x := h.below (grown_below hg)
theorem OW.eq (h : OW b l m w) (he : l = l') (hm : m ≤ m') : OW b l' m' w := by subst he; exact ⟨h.wr, Nat.le_trans h.len hm⟩
theorem OW.at {T : TypeId} {cs : Array Value} (h : OW b l m w) (hk : Blk w N T cs) (hT : T ≠ 5) (hne : b ≠ N) (hg : w.grownBy x (some N)) : OW b l m x :=
  ⟨h.wr.keep (grown_but hg) (fun e1 => hne (Option.some.inj e1).symm) (fun k hk' e1 => h.wr.ne_blk hk hT (by rw [hk']; exact e1.symm)), h.len⟩
theorem OW.row {B' k sz : Nat} {T : TypeId} {v : Value} {xs : List Value} (h : OW b l m w) (hr : w.ownsRow B' T sz v k xs) (hT : T ≠ 5) (hne : v.ownBlock ≠ some b) (hg : w.grownBy x v.ownBlock) : OW b l m x :=
  ⟨h.wr.keep (grown_but hg) hne (fun k hk' e1 => h.wr.ne_row hr hT k e1 hk'), h.len⟩
theorem blk_wr {T : TypeId} {cs : Array Value} (hk : Blk w N T cs) (h : OW b l m w) (hT : T ≠ 5) (hne : N ≠ b) (hb : But (Rw w b) w x) : Blk x N T cs := by
  have hl := hk.lt
  unfold Blk at hk ⊢
  rw [hb.block N hl ?_]
  · exact hk
  · rintro (h1 | h1)
    · exact hne h1
    · exact h.wr.ne_blk hk hT h1
theorem hb_wr (h0 : Below w0.heap.size w0 w) (h : OW b l m w) (hlt : w0.heap.size ≤ b) (hb : But (Rw w b) w x) : Below w0.heap.size w0 x :=
  below_but h0 hb h0.size (fun k _ hk => by
    rcases h.wr.only hk with h1 | h1 <;> omega)
theorem sum_le {k q : Nat} (h : l.length ≤ m) (hk : l'.length ≤ k) (hq : q = m + k) : (l ++ l').length ≤ q := by rw [List.length_append]; omega
theorem ow_new (w : World) : Calls Tryz.prog 90 #[] w fun e w' => ∃ b, e = .returned (.pointer (some ⟨b, 0, none⟩)) ∧ b = w.heap.size ∧ OW b [] 0 w' ∧ Below w.heap.size w w' :=
  (wnew_any w).mono (by
    rintro e x ⟨rfl, hf, hz, hb⟩
    exact ⟨_, rfl, rfl, ⟨hf.wr (Below.refl _ _) (Nat.lt_succ_self _) (by omega), by simp⟩, hb⟩)
theorem ow_num (b : Nat) (l : List UInt8) (m : Nat) (n : Int) (w : World) (h : OW b l m w) (hm : m ≤ 140737488355000) (h0 : 0 ≤ n) (h1 : n ≤ 9223372036854775807) :
    Calls Tryz.prog 91 #[.pointer (some ⟨b, 0, none⟩), .int .i64 n] w fun e w' => e = .returned (.pointer (some ⟨b, 0, none⟩)) ∧ OW b (l ++ putL n) (m + 9) w' ∧ But (Rw w b) w w' :=
  (wNum_rw b (b + 1) l 0 n w h.wr (Nat.le_trans h.len hm) h1).mono (by
    rintro e x ⟨rfl, hw, hb⟩
    have e1 : wNum n (l, 0) = (l ++ putL n, 0) := by unfold wNum; rw [if_neg (by simp), if_neg (by omega)]
    rw [e1] at hw
    exact ⟨rfl, ⟨hw, sum_le h.len (putL_le n) rfl⟩, hb⟩)
theorem ow_big (b : Nat) (l : List UInt8) (m : Nat) (n : Int) (w : World) (h : OW b l m w) (hm : m ≤ 140737488355000) (h0 : 0 ≤ n) (h1 : n < 18446744073709551616) :
    Calls Tryz.prog 134 #[.pointer (some ⟨b, 0, none⟩), .int .u64 n] w fun e w' => e = .returned (.pointer (some ⟨b, 0, none⟩)) ∧ OW b (l ++ putL n) (m + 9) w' ∧ But (Rw w b) w w' :=
  (wBig_rw b (b + 1) l 0 n w h.wr (Nat.le_trans h.len hm) h0 h1).mono (by
    rintro e x ⟨rfl, hw, hb⟩
    have e1 : wBig n (l, 0) = (l ++ putL n, 0) := by unfold wBig; rw [if_neg (by simp)]
    rw [e1] at hw
    exact ⟨rfl, ⟨hw, sum_le h.len (putL_le n) rfl⟩, hb⟩)
theorem ow_text (b : Nat) (l : List UInt8) (m : Nat) (s : ByteArray) (w : World) (h : OW b l m w) (hm : m + s.size ≤ 140737488355000) :
    Calls Tryz.prog 135 #[.pointer (some ⟨b, 0, none⟩), .string s] w fun e w' => e = .returned (.pointer (some ⟨b, 0, none⟩)) ∧ OW b (l ++ (putL (s.size : Int) ++ s.data.toList)) (m + (9 + s.size)) w' ∧ But (Rw w b) w w' :=
  (wText_rw b (b + 1) l 0 s w h.wr (by have := h.len; omega)).mono (by
    rintro e x ⟨rfl, hw, hb⟩
    have e1 : wText s (l, 0) = (l ++ (putL (s.size : Int) ++ s.data.toList), 0) := by unfold wText; rw [if_neg (by simp), List.append_assoc]
    rw [e1] at hw
    exact ⟨rfl, ⟨hw, sum_le h.len (sum_le (putL_le _) (Nat.le_refl _) rfl) (by simp)⟩, hb⟩)
theorem ow_flag (b : Nat) (l : List UInt8) (m : Nat) (f : Bool) (w : World) (h : OW b l m w) (hm : m ≤ 140737488355000) :
    Calls Tryz.prog 133 #[.pointer (some ⟨b, 0, none⟩), .bool f] w fun e w' => e = .returned (.pointer (some ⟨b, 0, none⟩)) ∧ OW b (l ++ [flagB f]) (m + 1) w' ∧ But (Rw w b) w w' :=
  (wFlag_rw b (b + 1) l 0 f w h.wr (Nat.le_trans h.len hm)).mono (by
    rintro e x ⟨rfl, hw, hb⟩
    have e1 : wFlag f (l, 0) = (l ++ [flagB f], 0) := by unfold wFlag; rw [if_neg (by simp)]
    rw [e1] at hw
    exact ⟨rfl, ⟨hw, sum_le h.len (k := 1) (by simp) rfl⟩, hb⟩)
theorem ow_done (b : Nat) (l : List UInt8) (m : Nat) (w : World) (h : OW b l m w) :
    Calls Tryz.prog 93 #[.pointer (some ⟨b, 0, none⟩)] w fun e w' => e = .returned (.tuple #[.string ⟨l.toArray⟩, .int .i64 0]) ∧ Below w.heap.size w w' :=
  (wDone_ok b (b + 1) l w h.wr).mono (by rintro e x ⟨rfl, rfl⟩; exact ⟨rfl, Below.refl _ _⟩)
/-- The document's own writer. -/
structure OX (b : Nat) (l : List UInt8) (m : Nat) (w : World) : Prop where
  wr : RWr w b l 0
  len : l.length ≤ m
theorem OX.lt (h : OX b l m w) : b < w.heap.size := h.wr.lt
theorem OX.below (h : OX b l m w) (hb : Below w.heap.size w x) : OX b l m x := ⟨h.wr.below hb, h.len⟩
theorem OX.new (h : OX b l m w) (hg : w.grownBy x none) : OX b l m x := h.below (grown_below hg)
theorem OX.eq (h : OX b l m w) (he : l = l') (hm : m ≤ m') : OX b l' m' w := by subst he; exact ⟨h.wr, Nat.le_trans h.len hm⟩
theorem OX.at (h : OX b l m w) (hne : b ≠ N) (hg : w.grownBy x (some N)) : OX b l m x := ⟨h.wr.but (grown_but hg) (fun e1 => hne (Option.some.inj e1).symm), h.len⟩
theorem OX.row {v : Value} (h : OX b l m w) (hne : v.ownBlock ≠ some b) (hg : w.grownBy x v.ownBlock) : OX b l m x := ⟨h.wr.but (grown_but hg) hne, h.len⟩
end

section
variable {w x : World} {b N : Nat} {s : ByteArray} {a e : Int}
/-- The program's reader: it stands at a (if it has no error), its error is e. -/
structure OR (b : Nat) (s : ByteArray) (a e : Int) (w : World) : Prop where
  re : RE w b s a e
  pos : e = 0 → 0 ≤ a ∧ a ≤ s.size
theorem OR.lt (h : OR b s a e w) : b < w.heap.size := h.re.lt
theorem OR.below (h : OR b s a e w) (hb : Below w.heap.size w x) : OR b s a e x := ⟨h.re.below hb, h.pos⟩
theorem OR.new (h : OR b s a e w) (hg : w.grownBy x none) : OR b s a e x := h.below (grown_below hg)
theorem OR.at (h : OR b s a e w) (hne : b ≠ N) (hg : w.grownBy x (some N)) : OR b s a e x := ⟨h.re.but (grown_but hg) (fun e1 => hne (Option.some.inj e1).symm), h.pos⟩
theorem OR.row {v : Value} (h : OR b s a e w) (hne : v.ownBlock ≠ some b) (hg : w.grownBy x v.ownBlock) : OR b s a e x := ⟨h.re.but (grown_but hg) hne, h.pos⟩
/-- The document's own reader. -/
structure OXR (b : Nat) (s : ByteArray) (a e : Int) (w : World) : Prop where
  re : XRE w b s a e
  pos : e = 0 → 0 ≤ a ∧ a ≤ s.size
theorem XRE.lt (h : XRE w b s a e) : b < w.heap.size := World.block_lt_of_cell? w _ h.cell
theorem OXR.lt (h : OXR b s a e w) : b < w.heap.size := h.re.lt
theorem OXR.below (h : OXR b s a e w) (hb : Below w.heap.size w x) : OXR b s a e x := ⟨h.re.below hb, h.pos⟩
theorem OXR.new (h : OXR b s a e w) (hg : w.grownBy x none) : OXR b s a e x := h.below (grown_below hg)
theorem OXR.at (h : OXR b s a e w) (hne : b ≠ N) (hg : w.grownBy x (some N)) : OXR b s a e x := ⟨h.re.but (grown_but hg) (fun e1 => hne (Option.some.inj e1).symm), h.pos⟩
theorem OXR.row {v : Value} (h : OXR b s a e w) (hne : v.ownBlock ≠ some b) (hg : w.grownBy x v.ownBlock) : OXR b s a e x := ⟨h.re.but (grown_but hg) hne, h.pos⟩
end
end Go.Proofs.YtifknllhmbkkcaaGreat

/- Package ops: Check of both. Conditions: none. -/
namespace Go.Proofs.YtifknllhmbkkcaaGreat
open Go.RowKit Go.PlainAid
set_option linter.unusedVariables false


abbrev OpT := ByteArray × ByteArray × Bool
def opE (o : OpT) : List Value := [.string o.1, .string o.2.1, .bool o.2.2]
theorem bl_flip : ∀ (x y : List UInt8), (Op.bytesLess x y || x == y) = !Op.bytesLess y x
  | [], [] => rfl
  | [], _ :: _ => rfl
  | _ :: _, [] => rfl
  | a :: x, b :: y => by
    have ih := bl_flip x y
    show ((decide (a < b) || (a == b && Op.bytesLess x y)) || (a == b && x == y)) = !(decide (b < a) || (b == a && Op.bytesLess y x))
    rcases Nat.lt_trichotomy a.toNat b.toNat with h | h | h
    · have h1 : a < b := h
      have h2 : ¬ b < a := fun q => by have : b.toNat < a.toNat := q; omega
      have h3 : ¬ b = a := fun q => by subst q; omega
      simp [h1, h2, h3]
    · have e : a = b := UInt8.toNat.inj h
      subst e
      have h2 : ¬ a < a := fun q => by have : a.toNat < a.toNat := q; omega
      simp [h2]; simpa using ih
    · have h1 : ¬ a < b := fun q => by have : a.toNat < b.toNat := q; omega
      have h2 : b < a := h
      have h3 : ¬ a = b := fun q => by subst q; omega
      simp [h1, h2, h3]
/-- What a key's check answers; an operation's; those of all, each key above the one ahead of it. -/
def keyC (k : ByteArray) : Int := if ((k.size : Nat) : Int) < 1 ∨ ((k.size : Nat) : Int) > 8 then 10 else 0
def delV (o : OpT) : Bool := o.2.2 && !(o.2.1.toList == (⟨#[]⟩ : ByteArray).toList)
theorem delV_t {o : OpT} {b : Bool} (h : o.2.2 = true) (h2 : (!(o.2.1.toList == (⟨#[]⟩ : ByteArray).toList)) = b) : delV o = b := by unfold delV; rw [h, h2]; rfl
theorem delV_f {o : OpT} (h : o.2.2 = false) : delV o = false := by unfold delV; rw [h]; rfl
def chkOp (o : OpT) : Int := if keyC o.1 ≠ 0 then keyC o.1 else if ((o.2.1.size : Nat) : Int) > 8 then 3 else if delV o = true then 4 else 0
def keyUp (p : Option ByteArray) (k : ByteArray) : Bool := match p with | some q => Op.bytesLess q.toList k.toList | none => true
def chkL : Option ByteArray → List OpT → Int
  | _, [] => 0
  | p, o :: r => if chkOp o ≠ 0 then chkOp o else if keyUp p o.1 = true then chkL (some o.1) r else 18
def prevK (l : List OpT) (i : Nat) : Option ByteArray := if i = 0 then none else (l[i - 1]?).map (·.1)
def chkB (c r : Int) (l : List OpT) : Int := if c < 0 ∨ c ≥ 3 then 1 else if r < 1 ∨ r > 1073741824 then 5 else if ((l.length : Nat) : Int) > 4 then 6 else chkL none l
theorem prevK_succ {l : List OpT} {i : Nat} {y : OpT} (h : l[i]? = some y) : prevK l (i + 1) = some y.1 := by simp [prevK, h]
theorem prevK_pos {l : List OpT} {i j : Nat} {y : OpT} (hj : j = i - 1) (h0 : 0 < i) (h : l[j]? = some y) : prevK l i = some y.1 := by
  subst hj; simp [prevK, h]; omega
theorem dropO_at {l : List OpT} {i : Nat} {y : OpT} (h : l[i]? = some y) : l.drop i = y :: l.drop (i + 1) := by
  obtain ⟨hi, rfl⟩ := List.getElem?_eq_some_iff.1 h
  exact List.drop_eq_getElem_cons hi
theorem takeO_at {α : Type} {l : List α} {i : Nat} {y : α} (h : l[i]? = some y) : l.take (i + 1) = l.take i ++ [y] := by
  rw [List.take_add_one, h]; rfl
theorem chkL_bad {l : List OpT} {i : Nat} {y : OpT} {z : Int} (h : chkL (prevK l i) (l.drop i) = z) (hy : l[i]? = some y) (hc : chkOp y ≠ 0) : chkOp y = z := by
  rw [dropO_at hy] at h; unfold chkL at h; rwa [if_pos hc] at h
theorem chkL_step {l : List OpT} {i : Nat} {y : OpT} {z : Int} (h : chkL (prevK l i) (l.drop i) = z) (hy : l[i]? = some y) (hc : chkOp y = 0) (hu : keyUp (prevK l i) y.1 = true) : chkL (prevK l (i + 1)) (l.drop (i + 1)) = z := by
  rw [dropO_at hy] at h; unfold chkL at h; rw [if_neg (by simp [hc]), if_pos hu] at h
  rw [prevK_succ hy]; exact h
theorem chkL_ord {l : List OpT} {i : Nat} {y : OpT} {z : Int} (h : chkL (prevK l i) (l.drop i) = z) (hy : l[i]? = some y) (hc : chkOp y = 0) (hu : keyUp (prevK l i) y.1 = false) : 18 = z := by
  rw [dropO_at hy] at h; unfold chkL at h; rwa [if_neg (by simp [hc]), if_neg (by simp [hu])] at h
theorem chkL_end {l : List OpT} {i : Nat} {z : Int} (h : chkL (prevK l i) (l.drop i) = z) (hi : l.length ≤ i) : 0 = z := by
  rw [List.drop_eq_nil_of_le hi] at h; simpa [chkL] using h
theorem keyUp_flip {l : List OpT} {i j : Nat} {y y' : OpT} {b : Bool} (hj : j = i - 1) (h0 : 0 < i) (h : l[j]? = some y') (hb : (Op.bytesLess y.1.toList y'.1.toList || y.1.toList == y'.1.toList) = b) : keyUp (prevK l i) y.1 = !b := by
  rw [bl_flip] at hb; rw [prevK_pos hj h0 h]; rw [← hb]; simp [keyUp]
theorem keyUp_0 {l : List OpT} {i : Nat} {k : ByteArray} (h0 : ¬ (0 : Int) < i) : keyUp (prevK l i) k = true := by
  obtain rfl : i = 0 := by omega
  rfl
theorem chkB_a {c r z : Int} {l : List OpT} (hz : chkB c r l = z) (h : c < 0 ∨ c ≥ 3) : 1 = z := by unfold chkB at hz; rwa [if_pos h] at hz
theorem chkB_b {c r z : Int} {l : List OpT} (hz : chkB c r l = z) (h : ¬ (c < 0 ∨ c ≥ 3)) (h1 : r < 1 ∨ r > 1073741824) : 5 = z := by unfold chkB at hz; rwa [if_neg h, if_pos h1] at hz
theorem chkB_c {c r z : Int} {l : List OpT} (hz : chkB c r l = z) (h : ¬ (c < 0 ∨ c ≥ 3)) (h1 : ¬ (r < 1 ∨ r > 1073741824)) (h2 : ((l.length : Nat) : Int) > 4) : 6 = z := by unfold chkB at hz; rwa [if_neg h, if_neg h1, if_pos h2] at hz
theorem chkB_d {c r z : Int} {l : List OpT} (hz : chkB c r l = z) (h : ¬ (c < 0 ∨ c ≥ 3)) (h1 : ¬ (r < 1 ∨ r > 1073741824)) (h2 : ¬ ((l.length : Nat) : Int) > 4) : chkL (prevK l 0) (l.drop 0) = z := by unfold chkB at hz; rwa [if_neg h, if_neg h1, if_neg h2] at hz
theorem chkOp_a {o : OpT} (h : keyC o.1 ≠ 0) : chkOp o = keyC o.1 := by unfold chkOp; rw [if_pos h]
theorem chkOp_b {o : OpT} (h : ¬ keyC o.1 ≠ 0) (h1 : ((o.2.1.size : Nat) : Int) > 8) : chkOp o = 3 := by unfold chkOp; rw [if_neg h, if_pos h1]
theorem chkOp_c {o : OpT} (h : ¬ keyC o.1 ≠ 0) (h1 : ¬ ((o.2.1.size : Nat) : Int) > 8) (h2 : delV o = true) : chkOp o = 4 := by unfold chkOp; rw [if_neg h, if_neg h1, if_pos h2]
theorem chkOp_d {o : OpT} (h : ¬ keyC o.1 ≠ 0) (h1 : ¬ ((o.2.1.size : Nat) : Int) > 8) (h2 : delV o = false) : chkOp o = 0 := by unfold chkOp; rw [if_neg h, if_neg h1, if_neg (by simp [h2])]
theorem keyC_ok {k : ByteArray} (h : keyC k = 0) : 1 ≤ k.size ∧ k.size ≤ 8 := by unfold keyC at h; split at h <;> omega
theorem chkOp_ok {o : OpT} (h : chkOp o = 0) : (1 ≤ o.1.size ∧ o.1.size ≤ 8) ∧ o.2.1.size ≤ 8 ∧ delV o = false := by
  unfold chkOp at h
  split at h
  · omega
  rename_i h1
  split at h
  · omega
  rename_i h2
  split at h
  · omega
  rename_i h3
  exact ⟨keyC_ok (by omega), by omega, by simpa using h3⟩
theorem chkL_all : ∀ (p : Option ByteArray) (l : List OpT), chkL p l = 0 → ∀ z ∈ l, chkOp z = 0
  | _, [], _, _, h => by cases h
  | p, o :: r, h, z, hz => by
    unfold chkL at h
    by_cases h1 : chkOp o ≠ 0
    · rw [if_pos h1] at h; exact absurd h h1
    · rw [if_neg h1] at h
      by_cases h2 : keyUp p o.1 = true
      · rw [if_pos h2] at h
        rcases List.mem_cons.1 hz with rfl | hz
        · omega
        · exact chkL_all _ r h z hz
      · rw [if_neg h2] at h; omega
theorem chkB_ok {c r : Int} {l : List OpT} (h : chkB c r l = 0) : (0 ≤ c ∧ c < 3) ∧ (1 ≤ r ∧ r ≤ 1073741824) ∧ l.length ≤ 4 ∧ chkL none l = 0 := by
  unfold chkB at h
  split at h
  · omega
  split at h
  · omega
  split at h
  · omega
  exact ⟨by omega, by omega, by omega, h⟩
def OpOk (z : OpT) : Prop := (1 ≤ z.1.size ∧ z.1.size ≤ 8) ∧ z.2.1.size ≤ 8 ∧ delV z = false
theorem chkB_all {c r : Int} {l : List OpT} (h : chkB c r l = 0) : ∀ z ∈ l, OpOk z := fun z hz => chkOp_ok (chkL_all _ l (chkB_ok h).2.2.2 z hz)

set_option maxRecDepth 100000 in
theorem pKey_any (k : ByteArray) (w : World)  :
    Calls Tryz.prog 88 #[.string k] w fun e w' => e = .returned (.int .i64 (keyC k)) ∧ Below w.heap.size w w' := by
 have hB0 := Below.refl w.heap.size w;refine co_enter (n := 11) Tryz.func88 rfl rfl rfl [(0, .string k)] rfl (fun a s => ?_);refine q2 ?_;refine pk0 (v := .int .i64 0) s rfl fun _ s => q6 ?_;refine pk0 (v := .string k) s rfl fun _ s => ?_;refine pk (v := .int .i64 (k.size : Int)) s rfl (rn_lenStr rfl rfl Tryz.underlying9) fun _ s => ?_;refine pk0 (v := .bool (decide ((k.size : Int) < 1))) s rfl fun _ s => ?_;refine pk0 (v := .bool (decide ((k.size : Int) < 1))) s rfl fun _ s => ?_;cases hc6 : (decide ((k.size : Int) < 1))
 ·
  rw [hc6] at s;have hp7 : ¬ ((k.size : Int) < 1) := of_decide_eq_false hc6;refine pk0 (v := .string k) s rfl fun _ s => ?_;refine pk (v := .int .i64 (k.size : Int)) s rfl (rn_lenStr rfl rfl Tryz.underlying9) fun _ s => ?_;refine pk0 (v := .bool (decide ((k.size : Int) > 8))) s rfl fun _ s => ?_;refine pk0 (v := .bool (decide ((k.size : Int) > 8))) s rfl fun _ s => q1 ?_;cases hc12 : (decide ((k.size : Int) > 8))
  ·
   rw [hc12] at s;have hp13 : ¬ ((k.size : Int) > 8) := of_decide_eq_false hc12;refine co_false s rfl <| q7 ?_;refine pk0 (v := .int .i64 0) s rfl fun _ s => q4 ?_;refine co_ret1 s rfl rfl ?_;exact ⟨ret_int (by unfold keyC; first | rw [if_pos (by omega)] | rw [if_neg (by omega)]), hB0⟩
  rw [hc12] at s;have hp15 : (k.size : Int) > 8 := of_decide_eq_true hc12;refine co_true s rfl <| q2 ?_;refine pk0 (v := .int .i64 10) s rfl fun _ s => q5 ?_;refine co_ret1 s rfl rfl ?_;exact ⟨ret_int (by unfold keyC; first | rw [if_pos (by omega)] | rw [if_neg (by omega)]), hB0⟩
 rw [hc6] at s;have hp17 : (k.size : Int) < 1 := of_decide_eq_true hc6;refine psk s rfl fun _ s => ?_;refine psk s rfl fun _ s => ?_;refine psk s rfl fun _ s => ?_;refine pk0 (v := .bool true) s rfl fun _ s => q1 ?_;refine co_true s rfl <| q2 ?_;refine pk0 (v := .int .i64 10) s rfl fun _ s => q5 ?_;refine co_ret1 s rfl rfl ?_;exact ⟨ret_int (by unfold keyC; first | rw [if_pos (by omega)] | rw [if_neg (by omega)]), hB0⟩
set_option maxRecDepth 100000 in
theorem chkOp_any (o : OpT) (w : World)  :
    Calls Tryz.prog 127 #[.agg #[.string o.1, .string o.2.1, .bool o.2.2]] w fun e w' => e = .returned (.int .i64 (chkOp o)) ∧ Below w.heap.size w w' := by
 have hB0 := Below.refl w.heap.size w;refine co_enter (n := 21) Tryz.func127 rfl rfl rfl [(0, .agg #[.string o.1, .string o.2.1, .bool o.2.2])] rfl (fun a s => ?_);refine q2 ?_;refine pw s rfl (op_new (v := fun N => pt N 0) (T := 146) (cs := #[.string o.1, .string o.2.1, .bool o.2.2]) (by kernel_rfl) (by kernel_rfl) (by kernel_rfl)) ?_;rintro _ w2 a1 ⟨N3, rfl, hN6, hz7, hk5, hg4⟩ s;have hz8 := hg4.size
 try dsimp only at s
 refine pk0 (v := .int .i64 0) s rfl fun _ s => q6 ?_;refine pk0 (v := pt N3 0) s rfl fun _ s => ?_;refine pk (v := .string o.1) s rfl (rn_load1 rfl rfl Tryz.isAgg9 (hk5.cell rfl)) fun _ s => ?_;refine pw s rfl (op_call (args := #[.string o.1]) (R := fun res xw => res = .int .i64 (keyC o.1) ∧ Below w2.heap.size w2 xw) rfl rfl rfl (by kernel_rfl) (by kernel_rfl) (Tryz.call88 _ _) (pKey_any o.1 w2 ) (by rintro e x ⟨rfl, hb14⟩; exact ⟨_, rfl, ⟨rfl, hb14⟩⟩)) ?_;rintro _ w13 a12 ⟨rfl, hb14⟩ s;have hz15 := hb14.size;refine pk0 (v := .int .i64 (keyC o.1)) s rfl fun _ s => q3 ?_;refine pk0 (v := .int .i64 (keyC o.1)) s rfl fun _ s => ?_;refine pk0 (v := .bool (keyC o.1 != 0)) s rfl fun _ s => q1 ?_;have hB20 := hb_new hB0 hg4;have hB21 := hb_call hB20 hb14;cases hc19 : (keyC o.1 != 0)
 ·
  rw [hc19] at s;have hp22 : ¬ (keyC o.1 ≠ 0) := by first | simpa using hc19 | simpa [and_assoc] using hc19
  refine co_false s rfl <| q8 ?_;refine pk0 (v := pt N3 1) s rfl fun _ s => ?_;have hk24 := hk5.below hb14;refine pk (v := .string o.2.1) s rfl (rn_load1 rfl rfl Tryz.isAgg9 (hk24.cell rfl)) fun _ s => ?_;refine pk (v := .int .i64 (o.2.1.size : Int)) s rfl (rn_lenStr rfl rfl Tryz.underlying9) fun _ s => ?_;refine pk0 (v := .bool (decide ((o.2.1.size : Int) > 8))) s rfl fun _ s => q1 ?_;cases hc28 : (decide ((o.2.1.size : Int) > 8))
  ·
   rw [hc28] at s;have hp29 : ¬ ((o.2.1.size : Int) > 8) := of_decide_eq_false hc28;refine co_false s rfl <| q8 ?_;refine pk0 (v := pt N3 2) s rfl fun _ s => ?_;refine pk (v := .bool o.2.2) s rfl (rn_load1 rfl rfl Tryz.isAgg4 (hk24.cell rfl)) fun _ s => ?_;refine pk0 (v := .bool o.2.2) s rfl fun _ s => ?_;cases hc33 : (o.2.2)
   ·
    rw [hc33] at s;refine psk s rfl fun _ s => ?_;refine psk s rfl fun _ s => ?_;refine psk s rfl fun _ s => ?_;refine pk0 (v := .bool false) s rfl fun _ s => q1 ?_;refine co_false s rfl <| q7 ?_;refine pk0 (v := .int .i64 0) s rfl fun _ s => q4 ?_;refine co_ret1 s rfl rfl ?_;exact ⟨ret_int (by first | exact (chkOp_a (by assumption)).symm | exact (chkOp_b (by assumption) (by assumption)).symm | exact (chkOp_c (by assumption) (by assumption) (by first | exact delV_t (by assumption) (by assumption) | exact delV_f (by assumption))).symm | exact (chkOp_d (by assumption) (by assumption) (by first | exact delV_t (by assumption) (by assumption) | exact delV_f (by assumption))).symm), hB21⟩
   rw [hc33] at s;refine pk0 (v := pt N3 1) s rfl fun _ s => ?_;refine pk (v := .string o.2.1) s rfl (rn_load1 rfl rfl Tryz.isAgg9 (hk24.cell rfl)) fun _ s => ?_;refine pk0 (v := .bool (!(o.2.1.toList == (⟨#[]⟩ : ByteArray).toList))) s rfl fun _ s => ?_;refine pk0 (v := .bool (!(o.2.1.toList == (⟨#[]⟩ : ByteArray).toList))) s rfl fun _ s => q1 ?_;cases hc43 : (!(o.2.1.toList == (⟨#[]⟩ : ByteArray).toList))
   ·
    rw [hc43] at s;refine co_false s rfl <| q7 ?_;refine pk0 (v := .int .i64 0) s rfl fun _ s => q4 ?_;refine co_ret1 s rfl rfl ?_;exact ⟨ret_int (by first | exact (chkOp_a (by assumption)).symm | exact (chkOp_b (by assumption) (by assumption)).symm | exact (chkOp_c (by assumption) (by assumption) (by first | exact delV_t (by assumption) (by assumption) | exact delV_f (by assumption))).symm | exact (chkOp_d (by assumption) (by assumption) (by first | exact delV_t (by assumption) (by assumption) | exact delV_f (by assumption))).symm), hB21⟩
   rw [hc43] at s;refine co_true s rfl <| q2 ?_;refine pk0 (v := .int .i64 4) s rfl fun _ s => q5 ?_;refine co_ret1 s rfl rfl ?_;exact ⟨ret_int (by first | exact (chkOp_a (by assumption)).symm | exact (chkOp_b (by assumption) (by assumption)).symm | exact (chkOp_c (by assumption) (by assumption) (by first | exact delV_t (by assumption) (by assumption) | exact delV_f (by assumption))).symm | exact (chkOp_d (by assumption) (by assumption) (by first | exact delV_t (by assumption) (by assumption) | exact delV_f (by assumption))).symm), hB21⟩
  rw [hc28] at s;have hp46 : (o.2.1.size : Int) > 8 := of_decide_eq_true hc28;refine co_true s rfl <| q2 ?_;refine pk0 (v := .int .i64 3) s rfl fun _ s => q5 ?_;refine co_ret1 s rfl rfl ?_;exact ⟨ret_int (by first | exact (chkOp_a (by assumption)).symm | exact (chkOp_b (by assumption) (by assumption)).symm | exact (chkOp_c (by assumption) (by assumption) (by first | exact delV_t (by assumption) (by assumption) | exact delV_f (by assumption))).symm | exact (chkOp_d (by assumption) (by assumption) (by first | exact delV_t (by assumption) (by assumption) | exact delV_f (by assumption))).symm), hB21⟩
 rw [hc19] at s;have hp48 : keyC o.1 ≠ 0 := by first | simpa using hc19 | simpa [and_assoc] using hc19
 refine co_true s rfl <| q2 ?_;refine pk0 (v := .int .i64 (keyC o.1)) s rfl fun _ s => ?_;refine pk0 (v := .int .i64 (keyC o.1)) s rfl fun _ s => q5 ?_;refine co_ret1 s rfl rfl ?_;exact ⟨ret_int (by first | exact (chkOp_a (by assumption)).symm | exact (chkOp_b (by assumption) (by assumption)).symm | exact (chkOp_c (by assumption) (by assumption) (by first | exact delV_t (by assumption) (by assumption) | exact delV_f (by assumption))).symm | exact (chkOp_d (by assumption) (by assumption) (by first | exact delV_t (by assumption) (by assumption) | exact delV_f (by assumption))).symm), hB21⟩
set_option maxRecDepth 100000 in
theorem opsCheck_any (c : Int) (r : Int) (v : Value) (l : List OpT) (w : World) (hs : SliceOf opE 3 w v l) :
    Calls Tryz.prog 86 #[.agg #[.int .i64 c, .int .i64 r, v]] w fun e w' => e = .returned (.int .i64 (chkB c r l)) ∧ Below w.heap.size w w' := by
 have hB0 := Below.refl w.heap.size w;have hl_hs := sl_len hs;refine co_enter (n := 54) Tryz.func86 rfl rfl rfl [(0, .agg #[.int .i64 c, .int .i64 r, v])] rfl (fun a s => ?_);refine q2 ?_;refine pw s rfl (op_new (v := fun N => pt N 0) (T := 61) (cs := #[.int .i64 c, .int .i64 r, v]) (by kernel_rfl) (by kernel_rfl) (by kernel_rfl)) ?_;rintro _ w2 a1 ⟨N3, rfl, hN6, hz7, hk5, hg4⟩ s;have hz8 := hg4.size
 try dsimp only at s
 refine pk0 (v := .int .i64 0) s rfl fun _ s => q6 ?_;refine pk0 (v := pt N3 0) s rfl fun _ s => ?_;refine pk (v := .int .i64 c) s rfl (rn_load1 rfl rfl Tryz.isAgg3 (hk5.cell rfl)) fun _ s => ?_;refine pk0 (v := .bool (decide (c < 0))) s rfl fun _ s => ?_;refine pk0 (v := .bool (decide (c < 0))) s rfl fun _ s => ?_;have hB15 := hb_new hB0 hg4;cases hc14 : (decide (c < 0))
 ·
  rw [hc14] at s;have hp16 : ¬ (c < 0) := of_decide_eq_false hc14;refine pk0 (v := pt N3 0) s rfl fun _ s => ?_;refine pk (v := .int .i64 c) s rfl (rn_load1 rfl rfl Tryz.isAgg3 (hk5.cell rfl)) fun _ s => ?_;refine pk0 (v := .bool (decide (c ≥ 3))) s rfl fun _ s => ?_;refine pk0 (v := .bool (decide (c ≥ 3))) s rfl fun _ s => q1 ?_;cases hc21 : (decide (c ≥ 3))
  ·
   rw [hc21] at s;have hp22 : ¬ (c ≥ 3) := of_decide_eq_false hc21;refine co_false s rfl <| q8 ?_;refine pk0 (v := pt N3 1) s rfl fun _ s => ?_;refine pk (v := .int .i64 r) s rfl (rn_load1 rfl rfl Tryz.isAgg3 (hk5.cell rfl)) fun _ s => ?_;refine pk0 (v := .bool (decide (r < 1))) s rfl fun _ s => ?_;refine pk0 (v := .bool (decide (r < 1))) s rfl fun _ s => ?_;cases hc27 : (decide (r < 1))
   ·
    rw [hc27] at s;have hp28 : ¬ (r < 1) := of_decide_eq_false hc27;refine pk0 (v := pt N3 1) s rfl fun _ s => ?_;refine pk (v := .int .i64 r) s rfl (rn_load1 rfl rfl Tryz.isAgg3 (hk5.cell rfl)) fun _ s => ?_;refine pk0 (v := .bool (decide (r > 1073741824))) s rfl fun _ s => ?_;refine pk0 (v := .bool (decide (r > 1073741824))) s rfl fun _ s => q1 ?_;cases hc33 : (decide (r > 1073741824))
    ·
     rw [hc33] at s;have hp34 : ¬ (r > 1073741824) := of_decide_eq_false hc33;refine co_false s rfl <| q8 ?_;refine pk0 (v := pt N3 2) s rfl fun _ s => ?_;refine pk (v := v) s rfl (rn_load1 rfl rfl Tryz.isAgg33 (hk5.cell rfl)) fun _ s => ?_;refine pk (v := .int .i64 (l.length : Int)) s rfl (rn_len rfl rfl Tryz.underlying33 (hs.below hB15)) fun _ s => ?_;refine pk0 (v := .bool (decide ((l.length : Int) > 4))) s rfl fun _ s => q1 ?_;cases hc39 : (decide ((l.length : Int) > 4))
     ·
      rw [hc39] at s;have hp40 : ¬ ((l.length : Int) > 4) := of_decide_eq_false hc39;refine co_false s rfl <| q8 ?_;refine pk0 (v := pt N3 2) s rfl fun _ s => ?_;refine pk (v := v) s rfl (rn_load1 rfl rfl Tryz.isAgg33 (hk5.cell rfl)) fun _ s => ?_;refine pk (v := .int .i64 (l.length : Int)) s rfl (rn_len rfl rfl Tryz.underlying33 (hs.below hB15)) fun _ s => ?_;refine pk0 (v := .int .i64 0) s rfl fun _ s => q1 <| wp_block ?_;have s : Slots 54 [(1, pt N3 0), (2, .int .i64 0), (27, v), (28, .int .i64 (l.length : Int)), (29, .int .i64 0)] _ := s.sub ⟨rfl, rfl, rfl, rfl, rfl, trivial⟩;refine co_loop (fun mm a x => ∃ (i : Nat), Slots 54 [(1, pt N3 0), (2, .int .i64 0), (27, v), (28, .int .i64 (l.length : Int)), (29, .int .i64 (i : Int))] a ∧ mm = l.length - i ∧ (i ≤ l.length) ∧ (chkL (prevK l i) (l.drop i) = chkB c r l) ∧ Below w.heap.size w x ∧ Blk x N3 61 #[.int .i64 c, .int .i64 r, v]) (l.length - 0) ?_ ?_
      · exact ⟨0, s.sub ⟨rfl, rfl, rfl, rfl, (slot_eq rfl (congrArg (Value.int .i64) (by first | rfl | omega))), trivial⟩, rfl, by omega, by first | exact chkB_d rfl (by omega) (by omega) (by omega) | exact hL', hB15, hk5⟩
      · rintro k46 a47 w48 ⟨i, s, rfl, hi49, hi50, hB51, hk52⟩
        have hz53 := hB51.size;have hl54 := hk52.lt;have hL : chkL (prevK l i) (l.drop i) = chkB c r l := by assumption
        refine q2 ?_;refine pk0 (v := .bool (decide ((i : Int) < (l.length : Int)))) s rfl fun _ s => q1 <| co_seq ?_;cases hc56 : (decide ((i : Int) < (l.length : Int)))
        ·
         rw [hc56] at s;have hp57 : ¬ ((i : Int) < (l.length : Int)) := of_decide_eq_false hc56;refine co_false s rfl <| wp_exit <| co_thenX <| co_thenX <| qx <| q2 ?_;refine pk0 (v := .int .i64 0) s rfl fun _ s => q4 ?_;refine co_ret1 s rfl rfl ?_;exact ⟨ret_int (chkL_end (i := i) hL (by omega)), hB51⟩
        rw [hc56] at s;have hp59 : (i : Int) < (l.length : Int) := of_decide_eq_true hc56;refine co_true s rfl <| q0 <| co_seq <| wp_block <| q2 ?_;refine pk0 (v := .int .i64 (i : Int)) s rfl fun _ s => ?_;obtain ⟨y61, hy61⟩ : ∃ z, l[i]? = some z := ⟨_, List.getElem?_eq_getElem (by first | omega | (simp; done) | (simp; omega))⟩;refine pk (v := pt (blkOf v) (offOf v + i * 3)) s rfl (rn_index rfl rfl rfl Tryz.underlying33 Tryz.sizeOf146 (hs.below hB51) (by omega) (by first | omega | (simp; done) | (simp; omega))) fun _ s => ?_;refine pk (v := .agg #[.string y61.1, .string y61.2.1, .bool y61.2.2]) s rfl (rn_loadN rfl rfl Tryz.underlying146 rfl (by kernel_rfl) (sl_at (hs.below hB51) hy61)) fun _ s => ?_;refine pw s rfl (op_new (v := fun N => pt N 0) (T := 146) (cs := #[.string (⟨#[]⟩), .string (⟨#[]⟩), .bool false]) (by kernel_rfl) (by kernel_rfl) (by kernel_rfl)) ?_;rintro _ w65 a64 ⟨N66, rfl, hN69, hz70, hk68, hg67⟩ s;have hz71 := hg67.size
        try dsimp only at s
        refine pk0 (v := .int .i64 (i : Int)) s rfl fun _ s => ?_;refine pwD s rfl (op_storeN rfl rfl rfl (by kernel_rfl) (by kernel_rfl) hk68 rfl) ?_;rintro _ w74 a73 ⟨hk75, hz76, hg77⟩ s;have hk75' : Blk w74 N66 146 #[.string y61.1, .string y61.2.1, .bool y61.2.2] := hk75;have hz78 := hg77.size;refine q6 ?_;refine pk (v := .agg #[.string y61.1, .string y61.2.1, .bool y61.2.2]) s rfl (rn_loadN rfl rfl Tryz.underlying146 rfl (by kernel_rfl) hk75'.all) fun _ s => ?_;refine pw s rfl (op_call (args := #[.agg #[.string y61.1, .string y61.2.1, .bool y61.2.2]]) (R := fun res xw => res = .int .i64 (chkOp y61) ∧ Below w74.heap.size w74 xw) rfl rfl rfl (by kernel_rfl) (by kernel_rfl) (Tryz.call127 _ _) (chkOp_any y61 w74 ) (by rintro e x ⟨rfl, hb82⟩; exact ⟨_, rfl, ⟨rfl, hb82⟩⟩)) ?_;rintro _ w81 a80 ⟨rfl, hb82⟩ s;have hz83 := hb82.size;refine pk0 (v := .int .i64 (chkOp y61)) s rfl fun _ s => q3 ?_;refine pk0 (v := .int .i64 (chkOp y61)) s rfl fun _ s => ?_;refine pk0 (v := .bool (chkOp y61 != 0)) s rfl fun _ s => q1 ?_;have hB88 := hb_new hB51 hg67;have hB89 := hb_at hB88 hg77 (by omega);have hB90 := hb_call hB89 hb82;have hk91 := hk52.kept hg67 (by simp);have hk92 := hk91.kept hg77 (by simp; omega);have hk93 := hk92.below hb82;cases hc87 : (chkOp y61 != 0)
        ·
         rw [hc87] at s;have hp94 : ¬ (chkOp y61 ≠ 0) := by first | simpa using hc87 | simpa [and_assoc] using hc87
         refine co_false s rfl <| q0 <| co_seq ?_;refine dr_eq (by kernel_rfl) (fun w95 hg96 => ?_);have hz97 := hg96.size;refine dk0 0 (v := .int .i64 (i : Int)) s rfl rfl rfl fun _ s => ?_;refine dk0 1 (v := .bool (decide ((i : Int) > 0))) s rfl rfl rfl fun _ s => ?_;refine dk0 2 (v := .bool (decide ((i : Int) > 0))) s rfl rfl rfl fun _ s => ?_;have hB102 := hb_new hB90 hg96;have hk103 := hk75'.below hb82;have hk104 := hk103.kept hg96 (by simp);cases hc101 : (decide ((i : Int) > 0))
         ·
          rw [hc101] at s;have hp105 : ¬ ((i : Int) > 0) := of_decide_eq_false hc101;refine dsk 3 s rfl rfl rfl fun _ s => ?_;refine dsk 4 s rfl rfl rfl fun _ s => ?_;refine dsk 5 s rfl rfl rfl fun _ s => ?_;refine dsk 6 s rfl rfl rfl fun _ s => ?_;refine dsk 7 s rfl rfl rfl fun _ s => ?_;refine dsk 8 s rfl rfl rfl fun _ s => ?_;refine dsk 9 s rfl rfl rfl fun _ s => ?_;refine dsk 10 s rfl rfl rfl fun _ s => ?_;refine dsk 11 s rfl rfl rfl fun _ s => ?_;refine dsk 12 s rfl rfl rfl fun _ s => ?_;refine dk0 13 (v := .bool false) s rfl rfl rfl fun _ s => ?_;refine dr_done (by kernel_rfl) ?_;refine co_then ?_;refine co_false s rfl <| wp_skip <| co_blockN <| co_then <| co_reg ?_;refine pk (v := .int .i64 ((i + 1 : Nat) : Int)) s rfl (rn_arith' rfl rfl rfl rfl rfl rfl (IntWalk.i64_in _ (by omega)) (by omega)) fun _ s => ?_;refine pk0 (v := .int .i64 ((i + 1 : Nat) : Int)) s rfl fun _ s => q1 ?_;refine ⟨(l.length - (i + 1)), by omega, ?_⟩;have hO : chkOp y61 = 0 := by omega
          have hU : keyUp (prevK l i) y61.1 = true := (keyUp_0 (by omega));have hL' := chkL_step (i := i) hL hy61 hO hU;have hk119 := hk93.kept hg96 (by simp);exact ⟨i + 1, s.sub ⟨rfl, rfl, rfl, rfl, rfl, trivial⟩, rfl, by omega, by first | exact chkB_d rfl (by omega) (by omega) (by omega) | exact hL', hB102, hk119⟩
         rw [hc101] at s;have hp120 : (i : Int) > 0 := of_decide_eq_true hc101;refine dk0 3 (v := pt N66 0) s rfl rfl rfl fun _ s => ?_;refine dk 4 (v := .string y61.1) s rfl rfl rfl (fun x hx => by subst hx; exact (rn_load1 rfl rfl Tryz.isAgg9 (hk104.cell rfl))) fun _ s => ?_;refine dk0 5 (v := pt N3 2) s rfl rfl rfl fun _ s => ?_;have hk124 := hk93.kept hg96 (by simp);refine dk 6 (v := v) s rfl rfl rfl (fun x hx => by subst hx; exact (rn_load1 rfl rfl Tryz.isAgg33 (hk124.cell rfl))) fun _ s => ?_;refine dk0 7 (v := .int .i64 (i : Int)) s rfl rfl rfl fun _ s => ?_;refine dk 8 (v := .int .i64 ((i : Int) - 1)) s rfl rfl rfl (fun x hx => by subst hx; exact (rn_arith rfl rfl rfl rfl rfl rfl (IntWalk.i64_in _ (by omega)))) fun _ s => ?_;obtain ⟨y128, hy128⟩ : ∃ z, l[((i : Int) - 1).toNat]? = some z := ⟨_, List.getElem?_eq_getElem (by first | omega | (simp; done) | (simp; omega))⟩;refine dk 9 (v := pt (blkOf v) (offOf v + (((i : Int) - 1).toNat) * 3)) s rfl rfl rfl (fun x hx => by subst hx; exact (rn_index rfl rfl rfl Tryz.underlying33 Tryz.sizeOf146 (hs.below hB102) (by omega) (by first | omega | (simp; done) | (simp; omega)))) fun _ s => ?_;refine dk0 10 (v := pt (blkOf v) (offOf v + (((i : Int) - 1).toNat) * 3)) s rfl rfl rfl fun _ s => ?_;refine dk 11 (v := .string y128.1) s rfl rfl rfl (fun x hx => by subst hx; exact (rn_load1 rfl rfl Tryz.isAgg9 ((sl_at (hs.below hB102) hy128) 0 _ rfl))) fun _ s => ?_;refine dk0 12 (v := .bool (Op.bytesLess y61.1.toList y128.1.toList || y61.1.toList == y128.1.toList)) s rfl rfl rfl fun _ s => ?_;refine dk0 13 (v := .bool (Op.bytesLess y61.1.toList y128.1.toList || y61.1.toList == y128.1.toList)) s rfl rfl rfl fun _ s => ?_;refine dr_done (by kernel_rfl) ?_;refine co_then ?_;cases hc134 : ((Op.bytesLess y61.1.toList y128.1.toList || y61.1.toList == y128.1.toList))
         ·
          rw [hc134] at s;refine co_false s rfl <| wp_skip <| co_blockN <| co_then <| co_reg ?_;refine pk (v := .int .i64 ((i + 1 : Nat) : Int)) s rfl (rn_arith' rfl rfl rfl rfl rfl rfl (IntWalk.i64_in _ (by omega)) (by omega)) fun _ s => ?_;refine pk0 (v := .int .i64 ((i + 1 : Nat) : Int)) s rfl fun _ s => q1 ?_;refine ⟨(l.length - (i + 1)), by omega, ?_⟩;have hO : chkOp y61 = 0 := by omega
          have hU : keyUp (prevK l i) y61.1 = true := (keyUp_flip (l := l) (i := i) (b := false) (y := y61) (j := ((i : Int) - 1).toNat) (by omega) (by omega) hy128 (by assumption));have hL' := chkL_step (i := i) hL hy61 hO hU;exact ⟨i + 1, s.sub ⟨rfl, rfl, rfl, rfl, rfl, trivial⟩, rfl, by omega, by first | exact chkB_d rfl (by omega) (by omega) (by omega) | exact hL', hB102, hk124⟩
         rw [hc134] at s;refine co_true s rfl <| q2 ?_;refine pk0 (v := .int .i64 18) s rfl fun _ s => q4 <| qr <| co_thenR <| qr ?_;refine co_ret1 s rfl rfl ?_;have hO : chkOp y61 = 0 := by omega
         exact ⟨ret_int (chkL_ord (i := i) hL hy61 hO (keyUp_flip (l := l) (i := i) (b := true) (y := y61) (j := ((i : Int) - 1).toNat) (by omega) (by omega) hy128 (by assumption))), hB102⟩
        rw [hc87] at s;have hp138 : chkOp y61 ≠ 0 := by first | simpa using hc87 | simpa [and_assoc] using hc87
        refine co_true s rfl <| q2 ?_;refine pk0 (v := .int .i64 (chkOp y61)) s rfl fun _ s => ?_;refine pk0 (v := .int .i64 (chkOp y61)) s rfl fun _ s => q5 <| qr <| co_thenR <| qr ?_;refine co_ret1 s rfl rfl ?_;exact ⟨ret_int (chkL_bad (i := i) hL hy61 (by assumption)), hB90⟩
     rw [hc39] at s;have hp141 : (l.length : Int) > 4 := of_decide_eq_true hc39;refine co_true s rfl <| q2 ?_;refine pk0 (v := .int .i64 6) s rfl fun _ s => q5 ?_;refine co_ret1 s rfl rfl ?_;exact ⟨ret_int (chkB_c rfl (by omega) (by omega) (by omega)), hB15⟩
    rw [hc33] at s;have hp143 : r > 1073741824 := of_decide_eq_true hc33;refine co_true s rfl <| q2 ?_;refine pk0 (v := .int .i64 5) s rfl fun _ s => q5 ?_;refine co_ret1 s rfl rfl ?_;exact ⟨ret_int (chkB_b rfl (by omega) (by omega)), hB15⟩
   rw [hc27] at s;have hp145 : r < 1 := of_decide_eq_true hc27;refine psk s rfl fun _ s => ?_;refine psk s rfl fun _ s => ?_;refine psk s rfl fun _ s => ?_;refine pk0 (v := .bool true) s rfl fun _ s => q1 ?_;refine co_true s rfl <| q2 ?_;refine pk0 (v := .int .i64 5) s rfl fun _ s => q5 ?_;refine co_ret1 s rfl rfl ?_;exact ⟨ret_int (chkB_b rfl (by omega) (by omega)), hB15⟩
  rw [hc21] at s;have hp151 : c ≥ 3 := of_decide_eq_true hc21;refine co_true s rfl <| q2 ?_;refine pk0 (v := .int .i64 1) s rfl fun _ s => q5 ?_;refine co_ret1 s rfl rfl ?_;exact ⟨ret_int (chkB_a rfl (by omega)), hB15⟩
 rw [hc14] at s;have hp153 : c < 0 := of_decide_eq_true hc14;refine psk s rfl fun _ s => ?_;refine psk s rfl fun _ s => ?_;refine psk s rfl fun _ s => ?_;refine pk0 (v := .bool true) s rfl fun _ s => q1 ?_;refine co_true s rfl <| q2 ?_;refine pk0 (v := .int .i64 1) s rfl fun _ s => q5 ?_;refine co_ret1 s rfl rfl ?_;exact ⟨ret_int (chkB_a rfl (by omega)), hB15⟩
end Go.Proofs.YtifknllhmbkkcaaGreat

/- Package ops: Same, Put of both. Conditions: none. -/
namespace Go.Proofs.YtifknllhmbkkcaaGreat
open Go.RowKit Go.PlainAid
set_option linter.unusedVariables false


/-- The bytes of a batch. -/
def putO1 (o : OpT) : List UInt8 := (putL (o.1.size : Int) ++ o.1.data.toList) ++ [flagB o.2.2] ++ (putL (o.2.1.size : Int) ++ o.2.1.data.toList)
def putOs (l : List OpT) : List UInt8 := l.flatMap putO1
def putH (c r : Int) (l : List OpT) : List UInt8 := putL c ++ putL r ++ putL ((l.length : Nat) : Int)
def putB (c r : Int) (l : List OpT) : ByteArray := if chkB c r l = 0 then ⟨(putH c r l ++ putOs l).toArray⟩ else ⟨#[]⟩
theorem putB_ok {c r : Int} {l : List OpT} (h : chkB c r l = 0) : putB c r l = ⟨(putH c r l ++ putOs l).toArray⟩ := by unfold putB; rw [if_pos h]
theorem putB_err {c r : Int} {l : List OpT} (h : chkB c r l ≠ 0) : putB c r l = ⟨#[]⟩ := by unfold putB; rw [if_neg h]

set_option maxRecDepth 100000 in
theorem opsPut_any (c : Int) (r : Int) (v : Value) (l : List OpT) (w : World) (hs : SliceOf opE 3 w v l) :
    Calls Tryz.prog 137 #[.agg #[.int .i64 c, .int .i64 r, v]] w fun e w' => e = .returned (.tuple #[.string (putB c r l), .int .i64 (chkB c r l)]) ∧ Below w.heap.size w w' := by
 have hcb : chkB c r l = 0 → ((0 ≤ c ∧ c < 3) ∧ (1 ≤ r ∧ r ≤ 1073741824) ∧ l.length ≤ 4) := fun h => ⟨(chkB_ok h).1, (chkB_ok h).2.1, (chkB_ok h).2.2.1⟩;have hB0 := Below.refl w.heap.size w;have hl_hs := sl_len hs;refine co_enter (n := 46) Tryz.func137 rfl rfl rfl [(0, .agg #[.int .i64 c, .int .i64 r, v])] rfl (fun a s => ?_);refine q2 ?_;refine pw s rfl (op_new (v := fun N => pt N 0) (T := 61) (cs := #[.int .i64 c, .int .i64 r, v]) (by kernel_rfl) (by kernel_rfl) (by kernel_rfl)) ?_;rintro _ w2 a1 ⟨N3, rfl, hN6, hz7, hk5, hg4⟩ s;have hz8 := hg4.size
 try dsimp only at s
 refine pk0 (v := .string (⟨#[]⟩)) s rfl fun _ s => ?_;refine pk0 (v := .int .i64 0) s rfl fun _ s => q6 ?_;refine pk (v := .agg #[.int .i64 c, .int .i64 r, v]) s rfl (rn_loadN rfl rfl Tryz.underlying61 rfl (by kernel_rfl) hk5.all) fun _ s => ?_;have hB14 := hb_new hB0 hg4;refine pw s rfl (op_call (args := #[.agg #[.int .i64 c, .int .i64 r, v]]) (R := fun res xw => res = .int .i64 (chkB c r l) ∧ Below w2.heap.size w2 xw) rfl rfl rfl (by kernel_rfl) (by kernel_rfl) (Tryz.call86 _ _) (opsCheck_any c r v l w2 (hs.below hB14)) (by rintro e x ⟨rfl, hb15⟩; exact ⟨_, rfl, ⟨rfl, hb15⟩⟩)) ?_;rintro _ w13 a12 ⟨rfl, hb15⟩ s;have hz16 := hb15.size;refine pk0 (v := .int .i64 (chkB c r l)) s rfl fun _ s => q3 ?_;refine pk0 (v := .int .i64 (chkB c r l)) s rfl fun _ s => ?_;refine pk0 (v := .bool (chkB c r l != 0)) s rfl fun _ s => q1 ?_;have hB21 := hb_call hB14 hb15;cases hc20 : (chkB c r l != 0)
 ·
  rw [hc20] at s;have hp22 : ¬ (chkB c r l ≠ 0) := by first | simpa using hc20 | simpa [and_assoc] using hc20
  refine co_false s rfl <| q0 <| co_seq ?_;refine dr_gen (fun x => Below w.heap.size w x ∧ Blk x N3 61 #[.int .i64 c, .int .i64 r, v]) (by kernel_rfl) (fun w23 hg24 => ?_) (fun w23 hg24 => ?_)
  ·
   have hz25 := hg24.size;have hB26 := hb_new hB21 hg24;have hk27 := hk5.below hb15;have hk28 := hk27.kept hg24 (by simp);exact ⟨hB26, hk28⟩
  have hz29 := hg24.size;have hB30 := hb_new hB21 hg24;have hk31 := hk5.below hb15;have hk32 := hk31.kept hg24 (by simp);refine dk0 1 (v := pt N3 0) s rfl rfl ⟨hB30, hk32⟩ fun _ s => ?_;refine dk 2 (v := .int .i64 c) s rfl rfl ⟨hB30, hk32⟩ (fun x hx => (rn_load1 rfl rfl Tryz.isAgg3 (hx.2.cell rfl))) fun _ s => ?_;refine dk0 4 (v := pt N3 1) s rfl rfl ⟨hB30, hk32⟩ fun _ s => ?_;refine dk 5 (v := .int .i64 r) s rfl rfl ⟨hB30, hk32⟩ (fun x hx => (rn_load1 rfl rfl Tryz.isAgg3 (hx.2.cell rfl))) fun _ s => ?_;refine dk0 7 (v := pt N3 2) s rfl rfl ⟨hB30, hk32⟩ fun _ s => ?_;refine dk 8 (v := v) s rfl rfl ⟨hB30, hk32⟩ (fun x hx => (rn_load1 rfl rfl Tryz.isAgg33 (hx.2.cell rfl))) fun _ s => ?_;refine dk 9 (v := .int .i64 (l.length : Int)) s rfl rfl ⟨hB30, hk32⟩ (fun x hx => (rn_len rfl rfl Tryz.underlying33 (hs.below hx.1))) fun _ s => ?_;refine d1 0 s rfl rfl (op_call (args := #[]) (R := fun res xw => ∃ b : Nat, res = pt b 0 ∧ b = w23.heap.size ∧ OW b [] 0 xw ∧ Below w23.heap.size w23 xw) rfl rfl rfl (by kernel_rfl) (by kernel_rfl) (Tryz.call90 _ _) (ow_new w23) (by rintro e x ⟨b, rfl, h0, h1, h2⟩; exact ⟨_, rfl, b, rfl, h0, h1, h2⟩)) ?_ ?_
  ·
   rintro _ w41 ⟨b42, rfl, hN43, ho44, hb45⟩;have hz46 := hb45.size;have hl47 := ho44.lt;have hB48 := hb_call hB30 hb45;have hk49 := hk32.below hb45;exact ⟨hB48, hk49⟩
  rintro _ w41 a40 ⟨b42, rfl, hN43, ho44, hb45⟩ s;have hz46 := hb45.size;have hl47 := ho44.lt;have hB48 := hb_call hB30 hb45;have hk49 := hk32.below hb45;refine d1 3 s rfl rfl (op_call (args := #[pt b42 0, .int .i64 c]) (R := fun res xw => res = pt b42 0 ∧ OW b42 (([] : List UInt8) ++ putL c) (0 + 9) xw ∧ But (Rw w41 b42) w41 xw) rfl rfl rfl (by kernel_rfl) (by kernel_rfl) (Tryz.call91 _ _) (ow_num b42 ([]) 0 c w41 ho44 (by omega) (by omega) (by omega)) (by rintro e x ⟨rfl, h1, h2⟩; exact ⟨_, rfl, rfl, h1, h2⟩)) ?_ ?_
  ·
   rintro _ w51 ⟨rfl, ho52, hx53⟩;have hz54 := hx53.size;have hl55 := ho52.lt;have hB56 := hb_wr hB48 ho44 (by omega) hx53;have hk57 := blk_wr hk49 ho44 (by decide) (by omega) hx53;exact ⟨hB56, hk57⟩
  rintro _ w51 a50 ⟨rfl, ho52, hx53⟩ s;have hz54 := hx53.size;have hl55 := ho52.lt;have hB56 := hb_wr hB48 ho44 (by omega) hx53;have hk57 := blk_wr hk49 ho44 (by decide) (by omega) hx53;refine d1 6 s rfl rfl (op_call (args := #[pt b42 0, .int .i64 r]) (R := fun res xw => res = pt b42 0 ∧ OW b42 ((([] : List UInt8) ++ putL c) ++ putL r) (0 + 9 + 9) xw ∧ But (Rw w51 b42) w51 xw) rfl rfl rfl (by kernel_rfl) (by kernel_rfl) (Tryz.call91 _ _) (ow_num b42 (([] : List UInt8) ++ putL c) (0 + 9) r w51 ho52 (by omega) (by omega) (by omega)) (by rintro e x ⟨rfl, h1, h2⟩; exact ⟨_, rfl, rfl, h1, h2⟩)) ?_ ?_
  ·
   rintro _ w59 ⟨rfl, ho60, hx61⟩;have hz62 := hx61.size;have hl63 := ho60.lt;have hB64 := hb_wr hB56 ho52 (by omega) hx61;have hk65 := blk_wr hk57 ho52 (by decide) (by omega) hx61;exact ⟨hB64, hk65⟩
  rintro _ w59 a58 ⟨rfl, ho60, hx61⟩ s;have hz62 := hx61.size;have hl63 := ho60.lt;have hB64 := hb_wr hB56 ho52 (by omega) hx61;have hk65 := blk_wr hk57 ho52 (by decide) (by omega) hx61;refine d1 10 s rfl rfl (op_call (args := #[pt b42 0, .int .i64 (l.length : Int)]) (R := fun res xw => res = pt b42 0 ∧ OW b42 (((([] : List UInt8) ++ putL c) ++ putL r) ++ putL (l.length : Int)) (0 + 9 + 9 + 9) xw ∧ But (Rw w59 b42) w59 xw) rfl rfl rfl (by kernel_rfl) (by kernel_rfl) (Tryz.call91 _ _) (ow_num b42 ((([] : List UInt8) ++ putL c) ++ putL r) (0 + 9 + 9) (l.length : Int) w59 ho60 (by omega) (by omega) (by omega)) (by rintro e x ⟨rfl, h1, h2⟩; exact ⟨_, rfl, rfl, h1, h2⟩)) ?_ ?_
  ·
   rintro _ w67 ⟨rfl, ho68, hx69⟩;have hz70 := hx69.size;have hl71 := ho68.lt;have hB72 := hb_wr hB64 ho60 (by omega) hx69;have hk73 := blk_wr hk65 ho60 (by decide) (by omega) hx69;exact ⟨hB72, hk73⟩
  rintro _ w67 a66 ⟨rfl, ho68, hx69⟩ s;have hz70 := hx69.size;have hl71 := ho68.lt;have hB72 := hb_wr hB64 ho60 (by omega) hx69;have hk73 := blk_wr hk65 ho60 (by decide) (by omega) hx69;refine dk0 11 (v := pt b42 0) s rfl rfl ⟨hB72, hk73⟩ fun _ s => ?_;refine dr_done (by kernel_rfl) ?_;refine co_then <| q9 ?_;refine pk0 (v := pt N3 2) s rfl fun _ s => ?_;refine pk (v := v) s rfl (rn_load1 rfl rfl Tryz.isAgg33 (hk73.cell rfl)) fun _ s => ?_;refine pk (v := .int .i64 (l.length : Int)) s rfl (rn_len rfl rfl Tryz.underlying33 (hs.below hB72)) fun _ s => ?_;refine pk0 (v := .int .i64 0) s rfl fun _ s => q1 <| wp_block ?_;have hck := chkB_all (c := c) (r := r) (l := l) (by omega);have s : Slots 46 [(1, pt N3 0), (2, .string (⟨#[]⟩)), (3, .int .i64 0), (5, pt b42 0), (25, v), (26, .int .i64 (l.length : Int)), (27, .int .i64 0)] _ := s.sub ⟨rfl, rfl, rfl, rfl, rfl, rfl, rfl, trivial⟩;refine co_loop (fun mm a x => ∃ (i : Nat), Slots 46 [(1, pt N3 0), (2, .string (⟨#[]⟩)), (3, .int .i64 0), (5, pt b42 0), (25, v), (26, .int .i64 (l.length : Int)), (27, .int .i64 (i : Int))] a ∧ mm = l.length - i ∧ (i ≤ l.length) ∧ OW b42 (putH c r l ++ putOs (l.take i)) (27 + i * 35) x ∧ Below w.heap.size w x ∧ Blk x N3 61 #[.int .i64 c, .int .i64 r, v]) (l.length - 0) ?_ ?_
  · exact ⟨0, s.sub ⟨rfl, rfl, rfl, rfl, rfl, rfl, (slot_eq rfl (congrArg (Value.int .i64) (by first | rfl | omega))), trivial⟩, rfl, by omega, (ho68.eq (by first | (simp [putH, putOs]; done) | (rw [takeO_at (by assumption)]; simp [putH, putOs, putO1])) (by first | omega | (simp; done) | (simp; omega))), hB72, hk73⟩
  · rintro k80 a81 w82 ⟨i, s, rfl, hi83, hf84, hB85, hk86⟩
    have hz87 := hB85.size;have hl88 := hk86.lt;have hl89 := hf84.lt;refine q2 ?_;refine pk0 (v := .bool (decide ((i : Int) < (l.length : Int)))) s rfl fun _ s => q1 <| co_seq ?_;cases hc91 : (decide ((i : Int) < (l.length : Int)))
    ·
     rw [hc91] at s;have hp92 : ¬ ((i : Int) < (l.length : Int)) := of_decide_eq_false hc91;refine co_false s rfl <| wp_exit <| co_thenX <| co_thenX <| qx <| q2 ?_;refine pk0 (v := pt b42 0) s rfl fun _ s => ?_;refine pw s rfl (op_call (args := #[pt b42 0]) (R := fun res xw => res = .tuple #[.string (⟨(putH c r l ++ putOs (l.take i)).toArray⟩), .int .i64 0] ∧ Below w82.heap.size w82 xw) rfl rfl rfl (by kernel_rfl) (by kernel_rfl) (Tryz.call93 _ _) (ow_done b42 (putH c r l ++ putOs (l.take i)) (27 + i * 35) w82 hf84) (by rintro e x ⟨rfl, h2⟩; exact ⟨_, rfl, rfl, h2⟩)) ?_;rintro _ w95 a94 ⟨rfl, hb96⟩ s;have hz97 := hb96.size;refine pk0 (v := .string (⟨(putH c r l ++ putOs (l.take i)).toArray⟩)) s rfl fun _ s => ?_;refine pk0 (v := .int .i64 0) s rfl fun _ s => ?_;refine pk0 (v := .string (⟨(putH c r l ++ putOs (l.take i)).toArray⟩)) s rfl fun _ s => ?_;refine pk0 (v := .int .i64 0) s rfl fun _ s => q4 ?_;refine co_ret2 s rfl rfl rfl ?_;have hB102 := hb_call hB85 hb96;exact ⟨by rw [putB_ok (by omega), show chkB c r l = 0 by omega, List.take_of_length_le (show l.length ≤ i by omega)], hB102⟩
    rw [hc91] at s;have hp103 : (i : Int) < (l.length : Int) := of_decide_eq_true hc91;refine co_true s rfl <| q0 <| co_seq <| wp_block <| q2 ?_;obtain ⟨y104, hy104⟩ : ∃ z, l[i]? = some z := ⟨_, List.getElem?_eq_getElem (by first | omega | (simp; done) | (simp; omega))⟩;have oky104 := hck _ (List.mem_of_getElem? hy104);have k105 : y104.1.size ≤ 8 := oky104.1.2;have k106 : y104.2.1.size ≤ 8 := oky104.2.1;refine pk (v := pt (blkOf v) (offOf v + i * 3)) s rfl (rn_index rfl rfl rfl Tryz.underlying33 Tryz.sizeOf146 (hs.below hB85) (by omega) (by first | omega | (simp; done) | (simp; omega))) fun _ s => ?_;refine pk (v := .agg #[.string y104.1, .string y104.2.1, .bool y104.2.2]) s rfl (rn_loadN rfl rfl Tryz.underlying146 rfl (by kernel_rfl) (sl_at (hs.below hB85) hy104)) fun _ s => ?_;refine pw s rfl (op_new (v := fun N => pt N 0) (T := 146) (cs := #[.string (⟨#[]⟩), .string (⟨#[]⟩), .bool false]) (by kernel_rfl) (by kernel_rfl) (by kernel_rfl)) ?_;rintro _ w110 a109 ⟨N111, rfl, hN114, hz115, hk113, hg112⟩ s;have hz116 := hg112.size
    try dsimp only at s
    refine pwD s rfl (op_storeN rfl rfl rfl (by kernel_rfl) (by kernel_rfl) hk113 rfl) ?_;rintro _ w118 a117 ⟨hk119, hz120, hg121⟩ s;have hk119' : Blk w118 N111 146 #[.string y104.1, .string y104.2.1, .bool y104.2.2] := hk119;have hz122 := hg121.size;refine q1 ?_;refine dr_gen (fun x => Below w.heap.size w x ∧ Blk x N111 146 #[.string y104.1, .string y104.2.1, .bool y104.2.2]) (by kernel_rfl) (fun w123 hg124 => ?_) (fun w123 hg124 => ?_)
    ·
     have hz125 := hg124.size;have hB126 := hb_new hB85 hg112;have hB127 := hb_at hB126 hg121 (by omega);have hB128 := hb_new hB127 hg124;have hk129 := hk119'.kept hg124 (by simp);exact ⟨hB128, hk129⟩
    have hz130 := hg124.size;have hB131 := hb_new hB85 hg112;have hB132 := hb_at hB131 hg121 (by omega);have hB133 := hb_new hB132 hg124;have hk134 := hk119'.kept hg124 (by simp);refine dk0 0 (v := pt b42 0) s rfl rfl ⟨hB133, hk134⟩ fun _ s => ?_;refine dk0 1 (v := pt N111 0) s rfl rfl ⟨hB133, hk134⟩ fun _ s => ?_;refine dk 2 (v := .string y104.1) s rfl rfl ⟨hB133, hk134⟩ (fun x hx => (rn_load1 rfl rfl Tryz.isAgg9 (hx.2.cell rfl))) fun _ s => ?_;refine dk0 4 (v := pt N111 2) s rfl rfl ⟨hB133, hk134⟩ fun _ s => ?_;refine dk 5 (v := .bool y104.2.2) s rfl rfl ⟨hB133, hk134⟩ (fun x hx => (rn_load1 rfl rfl Tryz.isAgg4 (hx.2.cell rfl))) fun _ s => ?_;refine dk0 7 (v := pt N111 1) s rfl rfl ⟨hB133, hk134⟩ fun _ s => ?_;refine dk 8 (v := .string y104.2.1) s rfl rfl ⟨hB133, hk134⟩ (fun x hx => (rn_load1 rfl rfl Tryz.isAgg9 (hx.2.cell rfl))) fun _ s => ?_;have ho146 := hf84.new hg112;have ho147 := ho146.at hk113 (by decide) (by omega) hg121;have ho148 := ho147.new hg124;refine d1 3 s rfl rfl (op_call (args := #[pt b42 0, .string y104.1]) (R := fun res xw => res = pt b42 0 ∧ OW b42 ((putH c r l ++ putOs (l.take i)) ++ (putL (y104.1.size : Int) ++ y104.1.data.toList)) (27 + i * 35 + (9 + y104.1.size)) xw ∧ But (Rw w123 b42) w123 xw) rfl rfl rfl (by kernel_rfl) (by kernel_rfl) (Tryz.call135 _ _) (ow_text b42 (putH c r l ++ putOs (l.take i)) (27 + i * 35) y104.1 w123 ho148 (by first | omega | (simp; done) | (simp; omega))) (by rintro e x ⟨rfl, h1, h2⟩; exact ⟨_, rfl, rfl, h1, h2⟩)) ?_ ?_
    ·
     rintro _ w143 ⟨rfl, ho144, hx145⟩;have hz149 := hx145.size;have hl150 := ho144.lt;have hB151 := hb_wr hB133 ho148 (by omega) hx145;have hk152 := blk_wr hk134 ho148 (by decide) (by omega) hx145;exact ⟨hB151, hk152⟩
    rintro _ w143 a142 ⟨rfl, ho144, hx145⟩ s;have hz149 := hx145.size;have hl150 := ho144.lt;have hB151 := hb_wr hB133 ho148 (by omega) hx145;have hk152 := blk_wr hk134 ho148 (by decide) (by omega) hx145;refine d1 6 s rfl rfl (op_call (args := #[pt b42 0, .bool y104.2.2]) (R := fun res xw => res = pt b42 0 ∧ OW b42 (((putH c r l ++ putOs (l.take i)) ++ (putL (y104.1.size : Int) ++ y104.1.data.toList)) ++ [flagB y104.2.2]) (27 + i * 35 + (9 + y104.1.size) + 1) xw ∧ But (Rw w143 b42) w143 xw) rfl rfl rfl (by kernel_rfl) (by kernel_rfl) (Tryz.call133 _ _) (ow_flag b42 ((putH c r l ++ putOs (l.take i)) ++ (putL (y104.1.size : Int) ++ y104.1.data.toList)) (27 + i * 35 + (9 + y104.1.size)) y104.2.2 w143 ho144 (by omega)) (by rintro e x ⟨rfl, h1, h2⟩; exact ⟨_, rfl, rfl, h1, h2⟩)) ?_ ?_
    ·
     rintro _ w154 ⟨rfl, ho155, hx156⟩;have hz157 := hx156.size;have hl158 := ho155.lt;have hB159 := hb_wr hB151 ho144 (by omega) hx156;have hk160 := blk_wr hk152 ho144 (by decide) (by omega) hx156;exact ⟨hB159, hk160⟩
    rintro _ w154 a153 ⟨rfl, ho155, hx156⟩ s;have hz157 := hx156.size;have hl158 := ho155.lt;have hB159 := hb_wr hB151 ho144 (by omega) hx156;have hk160 := blk_wr hk152 ho144 (by decide) (by omega) hx156;refine d1 9 s rfl rfl (op_call (args := #[pt b42 0, .string y104.2.1]) (R := fun res xw => res = pt b42 0 ∧ OW b42 ((((putH c r l ++ putOs (l.take i)) ++ (putL (y104.1.size : Int) ++ y104.1.data.toList)) ++ [flagB y104.2.2]) ++ (putL (y104.2.1.size : Int) ++ y104.2.1.data.toList)) (27 + i * 35 + (9 + y104.1.size) + 1 + (9 + y104.2.1.size)) xw ∧ But (Rw w154 b42) w154 xw) rfl rfl rfl (by kernel_rfl) (by kernel_rfl) (Tryz.call135 _ _) (ow_text b42 (((putH c r l ++ putOs (l.take i)) ++ (putL (y104.1.size : Int) ++ y104.1.data.toList)) ++ [flagB y104.2.2]) (27 + i * 35 + (9 + y104.1.size) + 1) y104.2.1 w154 ho155 (by first | omega | (simp; done) | (simp; omega))) (by rintro e x ⟨rfl, h1, h2⟩; exact ⟨_, rfl, rfl, h1, h2⟩)) ?_ ?_
    ·
     rintro _ w162 ⟨rfl, ho163, hx164⟩;have hz165 := hx164.size;have hl166 := ho163.lt;have hB167 := hb_wr hB159 ho155 (by omega) hx164;have hk168 := blk_wr hk160 ho155 (by decide) (by omega) hx164;exact ⟨hB167, hk168⟩
    rintro _ w162 a161 ⟨rfl, ho163, hx164⟩ s;have hz165 := hx164.size;have hl166 := ho163.lt;refine dr_done (by kernel_rfl) ?_;refine co_blockN <| co_then <| co_reg ?_;refine pk (v := .int .i64 ((i + 1 : Nat) : Int)) s rfl (rn_arith' rfl rfl rfl rfl rfl rfl (IntWalk.i64_in _ (by omega)) (by omega)) fun _ s => ?_;refine pk0 (v := .int .i64 ((i + 1 : Nat) : Int)) s rfl fun _ s => q1 ?_;refine ⟨(l.length - (i + 1)), by omega, ?_⟩;have hB169 := hb_wr hB159 ho155 (by omega) hx164;have hk170 := hk86.kept hg112 (by simp);have hk171 := hk170.kept hg121 (by simp; omega);have hk172 := hk171.kept hg124 (by simp);have hk173 := blk_wr hk172 ho148 (by decide) (by omega) hx145;have hk174 := blk_wr hk173 ho144 (by decide) (by omega) hx156;have hk175 := blk_wr hk174 ho155 (by decide) (by omega) hx164;exact ⟨i + 1, s.sub ⟨rfl, rfl, rfl, rfl, rfl, rfl, rfl, trivial⟩, rfl, by omega, (ho163.eq (by first | (simp [putH, putOs]; done) | (rw [takeO_at (by assumption)]; simp [putH, putOs, putO1])) (by first | omega | (simp; done) | (simp; omega))), hB169, hk175⟩
 rw [hc20] at s;have hp176 : chkB c r l ≠ 0 := by first | simpa using hc20 | simpa [and_assoc] using hc20
 refine co_true s rfl <| q2 ?_;refine pk0 (v := .int .i64 (chkB c r l)) s rfl fun _ s => ?_;refine pk0 (v := .string (⟨#[]⟩)) s rfl fun _ s => ?_;refine pk0 (v := .int .i64 (chkB c r l)) s rfl fun _ s => q5 ?_;refine co_ret2 s rfl rfl rfl ?_;exact ⟨by rw [putB_err (by assumption)], hB21⟩
end Go.Proofs.YtifknllhmbkkcaaGreat

/- Stores into a part of a block; walks that may turn some blocks that were there (S). Conditions: none. -/
namespace Go.Proofs.YtifknllhmbkkcaaGreat
open Go.RowKit
set_option linter.unusedVariables false

section
variable {P : Program} {n : Nat} {m : List (Nat × Value)} {w x w0 : World} {o : Oper} {N : Nat} {T : TypeId} {cs : Array Value} {S : Nat → Prop}
theorem fb_new (h : But S w0 w) (hg : w.grownBy x none) : But S w0 x := h.trans (But.of_below (grown_below hg))
theorem fb_call (h : But S w0 w) (hb : Below w.heap.size w x) : But S w0 x := h.trans (But.of_below hb)
theorem fb_at (h : But S w0 w) (hg : w.grownBy x (some N)) (hN : N < w0.heap.size → S N) : But S w0 x :=
  h.trans' (S' := fun k => some N = some k) (grown_but hg) (fun i hi e => by cases e; exact hN hi)
theorem fb_row {B sz k : Nat} {e : TypeId} {v : Value} {xs : List Value} (h : But S w0 w) (hr : w.ownsRow B e sz v k xs) (hB : w0.heap.size ≤ B) (hg : w.grownBy x v.ownBlock) : But S w0 x :=
  h.trans' (S' := fun k => v.ownBlock = some k) (grown_but hg) (fun i hi e => by have := (hr.lt i e).1; omega)
theorem fb_foot {S' : Nat → Prop} (h : But S w0 w) (hb : But S' w x) (hs : ∀ i, i < w0.heap.size → S' i → S i) : But S w0 x := h.trans' hb hs
theorem hb_foot {S' : Nat → Prop} (h : Below w0.heap.size w0 w) (hb : But S' w x) (hs : ∀ i, i < w.heap.size → S' i → w0.heap.size ≤ i) : Below w0.heap.size w0 x := below_but h hb h.size hs
theorem Blk.but (h : Blk w N T cs) (hb : But S w x) (hn : ¬ S N) : Blk x N T cs := by
  have hl := h.lt
  unfold Blk at h ⊢
  rw [hb.block N hl hn]; exact h
theorem OR.but {b : Nat} {s : ByteArray} {a e : Int} (h : OR b s a e w) (hb : But S w x) (hn : ¬ S b) : OR b s a e x := ⟨h.re.but hb hn, h.pos⟩
theorem OXR.but {b : Nat} {s : ByteArray} {a e : Int} (h : OXR b s a e w) (hb : But S w x) (hn : ¬ S b) : OXR b s a e x := ⟨h.re.but hb hn, h.pos⟩
theorem OX.but {b : Nat} {l : List UInt8} {mm : Nat} (h : OX b l mm w) (hb : But S w x) (hn : ¬ S b) : OX b l mm x := ⟨h.wr.but hb hn, h.len⟩
end
end Go.Proofs.YtifknllhmbkkcaaGreat

/- Package conf: the contracts once more, for packages over it; Put, Of. Conditions: none. -/
namespace Go.Proofs.YtifknllhmbkkcaaGreat
open Go.RowKit Go.PlainAid
set_option linter.unusedVariables false


def putCf (ep : Int) (ms : List MemT) (fl : Int) : ByteArray := if chkC ep ms = 0 then ⟨(putC ep ms fl).toArray⟩ else ⟨#[]⟩
theorem putCf_ok {ep fl : Int} {ms : List MemT} (h : chkC ep ms = 0) : putCf ep ms fl = ⟨(putC ep ms fl).toArray⟩ := by unfold putCf; rw [if_pos h]
theorem putCf_err {ep fl : Int} {ms : List MemT} (h : chkC ep ms ≠ 0) : putCf ep ms fl = ⟨#[]⟩ := by unfold putCf; rw [if_neg h]
theorem putCf_small {ep fl : Int} {ms : List MemT} : (putCf ep ms fl).size ≤ 200 := by
  by_cases h : chkC ep ms = 0
  · rw [putCf_ok h]
    show (putC ep ms fl).length ≤ _
    have h1 := putL_le ep; have h2 := putL_le (ms.length : Int); have h3 := putM_len ms; have h4 := putL_le fl; have h5 := (chkC_ok h).2.1
    unfold putC; simp only [List.length_append]; omega
  · rw [putCf_err h]; decide
theorem takeM_at {α : Type} {l : List α} {i : Nat} {y : α} (h : l[i]? = some y) : l.take (i + 1) = l.take i ++ [y] := by
  rw [List.take_add_one, h]; rfl
theorem wcheck_any (ep : Int) (mv : Value) (ms : List MemT) (fl : Int) (w : World) (hs : SliceOf memE 2 w mv ms) (hmk : ∀ m ∈ ms, memOk m) (he : -9223372036854775808 ≤ ep ∧ ep ≤ 9223372036854775807) (hf : 0 ≤ fl ∧ fl < 18446744073709551616) :
    Calls Tryz.prog 152 #[.agg #[.int .i64 ep, mv, .int .u64 fl]] w fun e w' => e = .returned (.int .i64 (chkC ep ms)) ∧ Below w.heap.size w w' := check_any ⟨ep, mv, ms, fl⟩ w ⟨hs, hmk, he.1, he.2, hf.1, hf.2⟩
set_option maxRecDepth 100000 in
theorem cPut_any (ep : Int) (mv : Value) (ms : List MemT) (fl : Int) (w : World) (hs : SliceOf memE 2 w mv ms) (hmk : ∀ m ∈ ms, memOk m) (he : -9223372036854775808 ≤ ep ∧ ep ≤ 9223372036854775807) (hf : 0 ≤ fl ∧ fl < 18446744073709551616) :
    Calls Tryz.prog 136 #[.agg #[.int .i64 ep, mv, .int .u64 fl]] w fun e w' => e = .returned (.tuple #[.string (putCf ep ms fl), .int .i64 (chkC ep ms)]) ∧ Below w.heap.size w w' := by
 have hcb : chkC ep ms = 0 → ((1 ≤ ep ∧ ep ≤ 1073741824) ∧ ms.length ≤ 4) := fun h => ⟨(chkC_ok h).1, (chkC_ok h).2.1.2⟩;have hB0 := Below.refl w.heap.size w;have hl_hs := sl_len hs;refine co_enter (n := 43) Tryz.func136 rfl rfl rfl [(0, .agg #[.int .i64 ep, mv, .int .u64 fl])] rfl (fun a s => ?_);refine q2 ?_;refine pw s rfl (op_new (v := fun N => pt N 0) (T := 59) (cs := #[.int .i64 ep, mv, .int .u64 fl]) (by kernel_rfl) (by kernel_rfl) (by kernel_rfl)) ?_;rintro _ w2 a1 ⟨N3, rfl, hN6, hz7, hk5, hg4⟩ s;have hz8 := hg4.size
 try dsimp only at s
 refine pk0 (v := .string (⟨#[]⟩)) s rfl fun _ s => ?_;refine pk0 (v := .int .i64 0) s rfl fun _ s => q6 ?_;refine pk (v := .agg #[.int .i64 ep, mv, .int .u64 fl]) s rfl (rn_loadN rfl rfl Tryz.underlying59 rfl (by kernel_rfl) hk5.all) fun _ s => ?_;have hB14 := hb_new hB0 hg4;refine pw s rfl (op_call (args := #[.agg #[.int .i64 ep, mv, .int .u64 fl]]) (R := fun res xw => res = .int .i64 (chkC ep ms) ∧ Below w2.heap.size w2 xw) rfl rfl rfl (by kernel_rfl) (by kernel_rfl) (Tryz.call152 _ _) (wcheck_any ep mv ms fl w2 (hs.below hB14) (by assumption) (by first | omega | (simp; done) | (simp; omega)) (by first | omega | (simp; done) | (simp; omega))) (by rintro e x ⟨rfl, hb15⟩; exact ⟨_, rfl, ⟨rfl, hb15⟩⟩)) ?_;rintro _ w13 a12 ⟨rfl, hb15⟩ s;have hz16 := hb15.size;refine pk0 (v := .int .i64 (chkC ep ms)) s rfl fun _ s => q3 ?_;refine pk0 (v := .int .i64 (chkC ep ms)) s rfl fun _ s => ?_;refine pk0 (v := .bool (chkC ep ms != 0)) s rfl fun _ s => q1 ?_;have hB21 := hb_call hB14 hb15;cases hc20 : (chkC ep ms != 0)
 ·
  rw [hc20] at s;have hp22 : ¬ (chkC ep ms ≠ 0) := by first | simpa using hc20 | simpa [and_assoc] using hc20
  refine co_false s rfl <| q0 <| co_seq ?_;refine dr_gen (fun x => Below w.heap.size w x ∧ Blk x N3 59 #[.int .i64 ep, mv, .int .u64 fl]) (by kernel_rfl) (fun w23 hg24 => ?_) (fun w23 hg24 => ?_)
  ·
   have hz25 := hg24.size;have hB26 := hb_new hB21 hg24;have hk27 := hk5.below hb15;have hk28 := hk27.kept hg24 (by simp);exact ⟨hB26, hk28⟩
  have hz29 := hg24.size;have hB30 := hb_new hB21 hg24;have hk31 := hk5.below hb15;have hk32 := hk31.kept hg24 (by simp);refine dk0 1 (v := pt N3 0) s rfl rfl ⟨hB30, hk32⟩ fun _ s => ?_;refine dk 2 (v := .int .i64 ep) s rfl rfl ⟨hB30, hk32⟩ (fun x hx => (rn_load1 rfl rfl Tryz.isAgg3 (hx.2.cell rfl))) fun _ s => ?_;refine dk0 4 (v := pt N3 1) s rfl rfl ⟨hB30, hk32⟩ fun _ s => ?_;refine dk 5 (v := mv) s rfl rfl ⟨hB30, hk32⟩ (fun x hx => (rn_load1 rfl rfl Tryz.isAgg57 (hx.2.cell rfl))) fun _ s => ?_;refine dk 6 (v := .int .i64 (ms.length : Int)) s rfl rfl ⟨hB30, hk32⟩ (fun x hx => (rn_len rfl rfl Tryz.underlying57 (hs.below hx.1))) fun _ s => ?_;refine d1 0 s rfl rfl (op_call (args := #[]) (R := fun res xw => ∃ b : Nat, res = pt b 0 ∧ b = w23.heap.size ∧ OW b [] 0 xw ∧ Below w23.heap.size w23 xw) rfl rfl rfl (by kernel_rfl) (by kernel_rfl) (Tryz.call90 _ _) (ow_new w23) (by rintro e x ⟨b, rfl, h0, h1, h2⟩; exact ⟨_, rfl, b, rfl, h0, h1, h2⟩)) ?_ ?_
  ·
   rintro _ w39 ⟨b40, rfl, hN41, ho42, hb43⟩;have hz44 := hb43.size;have hl45 := ho42.lt;have hB46 := hb_call hB30 hb43;have hk47 := hk32.below hb43;exact ⟨hB46, hk47⟩
  rintro _ w39 a38 ⟨b40, rfl, hN41, ho42, hb43⟩ s;have hz44 := hb43.size;have hl45 := ho42.lt;have hB46 := hb_call hB30 hb43;have hk47 := hk32.below hb43;refine d1 3 s rfl rfl (op_call (args := #[pt b40 0, .int .i64 ep]) (R := fun res xw => res = pt b40 0 ∧ OW b40 (([] : List UInt8) ++ putL ep) (0 + 9) xw ∧ But (Rw w39 b40) w39 xw) rfl rfl rfl (by kernel_rfl) (by kernel_rfl) (Tryz.call91 _ _) (ow_num b40 ([]) 0 ep w39 ho42 (by omega) (by omega) (by omega)) (by rintro e x ⟨rfl, h1, h2⟩; exact ⟨_, rfl, rfl, h1, h2⟩)) ?_ ?_
  ·
   rintro _ w49 ⟨rfl, ho50, hx51⟩;have hz52 := hx51.size;have hl53 := ho50.lt;have hB54 := hb_wr hB46 ho42 (by omega) hx51;have hk55 := blk_wr hk47 ho42 (by decide) (by omega) hx51;exact ⟨hB54, hk55⟩
  rintro _ w49 a48 ⟨rfl, ho50, hx51⟩ s;have hz52 := hx51.size;have hl53 := ho50.lt;have hB54 := hb_wr hB46 ho42 (by omega) hx51;have hk55 := blk_wr hk47 ho42 (by decide) (by omega) hx51;refine d1 7 s rfl rfl (op_call (args := #[pt b40 0, .int .i64 (ms.length : Int)]) (R := fun res xw => res = pt b40 0 ∧ OW b40 ((([] : List UInt8) ++ putL ep) ++ putL (ms.length : Int)) (0 + 9 + 9) xw ∧ But (Rw w49 b40) w49 xw) rfl rfl rfl (by kernel_rfl) (by kernel_rfl) (Tryz.call91 _ _) (ow_num b40 (([] : List UInt8) ++ putL ep) (0 + 9) (ms.length : Int) w49 ho50 (by omega) (by omega) (by omega)) (by rintro e x ⟨rfl, h1, h2⟩; exact ⟨_, rfl, rfl, h1, h2⟩)) ?_ ?_
  ·
   rintro _ w57 ⟨rfl, ho58, hx59⟩;have hz60 := hx59.size;have hl61 := ho58.lt;have hB62 := hb_wr hB54 ho50 (by omega) hx59;have hk63 := blk_wr hk55 ho50 (by decide) (by omega) hx59;exact ⟨hB62, hk63⟩
  rintro _ w57 a56 ⟨rfl, ho58, hx59⟩ s;have hz60 := hx59.size;have hl61 := ho58.lt;have hB62 := hb_wr hB54 ho50 (by omega) hx59;have hk63 := blk_wr hk55 ho50 (by decide) (by omega) hx59;refine dk0 8 (v := pt b40 0) s rfl rfl ⟨hB62, hk63⟩ fun _ s => ?_;refine dr_done (by kernel_rfl) ?_;refine co_then <| q9 ?_;refine pk0 (v := pt N3 1) s rfl fun _ s => ?_;refine pk (v := mv) s rfl (rn_load1 rfl rfl Tryz.isAgg57 (hk63.cell rfl)) fun _ s => ?_;refine pk (v := .int .i64 (ms.length : Int)) s rfl (rn_len rfl rfl Tryz.underlying57 (hs.below hB62)) fun _ s => ?_;refine pk0 (v := .int .i64 0) s rfl fun _ s => q1 <| wp_block ?_;have hck := (chkC_ok (ep := ep) (ms := ms) (by omega)).2.2.2;have s : Slots 43 [(1, pt N3 0), (2, .string (⟨#[]⟩)), (3, .int .i64 0), (5, pt b40 0), (22, mv), (23, .int .i64 (ms.length : Int)), (24, .int .i64 0)] _ := s.sub ⟨rfl, rfl, rfl, rfl, rfl, rfl, rfl, trivial⟩;refine co_loop (fun mm a x => ∃ (i : Nat), Slots 43 [(1, pt N3 0), (2, .string (⟨#[]⟩)), (3, .int .i64 0), (5, pt b40 0), (22, mv), (23, .int .i64 (ms.length : Int)), (24, .int .i64 (i : Int))] a ∧ mm = ms.length - i ∧ (i ≤ ms.length) ∧ OW b40 (putL ep ++ putL (ms.length : Int) ++ putM (ms.take i)) (18 + i * 18) x ∧ Below w.heap.size w x ∧ Blk x N3 59 #[.int .i64 ep, mv, .int .u64 fl]) (ms.length - 0) ?_ ?_
  · exact ⟨0, s.sub ⟨rfl, rfl, rfl, rfl, rfl, rfl, (slot_eq rfl (congrArg (Value.int .i64) (by first | rfl | omega))), trivial⟩, rfl, by omega, (ho58.eq (by first | (simp [putM]; done) | (rw [takeM_at (by assumption)]; simp [putM])) (by first | omega | (simp; done) | (simp; omega))), hB62, hk63⟩
  · rintro k70 a71 w72 ⟨i, s, rfl, hi73, hf74, hB75, hk76⟩
    have hz77 := hB75.size;have hl78 := hk76.lt;have hl79 := hf74.lt;refine q2 ?_;refine pk0 (v := .bool (decide ((i : Int) < (ms.length : Int)))) s rfl fun _ s => q1 <| co_seq ?_;cases hc81 : (decide ((i : Int) < (ms.length : Int)))
    ·
     rw [hc81] at s;have hp82 : ¬ ((i : Int) < (ms.length : Int)) := of_decide_eq_false hc81;refine co_false s rfl <| wp_exit <| co_thenX <| co_thenX <| qx <| q2 ?_;refine pk0 (v := pt b40 0) s rfl fun _ s => ?_;refine pk0 (v := pt N3 2) s rfl fun _ s => ?_;refine pk (v := .int .u64 fl) s rfl (rn_load1 rfl rfl Tryz.isAgg32 (hk76.cell rfl)) fun _ s => ?_;refine pw s rfl (op_call (args := #[pt b40 0, .int .u64 fl]) (R := fun res xw => res = pt b40 0 ∧ OW b40 ((putL ep ++ putL (ms.length : Int) ++ putM (ms.take i)) ++ putL fl) (18 + i * 18 + 9) xw ∧ But (Rw w72 b40) w72 xw) rfl rfl rfl (by kernel_rfl) (by kernel_rfl) (Tryz.call134 _ _) (ow_big b40 (putL ep ++ putL (ms.length : Int) ++ putM (ms.take i)) (18 + i * 18) fl w72 hf74 (by omega) (by omega) (by omega)) (by rintro e x ⟨rfl, h1, h2⟩; exact ⟨_, rfl, rfl, h1, h2⟩)) ?_;rintro _ w87 a86 ⟨rfl, ho88, hx89⟩ s;have hz90 := hx89.size;have hl91 := ho88.lt;refine pw s rfl (op_call (args := #[pt b40 0]) (R := fun res xw => res = .tuple #[.string (⟨((putL ep ++ putL (ms.length : Int) ++ putM (ms.take i)) ++ putL fl).toArray⟩), .int .i64 0] ∧ Below w87.heap.size w87 xw) rfl rfl rfl (by kernel_rfl) (by kernel_rfl) (Tryz.call93 _ _) (ow_done b40 ((putL ep ++ putL (ms.length : Int) ++ putM (ms.take i)) ++ putL fl) (18 + i * 18 + 9) w87 ho88) (by rintro e x ⟨rfl, h2⟩; exact ⟨_, rfl, rfl, h2⟩)) ?_;rintro _ w93 a92 ⟨rfl, hb94⟩ s;have hz95 := hb94.size;refine pk0 (v := .string (⟨((putL ep ++ putL (ms.length : Int) ++ putM (ms.take i)) ++ putL fl).toArray⟩)) s rfl fun _ s => ?_;refine pk0 (v := .int .i64 0) s rfl fun _ s => ?_;refine pk0 (v := .string (⟨((putL ep ++ putL (ms.length : Int) ++ putM (ms.take i)) ++ putL fl).toArray⟩)) s rfl fun _ s => ?_;refine pk0 (v := .int .i64 0) s rfl fun _ s => q4 ?_;refine co_ret2 s rfl rfl rfl ?_;have hB100 := hb_wr hB75 hf74 (by omega) hx89;have hB101 := hb_call hB100 hb94;exact ⟨by rw [putCf_ok (by omega), show chkC ep ms = 0 by omega, List.take_of_length_le (show ms.length ≤ i by omega)]; simp [putC], hB101⟩
    rw [hc81] at s;have hp102 : (i : Int) < (ms.length : Int) := of_decide_eq_true hc81;refine co_true s rfl <| q0 <| co_seq <| wp_block <| q2 ?_;obtain ⟨y103, hy103⟩ : ∃ z, ms[i]? = some z := ⟨_, List.getElem?_eq_getElem (by first | omega | (simp; done) | (simp; omega))⟩;have oky103 := hck _ (List.mem_of_getElem? hy103);have k104 : (0 ≤ y103.1 ∧ y103.1 < 4) ∧ (1 ≤ y103.2 ∧ y103.2 ≤ 1073741824) := oky103;refine pk (v := pt (blkOf mv) (offOf mv + i * 2)) s rfl (rn_index rfl rfl rfl Tryz.underlying57 Tryz.sizeOf181 (hs.below hB75) (by omega) (by first | omega | (simp; done) | (simp; omega))) fun _ s => ?_;refine pk (v := .agg #[.int .i64 y103.1, .int .i64 y103.2]) s rfl (rn_loadN rfl rfl Tryz.underlying181 rfl (by kernel_rfl) (sl_at (hs.below hB75) hy103)) fun _ s => ?_;refine pw s rfl (op_new (v := fun N => pt N 0) (T := 181) (cs := #[.int .i64 0, .int .i64 0]) (by kernel_rfl) (by kernel_rfl) (by kernel_rfl)) ?_;rintro _ w108 a107 ⟨N109, rfl, hN112, hz113, hk111, hg110⟩ s;have hz114 := hg110.size
    try dsimp only at s
    refine pwD s rfl (op_storeN rfl rfl rfl (by kernel_rfl) (by kernel_rfl) hk111 rfl) ?_;rintro _ w116 a115 ⟨hk117, hz118, hg119⟩ s;have hk117' : Blk w116 N109 181 #[.int .i64 y103.1, .int .i64 y103.2] := hk117;have hz120 := hg119.size;refine q1 ?_;refine dr_gen (fun x => Below w.heap.size w x ∧ Blk x N109 181 #[.int .i64 y103.1, .int .i64 y103.2]) (by kernel_rfl) (fun w121 hg122 => ?_) (fun w121 hg122 => ?_)
    ·
     have hz123 := hg122.size;have hB124 := hb_new hB75 hg110;have hB125 := hb_at hB124 hg119 (by omega);have hB126 := hb_new hB125 hg122;have hk127 := hk117'.kept hg122 (by simp);exact ⟨hB126, hk127⟩
    have hz128 := hg122.size;have hB129 := hb_new hB75 hg110;have hB130 := hb_at hB129 hg119 (by omega);have hB131 := hb_new hB130 hg122;have hk132 := hk117'.kept hg122 (by simp);refine dk0 0 (v := pt b40 0) s rfl rfl ⟨hB131, hk132⟩ fun _ s => ?_;refine dk0 1 (v := pt N109 0) s rfl rfl ⟨hB131, hk132⟩ fun _ s => ?_;refine dk 2 (v := .int .i64 y103.1) s rfl rfl ⟨hB131, hk132⟩ (fun x hx => (rn_load1 rfl rfl Tryz.isAgg3 (hx.2.cell rfl))) fun _ s => ?_;refine dk0 4 (v := pt N109 1) s rfl rfl ⟨hB131, hk132⟩ fun _ s => ?_;refine dk 5 (v := .int .i64 y103.2) s rfl rfl ⟨hB131, hk132⟩ (fun x hx => (rn_load1 rfl rfl Tryz.isAgg3 (hx.2.cell rfl))) fun _ s => ?_;have ho142 := hf74.new hg110;have ho143 := ho142.at hk111 (by decide) (by omega) hg119;have ho144 := ho143.new hg122;refine d1 3 s rfl rfl (op_call (args := #[pt b40 0, .int .i64 y103.1]) (R := fun res xw => res = pt b40 0 ∧ OW b40 ((putL ep ++ putL (ms.length : Int) ++ putM (ms.take i)) ++ putL y103.1) (18 + i * 18 + 9) xw ∧ But (Rw w121 b40) w121 xw) rfl rfl rfl (by kernel_rfl) (by kernel_rfl) (Tryz.call91 _ _) (ow_num b40 (putL ep ++ putL (ms.length : Int) ++ putM (ms.take i)) (18 + i * 18) y103.1 w121 ho144 (by omega) (by omega) (by omega)) (by rintro e x ⟨rfl, h1, h2⟩; exact ⟨_, rfl, rfl, h1, h2⟩)) ?_ ?_
    ·
     rintro _ w139 ⟨rfl, ho140, hx141⟩;have hz145 := hx141.size;have hl146 := ho140.lt;have hB147 := hb_wr hB131 ho144 (by omega) hx141;have hk148 := blk_wr hk132 ho144 (by decide) (by omega) hx141;exact ⟨hB147, hk148⟩
    rintro _ w139 a138 ⟨rfl, ho140, hx141⟩ s;have hz145 := hx141.size;have hl146 := ho140.lt;have hB147 := hb_wr hB131 ho144 (by omega) hx141;have hk148 := blk_wr hk132 ho144 (by decide) (by omega) hx141;refine d1 6 s rfl rfl (op_call (args := #[pt b40 0, .int .i64 y103.2]) (R := fun res xw => res = pt b40 0 ∧ OW b40 (((putL ep ++ putL (ms.length : Int) ++ putM (ms.take i)) ++ putL y103.1) ++ putL y103.2) (18 + i * 18 + 9 + 9) xw ∧ But (Rw w139 b40) w139 xw) rfl rfl rfl (by kernel_rfl) (by kernel_rfl) (Tryz.call91 _ _) (ow_num b40 ((putL ep ++ putL (ms.length : Int) ++ putM (ms.take i)) ++ putL y103.1) (18 + i * 18 + 9) y103.2 w139 ho140 (by omega) (by omega) (by omega)) (by rintro e x ⟨rfl, h1, h2⟩; exact ⟨_, rfl, rfl, h1, h2⟩)) ?_ ?_
    ·
     rintro _ w150 ⟨rfl, ho151, hx152⟩;have hz153 := hx152.size;have hl154 := ho151.lt;have hB155 := hb_wr hB147 ho140 (by omega) hx152;have hk156 := blk_wr hk148 ho140 (by decide) (by omega) hx152;exact ⟨hB155, hk156⟩
    rintro _ w150 a149 ⟨rfl, ho151, hx152⟩ s;have hz153 := hx152.size;have hl154 := ho151.lt;refine dr_done (by kernel_rfl) ?_;refine co_blockN <| co_then <| co_reg ?_;refine pk (v := .int .i64 ((i + 1 : Nat) : Int)) s rfl (rn_arith' rfl rfl rfl rfl rfl rfl (IntWalk.i64_in _ (by omega)) (by omega)) fun _ s => ?_;refine pk0 (v := .int .i64 ((i + 1 : Nat) : Int)) s rfl fun _ s => q1 ?_;refine ⟨(ms.length - (i + 1)), by omega, ?_⟩;have hB157 := hb_wr hB147 ho140 (by omega) hx152;have hk158 := hk76.kept hg110 (by simp);have hk159 := hk158.kept hg119 (by simp; omega);have hk160 := hk159.kept hg122 (by simp);have hk161 := blk_wr hk160 ho144 (by decide) (by omega) hx141;have hk162 := blk_wr hk161 ho140 (by decide) (by omega) hx152;exact ⟨i + 1, s.sub ⟨rfl, rfl, rfl, rfl, rfl, rfl, rfl, trivial⟩, rfl, by omega, (ho151.eq (by first | (simp [putM]; done) | (rw [takeM_at (by assumption)]; simp [putM])) (by first | omega | (simp; done) | (simp; omega))), hB157, hk162⟩
 rw [hc20] at s;have hp163 : chkC ep ms ≠ 0 := by first | simpa using hc20 | simpa [and_assoc] using hc20
 refine co_true s rfl <| q2 ?_;refine pk0 (v := .int .i64 (chkC ep ms)) s rfl fun _ s => ?_;refine pk0 (v := .string (⟨#[]⟩)) s rfl fun _ s => ?_;refine pk0 (v := .int .i64 (chkC ep ms)) s rfl fun _ s => q5 ?_;refine co_ret2 s rfl rfl rfl ?_;exact ⟨by rw [putCf_err (by assumption)], hB21⟩
end Go.Proofs.YtifknllhmbkkcaaGreat

/- Slices of any elements that came in, opened by their readings. Conditions: none. -/
namespace Go.Proofs.YtifknllhmbkkcaaGreat
open Go.RowKit Go.ChangeShapes Go.WideShapes Go.Deep

section
variable {H : Type} {enc : TypeId × Value → H} {P : Program} {w : World} {base : Nat} {spare : Nat → Bool} {held : Bool}
theorem open_rows {α : Type} [Inhabited α] {t e : TypeId} {fuel : Nat} {cs : List Value} {x : DataW H × List MemPlace} (E : α → List Value) (sz : Nat) (good : α → Prop)
    (ht : P.underlying t = some (.slice e)) (hC : P.cellsOf e = sz) (hpos : 0 < sz)
    (elem : ∀ n cs x, DataW.trod enc P w base spare held n e cs = some x → ∃ a : α, cs = E a ∧ good a)
    (h : DataW.trod enc P w base spare held fuel t cs = some x) :
    ∃ (l : List α) (v : Value), cs = [v] ∧ SliceOf E sz w v l ∧ ∀ a ∈ l, good a := by
  rcases open_slice ht h with ⟨hcs, _⟩ | ⟨a, len, cap, m, n, D, Pl, hcs, _, hl, hm, hmm, _, hi⟩
  · exact ⟨[], _, hcs, SliceOf.nil _ _ _, by simp⟩
  · have hlm : len ≤ m := by rw [hmm]; split <;> omega
    rw [hC] at hi
    obtain ⟨f, hf⟩ := choose_lt (α := α) (n := len) (p := fun i y => (∀ j u, (E y)[j]? = some u → w.cell? ((a.add (i * sz)).add j) = some u) ∧ good y ∧ (E y).length = sz) (fun i hilt => by
      obtain ⟨cs', hc, ht'⟩ := hi i (by omega)
      obtain ⟨y, rfl, hg⟩ := elem n cs' _ ht'
      obtain ⟨_, hcl, hat⟩ := World.cells?_some hc
      exact ⟨y, fun j u hu => by
        have hj : j < (E y).length := (List.getElem?_eq_some_iff.1 hu).1
        rw [hat j (by omega), hu], hg, hcl⟩)
    refine ⟨(List.range len).map f, _, hcs, ⟨some a, cap, by simp, by simpa using hl, by unfold maxLen at hm; omega, fun h => (by cases h), fun j hj => ?_⟩, fun y hy => ?_⟩
    · have hj' : j < len := by simpa using hj
      obtain ⟨b, off, spot⟩ := a
      have hspot : spot = none := by
        obtain ⟨h1, _, h3⟩ := hf 0 (by omega)
        have hc0 := h1 0 _ (List.getElem?_eq_getElem (show 0 < (E (f 0)).length by omega))
        simpa [Addr.add] using World.cell?_spot hc0
      subst hspot
      refine ⟨b, off, rfl, fun i u hu => ?_⟩
      have := (hf j hj').1 i u (by simpa using hu)
      rw [Addr.add_lit, Addr.add_lit] at this
      exact this
    · obtain ⟨i, hi', rfl⟩ := List.mem_map.1 hy
      exact (hf i (List.mem_range.1 hi')).2.1
/-- A struct of one-cell fields: each field's cell, and its reading. -/
theorem trod_fields {t : TypeId} {fs : Array Field} {fuel : Nat} {cs : List Value} {x : DataW H × List MemPlace} (hs : P.underlying t = some (.struct fs)) (hone : oneCellFields P fs = true) (hC : P.cellsOf t = fs.size)
    (h : DataW.trod enc P w base spare held fuel t cs = some x) :
    cs.length = fs.size ∧ ∃ m, ∀ (j : Nat) (f : Field), fs[j]? = some f → ∃ c y, cs[j]? = some c ∧ DataW.trod enc P w base spare held m f.type [c] = some y := by
  obtain ⟨xs, m, _, _, hl, hx, hf⟩ := DataW.trod_struct hs h
  rw [hC] at hl
  refine ⟨hl, m, fun j f hj => ?_⟩
  have hjl : j < fs.size := (Array.getElem?_eq_some_iff.1 hj).1
  obtain ⟨o, k⟩ := hone_of hone j f hj
  have h1 := hf j f hj
  rw [o, k, List.drop_eq_getElem_cons (by omega), List.take_succ_cons, List.take_zero, List.getElem?_eq_getElem (by omega)] at h1
  exact ⟨_, _, List.getElem?_eq_getElem (by omega), h1⟩
end
end Go.Proofs.YtifknllhmbkkcaaGreat

/- Entries of a log that came in (over the texts of ops): a batch (client, request, operations), a timestamp; with how much they hold. Conditions: none. -/
namespace Go.Proofs.YtifknllhmbkkcaaGreat
open Go.RowKit Go.ChangeShapes Go.WideShapes Go.Deep Go.PlainAid

def opOk (o : OpT) : Prop := o.1.size ≤ 9223372036854775807 ∧ o.2.1.size ≤ 9223372036854775807
/-- An entry: client, request, the operations' slice as a value and as a list, timestamp. -/
structure EntT where
  client : Int
  req : Int
  ops : Value
  opl : List OpT
  ts : Int
instance : Inhabited EntT := ⟨⟨0, 0, .slice none 0 0, [], 0⟩⟩
def entE (e : EntT) : List Value := [.int .i64 e.client, .int .i64 e.req, e.ops, .int .u64 e.ts]
/-- What is known of an entry that came in. -/
structure EntOk (w : World) (e : EntT) : Prop where
  ops : SliceOf opE 3 w e.ops e.opl
  each : ∀ o ∈ e.opl, opOk o
  ts0 : 0 ≤ e.ts
  ts1 : e.ts < 18446744073709551616
  cl : (Lit.int .i64 e.client).wf = true
  rq : (Lit.int .i64 e.req).wf = true
theorem EntOk.below {w w' : World} {e : EntT} (h : EntOk w e) (hb : Below w.heap.size w w') : EntOk w' e := ⟨h.ops.below hb, h.each, h.ts0, h.ts1, h.cl, h.rq⟩
section
variable {H : Type} {enc : TypeId × Value → H} {w : World} {base : Nat} {spare : Nat → Bool} {held : Bool}
set_option maxRecDepth 10000 in
theorem elem_opS (n : Nat) (cs : List Value) (x : DataW H × List MemPlace) (h : DataW.trod enc Tryz.prog w base spare held n 146 cs = some x) : ∃ p : OpT, cs = opE p ∧ opOk p := by
  obtain ⟨hl, m, hf⟩ := trod_fields Tryz.underlying146 (by kernel_rfl) (by kernel_rfl) h
  have hl3 : cs.length = 3 := hl
  clear hl
  match cs, hl3 with
  | [c0, c1, c2], _ =>
    obtain ⟨_, y0, e0, h0⟩ := hf 0 _ rfl
    obtain ⟨_, y1, e1, h1⟩ := hf 1 _ rfl
    obtain ⟨_, y2, e2, h2⟩ := hf 2 _ rfl
    cases e0; cases e1; cases e2
    obtain ⟨a, e0, _, w0⟩ := DataW.trod_string Tryz.underlying9 h0
    obtain ⟨b, e1, _, w1⟩ := DataW.trod_string Tryz.underlying9 h1
    obtain ⟨c, e2, _⟩ := DataW.trod_bool Tryz.underlying4 h2
    simp only [List.cons.injEq, and_true] at e0 e1 e2
    subst e0 e1 e2
    exact ⟨(a, b, c), rfl, by unfold maxLen at w0; exact w0, by unfold maxLen at w1; exact w1⟩
theorem open_opsS {fuel : Nat} {cs : List Value} {x : DataW H × List MemPlace} (h : DataW.trod enc Tryz.prog w base spare held fuel 33 cs = some x) :
    ∃ (l : List OpT) (v : Value), cs = [v] ∧ SliceOf opE 3 w v l ∧ ∀ p ∈ l, opOk p :=
  open_rows opE 3 opOk Tryz.underlying33 (by kernel_rfl) (by omega) elem_opS h
end
section
variable {H : Type} {enc : TypeId × Value → H} {P : Program} {w : World} {base : Nat} {spare : Nat → Bool} {held : Bool}
end
section
variable {H : Type} {enc : TypeId × Value → H} {w : World} {base : Nat} {spare : Nat → Bool} {held : Bool}
end

end Go.Proofs.YtifknllhmbkkcaaGreat

/- Maps that the call makes: a list of keys and values; lookups, stores, deletes, lengths. Conditions: none. -/
namespace Go.Proofs.YtifknllhmbkkcaaGreat
open Go.RowKit

section
variable {K : Type} [DecidableEq K]
/-- The place and the value of a key. -/
def lookK (a : K) : List (K × Value) → Nat → Option (Nat × Value)
  | [], _ => none
  | p :: r, i => if a = p.1 then some (i, p.2) else lookK a r (i + 1)
def getK (l : List (K × Value)) (a : K) : Option Value := (lookK a l 0).map (·.2)
theorem lookK_shift (a : K) : ∀ (l : List (K × Value)) (i j : Nat), lookK a l (i + j) = (lookK a l j).map fun p => (i + p.1, p.2)
  | [], _, _ => rfl
  | p :: r, i, j => by
    unfold lookK
    split
    · rfl
    · rw [Nat.add_assoc]; exact lookK_shift a r i (j + 1)
theorem getK_cons (p : K × Value) (l : List (K × Value)) (b : K) : getK (p :: l) b = if b = p.1 then some p.2 else getK l b := by
  simp only [getK, lookK]
  split
  · rfl
  · rw [show (0 : Nat) + 1 = 1 + 0 from rfl, lookK_shift]; cases lookK b l 0 <;> rfl
@[simp] theorem getK_nil (b : K) : getK ([] : List (K × Value)) b = none := rfl
end

section
variable {K : Type}
variable {P : Program} {n : Nat} {m : List (Nat × Value)} {w x : World} {o : Oper} {B : Nat} {l : List (K × Value)} {kv : K → Value} {kt e t : TypeId} {q r : Operand} {a : K}
/-- Block B is a map that holds just these entries. -/
def MapB (kv : K → Value) (w : World) (B : Nat) (l : List (K × Value)) : Prop :=
  ∃ es clock, w.heap[B]? = some (.map es clock) ∧ es.toList.map (fun e => (e.key, e.val)) = l.map (fun p => (kv p.1, p.2)) ∧ (l.map (·.1)).Nodup ∧ (es.toList.map (·.born)).Nodup ∧ ∀ e ∈ es.toList, e.born < clock
theorem MapB.lt (h : MapB kv w B l) : B < w.heap.size := by obtain ⟨_, _, h, _⟩ := h; exact (Array.getElem?_eq_some_iff.1 h).1
theorem MapB.keys (h : MapB kv w B l) : (l.map (·.1)).Nodup := by obtain ⟨_, _, _, _, h, _⟩ := h; exact h
theorem MapB.kept {row : Option Nat} (h : MapB kv w B l) (hg : w.grownBy x row) (hne : row ≠ some B) : MapB kv x B l := by
  obtain ⟨es, c, h1, h2⟩ := h
  exact ⟨es, c, by rw [hg.block B (Array.getElem?_eq_some_iff.1 h1).1 (fun e => hne e.symm)]; exact h1, h2⟩
theorem MapB.below (h : MapB kv w B l) (hb : Below w.heap.size w x) : MapB kv x B l := h.kept (below_grown hb) (by simp)
end

section
variable {K : Type} [DecidableEq K]
variable {P : Program} {n : Nat} {m : List (Nat × Value)} {w x : World} {o : Oper} {B : Nat} {l : List (K × Value)} {kv : K → Value} {kt e t : TypeId} {q r : Operand} {a : K}
end
end Go.Proofs.YtifknllhmbkkcaaGreat

/- Maps that the call makes, told by a function that says what each key has (a default for those that are not there). Conditions: none. -/
namespace Go.Proofs.YtifknllhmbkkcaaGreat
open Go.RowKit

section
variable {K V : Type} {P : Program} {n : Nat} {m : List (Nat × Value)} {w x : World} {o : Oper} {B : Nat} {kv : K → Value} {kt e t : TypeId} {q r : Operand} {a : K} {enc : V → Value} {z : V} {g : K → V}

/-- Block B is a map; a key a has g a (z, if it is not there). -/
def MapG [DecidableEq K] (kv : K → Value) (enc : V → Value) (z : V) (w : World) (B : Nat) (g : K → V) : Prop := ∃ l, MapB kv w B l ∧ ∀ a, (getK l a).getD (enc z) = enc (g a)
variable [DecidableEq K]
theorem MapG.lt (h : MapG kv enc z w B g) : B < w.heap.size := by obtain ⟨l, h, _⟩ := h; exact h.lt
theorem MapG.kept {row : Option Nat} (h : MapG kv enc z w B g) (hg : w.grownBy x row) (hne : row ≠ some B) : MapG kv enc z x B g := by
  obtain ⟨l, h1, h2⟩ := h; exact ⟨l, h1.kept hg hne, h2⟩
theorem MapG.below (h : MapG kv enc z w B g) (hb : Below w.heap.size w x) : MapG kv enc z x B g := h.kept (below_grown hb) (by simp)
theorem MapG.row {B' : Nat} {T : TypeId} {sz k : Nat} {v : Value} {xs : List Value} (h : MapG kv enc z w B g) (hr : w.ownsRow B' T sz v k xs) : v.ownBlock ≠ some B := by
  intro e1
  obtain ⟨l, ⟨es, c, h1, _⟩, _⟩ := h
  rcases hr.2 with ⟨rfl, _⟩ | ⟨g1, _, _, rfl, _, hg1, _⟩
  · simp [Value.ownBlock] at e1
  · simp [Value.ownBlock] at e1
    subst e1; rw [h1] at hg1; cases hg1
end
end Go.Proofs.YtifknllhmbkkcaaGreat
