/- Package conf and the document's own: what is wrong with a configuration. Conditions: none. -/
import Derived.Test.YtlbemlodcdgakaaConfASh
import Derived.Deep.RegionHeld3
namespace Go.Proofs.Ytlbemlodcdgakaa
open Go.RowKit Go.PlainAid

def badId (m : MemT) : Prop := m.1 < 0 ∨ 4 ≤ m.1
def badSer (m : MemT) : Prop := m.2 < 1 ∨ 1073741824 < m.2
instance (m : MemT) : Decidable (badId m) := by unfold badId; infer_instance
instance (m : MemT) : Decidable (badSer m) := by unfold badSer; infer_instance
def chkM : List MemT → List MemT → Int
  | _, [] => 0
  | pre, m :: r => if badId m then 1 else if badSer m then 5 else if 0 ≤ fnd (fun o => o.1 == m.1) pre then 18 else chkM (pre ++ [m]) r
def chkC (ep : Int) (ms : List MemT) : Int := if ep < 1 ∨ 1073741824 < ep then 5 else if ms.length = 0 then 7 else if 4 < ms.length then 6 else chkM [] ms
theorem takeS {α : Type} {l : List α} {i : Nat} (h : i < l.length) : l.take (i + 1) = l.take i ++ [l[i]] := by
  rw [List.take_add_one, List.getElem?_eq_getElem h]; rfl
theorem chkM_at {ms : List MemT} {i : Nat} (h : i < ms.length) : chkM (ms.take i) (ms.drop i) = if badId ms[i] then 1 else if badSer ms[i] then 5 else if 0 ≤ fnd (fun o => o.1 == ms[i].1) (ms.take i) then 18 else chkM (ms.take (i + 1)) (ms.drop (i + 1)) := by
  rw [List.drop_eq_getElem_cons h, takeS h]; rfl
theorem chkM_end {ms : List MemT} {i : Nat} (h : ms.length ≤ i) : chkM (ms.take i) (ms.drop i) = 0 := by
  rw [List.drop_eq_nil_of_le h]; rfl
theorem SliceOf.takeN {α : Type} {enc : α → List Value} {sz : Nat} {w : World} {ao : Option Addr} {cap : Nat} {l : List α} (h : SliceOf enc sz w (.slice ao l.length cap) l) (i : Nat) (hi : i ≤ l.length) : SliceOf enc sz w (.slice ao i cap) (l.take i) := by
  obtain ⟨ao', cap', hv, h1, h2, h3, h4⟩ := h
  injection hv with e1 e2 e3
  subst e1 e3
  have hl : (l.take i).length = i := by rw [List.length_take]; omega
  refine ⟨ao, cap, by rw [hl], by omega, h2, fun e => ⟨by have := (h3 e).1; omega, (h3 e).2⟩, fun j hj => ?_⟩
  obtain ⟨b, off, e, hr⟩ := h4 j (by omega)
  refine ⟨b, off, e, ?_⟩
  rw [List.getElem_take]; exact hr
end Go.Proofs.Ytlbemlodcdgakaa
