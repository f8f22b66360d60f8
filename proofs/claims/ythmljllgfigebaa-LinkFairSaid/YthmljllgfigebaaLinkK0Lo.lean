/- A link's segments, what goes out. Conditions: none. -/
import Derived.Test.YthmljllgfigebaaLinkFLo
namespace Go.Proofs.Ythmljllgfigebaa
open Go.RowKit Go.PlainAid
set_option linter.unusedVariables false


theorem LkU.same2 {T : TypeId} {S : Nat → Prop} {w x : World} {b : Nat} {u : Value} {L L' : LnT} (h : LkU T S w b u L) (hk : Blk x b T (lnC L' u)) {B : Nat} (hr : x.ownsRow B 9 1 u L.q.length (L.q.flatMap strE)) (hq : L'.q = L.q) (hok : LnOk L') (hb : But S w x) : LkU T S x b u L' ∧ Grew S S w x := ⟨⟨hk, ⟨B, by rw [hq]; exact hr⟩, h.2.2.1, h.2.2.2.1, hok⟩, fun q h => .inl h, hb⟩
theorem segE_len (s : SegT) : (segE s).length = 8 := rfl
theorem segE_one (s : SegT) : ∀ u ∈ segE s, u.oneCell' = true := by intro u hu; simp [segE] at hu; rcases hu with rfl | rfl | rfl | rfl | rfl | rfl | rfl | rfl <;> rfl
theorem outsL_no {L : LnT} {F k : Nat} (h : k < F) : outsL L F k = outsL L F (k + 1) := by unfold outsL eachL; rw [show k - F = 0 by omega, show k + 1 - F = 0 by omega]
theorem outsL_yes {L : LnT} {F k : Nat} {y : ByteArray} (h : F ≤ k) (hy : L.q[k]? = some y) : outsL L F k ++ [SegT.mk L.boot L.stream (L.first + (k : Int)) L.peer L.in0 L.next true y] = outsL L F (k + 1) := by
  unfold outsL eachL
  rw [show k + 1 - F = (k - F) + 1 by omega, List.range'_1_concat, List.map_append, List.map_append]
  have e : L.q.getD (F + (k - F)) ⟨#[]⟩ = y := by rw [List.getD_eq_getElem?_getD, show F + (k - F) = k by omega, hy]; rfl
  simp only [List.map_cons, List.map_nil, LnT.seg, e]
  rw [show ((F + (k - F) : Nat) : Int) = (k : Int) by omega]
theorem outsL_len (L : LnT) (F k : Nat) : (outsL L F k).length = k - F := by unfold outsL eachL; simp
theorem outs_a {L : LnT} {b : Bool} {F k : Nat} (hF : F = L.fr b) (hk : k = L.to) (h : F < k) : outsL L F k = outT L b := by unfold outT segsL; rw [if_neg (by omega), hk, hF]
theorem outs_b {L : LnT} {b : Bool} {F k : Nat} (hF : F = L.fr b) (hk : k = L.to) (h : k ≤ F) (ho : L.owes = false) : outsL L F k = outT L b := by
  unfold outT segsL; rw [if_pos (by omega), if_neg (by simp [ho])]; exact List.eq_nil_of_length_eq_zero (by rw [outsL_len]; omega)
theorem outs_c {L : LnT} {b : Bool} {F k : Nat} (hF : F = L.fr b) (hk : k = L.to) (h : k ≤ F) (ho : L.owes = true) : outsL L F k ++ [SegT.mk L.boot L.stream L.first L.peer L.in0 L.next false ⟨#[]⟩] = outT L b := by
  unfold outT segsL; rw [if_pos (by omega), if_pos ho, List.eq_nil_of_length_eq_zero (l := outsL L F k) (by rw [outsL_len]; omega)]; rfl

end Go.Proofs.Ythmljllgfigebaa
