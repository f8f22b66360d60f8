/- Package mess: Check. Conditions: none. -/
import Derived.Test.YtlbemlodcdgakaaMeASh
namespace Go.Proofs.Ytlbemlodcdgakaa
open Go.RowKit Go.PlainAid
set_option linter.unusedVariables false


def cP (d : MsgD) (c : UInt8) : Int := chkP d (c.toNat : Int)
def chkMg (d : MsgD) : Int := if 1 ≤ d.k ∧ d.k ≤ 15 then chkF (cP d) (ptL d.k) else 11
theorem cp_x {d : MsgD} {p : Int} (h : p = 120) : chkP d p = if d.e < 0 ∨ d.e > 21 then 1 else 0 := by unfold chkP; rw [if_pos h]
theorem cp_n {d : MsgD} {p : Int} (h : p = 101 ∨ p = 115 ∨ p = 113 ∨ p = 110 ∨ p = 109 ∨ p = 112) : chkP d p = if numP d p < 0 ∨ numP d p > 1073741824 then 5 else 0 := by unfold chkP; rw [if_neg (by omega), if_pos (show numL p from h)]
theorem nn {p : Int} (h : ¬ (p = 101 ∨ p = 115 ∨ p = 113 ∨ p = 110 ∨ p = 109 ∨ p = 112)) : ¬ numL p := h
theorem cp_k {d : MsgD} {p : Int} (h : p = 107) : chkP d p = if (d.key.size : Int) > 8 then 3 else 0 := by unfold chkP; rw [if_neg (by omega), if_neg (nn (by omega)), if_pos h]
theorem cp_t {d : MsgD} {p : Int} (h : p = 116) : chkP d p = if (d.to_.size : Int) > 8 then 3 else 0 := by unfold chkP; rw [if_neg (by omega), if_neg (nn (by omega)), if_neg (by omega), if_pos h]
theorem cp_C {d : MsgD} {p : Int} (h : p = 67) : chkP d p = chkC d.cep d.cms := by unfold chkP; rw [if_neg (by omega), if_neg (nn (by omega)), if_neg (by omega), if_neg (by omega), if_pos h]
theorem cp_B {d : MsgD} {p : Int} (h : p = 66) : chkP d p = chkB d.bc d.br d.bl := by unfold chkP; rw [if_neg (by omega), if_neg (nn (by omega)), if_neg (by omega), if_neg (by omega), if_neg (by omega), if_pos h]
theorem cp_L {d : MsgD} {p : Int} (h : p = 76) : chkP d p = chkLs 4 chkEn d.en := by unfold chkP; rw [if_neg (by omega), if_neg (nn (by omega)), if_neg (by omega), if_neg (by omega), if_neg (by omega), if_neg (by omega), if_pos h]
theorem cp_S {d : MsgD} {p : Int} (h : p = 83) : chkP d p = chkLs 8 chkSt d.st := by unfold chkP; rw [if_neg (by omega), if_neg (nn (by omega)), if_neg (by omega), if_neg (by omega), if_neg (by omega), if_neg (by omega), if_neg (by omega), if_pos h]
theorem cp_R {d : MsgD} {p : Int} (h : p = 82) : chkP d p = chkLs 32 chkPair d.pr := by unfold chkP; rw [if_neg (by omega), if_neg (nn (by omega)), if_neg (by omega), if_neg (by omega), if_neg (by omega), if_neg (by omega), if_neg (by omega), if_neg (by omega), if_pos h]
theorem cp_0 {d : MsgD} {p : Int} (h : ¬ (p = 120 ∨ (p = 101 ∨ p = 115 ∨ p = 113 ∨ p = 110 ∨ p = 109 ∨ p = 112) ∨ p = 107 ∨ p = 116 ∨ p = 67 ∨ p = 66 ∨ p = 76 ∨ p = 83 ∨ p = 82)) : chkP d p = 0 := by unfold chkP; rw [if_neg (by omega), if_neg (nn (by omega)), if_neg (by omega), if_neg (by omega), if_neg (by omega), if_neg (by omega), if_neg (by omega), if_neg (by omega), if_neg (by omega)]

end Go.Proofs.Ytlbemlodcdgakaa
