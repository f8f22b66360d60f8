/- catenalaw21: EtherFull. Conditions: none. -/
import Derived.Test.YtjfnpedlegplnaaEthG
namespace Go.Proofs.Ytjfnpedlegplnaa
open Go.RowKit Go.PlainAid

def pX : PktT := (1, 2, ⟨#[120]⟩)
/-- What is there behind i packets. -/
def fullL (i : Nat) : List PktT := List.replicate (min i 400) pX
def fullN (i : Nat) : Int := ((i - 400 : Nat) : Int)
theorem fullL_len (i : Nat) : (fullL i).length = min i 400 := by simp [fullL]
theorem full_send (i : Nat) (hi : i < 10000) : sendR pX (fullL i) (fullN i) = (if i < 400 then 0 else 6, fullL (i + 1), fullN (i + 1)) := by
  have hok : okPkt pX = true := by decide
  unfold sendR
  rw [if_pos hok, fullL_len]
  by_cases h : i < 400
  · rw [if_neg (by omega), if_pos h]
    have e1 : fullL (i + 1) = fullL i ++ [pX] := by
      unfold fullL
      rw [Nat.min_eq_left (by omega), Nat.min_eq_left (by omega), List.replicate_succ']
    have e2 : fullN (i + 1) = fullN i := by unfold fullN; omega
    rw [e1, e2]
  · rw [if_pos (by omega), if_neg h]
    have e1 : fullL (i + 1) = fullL i := by
      unfold fullL
      rw [Nat.min_eq_right (by omega), Nat.min_eq_right (by omega)]
    have e2 : fullN (i + 1) = lostN (fullN i) := by unfold fullN lostN; rw [if_neg (by omega)]; omega
    rw [e1, e2]

-- left out here

















































































end Go.Proofs.Ytjfnpedlegplnaa
