/- Package mess: parts, numbers, lists checked. Conditions: none. -/
import Derived.Test.YtlbemlodcdgakaaConfZSh
import Derived.Test.YtlbemlodcdgakaaEntRSh
import Derived.Test.YtlbemlodcdgakaaRlgISh
import Derived.Test.YtlbemlodcdgakaaPexSnSh
namespace Go.Proofs.Ytlbemlodcdgakaa
open Go.RowKit Go.PlainAid
set_option linter.unusedVariables false


abbrev PrT := ByteArray × ByteArray
def prE (y : PrT) : List Value := [.string y.1, .string y.2]
theorem intE_len (k : IntKind) (y : Int) : (intE k y).length = 1 := rfl
/-- A message, without where its lists lie. -/
structure MsgD where
  k : Int
  ep : Int
  rq : Int
  sr : Int
  fg : Bool
  at_ : Int
  la : Int
  n : Int
  m : Int
  p : Int
  e : Int
  key : ByteArray
  to_ : ByteArray
  cep : Int
  cms : List MemT
  cfl : Int
  bc : Int
  br : Int
  bl : List OpT
  en : List EntT
  st : List Int
  pr : List PrT
/-- What is known of a message that may be. -/
structure MsgR (d : MsgD) : Prop where
  mem : ∀ m ∈ d.cms, memOk m
  rng : (-9223372036854775808 ≤ d.cep ∧ d.cep ≤ 9223372036854775807) ∧ (0 ≤ d.cfl ∧ d.cfl < 18446744073709551616) ∧ (0 ≤ d.at_ ∧ d.at_ < 18446744073709551616) ∧ (0 ≤ d.la ∧ d.la < 18446744073709551616)
  st : ∀ t ∈ d.st, 0 ≤ t ∧ t < 18446744073709551616
/-- The parts of a kind, by the program's letters; by the document's. -/
def ptL (k : Int) : List UInt8 := if k = 1 then [67, 97] else if k = 2 then [101, 115, 102, 97, 108] else if k = 3 then [101, 110, 109, 112, 113, 97, 76] else if k = 4 then [101, 110, 109, 112, 83] else if k = 5 then [101, 66] else if k = 6 ∨ k = 11 then [113, 97] else if k = 7 then [113, 120, 101, 110] else if k = 8 then [113, 107, 97] else if k = 9 then [113, 107, 116, 97, 110] else if k = 10 then [113, 107, 97, 102, 82] else if k = 12 ∨ k = 13 ∨ k = 14 then [113, 110] else []
def numP (d : MsgD) (p : Int) : Int := if p = 101 then d.ep else if p = 115 then d.sr else if p = 113 then d.rq else if p = 110 then d.n else if p = 109 then d.m else if p = 112 then d.p else d.e
theorem np_1 {d : MsgD} {p : Int} (h : p = 101) : d.ep = numP d p := by unfold numP; rw [if_pos h]
theorem np_2 {d : MsgD} {p : Int} (h : p = 115) : d.sr = numP d p := by unfold numP; rw [if_neg (by omega), if_pos h]
theorem np_3 {d : MsgD} {p : Int} (h : p = 113) : d.rq = numP d p := by unfold numP; rw [if_neg (by omega), if_neg (by omega), if_pos h]
theorem np_4 {d : MsgD} {p : Int} (h : p = 110) : d.n = numP d p := by unfold numP; rw [if_neg (by omega), if_neg (by omega), if_neg (by omega), if_pos h]
theorem np_5 {d : MsgD} {p : Int} (h : p = 109) : d.m = numP d p := by unfold numP; rw [if_neg (by omega), if_neg (by omega), if_neg (by omega), if_neg (by omega), if_pos h]
theorem np_6 {d : MsgD} {p : Int} (h : p = 112) : d.p = numP d p := by unfold numP; rw [if_neg (by omega), if_neg (by omega), if_neg (by omega), if_neg (by omega), if_neg (by omega), if_pos h]
def chkF {α : Type} (f : α → Int) : List α → Int
  | [] => 0
  | x :: r => if f x ≠ 0 then f x else chkF f r
def chkLs {α : Type} (most : Int) (f : α → Int) (l : List α) : Int := if (l.length : Int) > most then 6 else chkF f l
theorem dropM {α : Type} {l : List α} {i : Nat} {y : α} (h : l[i]? = some y) : l.drop i = y :: l.drop (i + 1) := by
  obtain ⟨hi, rfl⟩ := List.getElem?_eq_some_iff.1 h
  exact List.drop_eq_getElem_cons hi
theorem cF_step {α : Type} {f : α → Int} {l : List α} {i : Nat} {y : α} {z : Int} (h : chkF f (l.drop i) = z) (hy : l[i]? = some y) (hc : f y = 0) : chkF f (l.drop (i + 1)) = z := by
  rw [dropM hy] at h; unfold chkF at h; rw [if_neg (by omega)] at h; exact h
theorem cF_bad {α : Type} {f : α → Int} {l : List α} {i : Nat} {y : α} {z : Int} (h : chkF f (l.drop i) = z) (hy : l[i]? = some y) (hc : f y ≠ 0) : f y = z := by
  rw [dropM hy] at h; unfold chkF at h; rwa [if_pos hc] at h
theorem cF_end {α : Type} {f : α → Int} {l : List α} {i : Nat} {z : Int} (h : chkF f (l.drop i) = z) (hi : l.length ≤ i) : 0 = z := by
  rw [List.drop_eq_nil_of_le hi] at h; simpa [chkF] using h
def chkPair (y : PrT) : Int := if keyC y.1 ≠ 0 then keyC y.1 else if (y.2.size : Int) > 8 then 3 else 0
def chkEn (e : EntT) : Int := chkB e.client e.req e.opl
def chkSt (_ : Int) : Int := 0
def numL (p : Int) : Prop := p = 101 ∨ p = 115 ∨ p = 113 ∨ p = 110 ∨ p = 109 ∨ p = 112
instance (p : Int) : Decidable (numL p) := by unfold numL; infer_instance
def chkP (d : MsgD) (p : Int) : Int :=
  if p = 120 then (if d.e < 0 ∨ d.e > 21 then 1 else 0)
  else if numL p then (if numP d p < 0 ∨ numP d p > 1073741824 then 5 else 0)
  else if p = 107 then (if (d.key.size : Int) > 8 then 3 else 0)
  else if p = 116 then (if (d.to_.size : Int) > 8 then 3 else 0)
  else if p = 67 then chkC d.cep d.cms
  else if p = 66 then chkB d.bc d.br d.bl
  else if p = 76 then chkLs 4 chkEn d.en
  else if p = 83 then chkLs 8 chkSt d.st
  else if p = 82 then chkLs 32 chkPair d.pr else 0

end Go.Proofs.Ytlbemlodcdgakaa
