/- catenalaw21: EtherFull. Conditions: none. -/
import Derived.Test.YtjiipmehgcnaeaaEthG
namespace Go.Proofs.Ytjiipmehgcnaeaa
open Go.RowKit Go.PlainAid

def pX : PktT := (1, 2, ⟨#[120]⟩)
/-- What is there behind i packets. -/
def fullL (i : Nat) : List PktT := List.replicate (min i 400) pX
def fullN (i : Nat) : Int := ((i - 400 : Nat) : Int)
theorem fullL_len (i : Nat) : (fullL i).length = min i 400 := by simp [fullL]
theorem full_send (i : Nat) (hi : i < 10000) : sendR pX (fullL i) (fullN i) = (if i < 400 then 0 else 6, fullL (i + 1), fullN (i + 1)) := by
  have hok : okPkt pX = true := by decide
  unfold sendR
  rw [if_pos hok, fullL_len]
  by_cases h : i < 400
  · rw [if_neg (by omega), if_pos h]
    have e1 : fullL (i + 1) = fullL i ++ [pX] := by
      unfold fullL
      rw [Nat.min_eq_left (by omega), Nat.min_eq_left (by omega), List.replicate_succ']
    have e2 : fullN (i + 1) = fullN i := by unfold fullN; omega
    rw [e1, e2]
  · rw [if_pos (by omega), if_neg h]
    have e1 : fullL (i + 1) = fullL i := by
      unfold fullL
      rw [Nat.min_eq_right (by omega), Nat.min_eq_right (by omega)]
    have e2 : fullN (i + 1) = lostN (fullN i) := by unfold fullN lostN; rw [if_neg (by omega)]; omega
    rw [e1, e2]

set_option maxRecDepth 100000 in
set_option maxHeartbeats 3200000 in
theorem etherFull_any (more k : Int) (w : World) (hm : (Lit.int .u8 more).wf = true) (_ : (Lit.int .i64 k).wf = true) :
    Calls Try.prog 10 #[.int .u8 more, .int .i64 k] w fun e w' => e = .returned (.bool true) ∧ Below w.heap.size w w' := by
  have hmb : 0 ≤ more ∧ more ≤ 255 := by simpa [Lit.wf, IntKind.min, IntKind.max, IntKind.signed, IntKind.bits] using hm
  obtain ⟨m, rfl⟩ : ∃ m : Nat, more = (m : Int) := ⟨more.toNat, by omega⟩
  have hm255 : m ≤ 255 := by omega
  have hwc : IntKind.i64.wrap (m : Int) = (m : Int) := IntWalk.i64_in _ ⟨by omega, by omega⟩
  have hws : IntKind.i64.wrap (400 + (m : Int)) = 400 + (m : Int) := IntWalk.i64_in _ ⟨by omega, by omega⟩
  clear hm hmb
  go_enter Try.func10, Try.ntmps10
  go_wp2_with fail
  refine (enew_any _).mono ?_
  rintro e w1 ⟨rfl, he1, hb1⟩
  obtain ⟨b, hb⟩ : ∃ b, b = w.heap.size := ⟨_, rfl⟩
  rw [← hb] at he1 ⊢
  have HBW : Hid (w.heap.size ≤ b) := Lib.hid (by omega)
  clear hb
  have hs1 := hb1.size
  have hbl1 := he1.lt
  have HE1 := Lib.hid (he1.kept (w' := w1.alloc (.cells #[.int .i64 1, .int .i64 2, .string ⟨#[120]⟩] 91)) ((Below.refl _ _).alloc (Nat.le_refl _) _))
  have HB1 := Lib.hid (hb1.alloc hs1 (.cells #[.int .i64 1, .int .i64 2, .string ⟨#[120]⟩] 91))
  have HX1 : Hid (Box3 (w1.alloc (.cells #[.int .i64 1, .int .i64 2, .string ⟨#[120]⟩] 91)) w1.heap.size pX) := Lib.hid (alloc_at _ _)
  clear he1 hb1 hs1
  go_wp2_with fail
  obtain ⟨N, hN⟩ : ∃ N, N = w1.heap.size := ⟨_, rfl⟩
  obtain ⟨W1, hW1⟩ : ∃ W1, W1 = w1.alloc (.cells #[.int .i64 1, .int .i64 2, .string ⟨#[120]⟩] 91) := ⟨_, rfl⟩
  rw [← hN] at hbl1
  rw [← hN, ← hW1] at HX1
  rw [← hW1] at HE1 HB1
  try rw [← hN, ← hW1]
  clear hN hW1
  go_loopg [7] (401 + m) (fun g s7 wr => ∃ (i : Nat) (v : Value), s7 = .int .i64 i ∧ i ≤ 400 + m ∧ 401 + m ≤ i + g ∧ Hid (Eth wr b v (fullL i) (fullN i)) ∧ Hid (Box3 wr N pX) ∧ Hid (∀ g, v.ownBlock = some g → N < g) ∧ Hid (Below w.heap.size w wr))
  case atStart => exact ⟨0, _, rfl, by omega, by omega, HE1, HX1, Lib.hid (fun g hg => by cases hg), HB1⟩
  case round =>
    obtain ⟨i, v, rfl, hi, hg, HE, HX, HV, HB⟩ := hrel
    by_cases hlt : i < 400 + m
    · have hd : decide ((i : Int) < 400 + (m : Int)) = true := decide_eq_true (by omega)
      obtain ⟨q0, q1, q2⟩ := (show Box3 wr N (1, 2, ⟨#[120]⟩) from HX.out).cells
      have hfs := full_send i (by omega)
      have HFS := Lib.hid hfs
      have hszr := HB.out.size
      clear hfs
      have hNl : N < wr.heap.size := (Array.getElem?_eq_some_iff.1 (show wr.heap[N]? = _ from HX.out)).1
      go_wp2_with fail
      refine (send_made _ b v _ _ pX HE.out (by rw [fullL_len]; omega) (by unfold fullN; omega) (by unfold fullN; omega)).mono ?_
      rintro e w2 ⟨rfl, hp⟩
      rw [HFS.out] at hp ⊢
      have HB2 := Lib.hid (EthPost.below HE.out hp HBW.out HB.out HB.out.size)
      have HX2 : Hid (Box3 w2 N pX) := Lib.hid (EthPost.far hp N _ HX.out (by omega) (fun e => by have := HV.out N e; omega))
      obtain ⟨v2, he2, _, hv2⟩ := hp
      have HE2 := Lib.hid he2
      have HV2 : Hid (∀ g, v2.ownBlock = some g → N < g) := Lib.hid (fun g hg => by
        rcases hv2 g hg with h | h
        · exact HV.out g h
        · omega)
      clear he2 hv2
      by_cases h4 : i < 400
      · rw [if_pos h4]
        have hd4 : decide ((i : Int) < 400) = true := decide_eq_true (by omega)
        go_wp2
        go_roundg (gk - 1)
        case rel => exact ⟨i + 1, v2, by go_num, by omega, by omega, HE2, HX2, HV2, HB2⟩
        case measure => omega
      · rw [if_neg h4]
        have hd4 : decide ((i : Int) < 400) = false := decide_eq_false (by omega)
        go_wp2
        go_roundg (gk - 1)
        case rel => exact ⟨i + 1, v2, by go_num, by omega, by omega, HE2, HX2, HV2, HB2⟩
        case measure => omega
    · obtain rfl : i = 400 + m := by omega
      have hd : decide (((400 + m : Nat) : Int) < 400 + (m : Int)) = false := decide_eq_false (by omega)
      have hd' : decide ((400 : Int) + (m : Int) < 400 + (m : Int)) = false := decide_eq_false (by omega)
      have HLN : Hid ((fullL (400 + m)).length = 400) := Lib.hid (by rw [fullL_len]; omega)
      have HNN : Hid (fullN (400 + m) = (m : Int)) := Lib.hid (by unfold fullN; omega)
      go_wp2_with (first
        | (go_at_call 63; refine (elen_made _ _ _ _ _ HE.out).mono ?_; rintro e w3 ⟨rfl, rfl⟩; rw [HLN.out])
        | (go_at_call 64; refine (elost_made _ _ _ _ _ HE.out).mono ?_; rintro e w3 ⟨rfl, rfl⟩; rw [HNN.out])
        | (go_at_call 61; refine (edouble_full _ _ _ _ _ _ HE.out (by rw [HLN.out]; omega)).mono ?_; rintro e w3 ⟨rfl, rfl⟩)
        | (go_at_call 67; refine (awake21 _).mono ?_; rintro e w8 ⟨rfl, hb8⟩))
      go_ret
      exact ⟨rfl, HB.out.trans (hb8.mono HB.out.size)⟩
end Go.Proofs.Ytjiipmehgcnaeaa
