/- catenalaw21: awake, EtherZero, EtherFull. Conditions: none. -/
import Derived.Test.YtjfnpedlegplnaaEthE
namespace Go.Proofs.Ytjfnpedlegplnaa
open Go.RowKit Go.PlainAid

theorem EthPost.below {b B : Nat} {v : Value} {a w w' : World} {l l' : List PktT} {n n' : Int} (h : Eth w b v l n) (hp : EthPost b v w l' n' w') (hB : B ≤ b) (ha : Below B a w) (hs : B ≤ w.heap.size) : Below B a w' := by
  obtain ⟨v', h1, h2, h3⟩ := hp
  refine below_but ha h2 hs (fun i hi hS => ?_)
  rcases hS with rfl | hS
  · exact hB
  · have := (h.row.lt i hS).1; omega
set_option maxRecDepth 100000 in
set_option maxHeartbeats 1600000 in
theorem awake21 (w : World) : Calls Try.prog 72 #[] w fun e w' => e = .returned (.bool true) ∧ Below w.heap.size w w' := by
  go_enter Try.func72, Try.ntmps72
  go_wp2_with fail
  refine (enew_any _).mono ?_
  rintro e w1 ⟨rfl, he1, hb1⟩
  obtain ⟨b, hb⟩ : ∃ b, b = w.heap.size := ⟨_, rfl⟩
  rw [← hb] at he1 ⊢
  have HBW : Hid (w.heap.size ≤ b) := Lib.hid (by omega)
  clear hb
  have HE1 := Lib.hid he1; have HB1 := Lib.hid hb1
  clear he1 hb1
  go_wp2_with fail
  refine (send_made _ b _ _ _ (0, 0, ⟨#[97]⟩) HE1.out (by simp) (by omega) (by omega)).mono ?_
  rintro e w2 ⟨rfl, hp2⟩
  have HB2 := Lib.hid (EthPost.below HE1.out hp2 HBW.out HB1.out HB1.out.size)
  rw [show (sendR (0, 0, ⟨#[97]⟩) [] 0).1 = 0 from rfl]
  have hp2' : EthPost b _ w1 [(0, 0, ⟨#[97]⟩)] 0 w2 := hp2
  obtain ⟨v2, he2, _, _⟩ := hp2'
  have HE2 := Lib.hid he2
  clear hp2 he2
  go_wp2_with fail
  refine (send_made _ b _ _ _ (0, 0, ⟨#[98]⟩) HE2.out (by simp) (by omega) (by omega)).mono ?_
  rintro e w3 ⟨rfl, hp3⟩
  have HB3 := Lib.hid (EthPost.below HE2.out hp3 HBW.out HB2.out HB2.out.size)
  rw [show (sendR (0, 0, ⟨#[98]⟩) [(0, 0, ⟨#[97]⟩)] 0).1 = 0 from rfl]
  have hp3' : EthPost b _ w2 [(0, 0, ⟨#[97]⟩), (0, 0, ⟨#[98]⟩)] 0 w3 := hp3
  obtain ⟨v3, he3, _, _⟩ := hp3'
  have HE3 := Lib.hid he3
  clear hp3 he3
  go_wp2_with fail
  refine (etake_made _ b _ _ _ 1 1 0 0 ⟨#[98]⟩ HE3.out (by simp) (by decide) (by simp) rfl (by simp) rfl).mono ?_
  rintro e w4 ⟨rfl, hp4⟩
  have HB4 := Lib.hid (EthPost.below HE3.out hp4 HBW.out HB3.out HB3.out.size)
  have hp4' : EthPost b _ w3 [(0, 0, ⟨#[97]⟩)] 0 w4 := hp4
  obtain ⟨v4, he4, _, _⟩ := hp4'
  have HE4 := Lib.hid he4
  have hs4 := HB4.out.size
  clear hp4 he4
  have hbl4 := HE4.out.lt
  have HE4' := Lib.hid (HE4.out.kept (w' := w4.alloc (.cells #[.int .i64 0, .int .i64 0, .string ⟨#[98]⟩] 110)) ((Below.refl _ _).alloc (Nat.le_refl _) _))
  go_wp2_with fail
  refine (etake_made _ b _ _ _ 9 0 0 0 ⟨#[97]⟩ HE4'.out (by simp) (by decide) (by simp) rfl (by simp) rfl).mono ?_
  rintro e w5 ⟨rfl, hp5⟩
  have HB5 := Lib.hid (EthPost.below HE4'.out hp5 HBW.out (HB4.out.alloc hs4 _) (by simp; omega))
  have hp5' : EthPost b v4 _ [] 0 w5 := hp5
  have hv4 : v4.ownBlock ≠ some w4.heap.size := fun e => by have := (HE4.out.row.lt _ e).2; omega
  have hfar := EthPost.far hp5' w4.heap.size (.cells #[.int .i64 0, .int .i64 0, .string ⟨#[98]⟩] 110) (alloc_at _ _) (by omega) hv4
  obtain ⟨v5, he5, _, _⟩ := hp5'
  have HE5 := Lib.hid he5
  have HFAR := Lib.hid hfar
  have hs5 := HB5.out.size
  have hN4 : w4.heap.size < w5.heap.size := (Array.getElem?_eq_some_iff.1 hfar).1
  obtain ⟨N4, hN⟩ : ∃ N4, N4 = w4.heap.size := ⟨_, rfl⟩
  rw [← hN] at HFAR hN4 ⊢
  clear hp5 he5 hfar hN
  have q2 := (three_cells HFAR.out).1.2.2
  have HE5' := Lib.hid (HE5.out.kept (w' := w5.alloc (.cells #[.int .i64 0, .int .i64 0, .string ⟨#[97]⟩] 110)) ((Below.refl _ _).alloc (Nat.le_refl _) _))
  go_wp2_with (go_at_call 68; refine (elen_made _ _ _ _ _ HE5'.out).mono ?_; rintro e w6 ⟨rfl, rfl⟩)
  go_ret
  exact ⟨rfl, HB5.out.alloc hs5 _⟩

set_option maxRecDepth 100000 in
set_option maxHeartbeats 400000 in
theorem edouble_full (w : World) (b : Nat) (v : Value) (l : List PktT) (n k : Int) (h : Eth w b v l n) (hl : 400 ≤ l.length) :
    Calls Try.prog 66 #[.pointer (some ⟨b, 0, none⟩), .int .i64 k] w fun e w' => e = .returned (.int .i64 6) ∧ w = w' := by
  have HE := Lib.hid h; clear h
  have hln : ((l.length : Int) == 0) = false := beq_eq_false_iff_ne.2 (by omega)
  have hd : decide ((400 : Int) ≤ (l.length : Int)) = true := decide_eq_true (by omega)
  go_enter Try.func66, Try.ntmps66
  go_wp2_with (first
    | (go_at_call 103; refine (zero_made _ _ _ _ _ HE.out).mono ?_; rintro e w1 ⟨rfl, rfl⟩)
    | (go_at_call 68; refine (elen_made _ _ _ _ _ HE.out).mono ?_; rintro e w1 ⟨rfl, rfl⟩))
  go_ret
  exact ⟨rfl, rfl⟩
end Go.Proofs.Ytjfnpedlegplnaa
