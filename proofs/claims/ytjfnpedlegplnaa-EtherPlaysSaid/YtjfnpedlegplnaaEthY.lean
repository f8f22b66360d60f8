/- Package ether and catenaref21: Double of one that was made; the document's Drop. Conditions: at most 1000 packets. -/
import Derived.Test.YtjfnpedlegplnaaEthX
namespace Go.Proofs.Ytjfnpedlegplnaa
open Go.RowKit Go.PlainAid

set_option maxRecDepth 100000 in
set_option maxHeartbeats 1600000 in
theorem rdrop_made (w : World) (b : Nat) (v : Value) (l : List PktT) (n k : Int) (i : Nat) (fr to : Int) (bd : ByteArray) (h : REth w b v l n) (hl : l.length ≤ 1000) (hk : (Lit.int .i64 k).wf = true) (h0 : 0 < l.length) (hi : k.toNat % l.length = i) (hil : i < l.length) (hp : l[i] = (fr, to, bd)) (hn0 : 0 ≤ n) (hn1 : n ≤ 1073741824) :
    Calls Try.prog 65 #[.pointer (some ⟨b, 0, none⟩), .int .i64 k] w fun e w' => e = .returned (.int .i64 0) ∧ RPost b v w (l.take i ++ l.drop (i + 1)) (lostN n) w' := by
  have HE := Lib.hid h; have HQP := Lib.hid hp; have HI := Lib.hid hi; clear h hp hi
  have hw : IntKind.i64.wrap (n + 1) = n + 1 := IntWalk.i64_in _ ⟨by omega, by omega⟩
  have hlost : lostN n = if 1073741824 < n + 1 then 1073741824 else n + 1 := rfl
  by_cases hb : 1073741824 < n + 1
  · have hd : decide (1073741824 < n + 1) = true := decide_eq_true hb
    have hd2 : decide (n + 1 < 1073741824) = false := decide_eq_false (by omega)
    rw [if_pos hb] at hlost
    have HLOST := Lib.hid hlost; clear hlost
    go_enter Try.func65, Try.ntmps65
    go_wp2_with fail
    refine (rtake_made _ b v l _ k i fr to bd HE.out hl hk h0 HI.out hil HQP.out).mono ?_
    rintro e w1 ⟨rfl, hp⟩
    have HP := Lib.hid hp
    obtain ⟨v1, he1, _, _⟩ := hp
    have hbl1 := he1.lt
    have c1 := he1.c1; have f1 := he1.fr 1
    clear he1
    go_wp2
    go_ret
    exact ⟨rfl, HP.out.trans (fun v1 e1 => by have h5 := (RPost.lost e1).then (w2 := (w1.setCell ⟨b, 1, none⟩ (.int .i64 (lostN _))).alloc (.cells #[.int .i64 fr, .int .i64 to, .string bd] 110)) ((Below.refl _ _).alloc (Nat.le_refl _) _); rw [HLOST.out] at h5 ⊢; exact h5)⟩
  · have hd : decide (1073741824 < n + 1) = false := decide_eq_false hb
    rw [if_neg hb] at hlost
    rcases Int.lt_trichotomy (n + 1) 1073741824 with hlt | heq | hgt
    · have hd2 : decide (n + 1 < 1073741824) = true := decide_eq_true hlt
      have HLOST := Lib.hid hlost; clear hlost
      go_enter Try.func65, Try.ntmps65
      go_wp2_with fail
      refine (rtake_made _ b v l _ k i fr to bd HE.out hl hk h0 HI.out hil HQP.out).mono ?_
      rintro e w1 ⟨rfl, hp⟩
      have HP := Lib.hid hp
      obtain ⟨v1, he1, _, _⟩ := hp
      have hbl1 := he1.lt
      have c1 := he1.c1; have f1 := he1.fr 1
      clear he1
      go_wp2
      go_ret
      exact ⟨rfl, HP.out.trans (fun v1 e1 => by have h5 := (RPost.lost e1).then (w2 := (w1.setCell ⟨b, 1, none⟩ (.int .i64 (lostN _))).alloc (.cells #[.int .i64 fr, .int .i64 to, .string bd] 110)) ((Below.refl _ _).alloc (Nat.le_refl _) _); rw [HLOST.out] at h5 ⊢; exact h5)⟩
    · obtain rfl : n = 1073741823 := by omega
      have HLOST := Lib.hid hlost; clear hlost
      go_enter Try.func65, Try.ntmps65
      go_wp2_with fail
      refine (rtake_made _ b v l _ k i fr to bd HE.out hl hk h0 HI.out hil HQP.out).mono ?_
      rintro e w1 ⟨rfl, hp⟩
      have HP := Lib.hid hp
      obtain ⟨v1, he1, _, _⟩ := hp
      have hbl1 := he1.lt
      have c1 := he1.c1; have f1 := he1.fr 1
      clear he1
      go_wp2
      go_ret
      exact ⟨rfl, HP.out.trans (fun v1 e1 => by have h5 := (RPost.lost e1).then (w2 := (w1.setCell ⟨b, 1, none⟩ (.int .i64 (lostN _))).alloc (.cells #[.int .i64 fr, .int .i64 to, .string bd] 110)) ((Below.refl _ _).alloc (Nat.le_refl _) _); rw [HLOST.out] at h5 ⊢; exact h5)⟩
    · omega
set_option maxRecDepth 100000 in
set_option maxHeartbeats 800000 in
theorem rdouble_full (w : World) (b : Nat) (v : Value) (l : List PktT) (n k : Int) (h : REth w b v l n) (hl : 400 ≤ l.length) :
    Calls Try.prog 67 #[.pointer (some ⟨b, 0, none⟩), .int .i64 k] w fun e w' => e = .returned (.int .i64 6) ∧ w = w' := by
  have c0 := h.c0
  obtain ⟨ao, cap, rfl, _⟩ := h.slice
  have hln : ((l.length : Int) == 0) = false := beq_eq_false_iff_ne.2 (by omega)
  have hd : decide ((400 : Int) ≤ (l.length : Int)) = true := decide_eq_true (by omega)
  clear h
  go_enter Try.func67, Try.ntmps67
  go_wp2
  go_ret
  exact ⟨rfl, rfl⟩
set_option maxRecDepth 100000 in
set_option maxHeartbeats 3200000 in
theorem edouble_room (w : World) (b : Nat) (v : Value) (l : List PktT) (n k : Int) (i : Nat) (fr to : Int) (bd : ByteArray) (h : Eth w b v l n) (hk : (Lit.int .i64 k).wf = true) (h0 : 0 < l.length) (hl : ¬ 400 ≤ l.length) (hi : k.toNat % l.length = i) (hil : i < l.length) (hp : l[i] = (fr, to, bd)) :
    Calls Try.prog 66 #[.pointer (some ⟨b, 0, none⟩), .int .i64 k] w fun e w' => e = .returned (.int .i64 0) ∧ EthPost b v w (l ++ [(fr, to, bd)]) n w' := by
  have HE := Lib.hid h
  have hbl := h.lt
  have c1 := h.c1
  have hln : ((l.length : Int) == 0) = false := beq_eq_false_iff_ne.2 (by omega)
  have hd : decide ((400 : Int) ≤ (l.length : Int)) = false := decide_eq_false (by omega)
  obtain ⟨ao, cap, hv, hcap, hcm, _, hcell⟩ := h.slice
  subst hv
  obtain ⟨g, off, rfl, hr⟩ := hcell i hil
  rw [hp] at hr
  have y0 : w.cell? ⟨g, off + i * 3, none⟩ = some (.int .i64 fr) := hr 0 _ rfl
  have y1 : w.cell? ⟨g, off + i * 3 + 1, none⟩ = some (.int .i64 to) := hr 1 _ rfl
  have y2 : w.cell? ⟨g, off + i * 3 + 2, none⟩ = some (.string bd) := hr 2 _ rfl
  have HI := Lib.hid hi
  clear h hr hcell hp hi
  go_enter Try.func66, Try.ntmps66
  go_wp2_with (first
    | (go_at_call 103; refine (zero_made _ _ _ _ _ HE.out).mono ?_; rintro e w1 ⟨rfl, rfl⟩)
    | (go_at_call 68; refine (elen_made _ _ _ _ _ HE.out).mono ?_; rintro e w1 ⟨rfl, rfl⟩))
  go_region_law (first
    | (go_simp; go_at_call 108; refine Calls.mono (turn_at _ b _ l n k i (HE.out.kept (show Below w.heap.size w _ by (repeat (first | exact Below.refl _ _ | refine Below.alloc ?_ (by first | omega | (simp; done) | (simp; omega)) _ | refine Below.drew ?_ | refine below_draws ?_ _)))) hk h0 HI.out) ?_; rintro e w2 ⟨rfl, rfl⟩)
    | (go_simp; go_at_call 106; refine Calls.mono (add_any _ b _ l n (fr, to, bd) (HE.out.kept (show Below w.heap.size w _ by (repeat (first | exact Below.refl _ _ | refine Below.alloc ?_ (by first | omega | (simp; done) | (simp; omega)) _ | refine Below.drew ?_ | refine below_draws ?_ _)))) (by omega)) ?_; rintro e w2 ⟨rfl, hadd⟩; have HADD := Lib.hid (EthPost.after (show Below w.heap.size w _ by (repeat (first | exact Below.refl _ _ | refine Below.alloc ?_ (by first | omega | (simp; done) | (simp; omega)) _ | refine Below.drew ?_ | refine below_draws ?_ _))) hadd); clear hadd))
  all_goals (
    go_wp2
    go_ret
    exact ⟨rfl, HADD.out⟩)
end Go.Proofs.Ytjfnpedlegplnaa
