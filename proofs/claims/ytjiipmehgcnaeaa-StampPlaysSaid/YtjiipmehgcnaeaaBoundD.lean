/- The document's own Right: some number; if it is 0, timestamps rise. Conditions: none. -/
import Derived.Test.YtjiipmehgcnaeaaStamped
import Derived.Test.YtjiipmehgcnaeaaBoundC
import Derived.Deep.QuietTactic
import Derived.BigQuiet
import Derived.Deep.RegionHeld3
namespace Go.Proofs.Ytjiipmehgcnaeaa
open Go.RowKit Go.PlainAid

def keyChk (k : ByteArray) : Int := if k.size < 1 ∨ 8 < k.size then 10 else 0
set_option maxRecDepth 100000 in
set_option maxHeartbeats 800000 in
theorem rkey_any (k : ByteArray) (w : World) :
    Calls Try.prog 17 #[.string k] w fun e w' => e = .returned (.int .i64 (keyChk k)) ∧ w = w' := by
  by_cases h : k.size < 1
  · have HR : Hid (keyChk k = 10) := Lib.hid (if_pos (Or.inl h))
    go_enter Try.func17, Try.ntmps17
    go_wp2
    go_ret
    exact ⟨ret_int HR.out.symm, rfl⟩
  · by_cases h8 : 8 < k.size
    · have HR : Hid (keyChk k = 10) := Lib.hid (if_pos (Or.inr h8))
      go_enter Try.func17, Try.ntmps17
      go_wp2
      go_ret
      exact ⟨ret_int HR.out.symm, rfl⟩
    · have HR : Hid (keyChk k = 0) := Lib.hid (if_neg (by omega))
      go_enter Try.func17, Try.ntmps17
      go_wp2
      go_ret
      exact ⟨ret_int HR.out.symm, rfl⟩

/-- Some number; what was there stays. -/
def SomeR (w : World) (e : Ending) (w' : World) : Prop := ∃ n : Int, e = .returned (.int .i64 n) ∧ Below w.heap.size w w'
theorem SomeR.mk {w w' : World} {n : Int} (h : Below w.heap.size w w') : SomeR w (.returned (.int .i64 n)) w' := ⟨n, rfl, h⟩
theorem opOf {w wr : World} {b off i : Nat} {o : OpT} (hb : Below w.heap.size w wr) (hr : w.rangeAt b (off + i * 3) (opE o)) : wr.rangeAt b (off + i * 3) (opE o) := fun j u hu => cell_below hb (hr j u hu)
set_option maxRecDepth 100000 in
set_option maxHeartbeats 6400000 in
theorem rbatch_some (c q : Int) (v : Value) (l : List OpT) (w : World) (hs : SliceOf opE 3 w v l) :
    Calls Try.prog 113 #[.agg #[.int .i64 c, .int .i64 q, v]] w (SomeR w) := by
  obtain ⟨ao, cap, rfl, hcap, hcm, _, hcell⟩ := hs
  obtain ⟨W, hW⟩ : ∃ W, W = w.alloc (.cells #[.int .i64 c, .int .i64 q, .slice ao l.length cap] 62) := ⟨_, rfl⟩
  have hb1 : Below w.heap.size w W := by rw [hW]; exact (Below.refl _ _).alloc (Nat.le_refl _) _
  have q2 : W.cell? ⟨w.heap.size, 2, none⟩ = some (.slice ao l.length cap) := by rw [hW]; simp
  have HB := Lib.hid hb1; have HQ2 := Lib.hid q2; have HW := Lib.hid hW; have HC := Lib.hid hcell
  clear hb1 q2 hW hcell
  by_cases hearly : (c < 0 ∨ 3 ≤ c) ∨ (q < 1 ∨ 1073741824 < q) ∨ 4 < l.length
  · rcases (show c < 0 ∨ (0 ≤ c ∧ 3 ≤ c) ∨ (0 ≤ c ∧ c < 3 ∧ q < 1) ∨ (0 ≤ c ∧ c < 3 ∧ 1 ≤ q ∧ 1073741824 < q) ∨ (0 ≤ c ∧ c < 3 ∧ 1 ≤ q ∧ q ≤ 1073741824 ∧ (4 : Int) < (l.length : Int)) by omega) with h | ⟨h, h2⟩ | ⟨h, h2, h3⟩ | ⟨h, h2, h3, h4⟩ | ⟨h, h2, h3, h4, h5⟩
    all_goals
      clear hearly
      go_enter Try.func113, Try.ntmps113
      go_wp2
      go_ret
      exact SomeR.mk (by have := HB.out; rw [HW.out] at this; exact this)
  · have h1 : 0 ≤ c := by omega
    have h2 : c < 3 := by omega
    have h3 : 1 ≤ q := by omega
    have h4 : q ≤ 1073741824 := by omega
    have h5 : l.length ≤ 4 := by omega
    clear hearly
    go_enter Try.func113, Try.ntmps113
    go_wp2_with fail
    rw [← HW.out]
    go_loopg [3] (l.length + 1) (fun g s3 wr => ∃ i : Nat, s3 = .int .i64 i ∧ i ≤ l.length ∧ l.length + 1 ≤ i + g ∧ Below W.heap.size W wr)
    case atStart => exact ⟨0, rfl, by omega, by omega, Below.refl _ _⟩
    case round =>
      obtain ⟨i, rfl, hi, hg, hwr⟩ := hrel
      have HWR := Lib.hid hwr
      have hbw : Below w.heap.size w wr := HB.out.trans (hwr.mono HB.out.size)
      have HBW := Lib.hid hbw
      have q2 := cell_below hwr HQ2.out
      have hsz := hbw.size
      have hlW : w.heap.size < wr.heap.size := World.block_lt_of_cell? wr _ q2
      clear hwr hbw
      by_cases hlt : i < l.length
      · obtain ⟨b, off, rfl, hr⟩ := HC.out i hlt
        have hr1 := opOf HBW.out hr
        have hrp : Hid (0 < i → ∃ x : OpT, ∃ bb oo, (some ⟨b, off, none⟩ : Option Addr) = some ⟨bb, oo, none⟩ ∧ w.rangeAt bb (oo + (i - 1) * 3) (opE x)) := Lib.hid (fun h => by
          obtain ⟨bb, oo, he, hh⟩ := HC.out (i - 1) (by omega)
          exact ⟨_, bb, oo, he, hh⟩)
        obtain ⟨⟨k, x, d⟩, hm⟩ : ∃ m, m = l[i] := ⟨_, rfl⟩
        rw [← hm] at hr1
        have HR := Lib.hid hr1
        obtain ⟨W2, hW2⟩ : ∃ W2, W2 = wr.alloc (.cells #[.string k, .string x, .bool d] 188) := ⟨_, rfl⟩
        have hb2 : Below wr.heap.size wr W2 := by rw [hW2]; exact (Below.refl _ _).alloc (Nat.le_refl _) _
        have HB2 := Lib.hid (HBW.out.trans (hb2.mono hsz))
        have HWR2 := Lib.hid (HWR.out.trans (hb2.mono HWR.out.size))
        have HW2 := Lib.hid hW2
        have m0 : W2.cell? ⟨wr.heap.size, 0, none⟩ = some (.string k) := by rw [hW2]; simp
        have M0 := Lib.hid m0
        have M1 : Hid (W2.cell? ⟨wr.heap.size, 1, none⟩ = some (.string x)) := Lib.hid (by rw [hW2]; simp)
        have M2 : Hid (W2.cell? ⟨wr.heap.size, 2, none⟩ = some (.bool d)) := Lib.hid (by rw [hW2]; simp)
        have Q2 := Lib.hid (cell_below hb2 q2)
        have HBk : Hid (Below W2.heap.size W2 W2 ∧ ∀ n, Below w.heap.size w (W2.drewN n)) := Lib.hid ⟨Below.refl _ _, fun n => below_draws HB2.out n⟩
        have HWk : Hid (∀ n, Below W.heap.size W (W2.drewN n)) := Lib.hid (fun n => below_draws HWR2.out n)
        clear hr hr1 hm hW2 hb2 m0
        obtain ⟨bm, hbm⟩ : ∃ bm, bm = wr.heap.size := ⟨_, rfl⟩
        obtain ⟨kc, hkc⟩ : ∃ kc, keyChk k = kc := ⟨_, rfl⟩
        have HKc := Lib.hid hkc
        have HBm := Lib.hid hbm
        clear hkc hbm
        by_cases hk0 : kc = 0
        · have hkb : (kc != 0) = false := by simp [hk0]
          clear hk0
          by_cases hi0 : i = 0
          · have hib : ¬ (0 < (i : Int)) := by omega
            have hib2 : decide (0 < (i : Int)) = false := decide_eq_false (by omega)
            have hib4 : decide (0 < i) = false := decide_eq_false (by omega)
            clear hi0
            go_wp2_with (refine wpList_load_mid rfl 188 (.tmp 35) rfl b (off + i * 3) rfl (opE (k, x, d)) _ HR.out Try.underlying188 rfl (by kernel_rfl) ?_; unfold opE)
            rw [← HW2.out]
            refine (rkey_any k _).mono ?_
            rintro e w3 ⟨rfl, rfl⟩
            rw [HKc.out]
            have m0 := M0.out; have m1 := M1.out; have m2 := M2.out; have qq := Q2.out
            clear q2 hlW
            go_wp2_with fail
            all_goals first
              | (go_ret; exact SomeR.mk HB2.out)
              | (go_quiet (fail); go_wp2; (go_roundg (gk - 1)); (case rel => exact ⟨i + 1, by go_num, by omega, by omega, HWk.out _⟩); (case measure => omega))
          · obtain ⟨px, bb, oo, he, hre⟩ := hrp.out (by omega)
            injection he with he; injection he with e1 e2 e3
            subst e1 e2
            obtain ⟨j, hj⟩ : ∃ j, i - 1 = j := ⟨_, rfl⟩
            rw [hj] at hre
            have hjl : j < l.length := by omega
            have p0 := cell_below HB2.out (hre 0 _ rfl)
            rw [Nat.add_zero] at p0
            have P0 := Lib.hid p0
            have hsub : IntKind.i64.wrap ((i : Int) - 1) = (j : Int) := by rw [show (i : Int) - 1 = (j : Int) by omega]; exact IntWalk.i64_in _ ⟨by omega, by omega⟩
            have hib2 : decide (0 < (i : Int)) = true := decide_eq_true (by omega)
            have hib4 : decide (0 < i) = true := decide_eq_true (by omega)
            have hib3 : 0 < i := by omega
            clear hi0 hre hj p0
            go_wp2_with (refine wpList_load_mid rfl 188 (.tmp 35) rfl b (off + i * 3) rfl (opE (k, x, d)) _ HR.out Try.underlying188 rfl (by kernel_rfl) ?_; unfold opE)
            rw [← HW2.out]
            refine (rkey_any k _).mono ?_
            rintro e w3 ⟨rfl, rfl⟩
            rw [HKc.out]
            have m0 := M0.out; have m1 := M1.out; have m2 := M2.out; have qq := Q2.out; have p0 := P0.out
            clear q2 hlW
            go_wp2_with fail
            all_goals first
              | (go_ret; exact SomeR.mk HB2.out)
              | (go_quiet (fail); go_wp2; (all_goals first
                  | (go_ret; exact SomeR.mk (HBk.out.2 _))
                  | ((go_roundg (gk - 1)); (case rel => exact ⟨i + 1, by go_num, by omega, by omega, HWk.out _⟩); (case measure => omega))))
        · have hkb : (kc != 0) = true := by simp [hk0]
          clear hk0
          go_wp2_with (refine wpList_load_mid rfl 188 (.tmp 35) rfl b (off + i * 3) rfl (opE (k, x, d)) _ HR.out Try.underlying188 rfl (by kernel_rfl) ?_; unfold opE)
          rw [← HW2.out]
          refine (rkey_any k _).mono ?_
          rintro e w3 ⟨rfl, rfl⟩
          rw [HKc.out]
          go_wp2
          go_ret
          exact SomeR.mk HB2.out
      · go_wp2
        go_ret
        exact SomeR.mk HBW.out
end Go.Proofs.Ytjiipmehgcnaeaa
