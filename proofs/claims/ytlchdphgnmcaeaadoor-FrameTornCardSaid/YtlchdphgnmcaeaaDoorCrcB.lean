/- The sum as plain mathematics: a row of bits that is turned. Conditions: none. -/
import Derived.Test.YtlchdphgnmcaeaaDoorCrc
namespace Go.Proofs.YtlchdphgnmcaeaaDoor

/-- The bytes as one number, the first one the lowest. -/
def num : List UInt8 → Nat
  | [] => 0
  | b :: l => b.toNat ^^^ 256 * num l
theorem lfn_mul : ∀ (n x : Nat), lfn n (2 ^ n * x) = x
  | 0, x => by simp [lfn]
  | n + 1, x => by
    show lfn n (lfs _) = x
    rw [show 2 ^ (n + 1) * x = 2 * (2 ^ n * x) by rw [Nat.pow_succ, Nat.mul_comm (2 ^ n) 2, Nat.mul_assoc], lfs_two]
    exact lfn_mul n x
theorem run_num : ∀ (l : List UInt8) (c : Nat), run c l = lfn (8 * l.length) (c ^^^ num l)
  | [], c => by simp [run, num, lfn]
  | b :: l, c => by
    rw [run_cons, run_num l, List.length_cons, Nat.mul_add, Nat.add_comm, ← lfn_add 8]
    congr 1
    rw [num, ← Nat.xor_assoc, lfn_xor 8 (c ^^^ b.toNat), show 256 * num l = 2 ^ 8 * num l by rfl, lfn_mul]
theorem mul_xor (k a b : Nat) : 2 ^ k * (a ^^^ b) = 2 ^ k * a ^^^ 2 ^ k * b := by
  rw [Nat.mul_comm, Nat.mul_comm _ a, Nat.mul_comm _ b, ← Nat.shiftLeft_eq, ← Nat.shiftLeft_eq, ← Nat.shiftLeft_eq, Nat.shiftLeft_xor_distrib]
/-- One byte is changed. -/
theorem num_set : ∀ (l : List UInt8) (j : Nat) (v x : UInt8) (h : j < l.length), x.toNat = l[j].toNat ^^^ v.toNat → num (l.set j x) = num l ^^^ 2 ^ (8 * j) * v.toNat
  | [], j, _, _, h, _ => absurd h (by simp)
  | b :: l, 0, v, x, _, e => by
    have e' : x.toNat = b.toNat ^^^ v.toNat := e
    rw [List.set_cons_zero, num, num, e', Nat.xor_assoc, Nat.xor_comm v.toNat, ← Nat.xor_assoc]; simp
  | b :: l, j + 1, v, x, h, e => by
    rw [List.set_cons_succ, num, num, num_set l j v x (by simpa using h) e, show (256 : Nat) = 2 ^ 8 by rfl, mul_xor, Nat.xor_assoc, ← Nat.mul_assoc, ← Nat.pow_add, show 8 + 8 * j = 8 * (j + 1) by omega]
/-- Two texts of one length whose bytes part in a row of at most 32 bits: their sums part. -/
theorem burst (l k : List UInt8) (q f : Nat) (hl : k.length = l.length) (hn : num k = num l ^^^ 2 ^ f * q) (hf : f ≤ 8 * l.length) (hq : q < 4294967296) (h0 : q ≠ 0) : addOf 0 k ≠ addOf 0 l := by
  intro e
  have l1 := run_lt (comp_lt 0) l; have l2 := run_lt (comp_lt 0) k
  have e2 : run (comp 0) k = run (comp 0) l := by
    have := congrArg comp (show comp (run (comp 0) k) = comp (run (comp 0) l) from e)
    rw [comp_comp l2, comp_comp l1] at this
    exact this
  rw [run_num, run_num, hl, hn, ← Nat.xor_assoc, lfn_xor] at e2
  have e3 : lfn (8 * l.length) (2 ^ f * q) = 0 := by
    have h := congrArg (fun x => lfn (8 * l.length) (comp 0 ^^^ num l) ^^^ x) e2
    simp only [Nat.xor_self] at h
    rw [← Nat.xor_assoc, Nat.xor_self, Nat.zero_xor] at h
    exact h
  have h8 : 8 * l.length = f + (8 * l.length - f) := by omega
  rw [h8, ← lfn_add, lfn_mul] at e3
  exact lfn_ne _ hq h0 e3
/-- The bits of the pattern that were turned in the first i rounds; the first one is always. -/
def turned (p : Nat) : Nat → Nat
  | 0 => 0
  | i + 1 => if i = 0 ∨ p.testBit i = true then turned p i ^^^ 2 ^ i else turned p i
theorem turned_lt (p : Nat) : ∀ i, turned p i < 2 ^ i
  | 0 => by simp [turned]
  | i + 1 => by
    have := turned_lt p i
    rw [turned]
    have h2 : 2 ^ i < 2 ^ (i + 1) := by rw [Nat.pow_succ]; omega
    split
    · exact Nat.xor_lt_two_pow (by omega) h2
    · omega
theorem turned_odd (p : Nat) : ∀ i, (turned p (i + 1)).testBit 0 = true
  | 0 => by simp [turned]
  | i + 1 => by
    have ih := turned_odd p i
    rw [turned]
    split
    · rw [Nat.testBit_xor, ih, Nat.testBit_two_pow]
      simp
    · exact ih
theorem turned_ne (p i : Nat) : turned p (i + 1) ≠ 0 := by
  intro e
  have := turned_odd p i
  rw [e] at this
  simp at this
/-- One round: a bit of the number is turned. -/
theorem num_turn {l k : List UInt8} {p f i r : Nat} (hk : num k = num l ^^^ 2 ^ f * turned p i) (x : UInt8) (j : Nat) (hj : j < k.length) (hd : f + i = 8 * j + r) (hr : r < 8) (hx : x.toNat = k[j].toNat ^^^ 2 ^ r) (ht : i = 0 ∨ p.testBit i = true) :
    num (k.set j x) = num l ^^^ 2 ^ f * turned p (i + 1) := by
  have hv : (UInt8.ofNat (2 ^ r)).toNat = 2 ^ r := by
    rw [UInt8.toNat_ofNat']
    refine Nat.mod_eq_of_lt ?_
    exact Nat.pow_lt_pow_right (by omega) hr
  rw [num_set k j (UInt8.ofNat (2 ^ r)) x hj (by rw [hv]; exact hx), hk, hv, ← Nat.pow_add, ← hd, turned, if_pos ht, mul_xor, Nat.xor_assoc, Nat.pow_add]
theorem turned_skip {p i : Nat} (h : ¬ (i = 0 ∨ p.testBit i = true)) : turned p (i + 1) = turned p i := by rw [turned, if_neg h]
end Go.Proofs.YtlchdphgnmcaeaaDoor
