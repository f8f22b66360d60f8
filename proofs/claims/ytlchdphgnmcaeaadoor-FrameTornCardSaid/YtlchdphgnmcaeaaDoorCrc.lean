/- The sum as plain mathematics: a word that is turned bit by bit. Conditions: none. -/
import Derived.Test.YtlchdphgnmcaeaaDoorRows
namespace Go.Proofs.YtlchdphgnmcaeaaDoor

/-- One step: the lowest bit goes; if it was a one, the word is changed. -/
def lfs (c : Nat) : Nat := (c / 2) ^^^ (if c % 2 = 1 then 3988292384 else 0)
/-- So many steps. -/
def lfn : Nat → Nat → Nat
  | 0, c => c
  | n + 1, c => lfn n (lfs c)

theorem lfs_xor (a b : Nat) : lfs (a ^^^ b) = lfs a ^^^ lfs b := by
  unfold lfs
  have hm : (a ^^^ b) % 2 = (a % 2) ^^^ (b % 2) := Nat.xor_mod_two_pow (n := 1)
  rw [Nat.xor_div_two, hm]
  have ha : a % 2 = 0 ∨ a % 2 = 1 := by omega
  have hb : b % 2 = 0 ∨ b % 2 = 1 := by omega
  rcases ha with ha | ha <;> rcases hb with hb | hb <;> rw [ha, hb]
  · simp
  · simp [Nat.xor_assoc]
  · simp only [if_true, Nat.zero_ne_one, if_false, Nat.xor_zero]
    rw [Nat.xor_assoc, Nat.xor_assoc, Nat.xor_comm (b / 2)]
  · simp only [Nat.xor_self, if_true, Nat.zero_ne_one, if_false, Nat.xor_zero]
    rw [Nat.xor_assoc, ← Nat.xor_assoc 3988292384, Nat.xor_comm 3988292384, Nat.xor_assoc (b / 2), Nat.xor_self, Nat.xor_zero]
theorem lfs_lt {c : Nat} (h : c < 4294967296) : lfs c < 4294967296 := by
  unfold lfs
  exact Nat.xor_lt_two_pow (n := 32) (by omega) (by split <;> decide)
theorem lfs_ne {c : Nat} (h : c < 4294967296) (h0 : c ≠ 0) : lfs c ≠ 0 := by
  unfold lfs
  split
  · intro e
    have := congrArg (· ^^^ 3988292384) e
    simp only [Nat.xor_assoc, Nat.xor_self, Nat.xor_zero, Nat.zero_xor] at this
    omega
  · rw [Nat.xor_zero]; omega
theorem lfs_zero : lfs 0 = 0 := by decide
theorem lfs_two (x : Nat) : lfs (2 * x) = x := by
  unfold lfs
  rw [if_neg (by omega), Nat.xor_zero]; omega
theorem lfn_xor : ∀ (n a b : Nat), lfn n (a ^^^ b) = lfn n a ^^^ lfn n b
  | 0, _, _ => rfl
  | n + 1, a, b => by show lfn n (lfs (a ^^^ b)) = _; rw [lfs_xor, lfn_xor n]; rfl
theorem lfn_lt : ∀ (n : Nat) {c : Nat}, c < 4294967296 → lfn n c < 4294967296
  | 0, _, h => h
  | n + 1, _, h => lfn_lt n (lfs_lt h)
theorem lfn_ne : ∀ (n : Nat) {c : Nat}, c < 4294967296 → c ≠ 0 → lfn n c ≠ 0
  | 0, _, _, h => h
  | n + 1, _, h, h0 => lfn_ne n (lfs_lt h) (lfs_ne h h0)
theorem lfn_zero : ∀ n, lfn n 0 = 0
  | 0 => rfl
  | n + 1 => by show lfn n (lfs 0) = 0; rw [lfs_zero]; exact lfn_zero n
theorem lfn_add : ∀ (m n c : Nat), lfn n (lfn m c) = lfn (m + n) c
  | 0, n, c => by rw [Nat.zero_add]; rfl
  | m + 1, n, c => by rw [show m + 1 + n = (m + n) + 1 by omega]; exact lfn_add m n (lfs c)
/-- So many steps at once: the low bits' part, and what is above. -/
theorem lfn_split : ∀ (n c : Nat), lfn n c = c / 2 ^ n ^^^ lfn n (c % 2 ^ n)
  | 0, c => by simp [lfn, Nat.mod_one]
  | n + 1, c => by
    have e1 : c % 2 ^ (n + 1) / 2 = c / 2 % 2 ^ n := by
      rw [Nat.pow_succ, Nat.mul_comm, Nat.mod_mul_right_div_self]
    have e2 : c % 2 ^ (n + 1) % 2 = c % 2 := by
      rw [Nat.pow_succ, Nat.mul_comm]; exact Nat.mod_mul_right_mod c 2 (2 ^ n)
    show lfn n (lfs c) = _ ^^^ lfn n (lfs (c % 2 ^ (n + 1)))
    unfold lfs
    rw [e1, e2, lfn_xor, lfn_xor, lfn_split n (c / 2), Nat.div_div_eq_div_mul, Nat.xor_assoc, show 2 * 2 ^ n = 2 ^ (n + 1) by rw [Nat.pow_succ]; omega]
theorem lfn_4 (c : Nat) : lfn 4 c = c / 16 ^^^ lfn 4 (c % 16) := lfn_split 4 c
theorem lfn_8 (c : Nat) : lfn 8 c = c / 256 ^^^ lfn 8 (c % 256) := lfn_split 8 c
theorem lfn_44 (c : Nat) : lfn 4 (lfn 4 c) = lfn 8 c := lfn_add 4 4 c

/-- What is made of a word by bytes. -/
def run (c : Nat) (l : List UInt8) : Nat := l.foldl (fun c b => lfn 8 (c ^^^ b.toNat)) c
theorem run_snoc (c : Nat) (l : List UInt8) (b : UInt8) : run c (l ++ [b]) = lfn 8 (run c l ^^^ b.toNat) := by simp [run]
theorem run_append (c : Nat) (l k : List UInt8) : run c (l ++ k) = run (run c l) k := by simp [run]
theorem run_cons (c : Nat) (b : UInt8) (l : List UInt8) : run c (b :: l) = run (lfn 8 (c ^^^ b.toNat)) l := rfl
theorem u8_lt (b : UInt8) : b.toNat < 256 := b.toNat_lt
theorem run_lt {c : Nat} (h : c < 4294967296) : ∀ l, run c l < 4294967296 := by
  intro l
  induction l generalizing c with
  | nil => exact h
  | cons b l ih => exact ih (lfn_lt 8 (Nat.xor_lt_two_pow (n := 32) h (by have := u8_lt b; omega)))
/-- All bits turned. -/
def comp (c : Nat) : Nat := 4294967295 - c
theorem comp_xor {c : Nat} (h : c < 4294967296) : comp c = c ^^^ 4294967295 := by
  have h1 : (~~~ (BitVec.ofNat 32 c)).toNat = 4294967295 - c := by
    rw [BitVec.toNat_not, BitVec.toNat_ofNat, Nat.mod_eq_of_lt (by omega)]
  have h2 : (BitVec.ofNat 32 c ^^^ BitVec.allOnes 32).toNat = c ^^^ 4294967295 := by
    rw [BitVec.toNat_xor, BitVec.toNat_ofNat, Nat.mod_eq_of_lt (by omega)]; rfl
  rw [BitVec.xor_allOnes] at h2
  unfold comp
  rw [← h1, h2]
theorem comp_lt (c : Nat) : comp c < 4294967296 := by unfold comp; omega
theorem comp_comp {c : Nat} (h : c < 4294967296) : comp (comp c) = c := by unfold comp; omega
/-- The sum of a text that goes on from c. -/
def addOf (c : Nat) (l : List UInt8) : Nat := comp (run (comp c) l)
theorem addOf_lt (c : Nat) (l : List UInt8) : addOf c l < 4294967296 := comp_lt _
theorem addOf_append (c : Nat) (l k : List UInt8) : addOf (addOf c l) k = addOf c (l ++ k) := by
  unfold addOf
  rw [comp_comp (run_lt (comp_lt c) l), run_append]
/-- Bit by bit together. -/
theorem run_xor : ∀ (a b : Nat) (l k : List UInt8), l.length = k.length → run (a ^^^ b) (List.zipWith (· ^^^ ·) l k) = run a l ^^^ run b k
  | a, b, [], [], _ => rfl
  | a, b, x :: l, y :: k, h => by
    rw [List.zipWith_cons_cons, run_cons, run_cons, run_cons, ← run_xor _ _ l k (by simpa using h), ← lfn_xor, UInt8.toNat_xor]
    congr 2
    rw [Nat.xor_assoc, Nat.xor_assoc, ← Nat.xor_assoc b, Nat.xor_comm b, Nat.xor_assoc]
  | _, _, [], _ :: _, h => by simp at h
  | _, _, _ :: _, [], h => by simp at h
theorem sum_three (a b c : List UInt8) (h1 : a.length = b.length) (h2 : b.length = c.length) :
    addOf 0 (List.zipWith (· ^^^ ·) a (List.zipWith (· ^^^ ·) b c)) = addOf 0 a ^^^ (addOf 0 b ^^^ addOf 0 c) := by
  have hz : (List.zipWith (· ^^^ ·) b c).length = b.length := by simp [h2]
  unfold addOf
  have e : comp 0 = comp 0 ^^^ (comp 0 ^^^ comp 0) := by rw [Nat.xor_self, Nat.xor_zero]
  have l1 := run_lt (comp_lt 0) a; have l2 := run_lt (comp_lt 0) b; have l3 := run_lt (comp_lt 0) c
  have h3 : run (comp 0) (List.zipWith (· ^^^ ·) a (List.zipWith (· ^^^ ·) b c)) = run (comp 0) a ^^^ (run (comp 0) b ^^^ run (comp 0) c) := by
    conv => lhs; rw [e]
    rw [run_xor _ _ _ _ (by rw [hz, h1]), run_xor _ _ _ _ h2]
  rw [h3, comp_xor l1, comp_xor l2, comp_xor l3, comp_xor (Nat.xor_lt_two_pow (n := 32) l1 (Nat.xor_lt_two_pow (n := 32) l2 l3))]
  generalize run (comp 0) a = x
  generalize run (comp 0) b = y
  generalize run (comp 0) c = z
  apply Nat.eq_of_testBit_eq
  intro i
  simp only [Nat.testBit_xor]
  cases x.testBit i <;> cases y.testBit i <;> cases z.testBit i <;> cases Nat.testBit 4294967295 i <;> rfl
end Go.Proofs.YtlchdphgnmcaeaaDoor
