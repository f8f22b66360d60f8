/- Package varnum: the order of the texts that Put answers. Conditions: none. -/
import Derived.Test.YtfjcmmfjacoodaaVarnumB
namespace Go.Proofs.Ytfjcmmfjacoodaa
open Go.RowKit Go.PlainAid

set_option maxRecDepth 100000 in
set_option maxHeartbeats 400000 in
theorem awake_any (w : World) :
    Calls Try.prog 14 #[] w fun e w' => e = .returned (.bool true) ∧ Below w.heap.size w w' := by
  have e300 : putL 300 = [249, 1, 44] := by decide
  have eg : getV (getR ({ data := #[120] } ++ { data := #[249, 1, 44] }) 1) = .tuple #[.int .u64 300, .int .i64 4, .int .i64 0] := by kernel_rfl
  go_enter Try.func14, Try.ntmps14
  go_wp2_with fail
  refine (put_any _ _ (by omega) (by omega)).mono ?_
  rintro e w1 ⟨rfl, hb1⟩
  rw [e300]
  go_wp2_with fail
  refine (get_any _ _ _ (by decide +kernel)).mono ?_
  rintro e w2 ⟨rfl, rfl⟩
  rw [eg]
  go_wp2_with fail
  refine (put_any _ _ (by omega) (by omega)).mono ?_
  rintro e w2 ⟨rfl, hb2⟩
  rw [e300]
  go_wp2_with fail
  go_ret
  exact ⟨rfl, hb1.trans (hb2.mono hb1.size)⟩

theorem bl_snoc (x y : List UInt8) (u v : UInt8) (h : x.length = y.length) : Op.bytesLess (x ++ [u]) (y ++ [v]) = (Op.bytesLess x y || (x == y && decide (u < v))) := by
  induction x generalizing y with
  | nil => cases y with
    | nil => simp [Op.bytesLess]
    | cons b y => simp at h
  | cons a x ih => cases y with
    | nil => simp at h
    | cons b y =>
      simp only [List.length_cons, Nat.add_right_cancel_iff] at h
      simp only [List.cons_append, Op.bytesLess, ih y h]
      by_cases h1 : a < b <;> by_cases h2 : a = b <;> simp [h1, h2, Bool.and_assoc]
      simp [beq_eq_false_iff_ne.2 h2]
theorem u8_lt (a b : Nat) : UInt8.ofNat a < UInt8.ofNat b ↔ a % 256 < b % 256 := by
  rw [UInt8.lt_iff_toNat_lt, UInt8.toNat_ofNat', UInt8.toNat_ofNat']
theorem u8_eq (a b : Nat) : UInt8.ofNat a = UInt8.ofNat b ↔ a % 256 = b % 256 := by
  rw [← UInt8.toNat_inj, UInt8.toNat_ofNat', UInt8.toNat_ofNat']
theorem be_order (k a b : Nat) (ha : a < 256 ^ k) (hb : b < 256 ^ k) : Op.bytesLess (be k a) (be k b) = decide (a < b) ∧ (be k a = be k b ↔ a = b) := by
  induction k generalizing a b with
  | zero => simp [be, Op.bytesLess]; omega
  | succ k ih =>
    rw [Nat.pow_succ] at ha hb
    obtain ⟨h1, h2⟩ := ih (a / 256) (b / 256) (by omega) (by omega)
    simp only [be]
    rw [bl_snoc _ _ _ _ (by rw [be_len, be_len]), h1]
    constructor
    · rw [Bool.eq_iff_iff]
      simp only [Bool.or_eq_true, decide_eq_true_eq, Bool.and_eq_true, beq_iff_eq, h2, u8_lt]
      omega
    · constructor
      · intro h
        obtain ⟨e1, e2⟩ := List.append_inj h (by rw [be_len, be_len])
        rw [h2] at e1; simp only [List.cons.injEq, and_true, u8_eq] at e2
        omega
      · rintro rfl; rfl
theorem wd_mono (a b : Int) (h : a ≤ b) : wd a ≤ wd b := by
  unfold wd; repeat' split
  all_goals omega
theorem put_order (a b : Int) (a0 : 0 ≤ a) (a1 : a < 18446744073709551616) (b0 : 0 ≤ b) (b1 : b < 18446744073709551616) :
    decide (a < b) = Op.bytesLess (putL a) (putL b) ∧ (a = b ↔ putL a = putL b) := by
  have wa := wd_bd a; have wb := wd_bd b
  have pa := wd_pow a a1; have pb := wd_pow b b1
  have m1 := wd_mono a b; have m2 := wd_mono b a
  by_cases ha : a < 248
  · by_cases hb : b < 248
    · rw [putL_small a ha, putL_small b hb]
      constructor
      · rw [Bool.eq_iff_iff]; simp [Op.bytesLess, u8_lt]; omega
      · simp only [List.cons.injEq, and_true, u8_eq]; omega
    · rw [putL_small a ha, putL_big b hb]
      have h1 : UInt8.ofNat a.toNat < UInt8.ofNat (247 + wd b).toNat := by rw [u8_lt]; omega
      have h2 : UInt8.ofNat a.toNat ≠ UInt8.ofNat (247 + wd b).toNat := by rw [Ne, u8_eq]; omega
      constructor
      · simp [Op.bytesLess, h1]; omega
      · simp [h2]; omega
  · by_cases hb : b < 248
    · rw [putL_big a ha, putL_small b hb]
      have h1 : ¬ UInt8.ofNat (247 + wd a).toNat < UInt8.ofNat b.toNat := by rw [u8_lt]; omega
      have h2 : UInt8.ofNat (247 + wd a).toNat ≠ UInt8.ofNat b.toNat := by rw [Ne, u8_eq]; omega
      have hab : ¬ a < b := by omega
      constructor
      · simp [Op.bytesLess, h1, beq_eq_false_iff_ne.2 h2, hab]
      · simp [h2]; omega
    · rw [putL_big a ha, putL_big b hb]
      by_cases hw : wd a = wd b
      · rw [hw] at pa ⊢
        obtain ⟨h1, h2⟩ := be_order (wd b).toNat a.toNat b.toNat pa pb
        constructor
        · simp only [Op.bytesLess, h1]; rw [Bool.eq_iff_iff]; simp [UInt8.lt_irrefl]; omega
        · simp [h2]; omega
      · by_cases hl : wd a < wd b
        · have h1 : UInt8.ofNat (247 + wd a).toNat < UInt8.ofNat (247 + wd b).toNat := by rw [u8_lt]; omega
          have h2 : UInt8.ofNat (247 + wd a).toNat ≠ UInt8.ofNat (247 + wd b).toNat := by rw [Ne, u8_eq]; omega
          constructor
          · simp [Op.bytesLess, h1]; omega
          · simp [h2]; omega
        · have h1 : ¬ UInt8.ofNat (247 + wd a).toNat < UInt8.ofNat (247 + wd b).toNat := by rw [u8_lt]; omega
          have h2 : UInt8.ofNat (247 + wd a).toNat ≠ UInt8.ofNat (247 + wd b).toNat := by rw [Ne, u8_eq]; omega
          constructor
          · have hab : ¬ a < b := fun h => by have := m1 (by omega); omega
            simp [Op.bytesLess, h1, beq_eq_false_iff_ne.2 h2, hab]
          · simp [h2]; intro hab; exact hw (by rw [hab])
theorem put_len_order (a b : Int) (h : a ≤ b) : (putL a).length ≤ (putL b).length := by
  have := putL_len a; have := putL_len b; have := wd_mono a b h
  have := wd_bd b
  unfold lenOf at *; split at * <;> split at * <;> omega

set_option maxRecDepth 100000 in
set_option maxHeartbeats 400000 in
theorem order_walk (a b : Int) (w : World) (a0 : 0 ≤ a) (a1 : a < 18446744073709551616) (b0 : 0 ≤ b) (b1 : b < 18446744073709551616) :
    Calls Try.prog 5 #[.int .u64 a, .int .u64 b] w fun e w' => e = .returned (.bool true) ∧ Below w.heap.size w w' := by
  obtain ⟨o1, o2⟩ := put_order a b a0 a1 b0 b1
  have f1 := o1.symm
  have f2 : (putL a == putL b) = (a == b) := by rw [Bool.eq_iff_iff, beq_iff_eq, beq_iff_eq]; exact o2.symm
  have f3 : (decide (b < a) || decide ((putL a).length ≤ (putL b).length)) = true := by
    have := put_len_order a b
    by_cases h : b < a
    · simp [h]
    · simp [this (by omega)]
  clear o1 o2
  have Ha := Lib.hid a1; have Hb := Lib.hid b1; clear a1 b1
  go_enter Try.func5, Try.ntmps5
  go_wp2_with fail
  refine (put_any _ _ a0 Ha.out).mono ?_
  rintro e w1 ⟨rfl, hb1⟩
  go_wp2_with fail
  refine (put_any _ _ b0 Hb.out).mono ?_
  rintro e w2 ⟨rfl, hb2⟩
  have hb3 := hb1.trans (hb2.mono hb1.size)
  go_wp2_with (go_at_call 14; refine (awake_any _).mono ?_; rintro e w3 ⟨rfl, hb4⟩)
  all_goals
    go_ret
    exact ⟨rfl, hb3.trans (hb4.mono hb3.size)⟩

theorem order_law (a b : Int) (w : World) (wa : (Lit.int .u64 a).wf = true) (wb : (Lit.int .u64 b).wf = true) :
    Calls Try.prog 5 #[.int .u64 a, .int .u64 b] w fun e w' => e = .returned (.bool true) ∧ Below w.heap.size w w' :=
  order_walk a b w (wf_u64 wa).1 (wf_u64 wa).2 (wf_u64 wb).1 (wf_u64 wb).2
end Go.Proofs.Ytfjcmmfjacoodaa
