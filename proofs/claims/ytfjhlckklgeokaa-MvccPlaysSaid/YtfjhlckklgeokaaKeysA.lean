/- Keys: the least text above a text, of at most b bytes, and that nothing lies between. Plain lists. Conditions: none. -/
import Derived.Test.YtfjhlckklgeokaaLib
namespace Go.Proofs.Ytfjhlckklgeokaa

/-- The least text above k that has at most b bytes. -/
def nx : Nat → List UInt8 → Option (List UInt8)
  | 0, _ => none
  | _ + 1, [] => some [0]
  | b + 1, c :: r => match nx b r with
    | some m => some (c :: m)
    | none => if c.toNat < 255 then some [UInt8.ofNat (c.toNat + 1)] else none

theorem bl_nil (l : List UInt8) : Op.bytesLess l [] = false := by cases l <;> rfl
theorem bl_cons (a b : UInt8) (x y : List UInt8) : Op.bytesLess (a :: x) (b :: y) = (decide (a < b) || (a == b && Op.bytesLess x y)) := rfl
theorem bl_irrefl (l : List UInt8) : Op.bytesLess l l = false := by
  induction l with
  | nil => rfl
  | cons a l ih => rw [bl_cons, ih]; simp [UInt8.lt_irrefl]
/-- x ≤ y, as a Bool: what Go's own comparison gives. -/
def le (x y : List UInt8) : Bool := Op.bytesLess x y || x == y
theorem le_nil (x : List UInt8) : le [] x = true := by cases x <;> rfl
theorem le_cons (a b : UInt8) (x y : List UInt8) : le (a :: x) (b :: y) = (decide (a < b) || (a == b && le x y)) := by
  unfold le; rw [bl_cons]
  by_cases h1 : a < b
  · simp [h1]
  · by_cases h2 : a = b
    · subst h2; simp [UInt8.lt_irrefl]
    · simp [h1, h2, beq_eq_false_iff_ne.2 h2]

theorem nx_spec : ∀ (b : Nat) (k : List UInt8),
    match nx b k with
    | none => ∀ x : List UInt8, x.length ≤ b → le x k = true
    | some n => 1 ≤ n.length ∧ n.length ≤ b ∧ Op.bytesLess k n = true ∧ ∀ x : List UInt8, x.length ≤ b → le x k = true ∨ le n x = true
  | 0, k => by
    intro x hx
    obtain rfl : x = [] := List.eq_nil_of_length_eq_zero (by omega)
    exact le_nil k
  | b + 1, [] => by
    refine ⟨by simp, by simp, rfl, fun x _ => ?_⟩
    cases x with
    | nil => exact .inl rfl
    | cons c r =>
      right
      rw [le_cons]
      by_cases h : (0 : UInt8) = c
      · subst h; simp [le_nil]
      · have : (0 : UInt8) < c := by
          rw [UInt8.lt_iff_toNat_lt]
          have : c.toNat ≠ 0 := fun e => h (by rw [← UInt8.toNat_inj, e]; rfl)
          simp; omega
        simp [this]
  | b + 1, c :: r => by
    have ih := nx_spec b r
    rw [nx]
    cases hn : nx b r with
    | some m =>
      rw [hn] at ih
      obtain ⟨h1, h2, h3, h4⟩ := ih
      refine ⟨by simp, by simp; omega, by rw [bl_cons, h3]; simp, fun x hx => ?_⟩
      cases x with
      | nil => exact .inl (le_nil _)
      | cons d y =>
        rw [le_cons, le_cons]
        by_cases e1 : d < c
        · left; simp [e1]
        · by_cases e2 : c < d
          · right; simp [e2]
          · have e : d = c := by
              rw [UInt8.lt_iff_toNat_lt] at e1 e2
              rw [← UInt8.toNat_inj]; omega
            subst e
            rcases h4 y (by simpa using hx) with h | h
            · left; simp [h]
            · right; simp [h]
    | none =>
      rw [hn] at ih
      by_cases hc : c.toNat < 255
      · rw [if_pos hc]
        have hlt : c < UInt8.ofNat (c.toNat + 1) := by
          rw [UInt8.lt_iff_toNat_lt, UInt8.toNat_ofNat']; omega
        refine ⟨by simp, by simp, by rw [bl_cons, decide_eq_true hlt]; rfl, fun x hx => ?_⟩
        cases x with
        | nil => exact .inl (le_nil _)
        | cons d y =>
          rw [le_cons, le_cons]
          by_cases e1 : d < c
          · left; simp [e1]
          · by_cases e2 : d = c
            · subst e2; left; simp [ih y (by simpa using hx)]
            · right
              by_cases e3 : UInt8.ofNat (c.toNat + 1) < d
              · rw [decide_eq_true e3]; rfl
              · have : UInt8.ofNat (c.toNat + 1) = d := by
                  rw [UInt8.lt_iff_toNat_lt, UInt8.toNat_ofNat'] at e3
                  rw [UInt8.lt_iff_toNat_lt] at e1
                  rw [← UInt8.toNat_inj] at e2 ⊢
                  rw [UInt8.toNat_ofNat']; omega
                rw [this, beq_self_eq_true, le_nil]; simp
      · rw [if_neg hc]
        intro x hx
        cases x with
        | nil => exact le_nil _
        | cons d y =>
          rw [le_cons]
          have hd := d.toNat_lt
          by_cases e1 : d < c
          · simp [e1]
          · have : d = c := by
              rw [UInt8.lt_iff_toNat_lt] at e1
              rw [← UInt8.toNat_inj]; omega
            subst this
            simp [ih y (by simpa using hx)]

theorem nx_short : ∀ (b : Nat) (k : List UInt8), k.length < b → nx b k = some (k ++ [0])
  | 0, k, h => by omega
  | b + 1, [], _ => rfl
  | b + 1, c :: r, h => by rw [nx, nx_short b r (by simpa using h)]; rfl
/-- One byte more at the front that is not the last that can grow. -/
theorem nx_up (b : Nat) (c : UInt8) (r m : List UInt8) (h : nx b r = some m) : nx (b + 1) (c :: r) = some (c :: m) := by rw [nx, h]
theorem nx_drop : ∀ (j b : Nat) (k m : List UInt8), j ≤ k.length → nx b (k.drop j) = some m → nx (b + j) k = some (k.take j ++ m)
  | 0, b, k, m, _, h => by simpa using h
  | j + 1, b, c :: r, m, hj, h => by
    rw [show b + (j + 1) = (b + j) + 1 by omega]
    rw [nx_up _ c r _ (nx_drop j b r m (by simpa using hj) (by simpa using h))]; simp
  | j + 1, b, [], m, hj, h => by simp at hj
theorem bl_asymm : ∀ (x y : List UInt8), Op.bytesLess x y = true → Op.bytesLess y x = false
  | [], y, _ => bl_nil y
  | a :: x, [], h => by rw [bl_nil] at h; cases h
  | a :: x, b :: y, h => by
    rw [bl_cons] at h ⊢
    by_cases h1 : a < b
    · have h2 : ¬ b < a := by rw [UInt8.lt_iff_toNat_lt] at *; omega
      have h3 : b ≠ a := fun e => by subst e; rw [UInt8.lt_iff_toNat_lt] at h1; omega
      simp [h2, beq_eq_false_iff_ne.2 h3]
    · simp only [h1, decide_false, Bool.false_or, Bool.and_eq_true, beq_iff_eq] at h
      obtain ⟨rfl, h⟩ := h
      simp [UInt8.lt_irrefl, bl_asymm x y h]
theorem le_not (x y : List UInt8) (h : le x y = true) : Op.bytesLess y x = false := by
  unfold le at h
  rw [Bool.or_eq_true, beq_iff_eq] at h
  rcases h with h | rfl
  · exact bl_asymm _ _ h
  · exact bl_irrefl _
/-- What Next answers. -/
def nextL (k : List UInt8) : List UInt8 := (nx 8 k).getD []
end Go.Proofs.Ytfjhlckklgeokaa
