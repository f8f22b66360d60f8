/- Readers: big numbers, the error so far. Conditions: none. -/
import Derived.Test.YteioaaegooebpaaGreatObjNp
namespace Go.Proofs.YteioaaegooebpaaGreat
open Go.RowKit Go.PlainAid
set_option linter.unusedVariables false
section
variable {w x : World} {b N : Nat} {s : ByteArray} {a e : Int}
theorem getR_lt (s : ByteArray) (a : Int) : (getR s a).1 < 18446744073709551616 := by
  unfold getR
  have hb2 := bt_le s a.toNat
  split
  · decide
  split
  · decide
  split
  · show bt s a.toNat < _; omega
  split
  · decide
  split
  · show val s (a.toNat + 1) (bt s a.toNat - 247).toNat < _
    have h1 := val_lt s (a.toNat + 1) (bt s a.toNat - 247).toNat
    have hk : (bt s a.toNat - 247).toNat ≤ 8 := by omega
    have h2 : (256 : Nat) ^ (bt s a.toNat - 247).toNat ≤ 256 ^ 8 := Nat.pow_le_pow_right (by decide) hk
    have h3 : ((256 : Int) ^ (bt s a.toNat - 247).toNat) = ((256 ^ (bt s a.toNat - 247).toNat : Nat) : Int) := by rw [Int.natCast_pow]; rfl
    have h4 : (256 : Nat) ^ 8 = 18446744073709551616 := by decide
    omega
  · decide
theorem bigR_le {s : ByteArray} {a x : Int} : 0 ≤ (bigR s a x).1 ∧ (bigR s a x).1 < 18446744073709551616 := by
  have h1 := getR_range s a
  have h2 := getR_lt s a
  unfold bigR
  split
  · exact ⟨Int.le_refl _, by show (0 : Int) < _; decide⟩
  · dsimp only
    split
    · exact ⟨h1, h2⟩
    · exact ⟨Int.le_refl _, by decide⟩
theorem or_big (b : Nat) (s : ByteArray) (a e : Int) (w : World) (h : OR b s a e w) (hs : s.size ≤ 9223372036854775807) :
    Calls Tryz.prog 120 #[.pointer (some ⟨b, 0, none⟩)] w fun e1 w' => ∃ n a' e', e1 = .returned (.int .u64 n) ∧ bigR s a e = (n, a', e') ∧ 0 ≤ n ∧ n < 18446744073709551616 ∧ OR b s a' e' w' ∧ w.grownBy w' (some b) :=
  (rBig_re b s a e w h.re hs).mono (by
    rintro e1 x ⟨rfl, hw, hb⟩
    exact ⟨_, _, _, rfl, rfl, bigR_le.1, bigR_le.2, ⟨hw, bigR_at⟩, but_grown hb⟩)
theorem oxr_big (b : Nat) (s : ByteArray) (a e : Int) (w : World) (h : OXR b s a e w) (hs : s.size ≤ 9223372036854775807) :
    Calls Tryz.prog 128 #[.pointer (some ⟨b, 0, none⟩)] w fun e1 w' => ∃ n a' e', e1 = .returned (.int .u64 n) ∧ bigR s a e = (n, a', e') ∧ 0 ≤ n ∧ n < 18446744073709551616 ∧ OXR b s a' e' w' ∧ w.grownBy w' (some b) :=
  (xrBig_re b s a e w h.re hs).mono (by
    rintro e1 x ⟨rfl, hw, hb⟩
    exact ⟨_, _, _, rfl, rfl, bigR_le.1, bigR_le.2, ⟨hw, bigR_at⟩, but_grown hb⟩)
theorem or_err (b : Nat) (s : ByteArray) (a e : Int) (w : World) (h : OR b s a e w) :
    Calls Tryz.prog 59 #[.pointer (some ⟨b, 0, none⟩)] w fun e1 w' => e1 = .returned (.int .i64 e) ∧ w = w' := err_re b s a e w h.re
end
end Go.Proofs.YteioaaegooebpaaGreat
