/- Package ops: against. Conditions: none. -/
import Derived.Test.YteioaaegooebpaaOpsB
import Derived.Test.YteioaaegooebpaaSortK
import Derived.Test.YteioaaegooebpaaMapO
import Derived.Test.YteioaaegooebpaaLaySort
import Derived.Shelf.Small.Strs
namespace Go.Proofs.Yteioaaegooebpaa
open Go.RowKit Go.PlainAid
set_option linter.unusedVariables false

open Go.Sort Go.Shelf Go.Lib

abbrev ValT := ByteArray × ByteArray
def valE (v : ValT) : List Value := [.string v.1, .string v.2]
theorem valE_len (v : ValT) : (valE v).length = 2 := rfl
theorem valE_one (v : ValT) : ∀ u ∈ valE v, u.oneCell' = true := by intro u hu; simp [valE] at hu; rcases hu with rfl | rfl <;> rfl
def valV (v : ValT) : Value := .agg #[.string v.1, .string v.2]
def opV (o : OpT) : Value := .agg #[.string o.1, .string o.2.1, .bool o.2.2]
abbrev kB (s : ByteArray) : List UInt8 := s.data.toList
def cfV (x y : ValT) : Int := Lib.compareBytes (kB x.1) (kB y.1)
def cfO (x y : OpT) : Int := Lib.compareBytes (kB x.1) (kB y.1)
set_option maxHeartbeats 1000000 in
theorem against_v (x y : ValT) (W : World) : Calls Try.prog 51 #[.agg #[.string x.1, .string x.2], .agg #[.string y.1, .string y.2]] W fun e w' => e = .returned (.int .i64 (cfV x y)) ∧ ∃ q os', w' = grow (W.drewN q) os' := by
  have hcon := fun W' => Any.strings_Compare Try.cmpS x.1 y.1 W'
  change ∀ W', Calls Try.prog 100 _ _ _ at hcon
  unfold cfV kB
  generalize Lib.compareBytes x.1.data.toList y.1.data.toList = r at hcon ⊢
  go_enter Try.func51, Try.ntmps51
  go_wp2_with (go_at_call 100; refine (hcon _).mono ?_; rintro e w' ⟨rfl, rfl⟩)
  go_ret
  exact ⟨rfl, 0, _, by rw [alloc_eq_grow, alloc_eq_grow, grow_grow]; rfl⟩
set_option maxHeartbeats 1000000 in
theorem against_o (x y : OpT) (W : World) : Calls Try.prog 53 #[.agg #[.string x.1, .string x.2.1, .bool x.2.2], .agg #[.string y.1, .string y.2.1, .bool y.2.2]] W fun e w' => e = .returned (.int .i64 (cfO x y)) ∧ ∃ q os', w' = grow (W.drewN q) os' := by
  have hcon := fun W' => Any.strings_Compare Try.cmpS x.1 y.1 W'
  change ∀ W', Calls Try.prog 100 _ _ _ at hcon
  unfold cfO kB
  generalize Lib.compareBytes x.1.data.toList y.1.data.toList = r at hcon ⊢
  go_enter Try.func53, Try.ntmps53
  go_wp2_with (go_at_call 100; refine (hcon _).mono ?_; rintro e w' ⟨rfl, rfl⟩)
  go_ret
  exact ⟨rfl, 0, _, by rw [alloc_eq_grow, alloc_eq_grow, grow_grow]; rfl⟩

end Go.Proofs.Yteioaaegooebpaa
