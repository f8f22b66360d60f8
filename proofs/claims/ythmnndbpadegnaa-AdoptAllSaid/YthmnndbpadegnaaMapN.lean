/- Keys of maps: a client and a number as one struct. Conditions: none. -/
import Derived.Test.YthmnndbpadegnaaMapO
import Derived.Laws.StructEq
namespace Go.Proofs.Ythmnndbpadegnaa
open Go.RowKit

theorem nm_eq (w : World) (x1 x2 y1 y2 : Int) : (Op.equal 123 (arr2K (x1, x2)) (arr2K (y1, y2))).run Try.prog w = .ok (x1 == y1 && x2 == y2) w := by
  have u := Try.underlying3
  have hS : Try.prog.underlying 123 = some (.struct (Try.prog.fieldsOf 123)) := by kernel_rfl
  have hp : Try.prog.stoodInHeld 123 = false := by kernel_rfl
  unfold Op.equal Op.maxDepth arr2K
  rw [show (10000 : Nat) = 9999 + 1 from rfl, run_equalIn_agg w 9999 123 _ _ hS hp]
  simp only [Program.fieldsOf, Try.underlying123]
  go_simp
  by_cases h1 : x1 = y1 <;> by_cases h2 : x2 = y2 <;> simp [h1, h2]
theorem nm_chk (w : World) (em : Bool) (a : Int × Int) : (Instr.checkKey em 10000 123 (arr2K a)).run Try.prog w = .ok () w := by
  have u := Try.underlying3
  have e1 : ∀ (w : World) (d : Nat) (x : Int), (Instr.checkKey em (d + 1) 3 (.int .i64 x)).run Try.prog w = .ok () w := fun w d x => by
    simp [Instr.checkKey, Sem.run_bind, run_underlying u]
  rw [show (10000 : Nat) = 9998 + 1 + 1 from rfl, Instr.checkKey]
  simp only [Sem.run_bind, run_underlying Try.underlying123, Result.andThen_ok, arr2K]
  have hp0 : ∀ w : World, (part 3 #[.int .i64 a.1, .int .i64 a.2] 0).run Try.prog w = .ok (.int .i64 a.1) w := fun w => by kernel_rfl
  have hp1 : ∀ w : World, (part 3 #[.int .i64 a.1, .int .i64 a.2] 1).run Try.prog w = .ok (.int .i64 a.2) w := fun w => by kernel_rfl
  simp [Sem.run_bind, hp0, hp1, e1]
theorem nm_kl : KL Try.prog 123 arr2K :=
  aggKL Try.underlying123 (fun a b => rfl) (fun a b w => by
    obtain ⟨a1, a2⟩ := a
    obtain ⟨b1, b2⟩ := b
    rw [nm_eq]
    by_cases h1 : a1 = b1 <;> by_cases h2 : a2 = b2 <;> simp [h1, h2]) (fun w em a => nm_chk w em a) (fun a => (show ∀ d, Instr.sameBits (d + 1 + 1) (arr2K a) (arr2K a) = true from fun d => by simp [Instr.sameBits, arr2K]) 9998)
end Go.Proofs.Ythmnndbpadegnaa
