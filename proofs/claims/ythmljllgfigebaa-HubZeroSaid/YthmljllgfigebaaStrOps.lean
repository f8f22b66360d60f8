/- Texts cut and put together: runs as equations. Conditions: none. -/
import Derived.Test.YthmljllgfigebaaLib
import Derived.Laws.Concat
namespace Go.Proofs.Ythmljllgfigebaa
open Go.RowKit

theorem slice_run (s : ByteArray) (i j : Nat) (I J : Int) (hI : I = (i : Int)) (hJ : J = (j : Int)) (hij : i ≤ j) (hj : j ≤ s.size) (w : World) :
    (Instr.slice 9 (.string s) (some (.int .i64 I)) (some (.int .i64 J)) none).run Try.prog w = .ok (.string (s.extract i j)) w := by
  subst hI hJ
  rw [run_slice_string_if w 9 s .i64 .i64 (i : Int) (j : Int) Try.underlying9, if_pos ⟨by omega, by omega⟩, if_pos ⟨by omega, by omega⟩]
  simp
theorem concat_run (x y : ByteArray) (h : x.size + y.size ≤ 9223372036854775807) (w : World) : (Op.stringOp .add x y).run Try.prog w = .ok (.string (x ++ y)) w := run_string_add_sum w x y h
end Go.Proofs.Ythmljllgfigebaa
