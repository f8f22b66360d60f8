/- Package wire: what a deferred closure makes of a panic. Conditions: none. -/
import Derived.Test.YteioaaegooebpaaGreatWireA
import Derived.Defers
import Derived.Recover
import Derived.Laws.Pointers
import Derived.WalkLawsBesides
namespace Go.Proofs.YteioaaegooebpaaGreat
open Go.RowKit Go.PlainAid

theorem ta_nil (w : World) : (Instr.typeAssert Value.nilIface 20 23 true).run Tryz.prog w = .ok (.tuple #[.int .i64 0, .bool false]) w := by kernel_rfl
theorem ta_err (x : Int) (w : World) : (Instr.typeAssert (.iface 23 (.int .i64 x)) 20 23 true).run Tryz.prog w = .ok (.tuple #[.int .i64 x, .bool true]) w := by kernel_rfl
set_option maxRecDepth 100000 in
set_option maxHeartbeats 1600000 in
theorem catch_idle (p : Addr) (w : World) :
    CallsD Tryz.prog 162 #[.pointer (some p)] .returning w fun e u' w' => e = .returned (.tuple #[]) ∧ u' = .returning ∧ w' = w := by
  refine callsD_of_wpS Tryz.func162 rfl fun c₀ cs hu => ?_
  apply wpS_seq
  apply wpS_region
  simp [wpOpsS, go_sem, recoverD, hu, Tryz.ntmps162, Exit.thenS, ta_nil, ta_err]
  apply wpS_seq
  apply wpS_region
  simp [wpOpsS, go_sem, recoverD, hu, Exit.thenS]
  refine wpS_cond (t := false) (by simp [Act.eval, Array.replicate]) ?_
  simp only [Bool.false_eq_true, if_false]
  refine wpS_of_wp (wp_skip ?_)
  cases c₀
  simp_all [bodyPostS, results, Tryz.results162]
set_option maxRecDepth 100000 in
set_option maxHeartbeats 1600000 in
theorem catch_errno (p : Addr) (b : Nat) (x y : Int) (older : List PanicEntry) (w : World) (hp : w.cell? p = some (.pointer (some ⟨b, 0, none⟩))) (hc : w.cell? ⟨b, 2, none⟩ = some (.int .i64 y)) (hz : w.frozen? ⟨b, 2, none⟩ = false) :
    CallsD Tryz.prog 162 #[.pointer (some p)] (.panicking ({ v := .iface 23 (.int .i64 x), recovered := false } :: older)) w fun e u' w' => e = .returned (.tuple #[]) ∧ u' = .panicking ({ v := .iface 23 (.int .i64 x), recovered := true } :: older) ∧ w' = w.setCell ⟨b, 2, none⟩ (.int .i64 x) := by
  refine callsD_of_wpS Tryz.func162 rfl fun c₀ cs hu => ?_
  apply wpS_seq
  apply wpS_region
  simp [wpOpsS, go_sem, recoverD, hu, Tryz.ntmps162, Exit.thenS, ta_nil, ta_err]
  apply wpS_seq
  apply wpS_region
  simp [wpOpsS, go_sem, recoverD, hu, Exit.thenS]
  refine wpS_cond (t := true) (by simp [Act.eval, Array.replicate]) ?_
  simp only [if_true]
  apply wpS_region
  simp [wpOpsS, go_sem, hp, hc, hz, bodyPostS, results, Tryz.results162]
end Go.Proofs.YteioaaegooebpaaGreat
