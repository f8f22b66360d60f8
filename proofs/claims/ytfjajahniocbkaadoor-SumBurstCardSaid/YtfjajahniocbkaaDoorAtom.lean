/- sync/atomic's Int64: Load, Add; one goroutine. Conditions: none. -/
import Derived.Test.YtfjajahniocbkaaDoorLib
import Derived.Laws.LoneSync
namespace Go.Proofs.YtfjajahniocbkaaDoor
open Go.RowKit Go.PlainAid

set_option maxRecDepth 100000 in
set_option maxHeartbeats 800000 in
theorem load64 (b off : Nat) (x : Int) (w : World) (hc : w.cell? ⟨b, off, none⟩ = some (.int .i64 x)) :
    Calls Tryd.prog 18 #[.pointer (some ⟨b, off, none⟩)] w fun e w' => e = .returned (.int .i64 x) ∧ w = w' := by
  have hl := run_call_load (P := Tryd.prog) Tryd.func22 (by kernel_rfl) (by kernel_rfl) (by kernel_rfl) .i64 (by kernel_rfl) hc
  go_enter Tryd.func18, Tryd.ntmps18
  go_wp2
  go_ret
  exact ⟨rfl, rfl⟩
set_option maxRecDepth 100000 in
set_option maxHeartbeats 800000 in
theorem add64 (b off : Nat) (x d : Int) (w : World) (hc : w.cell? ⟨b, off, none⟩ = some (.int .i64 x)) (hz : w.frozen? ⟨b, off, none⟩ = false) (hlo : -9223372036854775808 ≤ x + d) (hhi : x + d ≤ 9223372036854775807) :
    Calls Tryd.prog 15 #[.pointer (some ⟨b, off, none⟩), .int .i64 d] w fun e w' => e = .returned (.int .i64 (x + d)) ∧ w' = w.setCell ⟨b, off, none⟩ (.int .i64 (x + d)) := by
  have hw : IntKind.i64.wrap (x + d) = x + d := IntWalk.i64_in _ ⟨hlo, hhi⟩
  have hl := run_call_add (P := Tryd.prog) Tryd.func19 (by kernel_rfl) (by kernel_rfl) (by kernel_rfl) .i64 (by kernel_rfl) (y := d) (s := x + d) hc hz (by simp [go_sem, hw])
  go_enter Tryd.func15, Tryd.ntmps15
  go_wp2
  go_ret
  exact ⟨rfl, rfl⟩
end Go.Proofs.YtfjajahniocbkaaDoor
