/- Package mvcc: Scan of one that nobody made. Conditions: none. -/
import Derived.Test.YtfjhlckklgeokaaMvF
namespace Go.Proofs.Ytfjhlckklgeokaa
open Go.RowKit Go.PlainAid
set_option linter.unusedVariables false
set_option linter.unusedSimpArgs false

set_option maxRecDepth 100000 in
theorem zmScan (p : Value) (F : ByteArray) (T : ByteArray) (t : Int) (most : Int) (w : World) (hN : NoMv w p) :
    Calls Try.prog 20 #[p, .string F, .string T, .int .u64 t, .int .i64 most] w fun e w' => e = .returned (.tuple #[.slice none 0 0, .bool false]) ∧ w = w' := by
 have hB0 := Below.refl w.heap.size w
 refine co_enter (n := 54) Try.func20 rfl rfl rfl [(0, p), (1, .string F), (2, .string T), (3, .int .u64 t), (4, .int .i64 most)] rfl (fun a h0 => ?_)
 refine co_seq ?_
 refine co_reg ?_
 refine pk0 (v := .slice none 0 0) h0 rfl fun a1 h1 => ?_; clear h0
 refine pk0 (v := .bool false) h1 rfl fun a2 h2 => ?_; clear h1
 refine pl_nil ?_
 refine co_then ?_
 refine wp_scope_straight ?_
 refine co_seq ?_
 refine co_seq ?_
 refine co_reg ?_
 refine pk0 (v := p) h2 rfl fun a3 h3 => ?_; clear h2
 refine pw h3 rfl (op_call (args := #[p]) (R := fun res xw => res = .bool true ∧ w = xw) rfl rfl rfl (by kernel_rfl) (by kernel_rfl) (Try.call25 _ _) (mzero_no w p hN) (by rintro e x ⟨rfl, rfl⟩; exact ⟨_, rfl, rfl, rfl⟩)) ?_; clear h3
 rintro _ _ a4 ⟨rfl, rfl⟩ h4
 refine pl_nil ?_
 refine co_then ?_
 refine co_true h4 rfl ?_
 refine co_seq ?_
 refine co_reg ?_
 refine pk0 (v := .slice none 0 0) h4 rfl fun a6 h6 => ?_; clear h4
 refine pk0 (v := .bool false) h6 rfl fun a7 h7 => ?_; clear h6
 refine pl_nil ?_
 refine co_then ?_
 refine wp_ret ?_
 refine co_thenR ?_
 refine co_scopeR ?_
 refine co_ret2 h7 rfl rfl rfl ?_
 exact ⟨rfl, rfl⟩
end Go.Proofs.Ytfjhlckklgeokaa
