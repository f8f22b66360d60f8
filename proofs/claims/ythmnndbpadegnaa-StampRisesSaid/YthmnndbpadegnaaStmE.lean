/- Package stamp: stamps, and what All's loop needs. Conditions: the entries read as l. -/
import Derived.Test.YthmnndbpadegnaaStmC
namespace Go.Proofs.Ythmnndbpadegnaa
open Go.RowKit Go.Shelf
attribute [local go_sem] Oper.semAt_some

theorem siter_stops (B n₀ : Nat) (ao : Option Addr) (cap : Nat) (l : List EntT) (n f : Int) (hl : l.length ≤ 1000) (hf : 0 ≤ f) (hf1 : f ≤ topT) (hlast : 0 ≤ lastR l ∧ lastR l ≤ topT) (w : World) (hB : Bx3 B (.slice ao l.length cap) n f w) (hs : SliceOf entE 4 w (.slice ao l.length cap) l) :
    SeqStopsK Fence.wide 2 Try.prog 114 #[.pointer (some ⟨B, 0, none⟩), .pointer (some ⟨B + 1, 0, none⟩), .pointer (some ⟨B + 2, 0, none⟩)] (fun x : Stp => #[encN x]) (KpS n₀ B (.slice ao l.length cap) n f) (AllS l n f) (PartS l n f) l.length w := fun lp J Jx W hW _ _ hY h0 =>
  siter_in lp B n₀ ao cap l n f hl hf hf1 hlast J Jx hY W (hB.below hW) (hs.below hW) h0

set_option maxHeartbeats 800000 in
theorem stamps_any (ao : Option Addr) (len cap : Nat) (n f : Int) (w : World) :
    CallsIn Fence.wide 2 Try.prog 97 #[.slice ao len cap, .int .i64 n, .int .u64 f] w fun e w' => e = .returned (.func (.func 114) #[] #[.pointer (some ⟨w.heap.size, 0, none⟩), .pointer (some ⟨w.heap.size + 1, 0, none⟩), .pointer (some ⟨w.heap.size + 1 + 1, 0, none⟩)]) ∧
      w' = ((w.alloc (.cells #[.slice ao len cap] 39)).alloc (.cells #[.int .i64 n] 3)).alloc (.cells #[.int .u64 f] 45) := by
  refine callsIn_of_wp Try.func97 rfl trivial ?_ rfl
  simp only [Try.ntmps97, List.size_toArray, List.length_cons, List.length_nil, Nat.reduceAdd, Nat.reduceSub, Array.replicate_succ, Array.replicate_zero, List.push_toArray, List.append_toArray, List.nil_append, List.cons_append]
  gi_wp2
  go_ret
  exact ⟨rfl, rfl⟩
end Go.Proofs.Ythmnndbpadegnaa
