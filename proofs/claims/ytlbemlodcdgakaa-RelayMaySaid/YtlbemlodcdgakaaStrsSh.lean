/- Slices of texts that came in. Conditions: none. -/
import Derived.Test.YtlbemlodcdgakaaSlSh
import Derived.SliceStrings
import Derived.SizedLaws
namespace Go.Proofs.Ytlbemlodcdgakaa
open Go.RowKit Go.ChangeShapes Go.WideShapes

theorem weights_all_mem {H : Type} {P : Program} {e : TypeId} : ∀ {D : List (DataW H)} {d : DataW H}, d ∈ D → ∀ n ∈ d.weights P e, n ∈ DataW.weightsAll P e D
  | [], _, h, _, _ => absurd h (by simp)
  | x :: D, d, h, n, hn => by
    unfold DataW.weightsAll
    rcases List.mem_cons.1 h with rfl | h
    · exact List.mem_append_left _ hn
    · exact List.mem_append_right _ (weights_all_mem h n hn)
theorem weights_le {H : Type} {P : Program} {ts : List TypeId} {ds : List (DataW H)} (h : (DataW.weightsEach P ts ds).all (· ≤ reachBytes) = true) {j : Nat} {t : TypeId} {d : DataW H} (ht : ts[j]? = some t) (hd : ds[j]? = some d) : ∀ n ∈ d.weights P t, n ≤ reachBytes := fun n hn => by
  have := List.all_eq_true.1 h _ (DataW.weights_mem_each ht hd n hn)
  simpa using this
end Go.Proofs.Ytlbemlodcdgakaa
