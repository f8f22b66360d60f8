/- What the bound on the arguments' bulk gives for their lengths. Conditions: none. -/
import Derived.Test.YtcnahhobppnbbaaRows
namespace Go.Proofs.Ytcnahhobppnbbaa
theorem bulk_pos {H : Type} (d : DataW H) : 1 ≤ Rows.uptoBulk d := by
  cases d with
  | lit l => cases l <;> simp [Rows.uptoBulk]
  | nil => simp [Rows.uptoBulk]
  | ptr d => simp [Rows.uptoBulk]
  | slice elems spare => simp [Rows.uptoBulk]
  | agg parts => simp [Rows.uptoBulk]
  | iface t d => simp [Rows.uptoBulk]
  | map entries => simp [Rows.uptoBulk]
  | held h => simp [Rows.uptoBulk]
theorem bulk_len {H : Type} (l : List (DataW H)) : l.length ≤ Rows.uptoBulkAll l := by
  induction l with
  | nil => simp [Rows.uptoBulkAll]
  | cons d l ih => have := bulk_pos d; simp only [List.length_cons, Rows.uptoBulkAll]; omega
theorem bulk_mem {H : Type} {l : List (DataW H)} {j : Nat} {d : DataW H} (h : l[j]? = some d) : Rows.uptoBulk d ≤ Rows.uptoBulkAll l := by
  induction l generalizing j with
  | nil => simp at h
  | cons x l ih =>
    cases j with
    | zero => simp at h; subst h; simp only [Rows.uptoBulkAll]; omega
    | succ j => have := ih (by simpa using h); simp only [Rows.uptoBulkAll]; omega
theorem bulk_all {H : Type} {l : List (DataW H)} (hk : Rows.uptoSmall H l = true) : Rows.uptoBulkAll l ≤ 1048576 := of_decide_eq_true hk
theorem bulk_string {H : Type} {l : List (DataW H)} (hk : Rows.uptoSmall H l = true) {j : Nat} {bytes : List UInt8} (h : l[j]? = some (.lit (.string bytes))) : bytes.length ≤ 1048576 := by
  have h1 := bulk_mem h
  have h2 := bulk_all hk
  have : Rows.uptoBulk (H := H) (.lit (.string bytes)) = bytes.length + 1 := by simp [Rows.uptoBulk]
  rw [this] at h1
  refine Nat.le_trans ?_ h2
  omega
theorem bulk_slice {H : Type} {l : List (DataW H)} (hk : Rows.uptoSmall H l = true) {j : Nat} {elems spare : List (DataW H)} (h : l[j]? = some (.slice elems spare)) : elems.length + spare.length ≤ 1048576 := by
  have h1 := bulk_mem h
  have h2 := bulk_all hk
  have h3 := bulk_len elems
  have h4 := bulk_len spare
  have e : Rows.uptoBulk (H := H) (.slice elems spare) = Rows.uptoBulkAll elems + Rows.uptoBulkAll spare + 1 := by simp [Rows.uptoBulk]
  rw [e] at h1
  refine Nat.le_trans ?_ h2
  omega
end Go.Proofs.Ytcnahhobppnbbaa
