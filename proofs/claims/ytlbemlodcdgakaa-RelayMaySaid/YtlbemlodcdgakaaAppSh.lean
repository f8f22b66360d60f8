/- Slices that are cut, and appended from. Conditions: none. -/
import Derived.Test.YtlbemlodcdgakaaSlSh
import Derived.Deep.AppendLies
import Derived.Deep.RegionLaw
namespace Go.Proofs.Ytlbemlodcdgakaa
open Go.RowKit Go.PlainAid

theorem SliceOf.sliced {α : Type} {enc : α → List Value} {sz : Nat} {w : World} {ao : Option Addr} {n cap : Nat} {l : List α} (h : SliceOf enc sz w (.slice ao n cap) l) (lo hi : Nat) (h1 : lo ≤ hi) (h2 : hi ≤ l.length) :
    SliceOf enc sz w (sliced ao lo hi cap sz) ((l.take hi).drop lo) := by
  obtain ⟨ao', cap', hv, h1', h2', h3, h4⟩ := h
  injection hv with e1 e2 e3
  subst e1 e2 e3
  have hl : ((l.take hi).drop lo).length = hi - lo := by rw [List.length_drop, List.length_take]; omega
  unfold Go.sliced
  cases ao with
  | none =>
    obtain ⟨e0, e1⟩ := h3 rfl
    subst e1
    have : hi = 0 := by omega
    have : lo = 0 := by omega
    subst lo hi
    exact ⟨none, 0, by simp, by simp, by omega, fun _ => ⟨by simp, rfl⟩, fun j hj => absurd hj (by simp)⟩
  | some a =>
    by_cases hc : cap = lo
    · subst hc
      have : hi = cap := by omega
      subst this
      refine ⟨some a, 0, by rw [hl]; simp, by rw [hl]; omega, by omega, fun h => (by cases h), fun j hj => absurd hj (by rw [hl]; omega)⟩
    · refine ⟨some (a.add (lo * sz)), cap - lo, by rw [hl, if_neg hc]; rfl, by rw [hl]; omega, by omega, fun h => (by cases h), fun j hj => ?_⟩
      rw [hl] at hj
      obtain ⟨b, off, e, hr⟩ := h4 (lo + j) (by omega)
      cases e
      refine ⟨b, off + lo * sz, by rw [Addr.add_lit], ?_⟩
      rw [show off + lo * sz + j * sz = off + (lo + j) * sz by rw [Nat.add_mul]; omega, List.getElem_drop, List.getElem_take]
      exact hr
theorem wp_append_src {P : Program} {w : World} {o : Oper} {a : Act} {K : Act → World → Prop} {Q : Exit → Act → World → Prop} (s x : Operand) (t : TypeId)
    (ho : o.op = .call { callee := .builtin .append, args := #[s, x], argTypes := #[t, t] })
    (base : Nat) (e : TypeId) (i : TypeInfo) (z : Value) (size bytes : Nat) (ht : P.underlying t = some (.slice e)) (hi : P.info? e = some i) (hz : i.zero = some z)
    (hsize : i.size = size) (hby : i.bytes = bytes) (hzs : z.cells.size = size) (hsz : 0 < size)
    (v : Value) (n : Nat) (xs : List Value) (hs : a.eval s = v) (hown : w.ownsRow base e size v n xs)
    {α : Type} (enc : α → List Value) (l : List α) (vs : Value) (hx : a.eval x = vs) (hsl : SliceOf enc size w vs l) (hen : ∀ y ∈ l, (enc y).length = size ∧ ∀ u ∈ enc y, u.oneCell' = true)
    (h63 : n + l.length ≤ maxLen) (hbytes : (n + l.length) * bytes ≤ 140737488355328) (hbase : base ≤ w.heap.size)
    (h : ∀ v' w', w'.ownsRow base e size v' (n + l.length) (xs ++ l.flatMap enc) → w.grownBy w' v.ownBlock → K (a.put o.dst v') w') : o.wp P a w K Q := by
  obtain ⟨ao, cap, rfl, _, _, hnil, hcell⟩ := hsl
  have hl := flat_len l (fun y hy => (hen y hy).1)
  cases ao with
  | none =>
    obtain ⟨e0, e1⟩ := hnil rfl
    obtain rfl : l = [] := List.eq_nil_of_length_eq_zero e0
    subst e1
    have hrun := run_append_owned_none (P := P) (w := w) base t o.type e i size ht hi v n xs hown
    have hx' : a.eval x = .slice none 0 0 := by simpa using hx
    unfold Oper.wp
    simp [execOp, ho, resolve, invoke, builtin, hs, hx', hrun, Result.andThen]
    exact h v w (by simpa using hown) (World.grownBy.refl _ _)
  | some ad =>
    refine wp_append_own _ s x t ho base e i z size bytes ht hi hz hsize hby hzs hsz v n xs hs hown ad l.length cap (l.flatMap enc) hx hl ?_ ?_ h63 hbytes hbase (fun v' w' h1 h2 _ => h v' w' h1 h2)
    · intro j u hu
      have hj : j < l.length * size := by rw [← hl]; exact (List.getElem?_eq_some_iff.1 hu).1
      have hq : j / size < l.length := Nat.div_lt_of_lt_mul (by rw [Nat.mul_comm]; exact hj)
      obtain ⟨b, off, hb, hr⟩ := hcell _ hq
      cases hb
      rw [Addr.add_lit]
      have hdm : j / size * size + j % size = j := by rw [Nat.mul_comm]; exact Nat.div_add_mod j size
      have hr' := hr (j % size) u
      rw [Nat.add_assoc, hdm] at hr'
      refine hr' ?_
      rw [← flat_at l (j / size) (j % size) hq (fun y hy => (hen y hy).1) (Nat.mod_lt _ hsz), hdm]; exact hu
    · intro u hu
      obtain ⟨y, hy, huy⟩ := List.mem_flatMap.1 hu
      exact (hen y hy).2 u huy
end Go.Proofs.Ytlbemlodcdgakaa
