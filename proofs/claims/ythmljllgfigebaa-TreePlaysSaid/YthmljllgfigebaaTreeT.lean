/- catenaref15: the document's tree; at, Get, Seek. Conditions: none. -/
import Derived.Test.YthmljllgfigebaaTreeP
namespace Go.Proofs.Ythmljllgfigebaa
open Go.RowKit Go.Shelf
set_option linter.unusedVariables false
def kvE (a : Kv) : List Value := [.string a.1, .int .i64 a.2]
/-- The document's tree holds L; D holds its blocks. -/
def RfO (D : Nat → Prop) (w : World) (rb : Nat) (L : List Kv) : Prop := ∃ u B, Blk w rb 28 #[u] ∧ w.ownsRow B 134 2 u L.length (L.flatMap kvE) ∧ ∀ q, D q ↔ q = rb ∨ u.ownBlock = some q
section
variable {S D : Nat → Prop} {w x : World} {rb N : Nat} {L : List Kv}
theorem RfO.ofS (h : RfO D w rb L) : ∀ q, D q → q < w.heap.size := fun q hq => by
  obtain ⟨u, B, h1, h2, h3⟩ := h
  rcases (h3 q).1 hq with rfl | h
  · exact h1.lt
  · exact (h2.lt q h).2
theorem RfO.keep (h : RfO D w rb L) (hk : ∀ q, D q → x.heap[q]? = w.heap[q]?) : RfO D x rb L := by
  obtain ⟨u, B, h1, h2, h3⟩ := h
  refine ⟨u, B, ?_, row_sameL h2 (fun i hi => hk i ((h3 i).2 (.inr hi))), h3⟩
  unfold Blk at h1 ⊢
  rw [hk rb ((h3 rb).2 (.inl rfl))]; exact h1
theorem RfO.gr {row : Option Nat} (h : RfO D w rb L) (hg : w.grownBy x row) (hr : ∀ k, row = some k → ¬ D k) : RfO D x rb L := h.keep fun q hq => hg.block q (h.ofS q hq) (fun e => hr q e.symm hq)
theorem RfO.but (h : RfO D w rb L) (hb : But S w x) (ha : ∀ q, S q → D q → False) : RfO D x rb L := h.keep fun q hq => hb.block q (h.ofS q hq) (fun hd => ha q hd hq)
theorem kvAt {ao : Option Addr} {n cap : Nat} (h : SliceOf kvE 2 w (.slice ao n cap) L) (i : Nat) (hi : i < L.length) : ∃ b off, ao = some ⟨b, off, none⟩ ∧ w.cell? ⟨b, off + i * 2, none⟩ = some (.string L[i].1) ∧ w.cell? ⟨b, off + i * 2 + 1, none⟩ = some (.int .i64 L[i].2) := by
  obtain ⟨a', c', e1, _, _, _, hx⟩ := h
  obtain ⟨b, off, e2, hr⟩ := hx i hi
  simp only [Value.slice.injEq] at e1
  exact ⟨b, off, by rw [e1.1, e2], by simpa using hr 0 _ rfl, hr 1 _ rfl⟩
end
/-- The place of a key. -/
def atL : List Kv → ByteArray → Nat
  | [], _ => 0
  | a :: r, k => if klt a.1 k = true then atL r k + 1 else 0
theorem atL_stop {L : List Kv} {k : ByteArray} {i : Nat} (hi : i ≤ L.length) (h : ∀ j (hj : j < i) (hl : j < L.length), klt L[j].1 k = true) (h2 : ∀ hl : i < L.length, klt L[i].1 k = false) : atL L k = i := by
  induction L generalizing i with
  | nil => simp at hi; rw [hi]; rfl
  | cons a r ih =>
    unfold atL
    cases i with
    | zero => rw [if_neg (by have := h2 (by simp); simpa using this)]
    | succ i =>
      rw [if_pos (by have := h 0 (by omega) (by simp); simpa using this)]
      rw [ih (i := i) (by simpa using hi) (fun j hj hl => by have := h (j + 1) (by omega) (by simpa using hl); simpa using this) (fun hl => by have := h2 (by simpa using hl); simpa using this)]
theorem hasL_at {L : List Kv} {k : ByteArray} {i : Nat} (h : ∀ j (hj : j < i) (hl : j < L.length), klt L[j].1 k = true) (hi : i < L.length) (h2 : klt L[i].1 k = false) : hasL L k = !(klt k L[i].1) ∧ (klt k L[i].1 = false → getL L k = L[i].2) := by
  induction L generalizing i with
  | nil => simp at hi
  | cons a r ih =>
    unfold hasL getL
    cases i with
    | zero =>
      have q : klt a.1 k = false := by simpa using h2
      simp only [List.getElem_cons_zero, q]
      cases klt k a.1 <;> simp
    | succ i =>
      have q : klt a.1 k = true := by have := h 0 (by omega) (by simp); simpa using this
      simp only [klt_as q, q, Bool.false_eq_true, if_false, if_true, List.getElem_cons_succ]
      exact ih (i := i) (fun j hj hl => by have := h (j + 1) (by omega) (by simpa using hl); simpa using this) (by simpa using hi) (by simpa using h2)
theorem hasL_none {L : List Kv} {k : ByteArray} (h : ∀ j (hl : j < L.length), klt L[j].1 k = true) : hasL L k = false ∧ getL L k = 0 := by
  induction L with
  | nil => exact ⟨rfl, rfl⟩
  | cons a r ih =>
    have q : klt a.1 k = true := by have := h 0 (by simp); simpa using this
    unfold hasL getL
    simp only [klt_as q, q, Bool.false_eq_true, if_false, if_true]
    exact ih fun j hl => by have := h (j + 1) (by simpa using hl); simpa using this
theorem beq_klt {a b : ByteArray} (h : klt a b = false) : (a.toList == b.toList) = !(klt b a) := by
  have h3 := tbl_flip a.toList b.toList
  have h' : Op.bytesLess a.toList b.toList = false := h
  rw [h'] at h3
  simpa [klt] using h3

set_option maxRecDepth 100000
set_option maxHeartbeats 2000000
theorem rat_any (D : Nat → Prop) (w : World) (rb : Nat) (L : List Kv) (k : ByteArray) (h : RfO D w rb L) :
    Calls Try.prog 66 #[pt rb 0, .string k] w fun e w' => e = .returned (.tuple #[.int .i64 (atL L k), .bool (hasL L k)]) ∧ Below w.heap.size w w' := by
  obtain ⟨u, B, h1, h2, h3⟩ := h
  have hS := SliceOf.own (enc := kvE) (sz := 2) h2 (fun _ _ => rfl)
  have c0 : w.cell? ⟨rb, 0, none⟩ = some u := h1.cell (k := 0) rfl
  have HS := Lib.hid hS
  obtain ⟨ao, cap, rfl, hcap, hcm, _, _⟩ := hS
  clear h1 h2 h3
  go_enter Try.func66, Try.ntmps66
  go_wp2
  go_loopg [6] (L.length + 1) (fun g s6 wr => ∃ i : Nat, s6 = .int .i64 i ∧ i ≤ L.length ∧ L.length + 1 ≤ i + g ∧ Hid (∀ j (hj : j < i) (hl : j < L.length), klt L[j].1 k = true) ∧ wr = w)
  case atStart => exact ⟨0, rfl, by omega, by omega, Lib.hid (fun j hj => by omega), rfl⟩
  case round =>
    obtain ⟨i, rfl, hi, hg, HJ, rfl⟩ := hrel
    by_cases hlt : i < L.length
    · obtain ⟨b, off, rfl, k0, k1⟩ := kvAt HS.out i hlt
      have hd : decide ((i : Int) < (L.length : Int)) = true := decide_eq_true (by omega)
      obtain ⟨x, hx⟩ : ∃ x, x = L[i].1 := ⟨_, rfl⟩
      rw [← hx] at k0
      have HX := Lib.hid hx; clear hx k1
      cases x1 : klt x k with
      | true =>
        have x1' : Op.bytesLess x.toList k.toList = true := x1
        have HJ2 := Lib.hid (show ∀ j (hj : j < i + 1) (hl : j < L.length), klt L[j].1 k = true from fun j hj hl => by
          rcases Nat.lt_or_ge j i with q | q
          · exact HJ.out j q hl
          · have e : j = i := by omega
            subst e; rw [← HX.out]; exact x1)
        clear x1
        go_wp2
        go_roundg (gk - 1)
        case rel => exact ⟨i + 1, by go_num, by omega, by omega, HJ2, rfl⟩
        case measure => omega
      | false =>
        have x1' : Op.bytesLess x.toList k.toList = false := x1
        have e1 : atL L k = i := atL_stop hi HJ.out (fun hl => by rw [← HX.out]; exact x1)
        have e2 := hasL_at HJ.out hlt (by rw [← HX.out]; exact x1)
        rw [← HX.out] at e2
        have e3 : (x.toList == k.toList) = hasL L k := by rw [beq_klt x1, e2.1]
        have E1 := Lib.hid e1
        clear x1 e1 e2
        obtain ⟨z, hz⟩ : ∃ z, z = hasL L k := ⟨_, rfl⟩
        rw [← hz] at e3
        have HZ := Lib.hid hz; clear hz
        go_wp2_with fail
        go_quiet (fail)
        go_wp2
        go_ret2
        exact ⟨by rw [E1.out, ← HZ.out]; rfl, below_draws (Below.refl _ _) nq⟩
    · have hd : decide ((i : Int) < (L.length : Int)) = false := decide_eq_false (by omega)
      obtain rfl : i = L.length := by omega
      have e1 : atL L k = L.length := atL_stop (Nat.le_refl _) HJ.out (fun hl => absurd hl (by omega))
      have e2 := hasL_none (fun j hl => HJ.out j hl hl)
      have E1 := Lib.hid e1; have E2 := Lib.hid e2.1
      clear e1 e2
      go_wp2_with fail
      go_quiet (fail)
      go_wp2
      go_ret2
      exact ⟨by rw [E1.out, E2.out]; rfl, below_draws (Below.refl _ _) nq⟩
end Go.Proofs.Ythmljllgfigebaa
