/- Maps that the call makes: a list of keys and values; lookups, stores, deletes, lengths. Conditions: none. -/
import Derived.Test.YtfjhlckklgeokaaPexC
import Derived.StringKeys
namespace Go.Proofs.Ytfjhlckklgeokaa
open Go.RowKit

theorem mapErase {α β : Type} (f : α → β) : ∀ (l : List α) (i : Nat), (l.eraseIdx i).map f = (l.map f).eraseIdx i
  | [], i => by simp
  | a :: r, 0 => by simp
  | a :: r, i + 1 => by simp [mapErase f r i]
section
variable {K : Type} [DecidableEq K]
/-- The place and the value of a key. -/
def lookK (a : K) : List (K × Value) → Nat → Option (Nat × Value)
  | [], _ => none
  | p :: r, i => if a = p.1 then some (i, p.2) else lookK a r (i + 1)
def getK (l : List (K × Value)) (a : K) : Option Value := (lookK a l 0).map (·.2)
def putK (l : List (K × Value)) (a : K) (v : Value) : List (K × Value) :=
  match lookK a l 0 with
  | some (i, _) => l.modify i fun p => (p.1, v)
  | none => l ++ [(a, v)]
def delK (l : List (K × Value)) (a : K) : List (K × Value) :=
  match lookK a l 0 with
  | some (i, _) => l.eraseIdx i
  | none => l
theorem lookK_shift (a : K) : ∀ (l : List (K × Value)) (i j : Nat), lookK a l (i + j) = (lookK a l j).map fun p => (i + p.1, p.2)
  | [], _, _ => rfl
  | p :: r, i, j => by
    unfold lookK
    split
    · rfl
    · rw [Nat.add_assoc]; exact lookK_shift a r i (j + 1)
theorem lookK_some {a : K} : ∀ {l : List (K × Value)} {i : Nat} {v : Value}, lookK a l 0 = some (i, v) → l[i]? = some (a, v)
  | [], i, v, h => by simp [lookK] at h
  | p :: r, i, v, h => by
    unfold lookK at h
    split at h
    · rename_i e
      simp only [Option.some.injEq, Prod.mk.injEq] at h
      obtain ⟨rfl, rfl⟩ := h
      subst e; rfl
    · rw [show (0 : Nat) + 1 = 1 + 0 from rfl, lookK_shift] at h
      cases hr : lookK a r 0 with
      | none => rw [hr] at h; simp at h
      | some q =>
        obtain ⟨k, u⟩ := q
        rw [hr] at h
        simp only [Option.map_some, Option.some.injEq, Prod.mk.injEq] at h
        obtain ⟨rfl, rfl⟩ := h
        rw [Nat.add_comm, List.getElem?_cons_succ]
        exact lookK_some hr
theorem lookK_none {a : K} : ∀ {l : List (K × Value)}, lookK a l 0 = none → ∀ p ∈ l, p.1 ≠ a
  | [], _, p, hp => by simp at hp
  | q :: r, h, p, hp => by
    unfold lookK at h
    split at h
    · simp at h
    · rename_i e
      rw [show (0 : Nat) + 1 = 1 + 0 from rfl, lookK_shift] at h
      have hr : lookK a r 0 = none := by cases hr : lookK a r 0 <;> simp_all
      rcases List.mem_cons.1 hp with rfl | hp
      · exact fun e' => e e'.symm
      · exact lookK_none hr p hp
theorem getK_cons (p : K × Value) (l : List (K × Value)) (b : K) : getK (p :: l) b = if b = p.1 then some p.2 else getK l b := by
  simp only [getK, lookK]
  split
  · rfl
  · rw [show (0 : Nat) + 1 = 1 + 0 from rfl, lookK_shift]; cases lookK b l 0 <;> rfl
@[simp] theorem getK_nil (b : K) : getK ([] : List (K × Value)) b = none := rfl
theorem getK_append (l r : List (K × Value)) (b : K) : getK (l ++ r) b = (getK l b).or (getK r b) := by
  induction l with
  | nil => simp
  | cons p l ih => rw [List.cons_append, getK_cons, getK_cons, ih]; split <;> simp
theorem getK_none {l : List (K × Value)} {b : K} (h : ∀ p ∈ l, p.1 ≠ b) : getK l b = none := by
  induction l with
  | nil => rfl
  | cons p l ih => rw [getK_cons, if_neg (fun e => h p (by simp) e.symm), ih (fun q hq => h q (by simp [hq]))]
theorem getK_modify : ∀ (l : List (K × Value)) (i : Nat) (a : K) (u v : Value) (b : K), l[i]? = some (a, u) → (∀ j, j < i → ∀ p, l[j]? = some p → p.1 ≠ a) → getK (l.modify i fun p => (p.1, v)) b = if b = a then some v else getK l b
  | [], i, a, u, v, b, h, _ => by simp at h
  | p :: r, 0, a, u, v, b, h, _ => by
    simp at h; subst h
    rw [List.modify_zero_cons, getK_cons, getK_cons]
    split <;> simp_all
  | p :: r, i + 1, a, u, v, b, h, hn => by
    rw [List.modify_succ_cons, getK_cons, getK_cons, getK_modify r i a u v b (by simpa using h) (fun j hj q hq => hn (j + 1) (by omega) q (by simpa using hq))]
    have hp : p.1 ≠ a := hn 0 (by omega) p rfl
    by_cases e : b = p.1
    · subst e; simp [hp]
    · simp [e]
theorem lookK_first {a : K} : ∀ {l : List (K × Value)} {i : Nat} {v : Value}, lookK a l 0 = some (i, v) → ∀ j, j < i → ∀ p, l[j]? = some p → p.1 ≠ a
  | [], i, v, h => by simp [lookK] at h
  | q :: r, i, v, h => by
    intro j hj p hp
    unfold lookK at h
    split at h
    · simp at h; omega
    · rename_i e
      rw [show (0 : Nat) + 1 = 1 + 0 from rfl, lookK_shift] at h
      cases hr : lookK a r 0 with
      | none => rw [hr] at h; simp at h
      | some x =>
        obtain ⟨k, u⟩ := x
        rw [hr] at h
        simp only [Option.map_some, Option.some.injEq, Prod.mk.injEq] at h
        cases j with
        | zero => simp at hp; subst hp; exact fun e' => e e'.symm
        | succ j => exact lookK_first hr j (by omega) p (by simpa using hp)
theorem getK_put (l : List (K × Value)) (a : K) (v : Value) (b : K) : getK (putK l a v) b = if b = a then some v else getK l b := by
  unfold putK
  cases h : lookK a l 0 with
  | none =>
    simp only []
    rw [getK_append]
    by_cases e : b = a
    · subst e; rw [getK_none (lookK_none h)]; simp [getK_cons]
    · simp [getK_cons, e]
  | some x =>
    obtain ⟨i, u⟩ := x
    exact getK_modify l i a u v b (lookK_some h) (lookK_first h)
theorem putK_keys (l : List (K × Value)) (a : K) (v : Value) (h : (l.map (·.1)).Nodup) : ((putK l a v).map (·.1)).Nodup := by
  unfold putK
  cases h1 : lookK a l 0 with
  | none =>
    simp only [List.map_append, List.map_cons, List.map_nil]
    rw [List.nodup_append]
    refine ⟨h, by simp, ?_⟩
    intro x hx y hy
    obtain ⟨p, hp, rfl⟩ := List.mem_map.1 hx
    simp at hy; subst hy
    exact lookK_none h1 p hp
  | some x =>
    obtain ⟨i, u⟩ := x
    have : (l.modify i fun p => (p.1, v)).map (·.1) = l.map (·.1) := by
      apply List.ext_getElem?
      intro j
      simp only [List.getElem?_map, List.getElem?_modify]
      cases l[j]? <;> simp
      split <;> rfl
    simp only []
    rw [this]; exact h
theorem getK_del (l : List (K × Value)) (a b : K) (h : (l.map (·.1)).Nodup) : getK (delK l a) b = if b = a then none else getK l b := by
  have key : ∀ (l : List (K × Value)) (i : Nat) (u : Value), (l.map (·.1)).Nodup → l[i]? = some (a, u) → getK (l.eraseIdx i) b = if b = a then none else getK l b := by
    intro l
    induction l with
    | nil => intro i u _ h; simp at h
    | cons p r ih =>
      intro i u hn h
      simp only [List.map_cons, List.nodup_cons, List.mem_map, not_exists, not_and] at hn
      cases i with
      | zero =>
        simp at h; subst h
        rw [List.eraseIdx_zero, List.tail_cons, getK_cons]
        by_cases e : b = a
        · subst e; simp; exact getK_none (fun q hq => hn.1 q hq)
        · simp [e]
      | succ i =>
        simp only [List.getElem?_cons_succ] at h
        rw [List.eraseIdx_cons_succ, getK_cons, getK_cons, ih i u hn.2 h]
        have hp : p.1 ≠ a := fun e => hn.1 (a, u) (List.mem_of_getElem? h) e.symm
        by_cases e : b = p.1
        · subst e; simp [hp]
        · simp [e]
  unfold delK
  cases h1 : lookK a l 0 with
  | none =>
    simp only []
    by_cases e : b = a
    · subst e; simp [getK, h1]
    · simp [e]
  | some x => exact key l x.1 x.2 h (lookK_some h1)
theorem delK_keys (l : List (K × Value)) (a : K) (h : (l.map (·.1)).Nodup) : ((delK l a).map (·.1)).Nodup := by
  unfold delK
  cases h1 : lookK a l 0 with
  | none => exact h
  | some x => simp only []; rw [mapErase]; exact h.sublist (List.eraseIdx_sublist _ _)

end

section
variable {K : Type}
variable {P : Program} {n : Nat} {m : List (Nat × Value)} {w x : World} {o : Oper} {B : Nat} {l : List (K × Value)} {kv : K → Value} {kt e t : TypeId} {q r : Operand} {a : K}
/-- Block B is a map that holds just these entries. -/
def MapB (kv : K → Value) (w : World) (B : Nat) (l : List (K × Value)) : Prop :=
  ∃ es clock, w.heap[B]? = some (.map es clock) ∧ es.toList.map (fun e => (e.key, e.val)) = l.map (fun p => (kv p.1, p.2)) ∧ (l.map (·.1)).Nodup ∧ (es.toList.map (·.born)).Nodup ∧ ∀ e ∈ es.toList, e.born < clock
theorem MapB.lt (h : MapB kv w B l) : B < w.heap.size := by obtain ⟨_, _, h, _⟩ := h; exact (Array.getElem?_eq_some_iff.1 h).1
theorem MapB.keys (h : MapB kv w B l) : (l.map (·.1)).Nodup := by obtain ⟨_, _, _, _, h, _⟩ := h; exact h
theorem MapB.kept {row : Option Nat} (h : MapB kv w B l) (hg : w.grownBy x row) (hne : row ≠ some B) : MapB kv x B l := by
  obtain ⟨es, c, h1, h2⟩ := h
  exact ⟨es, c, by rw [hg.block B (Array.getElem?_eq_some_iff.1 h1).1 (fun e => hne e.symm)]; exact h1, h2⟩
theorem MapB.below (h : MapB kv w B l) (hb : Below w.heap.size w x) : MapB kv x B l := h.kept (below_grown hb) (by simp)
theorem op_makeMap (kv : K → Value) (hrun : (execOp (lk m) o).run P w = .ok (.value (.map (some w.heap.size))) (w.alloc (.map #[] 0))) (hok : okOps m o.op = true) (hsel : (match o.op with | .select .. => true | _ => false) = false) :
    Op1 P n m o w (fun u x => ∃ N, u = .map (some N) ∧ N = w.heap.size ∧ x.heap.size = N + 1 ∧ MapB kv x N [] ∧ w.grownBy x none) :=
  (op_run hok hsel hrun).mono fun u x ⟨h1, h2⟩ => by
    subst h2
    exact ⟨w.heap.size, h1, rfl, by simp, ⟨#[], 0, heap_alloc_new w _, by simp, by simp, by simp, by simp⟩, World.grownBy_alloc w _ none⟩
theorem rn_lenMap {ts : Array TypeId} (ho : o.op = .call { callee := .builtin .len, args := #[q], argTypes := #[t] }) (hq : ev m q = some (.map (some B))) (ht : P.underlying t = some (.map kt e)) (h : MapB kv w B l) : (execOp (lk m) o).run P w = .ok (.value (.int .i64 (l.length : Nat))) w := by
  obtain ⟨es, cl, h1, h2, _⟩ := h
  have hl : es.size = l.length := by have := congrArg List.length h2; simpa using this
  have hg : (getObj B).run P w = .ok (.map es cl) w := by simp [getObj, Sem.run, h1]
  unfold execOp
  simp [ho, resolve, invoke, builtin, Sem.run_bind, lk_ev hq, Builtin.len_, goInt, run_underlying ht, hg, hl]
theorem setObj_grown (w : World) (B : Nat) (ob : Obj) : w.grownBy { w with heap := w.heap.setIfInBounds B ob } (some B) :=
  ⟨rfl, rfl, rfl, by simp, fun k _ hk => by simp [Array.getElem?_setIfInBounds_ne (show B ≠ k from fun e => hk (by rw [e]))]⟩

end

section
variable {K : Type} [DecidableEq K]
/-- How keys of a kind lie in memory, are found, stay. -/
structure KL (P : Program) (kt : TypeId) (kv : K → Value) : Prop where
  chk : ∀ (w : World) (em : Bool) (a : K), (Instr.checkKey em 10000 kt (kv a)).run P w = .ok () w
  fnd : ∀ (w : World) (a : K) (es : List MapEntry) (l : List (K × Value)), es.map (fun e => (e.key, e.val)) = l.map (fun p => (kv p.1, p.2)) → (Instr.findKey kt (kv a) es).run P w = .ok (lookK a l 0) w
  bits : ∀ a : K, Instr.sameBits 10000 (kv a) (kv a) = true

variable {P : Program} {n : Nat} {m : List (Nat × Value)} {w x : World} {o : Oper} {B : Nat} {l : List (K × Value)} {kv : K → Value} {kt e t : TypeId} {q r : Operand} {a : K}
theorem run_look (KK : KL P kt kv) (ht : P.underlying t = some (.map kt e)) {z : Value} (hz : ∀ w : World, (zeroValue e).run P w = .ok z w) (h : MapB kv w B l) (c : Bool) :
    (Instr.lookup t (.map (some B)) (kv a) c).run P w = .ok (if c then .tuple #[(getK l a).getD z, .bool (getK l a).isSome] else (getK l a).getD z) w := by
  obtain ⟨es, cl, h1, h2, _⟩ := h
  have hg : (getObj B).run P w = .ok (.map es cl) w := by simp [getObj, Sem.run, h1]
  have hf := KK.fnd w a es.toList l h2
  simp only [Instr.lookup, Sem.run_bind, run_underlying ht, Result.andThen_ok, hg, Sem.run_pure, KK.chk, hf]
  unfold getK
  cases lookK a l 0 with
  | none => simp [hz]
  | some p => simp
theorem rn_look (KK : KL P kt kv) (ho : o.op = .lookup t q r false) (hq : ev m q = some (.map (some B))) (hr : ev m r = some (kv a)) (ht : P.underlying t = some (.map kt e)) {z : Value} (hz : ∀ w : World, (zeroValue e).run P w = .ok z w) (h : MapB kv w B l) :
    (execOp (lk m) o).run P w = .ok (.value ((getK l a).getD z)) w := by
  have := run_look (a := a) KK ht hz h false
  unfold execOp
  simp only [ho, lk_ev hq, lk_ev hr, Sem.run_bind, this, Result.andThen_ok, Sem.run_pure]
  rfl
theorem rn_lookOk (KK : KL P kt kv) (ho : o.op = .lookup t q r true) (hq : ev m q = some (.map (some B))) (hr : ev m r = some (kv a)) (ht : P.underlying t = some (.map kt e)) {z : Value} (hz : ∀ w : World, (zeroValue e).run P w = .ok z w) (h : MapB kv w B l) :
    (execOp (lk m) o).run P w = .ok (.value (.tuple #[(getK l a).getD z, .bool (getK l a).isSome])) w := by
  have := run_look (a := a) KK ht hz h true
  unfold execOp
  simp only [ho, lk_ev hq, lk_ev hr, Sem.run_bind, this, Result.andThen_ok, Sem.run_pure]
  rfl
theorem run_update (KK : KL P kt kv) (ht : P.underlying t = some (.map kt e)) (v : Value) (h : MapB kv w B l) :
    ∃ x, (Instr.mapUpdate t (.map (some B)) (kv a) v).run P w = .ok () x ∧ MapB kv x B (putK l a v) ∧ x.heap.size = w.heap.size ∧ w.grownBy x (some B) := by
  have hkn := putK_keys l a v h.keys
  obtain ⟨es, cl, h1, h2, h3, h4, h5⟩ := h
  have hlt := (Array.getElem?_eq_some_iff.1 h1).1
  have hg : (getObj B).run P w = .ok (.map es cl) w := by simp [getObj, Sem.run, h1]
  have hso : ∀ ob : Obj, (setObj B ob).run P w = .ok () { w with heap := w.heap.setIfInBounds B ob } := fun ob => by simp [setObj, Sem.run, h1]
  have hf := KK.fnd w a es.toList l h2
  cases hL : lookK a l 0 with
  | none =>
    refine ⟨{ w with heap := w.heap.setIfInBounds B (.map (es.push { key := kv a, val := v, born := cl }) (cl + 1)) }, ?_, ⟨es.push { key := kv a, val := v, born := cl }, cl + 1, by simp [hlt], ?_, hkn, ?_, ?_⟩, by simp, setObj_grown w B _⟩
    · simp only [Instr.mapUpdate, Sem.run_bind, run_underlying ht, Result.andThen_ok, hg, KK.chk, hf, hL, hso]
    · simp [putK, hL, h2]
    · simp only [Array.toList_push, List.map_append, List.map_cons, List.map_nil]
      rw [List.nodup_append]
      refine ⟨h4, by simp, fun y hy z hz => ?_⟩
      obtain ⟨e0, he, rfl⟩ := List.mem_map.1 hy
      simp at hz; subst hz
      have := h5 e0 he; omega
    · intro e0 he
      simp only [Array.toList_push, List.mem_append, List.mem_singleton] at he
      rcases he with he | rfl
      · have := h5 e0 he; omega
      · exact Nat.lt_succ_self _
  | some p =>
    obtain ⟨i, u⟩ := p
    have hli := lookK_some hL
    have hei : (es.toList.map (fun e => (e.key, e.val)))[i]? = some (kv a, u) := by rw [h2]; simp [hli]
    rw [List.getElem?_map] at hei
    cases he : es.toList[i]? with
    | none => rw [he] at hei; simp at hei
    | some e0 =>
      rw [he] at hei
      simp only [Option.map_some, Option.some.injEq, Prod.mk.injEq] at hei
      have he' : es[i]? = some e0 := by rw [← Array.getElem?_toList]; exact he
      have hst : (Instr.keyThatStays e0.key (kv a)).run P w = .ok (kv a) w := by
        rw [hei.1]; unfold Instr.keyThatStays; rw [KK.bits a]; rfl
      refine ⟨{ w with heap := w.heap.setIfInBounds B (.map (es.modify i fun e => { e with key := kv a, val := v }) cl) }, ?_, ⟨es.modify i fun e => { e with key := kv a, val := v }, cl, by simp [hlt], ?_, hkn, ?_, ?_⟩, by simp, setObj_grown w B _⟩
      · simp only [Instr.mapUpdate, Sem.run_bind, run_underlying ht, Result.andThen_ok, hg, KK.chk, hf, hL, he', Option.map_some, Option.getD_some, hst, hso]
      · simp only [putK, hL, Array.toList_modify]
        apply List.ext_getElem?
        intro j
        have hj : (es.toList.map (fun e => (e.key, e.val)))[j]? = (l.map (fun p => (kv p.1, p.2)))[j]? := by rw [h2]
        simp only [List.getElem?_map, List.getElem?_modify] at hj ⊢
        by_cases e1 : i = j
        · subst e1; simp [he, hli]
        · simp only [e1, if_false]
          cases hx : es.toList[j]? <;> cases hy : l[j]? <;> simp_all
      · have : (es.toList.modify i fun e0 => { e0 with key := kv a, val := v }).map (·.born) = es.toList.map (·.born) := by
          apply List.ext_getElem?
          intro j
          simp only [List.getElem?_map, List.getElem?_modify]
          cases es.toList[j]? <;> simp
          split <;> rfl
        rw [Array.toList_modify, this]; exact h4
      · intro e1 h1'
        rw [Array.toList_modify] at h1'
        obtain ⟨j, hj⟩ := List.getElem?_of_mem h1'
        rw [List.getElem?_modify] at hj
        cases hx : es.toList[j]? with
        | none => rw [hx] at hj; simp at hj
        | some e2 =>
          rw [hx] at hj
          have := h5 e2 (List.mem_of_getElem? hx)
          simp at hj; subst hj
          split <;> simpa using this
theorem op_mapUpdate (KK : KL P kt kv) {s : Operand} {v : Value} (ho : o.op = .mapUpdate t q r s) (hq : ev m q = some (.map (some B))) (hr : ev m r = some (kv a)) (hs : ev m s = some v) (ht : P.underlying t = some (.map kt e)) (h : MapB kv w B l) :
    Op1 P n m o w (fun _ x => MapB kv x B (putK l a v) ∧ x.heap.size = w.heap.size ∧ w.grownBy x (some B)) := by
  intro ac ha N Q hN
  obtain ⟨x, hx, h1, h2, h3⟩ := run_update (a := a) KK ht v h
  unfold Oper.wp execOp
  simp only [ho, ha.ev hq, ha.ev hr, ha.ev hs, Sem.run_bind, hx, Result.andThen_ok, Sem.run_pure]
  exact hN _ _ ⟨h1, h2, h3⟩
theorem run_delete (KK : KL P kt kv) (ht : P.underlying t = some (.map kt e)) {t2 ty : TypeId} (h : MapB kv w B l) :
    ∃ x, (Builtin.delete_ #[t, t2] ty #[.map (some B), kv a]).run P w = .ok (.tuple #[]) x ∧ MapB kv x B (delK l a) ∧ x.heap.size = w.heap.size ∧ w.grownBy x (some B) := by
  have hkn := delK_keys l a h.keys
  obtain ⟨es, cl, h1, h2, h3, h4, h5⟩ := h
  have hlt := (Array.getElem?_eq_some_iff.1 h1).1
  have hg : (getObj B).run P w = .ok (.map es cl) w := by simp [getObj, Sem.run, h1]
  have hso : ∀ ob : Obj, (setObj B ob).run P w = .ok () { w with heap := w.heap.setIfInBounds B ob } := fun ob => by simp [setObj, Sem.run, h1]
  have hf := KK.fnd w a es.toList l h2
  cases hL : lookK a l 0 with
  | none =>
    refine ⟨{ w with heap := w.heap.setIfInBounds B (.map es cl) }, ?_, ⟨es, cl, by simp [hlt], by simpa [delK, hL] using h2, hkn, h4, h5⟩, by simp, setObj_grown w B _⟩
    simp only [Builtin.delete_, List.getElem?_toArray, List.getElem?_cons_zero, List.getElem?_cons_succ, Sem.run_bind, run_underlying ht, Result.andThen_ok, hg, KK.chk, hf, hL, hso, Sem.run_pure]
  | some p =>
    obtain ⟨i, u⟩ := p
    have he : (es.eraseIdxIfInBounds i).toList = es.toList.eraseIdx i := by simp
    refine ⟨{ w with heap := w.heap.setIfInBounds B (.map (es.eraseIdxIfInBounds i) cl) }, ?_, ⟨es.eraseIdxIfInBounds i, cl, by simp [hlt], ?_, hkn, ?_, ?_⟩, by simp, setObj_grown w B _⟩
    · simp only [Builtin.delete_, List.getElem?_toArray, List.getElem?_cons_zero, List.getElem?_cons_succ, Sem.run_bind, run_underlying ht, Result.andThen_ok, hg, KK.chk, hf, hL, hso, Sem.run_pure]
    · simp only [delK, hL]; rw [he, mapErase, mapErase, h2]
    · rw [he, mapErase]; exact h4.sublist (List.eraseIdx_sublist _ _)
    · intro e0 h0; rw [he] at h0; exact h5 e0 ((List.eraseIdx_sublist _ _).mem h0)
end
end Go.Proofs.Ytfjhlckklgeokaa
