/- Put together: Map, MapB, MapC, MapR, MapO. Conditions: as each says. -/
import Derived.Test.YthmljllgfigebaaPexC
import Derived.StringKeys
import Derived.Laws.StructEq
import Derived.Maps.RangeRun
import Derived.MapKept
import Derived.OwnWalk
/- Maps that the call makes: a list of keys and values; lookups, stores, deletes, lengths. Conditions: none. -/
namespace Go.Proofs.Ythmljllgfigebaa
open Go.RowKit

theorem mapErase {α β : Type} (f : α → β) : ∀ (l : List α) (i : Nat), (l.eraseIdx i).map f = (l.map f).eraseIdx i
  | [], i => by simp
  | a :: r, 0 => by simp
  | a :: r, i + 1 => by simp [mapErase f r i]
section
variable {K : Type} [DecidableEq K]
/-- The place and the value of a key. -/
def lookK (a : K) : List (K × Value) → Nat → Option (Nat × Value)
  | [], _ => none
  | p :: r, i => if a = p.1 then some (i, p.2) else lookK a r (i + 1)
def getK (l : List (K × Value)) (a : K) : Option Value := (lookK a l 0).map (·.2)
def putK (l : List (K × Value)) (a : K) (v : Value) : List (K × Value) :=
  match lookK a l 0 with
  | some (i, _) => l.modify i fun p => (p.1, v)
  | none => l ++ [(a, v)]
def delK (l : List (K × Value)) (a : K) : List (K × Value) :=
  match lookK a l 0 with
  | some (i, _) => l.eraseIdx i
  | none => l
theorem lookK_shift (a : K) : ∀ (l : List (K × Value)) (i j : Nat), lookK a l (i + j) = (lookK a l j).map fun p => (i + p.1, p.2)
  | [], _, _ => rfl
  | p :: r, i, j => by
    unfold lookK
    split
    · rfl
    · rw [Nat.add_assoc]; exact lookK_shift a r i (j + 1)
theorem lookK_some {a : K} : ∀ {l : List (K × Value)} {i : Nat} {v : Value}, lookK a l 0 = some (i, v) → l[i]? = some (a, v)
  | [], i, v, h => by simp [lookK] at h
  | p :: r, i, v, h => by
    unfold lookK at h
    split at h
    · rename_i e
      simp only [Option.some.injEq, Prod.mk.injEq] at h
      obtain ⟨rfl, rfl⟩ := h
      subst e; rfl
    · rw [show (0 : Nat) + 1 = 1 + 0 from rfl, lookK_shift] at h
      cases hr : lookK a r 0 with
      | none => rw [hr] at h; simp at h
      | some q =>
        obtain ⟨k, u⟩ := q
        rw [hr] at h
        simp only [Option.map_some, Option.some.injEq, Prod.mk.injEq] at h
        obtain ⟨rfl, rfl⟩ := h
        rw [Nat.add_comm, List.getElem?_cons_succ]
        exact lookK_some hr
theorem lookK_none {a : K} : ∀ {l : List (K × Value)}, lookK a l 0 = none → ∀ p ∈ l, p.1 ≠ a
  | [], _, p, hp => by simp at hp
  | q :: r, h, p, hp => by
    unfold lookK at h
    split at h
    · simp at h
    · rename_i e
      rw [show (0 : Nat) + 1 = 1 + 0 from rfl, lookK_shift] at h
      have hr : lookK a r 0 = none := by cases hr : lookK a r 0 <;> simp_all
      rcases List.mem_cons.1 hp with rfl | hp
      · exact fun e' => e e'.symm
      · exact lookK_none hr p hp
theorem getK_cons (p : K × Value) (l : List (K × Value)) (b : K) : getK (p :: l) b = if b = p.1 then some p.2 else getK l b := by
  simp only [getK, lookK]
  split
  · rfl
  · rw [show (0 : Nat) + 1 = 1 + 0 from rfl, lookK_shift]; cases lookK b l 0 <;> rfl
@[simp] theorem getK_nil (b : K) : getK ([] : List (K × Value)) b = none := rfl
theorem getK_append (l r : List (K × Value)) (b : K) : getK (l ++ r) b = (getK l b).or (getK r b) := by
  induction l with
  | nil => simp
  | cons p l ih => rw [List.cons_append, getK_cons, getK_cons, ih]; split <;> simp
theorem getK_none {l : List (K × Value)} {b : K} (h : ∀ p ∈ l, p.1 ≠ b) : getK l b = none := by
  induction l with
  | nil => rfl
  | cons p l ih => rw [getK_cons, if_neg (fun e => h p (by simp) e.symm), ih (fun q hq => h q (by simp [hq]))]
theorem getK_modify : ∀ (l : List (K × Value)) (i : Nat) (a : K) (u v : Value) (b : K), l[i]? = some (a, u) → (∀ j, j < i → ∀ p, l[j]? = some p → p.1 ≠ a) → getK (l.modify i fun p => (p.1, v)) b = if b = a then some v else getK l b
  | [], i, a, u, v, b, h, _ => by simp at h
  | p :: r, 0, a, u, v, b, h, _ => by
    simp at h; subst h
    rw [List.modify_zero_cons, getK_cons, getK_cons]
    split <;> simp_all
  | p :: r, i + 1, a, u, v, b, h, hn => by
    rw [List.modify_succ_cons, getK_cons, getK_cons, getK_modify r i a u v b (by simpa using h) (fun j hj q hq => hn (j + 1) (by omega) q (by simpa using hq))]
    have hp : p.1 ≠ a := hn 0 (by omega) p rfl
    by_cases e : b = p.1
    · subst e; simp [hp]
    · simp [e]
theorem lookK_first {a : K} : ∀ {l : List (K × Value)} {i : Nat} {v : Value}, lookK a l 0 = some (i, v) → ∀ j, j < i → ∀ p, l[j]? = some p → p.1 ≠ a
  | [], i, v, h => by simp [lookK] at h
  | q :: r, i, v, h => by
    intro j hj p hp
    unfold lookK at h
    split at h
    · simp at h; omega
    · rename_i e
      rw [show (0 : Nat) + 1 = 1 + 0 from rfl, lookK_shift] at h
      cases hr : lookK a r 0 with
      | none => rw [hr] at h; simp at h
      | some x =>
        obtain ⟨k, u⟩ := x
        rw [hr] at h
        simp only [Option.map_some, Option.some.injEq, Prod.mk.injEq] at h
        cases j with
        | zero => simp at hp; subst hp; exact fun e' => e e'.symm
        | succ j => exact lookK_first hr j (by omega) p (by simpa using hp)
theorem getK_put (l : List (K × Value)) (a : K) (v : Value) (b : K) : getK (putK l a v) b = if b = a then some v else getK l b := by
  unfold putK
  cases h : lookK a l 0 with
  | none =>
    simp only []
    rw [getK_append]
    by_cases e : b = a
    · subst e; rw [getK_none (lookK_none h)]; simp [getK_cons]
    · simp [getK_cons, e]
  | some x =>
    obtain ⟨i, u⟩ := x
    exact getK_modify l i a u v b (lookK_some h) (lookK_first h)
theorem putK_keys (l : List (K × Value)) (a : K) (v : Value) (h : (l.map (·.1)).Nodup) : ((putK l a v).map (·.1)).Nodup := by
  unfold putK
  cases h1 : lookK a l 0 with
  | none =>
    simp only [List.map_append, List.map_cons, List.map_nil]
    rw [List.nodup_append]
    refine ⟨h, by simp, ?_⟩
    intro x hx y hy
    obtain ⟨p, hp, rfl⟩ := List.mem_map.1 hx
    simp at hy; subst hy
    exact lookK_none h1 p hp
  | some x =>
    obtain ⟨i, u⟩ := x
    have : (l.modify i fun p => (p.1, v)).map (·.1) = l.map (·.1) := by
      apply List.ext_getElem?
      intro j
      simp only [List.getElem?_map, List.getElem?_modify]
      cases l[j]? <;> simp
      split <;> rfl
    simp only []
    rw [this]; exact h
theorem getK_del (l : List (K × Value)) (a b : K) (h : (l.map (·.1)).Nodup) : getK (delK l a) b = if b = a then none else getK l b := by
  have key : ∀ (l : List (K × Value)) (i : Nat) (u : Value), (l.map (·.1)).Nodup → l[i]? = some (a, u) → getK (l.eraseIdx i) b = if b = a then none else getK l b := by
    intro l
    induction l with
    | nil => intro i u _ h; simp at h
    | cons p r ih =>
      intro i u hn h
      simp only [List.map_cons, List.nodup_cons, List.mem_map, not_exists, not_and] at hn
      cases i with
      | zero =>
        simp at h; subst h
        rw [List.eraseIdx_zero, List.tail_cons, getK_cons]
        by_cases e : b = a
        · subst e; simp; exact getK_none (fun q hq => hn.1 q hq)
        · simp [e]
      | succ i =>
        simp only [List.getElem?_cons_succ] at h
        rw [List.eraseIdx_cons_succ, getK_cons, getK_cons, ih i u hn.2 h]
        have hp : p.1 ≠ a := fun e => hn.1 (a, u) (List.mem_of_getElem? h) e.symm
        by_cases e : b = p.1
        · subst e; simp [hp]
        · simp [e]
  unfold delK
  cases h1 : lookK a l 0 with
  | none =>
    simp only []
    by_cases e : b = a
    · subst e; simp [getK, h1]
    · simp [e]
  | some x => exact key l x.1 x.2 h (lookK_some h1)
theorem delK_keys (l : List (K × Value)) (a : K) (h : (l.map (·.1)).Nodup) : ((delK l a).map (·.1)).Nodup := by
  unfold delK
  cases h1 : lookK a l 0 with
  | none => exact h
  | some x => simp only []; rw [mapErase]; exact h.sublist (List.eraseIdx_sublist _ _)

end

section
variable {K : Type}
variable {P : Program} {n : Nat} {m : List (Nat × Value)} {w x : World} {o : Oper} {B : Nat} {l : List (K × Value)} {kv : K → Value} {kt e t : TypeId} {q r : Operand} {a : K}
/-- Block B is a map that holds just these entries. -/
def MapB (kv : K → Value) (w : World) (B : Nat) (l : List (K × Value)) : Prop :=
  ∃ es clock, w.heap[B]? = some (.map es clock) ∧ es.toList.map (fun e => (e.key, e.val)) = l.map (fun p => (kv p.1, p.2)) ∧ (l.map (·.1)).Nodup ∧ (es.toList.map (·.born)).Nodup ∧ ∀ e ∈ es.toList, e.born < clock
theorem MapB.lt (h : MapB kv w B l) : B < w.heap.size := by obtain ⟨_, _, h, _⟩ := h; exact (Array.getElem?_eq_some_iff.1 h).1
theorem MapB.keys (h : MapB kv w B l) : (l.map (·.1)).Nodup := by obtain ⟨_, _, _, _, h, _⟩ := h; exact h
theorem MapB.kept {row : Option Nat} (h : MapB kv w B l) (hg : w.grownBy x row) (hne : row ≠ some B) : MapB kv x B l := by
  obtain ⟨es, c, h1, h2⟩ := h
  exact ⟨es, c, by rw [hg.block B (Array.getElem?_eq_some_iff.1 h1).1 (fun e => hne e.symm)]; exact h1, h2⟩
theorem MapB.below (h : MapB kv w B l) (hb : Below w.heap.size w x) : MapB kv x B l := h.kept (below_grown hb) (by simp)
theorem op_makeMap (kv : K → Value) (hrun : (execOp (lk m) o).run P w = .ok (.value (.map (some w.heap.size))) (w.alloc (.map #[] 0))) (hok : okOps m o.op = true) (hsel : (match o.op with | .select .. => true | _ => false) = false) :
    Op1 P n m o w (fun u x => ∃ N, u = .map (some N) ∧ N = w.heap.size ∧ x.heap.size = N + 1 ∧ MapB kv x N [] ∧ w.grownBy x none) :=
  (op_run hok hsel hrun).mono fun u x ⟨h1, h2⟩ => by
    subst h2
    exact ⟨w.heap.size, h1, rfl, by simp, ⟨#[], 0, heap_alloc_new w _, by simp, by simp, by simp, by simp⟩, World.grownBy_alloc w _ none⟩
theorem rn_lenMap {ts : Array TypeId} (ho : o.op = .call { callee := .builtin .len, args := #[q], argTypes := #[t] }) (hq : ev m q = some (.map (some B))) (ht : P.underlying t = some (.map kt e)) (h : MapB kv w B l) : (execOp (lk m) o).run P w = .ok (.value (.int .i64 (l.length : Nat))) w := by
  obtain ⟨es, cl, h1, h2, _⟩ := h
  have hl : es.size = l.length := by have := congrArg List.length h2; simpa using this
  have hg : (getObj B).run P w = .ok (.map es cl) w := by simp [getObj, Sem.run, h1]
  unfold execOp
  simp [ho, resolve, invoke, builtin, Sem.run_bind, lk_ev hq, Builtin.len_, goInt, run_underlying ht, hg, hl]
theorem setObj_grown (w : World) (B : Nat) (ob : Obj) : w.grownBy { w with heap := w.heap.setIfInBounds B ob } (some B) :=
  ⟨rfl, rfl, rfl, by simp, fun k _ hk => by simp [Array.getElem?_setIfInBounds_ne (show B ≠ k from fun e => hk (by rw [e]))]⟩

end

section
variable {K : Type} [DecidableEq K]
/-- How keys of a kind lie in memory, are found, stay. -/
structure KL (P : Program) (kt : TypeId) (kv : K → Value) : Prop where
  chk : ∀ (w : World) (em : Bool) (a : K), (Instr.checkKey em 10000 kt (kv a)).run P w = .ok () w
  fnd : ∀ (w : World) (a : K) (es : List MapEntry) (l : List (K × Value)), es.map (fun e => (e.key, e.val)) = l.map (fun p => (kv p.1, p.2)) → (Instr.findKey kt (kv a) es).run P w = .ok (lookK a l 0) w
  bits : ∀ a : K, Instr.sameBits 10000 (kv a) (kv a) = true

variable {P : Program} {n : Nat} {m : List (Nat × Value)} {w x : World} {o : Oper} {B : Nat} {l : List (K × Value)} {kv : K → Value} {kt e t : TypeId} {q r : Operand} {a : K}
theorem run_look (KK : KL P kt kv) (ht : P.underlying t = some (.map kt e)) {z : Value} (hz : ∀ w : World, (zeroValue e).run P w = .ok z w) (h : MapB kv w B l) (c : Bool) :
    (Instr.lookup t (.map (some B)) (kv a) c).run P w = .ok (if c then .tuple #[(getK l a).getD z, .bool (getK l a).isSome] else (getK l a).getD z) w := by
  obtain ⟨es, cl, h1, h2, _⟩ := h
  have hg : (getObj B).run P w = .ok (.map es cl) w := by simp [getObj, Sem.run, h1]
  have hf := KK.fnd w a es.toList l h2
  simp only [Instr.lookup, Sem.run_bind, run_underlying ht, Result.andThen_ok, hg, Sem.run_pure, KK.chk, hf]
  unfold getK
  cases lookK a l 0 with
  | none => simp [hz]
  | some p => simp
theorem rn_look (KK : KL P kt kv) (ho : o.op = .lookup t q r false) (hq : ev m q = some (.map (some B))) (hr : ev m r = some (kv a)) (ht : P.underlying t = some (.map kt e)) {z : Value} (hz : ∀ w : World, (zeroValue e).run P w = .ok z w) (h : MapB kv w B l) :
    (execOp (lk m) o).run P w = .ok (.value ((getK l a).getD z)) w := by
  have := run_look (a := a) KK ht hz h false
  unfold execOp
  simp only [ho, lk_ev hq, lk_ev hr, Sem.run_bind, this, Result.andThen_ok, Sem.run_pure]
  rfl
theorem rn_lookOk (KK : KL P kt kv) (ho : o.op = .lookup t q r true) (hq : ev m q = some (.map (some B))) (hr : ev m r = some (kv a)) (ht : P.underlying t = some (.map kt e)) {z : Value} (hz : ∀ w : World, (zeroValue e).run P w = .ok z w) (h : MapB kv w B l) :
    (execOp (lk m) o).run P w = .ok (.value (.tuple #[(getK l a).getD z, .bool (getK l a).isSome])) w := by
  have := run_look (a := a) KK ht hz h true
  unfold execOp
  simp only [ho, lk_ev hq, lk_ev hr, Sem.run_bind, this, Result.andThen_ok, Sem.run_pure]
  rfl
theorem run_update (KK : KL P kt kv) (ht : P.underlying t = some (.map kt e)) (v : Value) (h : MapB kv w B l) :
    ∃ x, (Instr.mapUpdate t (.map (some B)) (kv a) v).run P w = .ok () x ∧ MapB kv x B (putK l a v) ∧ x.heap.size = w.heap.size ∧ w.grownBy x (some B) := by
  have hkn := putK_keys l a v h.keys
  obtain ⟨es, cl, h1, h2, h3, h4, h5⟩ := h
  have hlt := (Array.getElem?_eq_some_iff.1 h1).1
  have hg : (getObj B).run P w = .ok (.map es cl) w := by simp [getObj, Sem.run, h1]
  have hso : ∀ ob : Obj, (setObj B ob).run P w = .ok () { w with heap := w.heap.setIfInBounds B ob } := fun ob => by simp [setObj, Sem.run, h1]
  have hf := KK.fnd w a es.toList l h2
  cases hL : lookK a l 0 with
  | none =>
    refine ⟨{ w with heap := w.heap.setIfInBounds B (.map (es.push { key := kv a, val := v, born := cl }) (cl + 1)) }, ?_, ⟨es.push { key := kv a, val := v, born := cl }, cl + 1, by simp [hlt], ?_, hkn, ?_, ?_⟩, by simp, setObj_grown w B _⟩
    · simp only [Instr.mapUpdate, Sem.run_bind, run_underlying ht, Result.andThen_ok, hg, KK.chk, hf, hL, hso]
    · simp [putK, hL, h2]
    · simp only [Array.toList_push, List.map_append, List.map_cons, List.map_nil]
      rw [List.nodup_append]
      refine ⟨h4, by simp, fun y hy z hz => ?_⟩
      obtain ⟨e0, he, rfl⟩ := List.mem_map.1 hy
      simp at hz; subst hz
      have := h5 e0 he; omega
    · intro e0 he
      simp only [Array.toList_push, List.mem_append, List.mem_singleton] at he
      rcases he with he | rfl
      · have := h5 e0 he; omega
      · exact Nat.lt_succ_self _
  | some p =>
    obtain ⟨i, u⟩ := p
    have hli := lookK_some hL
    have hei : (es.toList.map (fun e => (e.key, e.val)))[i]? = some (kv a, u) := by rw [h2]; simp [hli]
    rw [List.getElem?_map] at hei
    cases he : es.toList[i]? with
    | none => rw [he] at hei; simp at hei
    | some e0 =>
      rw [he] at hei
      simp only [Option.map_some, Option.some.injEq, Prod.mk.injEq] at hei
      have he' : es[i]? = some e0 := by rw [← Array.getElem?_toList]; exact he
      have hst : (Instr.keyThatStays e0.key (kv a)).run P w = .ok (kv a) w := by
        rw [hei.1]; unfold Instr.keyThatStays; rw [KK.bits a]; rfl
      refine ⟨{ w with heap := w.heap.setIfInBounds B (.map (es.modify i fun e => { e with key := kv a, val := v }) cl) }, ?_, ⟨es.modify i fun e => { e with key := kv a, val := v }, cl, by simp [hlt], ?_, hkn, ?_, ?_⟩, by simp, setObj_grown w B _⟩
      · simp only [Instr.mapUpdate, Sem.run_bind, run_underlying ht, Result.andThen_ok, hg, KK.chk, hf, hL, he', Option.map_some, Option.getD_some, hst, hso]
      · simp only [putK, hL, Array.toList_modify]
        apply List.ext_getElem?
        intro j
        have hj : (es.toList.map (fun e => (e.key, e.val)))[j]? = (l.map (fun p => (kv p.1, p.2)))[j]? := by rw [h2]
        simp only [List.getElem?_map, List.getElem?_modify] at hj ⊢
        by_cases e1 : i = j
        · subst e1; simp [he, hli]
        · simp only [e1, if_false]
          cases hx : es.toList[j]? <;> cases hy : l[j]? <;> simp_all
      · have : (es.toList.modify i fun e0 => { e0 with key := kv a, val := v }).map (·.born) = es.toList.map (·.born) := by
          apply List.ext_getElem?
          intro j
          simp only [List.getElem?_map, List.getElem?_modify]
          cases es.toList[j]? <;> simp
          split <;> rfl
        rw [Array.toList_modify, this]; exact h4
      · intro e1 h1'
        rw [Array.toList_modify] at h1'
        obtain ⟨j, hj⟩ := List.getElem?_of_mem h1'
        rw [List.getElem?_modify] at hj
        cases hx : es.toList[j]? with
        | none => rw [hx] at hj; simp at hj
        | some e2 =>
          rw [hx] at hj
          have := h5 e2 (List.mem_of_getElem? hx)
          simp at hj; subst hj
          split <;> simpa using this
theorem op_mapUpdate (KK : KL P kt kv) {s : Operand} {v : Value} (ho : o.op = .mapUpdate t q r s) (hq : ev m q = some (.map (some B))) (hr : ev m r = some (kv a)) (hs : ev m s = some v) (ht : P.underlying t = some (.map kt e)) (h : MapB kv w B l) :
    Op1 P n m o w (fun _ x => MapB kv x B (putK l a v) ∧ x.heap.size = w.heap.size ∧ w.grownBy x (some B)) := by
  intro ac ha N Q hN
  obtain ⟨x, hx, h1, h2, h3⟩ := run_update (a := a) KK ht v h
  unfold Oper.wp execOp
  simp only [ho, ha.ev hq, ha.ev hr, ha.ev hs, Sem.run_bind, hx, Result.andThen_ok, Sem.run_pure]
  exact hN _ _ ⟨h1, h2, h3⟩
theorem run_delete (KK : KL P kt kv) (ht : P.underlying t = some (.map kt e)) {t2 ty : TypeId} (h : MapB kv w B l) :
    ∃ x, (Builtin.delete_ #[t, t2] ty #[.map (some B), kv a]).run P w = .ok (.tuple #[]) x ∧ MapB kv x B (delK l a) ∧ x.heap.size = w.heap.size ∧ w.grownBy x (some B) := by
  have hkn := delK_keys l a h.keys
  obtain ⟨es, cl, h1, h2, h3, h4, h5⟩ := h
  have hlt := (Array.getElem?_eq_some_iff.1 h1).1
  have hg : (getObj B).run P w = .ok (.map es cl) w := by simp [getObj, Sem.run, h1]
  have hso : ∀ ob : Obj, (setObj B ob).run P w = .ok () { w with heap := w.heap.setIfInBounds B ob } := fun ob => by simp [setObj, Sem.run, h1]
  have hf := KK.fnd w a es.toList l h2
  cases hL : lookK a l 0 with
  | none =>
    refine ⟨{ w with heap := w.heap.setIfInBounds B (.map es cl) }, ?_, ⟨es, cl, by simp [hlt], by simpa [delK, hL] using h2, hkn, h4, h5⟩, by simp, setObj_grown w B _⟩
    simp only [Builtin.delete_, List.getElem?_toArray, List.getElem?_cons_zero, List.getElem?_cons_succ, Sem.run_bind, run_underlying ht, Result.andThen_ok, hg, KK.chk, hf, hL, hso, Sem.run_pure]
  | some p =>
    obtain ⟨i, u⟩ := p
    have he : (es.eraseIdxIfInBounds i).toList = es.toList.eraseIdx i := by simp
    refine ⟨{ w with heap := w.heap.setIfInBounds B (.map (es.eraseIdxIfInBounds i) cl) }, ?_, ⟨es.eraseIdxIfInBounds i, cl, by simp [hlt], ?_, hkn, ?_, ?_⟩, by simp, setObj_grown w B _⟩
    · simp only [Builtin.delete_, List.getElem?_toArray, List.getElem?_cons_zero, List.getElem?_cons_succ, Sem.run_bind, run_underlying ht, Result.andThen_ok, hg, KK.chk, hf, hL, hso, Sem.run_pure]
    · simp only [delK, hL]; rw [he, mapErase, mapErase, h2]
    · rw [he, mapErase]; exact h4.sublist (List.eraseIdx_sublist _ _)
    · intro e0 h0; rw [he] at h0; exact h5 e0 ((List.eraseIdx_sublist _ _).mem h0)
end
end Go.Proofs.Ythmljllgfigebaa

/- Keys of maps: ints, texts, and structs or arrays that are compared part by part. Conditions: none. -/
namespace Go.Proofs.Ythmljllgfigebaa
open Go.RowKit

theorem findNow_keys {K : Type} [DecidableEq K] {kv : K → Value} {d : TypeDesc} (h : ∀ a b, Instr.sameNow d (kv a) (kv b) = some (decide (a = b))) (a : K) : ∀ (es : List MapEntry) (l : List (K × Value)) (i : Nat), es.map (fun e => (e.key, e.val)) = l.map (fun p => (kv p.1, p.2)) → Instr.findNow d (kv a) es i = some (lookK a l i)
  | [], [], _, _ => rfl
  | [], p :: r, _, h => by simp at h
  | e :: es, [], _, h => by simp at h
  | e :: es, p :: r, i, he => by
    simp only [List.map_cons, List.cons.injEq, Prod.mk.injEq] at he
    obtain ⟨⟨h1, h2⟩, h3⟩ := he
    unfold Instr.findNow lookK
    rw [h1, h a p.1, h2]
    by_cases e1 : a = p.1
    · simp [e1]
    · simp only [e1, decide_false, if_false]
      exact findNow_keys h a es r (i + 1) h3
theorem findAsking_keys {P : Program} {kt : TypeId} {K : Type} [DecidableEq K] {kv : K → Value} (h : ∀ a b (w : World), (Op.equal kt (kv a) (kv b)).run P w = .ok (decide (a = b)) w) (a : K) (w : World) : ∀ (es : List MapEntry) (l : List (K × Value)) (i : Nat), es.map (fun e => (e.key, e.val)) = l.map (fun p => (kv p.1, p.2)) → (Instr.findAsking kt (kv a) es i).run P w = .ok (lookK a l i) w
  | [], [], _, _ => rfl
  | [], p :: r, _, h => by simp at h
  | e :: es, [], _, h => by simp at h
  | e :: es, p :: r, i, he => by
    simp only [List.map_cons, List.cons.injEq, Prod.mk.injEq] at he
    obtain ⟨⟨h1, h2⟩, h3⟩ := he
    unfold Instr.findAsking lookK
    simp only [Sem.run_bind, h1, h a p.1 w, Result.andThen_ok]
    by_cases e1 : a = p.1
    · simp [e1, h2]
    · simp only [e1, decide_false, if_false]
      exact findAsking_keys h a w es r (i + 1) h3
theorem plainKL {P : Program} {kt : TypeId} {K : Type} [DecidableEq K] {kv : K → Value} {d : TypeDesc} (ht : P.underlying kt = some d) (h : ∀ a b, Instr.sameNow d (kv a) (kv b) = some (decide (a = b))) (hc : ∀ (w : World) em a, (Instr.checkKey em 10000 kt (kv a)).run P w = .ok () w) (hb : ∀ a, Instr.sameBits 10000 (kv a) (kv a) = true) : KL P kt kv where
  chk := hc
  fnd w a es l hl := by
    simp only [Instr.findKey, Sem.run_bind, run_underlying ht, Result.andThen_ok, findNow_keys h a es l 0 hl, Sem.run_pure]
  bits := hb
theorem aggKL {P : Program} {kt : TypeId} {K : Type} [DecidableEq K] {kv : K → Value} {d : TypeDesc} (ht : P.underlying kt = some d) (h : ∀ a b, Instr.sameNow d (kv a) (kv b) = none) (hq : ∀ a b (w : World), (Op.equal kt (kv a) (kv b)).run P w = .ok (decide (a = b)) w) (hc : ∀ (w : World) em a, (Instr.checkKey em 10000 kt (kv a)).run P w = .ok () w) (hb : ∀ a, Instr.sameBits 10000 (kv a) (kv a) = true) : KL P kt kv where
  chk := hc
  fnd w a es l hl := by
    cases es with
    | nil =>
      cases l with
      | nil => simp only [Instr.findKey, Sem.run_bind, run_underlying ht, Result.andThen_ok, Instr.findNow, Sem.run_pure]; rfl
      | cons p r => simp at hl
    | cons e es =>
      cases l with
      | nil => simp at hl
      | cons p r =>
        have h0 := hl
        simp only [List.map_cons, List.cons.injEq, Prod.mk.injEq] at hl
        have hn : Instr.findNow d (kv a) (e :: es) 0 = none := by unfold Instr.findNow; rw [hl.1.1, h a p.1]
        simp only [Instr.findKey, Sem.run_bind, run_underlying ht, Result.andThen_ok, hn]
        exact findAsking_keys hq a w (e :: es) (p :: r) 0 h0
  bits := hb
def intK (n : Int) : Value := .int .i64 n
theorem intKL {P : Program} {kt : TypeId} (ht : P.underlying kt = some (.int .i64)) : KL P kt intK :=
  plainKL ht (fun a b => by simp [Instr.sameNow, intK]; rfl) (fun w em a => (show ∀ d, (Instr.checkKey em (d + 1) kt (intK a)).run P w = .ok () w from fun d => by
    simp only [Instr.checkKey, Sem.run_bind, run_underlying ht, Result.andThen_ok, intK, Sem.run_pure]) 9999) (fun a => (show ∀ d, Instr.sameBits (d + 1) (intK a) (intK a) = true from fun d => by simp [Instr.sameBits, intK]) 9999)
def strK (s : ByteArray) : Value := .string s
theorem beq_bytes (a b : ByteArray) : (a == b) = decide (a = b) := by
  rw [beq_toListBytes, Go.ByteArray.toList_eq, Go.ByteArray.toList_eq]
  by_cases h : a = b
  · subst h; simp
  · rw [decide_eq_false h, beq_eq_false_iff_ne]
    intro e; exact h (by apply ByteArray.ext; exact Array.toList_inj.1 e)
theorem strKL {P : Program} {kt : TypeId} (ht : P.underlying kt = some .string) : KL P kt strK :=
  plainKL ht (fun a b => by simp only [Instr.sameNow, strK]; rw [beq_bytes]) (fun w em a => (show ∀ d, (Instr.checkKey em (d + 1) kt (strK a)).run P w = .ok () w from fun d => by
    simp only [Instr.checkKey, Sem.run_bind, run_underlying ht, Result.andThen_ok, strK, Sem.run_pure]) 9999) (fun a => (show ∀ d, Instr.sameBits (d + 1) (strK a) (strK a) = true from fun d => by simp only [Instr.sameBits, strK]; rw [beq_bytes]; simp) 9999)
def arr2K (p : Int × Int) : Value := .agg #[.int .i64 p.1, .int .i64 p.2]
theorem arr2KL {P : Program} {kt E : TypeId} (ht : P.underlying kt = some (.array 2 E)) (hE : P.underlying E = some (.int .i64)) (hs : ∀ w : World, (sizeOf E).run P w = .ok 1 w) (hg : ∀ w : World, (isAgg E).run P w = .ok false w) : KL P kt arr2K := by
  have hp : ∀ (w : World) (a b : Int) (i : Nat), i < 2 → (part E #[.int .i64 a, .int .i64 b] (i * 1)).run P w = .ok (.int .i64 (if i = 0 then a else b)) w := by
    intro w a b i hi
    match i, hi with
    | 0, _ => simp [part, Sem.run_bind, hg, hs]
    | 1, _ => simp [part, Sem.run_bind, hg, hs]
  have q2 : ∀ (d : Nat) (a b : Int × Int) (w : World), (Op.equalIn (d + 1 + 1) kt (arr2K a) (arr2K b)).run P w = .ok (decide (a = b)) w := by
    intro d a b w
    have e1 : ∀ (w : World) (x y : Int), (Op.equalIn (d + 1) E (.int .i64 x) (.int .i64 y)).run P w = .ok (x == y) w := fun w x y => by
      simp [Op.equalIn, Sem.run_bind, run_underlying hE]
    have h00 := fun w => hp w a.1 a.2 0 (by omega); have h01 := fun w => hp w a.1 a.2 1 (by omega)
    have h10 := fun w => hp w b.1 b.2 0 (by omega); have h11 := fun w => hp w b.1 b.2 1 (by omega)
    simp only [Nat.zero_mul, Nat.one_mul, if_true, Nat.one_ne_zero, if_false] at h00 h01 h10 h11
    obtain ⟨a1, a2⟩ := a
    obtain ⟨b1, b2⟩ := b
    rw [Op.equalIn]
    simp only [Sem.run_bind, run_underlying ht, Result.andThen_ok, arr2K, hs]
    simp [Std.Legacy.Range.forIn_eq_forIn_range', List.range', Sem.run_bind, h00, h01, h10, h11, e1, Sem.run_ite, hs]
    by_cases h1 : a1 = b1 <;> by_cases h2 : a2 = b2 <;> simp [h1, h2]
  have c2 : ∀ (d : Nat) (w : World) (em : Bool) (a : Int × Int), (Instr.checkKey em (d + 1 + 1) kt (arr2K a)).run P w = .ok () w := by
    intro d w em a
    have e1 : ∀ (w : World) (x : Int), (Instr.checkKey em (d + 1) E (.int .i64 x)).run P w = .ok () w := fun w x => by
      simp [Instr.checkKey, Sem.run_bind, run_underlying hE]
    have h00 := fun w => hp w a.1 a.2 0 (by omega); have h01 := fun w => hp w a.1 a.2 1 (by omega)
    simp only [Nat.zero_mul, Nat.one_mul, if_true, Nat.one_ne_zero, if_false] at h00 h01
    rw [Instr.checkKey]
    simp only [Sem.run_bind, run_underlying ht, Result.andThen_ok, arr2K, hs]
    simp [Std.Legacy.Range.forIn_eq_forIn_range', List.range', Sem.run_bind, h00, h01, e1, hs]
  have b2 : ∀ (d : Nat) (a : Int × Int), Instr.sameBits (d + 1 + 1) (arr2K a) (arr2K a) = true := fun d a => by simp [Instr.sameBits, arr2K]
  exact aggKL ht (fun a b => rfl) (fun a b w => q2 9998 a b w) (fun w em a => c2 9998 w em a) (fun a => b2 9998 a)
end Go.Proofs.Ythmljllgfigebaa

/- Maps that the call makes, told by a function that says what each key has (a default for those that are not there). Conditions: none. -/
namespace Go.Proofs.Ythmljllgfigebaa
open Go.RowKit

section
variable {K V : Type} {P : Program} {n : Nat} {m : List (Nat × Value)} {w x : World} {o : Oper} {B : Nat} {kv : K → Value} {kt e t : TypeId} {q r : Operand} {a : K} {enc : V → Value} {z : V} {g : K → V}

/-- Block B is a map; a key a has g a (z, if it is not there). -/
def MapG [DecidableEq K] (kv : K → Value) (enc : V → Value) (z : V) (w : World) (B : Nat) (g : K → V) : Prop := ∃ l, MapB kv w B l ∧ ∀ a, (getK l a).getD (enc z) = enc (g a)
variable [DecidableEq K]
theorem MapG.lt (h : MapG kv enc z w B g) : B < w.heap.size := by obtain ⟨l, h, _⟩ := h; exact h.lt
theorem MapG.kept {row : Option Nat} (h : MapG kv enc z w B g) (hg : w.grownBy x row) (hne : row ≠ some B) : MapG kv enc z x B g := by
  obtain ⟨l, h1, h2⟩ := h; exact ⟨l, h1.kept hg hne, h2⟩
theorem MapG.below (h : MapG kv enc z w B g) (hb : Below w.heap.size w x) : MapG kv enc z x B g := h.kept (below_grown hb) (by simp)
theorem MapG.row {B' : Nat} {T : TypeId} {sz k : Nat} {v : Value} {xs : List Value} (h : MapG kv enc z w B g) (hr : w.ownsRow B' T sz v k xs) : v.ownBlock ≠ some B := by
  intro e1
  obtain ⟨l, ⟨es, c, h1, _⟩, _⟩ := h
  rcases hr.2 with ⟨rfl, _⟩ | ⟨g1, _, _, rfl, _, hg1, _⟩
  · simp [Value.ownBlock] at e1
  · simp [Value.ownBlock] at e1
    subst e1; rw [h1] at hg1; cases hg1
theorem MapB.toG (h : MapB kv w B []) (enc : V → Value) (z : V) : MapG kv enc z w B (fun _ => z) := ⟨[], h, fun a => by simp⟩
theorem op_makeG (kv : K → Value) (enc : V → Value) (z : V) (hrun : (execOp (lk m) o).run P w = .ok (.value (.map (some w.heap.size))) (w.alloc (.map #[] 0))) (hok : okOps m o.op = true) (hsel : (match o.op with | .select .. => true | _ => false) = false) :
    Op1 P n m o w (fun u x => ∃ N, u = .map (some N) ∧ N = w.heap.size ∧ x.heap.size = N + 1 ∧ MapG kv enc z x N (fun _ => z) ∧ w.grownBy x none) :=
  (op_makeMap kv hrun hok hsel).mono fun u x ⟨N, h1, h2, h3, h4, h5⟩ => ⟨N, h1, h2, h3, h4.toG enc z, h5⟩
theorem rn_lookG (KK : KL P kt kv) (ho : o.op = .lookup t q r false) (hq : ev m q = some (.map (some B))) (hr : ev m r = some (kv a)) (ht : P.underlying t = some (.map kt e)) (hz : ∀ w : World, (zeroValue e).run P w = .ok (enc z) w) (h : MapG kv enc z w B g) :
    (execOp (lk m) o).run P w = .ok (.value (enc (g a))) w := by
  obtain ⟨l, h1, h2⟩ := h
  rw [← h2 a]; exact rn_look KK ho hq hr ht hz h1
theorem op_updateG (KK : KL P kt kv) {s : Operand} {v : V} (ho : o.op = .mapUpdate t q r s) (hq : ev m q = some (.map (some B))) (hr : ev m r = some (kv a)) (hs : ev m s = some (enc v)) (ht : P.underlying t = some (.map kt e)) (h : MapG kv enc z w B g) :
    Op1 P n m o w (fun _ x => MapG kv enc z x B (fun b => if b = a then v else g b) ∧ x.heap.size = w.heap.size ∧ w.grownBy x (some B)) := by
  obtain ⟨l, h1, h2⟩ := h
  exact (op_mapUpdate KK ho hq hr hs ht h1).mono fun _ x ⟨h3, h4, h5⟩ => ⟨⟨_, h3, fun b => by rw [getK_put]; by_cases e1 : b = a <;> simp [e1, h2]⟩, h4, h5⟩
/-- The entry of the key a bears this stamp. -/
def Stamp (kv : K → Value) (w : World) (B : Nat) (s : Nat) (a : K) : Prop := ∃ es clock, w.heap[B]? = some (.map es clock) ∧ ∃ e0 ∈ es.toList, e0.born = s ∧ e0.key = kv a
theorem run_entry (KK : KL P kt kv) (ht : P.underlying t = some (.map kt e)) (hz : ∀ w : World, (zeroValue e).run P w = .ok (enc z) w) (h : MapG kv enc z w B g) :
    ∃ s x, (Instr.mapEntry t (.map (some B)) (kv a)).run P w = .ok (.tuple #[enc (g a), .int .i64 (s : Nat)]) x ∧ MapG kv enc z x B g ∧ Stamp kv x B s a ∧ x.heap.size = w.heap.size ∧ w.grownBy x (some B) := by
  obtain ⟨l, hM, h2⟩ := h
  have hM0 := hM
  obtain ⟨es, cl, h1, hl, h3, h4, h5⟩ := hM
  have hlt := (Array.getElem?_eq_some_iff.1 h1).1
  have hg : (getObj B).run P w = .ok (.map es cl) w := by simp [getObj, Sem.run, h1]
  have hso : ∀ ob : Obj, (setObj B ob).run P w = .ok () { w with heap := w.heap.setIfInBounds B ob } := fun ob => by simp [setObj, Sem.run, h1]
  have hf := KK.fnd w a es.toList l hl
  cases hL : lookK a l 0 with
  | none =>
    have hga : enc (g a) = enc z := by rw [← h2 a]; simp [getK, hL]
    refine ⟨cl, { w with heap := w.heap.setIfInBounds B (.map (es.push { key := kv a, val := enc z, born := cl }) (cl + 1)) }, ?_, ⟨l ++ [(a, enc z)], ⟨es.push { key := kv a, val := enc z, born := cl }, cl + 1, by simp [hlt], by simp [hl], ?_, ?_, ?_⟩, ?_⟩, ⟨es.push { key := kv a, val := enc z, born := cl }, cl + 1, by simp [hlt], { key := kv a, val := enc z, born := cl }, by simp, rfl, rfl⟩, by simp, setObj_grown w B _⟩
    · simp only [Instr.mapEntry, Sem.run_bind, run_underlying ht, Result.andThen_ok, hg, KK.chk, hf, hL, hz, hso, Sem.run_pure, hga, goInt]
    · have := putK_keys l a (enc z) h3
      simpa [putK, hL] using this
    · simp only [Array.toList_push, List.map_append, List.map_cons, List.map_nil]
      rw [List.nodup_append]
      refine ⟨h4, by simp, fun y hy z hz => ?_⟩
      obtain ⟨e0, he, rfl⟩ := List.mem_map.1 hy
      simp at hz; subst hz
      have := h5 e0 he; omega
    · intro e0 he
      simp only [Array.toList_push, List.mem_append, List.mem_singleton] at he
      rcases he with he | rfl
      · have := h5 e0 he; omega
      · exact Nat.lt_succ_self _
    · intro b
      have hp := getK_put l a (enc z) b
      simp only [putK, hL] at hp
      rw [hp]
      by_cases e1 : b = a
      · subst e1; simp [hga]
      · simp [e1, h2]
  | some p =>
    obtain ⟨i, u⟩ := p
    have hli := lookK_some hL
    have hu : u = enc (g a) := by rw [← h2 a]; simp [getK, hL]
    have hei : (es.toList.map (fun e => (e.key, e.val)))[i]? = some (kv a, u) := by rw [hl]; simp [hli]
    rw [List.getElem?_map] at hei
    cases he : es.toList[i]? with
    | none => rw [he] at hei; simp at hei
    | some e0 =>
      rw [he] at hei
      simp only [Option.map_some, Option.some.injEq, Prod.mk.injEq] at hei
      have he' : es[i]? = some e0 := by rw [← Array.getElem?_toList]; exact he
      have hst : (Instr.keyThatStays e0.key (kv a)).run P w = .ok (kv a) w := by
        rw [hei.1]; unfold Instr.keyThatStays; rw [KK.bits a]; rfl
      have hmod : (es.modify i fun e => { e with key := kv a }) = es := by
        apply Array.ext_getElem?
        intro j
        rw [Array.getElem?_modify]
        by_cases e1 : i = j
        · subst e1; rw [if_pos rfl, he', Option.map_some, ← hei.1]
        · rw [if_neg e1]
      have hww : { w with heap := w.heap.setIfInBounds B (.map es cl) } = w := by
        have : w.heap.setIfInBounds B (.map es cl) = w.heap := by
          apply Array.ext_getElem?
          intro j
          by_cases e1 : B = j
          · subst e1; rw [Array.getElem?_setIfInBounds_self_of_lt hlt, h1]
          · rw [Array.getElem?_setIfInBounds_ne e1]
        rw [this]
      refine ⟨e0.born, w, ?_, ⟨l, hM0, h2⟩, ⟨es, cl, h1, e0, List.mem_of_getElem? he, rfl, hei.1⟩, rfl, World.grownBy.refl _ _⟩
      simp only [Instr.mapEntry, Sem.run_bind, run_underlying ht, Result.andThen_ok, hg, KK.chk, hf, hL, he', Option.map_some, Option.getD_some, hst, hmod, hso, hww, Sem.run_pure, hu, goInt]
theorem op_entryG (KK : KL P kt kv) (ho : o.op = .mapEntry t q r) (hq : ev m q = some (.map (some B))) (hr : ev m r = some (kv a)) (ht : P.underlying t = some (.map kt e)) (hz : ∀ w : World, (zeroValue e).run P w = .ok (enc z) w) (h : MapG kv enc z w B g) :
    Op1 P n m o w (fun u x => ∃ s : Nat, u = .tuple #[enc (g a), .int .i64 (s : Nat)] ∧ MapG kv enc z x B g ∧ Stamp kv x B s a ∧ x.heap.size = w.heap.size ∧ w.grownBy x (some B)) := by
  intro ac ha N Q hN
  obtain ⟨s, x, hx, h1, h2, h3, h4⟩ := run_entry (a := a) KK ht hz h
  unfold Oper.wp execOp
  simp only [ho, ha.ev hq, ha.ev hr, Sem.run_bind, hx, Result.andThen_ok, Sem.run_pure]
  exact hN _ _ ⟨s, rfl, h1, h2, h3, h4⟩
theorem findIdx_stamp : ∀ (l : List MapEntry) (s : Nat) (e0 : MapEntry), e0 ∈ l → e0.born = s → (l.map (·.born)).Nodup → ∃ i, l.findIdx? (fun e => (e.born : Int) == (s : Int)) = some i ∧ l[i]? = some e0
  | [], s, e0, h, _, _ => by simp at h
  | e1 :: r, s, e0, h, hb, hn => by
    simp only [List.map_cons, List.nodup_cons, List.mem_map, not_exists, not_and] at hn
    rw [List.findIdx?_cons]
    by_cases he : e1.born = s
    · refine ⟨0, by simp [he], ?_⟩
      rcases List.mem_cons.1 h with rfl | h
      · rfl
      · exact absurd (hb.trans he.symm) (hn.1 e0 h)
    · have h' : e0 ∈ r := by
        rcases List.mem_cons.1 h with rfl | h
        · exact absurd hb he
        · exact h
      obtain ⟨i, h1, h2⟩ := findIdx_stamp r s e0 h' hb hn.2
      have hne : ((e1.born : Int) == (s : Int)) = false := by simp; omega
      exact ⟨i + 1, by simp [hne, h1], by simpa using h2⟩
omit [DecidableEq K] in
theorem nodup_ne : ∀ (l : List K), l.Nodup → ∀ (j i : Nat), j < i → ∀ b, l[j]? = some b → l[i]? = some b → False
  | [], _, j, i, _, b, h, _ => by simp at h
  | c :: r, hn, 0, i + 1, _, b, h1, h2 => by
    simp at h1 h2; subst h1
    exact (List.nodup_cons.1 hn).1 (List.mem_of_getElem? h2)
  | c :: r, hn, j + 1, i + 1, hj, b, h1, h2 => nodup_ne r (List.nodup_cons.1 hn).2 j i (by omega) b (by simpa using h1) (by simpa using h2)
/-- A store at an entry that was told. -/
theorem op_entryStoreG (hinj : ∀ a b, kv a = kv b → a = b) {s u : Operand} {st : Nat} {v : V} (ho : o.op = .entryStore t q s u) (hq : ev m q = some (.map (some B))) (hs : ev m s = some (.int .i64 (st : Nat))) (hu : ev m u = some (enc v)) (h : MapG kv enc z w B g) (hst : Stamp kv w B st a) :
    Op1 P n m o w (fun _ x => MapG kv enc z x B (fun b => if b = a then v else g b) ∧ x.heap.size = w.heap.size ∧ w.grownBy x (some B)) := by
  intro ac ha N Q hN
  obtain ⟨l, ⟨es, cl, h1, hl, h3, h4, h5⟩, h2⟩ := h
  obtain ⟨es', cl', h1', e0, hm, hb, hk⟩ := hst
  rw [h1] at h1'; cases h1'
  have hlt := (Array.getElem?_eq_some_iff.1 h1).1
  have hg : (getObj B).run P w = .ok (.map es cl) w := by simp [getObj, Sem.run, h1]
  have hso : ∀ ob : Obj, (setObj B ob).run P w = .ok () { w with heap := w.heap.setIfInBounds B ob } := fun ob => by simp [setObj, Sem.run, h1]
  obtain ⟨i, hfi, hi⟩ := findIdx_stamp es.toList st e0 hm hb h4
  have hfa : es.findIdx? (fun e => (e.born : Int) == (st : Int)) = some i := by rw [← hfi, ← List.findIdx?_toArray]
  have hli : ∃ u0, l[i]? = some (a, u0) := by
    have hj : (es.toList.map (fun e => (e.key, e.val)))[i]? = (l.map (fun p => (kv p.1, p.2)))[i]? := by rw [hl]
    rw [List.getElem?_map, List.getElem?_map, hi] at hj
    cases hy : l[i]? with
    | none => rw [hy] at hj; simp at hj
    | some p =>
      rw [hy] at hj
      simp only [Option.map_some, Option.some.injEq, Prod.mk.injEq] at hj
      obtain ⟨p1, p2⟩ := p
      have : p1 = a := hinj _ _ (by rw [← hj.1, hk])
      subst this; exact ⟨p2, rfl⟩
  obtain ⟨u0, hli⟩ := hli
  have hfirst : ∀ j, j < i → ∀ p, l[j]? = some p → p.1 ≠ a := by
    intro j hj p hp e1
    exact nodup_ne (l.map (·.1)) h3 j i hj p.1 (by rw [List.getElem?_map, hp]; rfl) (by rw [List.getElem?_map, hli, e1]; rfl)
  have hrun : (Instr.entryStore t (.map (some B)) (.int .i64 (st : Nat)) (enc v)).run P w = .ok () { w with heap := w.heap.setIfInBounds B (.map (es.modify i fun e => { e with val := enc v }) cl) } := by
    simp only [Instr.entryStore, Sem.run_bind, hg, Result.andThen_ok, asInt, asIntOf, hfa, hso, Sem.run_pure]
  unfold Oper.wp execOp
  simp only [ho, ha.ev hq, ha.ev hs, ha.ev hu, Sem.run_bind, hrun, Result.andThen_ok, Sem.run_pure]
  refine hN _ _ ⟨⟨l.modify i fun p => (p.1, enc v), ⟨es.modify i fun e => { e with val := enc v }, cl, by simp [hlt], ?_, ?_, ?_, ?_⟩, fun b => ?_⟩, by simp, setObj_grown w B _⟩
  · rw [Array.toList_modify]
    apply List.ext_getElem?
    intro j
    have hj : (es.toList.map (fun e => (e.key, e.val)))[j]? = (l.map (fun p => (kv p.1, p.2)))[j]? := by rw [hl]
    simp only [List.getElem?_map, List.getElem?_modify] at hj ⊢
    cases hx : es.toList[j]? <;> cases hy : l[j]? <;> simp_all
    split <;> simp_all
  · have : (l.modify i fun p => (p.1, enc v)).map (·.1) = l.map (·.1) := by
      apply List.ext_getElem?
      intro j
      simp only [List.getElem?_map, List.getElem?_modify]
      cases l[j]? <;> simp
      split <;> rfl
    rw [this]; exact h3
  · have : (es.toList.modify i fun e => { e with val := enc v }).map (·.born) = es.toList.map (·.born) := by
      apply List.ext_getElem?
      intro j
      simp only [List.getElem?_map, List.getElem?_modify]
      cases es.toList[j]? <;> simp
      split <;> rfl
    rw [Array.toList_modify, this]; exact h4
  · intro e1 h1'
    rw [Array.toList_modify] at h1'
    obtain ⟨j, hj⟩ := List.getElem?_of_mem h1'
    rw [List.getElem?_modify] at hj
    cases hx : es.toList[j]? with
    | none => rw [hx] at hj; simp at hj
    | some e2 =>
      rw [hx] at hj
      have := h5 e2 (List.mem_of_getElem? hx)
      simp at hj; subst hj
      split <;> simpa using this
  · rw [getK_modify l i a u0 (enc v) b hli hfirst]
    by_cases e1 : b = a <;> simp [e1, h2]
end
theorem intK_inj : ∀ a b, intK a = intK b → a = b := fun a b h => by simpa [intK] using h
theorem strK_inj : ∀ a b, strK a = strK b → a = b := fun a b h => by simpa [strK] using h
theorem arr2K_inj : ∀ a b, arr2K a = arr2K b → a = b := fun a b h => by
  simp [arr2K] at h; exact Prod.ext h.1 h.2
end Go.Proofs.Ythmljllgfigebaa

/- Ranges over maps that the call made: what is still to come, whichever comes next. Conditions: none. -/
namespace Go.Proofs.Ythmljllgfigebaa
open Go.RowKit Go.ChangeMaps

section
variable {K : Type} {P : Program} {n : Nat} {m : List (Nat × Value)} {w x : World} {o : Oper} {B r : Nat} {l left : List (K × Value)} {kv : K → Value} {kt e t : TypeId} {q : Operand}
/-- Block r ranges over the map at B; left is still to come. -/
def IterB (kv : K → Value) (w : World) (r B : Nat) (left : List (K × Value)) : Prop :=
  ∃ es clock since seen c0, w.heap[B]? = some (.map es clock) ∧ w.heap[r]? = some (.mapIter (some B) since seen c0) ∧ since ≤ c0 ∧ c0 = clock ∧ (∀ e ∈ es.toList, e.born < since) ∧ (es.toList.map (·.born)).Nodup ∧
    (es.toList.filter fun e => !seen.contains e.born).map (fun e => (e.key, e.val)) = left.map (fun p => (kv p.1, p.2))
theorem IterB.lt (h : IterB kv w r B left) : r < w.heap.size := by obtain ⟨_, _, _, _, _, _, h, _⟩ := h; exact (Array.getElem?_eq_some_iff.1 h).1
theorem IterB.kept {row : Option Nat} (h : IterB kv w r B left) (hg : w.grownBy x row) (h1 : row ≠ some B) (h2 : row ≠ some r) : IterB kv x r B left := by
  obtain ⟨es, c, s, sn, c0, a1, a2, a3⟩ := h
  exact ⟨es, c, s, sn, c0, by rw [hg.block B (Array.getElem?_eq_some_iff.1 a1).1 (fun e => h1 e.symm)]; exact a1, by rw [hg.block r (Array.getElem?_eq_some_iff.1 a2).1 (fun e => h2 e.symm)]; exact a2, a3⟩
theorem IterB.row {B' : Nat} {T : TypeId} {sz k : Nat} {v : Value} {xs : List Value} (h : IterB kv w r B left) (hr : w.ownsRow B' T sz v k xs) : v.ownBlock ≠ some B ∧ v.ownBlock ≠ some r := by
  obtain ⟨es, c, s, sn, c0, a1, a2, _⟩ := h
  rcases hr.2 with ⟨rfl, _⟩ | ⟨g1, _, _, rfl, _, hg1, _⟩
  · simp [Value.ownBlock]
  · constructor
    · intro e1
      simp [Value.ownBlock] at e1
      subst e1; rw [a1] at hg1; cases hg1
    · intro e1
      simp [Value.ownBlock] at e1
      subst e1; rw [a2] at hg1; cases hg1
theorem op_range {a : K} (ho : o.op = .range t q) (hq : ev m q = some (.map (some B))) (ht : P.underlying t = some (.map kt e)) (h : MapB kv w B l) :
    Op1 P n m o w (fun u x => ∃ r, u = .pointer (some ⟨r, 0, none⟩) ∧ r = w.heap.size ∧ IterB kv x r B l ∧ x.heap.size = r + 1 ∧ w.grownBy x none) := by
  intro ac ha N Q hN
  obtain ⟨es, cl, h1, h2, h3, h4, h5⟩ := h
  have hg : (getObj B).run P w = .ok (.map es cl) w := by simp [getObj, Sem.run, h1]
  have hrun : (Instr.range t (.map (some B))).run P w = .ok (.pointer (some ⟨w.heap.size, 0, none⟩)) (w.alloc (.mapIter (some B) cl #[] cl)) := by
    simp only [Instr.range, Sem.run_bind, run_underlying ht, Result.andThen_ok, hg, Sem.run_pure]
    rfl
  unfold Oper.wp execOp
  simp only [ho, ha.ev hq, Sem.run_bind, hrun, Result.andThen_ok, Sem.run_pure]
  have hlt := (Array.getElem?_eq_some_iff.1 h1).1
  have hgr := World.grownBy_alloc w (.mapIter (some B) cl #[] cl) none
  refine hN _ _ ⟨w.heap.size, rfl, rfl, ⟨es, cl, cl, #[], cl, ?_, heap_alloc_new w _, Nat.le_refl _, rfl, h5, h4, ?_⟩, by simp, hgr⟩
  · rw [hgr.block B hlt (by simp)]; exact h1
  · rw [← h2]; congr 1; exact List.filter_eq_self.2 (fun _ _ => by simp)
theorem filter_born : ∀ (L1 L2 : List MapEntry) (e : MapEntry), ((L1 ++ e :: L2).map (·.born)).Nodup → (L1 ++ e :: L2).filter (fun x => x.born != e.born) = L1 ++ L2
  | L1, L2, e, h => by
    rw [List.map_append, List.map_cons, List.nodup_append] at h
    obtain ⟨h1, h2, h3⟩ := h
    rw [List.nodup_cons] at h2
    rw [List.filter_append, List.filter_cons]
    simp only [bne_self_eq_false, Bool.false_eq_true, if_false]
    rw [List.filter_eq_self.2, List.filter_eq_self.2]
    · intro y hy
      have : y.born ≠ e.born := fun hq => h2.1 (hq ▸ List.mem_map_of_mem hy)
      simpa using this
    · intro y hy
      have := h3 y.born (List.mem_map_of_mem hy) e.born (by simp)
      simpa using this
/-- The next one: none is left; or one that is left. -/
theorem op_next (ho : o.op = .next q false) (hq : ev m q = some (.pointer (some ⟨r, 0, none⟩))) (h : IterB kv w r B left) :
    Op1 P n m o w (fun u x => (left = [] ∧ u = .tuple #[.bool false] ∧ x = w) ∨
      ∃ p l1 l2, left = l1 ++ p :: l2 ∧ u = .tuple #[.bool true, kv p.1, p.2] ∧ IterB kv x r B (l1 ++ l2) ∧ (Instr.entry (.pointer (some ⟨r, 0, none⟩))).run P x = .ok (.tuple #[kv p.1, p.2]) x ∧ x.heap.size = w.heap.size ∧ w.grownBy x (some r)) := by
  intro ac ha N Q hN
  obtain ⟨es, cl, since, seen, c0, hB, hr, hsc, rfl, hold, hnd, hl⟩ := h
  have hLl : (leftOf es seen).toList = es.toList.filter fun e => !seen.contains e.born := by unfold leftOf; rw [Array.toList_filter]
  unfold Oper.wp execOp
  simp only [ho, ha.ev hq, Sem.run_bind]
  rcases run_next_at (P := P) w o.type r B since c0 seen es c0 hr hB hold hsc with ⟨h0, hrun⟩ | ⟨e, he, w1, hal, hrun⟩
  · simp only [hrun, Result.andThen_ok, Sem.run_pure]
    refine hN _ _ (.inl ⟨?_, rfl, rfl⟩)
    have h1 : (leftOf es seen).toList = [] := by rw [Array.eq_empty_of_size_eq_zero h0]
    rw [← hLl, h1] at hl
    exact List.map_eq_nil_iff.1 hl.symm
  · simp only [hrun, Result.andThen_ok, Sem.run_pure]
    have hem := mem_left he
    rw [hLl] at he
    obtain ⟨L1, L2, hL⟩ := List.append_of_mem he
    rw [hL, List.map_append, List.map_cons] at hl
    obtain ⟨l1, l2', h1, h2, h3⟩ := List.map_eq_append_iff.1 hl.symm
    obtain ⟨p, l2, h4, h5, h6⟩ := List.map_eq_cons_iff.1 h3
    subst h1 h4
    have hkey : kv p.1 = e.key := (Prod.mk.inj h5).1
    have hval : p.2 = e.val := (Prod.mk.inj h5).2
    have hr1 : w1.heap[r]? = some (.mapIter (some B) since seen c0) := by rcases hal with rfl | rfl <;> exact hr
    have hb1 : w1.heap[B]? = some (.map es c0) := by rcases hal with rfl | rfl <;> exact hB
    have hne : B ≠ r := fun e1 => by subst e1; rw [hr] at hB; cases hB
    have hset := Go.MapKept.heap_set (o' := .mapIter (some B) since (seen.push e.born) c0) hr1
    have hb' : (setBlock w1 r (.mapIter (some B) since (seen.push e.born) c0)).heap[B]? = some (.map es c0) := (hset.2 B hne).trans hb1
    have hgr : w.grownBy (setBlock w1 r (.mapIter (some B) since (seen.push e.born) c0)) (some r) := by
      rcases hal with rfl | rfl
      · exact ⟨rfl, rfl, rfl, by simp [setBlock], fun k _ hk => hset.2 k (fun e1 => hk (by rw [e1]))⟩
      · exact ⟨rfl, rfl, rfl, by show _ ≤ (w.heap.setIfInBounds r _).size; simp, fun k _ hk => hset.2 k (fun e1 => hk (by rw [e1]))⟩
    have hsz : (setBlock w1 r (.mapIter (some B) since (seen.push e.born) c0)).heap.size = w.heap.size := by
      rcases hal with rfl | rfl
      · simp [setBlock]
      · show (w.heap.setIfInBounds r _).size = _; simp
    have hen := run_entry_at (P := P) _ r B since seen es c0 e hset.1 hb' hem.1 hnd
    rw [← hkey, ← hval]
    refine hN _ _ (.inr ⟨p, l1, l2, rfl, rfl, ⟨es, c0, since, seen.push e.born, c0, hb', hset.1, hsc, rfl, hold, hnd, ?_⟩, by rw [hen, hkey, hval], hsz, hgr⟩)
    have hf : (es.toList.filter fun x => !(seen.push e.born).contains x.born) = (es.toList.filter fun x => !seen.contains x.born).filter fun x => x.born != e.born := by
      rw [List.filter_filter]
      congr 1
      funext y
      rw [contains_push]
      cases seen.contains y.born <;> cases hq : (y.born == e.born) <;> simp [bne, hq]
    rw [hf, hL, filter_born L1 L2 e, List.map_append, ← h2, ← h6, List.map_append]
    rw [← hL]
    exact (List.filter_sublist.map _).nodup hnd
theorem rn_entry {u : Value} (ho : o.op = .entry q) (hq : ev m q = some (.pointer (some ⟨r, 0, none⟩))) (h : (Instr.entry (.pointer (some ⟨r, 0, none⟩))).run P w = .ok u w) : (execOp (lk m) o).run P w = .ok (.value u) w := by
  unfold execOp
  simp only [ho, lk_ev hq, Sem.run_bind, h, Result.andThen_ok, Sem.run_pure]
end
end Go.Proofs.Ythmljllgfigebaa

/- Maps that the call made, told by a function: what a key has, if anything; and ranges over them. Conditions: none. -/
namespace Go.Proofs.Ythmljllgfigebaa
open Go.RowKit

section
variable {K V : Type} [DecidableEq K] {P : Program} {n : Nat} {m : List (Nat × Value)} {w x : World} {o : Oper} {B r c : Nat} {kv : K → Value} {enc : V → Value} {g : K → Option V} {kt e t : TypeId} {q s : Operand} {a : K} {v : V} {left : List (K × V)}
/-- Block B is a map of at most c entries; a key a has g a. -/
def MapO (kv : K → Value) (enc : V → Value) (w : World) (B : Nat) (g : K → Option V) (c : Nat) : Prop := ∃ l, MapB kv w B l ∧ (∀ a, getK l a = (g a).map enc) ∧ l.length ≤ c
theorem MapO.lt (h : MapO kv enc w B g c) : B < w.heap.size := by obtain ⟨l, h, _⟩ := h; exact h.lt
theorem MapO.kept {row : Option Nat} (h : MapO kv enc w B g c) (hg : w.grownBy x row) (hne : row ≠ some B) : MapO kv enc x B g c := by
  obtain ⟨l, h1, h2⟩ := h; exact ⟨l, h1.kept hg hne, h2⟩
theorem MapO.below (h : MapO kv enc w B g c) (hb : Below w.heap.size w x) : MapO kv enc x B g c := h.kept (below_grown hb) (by simp)
theorem MapO.row {B' : Nat} {T : TypeId} {sz k : Nat} {u : Value} {xs : List Value} (h : MapO kv enc w B g c) (hr : w.ownsRow B' T sz u k xs) : u.ownBlock ≠ some B := by
  intro e1
  obtain ⟨l, ⟨es, c', h1, _⟩, _⟩ := h
  rcases hr.2 with ⟨rfl, _⟩ | ⟨g1, _, _, rfl, _, hg1, _⟩
  · simp [Value.ownBlock] at e1
  · simp [Value.ownBlock] at e1
    subst e1; rw [h1] at hg1; cases hg1
theorem MapO.eq {g' : K → Option V} {c' : Nat} (h : MapO kv enc w B g c) (hg : g = g') (hc : c ≤ c') : MapO kv enc w B g' c' := by
  subst hg; obtain ⟨l, h1, h2, h3⟩ := h; exact ⟨l, h1, h2, Nat.le_trans h3 hc⟩
theorem op_makeO (kv : K → Value) (enc : V → Value) (hrun : (execOp (lk m) o).run P w = .ok (.value (.map (some w.heap.size))) (w.alloc (.map #[] 0))) (hok : okOps m o.op = true) (hsel : (match o.op with | .select .. => true | _ => false) = false) :
    Op1 P n m o w (fun u x => ∃ N, u = .map (some N) ∧ N = w.heap.size ∧ x.heap.size = N + 1 ∧ MapO kv enc x N (fun _ => none) 0 ∧ w.grownBy x none) :=
  (op_makeMap kv hrun hok hsel).mono fun u x ⟨N, h1, h2, h3, h4, h5⟩ => ⟨N, h1, h2, h3, ⟨[], h4, fun a => by simp, by simp⟩, h5⟩
theorem putK_len (l : List (K × Value)) (a : K) (v : Value) : (putK l a v).length ≤ l.length + 1 := by unfold putK; split <;> simp
theorem delK_len (l : List (K × Value)) (a : K) : (delK l a).length ≤ l.length := by
  unfold delK; split
  · rename_i i _ _; have := List.length_eraseIdx_le l i; omega
  · exact Nat.le_refl _
theorem op_updateO (KK : KL P kt kv) {q1 : Operand} (ho : o.op = .mapUpdate t q q1 s) (hq : ev m q = some (.map (some B))) (hr : ev m q1 = some (kv a)) (hs : ev m s = some (enc v)) (ht : P.underlying t = some (.map kt e)) (h : MapO kv enc w B g c) :
    Op1 P n m o w (fun _ x => MapO kv enc x B (fun b => if b = a then some v else g b) (c + 1) ∧ x.heap.size = w.heap.size ∧ w.grownBy x (some B)) := by
  obtain ⟨l, h1, h2, h3⟩ := h
  refine (op_mapUpdate KK ho hq hr hs ht h1).mono fun _ x ⟨k1, k2, k3⟩ => ⟨⟨_, k1, fun b => ?_, Nat.le_trans (putK_len _ _ _) (by omega)⟩, k2, k3⟩
  rw [getK_put]
  by_cases e1 : b = a <;> simp [e1, h2]
theorem op_deleteO (KK : KL P kt kv) {q1 : Operand} {t2 : TypeId} (ho : o.op = .call { callee := .builtin .delete, args := #[q, q1], argTypes := #[t, t2] }) (hq : ev m q = some (.map (some B))) (hr : ev m q1 = some (kv a)) (ht : P.underlying t = some (.map kt e)) (h : MapO kv enc w B g c) :
    Op1 P n m o w (fun _ x => MapO kv enc x B (fun b => if b = a then none else g b) c ∧ x.heap.size = w.heap.size ∧ w.grownBy x (some B)) := by
  obtain ⟨l, h1, h2, h3⟩ := h
  intro ac ha N Q hN
  obtain ⟨x, hx, k1, k2, k3⟩ := run_delete (a := a) (t2 := t2) (ty := o.type) KK ht h1
  unfold Oper.wp
  simp [execOp, ho, resolve, invoke, builtin, ha.ev hq, ha.ev hr, hx, Result.andThen]
  refine hN _ _ ⟨⟨_, k1, fun b => ?_, Nat.le_trans (delK_len _ _) h3⟩, k2, k3⟩
  rw [getK_del l a b h1.keys]
  by_cases e1 : b = a <;> simp [e1, h2]
theorem rn_lenO {ts : Array TypeId} (ho : o.op = .call { callee := .builtin .len, args := #[q], argTypes := #[t] }) (hq : ev m q = some (.map (some B))) (ht : P.underlying t = some (.map kt e)) (h : MapO kv enc w B g c) :
    ∃ k : Nat, k ≤ c ∧ (execOp (lk m) o).run P w = .ok (.value (.int .i64 (k : Nat))) w := by
  obtain ⟨l, h1, h2, h3⟩ := h
  exact ⟨l.length, h3, rn_lenMap (ts := ts) ho hq ht h1⟩
theorem op_lenO {ts : Array TypeId} (ho : o.op = .call { callee := .builtin .len, args := #[q], argTypes := #[t] }) (hq : ev m q = some (.map (some B))) (ht : P.underlying t = some (.map kt e)) (h : MapO kv enc w B g c) (hok : okOps m o.op = true) (hsel : (match o.op with | .select .. => true | _ => false) = false) :
    Op1 P n m o w (fun u x => ∃ k : Nat, u = .int .i64 ((k : Nat) : Int) ∧ k ≤ c ∧ w = x) := by
  obtain ⟨k, h1, h2⟩ := rn_lenO (ts := ts) ho hq ht h
  exact (op_run hok hsel h2).mono fun u x ⟨e1, e2⟩ => ⟨k, e1, h1, e2.symm⟩
/-- lt holds just what g has. -/
def Full (g : K → Option V) (lt : List (K × V)) : Prop := (lt.map (·.1)).Nodup ∧ ∀ a v, g a = some v ↔ (a, v) ∈ lt
theorem getK_mem : ∀ (l : List (K × Value)) (a : K) (u : Value), (l.map (·.1)).Nodup → (getK l a = some u ↔ (a, u) ∈ l)
  | [], a, u, _ => by simp
  | p :: r, a, u, h => by
    rw [List.map_cons, List.nodup_cons] at h
    have ih := getK_mem r a u h.2
    rw [getK_cons]
    by_cases e1 : a = p.1
    · rw [if_pos e1]
      constructor
      · intro h1
        have : p.2 = u := Option.some.inj h1
        exact List.mem_cons.2 (.inl (Prod.ext e1 this.symm))
      · intro h1
        rcases List.mem_cons.1 h1 with h2 | h2
        · rw [← h2]
        · exact absurd (e1 ▸ List.mem_map_of_mem (f := (·.1)) h2) h.1
    · rw [if_neg e1, ih]
      constructor
      · exact fun h1 => List.mem_cons_of_mem _ h1
      · intro h1
        rcases List.mem_cons.1 h1 with h2 | h2
        · exact absurd (by rw [← h2]) e1
        · exact h2
omit [DecidableEq K] in
theorem typed_list (g : K → Option V) (enc : V → Value) : ∀ (l : List (K × Value)), (∀ p ∈ l, (g p.1).map enc = some p.2) → ∃ lt : List (K × V), l = lt.map (fun p => (p.1, enc p.2)) ∧ ∀ p ∈ lt, g p.1 = some p.2
  | [], _ => ⟨[], rfl, by simp⟩
  | p :: r, h => by
    obtain ⟨lt, h1, h2⟩ := typed_list g enc r (fun y hy => h y (List.mem_cons_of_mem _ hy))
    have hp := h p (by simp)
    cases hg : g p.1 with
    | none => rw [hg] at hp; cases hp
    | some v =>
      rw [hg] at hp
      have hv : enc v = p.2 := Option.some.inj hp
      refine ⟨(p.1, v) :: lt, by rw [List.map_cons, ← h1, hv], fun y hy => ?_⟩
      rcases List.mem_cons.1 hy with rfl | hy
      · exact hg
      · exact h2 y hy
theorem MapO.list (h : MapO kv enc w B g c) : ∃ lt : List (K × V), MapB kv w B (lt.map fun p => (p.1, enc p.2)) ∧ Full g lt ∧ lt.length ≤ c := by
  obtain ⟨l, h1, h2, h3⟩ := h
  have hn := h1.keys
  obtain ⟨lt, e1, e2⟩ := typed_list g enc l (fun p hp => by rw [← h2]; exact (getK_mem l p.1 p.2 hn).2 hp)
  subst e1
  have hn' : (lt.map (·.1)).Nodup := by rw [List.map_map] at hn; exact hn
  refine ⟨lt, h1, ⟨hn', fun a v => ⟨fun hg => ?_, fun hm => e2 _ hm⟩⟩, by simpa using h3⟩
  have h4 := h2 a
  rw [hg] at h4
  have h5 := (getK_mem _ a (enc v) hn).1 h4
  obtain ⟨p, hp, hq⟩ := List.mem_map.1 h5
  have e3 : p.1 = a := (Prod.mk.inj hq).1
  have e4 := e2 p hp
  rw [e3, hg] at e4
  have : v = p.2 := Option.some.inj e4
  rw [← e3, this]; exact hp
/-- A range over it, what is still to come told as keys and values. -/
def IterO (kv : K → Value) (enc : V → Value) (w : World) (r B : Nat) (left : List (K × V)) : Prop := IterB kv w r B (left.map fun p => (p.1, enc p.2))
omit [DecidableEq K] in
theorem IterO.lt (h : IterO kv enc w r B left) : r < w.heap.size := IterB.lt h
omit [DecidableEq K] in
theorem IterO.kept {row : Option Nat} (h : IterO kv enc w r B left) (hg : w.grownBy x row) (h1 : row ≠ some B) (h2 : row ≠ some r) : IterO kv enc x r B left := IterB.kept h hg h1 h2
omit [DecidableEq K] in
theorem IterO.row {B' : Nat} {T : TypeId} {sz k : Nat} {u : Value} {xs : List Value} (h : IterO kv enc w r B left) (hr : w.ownsRow B' T sz u k xs) : u.ownBlock ≠ some B ∧ u.ownBlock ≠ some r := IterB.row h hr
theorem op_rangeO (a : K) (ho : o.op = .range t q) (hq : ev m q = some (.map (some B))) (ht : P.underlying t = some (.map kt e)) (h : MapO kv enc w B g c) :
    Op1 P n m o w (fun u x => ∃ r, u = .pointer (some ⟨r, 0, none⟩) ∧ r = w.heap.size ∧ x.heap.size = r + 1 ∧ (∃ lt : List (K × V), IterO kv enc x r B lt ∧ Full g lt ∧ lt.length ≤ c) ∧ w.grownBy x none) := by
  obtain ⟨lt, h1, h2, h3⟩ := h.list
  exact (op_range (a := a) ho hq ht h1).mono fun u x ⟨r, k1, k2, k3, k4, k5⟩ => ⟨r, k1, k2, k4, ⟨lt, k3, h2, h3⟩, k5⟩
omit [DecidableEq K] in
theorem op_nextO (ho : o.op = .next q false) (hq : ev m q = some (.pointer (some ⟨r, 0, none⟩))) (h : IterO kv enc w r B left) :
    Op1 P n m o w (fun u x => (left = [] ∧ u = .tuple #[.bool false] ∧ w = x) ∨
      ∃ p l1 l2, left = l1 ++ p :: l2 ∧ u = .tuple #[.bool true, kv p.1, enc p.2] ∧ IterO kv enc x r B (l1 ++ l2) ∧ (Instr.entry (.pointer (some ⟨r, 0, none⟩))).run P x = .ok (.tuple #[kv p.1, enc p.2]) x ∧ x.heap.size = w.heap.size ∧ w.grownBy x (some r)) :=
  (op_next ho hq h).mono fun u x hx => by
    rcases hx with ⟨h1, h2, h3⟩ | ⟨p, l1, l2, h1, h2, h3, h4, h5, h6⟩
    · exact .inl ⟨List.map_eq_nil_iff.1 h1, h2, h3.symm⟩
    · obtain ⟨k1, k2', e1, e2, e3⟩ := List.map_eq_append_iff.1 h1
      obtain ⟨p', k2, e4, e5, e6⟩ := List.map_eq_cons_iff.1 e3
      subst e1 e4 e2 e5 e6
      exact .inr ⟨p', k1, k2, rfl, h2, by unfold IterO; rw [List.map_append]; exact h3, h4, h5, h6⟩
end
section
variable {P : Program} {n : Nat} {m : List (Nat × Value)} {w : World} {o : Oper}
/-- make of no element, room for k: the call's own row. -/
theorem op_makeOwn {α : Type} {enc : α → List Value} {p q : Operand} {base k : Nat} {t e : TypeId} {z : Value} {size by_ : Nat} (ho : o.op = .makeSlice t p q) (hp : ev m p = some (.int .i64 0)) (hq : ev m q = some (.int .i64 ((k : Nat) : Int)))
    (h1 : P.underlying t = some (.slice e)) (hi : (P.info? e).map (fun i => (i.zero, i.size, i.bytes)) = some (some z, size, by_)) (b2 : by_ * k ≤ 281474976710656) (b3 : k ≤ maxLen) (b4 : base ≤ w.heap.size) :
    Op1 P n m o w (fun u x => ∃ N, u = .slice (some ⟨N, 0, none⟩) 0 k ∧ N = w.heap.size ∧ x.ownsRow base e size (.slice (some ⟨N, 0, none⟩) 0 k) ([] : List α).length (([] : List α).flatMap enc) ∧ w.grownBy x none) := by
  intro ac ha N Q hN
  obtain ⟨i, h2, h3, h4, h5⟩ := info_parts hi
  subst h5
  obtain ⟨x, hx, k1, k2⟩ := run_make_own (P := P) w base t e i z size h1 h2 h3 h4 .i64 .i64 k b2 b3 b4
  unfold Oper.wp
  simp [execOp, ho, ha.ev hp, ha.ev hq, hx, Result.andThen]
  exact hN _ _ ⟨w.heap.size, rfl, rfl, k1, k2⟩
end
end Go.Proofs.Ythmljllgfigebaa
