/- Put together: Map, MapB, MapC, ItemA. Conditions: as each says. -/
import Derived.Test.YteioaaegooebpaaGreatPexC
import Derived.StringKeys
import Derived.Laws.StructEq
import Derived.Test.YteioaaegooebpaaGreatOpsCNp
import Derived.Test.YteioaaegooebpaaGreatObjBNp
/- Maps that the call makes: a list of keys and values; lookups, stores, deletes, lengths. Conditions: none. -/
namespace Go.Proofs.YteioaaegooebpaaGreat
open Go.RowKit

theorem mapErase {α β : Type} (f : α → β) : ∀ (l : List α) (i : Nat), (l.eraseIdx i).map f = (l.map f).eraseIdx i
  | [], i => by simp
  | a :: r, 0 => by simp
  | a :: r, i + 1 => by simp [mapErase f r i]
section
variable {K : Type} [DecidableEq K]
/-- The place and the value of a key. -/
def lookK (a : K) : List (K × Value) → Nat → Option (Nat × Value)
  | [], _ => none
  | p :: r, i => if a = p.1 then some (i, p.2) else lookK a r (i + 1)
def getK (l : List (K × Value)) (a : K) : Option Value := (lookK a l 0).map (·.2)
def putK (l : List (K × Value)) (a : K) (v : Value) : List (K × Value) :=
  match lookK a l 0 with
  | some (i, _) => l.modify i fun p => (p.1, v)
  | none => l ++ [(a, v)]
def delK (l : List (K × Value)) (a : K) : List (K × Value) :=
  match lookK a l 0 with
  | some (i, _) => l.eraseIdx i
  | none => l
theorem lookK_shift (a : K) : ∀ (l : List (K × Value)) (i j : Nat), lookK a l (i + j) = (lookK a l j).map fun p => (i + p.1, p.2)
  | [], _, _ => rfl
  | p :: r, i, j => by
    unfold lookK
    split
    · rfl
    · rw [Nat.add_assoc]; exact lookK_shift a r i (j + 1)
theorem lookK_some {a : K} : ∀ {l : List (K × Value)} {i : Nat} {v : Value}, lookK a l 0 = some (i, v) → l[i]? = some (a, v)
  | [], i, v, h => by simp [lookK] at h
  | p :: r, i, v, h => by
    unfold lookK at h
    split at h
    · rename_i e
      simp only [Option.some.injEq, Prod.mk.injEq] at h
      obtain ⟨rfl, rfl⟩ := h
      subst e; rfl
    · rw [show (0 : Nat) + 1 = 1 + 0 from rfl, lookK_shift] at h
      cases hr : lookK a r 0 with
      | none => rw [hr] at h; simp at h
      | some q =>
        obtain ⟨k, u⟩ := q
        rw [hr] at h
        simp only [Option.map_some, Option.some.injEq, Prod.mk.injEq] at h
        obtain ⟨rfl, rfl⟩ := h
        rw [Nat.add_comm, List.getElem?_cons_succ]
        exact lookK_some hr
theorem lookK_none {a : K} : ∀ {l : List (K × Value)}, lookK a l 0 = none → ∀ p ∈ l, p.1 ≠ a
  | [], _, p, hp => by simp at hp
  | q :: r, h, p, hp => by
    unfold lookK at h
    split at h
    · simp at h
    · rename_i e
      rw [show (0 : Nat) + 1 = 1 + 0 from rfl, lookK_shift] at h
      have hr : lookK a r 0 = none := by cases hr : lookK a r 0 <;> simp_all
      rcases List.mem_cons.1 hp with rfl | hp
      · exact fun e' => e e'.symm
      · exact lookK_none hr p hp
theorem getK_cons (p : K × Value) (l : List (K × Value)) (b : K) : getK (p :: l) b = if b = p.1 then some p.2 else getK l b := by
  simp only [getK, lookK]
  split
  · rfl
  · rw [show (0 : Nat) + 1 = 1 + 0 from rfl, lookK_shift]; cases lookK b l 0 <;> rfl
@[simp] theorem getK_nil (b : K) : getK ([] : List (K × Value)) b = none := rfl
theorem getK_append (l r : List (K × Value)) (b : K) : getK (l ++ r) b = (getK l b).or (getK r b) := by
  induction l with
  | nil => simp
  | cons p l ih => rw [List.cons_append, getK_cons, getK_cons, ih]; split <;> simp
theorem getK_none {l : List (K × Value)} {b : K} (h : ∀ p ∈ l, p.1 ≠ b) : getK l b = none := by
  induction l with
  | nil => rfl
  | cons p l ih => rw [getK_cons, if_neg (fun e => h p (by simp) e.symm), ih (fun q hq => h q (by simp [hq]))]
theorem getK_modify : ∀ (l : List (K × Value)) (i : Nat) (a : K) (u v : Value) (b : K), l[i]? = some (a, u) → (∀ j, j < i → ∀ p, l[j]? = some p → p.1 ≠ a) → getK (l.modify i fun p => (p.1, v)) b = if b = a then some v else getK l b
  | [], i, a, u, v, b, h, _ => by simp at h
  | p :: r, 0, a, u, v, b, h, _ => by
    simp at h; subst h
    rw [List.modify_zero_cons, getK_cons, getK_cons]
    split <;> simp_all
  | p :: r, i + 1, a, u, v, b, h, hn => by
    rw [List.modify_succ_cons, getK_cons, getK_cons, getK_modify r i a u v b (by simpa using h) (fun j hj q hq => hn (j + 1) (by omega) q (by simpa using hq))]
    have hp : p.1 ≠ a := hn 0 (by omega) p rfl
    by_cases e : b = p.1
    · subst e; simp [hp]
    · simp [e]
theorem lookK_first {a : K} : ∀ {l : List (K × Value)} {i : Nat} {v : Value}, lookK a l 0 = some (i, v) → ∀ j, j < i → ∀ p, l[j]? = some p → p.1 ≠ a
  | [], i, v, h => by simp [lookK] at h
  | q :: r, i, v, h => by
    intro j hj p hp
    unfold lookK at h
    split at h
    · simp at h; omega
    · rename_i e
      rw [show (0 : Nat) + 1 = 1 + 0 from rfl, lookK_shift] at h
      cases hr : lookK a r 0 with
      | none => rw [hr] at h; simp at h
      | some x =>
        obtain ⟨k, u⟩ := x
        rw [hr] at h
        simp only [Option.map_some, Option.some.injEq, Prod.mk.injEq] at h
        cases j with
        | zero => simp at hp; subst hp; exact fun e' => e e'.symm
        | succ j => exact lookK_first hr j (by omega) p (by simpa using hp)
theorem getK_put (l : List (K × Value)) (a : K) (v : Value) (b : K) : getK (putK l a v) b = if b = a then some v else getK l b := by
  unfold putK
  cases h : lookK a l 0 with
  | none =>
    simp only []
    rw [getK_append]
    by_cases e : b = a
    · subst e; rw [getK_none (lookK_none h)]; simp [getK_cons]
    · simp [getK_cons, e]
  | some x =>
    obtain ⟨i, u⟩ := x
    exact getK_modify l i a u v b (lookK_some h) (lookK_first h)
theorem putK_keys (l : List (K × Value)) (a : K) (v : Value) (h : (l.map (·.1)).Nodup) : ((putK l a v).map (·.1)).Nodup := by
  unfold putK
  cases h1 : lookK a l 0 with
  | none =>
    simp only [List.map_append, List.map_cons, List.map_nil]
    rw [List.nodup_append]
    refine ⟨h, by simp, ?_⟩
    intro x hx y hy
    obtain ⟨p, hp, rfl⟩ := List.mem_map.1 hx
    simp at hy; subst hy
    exact lookK_none h1 p hp
  | some x =>
    obtain ⟨i, u⟩ := x
    have : (l.modify i fun p => (p.1, v)).map (·.1) = l.map (·.1) := by
      apply List.ext_getElem?
      intro j
      simp only [List.getElem?_map, List.getElem?_modify]
      cases l[j]? <;> simp
      split <;> rfl
    simp only []
    rw [this]; exact h
theorem getK_del (l : List (K × Value)) (a b : K) (h : (l.map (·.1)).Nodup) : getK (delK l a) b = if b = a then none else getK l b := by
  have key : ∀ (l : List (K × Value)) (i : Nat) (u : Value), (l.map (·.1)).Nodup → l[i]? = some (a, u) → getK (l.eraseIdx i) b = if b = a then none else getK l b := by
    intro l
    induction l with
    | nil => intro i u _ h; simp at h
    | cons p r ih =>
      intro i u hn h
      simp only [List.map_cons, List.nodup_cons, List.mem_map, not_exists, not_and] at hn
      cases i with
      | zero =>
        simp at h; subst h
        rw [List.eraseIdx_zero, List.tail_cons, getK_cons]
        by_cases e : b = a
        · subst e; simp; exact getK_none (fun q hq => hn.1 q hq)
        · simp [e]
      | succ i =>
        simp only [List.getElem?_cons_succ] at h
        rw [List.eraseIdx_cons_succ, getK_cons, getK_cons, ih i u hn.2 h]
        have hp : p.1 ≠ a := fun e => hn.1 (a, u) (List.mem_of_getElem? h) e.symm
        by_cases e : b = p.1
        · subst e; simp [hp]
        · simp [e]
  unfold delK
  cases h1 : lookK a l 0 with
  | none =>
    simp only []
    by_cases e : b = a
    · subst e; simp [getK, h1]
    · simp [e]
  | some x => exact key l x.1 x.2 h (lookK_some h1)
theorem delK_keys (l : List (K × Value)) (a : K) (h : (l.map (·.1)).Nodup) : ((delK l a).map (·.1)).Nodup := by
  unfold delK
  cases h1 : lookK a l 0 with
  | none => exact h
  | some x => simp only []; rw [mapErase]; exact h.sublist (List.eraseIdx_sublist _ _)

end

section
variable {K : Type}
variable {P : Program} {n : Nat} {m : List (Nat × Value)} {w x : World} {o : Oper} {B : Nat} {l : List (K × Value)} {kv : K → Value} {kt e t : TypeId} {q r : Operand} {a : K}
/-- Block B is a map that holds just these entries. -/
def MapB (kv : K → Value) (w : World) (B : Nat) (l : List (K × Value)) : Prop :=
  ∃ es clock, w.heap[B]? = some (.map es clock) ∧ es.toList.map (fun e => (e.key, e.val)) = l.map (fun p => (kv p.1, p.2)) ∧ (l.map (·.1)).Nodup ∧ (es.toList.map (·.born)).Nodup ∧ ∀ e ∈ es.toList, e.born < clock
theorem MapB.lt (h : MapB kv w B l) : B < w.heap.size := by obtain ⟨_, _, h, _⟩ := h; exact (Array.getElem?_eq_some_iff.1 h).1
theorem MapB.keys (h : MapB kv w B l) : (l.map (·.1)).Nodup := by obtain ⟨_, _, _, _, h, _⟩ := h; exact h
theorem MapB.kept {row : Option Nat} (h : MapB kv w B l) (hg : w.grownBy x row) (hne : row ≠ some B) : MapB kv x B l := by
  obtain ⟨es, c, h1, h2⟩ := h
  exact ⟨es, c, by rw [hg.block B (Array.getElem?_eq_some_iff.1 h1).1 (fun e => hne e.symm)]; exact h1, h2⟩
theorem MapB.below (h : MapB kv w B l) (hb : Below w.heap.size w x) : MapB kv x B l := h.kept (below_grown hb) (by simp)
theorem op_makeMap (kv : K → Value) (hrun : (execOp (lk m) o).run P w = .ok (.value (.map (some w.heap.size))) (w.alloc (.map #[] 0))) (hok : okOps m o.op = true) (hsel : (match o.op with | .select .. => true | _ => false) = false) :
    Op1 P n m o w (fun u x => ∃ N, u = .map (some N) ∧ N = w.heap.size ∧ x.heap.size = N + 1 ∧ MapB kv x N [] ∧ w.grownBy x none) :=
  (op_run hok hsel hrun).mono fun u x ⟨h1, h2⟩ => by
    subst h2
    exact ⟨w.heap.size, h1, rfl, by simp, ⟨#[], 0, heap_alloc_new w _, by simp, by simp, by simp, by simp⟩, World.grownBy_alloc w _ none⟩
theorem rn_lenMap {ts : Array TypeId} (ho : o.op = .call { callee := .builtin .len, args := #[q], argTypes := #[t] }) (hq : ev m q = some (.map (some B))) (ht : P.underlying t = some (.map kt e)) (h : MapB kv w B l) : (execOp (lk m) o).run P w = .ok (.value (.int .i64 (l.length : Nat))) w := by
  obtain ⟨es, cl, h1, h2, _⟩ := h
  have hl : es.size = l.length := by have := congrArg List.length h2; simpa using this
  have hg : (getObj B).run P w = .ok (.map es cl) w := by simp [getObj, Sem.run, h1]
  unfold execOp
  simp [ho, resolve, invoke, builtin, Sem.run_bind, lk_ev hq, Builtin.len_, goInt, run_underlying ht, hg, hl]
theorem setObj_grown (w : World) (B : Nat) (ob : Obj) : w.grownBy { w with heap := w.heap.setIfInBounds B ob } (some B) :=
  ⟨rfl, rfl, rfl, by simp, fun k _ hk => by simp [Array.getElem?_setIfInBounds_ne (show B ≠ k from fun e => hk (by rw [e]))]⟩

end

section
variable {K : Type} [DecidableEq K]
/-- How keys of a kind lie in memory, are found, stay. -/
structure KL (P : Program) (kt : TypeId) (kv : K → Value) : Prop where
  chk : ∀ (w : World) (em : Bool) (a : K), (Instr.checkKey em 10000 kt (kv a)).run P w = .ok () w
  fnd : ∀ (w : World) (a : K) (es : List MapEntry) (l : List (K × Value)), es.map (fun e => (e.key, e.val)) = l.map (fun p => (kv p.1, p.2)) → (Instr.findKey kt (kv a) es).run P w = .ok (lookK a l 0) w
  bits : ∀ a : K, Instr.sameBits 10000 (kv a) (kv a) = true

variable {P : Program} {n : Nat} {m : List (Nat × Value)} {w x : World} {o : Oper} {B : Nat} {l : List (K × Value)} {kv : K → Value} {kt e t : TypeId} {q r : Operand} {a : K}
theorem run_look (KK : KL P kt kv) (ht : P.underlying t = some (.map kt e)) {z : Value} (hz : ∀ w : World, (zeroValue e).run P w = .ok z w) (h : MapB kv w B l) (c : Bool) :
    (Instr.lookup t (.map (some B)) (kv a) c).run P w = .ok (if c then .tuple #[(getK l a).getD z, .bool (getK l a).isSome] else (getK l a).getD z) w := by
  obtain ⟨es, cl, h1, h2, _⟩ := h
  have hg : (getObj B).run P w = .ok (.map es cl) w := by simp [getObj, Sem.run, h1]
  have hf := KK.fnd w a es.toList l h2
  simp only [Instr.lookup, Sem.run_bind, run_underlying ht, Result.andThen_ok, hg, Sem.run_pure, KK.chk, hf]
  unfold getK
  cases lookK a l 0 with
  | none => simp [hz]
  | some p => simp
theorem rn_look (KK : KL P kt kv) (ho : o.op = .lookup t q r false) (hq : ev m q = some (.map (some B))) (hr : ev m r = some (kv a)) (ht : P.underlying t = some (.map kt e)) {z : Value} (hz : ∀ w : World, (zeroValue e).run P w = .ok z w) (h : MapB kv w B l) :
    (execOp (lk m) o).run P w = .ok (.value ((getK l a).getD z)) w := by
  have := run_look (a := a) KK ht hz h false
  unfold execOp
  simp only [ho, lk_ev hq, lk_ev hr, Sem.run_bind, this, Result.andThen_ok, Sem.run_pure]
  rfl
theorem rn_lookOk (KK : KL P kt kv) (ho : o.op = .lookup t q r true) (hq : ev m q = some (.map (some B))) (hr : ev m r = some (kv a)) (ht : P.underlying t = some (.map kt e)) {z : Value} (hz : ∀ w : World, (zeroValue e).run P w = .ok z w) (h : MapB kv w B l) :
    (execOp (lk m) o).run P w = .ok (.value (.tuple #[(getK l a).getD z, .bool (getK l a).isSome])) w := by
  have := run_look (a := a) KK ht hz h true
  unfold execOp
  simp only [ho, lk_ev hq, lk_ev hr, Sem.run_bind, this, Result.andThen_ok, Sem.run_pure]
  rfl
theorem run_update (KK : KL P kt kv) (ht : P.underlying t = some (.map kt e)) (v : Value) (h : MapB kv w B l) :
    ∃ x, (Instr.mapUpdate t (.map (some B)) (kv a) v).run P w = .ok () x ∧ MapB kv x B (putK l a v) ∧ x.heap.size = w.heap.size ∧ w.grownBy x (some B) := by
  have hkn := putK_keys l a v h.keys
  obtain ⟨es, cl, h1, h2, h3, h4, h5⟩ := h
  have hlt := (Array.getElem?_eq_some_iff.1 h1).1
  have hg : (getObj B).run P w = .ok (.map es cl) w := by simp [getObj, Sem.run, h1]
  have hso : ∀ ob : Obj, (setObj B ob).run P w = .ok () { w with heap := w.heap.setIfInBounds B ob } := fun ob => by simp [setObj, Sem.run, h1]
  have hf := KK.fnd w a es.toList l h2
  cases hL : lookK a l 0 with
  | none =>
    refine ⟨{ w with heap := w.heap.setIfInBounds B (.map (es.push { key := kv a, val := v, born := cl }) (cl + 1)) }, ?_, ⟨es.push { key := kv a, val := v, born := cl }, cl + 1, by simp [hlt], ?_, hkn, ?_, ?_⟩, by simp, setObj_grown w B _⟩
    · simp only [Instr.mapUpdate, Sem.run_bind, run_underlying ht, Result.andThen_ok, hg, KK.chk, hf, hL, hso]
    · simp [putK, hL, h2]
    · simp only [Array.toList_push, List.map_append, List.map_cons, List.map_nil]
      rw [List.nodup_append]
      refine ⟨h4, by simp, fun y hy z hz => ?_⟩
      obtain ⟨e0, he, rfl⟩ := List.mem_map.1 hy
      simp at hz; subst hz
      have := h5 e0 he; omega
    · intro e0 he
      simp only [Array.toList_push, List.mem_append, List.mem_singleton] at he
      rcases he with he | rfl
      · have := h5 e0 he; omega
      · exact Nat.lt_succ_self _
  | some p =>
    obtain ⟨i, u⟩ := p
    have hli := lookK_some hL
    have hei : (es.toList.map (fun e => (e.key, e.val)))[i]? = some (kv a, u) := by rw [h2]; simp [hli]
    rw [List.getElem?_map] at hei
    cases he : es.toList[i]? with
    | none => rw [he] at hei; simp at hei
    | some e0 =>
      rw [he] at hei
      simp only [Option.map_some, Option.some.injEq, Prod.mk.injEq] at hei
      have he' : es[i]? = some e0 := by rw [← Array.getElem?_toList]; exact he
      have hst : (Instr.keyThatStays e0.key (kv a)).run P w = .ok (kv a) w := by
        rw [hei.1]; unfold Instr.keyThatStays; rw [KK.bits a]; rfl
      refine ⟨{ w with heap := w.heap.setIfInBounds B (.map (es.modify i fun e => { e with key := kv a, val := v }) cl) }, ?_, ⟨es.modify i fun e => { e with key := kv a, val := v }, cl, by simp [hlt], ?_, hkn, ?_, ?_⟩, by simp, setObj_grown w B _⟩
      · simp only [Instr.mapUpdate, Sem.run_bind, run_underlying ht, Result.andThen_ok, hg, KK.chk, hf, hL, he', Option.map_some, Option.getD_some, hst, hso]
      · simp only [putK, hL, Array.toList_modify]
        apply List.ext_getElem?
        intro j
        have hj : (es.toList.map (fun e => (e.key, e.val)))[j]? = (l.map (fun p => (kv p.1, p.2)))[j]? := by rw [h2]
        simp only [List.getElem?_map, List.getElem?_modify] at hj ⊢
        by_cases e1 : i = j
        · subst e1; simp [he, hli]
        · simp only [e1, if_false]
          cases hx : es.toList[j]? <;> cases hy : l[j]? <;> simp_all
      · have : (es.toList.modify i fun e0 => { e0 with key := kv a, val := v }).map (·.born) = es.toList.map (·.born) := by
          apply List.ext_getElem?
          intro j
          simp only [List.getElem?_map, List.getElem?_modify]
          cases es.toList[j]? <;> simp
          split <;> rfl
        rw [Array.toList_modify, this]; exact h4
      · intro e1 h1'
        rw [Array.toList_modify] at h1'
        obtain ⟨j, hj⟩ := List.getElem?_of_mem h1'
        rw [List.getElem?_modify] at hj
        cases hx : es.toList[j]? with
        | none => rw [hx] at hj; simp at hj
        | some e2 =>
          rw [hx] at hj
          have := h5 e2 (List.mem_of_getElem? hx)
          simp at hj; subst hj
          split <;> simpa using this
theorem op_mapUpdate (KK : KL P kt kv) {s : Operand} {v : Value} (ho : o.op = .mapUpdate t q r s) (hq : ev m q = some (.map (some B))) (hr : ev m r = some (kv a)) (hs : ev m s = some v) (ht : P.underlying t = some (.map kt e)) (h : MapB kv w B l) :
    Op1 P n m o w (fun _ x => MapB kv x B (putK l a v) ∧ x.heap.size = w.heap.size ∧ w.grownBy x (some B)) := by
  intro ac ha N Q hN
  obtain ⟨x, hx, h1, h2, h3⟩ := run_update (a := a) KK ht v h
  unfold Oper.wp execOp
  simp only [ho, ha.ev hq, ha.ev hr, ha.ev hs, Sem.run_bind, hx, Result.andThen_ok, Sem.run_pure]
  exact hN _ _ ⟨h1, h2, h3⟩
theorem run_delete (KK : KL P kt kv) (ht : P.underlying t = some (.map kt e)) {t2 ty : TypeId} (h : MapB kv w B l) :
    ∃ x, (Builtin.delete_ #[t, t2] ty #[.map (some B), kv a]).run P w = .ok (.tuple #[]) x ∧ MapB kv x B (delK l a) ∧ x.heap.size = w.heap.size ∧ w.grownBy x (some B) := by
  have hkn := delK_keys l a h.keys
  obtain ⟨es, cl, h1, h2, h3, h4, h5⟩ := h
  have hlt := (Array.getElem?_eq_some_iff.1 h1).1
  have hg : (getObj B).run P w = .ok (.map es cl) w := by simp [getObj, Sem.run, h1]
  have hso : ∀ ob : Obj, (setObj B ob).run P w = .ok () { w with heap := w.heap.setIfInBounds B ob } := fun ob => by simp [setObj, Sem.run, h1]
  have hf := KK.fnd w a es.toList l h2
  cases hL : lookK a l 0 with
  | none =>
    refine ⟨{ w with heap := w.heap.setIfInBounds B (.map es cl) }, ?_, ⟨es, cl, by simp [hlt], by simpa [delK, hL] using h2, hkn, h4, h5⟩, by simp, setObj_grown w B _⟩
    simp only [Builtin.delete_, List.getElem?_toArray, List.getElem?_cons_zero, List.getElem?_cons_succ, Sem.run_bind, run_underlying ht, Result.andThen_ok, hg, KK.chk, hf, hL, hso, Sem.run_pure]
  | some p =>
    obtain ⟨i, u⟩ := p
    have he : (es.eraseIdxIfInBounds i).toList = es.toList.eraseIdx i := by simp
    refine ⟨{ w with heap := w.heap.setIfInBounds B (.map (es.eraseIdxIfInBounds i) cl) }, ?_, ⟨es.eraseIdxIfInBounds i, cl, by simp [hlt], ?_, hkn, ?_, ?_⟩, by simp, setObj_grown w B _⟩
    · simp only [Builtin.delete_, List.getElem?_toArray, List.getElem?_cons_zero, List.getElem?_cons_succ, Sem.run_bind, run_underlying ht, Result.andThen_ok, hg, KK.chk, hf, hL, hso, Sem.run_pure]
    · simp only [delK, hL]; rw [he, mapErase, mapErase, h2]
    · rw [he, mapErase]; exact h4.sublist (List.eraseIdx_sublist _ _)
    · intro e0 h0; rw [he] at h0; exact h5 e0 ((List.eraseIdx_sublist _ _).mem h0)
end
end Go.Proofs.YteioaaegooebpaaGreat

/- Keys of maps: ints, texts, and structs or arrays that are compared part by part. Conditions: none. -/
namespace Go.Proofs.YteioaaegooebpaaGreat
open Go.RowKit

theorem findNow_keys {K : Type} [DecidableEq K] {kv : K → Value} {d : TypeDesc} (h : ∀ a b, Instr.sameNow d (kv a) (kv b) = some (decide (a = b))) (a : K) : ∀ (es : List MapEntry) (l : List (K × Value)) (i : Nat), es.map (fun e => (e.key, e.val)) = l.map (fun p => (kv p.1, p.2)) → Instr.findNow d (kv a) es i = some (lookK a l i)
  | [], [], _, _ => rfl
  | [], p :: r, _, h => by simp at h
  | e :: es, [], _, h => by simp at h
  | e :: es, p :: r, i, he => by
    simp only [List.map_cons, List.cons.injEq, Prod.mk.injEq] at he
    obtain ⟨⟨h1, h2⟩, h3⟩ := he
    unfold Instr.findNow lookK
    rw [h1, h a p.1, h2]
    by_cases e1 : a = p.1
    · simp [e1]
    · simp only [e1, decide_false, if_false]
      exact findNow_keys h a es r (i + 1) h3
theorem findAsking_keys {P : Program} {kt : TypeId} {K : Type} [DecidableEq K] {kv : K → Value} (h : ∀ a b (w : World), (Op.equal kt (kv a) (kv b)).run P w = .ok (decide (a = b)) w) (a : K) (w : World) : ∀ (es : List MapEntry) (l : List (K × Value)) (i : Nat), es.map (fun e => (e.key, e.val)) = l.map (fun p => (kv p.1, p.2)) → (Instr.findAsking kt (kv a) es i).run P w = .ok (lookK a l i) w
  | [], [], _, _ => rfl
  | [], p :: r, _, h => by simp at h
  | e :: es, [], _, h => by simp at h
  | e :: es, p :: r, i, he => by
    simp only [List.map_cons, List.cons.injEq, Prod.mk.injEq] at he
    obtain ⟨⟨h1, h2⟩, h3⟩ := he
    unfold Instr.findAsking lookK
    simp only [Sem.run_bind, h1, h a p.1 w, Result.andThen_ok]
    by_cases e1 : a = p.1
    · simp [e1, h2]
    · simp only [e1, decide_false, if_false]
      exact findAsking_keys h a w es r (i + 1) h3
theorem plainKL {P : Program} {kt : TypeId} {K : Type} [DecidableEq K] {kv : K → Value} {d : TypeDesc} (ht : P.underlying kt = some d) (h : ∀ a b, Instr.sameNow d (kv a) (kv b) = some (decide (a = b))) (hc : ∀ (w : World) em a, (Instr.checkKey em 10000 kt (kv a)).run P w = .ok () w) (hb : ∀ a, Instr.sameBits 10000 (kv a) (kv a) = true) : KL P kt kv where
  chk := hc
  fnd w a es l hl := by
    simp only [Instr.findKey, Sem.run_bind, run_underlying ht, Result.andThen_ok, findNow_keys h a es l 0 hl, Sem.run_pure]
  bits := hb
theorem aggKL {P : Program} {kt : TypeId} {K : Type} [DecidableEq K] {kv : K → Value} {d : TypeDesc} (ht : P.underlying kt = some d) (h : ∀ a b, Instr.sameNow d (kv a) (kv b) = none) (hq : ∀ a b (w : World), (Op.equal kt (kv a) (kv b)).run P w = .ok (decide (a = b)) w) (hc : ∀ (w : World) em a, (Instr.checkKey em 10000 kt (kv a)).run P w = .ok () w) (hb : ∀ a, Instr.sameBits 10000 (kv a) (kv a) = true) : KL P kt kv where
  chk := hc
  fnd w a es l hl := by
    cases es with
    | nil =>
      cases l with
      | nil => simp only [Instr.findKey, Sem.run_bind, run_underlying ht, Result.andThen_ok, Instr.findNow, Sem.run_pure]; rfl
      | cons p r => simp at hl
    | cons e es =>
      cases l with
      | nil => simp at hl
      | cons p r =>
        have h0 := hl
        simp only [List.map_cons, List.cons.injEq, Prod.mk.injEq] at hl
        have hn : Instr.findNow d (kv a) (e :: es) 0 = none := by unfold Instr.findNow; rw [hl.1.1, h a p.1]
        simp only [Instr.findKey, Sem.run_bind, run_underlying ht, Result.andThen_ok, hn]
        exact findAsking_keys hq a w (e :: es) (p :: r) 0 h0
  bits := hb
def intK (n : Int) : Value := .int .i64 n
theorem intKL {P : Program} {kt : TypeId} (ht : P.underlying kt = some (.int .i64)) : KL P kt intK :=
  plainKL ht (fun a b => by simp [Instr.sameNow, intK]; rfl) (fun w em a => (show ∀ d, (Instr.checkKey em (d + 1) kt (intK a)).run P w = .ok () w from fun d => by
    simp only [Instr.checkKey, Sem.run_bind, run_underlying ht, Result.andThen_ok, intK, Sem.run_pure]) 9999) (fun a => (show ∀ d, Instr.sameBits (d + 1) (intK a) (intK a) = true from fun d => by simp [Instr.sameBits, intK]) 9999)
def strK (s : ByteArray) : Value := .string s
theorem beq_bytes (a b : ByteArray) : (a == b) = decide (a = b) := by
  rw [beq_toListBytes, Go.ByteArray.toList_eq, Go.ByteArray.toList_eq]
  by_cases h : a = b
  · subst h; simp
  · rw [decide_eq_false h, beq_eq_false_iff_ne]
    intro e; exact h (by apply ByteArray.ext; exact Array.toList_inj.1 e)
theorem strKL {P : Program} {kt : TypeId} (ht : P.underlying kt = some .string) : KL P kt strK :=
  plainKL ht (fun a b => by simp only [Instr.sameNow, strK]; rw [beq_bytes]) (fun w em a => (show ∀ d, (Instr.checkKey em (d + 1) kt (strK a)).run P w = .ok () w from fun d => by
    simp only [Instr.checkKey, Sem.run_bind, run_underlying ht, Result.andThen_ok, strK, Sem.run_pure]) 9999) (fun a => (show ∀ d, Instr.sameBits (d + 1) (strK a) (strK a) = true from fun d => by simp only [Instr.sameBits, strK]; rw [beq_bytes]; simp) 9999)
def arr2K (p : Int × Int) : Value := .agg #[.int .i64 p.1, .int .i64 p.2]
theorem arr2KL {P : Program} {kt E : TypeId} (ht : P.underlying kt = some (.array 2 E)) (hE : P.underlying E = some (.int .i64)) (hs : ∀ w : World, (sizeOf E).run P w = .ok 1 w) (hg : ∀ w : World, (isAgg E).run P w = .ok false w) : KL P kt arr2K := by
  have hp : ∀ (w : World) (a b : Int) (i : Nat), i < 2 → (part E #[.int .i64 a, .int .i64 b] (i * 1)).run P w = .ok (.int .i64 (if i = 0 then a else b)) w := by
    intro w a b i hi
    match i, hi with
    | 0, _ => simp [part, Sem.run_bind, hg, hs]
    | 1, _ => simp [part, Sem.run_bind, hg, hs]
  have q2 : ∀ (d : Nat) (a b : Int × Int) (w : World), (Op.equalIn (d + 1 + 1) kt (arr2K a) (arr2K b)).run P w = .ok (decide (a = b)) w := by
    intro d a b w
    have e1 : ∀ (w : World) (x y : Int), (Op.equalIn (d + 1) E (.int .i64 x) (.int .i64 y)).run P w = .ok (x == y) w := fun w x y => by
      simp [Op.equalIn, Sem.run_bind, run_underlying hE]
    have h00 := fun w => hp w a.1 a.2 0 (by omega); have h01 := fun w => hp w a.1 a.2 1 (by omega)
    have h10 := fun w => hp w b.1 b.2 0 (by omega); have h11 := fun w => hp w b.1 b.2 1 (by omega)
    simp only [Nat.zero_mul, Nat.one_mul, if_true, Nat.one_ne_zero, if_false] at h00 h01 h10 h11
    obtain ⟨a1, a2⟩ := a
    obtain ⟨b1, b2⟩ := b
    rw [Op.equalIn]
    simp only [Sem.run_bind, run_underlying ht, Result.andThen_ok, arr2K, hs]
    simp [Std.Legacy.Range.forIn_eq_forIn_range', List.range', Sem.run_bind, h00, h01, h10, h11, e1, Sem.run_ite, hs]
    by_cases h1 : a1 = b1 <;> by_cases h2 : a2 = b2 <;> simp [h1, h2]
  have c2 : ∀ (d : Nat) (w : World) (em : Bool) (a : Int × Int), (Instr.checkKey em (d + 1 + 1) kt (arr2K a)).run P w = .ok () w := by
    intro d w em a
    have e1 : ∀ (w : World) (x : Int), (Instr.checkKey em (d + 1) E (.int .i64 x)).run P w = .ok () w := fun w x => by
      simp [Instr.checkKey, Sem.run_bind, run_underlying hE]
    have h00 := fun w => hp w a.1 a.2 0 (by omega); have h01 := fun w => hp w a.1 a.2 1 (by omega)
    simp only [Nat.zero_mul, Nat.one_mul, if_true, Nat.one_ne_zero, if_false] at h00 h01
    rw [Instr.checkKey]
    simp only [Sem.run_bind, run_underlying ht, Result.andThen_ok, arr2K, hs]
    simp [Std.Legacy.Range.forIn_eq_forIn_range', List.range', Sem.run_bind, h00, h01, e1, hs]
  have b2 : ∀ (d : Nat) (a : Int × Int), Instr.sameBits (d + 1 + 1) (arr2K a) (arr2K a) = true := fun d a => by simp [Instr.sameBits, arr2K]
  exact aggKL ht (fun a b => rfl) (fun a b w => q2 9998 a b w) (fun w em a => c2 9998 w em a) (fun a => b2 9998 a)
end Go.Proofs.YteioaaegooebpaaGreat

/- Maps that the call makes, told by a function that says what each key has (a default for those that are not there). Conditions: none. -/
namespace Go.Proofs.YteioaaegooebpaaGreat
open Go.RowKit

section
variable {K V : Type} {P : Program} {n : Nat} {m : List (Nat × Value)} {w x : World} {o : Oper} {B : Nat} {kv : K → Value} {kt e t : TypeId} {q r : Operand} {a : K} {enc : V → Value} {z : V} {g : K → V}

/-- Block B is a map; a key a has g a (z, if it is not there). -/
def MapG [DecidableEq K] (kv : K → Value) (enc : V → Value) (z : V) (w : World) (B : Nat) (g : K → V) : Prop := ∃ l, MapB kv w B l ∧ ∀ a, (getK l a).getD (enc z) = enc (g a)
variable [DecidableEq K]
theorem MapG.lt (h : MapG kv enc z w B g) : B < w.heap.size := by obtain ⟨l, h, _⟩ := h; exact h.lt
theorem MapG.kept {row : Option Nat} (h : MapG kv enc z w B g) (hg : w.grownBy x row) (hne : row ≠ some B) : MapG kv enc z x B g := by
  obtain ⟨l, h1, h2⟩ := h; exact ⟨l, h1.kept hg hne, h2⟩
theorem MapG.below (h : MapG kv enc z w B g) (hb : Below w.heap.size w x) : MapG kv enc z x B g := h.kept (below_grown hb) (by simp)
theorem MapG.row {B' : Nat} {T : TypeId} {sz k : Nat} {v : Value} {xs : List Value} (h : MapG kv enc z w B g) (hr : w.ownsRow B' T sz v k xs) : v.ownBlock ≠ some B := by
  intro e1
  obtain ⟨l, ⟨es, c, h1, _⟩, _⟩ := h
  rcases hr.2 with ⟨rfl, _⟩ | ⟨g1, _, _, rfl, _, hg1, _⟩
  · simp [Value.ownBlock] at e1
  · simp [Value.ownBlock] at e1
    subst e1; rw [h1] at hg1; cases hg1
theorem MapB.toG (h : MapB kv w B []) (enc : V → Value) (z : V) : MapG kv enc z w B (fun _ => z) := ⟨[], h, fun a => by simp⟩
theorem op_makeG (kv : K → Value) (enc : V → Value) (z : V) (hrun : (execOp (lk m) o).run P w = .ok (.value (.map (some w.heap.size))) (w.alloc (.map #[] 0))) (hok : okOps m o.op = true) (hsel : (match o.op with | .select .. => true | _ => false) = false) :
    Op1 P n m o w (fun u x => ∃ N, u = .map (some N) ∧ N = w.heap.size ∧ x.heap.size = N + 1 ∧ MapG kv enc z x N (fun _ => z) ∧ w.grownBy x none) :=
  (op_makeMap kv hrun hok hsel).mono fun u x ⟨N, h1, h2, h3, h4, h5⟩ => ⟨N, h1, h2, h3, h4.toG enc z, h5⟩
theorem rn_lookG (KK : KL P kt kv) (ho : o.op = .lookup t q r false) (hq : ev m q = some (.map (some B))) (hr : ev m r = some (kv a)) (ht : P.underlying t = some (.map kt e)) (hz : ∀ w : World, (zeroValue e).run P w = .ok (enc z) w) (h : MapG kv enc z w B g) :
    (execOp (lk m) o).run P w = .ok (.value (enc (g a))) w := by
  obtain ⟨l, h1, h2⟩ := h
  rw [← h2 a]; exact rn_look KK ho hq hr ht hz h1
theorem op_updateG (KK : KL P kt kv) {s : Operand} {v : V} (ho : o.op = .mapUpdate t q r s) (hq : ev m q = some (.map (some B))) (hr : ev m r = some (kv a)) (hs : ev m s = some (enc v)) (ht : P.underlying t = some (.map kt e)) (h : MapG kv enc z w B g) :
    Op1 P n m o w (fun _ x => MapG kv enc z x B (fun b => if b = a then v else g b) ∧ x.heap.size = w.heap.size ∧ w.grownBy x (some B)) := by
  obtain ⟨l, h1, h2⟩ := h
  exact (op_mapUpdate KK ho hq hr hs ht h1).mono fun _ x ⟨h3, h4, h5⟩ => ⟨⟨_, h3, fun b => by rw [getK_put]; by_cases e1 : b = a <;> simp [e1, h2]⟩, h4, h5⟩
/-- The entry of the key a bears this stamp. -/
def Stamp (kv : K → Value) (w : World) (B : Nat) (s : Nat) (a : K) : Prop := ∃ es clock, w.heap[B]? = some (.map es clock) ∧ ∃ e0 ∈ es.toList, e0.born = s ∧ e0.key = kv a
theorem run_entry (KK : KL P kt kv) (ht : P.underlying t = some (.map kt e)) (hz : ∀ w : World, (zeroValue e).run P w = .ok (enc z) w) (h : MapG kv enc z w B g) :
    ∃ s x, (Instr.mapEntry t (.map (some B)) (kv a)).run P w = .ok (.tuple #[enc (g a), .int .i64 (s : Nat)]) x ∧ MapG kv enc z x B g ∧ Stamp kv x B s a ∧ x.heap.size = w.heap.size ∧ w.grownBy x (some B) := by
  obtain ⟨l, hM, h2⟩ := h
  have hM0 := hM
  obtain ⟨es, cl, h1, hl, h3, h4, h5⟩ := hM
  have hlt := (Array.getElem?_eq_some_iff.1 h1).1
  have hg : (getObj B).run P w = .ok (.map es cl) w := by simp [getObj, Sem.run, h1]
  have hso : ∀ ob : Obj, (setObj B ob).run P w = .ok () { w with heap := w.heap.setIfInBounds B ob } := fun ob => by simp [setObj, Sem.run, h1]
  have hf := KK.fnd w a es.toList l hl
  cases hL : lookK a l 0 with
  | none =>
    have hga : enc (g a) = enc z := by rw [← h2 a]; simp [getK, hL]
    refine ⟨cl, { w with heap := w.heap.setIfInBounds B (.map (es.push { key := kv a, val := enc z, born := cl }) (cl + 1)) }, ?_, ⟨l ++ [(a, enc z)], ⟨es.push { key := kv a, val := enc z, born := cl }, cl + 1, by simp [hlt], by simp [hl], ?_, ?_, ?_⟩, ?_⟩, ⟨es.push { key := kv a, val := enc z, born := cl }, cl + 1, by simp [hlt], { key := kv a, val := enc z, born := cl }, by simp, rfl, rfl⟩, by simp, setObj_grown w B _⟩
    · simp only [Instr.mapEntry, Sem.run_bind, run_underlying ht, Result.andThen_ok, hg, KK.chk, hf, hL, hz, hso, Sem.run_pure, hga, goInt]
    · have := putK_keys l a (enc z) h3
      simpa [putK, hL] using this
    · simp only [Array.toList_push, List.map_append, List.map_cons, List.map_nil]
      rw [List.nodup_append]
      refine ⟨h4, by simp, fun y hy z hz => ?_⟩
      obtain ⟨e0, he, rfl⟩ := List.mem_map.1 hy
      simp at hz; subst hz
      have := h5 e0 he; omega
    · intro e0 he
      simp only [Array.toList_push, List.mem_append, List.mem_singleton] at he
      rcases he with he | rfl
      · have := h5 e0 he; omega
      · exact Nat.lt_succ_self _
    · intro b
      have hp := getK_put l a (enc z) b
      simp only [putK, hL] at hp
      rw [hp]
      by_cases e1 : b = a
      · subst e1; simp [hga]
      · simp [e1, h2]
  | some p =>
    obtain ⟨i, u⟩ := p
    have hli := lookK_some hL
    have hu : u = enc (g a) := by rw [← h2 a]; simp [getK, hL]
    have hei : (es.toList.map (fun e => (e.key, e.val)))[i]? = some (kv a, u) := by rw [hl]; simp [hli]
    rw [List.getElem?_map] at hei
    cases he : es.toList[i]? with
    | none => rw [he] at hei; simp at hei
    | some e0 =>
      rw [he] at hei
      simp only [Option.map_some, Option.some.injEq, Prod.mk.injEq] at hei
      have he' : es[i]? = some e0 := by rw [← Array.getElem?_toList]; exact he
      have hst : (Instr.keyThatStays e0.key (kv a)).run P w = .ok (kv a) w := by
        rw [hei.1]; unfold Instr.keyThatStays; rw [KK.bits a]; rfl
      have hmod : (es.modify i fun e => { e with key := kv a }) = es := by
        apply Array.ext_getElem?
        intro j
        rw [Array.getElem?_modify]
        by_cases e1 : i = j
        · subst e1; rw [if_pos rfl, he', Option.map_some, ← hei.1]
        · rw [if_neg e1]
      have hww : { w with heap := w.heap.setIfInBounds B (.map es cl) } = w := by
        have : w.heap.setIfInBounds B (.map es cl) = w.heap := by
          apply Array.ext_getElem?
          intro j
          by_cases e1 : B = j
          · subst e1; rw [Array.getElem?_setIfInBounds_self_of_lt hlt, h1]
          · rw [Array.getElem?_setIfInBounds_ne e1]
        rw [this]
      refine ⟨e0.born, w, ?_, ⟨l, hM0, h2⟩, ⟨es, cl, h1, e0, List.mem_of_getElem? he, rfl, hei.1⟩, rfl, World.grownBy.refl _ _⟩
      simp only [Instr.mapEntry, Sem.run_bind, run_underlying ht, Result.andThen_ok, hg, KK.chk, hf, hL, he', Option.map_some, Option.getD_some, hst, hmod, hso, hww, Sem.run_pure, hu, goInt]
theorem op_entryG (KK : KL P kt kv) (ho : o.op = .mapEntry t q r) (hq : ev m q = some (.map (some B))) (hr : ev m r = some (kv a)) (ht : P.underlying t = some (.map kt e)) (hz : ∀ w : World, (zeroValue e).run P w = .ok (enc z) w) (h : MapG kv enc z w B g) :
    Op1 P n m o w (fun u x => ∃ s : Nat, u = .tuple #[enc (g a), .int .i64 (s : Nat)] ∧ MapG kv enc z x B g ∧ Stamp kv x B s a ∧ x.heap.size = w.heap.size ∧ w.grownBy x (some B)) := by
  intro ac ha N Q hN
  obtain ⟨s, x, hx, h1, h2, h3, h4⟩ := run_entry (a := a) KK ht hz h
  unfold Oper.wp execOp
  simp only [ho, ha.ev hq, ha.ev hr, Sem.run_bind, hx, Result.andThen_ok, Sem.run_pure]
  exact hN _ _ ⟨s, rfl, h1, h2, h3, h4⟩
theorem findIdx_stamp : ∀ (l : List MapEntry) (s : Nat) (e0 : MapEntry), e0 ∈ l → e0.born = s → (l.map (·.born)).Nodup → ∃ i, l.findIdx? (fun e => (e.born : Int) == (s : Int)) = some i ∧ l[i]? = some e0
  | [], s, e0, h, _, _ => by simp at h
  | e1 :: r, s, e0, h, hb, hn => by
    simp only [List.map_cons, List.nodup_cons, List.mem_map, not_exists, not_and] at hn
    rw [List.findIdx?_cons]
    by_cases he : e1.born = s
    · refine ⟨0, by simp [he], ?_⟩
      rcases List.mem_cons.1 h with rfl | h
      · rfl
      · exact absurd (hb.trans he.symm) (hn.1 e0 h)
    · have h' : e0 ∈ r := by
        rcases List.mem_cons.1 h with rfl | h
        · exact absurd hb he
        · exact h
      obtain ⟨i, h1, h2⟩ := findIdx_stamp r s e0 h' hb hn.2
      have hne : ((e1.born : Int) == (s : Int)) = false := by simp; omega
      exact ⟨i + 1, by simp [hne, h1], by simpa using h2⟩
omit [DecidableEq K] in
theorem nodup_ne : ∀ (l : List K), l.Nodup → ∀ (j i : Nat), j < i → ∀ b, l[j]? = some b → l[i]? = some b → False
  | [], _, j, i, _, b, h, _ => by simp at h
  | c :: r, hn, 0, i + 1, _, b, h1, h2 => by
    simp at h1 h2; subst h1
    exact (List.nodup_cons.1 hn).1 (List.mem_of_getElem? h2)
  | c :: r, hn, j + 1, i + 1, hj, b, h1, h2 => nodup_ne r (List.nodup_cons.1 hn).2 j i (by omega) b (by simpa using h1) (by simpa using h2)
/-- A store at an entry that was told. -/
theorem op_entryStoreG (hinj : ∀ a b, kv a = kv b → a = b) {s u : Operand} {st : Nat} {v : V} (ho : o.op = .entryStore t q s u) (hq : ev m q = some (.map (some B))) (hs : ev m s = some (.int .i64 (st : Nat))) (hu : ev m u = some (enc v)) (h : MapG kv enc z w B g) (hst : Stamp kv w B st a) :
    Op1 P n m o w (fun _ x => MapG kv enc z x B (fun b => if b = a then v else g b) ∧ x.heap.size = w.heap.size ∧ w.grownBy x (some B)) := by
  intro ac ha N Q hN
  obtain ⟨l, ⟨es, cl, h1, hl, h3, h4, h5⟩, h2⟩ := h
  obtain ⟨es', cl', h1', e0, hm, hb, hk⟩ := hst
  rw [h1] at h1'; cases h1'
  have hlt := (Array.getElem?_eq_some_iff.1 h1).1
  have hg : (getObj B).run P w = .ok (.map es cl) w := by simp [getObj, Sem.run, h1]
  have hso : ∀ ob : Obj, (setObj B ob).run P w = .ok () { w with heap := w.heap.setIfInBounds B ob } := fun ob => by simp [setObj, Sem.run, h1]
  obtain ⟨i, hfi, hi⟩ := findIdx_stamp es.toList st e0 hm hb h4
  have hfa : es.findIdx? (fun e => (e.born : Int) == (st : Int)) = some i := by rw [← hfi, ← List.findIdx?_toArray]
  have hli : ∃ u0, l[i]? = some (a, u0) := by
    have hj : (es.toList.map (fun e => (e.key, e.val)))[i]? = (l.map (fun p => (kv p.1, p.2)))[i]? := by rw [hl]
    rw [List.getElem?_map, List.getElem?_map, hi] at hj
    cases hy : l[i]? with
    | none => rw [hy] at hj; simp at hj
    | some p =>
      rw [hy] at hj
      simp only [Option.map_some, Option.some.injEq, Prod.mk.injEq] at hj
      obtain ⟨p1, p2⟩ := p
      have : p1 = a := hinj _ _ (by rw [← hj.1, hk])
      subst this; exact ⟨p2, rfl⟩
  obtain ⟨u0, hli⟩ := hli
  have hfirst : ∀ j, j < i → ∀ p, l[j]? = some p → p.1 ≠ a := by
    intro j hj p hp e1
    exact nodup_ne (l.map (·.1)) h3 j i hj p.1 (by rw [List.getElem?_map, hp]; rfl) (by rw [List.getElem?_map, hli, e1]; rfl)
  have hrun : (Instr.entryStore t (.map (some B)) (.int .i64 (st : Nat)) (enc v)).run P w = .ok () { w with heap := w.heap.setIfInBounds B (.map (es.modify i fun e => { e with val := enc v }) cl) } := by
    simp only [Instr.entryStore, Sem.run_bind, hg, Result.andThen_ok, asInt, asIntOf, hfa, hso, Sem.run_pure]
  unfold Oper.wp execOp
  simp only [ho, ha.ev hq, ha.ev hs, ha.ev hu, Sem.run_bind, hrun, Result.andThen_ok, Sem.run_pure]
  refine hN _ _ ⟨⟨l.modify i fun p => (p.1, enc v), ⟨es.modify i fun e => { e with val := enc v }, cl, by simp [hlt], ?_, ?_, ?_, ?_⟩, fun b => ?_⟩, by simp, setObj_grown w B _⟩
  · rw [Array.toList_modify]
    apply List.ext_getElem?
    intro j
    have hj : (es.toList.map (fun e => (e.key, e.val)))[j]? = (l.map (fun p => (kv p.1, p.2)))[j]? := by rw [hl]
    simp only [List.getElem?_map, List.getElem?_modify] at hj ⊢
    cases hx : es.toList[j]? <;> cases hy : l[j]? <;> simp_all
    split <;> simp_all
  · have : (l.modify i fun p => (p.1, enc v)).map (·.1) = l.map (·.1) := by
      apply List.ext_getElem?
      intro j
      simp only [List.getElem?_map, List.getElem?_modify]
      cases l[j]? <;> simp
      split <;> rfl
    rw [this]; exact h3
  · have : (es.toList.modify i fun e => { e with val := enc v }).map (·.born) = es.toList.map (·.born) := by
      apply List.ext_getElem?
      intro j
      simp only [List.getElem?_map, List.getElem?_modify]
      cases es.toList[j]? <;> simp
      split <;> rfl
    rw [Array.toList_modify, this]; exact h4
  · intro e1 h1'
    rw [Array.toList_modify] at h1'
    obtain ⟨j, hj⟩ := List.getElem?_of_mem h1'
    rw [List.getElem?_modify] at hj
    cases hx : es.toList[j]? with
    | none => rw [hx] at hj; simp at hj
    | some e2 =>
      rw [hx] at hj
      have := h5 e2 (List.mem_of_getElem? hx)
      simp at hj; subst hj
      split <;> simpa using this
  · rw [getK_modify l i a u0 (enc v) b hli hfirst]
    by_cases e1 : b = a <;> simp [e1, h2]
end
theorem intK_inj : ∀ a b, intK a = intK b → a = b := fun a b h => by simpa [intK] using h
theorem strK_inj : ∀ a b, strK a = strK b → a = b := fun a b h => by simpa [strK] using h
theorem arr2K_inj : ∀ a b, arr2K a = arr2K b → a = b := fun a b h => by
  simp [arr2K] at h; exact Prod.ext h.1 h.2
end Go.Proofs.YteioaaegooebpaaGreat

/- Package item: Check, Put, Same, Twins, Of of both. Conditions: none. -/
namespace Go.Proofs.YteioaaegooebpaaGreat
open Go.RowKit Go.PlainAid
set_option linter.unusedVariables false


theorem putB_small {c r : Int} {l : List OpT} : (putB c r l).size ≤ 200 := by
  by_cases h : chkB c r l = 0
  · obtain ⟨_, _, hl, _⟩ := chkB_ok h
    have hok := chkB_all h
    rw [putB_ok h]
    show (putH c r l ++ putOs l).length ≤ _
    have h1 := putL_le c; have h2 := putL_le r; have h3 := putL_le ((l.length : Nat) : Int)
    have h4 : ∀ l : List OpT, (∀ z ∈ l, OpOk z) → (putOs l).length ≤ 40 * l.length := fun l => by
      induction l with
      | nil => intro _; simp [putOs]
      | cons z r ih =>
        intro hz
        have := ih (fun y hy => hz y (List.mem_cons_of_mem _ hy))
        obtain ⟨⟨_, k1⟩, k2, _⟩ := hz z (by simp)
        have k3 := putL_le (z.1.size : Int); have k4 := putL_le (z.2.1.size : Int)
        have e : putOs (z :: r) = putO1 z ++ putOs r := by simp [putOs]
        rw [e, List.length_append, List.length_cons]
        have : (putO1 z).length ≤ 40 := by unfold putO1; simp only [List.length_append, List.length_singleton, Array.length_toList, ByteArray.size_data]; omega
        omega
    have h5 := h4 l hok
    unfold putH; simp only [List.length_append]; omega
  · rw [putB_err h]; decide
/-- The bytes of an entry; what is read. -/
def putEL (c r : Int) (l : List OpT) (ts : Int) : List UInt8 := putL ts ++ (putL ((putB c r l).size : Int) ++ (putB c r l).data.toList)
def putE (c r : Int) (l : List OpT) (ts : Int) : ByteArray := if chkB c r l = 0 then ⟨(putEL c r l ts).toArray⟩ else ⟨#[]⟩
theorem putE_ok {c r ts : Int} {l : List OpT} (h : chkB c r l = 0) : putE c r l ts = ⟨(putEL c r l ts).toArray⟩ := by unfold putE; rw [if_pos h]
theorem putE_err {c r ts : Int} {l : List OpT} (h : chkB c r l ≠ 0) : putE c r l ts = ⟨#[]⟩ := by unfold putE; rw [if_neg h]
theorem putE_small {c r ts : Int} {l : List OpT} : (putE c r l ts).size ≤ 220 := by
  by_cases h : chkB c r l = 0
  · rw [putE_ok h]
    show (putEL c r l ts).length ≤ _
    have h1 := putL_le ts; have h2 := putL_le ((putB c r l).size : Int); have h3 := putB_small (c := c) (r := r) (l := l)
    unfold putEL; simp only [List.length_append, Array.length_toList, ByteArray.size_data]; omega
  · rw [putE_err h]; decide
def ofEndE (n : Int) (t : ByteArray) (x : Int) : (Int × Int × List OpT × Int) × Int :=
  if x ≠ 0 then ((0, 0, [], 0), x) else if (ofB t).2 ≠ 0 then ((0, 0, [], 0), (ofB t).2) else (((ofB t).1.1, (ofB t).1.2.1, (ofB t).1.2.2, n), 0)
def ofE (s : ByteArray) : (Int × Int × List OpT × Int) × Int :=
  let t := bigR s 0 0
  let u := textR s t.2.1 t.2.2 65536
  ofEndE t.1 u.1 (endV s u.2.1.toNat u.2.2)
theorem ofE_at {s t : ByteArray} {n a1 e1 a2 e2 x : Int} (h1 : bigR s 0 0 = (n, a1, e1)) (h2 : textR s a1 e1 65536 = (t, a2, e2)) (h3 : endV s a2.toNat e2 = x) : ofE s = ofEndE n t x := by simp only [ofE, h1, h2, h3]
theorem ofEndE_a {n x : Int} {t : ByteArray} (h : x ≠ 0) : ofEndE n t x = ((0, 0, [], 0), x) := by unfold ofEndE; rw [if_pos h]
theorem ofEndE_b {n x : Int} {t : ByteArray} (h : ¬ x ≠ 0) (h1 : (ofB t).2 ≠ 0) : ofEndE n t x = ((0, 0, [], 0), (ofB t).2) := by unfold ofEndE; rw [if_neg h, if_pos h1]
theorem ofEndE_c {n x : Int} {t : ByteArray} (h : ¬ x ≠ 0) (h1 : ¬ (ofB t).2 ≠ 0) : ofEndE n t x = (((ofB t).1.1, (ofB t).1.2.1, (ofB t).1.2.2, n), 0) := by unfold ofEndE; rw [if_neg h, if_neg h1]
def sameE (c r : Int) (l : List OpT) (ts c2 r2 : Int) (l2 : List OpT) (ts2 : Int) : Bool := if ts = ts2 then sameB c r l c2 r2 l2 else false
theorem sameE_y {c r c2 r2 ts ts2 : Int} {l l2 : List OpT} (h : ts = ts2) : sameB c r l c2 r2 l2 = sameE c r l ts c2 r2 l2 ts2 := by unfold sameE; rw [if_pos h]
theorem sameE_n {c r c2 r2 ts ts2 : Int} {l l2 : List OpT} (h : ¬ ts = ts2) : false = sameE c r l ts c2 r2 l2 ts2 := by unfold sameE; rw [if_neg h]
theorem sameE_refl (c r : Int) (l : List OpT) (ts : Int) : sameE c r l ts c r l ts = true := by rw [← sameE_y rfl, sameB_refl]
-- left out here





















-- left out here
theorem int_z (w : World) : (zeroValue 3).run Tryz.prog w = .ok (intK 0) w := by kernel_rfl
theorem MapG.eq {K V : Type} [DecidableEq K] {kv : K → Value} {enc : V → Value} {z : V} {w : World} {B : Nat} {g g' : K → V} (h : MapG kv enc z w B g) (e : g = g') : MapG kv enc z w B g' := e ▸ h

set_option maxRecDepth 100000 in
theorem itemCheck_any (c : Int) (r : Int) (v : Value) (l : List OpT) (ts : Int) (w : World) (hs : SliceOf opE 3 w v l) :
    Calls Tryz.prog 77 #[.agg #[.int .i64 c, .int .i64 r, v, .int .u64 ts]] w fun e w' => e = .returned (.int .i64 (chkB c r l)) ∧ Below w.heap.size w w' := by
 have hB0 := Below.refl w.heap.size w
 have hl_hs := sl_len hs
 refine co_enter (n := 6) Tryz.func77 rfl rfl rfl [(0, .agg #[.int .i64 c, .int .i64 r, v, .int .u64 ts])] rfl (fun a h0 => ?_)
 refine co_seq ?_
 refine co_reg ?_
 refine pw h0 rfl (op_new (v := fun N => pt N 0) (T := 52) (cs := #[.int .i64 c, .int .i64 r, v, .int .u64 ts]) (by kernel_rfl) (by kernel_rfl) (by kernel_rfl)) ?_; clear h0
 rintro _ w2 a1 ⟨N3, rfl, hN6, hz7, hk5, hg4⟩ h1
 have hz8 := hg4.size
 try dsimp only at h1
 refine pk0 (v := .int .i64 0) h1 rfl fun a9 h9 => ?_; clear h1
 refine pl_nil ?_
 refine co_then ?_
 refine co_seq ?_
 refine co_reg ?_
 refine pk0 (v := pt N3 0) h9 rfl fun a10 h10 => ?_; clear h9
 refine pk (v := .agg #[.int .i64 c, .int .i64 r, v]) h10 rfl (rn_loadN rfl rfl Tryz.underlying29 rfl (by kernel_rfl) (blk_part hk5 0 (by rfl))) fun a11 h11 => ?_; clear h10
 have hB14 := hb_new hB0 hg4
 refine pw h11 rfl (op_call (args := #[.agg #[.int .i64 c, .int .i64 r, v]]) (R := fun res xw => res = .int .i64 (chkB c r l) ∧ Below w2.heap.size w2 xw) rfl rfl rfl (by kernel_rfl) (by kernel_rfl) (Tryz.call100 _ _) (opsCheck_any c r v l w2 (hs.below hB14)) (by rintro e x ⟨rfl, hb15⟩; exact ⟨_, rfl, ⟨rfl, hb15⟩⟩)) ?_; clear h11
 rintro _ w13 a12 ⟨rfl, hb15⟩ h12
 have hz16 := hb15.size
 refine pk0 (v := .int .i64 (chkB c r l)) h12 rfl fun a17 h17 => ?_; clear h12
 refine pl_nil ?_
 refine co_then ?_
 refine wp_ret ?_
 refine co_ret1 h17 rfl rfl ?_
 have hB18 := hb_call hB14 hb15
 exact ⟨rfl, hB18⟩
set_option maxRecDepth 100000 in
theorem ritemCheck_any (c : Int) (r : Int) (v : Value) (l : List OpT) (ts : Int) (w : World) (hs : SliceOf opE 3 w v l) :
    Calls Tryz.prog 82 #[.agg #[.int .i64 c, .int .i64 r, v, .int .u64 ts]] w fun e w' => e = .returned (.int .i64 (chkB c r l)) ∧ Below w.heap.size w w' := by
 have hB0 := Below.refl w.heap.size w
 have hl_hs := sl_len hs
 refine co_enter (n := 6) Tryz.func82 rfl rfl rfl [(0, .agg #[.int .i64 c, .int .i64 r, v, .int .u64 ts])] rfl (fun a h0 => ?_)
 refine co_seq ?_
 refine co_reg ?_
 refine pw h0 rfl (op_new (v := fun N => pt N 0) (T := 52) (cs := #[.int .i64 c, .int .i64 r, v, .int .u64 ts]) (by kernel_rfl) (by kernel_rfl) (by kernel_rfl)) ?_; clear h0
 rintro _ w2 a1 ⟨N3, rfl, hN6, hz7, hk5, hg4⟩ h1
 have hz8 := hg4.size
 try dsimp only at h1
 refine pk0 (v := .int .i64 0) h1 rfl fun a9 h9 => ?_; clear h1
 refine pl_nil ?_
 refine co_then ?_
 refine co_seq ?_
 refine co_reg ?_
 refine pk0 (v := pt N3 0) h9 rfl fun a10 h10 => ?_; clear h9
 refine pk (v := .agg #[.int .i64 c, .int .i64 r, v]) h10 rfl (rn_loadN rfl rfl Tryz.underlying29 rfl (by kernel_rfl) (blk_part hk5 0 (by rfl))) fun a11 h11 => ?_; clear h10
 have hB14 := hb_new hB0 hg4
 refine pw h11 rfl (op_call (args := #[.agg #[.int .i64 c, .int .i64 r, v]]) (R := fun res xw => res = .int .i64 (chkB c r l) ∧ Below w2.heap.size w2 xw) rfl rfl rfl (by kernel_rfl) (by kernel_rfl) (Tryz.call106 _ _) (ropsCheck_any c r v l w2 (hs.below hB14)) (by rintro e x ⟨rfl, hb15⟩; exact ⟨_, rfl, ⟨rfl, hb15⟩⟩)) ?_; clear h11
 rintro _ w13 a12 ⟨rfl, hb15⟩ h12
 have hz16 := hb15.size
 refine pk0 (v := .int .i64 (chkB c r l)) h12 rfl fun a17 h17 => ?_; clear h12
 refine pl_nil ?_
 refine co_then ?_
 refine wp_ret ?_
 refine co_ret1 h17 rfl rfl ?_
 have hB18 := hb_call hB14 hb15
 exact ⟨rfl, hB18⟩
set_option maxRecDepth 100000 in
theorem itemPut_any (c : Int) (r : Int) (v : Value) (l : List OpT) (ts : Int) (w : World) (hs : SliceOf opE 3 w v l) (hts : 0 ≤ ts ∧ ts < 18446744073709551616) :
    Calls Tryz.prog 68 #[.agg #[.int .i64 c, .int .i64 r, v, .int .u64 ts]] w fun e w' => e = .returned (.tuple #[.string (putE c r l ts), .int .i64 (chkB c r l)]) ∧ Below w.heap.size w w' := by
 have hsm := putB_small (c := c) (r := r) (l := l)
 have hB0 := Below.refl w.heap.size w
 have hl_hs := sl_len hs
 refine co_enter (n := 24) Tryz.func68 rfl rfl rfl [(0, .agg #[.int .i64 c, .int .i64 r, v, .int .u64 ts])] rfl (fun a h0 => ?_)
 refine co_seq ?_
 refine co_reg ?_
 refine pw h0 rfl (op_new (v := fun N => pt N 0) (T := 52) (cs := #[.int .i64 c, .int .i64 r, v, .int .u64 ts]) (by kernel_rfl) (by kernel_rfl) (by kernel_rfl)) ?_; clear h0
 rintro _ w2 a1 ⟨N3, rfl, hN6, hz7, hk5, hg4⟩ h1
 have hz8 := hg4.size
 try dsimp only at h1
 refine pk0 (v := .string (⟨#[]⟩)) h1 rfl fun a9 h9 => ?_; clear h1
 refine pk0 (v := .int .i64 0) h9 rfl fun a10 h10 => ?_; clear h9
 refine pl_nil ?_
 refine co_then ?_
 refine co_seq ?_
 refine co_reg ?_
 refine pk0 (v := pt N3 0) h10 rfl fun a11 h11 => ?_; clear h10
 refine pk (v := .agg #[.int .i64 c, .int .i64 r, v]) h11 rfl (rn_loadN rfl rfl Tryz.underlying29 rfl (by kernel_rfl) (blk_part hk5 0 (by rfl))) fun a12 h12 => ?_; clear h11
 have hB15 := hb_new hB0 hg4
 refine pw h12 rfl (op_call (args := #[.agg #[.int .i64 c, .int .i64 r, v]]) (R := fun res xw => res = .tuple #[.string (putB c r l), .int .i64 (chkB c r l)] ∧ Below w2.heap.size w2 xw) rfl rfl rfl (by kernel_rfl) (by kernel_rfl) (Tryz.call95 _ _) (opsPut_any c r v l w2 (hs.below hB15)) (by rintro e x ⟨rfl, hb16⟩; exact ⟨_, rfl, ⟨rfl, hb16⟩⟩)) ?_; clear h12
 rintro _ w14 a13 ⟨rfl, hb16⟩ h13
 have hz17 := hb16.size
 refine pk0 (v := .tuple #[.string (putB c r l), .int .i64 (chkB c r l)]) h13 rfl fun a18 h18 => ?_; clear h13
 refine pk0 (v := .string (putB c r l)) h18 rfl fun a19 h19 => ?_; clear h18
 refine pk0 (v := .int .i64 (chkB c r l)) h19 rfl fun a20 h20 => ?_; clear h19
 refine pk0 (v := .string (putB c r l)) h20 rfl fun a21 h21 => ?_; clear h20
 refine pk0 (v := .int .i64 (chkB c r l)) h21 rfl fun a22 h22 => ?_; clear h21
 refine pl_nil ?_
 refine co_then ?_
 refine co_seq ?_
 refine co_seq ?_
 refine co_reg ?_
 refine pk0 (v := .int .i64 (chkB c r l)) h22 rfl fun a23 h23 => ?_; clear h22
 refine pk0 (v := .bool (chkB c r l != 0)) h23 rfl fun a24 h24 => ?_; clear h23
 refine pl_nil ?_
 refine co_then ?_
 have hB26 := hb_call hB15 hb16
 cases hc25 : (chkB c r l != 0)
 ·
  rw [hc25] at h24
  have hp27 : ¬ (chkB c r l ≠ 0) := by first | simpa using hc25 | simpa [and_assoc] using hc25
  clear hc25
  refine co_false h24 rfl ?_
  refine wp_skip ?_
  refine co_then ?_
  refine co_seq ?_
  refine dr_gen (fun x => Below w.heap.size w x ∧ Blk x N3 52 #[.int .i64 c, .int .i64 r, v, .int .u64 ts]) (by kernel_rfl) (fun w28 hg29 => ?_) (fun w28 hg29 => ?_)
  ·
   have hz30 := hg29.size
   have hB31 := hb_new hB26 hg29
   have hk32 := hk5.below hb16
   have hk33 := hk32.kept hg29 (by simp)
   exact ⟨hB31, hk33⟩
  have hz34 := hg29.size
  have hB35 := hb_new hB26 hg29
  have hk36 := hk5.below hb16
  have hk37 := hk36.kept hg29 (by simp)
  refine dk0 1 (v := pt N3 3) h24 rfl rfl ⟨hB35, hk37⟩ fun a38 h38 => ?_; clear h24
  refine dk 2 (v := .int .u64 ts) h38 rfl rfl ⟨hB35, hk37⟩ (fun x hx => (rn_load1 rfl rfl Tryz.isAgg22 (hx.2.cell rfl))) fun a39 h39 => ?_; clear h38
  refine dk0 4 (v := .string (putB c r l)) h39 rfl rfl ⟨hB35, hk37⟩ fun a40 h40 => ?_; clear h39
  refine d1 0 h40 rfl rfl (op_call (args := #[]) (R := fun res xw => ∃ b : Nat, res = pt b 0 ∧ b = w28.heap.size ∧ OW b [] 0 xw ∧ Below w28.heap.size w28 xw) rfl rfl rfl (by kernel_rfl) (by kernel_rfl) (Tryz.call29 _ _) (ow_new w28) (by rintro e x ⟨b, rfl, h0, h1, h2⟩; exact ⟨_, rfl, b, rfl, h0, h1, h2⟩)) ?_ ?_; clear h40
  ·
   rintro _ w42 ⟨b43, rfl, hN44, ho45, hb46⟩
   have hz47 := hb46.size
   have hl48 := ho45.lt
   have hB49 := hb_call hB35 hb46
   have hk50 := hk37.below hb46
   exact ⟨hB49, hk50⟩
  rintro _ w42 a41 ⟨b43, rfl, hN44, ho45, hb46⟩ h41
  have hz47 := hb46.size
  have hl48 := ho45.lt
  have hB49 := hb_call hB35 hb46
  have hk50 := hk37.below hb46
  refine d1 3 h41 rfl rfl (op_call (args := #[pt b43 0, .int .u64 ts]) (R := fun res xw => res = pt b43 0 ∧ OW b43 (([] : List UInt8) ++ putL ts) (0 + 9) xw ∧ But (Rw w42 b43) w42 xw) rfl rfl rfl (by kernel_rfl) (by kernel_rfl) (Tryz.call69 _ _) (ow_big b43 ([]) 0 ts w42 ho45 (by omega) (by omega) (by omega)) (by rintro e x ⟨rfl, h1, h2⟩; exact ⟨_, rfl, rfl, h1, h2⟩)) ?_ ?_; clear h41
  ·
   rintro _ w52 ⟨rfl, ho53, hx54⟩
   have hz55 := hx54.size
   have hl56 := ho53.lt
   have hB57 := hb_wr hB49 ho45 (by omega) hx54
   have hk58 := blk_wr hk50 ho45 (by decide) (by omega) hx54
   exact ⟨hB57, hk58⟩
  rintro _ w52 a51 ⟨rfl, ho53, hx54⟩ h51
  have hz55 := hx54.size
  have hl56 := ho53.lt
  have hB57 := hb_wr hB49 ho45 (by omega) hx54
  have hk58 := blk_wr hk50 ho45 (by decide) (by omega) hx54
  refine d1 5 h51 rfl rfl (op_call (args := #[pt b43 0, .string (putB c r l)]) (R := fun res xw => res = pt b43 0 ∧ OW b43 ((([] : List UInt8) ++ putL ts) ++ (putL ((putB c r l : ByteArray).size : Int) ++ (putB c r l : ByteArray).data.toList)) (0 + 9 + (9 + (putB c r l : ByteArray).size)) xw ∧ But (Rw w52 b43) w52 xw) rfl rfl rfl (by kernel_rfl) (by kernel_rfl) (Tryz.call67 _ _) (ow_text b43 (([] : List UInt8) ++ putL ts) (0 + 9) (putB c r l) w52 ho53 (by first | omega | (simp; done) | (simp; omega))) (by rintro e x ⟨rfl, h1, h2⟩; exact ⟨_, rfl, rfl, h1, h2⟩)) ?_ ?_; clear h51
  ·
   rintro _ w60 ⟨rfl, ho61, hx62⟩
   have hz63 := hx62.size
   have hl64 := ho61.lt
   have hB65 := hb_wr hB57 ho53 (by omega) hx62
   have hk66 := blk_wr hk58 ho53 (by decide) (by omega) hx62
   exact ⟨hB65, hk66⟩
  rintro _ w60 a59 ⟨rfl, ho61, hx62⟩ h59
  have hz63 := hx62.size
  have hl64 := ho61.lt
  have hB65 := hb_wr hB57 ho53 (by omega) hx62
  have hk66 := blk_wr hk58 ho53 (by decide) (by omega) hx62
  refine d1 6 h59 rfl rfl (op_call (args := #[pt b43 0]) (R := fun res xw => res = .tuple #[.string (⟨((([] : List UInt8) ++ putL ts) ++ (putL ((putB c r l : ByteArray).size : Int) ++ (putB c r l : ByteArray).data.toList)).toArray⟩), .int .i64 0] ∧ Below w60.heap.size w60 xw) rfl rfl rfl (by kernel_rfl) (by kernel_rfl) (Tryz.call33 _ _) (ow_done b43 ((([] : List UInt8) ++ putL ts) ++ (putL ((putB c r l : ByteArray).size : Int) ++ (putB c r l : ByteArray).data.toList)) (0 + 9 + (9 + (putB c r l : ByteArray).size)) w60 ho61) (by rintro e x ⟨rfl, h2⟩; exact ⟨_, rfl, rfl, h2⟩)) ?_ ?_; clear h59
  ·
   rintro _ w68 ⟨rfl, hb69⟩
   have hz70 := hb69.size
   have hB71 := hb_call hB65 hb69
   have hk72 := hk66.below hb69
   exact ⟨hB71, hk72⟩
  rintro _ w68 a67 ⟨rfl, hb69⟩ h67
  have hz70 := hb69.size
  have hB71 := hb_call hB65 hb69
  have hk72 := hk66.below hb69
  refine dk0 7 (v := .string (⟨((([] : List UInt8) ++ putL ts) ++ (putL ((putB c r l : ByteArray).size : Int) ++ (putB c r l : ByteArray).data.toList)).toArray⟩)) h67 rfl rfl ⟨hB71, hk72⟩ fun a73 h73 => ?_; clear h67
  refine dk0 8 (v := .int .i64 0) h73 rfl rfl ⟨hB71, hk72⟩ fun a74 h74 => ?_; clear h73
  refine dk0 9 (v := .string (⟨((([] : List UInt8) ++ putL ts) ++ (putL ((putB c r l : ByteArray).size : Int) ++ (putB c r l : ByteArray).data.toList)).toArray⟩)) h74 rfl rfl ⟨hB71, hk72⟩ fun a75 h75 => ?_; clear h74
  refine dk0 10 (v := .int .i64 0) h75 rfl rfl ⟨hB71, hk72⟩ fun a76 h76 => ?_; clear h75
  refine dr_done (by kernel_rfl) ?_
  refine co_then ?_
  refine wp_ret ?_
  refine co_ret2 h76 rfl rfl rfl ?_
  exact ⟨by rw [putE_ok (by omega), show chkB c r l = 0 by omega]; simp [putEL], hB71⟩
 ·
  rw [hc25] at h24
  have hp77 : chkB c r l ≠ 0 := by first | simpa using hc25 | simpa [and_assoc] using hc25
  clear hc25
  refine co_true h24 rfl ?_
  refine co_seq ?_
  refine co_reg ?_
  refine pk0 (v := .int .i64 (chkB c r l)) h24 rfl fun a78 h78 => ?_; clear h24
  refine pk0 (v := .string (⟨#[]⟩)) h78 rfl fun a79 h79 => ?_; clear h78
  refine pk0 (v := .int .i64 (chkB c r l)) h79 rfl fun a80 h80 => ?_; clear h79
  refine pl_nil ?_
  refine co_then ?_
  refine wp_ret ?_
  refine co_thenR ?_
  refine co_ret2 h80 rfl rfl rfl ?_
  exact ⟨by rw [putE_err (by assumption)], hB26⟩
set_option maxRecDepth 100000 in
theorem ritemPut_any (c : Int) (r : Int) (v : Value) (l : List OpT) (ts : Int) (w : World) (hs : SliceOf opE 3 w v l) (hts : 0 ≤ ts ∧ ts < 18446744073709551616) :
    Calls Tryz.prog 72 #[.agg #[.int .i64 c, .int .i64 r, v, .int .u64 ts]] w fun e w' => e = .returned (.tuple #[.string (putE c r l ts), .int .i64 (chkB c r l)]) ∧ Below w.heap.size w w' := by
 have hsm := putB_small (c := c) (r := r) (l := l)
 have hB0 := Below.refl w.heap.size w
 have hl_hs := sl_len hs
 refine co_enter (n := 29) Tryz.func72 rfl rfl rfl [(0, .agg #[.int .i64 c, .int .i64 r, v, .int .u64 ts])] rfl (fun a h0 => ?_)
 refine co_seq ?_
 refine co_reg ?_
 refine pw h0 rfl (op_new (v := fun N => pt N 0) (T := 52) (cs := #[.int .i64 c, .int .i64 r, v, .int .u64 ts]) (by kernel_rfl) (by kernel_rfl) (by kernel_rfl)) ?_; clear h0
 rintro _ w2 a1 ⟨N3, rfl, hN6, hz7, hk5, hg4⟩ h1
 have hz8 := hg4.size
 try dsimp only at h1
 refine pk0 (v := .string (⟨#[]⟩)) h1 rfl fun a9 h9 => ?_; clear h1
 refine pk0 (v := .int .i64 0) h9 rfl fun a10 h10 => ?_; clear h9
 refine pl_nil ?_
 refine co_then ?_
 refine co_seq ?_
 refine co_reg ?_
 refine pk0 (v := pt N3 0) h10 rfl fun a11 h11 => ?_; clear h10
 refine pk (v := .agg #[.int .i64 c, .int .i64 r, v]) h11 rfl (rn_loadN rfl rfl Tryz.underlying29 rfl (by kernel_rfl) (blk_part hk5 0 (by rfl))) fun a12 h12 => ?_; clear h11
 have hB15 := hb_new hB0 hg4
 refine pw h12 rfl (op_call (args := #[.agg #[.int .i64 c, .int .i64 r, v]]) (R := fun res xw => res = .tuple #[.string (putB c r l), .int .i64 (chkB c r l)] ∧ Below w2.heap.size w2 xw) rfl rfl rfl (by kernel_rfl) (by kernel_rfl) (Tryz.call99 _ _) (ropsPut_any c r v l w2 (hs.below hB15)) (by rintro e x ⟨rfl, hb16⟩; exact ⟨_, rfl, ⟨rfl, hb16⟩⟩)) ?_; clear h12
 rintro _ w14 a13 ⟨rfl, hb16⟩ h13
 have hz17 := hb16.size
 refine pk0 (v := .tuple #[.string (putB c r l), .int .i64 (chkB c r l)]) h13 rfl fun a18 h18 => ?_; clear h13
 refine pk0 (v := .string (putB c r l)) h18 rfl fun a19 h19 => ?_; clear h18
 refine pk0 (v := .int .i64 (chkB c r l)) h19 rfl fun a20 h20 => ?_; clear h19
 refine pk0 (v := .string (putB c r l)) h20 rfl fun a21 h21 => ?_; clear h20
 refine pk0 (v := .int .i64 (chkB c r l)) h21 rfl fun a22 h22 => ?_; clear h21
 refine pl_nil ?_
 refine co_then ?_
 refine co_seq ?_
 refine co_seq ?_
 refine co_reg ?_
 refine pk0 (v := .int .i64 (chkB c r l)) h22 rfl fun a23 h23 => ?_; clear h22
 refine pk0 (v := .bool (chkB c r l != 0)) h23 rfl fun a24 h24 => ?_; clear h23
 refine pl_nil ?_
 refine co_then ?_
 have hB26 := hb_call hB15 hb16
 cases hc25 : (chkB c r l != 0)
 ·
  rw [hc25] at h24
  have hp27 : ¬ (chkB c r l ≠ 0) := by first | simpa using hc25 | simpa [and_assoc] using hc25
  clear hc25
  refine co_false h24 rfl ?_
  refine wp_skip ?_
  refine co_then ?_
  refine co_seq ?_
  refine co_reg ?_
  refine pk0 (v := .agg #[.string (⟨#[]⟩), .int .i64 0]) h24 rfl fun a28 h28 => ?_; clear h24
  refine pw h28 rfl (op_new (v := fun N => pt N 0) (T := 76) (cs := #[.string (⟨#[]⟩), .int .i64 0]) (by kernel_rfl) (by kernel_rfl) (by kernel_rfl)) ?_; clear h28
  rintro _ w30 a29 ⟨N31, rfl, hN34, hz35, hk33, hg32⟩ h29
  have hz36 := hg32.size
  try dsimp only at h29
  refine pk0 (v := pt N31 0) h29 rfl fun a37 h37 => ?_; clear h29
  refine pl_nil ?_
  refine co_then ?_
  refine co_seq ?_
  refine co_reg ?_
  refine pk0 (v := pt N31 0) h37 rfl fun a38 h38 => ?_; clear h37
  refine pk0 (v := pt N3 3) h38 rfl fun a39 h39 => ?_; clear h38
  have hk40 := hk5.below hb16
  have hk41 := hk40.kept hg32 (by simp)
  refine pk (v := .int .u64 ts) h39 rfl (rn_load1 rfl rfl Tryz.isAgg22 (hk41.cell rfl)) fun a42 h42 => ?_; clear h39
  have ho45 := ox_of hk33
  refine pw h42 rfl (op_call (args := #[pt N31 0, .int .u64 ts]) (R := fun res xw => res = .tuple #[] ∧ OX N31 (([] : List UInt8) ++ putL ts) (0 + 9) xw ∧ w30.grownBy xw (some N31)) rfl rfl rfl (by kernel_rfl) (by kernel_rfl) (Tryz.call73 _ _) (ox_big N31 ([]) 0 ts w30 ho45 (by omega) (by omega) (by omega)) (by rintro e x ⟨rfl, h1, h2⟩; exact ⟨_, rfl, rfl, h1, h2⟩)) ?_; clear h42
  rintro _ w44 a43 ⟨rfl, ho46, hx47⟩ h43
  have hz48 := hx47.size
  have hl49 := ho46.lt
  refine pl_nil ?_
  refine co_then ?_
  refine co_seq ?_
  refine co_reg ?_
  refine pk0 (v := pt N31 0) h43 rfl fun a50 h50 => ?_; clear h43
  refine pk0 (v := .string (putB c r l)) h50 rfl fun a51 h51 => ?_; clear h50
  refine pw h51 rfl (op_call (args := #[pt N31 0, .string (putB c r l)]) (R := fun res xw => res = .tuple #[] ∧ OX N31 ((([] : List UInt8) ++ putL ts) ++ (putL ((putB c r l : ByteArray).size : Int) ++ (putB c r l : ByteArray).data.toList)) (0 + 9 + (9 + (putB c r l : ByteArray).size)) xw ∧ w44.grownBy xw (some N31)) rfl rfl rfl (by kernel_rfl) (by kernel_rfl) (Tryz.call71 _ _) (ox_text N31 (([] : List UInt8) ++ putL ts) (0 + 9) (putB c r l) w44 ho46 (by first | omega | (simp; done) | (simp; omega))) (by rintro e x ⟨rfl, h1, h2⟩; exact ⟨_, rfl, rfl, h1, h2⟩)) ?_; clear h51
  rintro _ w53 a52 ⟨rfl, ho54, hx55⟩ h52
  have hz56 := hx55.size
  have hl57 := ho54.lt
  refine pl_nil ?_
  refine co_then ?_
  refine co_seq ?_
  refine co_reg ?_
  refine pk0 (v := pt N31 0) h52 rfl fun a58 h58 => ?_; clear h52
  refine pw h58 rfl (op_call (args := #[pt N31 0]) (R := fun res xw => res = .tuple #[.string (⟨((([] : List UInt8) ++ putL ts) ++ (putL ((putB c r l : ByteArray).size : Int) ++ (putB c r l : ByteArray).data.toList)).toArray⟩), .int .i64 0] ∧ Below w53.heap.size w53 xw) rfl rfl rfl (by kernel_rfl) (by kernel_rfl) (Tryz.call37 _ _) (ox_done N31 ((([] : List UInt8) ++ putL ts) ++ (putL ((putB c r l : ByteArray).size : Int) ++ (putB c r l : ByteArray).data.toList)) (0 + 9 + (9 + (putB c r l : ByteArray).size)) w53 ho54) (by rintro e x ⟨rfl, h2⟩; exact ⟨_, rfl, rfl, h2⟩)) ?_; clear h58
  rintro _ w60 a59 ⟨rfl, hb61⟩ h59
  have hz62 := hb61.size
  refine pk0 (v := .string (⟨((([] : List UInt8) ++ putL ts) ++ (putL ((putB c r l : ByteArray).size : Int) ++ (putB c r l : ByteArray).data.toList)).toArray⟩)) h59 rfl fun a63 h63 => ?_; clear h59
  refine pk0 (v := .int .i64 0) h63 rfl fun a64 h64 => ?_; clear h63
  refine pk0 (v := .string (⟨((([] : List UInt8) ++ putL ts) ++ (putL ((putB c r l : ByteArray).size : Int) ++ (putB c r l : ByteArray).data.toList)).toArray⟩)) h64 rfl fun a65 h65 => ?_; clear h64
  refine pk0 (v := .int .i64 0) h65 rfl fun a66 h66 => ?_; clear h65
  refine pl_nil ?_
  refine co_then ?_
  refine wp_ret ?_
  refine co_ret2 h66 rfl rfl rfl ?_
  have hB67 := hb_new hB26 hg32
  have hB68 := hb_at hB67 hx47 (by omega)
  have hB69 := hb_at hB68 hx55 (by omega)
  have hB70 := hb_call hB69 hb61
  exact ⟨by rw [putE_ok (by omega), show chkB c r l = 0 by omega]; simp [putEL], hB70⟩
 ·
  rw [hc25] at h24
  have hp71 : chkB c r l ≠ 0 := by first | simpa using hc25 | simpa [and_assoc] using hc25
  clear hc25
  refine co_true h24 rfl ?_
  refine co_seq ?_
  refine co_reg ?_
  refine pk0 (v := .int .i64 (chkB c r l)) h24 rfl fun a72 h72 => ?_; clear h24
  refine pk0 (v := .string (⟨#[]⟩)) h72 rfl fun a73 h73 => ?_; clear h72
  refine pk0 (v := .int .i64 (chkB c r l)) h73 rfl fun a74 h74 => ?_; clear h73
  refine pl_nil ?_
  refine co_then ?_
  refine wp_ret ?_
  refine co_thenR ?_
  refine co_ret2 h74 rfl rfl rfl ?_
  exact ⟨by rw [putE_err (by assumption)], hB26⟩
set_option maxRecDepth 100000 in
theorem itemSame_any (c : Int) (r : Int) (v : Value) (l : List OpT) (ts : Int) (c2 : Int) (r2 : Int) (v2 : Value) (l2 : List OpT) (ts2 : Int) (w : World) (hs : SliceOf opE 3 w v l) (hs2 : SliceOf opE 3 w v2 l2) :
    Calls Tryz.prog 90 #[.agg #[.int .i64 c, .int .i64 r, v, .int .u64 ts], .agg #[.int .i64 c2, .int .i64 r2, v2, .int .u64 ts2]] w fun e w' => e = .returned (.bool (sameE c r l ts c2 r2 l2 ts2)) ∧ Below w.heap.size w w' := by
 have hB0 := Below.refl w.heap.size w
 have hl_hs := sl_len hs
 have hl_hs2 := sl_len hs2
 refine co_enter (n := 17) Tryz.func90 rfl rfl rfl [(0, .agg #[.int .i64 c, .int .i64 r, v, .int .u64 ts]), (1, .agg #[.int .i64 c2, .int .i64 r2, v2, .int .u64 ts2])] rfl (fun a h0 => ?_)
 refine co_seq ?_
 refine co_reg ?_
 refine pw h0 rfl (op_new (v := fun N => pt N 0) (T := 52) (cs := #[.int .i64 c, .int .i64 r, v, .int .u64 ts]) (by kernel_rfl) (by kernel_rfl) (by kernel_rfl)) ?_; clear h0
 rintro _ w2 a1 ⟨N3, rfl, hN6, hz7, hk5, hg4⟩ h1
 have hz8 := hg4.size
 try dsimp only at h1
 refine pw h1 rfl (op_new (v := fun N => pt N 0) (T := 52) (cs := #[.int .i64 c2, .int .i64 r2, v2, .int .u64 ts2]) (by kernel_rfl) (by kernel_rfl) (by kernel_rfl)) ?_; clear h1
 rintro _ w10 a9 ⟨N11, rfl, hN14, hz15, hk13, hg12⟩ h9
 have hz16 := hg12.size
 try dsimp only at h9
 refine pk0 (v := .bool false) h9 rfl fun a17 h17 => ?_; clear h9
 refine pl_nil ?_
 refine co_then ?_
 refine co_seq ?_
 refine co_reg ?_
 refine pk0 (v := pt N3 3) h17 rfl fun a18 h18 => ?_; clear h17
 have hk19 := hk5.kept hg12 (by simp)
 refine pk (v := .int .u64 ts) h18 rfl (rn_load1 rfl rfl Tryz.isAgg22 (hk19.cell rfl)) fun a20 h20 => ?_; clear h18
 refine pk0 (v := pt N11 3) h20 rfl fun a21 h21 => ?_; clear h20
 refine pk (v := .int .u64 ts2) h21 rfl (rn_load1 rfl rfl Tryz.isAgg22 (hk13.cell rfl)) fun a22 h22 => ?_; clear h21
 refine pk0 (v := .bool (ts == ts2)) h22 rfl fun a23 h23 => ?_; clear h22
 refine pk0 (v := .bool (ts == ts2)) h23 rfl fun a24 h24 => ?_; clear h23
 have hB26 := hb_new hB0 hg4
 have hB27 := hb_new hB26 hg12
 cases hc25 : (ts == ts2)
 ·
  rw [hc25] at h24
  have hp28 : ¬ (ts = ts2) := by first | simpa using hc25 | simpa [and_assoc] using hc25
  clear hc25
  refine psk h24 rfl fun a29 h29 => ?_; clear h24
  refine psk h29 rfl fun a30 h30 => ?_; clear h29
  refine psk h30 rfl fun a31 h31 => ?_; clear h30
  refine psk h31 rfl fun a32 h32 => ?_; clear h31
  refine psk h32 rfl fun a33 h33 => ?_; clear h32
  refine pk0 (v := .bool false) h33 rfl fun a34 h34 => ?_; clear h33
  refine pk0 (v := .bool false) h34 rfl fun a35 h35 => ?_; clear h34
  refine pl_nil ?_
  refine co_then ?_
  refine wp_ret ?_
  refine co_ret1 h35 rfl rfl ?_
  exact ⟨ret_bool (sameE_n (by omega)), hB27⟩
 ·
  rw [hc25] at h24
  have hp36 : ts = ts2 := by first | simpa using hc25 | simpa [and_assoc] using hc25
  clear hc25
  refine pk0 (v := pt N3 0) h24 rfl fun a37 h37 => ?_; clear h24
  refine pk (v := .agg #[.int .i64 c, .int .i64 r, v]) h37 rfl (rn_loadN rfl rfl Tryz.underlying29 rfl (by kernel_rfl) (blk_part hk19 0 (by rfl))) fun a38 h38 => ?_; clear h37
  refine pk0 (v := pt N11 0) h38 rfl fun a39 h39 => ?_; clear h38
  refine pk (v := .agg #[.int .i64 c2, .int .i64 r2, v2]) h39 rfl (rn_loadN rfl rfl Tryz.underlying29 rfl (by kernel_rfl) (blk_part hk13 0 (by rfl))) fun a40 h40 => ?_; clear h39
  refine pw h40 rfl (op_call (args := #[.agg #[.int .i64 c, .int .i64 r, v], .agg #[.int .i64 c2, .int .i64 r2, v2]]) (R := fun res xw => res = .bool (sameB c r l c2 r2 l2) ∧ Below w10.heap.size w10 xw) rfl rfl rfl (by kernel_rfl) (by kernel_rfl) (Tryz.call112 _ _) (opsSame_any c r v l c2 r2 v2 l2 w10 (hs.below hB27) (hs2.below hB27)) (by rintro e x ⟨rfl, hb43⟩; exact ⟨_, rfl, ⟨rfl, hb43⟩⟩)) ?_; clear h40
  rintro _ w42 a41 ⟨rfl, hb43⟩ h41
  have hz44 := hb43.size
  refine pk0 (v := .bool (sameB c r l c2 r2 l2)) h41 rfl fun a45 h45 => ?_; clear h41
  refine pk0 (v := .bool (sameB c r l c2 r2 l2)) h45 rfl fun a46 h46 => ?_; clear h45
  refine pl_nil ?_
  refine co_then ?_
  refine wp_ret ?_
  refine co_ret1 h46 rfl rfl ?_
  have hB47 := hb_call hB27 hb43
  exact ⟨ret_bool (sameE_y (by omega)), hB47⟩
set_option maxRecDepth 100000 in
theorem ritemSame_any (c : Int) (r : Int) (v : Value) (l : List OpT) (ts : Int) (c2 : Int) (r2 : Int) (v2 : Value) (l2 : List OpT) (ts2 : Int) (w : World) (hs : SliceOf opE 3 w v l) (hs2 : SliceOf opE 3 w v2 l2) :
    Calls Tryz.prog 85 #[.agg #[.int .i64 c, .int .i64 r, v, .int .u64 ts], .agg #[.int .i64 c2, .int .i64 r2, v2, .int .u64 ts2]] w fun e w' => e = .returned (.bool (sameE c r l ts c2 r2 l2 ts2)) ∧ Below w.heap.size w w' := by
 have hB0 := Below.refl w.heap.size w
 have hl_hs := sl_len hs
 have hl_hs2 := sl_len hs2
 refine co_enter (n := 17) Tryz.func85 rfl rfl rfl [(0, .agg #[.int .i64 c, .int .i64 r, v, .int .u64 ts]), (1, .agg #[.int .i64 c2, .int .i64 r2, v2, .int .u64 ts2])] rfl (fun a h0 => ?_)
 refine co_seq ?_
 refine co_reg ?_
 refine pw h0 rfl (op_new (v := fun N => pt N 0) (T := 52) (cs := #[.int .i64 c, .int .i64 r, v, .int .u64 ts]) (by kernel_rfl) (by kernel_rfl) (by kernel_rfl)) ?_; clear h0
 rintro _ w2 a1 ⟨N3, rfl, hN6, hz7, hk5, hg4⟩ h1
 have hz8 := hg4.size
 try dsimp only at h1
 refine pw h1 rfl (op_new (v := fun N => pt N 0) (T := 52) (cs := #[.int .i64 c2, .int .i64 r2, v2, .int .u64 ts2]) (by kernel_rfl) (by kernel_rfl) (by kernel_rfl)) ?_; clear h1
 rintro _ w10 a9 ⟨N11, rfl, hN14, hz15, hk13, hg12⟩ h9
 have hz16 := hg12.size
 try dsimp only at h9
 refine pk0 (v := .bool false) h9 rfl fun a17 h17 => ?_; clear h9
 refine pl_nil ?_
 refine co_then ?_
 refine co_seq ?_
 refine co_reg ?_
 refine pk0 (v := pt N3 3) h17 rfl fun a18 h18 => ?_; clear h17
 have hk19 := hk5.kept hg12 (by simp)
 refine pk (v := .int .u64 ts) h18 rfl (rn_load1 rfl rfl Tryz.isAgg22 (hk19.cell rfl)) fun a20 h20 => ?_; clear h18
 refine pk0 (v := pt N11 3) h20 rfl fun a21 h21 => ?_; clear h20
 refine pk (v := .int .u64 ts2) h21 rfl (rn_load1 rfl rfl Tryz.isAgg22 (hk13.cell rfl)) fun a22 h22 => ?_; clear h21
 refine pk0 (v := .bool (ts == ts2)) h22 rfl fun a23 h23 => ?_; clear h22
 refine pk0 (v := .bool (ts == ts2)) h23 rfl fun a24 h24 => ?_; clear h23
 have hB26 := hb_new hB0 hg4
 have hB27 := hb_new hB26 hg12
 cases hc25 : (ts == ts2)
 ·
  rw [hc25] at h24
  have hp28 : ¬ (ts = ts2) := by first | simpa using hc25 | simpa [and_assoc] using hc25
  clear hc25
  refine psk h24 rfl fun a29 h29 => ?_; clear h24
  refine psk h29 rfl fun a30 h30 => ?_; clear h29
  refine psk h30 rfl fun a31 h31 => ?_; clear h30
  refine psk h31 rfl fun a32 h32 => ?_; clear h31
  refine psk h32 rfl fun a33 h33 => ?_; clear h32
  refine pk0 (v := .bool false) h33 rfl fun a34 h34 => ?_; clear h33
  refine pk0 (v := .bool false) h34 rfl fun a35 h35 => ?_; clear h34
  refine pl_nil ?_
  refine co_then ?_
  refine wp_ret ?_
  refine co_ret1 h35 rfl rfl ?_
  exact ⟨ret_bool (sameE_n (by omega)), hB27⟩
 ·
  rw [hc25] at h24
  have hp36 : ts = ts2 := by first | simpa using hc25 | simpa [and_assoc] using hc25
  clear hc25
  refine pk0 (v := pt N3 0) h24 rfl fun a37 h37 => ?_; clear h24
  refine pk (v := .agg #[.int .i64 c, .int .i64 r, v]) h37 rfl (rn_loadN rfl rfl Tryz.underlying29 rfl (by kernel_rfl) (blk_part hk19 0 (by rfl))) fun a38 h38 => ?_; clear h37
  refine pk0 (v := pt N11 0) h38 rfl fun a39 h39 => ?_; clear h38
  refine pk (v := .agg #[.int .i64 c2, .int .i64 r2, v2]) h39 rfl (rn_loadN rfl rfl Tryz.underlying29 rfl (by kernel_rfl) (blk_part hk13 0 (by rfl))) fun a40 h40 => ?_; clear h39
  refine pw h40 rfl (op_call (args := #[.agg #[.int .i64 c, .int .i64 r, v], .agg #[.int .i64 c2, .int .i64 r2, v2]]) (R := fun res xw => res = .bool (sameB c r l c2 r2 l2) ∧ Below w10.heap.size w10 xw) rfl rfl rfl (by kernel_rfl) (by kernel_rfl) (Tryz.call42 _ _) (ropsSame_any c r v l c2 r2 v2 l2 w10 (hs.below hB27) (hs2.below hB27)) (by rintro e x ⟨rfl, hb43⟩; exact ⟨_, rfl, ⟨rfl, hb43⟩⟩)) ?_; clear h40
  rintro _ w42 a41 ⟨rfl, hb43⟩ h41
  have hz44 := hb43.size
  refine pk0 (v := .bool (sameB c r l c2 r2 l2)) h41 rfl fun a45 h45 => ?_; clear h41
  refine pk0 (v := .bool (sameB c r l c2 r2 l2)) h45 rfl fun a46 h46 => ?_; clear h45
  refine pl_nil ?_
  refine co_then ?_
  refine wp_ret ?_
  refine co_ret1 h46 rfl rfl ?_
  have hB47 := hb_call hB27 hb43
  exact ⟨ret_bool (sameE_y (by omega)), hB47⟩
-- left out here






































-- left out here






































































-- left out here



































































set_option maxRecDepth 100000 in
theorem itemOf_any (s : ByteArray) (c : Int) (r : Int) (l : List OpT) (ts : Int) (x : Int) (w : World) (hsz : s.size ≤ 9223372036854775807) (hof : ofE s = ((c, r, l, ts), x)) :
    Calls Tryz.prog 155 #[.string s] w fun e w' => ∃ (u : Value), e = .returned (.tuple #[.agg #[.int .i64 c, .int .i64 r, u, .int .u64 ts], .int .i64 x]) ∧ w'.ownsRow w.heap.size 159 3 u l.length (l.flatMap opE) ∧ Below w.heap.size w w' := by
 have hB0 := Below.refl w.heap.size w
 refine co_enter (n := 34) Tryz.func155 rfl rfl rfl [(0, .string s)] rfl (fun a h0 => ?_)
 refine co_seq ?_
 refine co_reg ?_
 refine pw h0 rfl (op_new (v := fun N => pt N 0) (T := 52) (cs := #[.int .i64 0, .int .i64 0, .slice none 0 0, .int .u64 0]) (by kernel_rfl) (by kernel_rfl) (by kernel_rfl)) ?_; clear h0
 rintro _ w2 a1 ⟨N3, rfl, hN6, hz7, hk5, hg4⟩ h1
 have hz8 := hg4.size
 try dsimp only at h1
 refine pk0 (v := .int .i64 0) h1 rfl fun a9 h9 => ?_; clear h1
 refine pl_nil ?_
 refine co_then ?_
 refine co_seq ?_
 refine co_reg ?_
 refine pk0 (v := .string s) h9 rfl fun a10 h10 => ?_; clear h9
 refine pw h10 rfl (op_call (args := #[.string s]) (R := fun res xw => ∃ b : Nat, res = pt b 0 ∧ b = w2.heap.size ∧ OR b s 0 0 xw ∧ Below w2.heap.size w2 xw) rfl rfl rfl (by kernel_rfl) (by kernel_rfl) (Tryz.call57 _ _) (or_open s w2) (by rintro e x ⟨b, rfl, h0, h1, h2⟩; exact ⟨_, rfl, b, rfl, h0, h1, h2⟩)) ?_; clear h10
 rintro _ w12 a11 ⟨b13, rfl, hN14, ho15, hb16⟩ h11
 have hz17 := hb16.size
 have hl18 := ho15.lt
 refine pk0 (v := pt b13 0) h11 rfl fun a19 h19 => ?_; clear h11
 refine pl_nil ?_
 refine co_then ?_
 refine co_seq ?_
 refine co_reg ?_
 refine pk0 (v := pt b13 0) h19 rfl fun a20 h20 => ?_; clear h19
 refine pw h20 rfl (op_call (args := #[pt b13 0]) (R := fun res xw => ∃ (n : Int) (a' e' : Int), res = .int .u64 n ∧ bigR s 0 0 = (n, a', e') ∧ 0 ≤ n ∧ n < 18446744073709551616 ∧ OR b13 s a' e' xw ∧ w12.grownBy xw (some b13)) rfl rfl rfl (by kernel_rfl) (by kernel_rfl) (Tryz.call120 _ _) (or_big b13 s 0 0 w12 ho15 (by omega)) (by rintro q x ⟨n, a', e', rfl, h0, k0, k1, h1, h2⟩; exact ⟨_, rfl, n, a', e', rfl, h0, k0, k1, h1, h2⟩)) ?_; clear h20
 rintro _ w22 a21 ⟨n23, a24, e25, rfl, hq26, hn27, hm28, ho29, hg30⟩ h21
 have hz31 := hg30.size
 have hl32 := ho29.lt
 refine pk0 (v := pt b13 0) h21 rfl fun a33 h33 => ?_; clear h21
 refine pw h33 rfl (op_call (args := #[pt b13 0, .int .i64 65536]) (R := fun res xw => ∃ (n : ByteArray) (a' e' : Int), res = .string n ∧ textR s a24 e25 65536 = (n, a', e') ∧ (n.size : Int) ≤ 65536 ∧ OR b13 s a' e' xw ∧ w22.grownBy xw (some b13)) rfl rfl rfl (by kernel_rfl) (by kernel_rfl) (Tryz.call121 _ _) (or_text b13 s a24 e25 65536 w22 ho29 (by omega) (by omega) (by omega)) (by rintro q x ⟨n, a', e', rfl, h0, k0, h1, h2⟩; exact ⟨_, rfl, n, a', e', rfl, h0, k0, h1, h2⟩)) ?_; clear h33
 rintro _ w35 a34 ⟨n36, a37, e38, rfl, hq39, hn40, ho42, hg43⟩ h34
 have hz44 := hg43.size
 have hl45 := ho42.lt
 refine pk0 (v := .int .u64 n23) h34 rfl fun a46 h46 => ?_; clear h34
 refine pk0 (v := .string n36) h46 rfl fun a47 h47 => ?_; clear h46
 refine pl_nil ?_
 refine co_then ?_
 refine co_seq ?_
 refine co_seq ?_
 refine co_reg ?_
 refine pk0 (v := pt b13 0) h47 rfl fun a48 h48 => ?_; clear h47
 refine pw h48 rfl (op_call (args := #[pt b13 0]) (R := fun res xw => ∃ r : Int, res = .int .i64 r ∧ endV s a37.toNat e38 = r ∧ Below w35.heap.size w35 xw) rfl rfl rfl (by kernel_rfl) (by kernel_rfl) (Tryz.call61 _ _) (or_end b13 s a37 e38 w35 ho42 (by omega)) (by rintro e x ⟨r, rfl, h0, h2⟩; exact ⟨_, rfl, r, rfl, h0, h2⟩)) ?_; clear h48
 rintro _ w50 a49 ⟨r51, rfl, hq52, hb53⟩ h49
 have hz54 := hb53.size
 refine pk0 (v := .int .i64 r51) h49 rfl fun a55 h55 => ?_; clear h49
 refine pl_nil ?_
 refine co_then ?_
 refine co_seq ?_
 refine co_reg ?_
 refine pk0 (v := .int .i64 r51) h55 rfl fun a56 h56 => ?_; clear h55
 refine pk0 (v := .bool (r51 != 0)) h56 rfl fun a57 h57 => ?_; clear h56
 refine pl_nil ?_
 refine co_then ?_
 have hB59 := hb_new hB0 hg4
 have hB60 := hb_call hB59 hb16
 have hB61 := hb_at hB60 hg30 (by omega)
 have hB62 := hb_at hB61 hg43 (by omega)
 have hB63 := hb_call hB62 hb53
 have hk64 := hk5.below hb16
 have hk65 := hk64.kept hg30 (by simp; omega)
 have hk66 := hk65.kept hg43 (by simp; omega)
 have hk67 := hk66.below hb53
 cases hc58 : (r51 != 0)
 ·
  rw [hc58] at h57
  have hp68 : ¬ (r51 ≠ 0) := by first | simpa using hc58 | simpa [and_assoc] using hc58
  clear hc58
  refine co_false h57 rfl ?_
  refine wp_skip ?_
  refine co_then ?_
  refine co_seq ?_
  refine co_reg ?_
  refine pk0 (v := .string n36) h57 rfl fun a69 h69 => ?_; clear h57
  refine pw h69 rfl (op_call (args := #[.string n36]) (R := fun res xw => ∃ u : Value, res = .tuple #[.agg #[.int .i64 ((ofB n36).1.1), .int .i64 ((ofB n36).1.2.1), u], .int .i64 ((ofB n36).2)] ∧ xw.ownsRow w50.heap.size 159 3 u ((ofB n36).1.2.2).length (((ofB n36).1.2.2).flatMap opE) ∧ Below w50.heap.size w50 xw) rfl rfl rfl (by kernel_rfl) (by kernel_rfl) (Tryz.call125 _ _) (opsOf_any n36 ((ofB n36).1.1) ((ofB n36).1.2.1) ((ofB n36).1.2.2) ((ofB n36).2) w50 (by first | omega | (simp; done) | (simp; omega)) rfl) (by rintro e x ⟨u, rfl, hq73, hb74⟩; exact ⟨_, rfl, ⟨u, rfl, hq73, hb74⟩⟩)) ?_; clear h69
  rintro _ w71 a70 ⟨u72, rfl, hq73, hb74⟩ h70
  have hz75 := hb74.size
  have hl76 := sl_len (row_sl hq73 opE_len)
  refine pk0 (v := .tuple #[.agg #[.int .i64 ((ofB n36).1.1), .int .i64 ((ofB n36).1.2.1), u72], .int .i64 ((ofB n36).2)]) h70 rfl fun a77 h77 => ?_; clear h70
  refine pk0 (v := .agg #[.int .i64 ((ofB n36).1.1), .int .i64 ((ofB n36).1.2.1), u72]) h77 rfl fun a78 h78 => ?_; clear h77
  refine pk0 (v := .int .i64 ((ofB n36).2)) h78 rfl fun a79 h79 => ?_; clear h78
  refine pw h79 rfl (op_new (v := fun N => pt N 0) (T := 29) (cs := #[.int .i64 0, .int .i64 0, .slice none 0 0]) (by kernel_rfl) (by kernel_rfl) (by kernel_rfl)) ?_; clear h79
  rintro _ w81 a80 ⟨N82, rfl, hN85, hz86, hk84, hg83⟩ h80
  have ha87 := row_fresh hq73 hN85
  have hz88 := hg83.size
  try dsimp only at h80
  have hr94 := row_kept_new hq73 hg83
  refine pwD h80 rfl (op_storeN rfl rfl rfl (all_cons rfl (all_cons rfl (all_cons (row_one hr94) all_nil))) (by kernel_rfl) hk84 rfl) ?_; clear h80
  rintro _ w90 a89 ⟨hk91, hz92, hg93⟩ h89
  have hk91' : Blk w90 N82 29 #[.int .i64 ((ofB n36).1.1), .int .i64 ((ofB n36).1.2.1), u72] := hk91; clear hk91
  have hz95 := hg93.size
  refine pk0 (v := .int .i64 ((ofB n36).2)) h89 rfl fun a96 h96 => ?_; clear h89
  refine pl_nil ?_
  refine co_then ?_
  refine co_seq ?_
  refine co_seq ?_
  refine co_reg ?_
  refine pk0 (v := .int .i64 ((ofB n36).2)) h96 rfl fun a97 h97 => ?_; clear h96
  refine pk0 (v := .bool (((ofB n36).2) != 0)) h97 rfl fun a98 h98 => ?_; clear h97
  refine pl_nil ?_
  refine co_then ?_
  have hB100 := hb_call hB63 hb74
  have hB101 := hb_new hB100 hg83
  have hB102 := hb_at hB101 hg93 (by omega)
  have hk103 := hk67.below hb74
  have hk104 := hk103.kept hg83 (by simp)
  have hk105 := hk104.kept hg93 (by simp; omega)
  have ho106 := ho42.below hb53
  have ho107 := ho106.below hb74
  have ho108 := ho107.new hg83
  have ho109 := ho108.at (by omega) hg93
  cases hc99 : (((ofB n36).2) != 0)
  ·
   rw [hc99] at h98
   have hp110 : ¬ (((ofB n36).2) ≠ 0) := by first | simpa using hc99 | simpa [and_assoc] using hc99
   clear hc99
   refine co_false h98 rfl ?_
   refine wp_skip ?_
   refine co_then ?_
   refine co_seq ?_
   refine co_reg ?_
   refine pk (v := .agg #[.int .i64 ((ofB n36).1.1), .int .i64 ((ofB n36).1.2.1), u72]) h98 rfl (rn_loadN rfl rfl Tryz.underlying29 rfl (by kernel_rfl) hk91'.all) fun a111 h111 => ?_; clear h98
   refine pk0 (v := .int .u64 n23) h111 rfl fun a112 h112 => ?_; clear h111
   refine pk0 (v := .agg #[.int .i64 ((ofB n36).1.1), .int .i64 ((ofB n36).1.2.1), u72, .int .u64 n23]) h112 rfl fun a113 h113 => ?_; clear h112
   have hr119 := row_kept_at hr94 hg93 (ha87)
   refine pwD h113 rfl (op_storeN rfl rfl rfl (all_cons rfl (all_cons rfl (all_cons (row_one hr119) (all_cons rfl all_nil)))) (by kernel_rfl) hk105 rfl) ?_; clear h113
   rintro _ w115 a114 ⟨hk116, hz117, hg118⟩ h114
   have hk116' : Blk w115 N3 52 #[.int .i64 ((ofB n36).1.1), .int .i64 ((ofB n36).1.2.1), u72, .int .u64 n23] := hk116; clear hk116
   have hz120 := hg118.size
   refine pk0 (v := .int .i64 0) h114 rfl fun a121 h121 => ?_; clear h114
   refine pl_nil ?_
   refine co_then ?_
   refine wp_ret ?_
   refine co_retC1 (Q := fun _ _ _ => True) h121 rfl rfl rfl hk116' Tryz.underlying52 rfl (by kernel_rfl) ?_
   have hr122 := row_kept_at hr119 hg118 (row_ne_lt hr119 (by omega))
   have hB123 := hb_at hB102 hg118 (by omega)
   cases hof.symm.trans ((ofE_at hq26 hq39 hq52).trans (ofEndE_c (by assumption) (by assumption)))
   exact ⟨_, rfl, (row_lows hr122 (by omega)), hB123⟩
  ·
   rw [hc99] at h98
   have hp124 : ((ofB n36).2) ≠ 0 := by first | simpa using hc99 | simpa [and_assoc] using hc99
   clear hc99
   refine co_true h98 rfl ?_
   refine co_seq ?_
   refine co_reg ?_
   refine pk0 (v := .agg #[.int .i64 0, .int .i64 0, .slice none 0 0, .int .u64 0]) h98 rfl fun a125 h125 => ?_; clear h98
   refine pk0 (v := .int .i64 ((ofB n36).2)) h125 rfl fun a126 h126 => ?_; clear h125
   refine pwD h126 rfl (op_storeN rfl rfl rfl (all_cons rfl (all_cons rfl (all_cons rfl (all_cons rfl all_nil)))) (by kernel_rfl) hk105 rfl) ?_; clear h126
   rintro _ w128 a127 ⟨hk129, hz130, hg131⟩ h127
   have hk129' : Blk w128 N3 52 #[.int .i64 0, .int .i64 0, .slice none 0 0, .int .u64 0] := hk129; clear hk129
   have hz132 := hg131.size
   refine pk0 (v := .int .i64 ((ofB n36).2)) h127 rfl fun a133 h133 => ?_; clear h127
   refine pl_nil ?_
   refine co_then ?_
   refine wp_ret ?_
   refine co_thenR ?_
   refine co_retC1 (Q := fun _ _ _ => True) h133 rfl rfl rfl hk129' Tryz.underlying52 rfl (by kernel_rfl) ?_
   have hB134 := hb_at hB102 hg131 (by omega)
   cases hof.symm.trans ((ofE_at hq26 hq39 hq52).trans (ofEndE_b (by assumption) (by assumption)))
   exact ⟨_, rfl, (row_nilL _ _ _ _ _), hB134⟩
 ·
  rw [hc58] at h57
  have hp135 : r51 ≠ 0 := by first | simpa using hc58 | simpa [and_assoc] using hc58
  clear hc58
  refine co_true h57 rfl ?_
  refine co_seq ?_
  refine co_reg ?_
  refine pk0 (v := .agg #[.int .i64 0, .int .i64 0, .slice none 0 0, .int .u64 0]) h57 rfl fun a136 h136 => ?_; clear h57
  refine pk0 (v := .int .i64 r51) h136 rfl fun a137 h137 => ?_; clear h136
  refine pwD h137 rfl (op_storeN rfl rfl rfl (all_cons rfl (all_cons rfl (all_cons rfl (all_cons rfl all_nil)))) (by kernel_rfl) hk67 rfl) ?_; clear h137
  rintro _ w139 a138 ⟨hk140, hz141, hg142⟩ h138
  have hk140' : Blk w139 N3 52 #[.int .i64 0, .int .i64 0, .slice none 0 0, .int .u64 0] := hk140; clear hk140
  have hz143 := hg142.size
  refine pk0 (v := .int .i64 r51) h138 rfl fun a144 h144 => ?_; clear h138
  refine pl_nil ?_
  refine co_then ?_
  refine wp_ret ?_
  refine co_thenR ?_
  refine co_retC1 (Q := fun _ _ _ => True) h144 rfl rfl rfl hk140' Tryz.underlying52 rfl (by kernel_rfl) ?_
  have hB145 := hb_at hB63 hg142 (by omega)
  cases hof.symm.trans ((ofE_at hq26 hq39 hq52).trans (ofEndE_a (by assumption)))
  exact ⟨_, rfl, (row_nilL _ _ _ _ _), hB145⟩
set_option maxRecDepth 100000 in
theorem ritemOf_any (s : ByteArray) (c : Int) (r : Int) (l : List OpT) (ts : Int) (x : Int) (w : World) (hsz : s.size ≤ 9223372036854775807) (hof : ofE s = ((c, r, l, ts), x)) :
    Calls Tryz.prog 159 #[.string s] w fun e w' => ∃ (u : Value), e = .returned (.tuple #[.agg #[.int .i64 c, .int .i64 r, u, .int .u64 ts], .int .i64 x]) ∧ w'.ownsRow w.heap.size 159 3 u l.length (l.flatMap opE) ∧ Below w.heap.size w w' := by
 have hB0 := Below.refl w.heap.size w
 refine co_enter (n := 35) Tryz.func159 rfl rfl rfl [(0, .string s)] rfl (fun a h0 => ?_)
 refine co_seq ?_
 refine co_reg ?_
 refine pw h0 rfl (op_new (v := fun N => pt N 0) (T := 52) (cs := #[.int .i64 0, .int .i64 0, .slice none 0 0, .int .u64 0]) (by kernel_rfl) (by kernel_rfl) (by kernel_rfl)) ?_; clear h0
 rintro _ w2 a1 ⟨N3, rfl, hN6, hz7, hk5, hg4⟩ h1
 have hz8 := hg4.size
 try dsimp only at h1
 refine pk0 (v := .int .i64 0) h1 rfl fun a9 h9 => ?_; clear h1
 refine pl_nil ?_
 refine co_then ?_
 refine co_seq ?_
 refine co_reg ?_
 refine pk0 (v := .string s) h9 rfl fun a10 h10 => ?_; clear h9
 refine pk0 (v := .agg #[.string s, .int .i64 0, .int .i64 0]) h10 rfl fun a11 h11 => ?_; clear h10
 refine pw h11 rfl (op_new (v := fun N => pt N 0) (T := 110) (cs := #[.string s, .int .i64 0, .int .i64 0]) (by kernel_rfl) (by kernel_rfl) (by kernel_rfl)) ?_; clear h11
 rintro _ w13 a12 ⟨N14, rfl, hN17, hz18, hk16, hg15⟩ h12
 have hz19 := hg15.size
 try dsimp only at h12
 refine pk0 (v := pt N14 0) h12 rfl fun a20 h20 => ?_; clear h12
 refine pl_nil ?_
 refine co_then ?_
 refine co_seq ?_
 refine co_reg ?_
 refine pk0 (v := pt N14 0) h20 rfl fun a21 h21 => ?_; clear h20
 have ho24 := oxr_of hk16
 refine pw h21 rfl (op_call (args := #[pt N14 0]) (R := fun res xw => ∃ (n : Int) (a' e' : Int), res = .int .u64 n ∧ bigR s 0 0 = (n, a', e') ∧ 0 ≤ n ∧ n < 18446744073709551616 ∧ OXR N14 s a' e' xw ∧ w13.grownBy xw (some N14)) rfl rfl rfl (by kernel_rfl) (by kernel_rfl) (Tryz.call128 _ _) (oxr_big N14 s 0 0 w13 ho24 (by omega)) (by rintro q x ⟨n, a', e', rfl, h0, k0, k1, h1, h2⟩; exact ⟨_, rfl, n, a', e', rfl, h0, k0, k1, h1, h2⟩)) ?_; clear h21
 rintro _ w23 a22 ⟨n25, a26, e27, rfl, hq28, hn29, hm30, ho31, hg32⟩ h22
 have hz33 := hg32.size
 have hl34 := ho31.lt
 refine pk0 (v := .int .u64 n25) h22 rfl fun a35 h35 => ?_; clear h22
 refine pl_nil ?_
 refine co_then ?_
 refine co_seq ?_
 refine co_reg ?_
 refine pk0 (v := pt N14 0) h35 rfl fun a36 h36 => ?_; clear h35
 refine pw h36 rfl (op_call (args := #[pt N14 0, .int .i64 65536]) (R := fun res xw => ∃ (n : ByteArray) (a' e' : Int), res = .string n ∧ textR s a26 e27 65536 = (n, a', e') ∧ (n.size : Int) ≤ 65536 ∧ OXR N14 s a' e' xw ∧ w23.grownBy xw (some N14)) rfl rfl rfl (by kernel_rfl) (by kernel_rfl) (Tryz.call130 _ _) (oxr_text N14 s a26 e27 65536 w23 ho31 (by omega) (by omega) (by omega)) (by rintro q x ⟨n, a', e', rfl, h0, k0, h1, h2⟩; exact ⟨_, rfl, n, a', e', rfl, h0, k0, h1, h2⟩)) ?_; clear h36
 rintro _ w38 a37 ⟨n39, a40, e41, rfl, hq42, hn43, ho45, hg46⟩ h37
 have hz47 := hg46.size
 have hl48 := ho45.lt
 refine pk0 (v := .string n39) h37 rfl fun a49 h49 => ?_; clear h37
 refine pl_nil ?_
 refine co_then ?_
 refine co_seq ?_
 refine co_seq ?_
 refine co_reg ?_
 refine pk0 (v := pt N14 0) h49 rfl fun a50 h50 => ?_; clear h49
 refine pw h50 rfl (op_call (args := #[pt N14 0]) (R := fun res xw => ∃ r : Int, res = .int .i64 r ∧ endV s a40.toNat e41 = r ∧ Below w38.heap.size w38 xw) rfl rfl rfl (by kernel_rfl) (by kernel_rfl) (Tryz.call64 _ _) (oxr_end N14 s a40 e41 w38 ho45 (by omega)) (by rintro e x ⟨r, rfl, h0, h2⟩; exact ⟨_, rfl, r, rfl, h0, h2⟩)) ?_; clear h50
 rintro _ w52 a51 ⟨r53, rfl, hq54, hb55⟩ h51
 have hz56 := hb55.size
 refine pk0 (v := .int .i64 r53) h51 rfl fun a57 h57 => ?_; clear h51
 refine pl_nil ?_
 refine co_then ?_
 refine co_seq ?_
 refine co_reg ?_
 refine pk0 (v := .int .i64 r53) h57 rfl fun a58 h58 => ?_; clear h57
 refine pk0 (v := .bool (r53 != 0)) h58 rfl fun a59 h59 => ?_; clear h58
 refine pl_nil ?_
 refine co_then ?_
 have hB61 := hb_new hB0 hg4
 have hB62 := hb_new hB61 hg15
 have hB63 := hb_at hB62 hg32 (by omega)
 have hB64 := hb_at hB63 hg46 (by omega)
 have hB65 := hb_call hB64 hb55
 have hk66 := hk5.kept hg15 (by simp)
 have hk67 := hk66.kept hg32 (by simp; omega)
 have hk68 := hk67.kept hg46 (by simp; omega)
 have hk69 := hk68.below hb55
 cases hc60 : (r53 != 0)
 ·
  rw [hc60] at h59
  have hp70 : ¬ (r53 ≠ 0) := by first | simpa using hc60 | simpa [and_assoc] using hc60
  clear hc60
  refine co_false h59 rfl ?_
  refine wp_skip ?_
  refine co_then ?_
  refine co_seq ?_
  refine co_reg ?_
  refine pk0 (v := .string n39) h59 rfl fun a71 h71 => ?_; clear h59
  refine pw h71 rfl (op_call (args := #[.string n39]) (R := fun res xw => ∃ u : Value, res = .tuple #[.agg #[.int .i64 ((ofB n39).1.1), .int .i64 ((ofB n39).1.2.1), u], .int .i64 ((ofB n39).2)] ∧ xw.ownsRow w52.heap.size 159 3 u ((ofB n39).1.2.2).length (((ofB n39).1.2.2).flatMap opE) ∧ Below w52.heap.size w52 xw) rfl rfl rfl (by kernel_rfl) (by kernel_rfl) (Tryz.call158 _ _) (ropsOf_any n39 ((ofB n39).1.1) ((ofB n39).1.2.1) ((ofB n39).1.2.2) ((ofB n39).2) w52 (by first | omega | (simp; done) | (simp; omega)) rfl) (by rintro e x ⟨u, rfl, hq75, hb76⟩; exact ⟨_, rfl, ⟨u, rfl, hq75, hb76⟩⟩)) ?_; clear h71
  rintro _ w73 a72 ⟨u74, rfl, hq75, hb76⟩ h72
  have hz77 := hb76.size
  have hl78 := sl_len (row_sl hq75 opE_len)
  refine pk0 (v := .tuple #[.agg #[.int .i64 ((ofB n39).1.1), .int .i64 ((ofB n39).1.2.1), u74], .int .i64 ((ofB n39).2)]) h72 rfl fun a79 h79 => ?_; clear h72
  refine pk0 (v := .agg #[.int .i64 ((ofB n39).1.1), .int .i64 ((ofB n39).1.2.1), u74]) h79 rfl fun a80 h80 => ?_; clear h79
  refine pk0 (v := .int .i64 ((ofB n39).2)) h80 rfl fun a81 h81 => ?_; clear h80
  refine pw h81 rfl (op_new (v := fun N => pt N 0) (T := 29) (cs := #[.int .i64 0, .int .i64 0, .slice none 0 0]) (by kernel_rfl) (by kernel_rfl) (by kernel_rfl)) ?_; clear h81
  rintro _ w83 a82 ⟨N84, rfl, hN87, hz88, hk86, hg85⟩ h82
  have ha89 := row_fresh hq75 hN87
  have hz90 := hg85.size
  try dsimp only at h82
  have hr96 := row_kept_new hq75 hg85
  refine pwD h82 rfl (op_storeN rfl rfl rfl (all_cons rfl (all_cons rfl (all_cons (row_one hr96) all_nil))) (by kernel_rfl) hk86 rfl) ?_; clear h82
  rintro _ w92 a91 ⟨hk93, hz94, hg95⟩ h91
  have hk93' : Blk w92 N84 29 #[.int .i64 ((ofB n39).1.1), .int .i64 ((ofB n39).1.2.1), u74] := hk93; clear hk93
  have hz97 := hg95.size
  refine pk0 (v := .int .i64 ((ofB n39).2)) h91 rfl fun a98 h98 => ?_; clear h91
  refine pl_nil ?_
  refine co_then ?_
  refine co_seq ?_
  refine co_seq ?_
  refine co_reg ?_
  refine pk0 (v := .int .i64 ((ofB n39).2)) h98 rfl fun a99 h99 => ?_; clear h98
  refine pk0 (v := .bool (((ofB n39).2) != 0)) h99 rfl fun a100 h100 => ?_; clear h99
  refine pl_nil ?_
  refine co_then ?_
  have hB102 := hb_call hB65 hb76
  have hB103 := hb_new hB102 hg85
  have hB104 := hb_at hB103 hg95 (by omega)
  have hk105 := hk69.below hb76
  have hk106 := hk105.kept hg85 (by simp)
  have hk107 := hk106.kept hg95 (by simp; omega)
  have ho108 := ho45.below hb55
  have ho109 := ho108.below hb76
  have ho110 := ho109.new hg85
  have ho111 := ho110.at (by omega) hg95
  cases hc101 : (((ofB n39).2) != 0)
  ·
   rw [hc101] at h100
   have hp112 : ¬ (((ofB n39).2) ≠ 0) := by first | simpa using hc101 | simpa [and_assoc] using hc101
   clear hc101
   refine co_false h100 rfl ?_
   refine wp_skip ?_
   refine co_then ?_
   refine co_seq ?_
   refine co_reg ?_
   refine pk (v := .agg #[.int .i64 ((ofB n39).1.1), .int .i64 ((ofB n39).1.2.1), u74]) h100 rfl (rn_loadN rfl rfl Tryz.underlying29 rfl (by kernel_rfl) hk93'.all) fun a113 h113 => ?_; clear h100
   refine pk0 (v := .int .u64 n25) h113 rfl fun a114 h114 => ?_; clear h113
   refine pk0 (v := .agg #[.int .i64 ((ofB n39).1.1), .int .i64 ((ofB n39).1.2.1), u74, .int .u64 n25]) h114 rfl fun a115 h115 => ?_; clear h114
   have hr121 := row_kept_at hr96 hg95 (ha89)
   refine pwD h115 rfl (op_storeN rfl rfl rfl (all_cons rfl (all_cons rfl (all_cons (row_one hr121) (all_cons rfl all_nil)))) (by kernel_rfl) hk107 rfl) ?_; clear h115
   rintro _ w117 a116 ⟨hk118, hz119, hg120⟩ h116
   have hk118' : Blk w117 N3 52 #[.int .i64 ((ofB n39).1.1), .int .i64 ((ofB n39).1.2.1), u74, .int .u64 n25] := hk118; clear hk118
   have hz122 := hg120.size
   refine pk0 (v := .int .i64 0) h116 rfl fun a123 h123 => ?_; clear h116
   refine pl_nil ?_
   refine co_then ?_
   refine wp_ret ?_
   refine co_retC1 (Q := fun _ _ _ => True) h123 rfl rfl rfl hk118' Tryz.underlying52 rfl (by kernel_rfl) ?_
   have hr124 := row_kept_at hr121 hg120 (row_ne_lt hr121 (by omega))
   have hB125 := hb_at hB104 hg120 (by omega)
   cases hof.symm.trans ((ofE_at hq28 hq42 hq54).trans (ofEndE_c (by assumption) (by assumption)))
   exact ⟨_, rfl, (row_lows hr124 (by omega)), hB125⟩
  ·
   rw [hc101] at h100
   have hp126 : ((ofB n39).2) ≠ 0 := by first | simpa using hc101 | simpa [and_assoc] using hc101
   clear hc101
   refine co_true h100 rfl ?_
   refine co_seq ?_
   refine co_reg ?_
   refine pk0 (v := .agg #[.int .i64 0, .int .i64 0, .slice none 0 0, .int .u64 0]) h100 rfl fun a127 h127 => ?_; clear h100
   refine pk0 (v := .int .i64 ((ofB n39).2)) h127 rfl fun a128 h128 => ?_; clear h127
   refine pwD h128 rfl (op_storeN rfl rfl rfl (all_cons rfl (all_cons rfl (all_cons rfl (all_cons rfl all_nil)))) (by kernel_rfl) hk107 rfl) ?_; clear h128
   rintro _ w130 a129 ⟨hk131, hz132, hg133⟩ h129
   have hk131' : Blk w130 N3 52 #[.int .i64 0, .int .i64 0, .slice none 0 0, .int .u64 0] := hk131; clear hk131
   have hz134 := hg133.size
   refine pk0 (v := .int .i64 ((ofB n39).2)) h129 rfl fun a135 h135 => ?_; clear h129
   refine pl_nil ?_
   refine co_then ?_
   refine wp_ret ?_
   refine co_thenR ?_
   refine co_retC1 (Q := fun _ _ _ => True) h135 rfl rfl rfl hk131' Tryz.underlying52 rfl (by kernel_rfl) ?_
   have hB136 := hb_at hB104 hg133 (by omega)
   cases hof.symm.trans ((ofE_at hq28 hq42 hq54).trans (ofEndE_b (by assumption) (by assumption)))
   exact ⟨_, rfl, (row_nilL _ _ _ _ _), hB136⟩
 ·
  rw [hc60] at h59
  have hp137 : r53 ≠ 0 := by first | simpa using hc60 | simpa [and_assoc] using hc60
  clear hc60
  refine co_true h59 rfl ?_
  refine co_seq ?_
  refine co_reg ?_
  refine pk0 (v := .agg #[.int .i64 0, .int .i64 0, .slice none 0 0, .int .u64 0]) h59 rfl fun a138 h138 => ?_; clear h59
  refine pk0 (v := .int .i64 r53) h138 rfl fun a139 h139 => ?_; clear h138
  refine pwD h139 rfl (op_storeN rfl rfl rfl (all_cons rfl (all_cons rfl (all_cons rfl (all_cons rfl all_nil)))) (by kernel_rfl) hk69 rfl) ?_; clear h139
  rintro _ w141 a140 ⟨hk142, hz143, hg144⟩ h140
  have hk142' : Blk w141 N3 52 #[.int .i64 0, .int .i64 0, .slice none 0 0, .int .u64 0] := hk142; clear hk142
  have hz145 := hg144.size
  refine pk0 (v := .int .i64 r53) h140 rfl fun a146 h146 => ?_; clear h140
  refine pl_nil ?_
  refine co_then ?_
  refine wp_ret ?_
  refine co_thenR ?_
  refine co_retC1 (Q := fun _ _ _ => True) h146 rfl rfl rfl hk142' Tryz.underlying52 rfl (by kernel_rfl) ?_
  have hB147 := hb_at hB65 hg144 (by omega)
  cases hof.symm.trans ((ofE_at hq28 hq42 hq54).trans (ofEndE_a (by assumption)))
  exact ⟨_, rfl, (row_nilL _ _ _ _ _), hB147⟩
end Go.Proofs.YteioaaegooebpaaGreat
