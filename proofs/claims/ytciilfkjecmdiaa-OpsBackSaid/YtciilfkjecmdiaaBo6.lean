/- Put together: MapR, MapO, OpsE, OpsF, OpsG, OpsH, OpsI, OpsK. Conditions: as each says. -/
import Derived.Test.YtciilfkjecmdiaaBo5
import Derived.Maps.RangeRun
import Derived.MapKept
import Derived.OwnWalk
import Derived.Test.YtciilfkjecmdiaaLaySort
import Derived.Shelf.Small.Strs
/- Ranges over maps that the call made: what is still to come, whichever comes next. Conditions: none. -/
namespace Go.Proofs.Ytciilfkjecmdiaa
open Go.RowKit Go.ChangeMaps

section
variable {K : Type} {P : Program} {n : Nat} {m : List (Nat × Value)} {w x : World} {o : Oper} {B r : Nat} {l left : List (K × Value)} {kv : K → Value} {kt e t : TypeId} {q : Operand}
/-- Block r ranges over the map at B; left is still to come. -/
def IterB (kv : K → Value) (w : World) (r B : Nat) (left : List (K × Value)) : Prop :=
  ∃ es clock since seen c0, w.heap[B]? = some (.map es clock) ∧ w.heap[r]? = some (.mapIter (some B) since seen c0) ∧ since ≤ c0 ∧ c0 = clock ∧ (∀ e ∈ es.toList, e.born < since) ∧ (es.toList.map (·.born)).Nodup ∧
    (es.toList.filter fun e => !seen.contains e.born).map (fun e => (e.key, e.val)) = left.map (fun p => (kv p.1, p.2))
theorem IterB.lt (h : IterB kv w r B left) : r < w.heap.size := by obtain ⟨_, _, _, _, _, _, h, _⟩ := h; exact (Array.getElem?_eq_some_iff.1 h).1
theorem IterB.kept {row : Option Nat} (h : IterB kv w r B left) (hg : w.grownBy x row) (h1 : row ≠ some B) (h2 : row ≠ some r) : IterB kv x r B left := by
  obtain ⟨es, c, s, sn, c0, a1, a2, a3⟩ := h
  exact ⟨es, c, s, sn, c0, by rw [hg.block B (Array.getElem?_eq_some_iff.1 a1).1 (fun e => h1 e.symm)]; exact a1, by rw [hg.block r (Array.getElem?_eq_some_iff.1 a2).1 (fun e => h2 e.symm)]; exact a2, a3⟩
theorem IterB.row {B' : Nat} {T : TypeId} {sz k : Nat} {v : Value} {xs : List Value} (h : IterB kv w r B left) (hr : w.ownsRow B' T sz v k xs) : v.ownBlock ≠ some B ∧ v.ownBlock ≠ some r := by
  obtain ⟨es, c, s, sn, c0, a1, a2, _⟩ := h
  rcases hr.2 with ⟨rfl, _⟩ | ⟨g1, _, _, rfl, _, hg1, _⟩
  · simp [Value.ownBlock]
  · constructor
    · intro e1
      simp [Value.ownBlock] at e1
      subst e1; rw [a1] at hg1; cases hg1
    · intro e1
      simp [Value.ownBlock] at e1
      subst e1; rw [a2] at hg1; cases hg1
theorem op_range {a : K} (ho : o.op = .range t q) (hq : ev m q = some (.map (some B))) (ht : P.underlying t = some (.map kt e)) (h : MapB kv w B l) :
    Op1 P n m o w (fun u x => ∃ r, u = .pointer (some ⟨r, 0, none⟩) ∧ r = w.heap.size ∧ IterB kv x r B l ∧ x.heap.size = r + 1 ∧ w.grownBy x none) := by
  intro ac ha N Q hN
  obtain ⟨es, cl, h1, h2, h3, h4, h5⟩ := h
  have hg : (getObj B).run P w = .ok (.map es cl) w := by simp [getObj, Sem.run, h1]
  have hrun : (Instr.range t (.map (some B))).run P w = .ok (.pointer (some ⟨w.heap.size, 0, none⟩)) (w.alloc (.mapIter (some B) cl #[] cl)) := by
    simp only [Instr.range, Sem.run_bind, run_underlying ht, Result.andThen_ok, hg, Sem.run_pure]
    rfl
  unfold Oper.wp execOp
  simp only [ho, ha.ev hq, Sem.run_bind, hrun, Result.andThen_ok, Sem.run_pure]
  have hlt := (Array.getElem?_eq_some_iff.1 h1).1
  have hgr := World.grownBy_alloc w (.mapIter (some B) cl #[] cl) none
  refine hN _ _ ⟨w.heap.size, rfl, rfl, ⟨es, cl, cl, #[], cl, ?_, heap_alloc_new w _, Nat.le_refl _, rfl, h5, h4, ?_⟩, by simp, hgr⟩
  · rw [hgr.block B hlt (by simp)]; exact h1
  · rw [← h2]; congr 1; exact List.filter_eq_self.2 (fun _ _ => by simp)
theorem filter_born : ∀ (L1 L2 : List MapEntry) (e : MapEntry), ((L1 ++ e :: L2).map (·.born)).Nodup → (L1 ++ e :: L2).filter (fun x => x.born != e.born) = L1 ++ L2
  | L1, L2, e, h => by
    rw [List.map_append, List.map_cons, List.nodup_append] at h
    obtain ⟨h1, h2, h3⟩ := h
    rw [List.nodup_cons] at h2
    rw [List.filter_append, List.filter_cons]
    simp only [bne_self_eq_false, Bool.false_eq_true, if_false]
    rw [List.filter_eq_self.2, List.filter_eq_self.2]
    · intro y hy
      have : y.born ≠ e.born := fun hq => h2.1 (hq ▸ List.mem_map_of_mem hy)
      simpa using this
    · intro y hy
      have := h3 y.born (List.mem_map_of_mem hy) e.born (by simp)
      simpa using this
/-- The next one: none is left; or one that is left. -/
theorem op_next (ho : o.op = .next q false) (hq : ev m q = some (.pointer (some ⟨r, 0, none⟩))) (h : IterB kv w r B left) :
    Op1 P n m o w (fun u x => (left = [] ∧ u = .tuple #[.bool false] ∧ x = w) ∨
      ∃ p l1 l2, left = l1 ++ p :: l2 ∧ u = .tuple #[.bool true, kv p.1, p.2] ∧ IterB kv x r B (l1 ++ l2) ∧ (Instr.entry (.pointer (some ⟨r, 0, none⟩))).run P x = .ok (.tuple #[kv p.1, p.2]) x ∧ x.heap.size = w.heap.size ∧ w.grownBy x (some r)) := by
  intro ac ha N Q hN
  obtain ⟨es, cl, since, seen, c0, hB, hr, hsc, rfl, hold, hnd, hl⟩ := h
  have hLl : (leftOf es seen).toList = es.toList.filter fun e => !seen.contains e.born := by unfold leftOf; rw [Array.toList_filter]
  unfold Oper.wp execOp
  simp only [ho, ha.ev hq, Sem.run_bind]
  rcases run_next_at (P := P) w o.type r B since c0 seen es c0 hr hB hold hsc with ⟨h0, hrun⟩ | ⟨e, he, w1, hal, hrun⟩
  · simp only [hrun, Result.andThen_ok, Sem.run_pure]
    refine hN _ _ (.inl ⟨?_, rfl, rfl⟩)
    have h1 : (leftOf es seen).toList = [] := by rw [Array.eq_empty_of_size_eq_zero h0]
    rw [← hLl, h1] at hl
    exact List.map_eq_nil_iff.1 hl.symm
  · simp only [hrun, Result.andThen_ok, Sem.run_pure]
    have hem := mem_left he
    rw [hLl] at he
    obtain ⟨L1, L2, hL⟩ := List.append_of_mem he
    rw [hL, List.map_append, List.map_cons] at hl
    obtain ⟨l1, l2', h1, h2, h3⟩ := List.map_eq_append_iff.1 hl.symm
    obtain ⟨p, l2, h4, h5, h6⟩ := List.map_eq_cons_iff.1 h3
    subst h1 h4
    have hkey : kv p.1 = e.key := (Prod.mk.inj h5).1
    have hval : p.2 = e.val := (Prod.mk.inj h5).2
    have hr1 : w1.heap[r]? = some (.mapIter (some B) since seen c0) := by rcases hal with rfl | rfl <;> exact hr
    have hb1 : w1.heap[B]? = some (.map es c0) := by rcases hal with rfl | rfl <;> exact hB
    have hne : B ≠ r := fun e1 => by subst e1; rw [hr] at hB; cases hB
    have hset := Go.MapKept.heap_set (o' := .mapIter (some B) since (seen.push e.born) c0) hr1
    have hb' : (setBlock w1 r (.mapIter (some B) since (seen.push e.born) c0)).heap[B]? = some (.map es c0) := (hset.2 B hne).trans hb1
    have hgr : w.grownBy (setBlock w1 r (.mapIter (some B) since (seen.push e.born) c0)) (some r) := by
      rcases hal with rfl | rfl
      · exact ⟨rfl, rfl, rfl, by simp [setBlock], fun k _ hk => hset.2 k (fun e1 => hk (by rw [e1]))⟩
      · exact ⟨rfl, rfl, rfl, by show _ ≤ (w.heap.setIfInBounds r _).size; simp, fun k _ hk => hset.2 k (fun e1 => hk (by rw [e1]))⟩
    have hsz : (setBlock w1 r (.mapIter (some B) since (seen.push e.born) c0)).heap.size = w.heap.size := by
      rcases hal with rfl | rfl
      · simp [setBlock]
      · show (w.heap.setIfInBounds r _).size = _; simp
    have hen := run_entry_at (P := P) _ r B since seen es c0 e hset.1 hb' hem.1 hnd
    rw [← hkey, ← hval]
    refine hN _ _ (.inr ⟨p, l1, l2, rfl, rfl, ⟨es, c0, since, seen.push e.born, c0, hb', hset.1, hsc, rfl, hold, hnd, ?_⟩, by rw [hen, hkey, hval], hsz, hgr⟩)
    have hf : (es.toList.filter fun x => !(seen.push e.born).contains x.born) = (es.toList.filter fun x => !seen.contains x.born).filter fun x => x.born != e.born := by
      rw [List.filter_filter]
      congr 1
      funext y
      rw [contains_push]
      cases seen.contains y.born <;> cases hq : (y.born == e.born) <;> simp [bne, hq]
    rw [hf, hL, filter_born L1 L2 e, List.map_append, ← h2, ← h6, List.map_append]
    rw [← hL]
    exact (List.filter_sublist.map _).nodup hnd
theorem rn_entry {u : Value} (ho : o.op = .entry q) (hq : ev m q = some (.pointer (some ⟨r, 0, none⟩))) (h : (Instr.entry (.pointer (some ⟨r, 0, none⟩))).run P w = .ok u w) : (execOp (lk m) o).run P w = .ok (.value u) w := by
  unfold execOp
  simp only [ho, lk_ev hq, Sem.run_bind, h, Result.andThen_ok, Sem.run_pure]
end
end Go.Proofs.Ytciilfkjecmdiaa

/- Maps that the call made, told by a function: what a key has, if anything; and ranges over them. Conditions: none. -/
namespace Go.Proofs.Ytciilfkjecmdiaa
open Go.RowKit

section
variable {K V : Type} [DecidableEq K] {P : Program} {n : Nat} {m : List (Nat × Value)} {w x : World} {o : Oper} {B r c : Nat} {kv : K → Value} {enc : V → Value} {g : K → Option V} {kt e t : TypeId} {q s : Operand} {a : K} {v : V} {left : List (K × V)}
/-- Block B is a map of at most c entries; a key a has g a. -/
def MapO (kv : K → Value) (enc : V → Value) (w : World) (B : Nat) (g : K → Option V) (c : Nat) : Prop := ∃ l, MapB kv w B l ∧ (∀ a, getK l a = (g a).map enc) ∧ l.length ≤ c
theorem MapO.lt (h : MapO kv enc w B g c) : B < w.heap.size := by obtain ⟨l, h, _⟩ := h; exact h.lt
theorem MapO.kept {row : Option Nat} (h : MapO kv enc w B g c) (hg : w.grownBy x row) (hne : row ≠ some B) : MapO kv enc x B g c := by
  obtain ⟨l, h1, h2⟩ := h; exact ⟨l, h1.kept hg hne, h2⟩
theorem MapO.below (h : MapO kv enc w B g c) (hb : Below w.heap.size w x) : MapO kv enc x B g c := h.kept (below_grown hb) (by simp)
theorem MapO.row {B' : Nat} {T : TypeId} {sz k : Nat} {u : Value} {xs : List Value} (h : MapO kv enc w B g c) (hr : w.ownsRow B' T sz u k xs) : u.ownBlock ≠ some B := by
  intro e1
  obtain ⟨l, ⟨es, c', h1, _⟩, _⟩ := h
  rcases hr.2 with ⟨rfl, _⟩ | ⟨g1, _, _, rfl, _, hg1, _⟩
  · simp [Value.ownBlock] at e1
  · simp [Value.ownBlock] at e1
    subst e1; rw [h1] at hg1; cases hg1
theorem MapO.eq {g' : K → Option V} {c' : Nat} (h : MapO kv enc w B g c) (hg : g = g') (hc : c ≤ c') : MapO kv enc w B g' c' := by
  subst hg; obtain ⟨l, h1, h2, h3⟩ := h; exact ⟨l, h1, h2, Nat.le_trans h3 hc⟩
theorem op_makeO (kv : K → Value) (enc : V → Value) (hrun : (execOp (lk m) o).run P w = .ok (.value (.map (some w.heap.size))) (w.alloc (.map #[] 0))) (hok : okOps m o.op = true) (hsel : (match o.op with | .select .. => true | _ => false) = false) :
    Op1 P n m o w (fun u x => ∃ N, u = .map (some N) ∧ N = w.heap.size ∧ x.heap.size = N + 1 ∧ MapO kv enc x N (fun _ => none) 0 ∧ w.grownBy x none) :=
  (op_makeMap kv hrun hok hsel).mono fun u x ⟨N, h1, h2, h3, h4, h5⟩ => ⟨N, h1, h2, h3, ⟨[], h4, fun a => by simp, by simp⟩, h5⟩
theorem putK_len (l : List (K × Value)) (a : K) (v : Value) : (putK l a v).length ≤ l.length + 1 := by unfold putK; split <;> simp
theorem delK_len (l : List (K × Value)) (a : K) : (delK l a).length ≤ l.length := by
  unfold delK; split
  · rename_i i _ _; have := List.length_eraseIdx_le l i; omega
  · exact Nat.le_refl _
theorem op_updateO (KK : KL P kt kv) {q1 : Operand} (ho : o.op = .mapUpdate t q q1 s) (hq : ev m q = some (.map (some B))) (hr : ev m q1 = some (kv a)) (hs : ev m s = some (enc v)) (ht : P.underlying t = some (.map kt e)) (h : MapO kv enc w B g c) :
    Op1 P n m o w (fun _ x => MapO kv enc x B (fun b => if b = a then some v else g b) (c + 1) ∧ x.heap.size = w.heap.size ∧ w.grownBy x (some B)) := by
  obtain ⟨l, h1, h2, h3⟩ := h
  refine (op_mapUpdate KK ho hq hr hs ht h1).mono fun _ x ⟨k1, k2, k3⟩ => ⟨⟨_, k1, fun b => ?_, Nat.le_trans (putK_len _ _ _) (by omega)⟩, k2, k3⟩
  rw [getK_put]
  by_cases e1 : b = a <;> simp [e1, h2]
theorem op_deleteO (KK : KL P kt kv) {q1 : Operand} {t2 : TypeId} (ho : o.op = .call { callee := .builtin .delete, args := #[q, q1], argTypes := #[t, t2] }) (hq : ev m q = some (.map (some B))) (hr : ev m q1 = some (kv a)) (ht : P.underlying t = some (.map kt e)) (h : MapO kv enc w B g c) :
    Op1 P n m o w (fun _ x => MapO kv enc x B (fun b => if b = a then none else g b) c ∧ x.heap.size = w.heap.size ∧ w.grownBy x (some B)) := by
  obtain ⟨l, h1, h2, h3⟩ := h
  intro ac ha N Q hN
  obtain ⟨x, hx, k1, k2, k3⟩ := run_delete (a := a) (t2 := t2) (ty := o.type) KK ht h1
  unfold Oper.wp
  simp [execOp, ho, resolve, invoke, builtin, ha.ev hq, ha.ev hr, hx, Result.andThen]
  refine hN _ _ ⟨⟨_, k1, fun b => ?_, Nat.le_trans (delK_len _ _) h3⟩, k2, k3⟩
  rw [getK_del l a b h1.keys]
  by_cases e1 : b = a <;> simp [e1, h2]
theorem rn_lenO {ts : Array TypeId} (ho : o.op = .call { callee := .builtin .len, args := #[q], argTypes := #[t] }) (hq : ev m q = some (.map (some B))) (ht : P.underlying t = some (.map kt e)) (h : MapO kv enc w B g c) :
    ∃ k : Nat, k ≤ c ∧ (execOp (lk m) o).run P w = .ok (.value (.int .i64 (k : Nat))) w := by
  obtain ⟨l, h1, h2, h3⟩ := h
  exact ⟨l.length, h3, rn_lenMap (ts := ts) ho hq ht h1⟩
theorem op_lenO {ts : Array TypeId} (ho : o.op = .call { callee := .builtin .len, args := #[q], argTypes := #[t] }) (hq : ev m q = some (.map (some B))) (ht : P.underlying t = some (.map kt e)) (h : MapO kv enc w B g c) (hok : okOps m o.op = true) (hsel : (match o.op with | .select .. => true | _ => false) = false) :
    Op1 P n m o w (fun u x => ∃ k : Nat, u = .int .i64 ((k : Nat) : Int) ∧ k ≤ c ∧ w = x) := by
  obtain ⟨k, h1, h2⟩ := rn_lenO (ts := ts) ho hq ht h
  exact (op_run hok hsel h2).mono fun u x ⟨e1, e2⟩ => ⟨k, e1, h1, e2.symm⟩
/-- lt holds just what g has. -/
def Full (g : K → Option V) (lt : List (K × V)) : Prop := (lt.map (·.1)).Nodup ∧ ∀ a v, g a = some v ↔ (a, v) ∈ lt
theorem getK_mem : ∀ (l : List (K × Value)) (a : K) (u : Value), (l.map (·.1)).Nodup → (getK l a = some u ↔ (a, u) ∈ l)
  | [], a, u, _ => by simp
  | p :: r, a, u, h => by
    rw [List.map_cons, List.nodup_cons] at h
    have ih := getK_mem r a u h.2
    rw [getK_cons]
    by_cases e1 : a = p.1
    · rw [if_pos e1]
      constructor
      · intro h1
        have : p.2 = u := Option.some.inj h1
        exact List.mem_cons.2 (.inl (Prod.ext e1 this.symm))
      · intro h1
        rcases List.mem_cons.1 h1 with h2 | h2
        · rw [← h2]
        · exact absurd (e1 ▸ List.mem_map_of_mem (f := (·.1)) h2) h.1
    · rw [if_neg e1, ih]
      constructor
      · exact fun h1 => List.mem_cons_of_mem _ h1
      · intro h1
        rcases List.mem_cons.1 h1 with h2 | h2
        · exact absurd (by rw [← h2]) e1
        · exact h2
omit [DecidableEq K] in
theorem typed_list (g : K → Option V) (enc : V → Value) : ∀ (l : List (K × Value)), (∀ p ∈ l, (g p.1).map enc = some p.2) → ∃ lt : List (K × V), l = lt.map (fun p => (p.1, enc p.2)) ∧ ∀ p ∈ lt, g p.1 = some p.2
  | [], _ => ⟨[], rfl, by simp⟩
  | p :: r, h => by
    obtain ⟨lt, h1, h2⟩ := typed_list g enc r (fun y hy => h y (List.mem_cons_of_mem _ hy))
    have hp := h p (by simp)
    cases hg : g p.1 with
    | none => rw [hg] at hp; cases hp
    | some v =>
      rw [hg] at hp
      have hv : enc v = p.2 := Option.some.inj hp
      refine ⟨(p.1, v) :: lt, by rw [List.map_cons, ← h1, hv], fun y hy => ?_⟩
      rcases List.mem_cons.1 hy with rfl | hy
      · exact hg
      · exact h2 y hy
theorem MapO.list (h : MapO kv enc w B g c) : ∃ lt : List (K × V), MapB kv w B (lt.map fun p => (p.1, enc p.2)) ∧ Full g lt ∧ lt.length ≤ c := by
  obtain ⟨l, h1, h2, h3⟩ := h
  have hn := h1.keys
  obtain ⟨lt, e1, e2⟩ := typed_list g enc l (fun p hp => by rw [← h2]; exact (getK_mem l p.1 p.2 hn).2 hp)
  subst e1
  have hn' : (lt.map (·.1)).Nodup := by rw [List.map_map] at hn; exact hn
  refine ⟨lt, h1, ⟨hn', fun a v => ⟨fun hg => ?_, fun hm => e2 _ hm⟩⟩, by simpa using h3⟩
  have h4 := h2 a
  rw [hg] at h4
  have h5 := (getK_mem _ a (enc v) hn).1 h4
  obtain ⟨p, hp, hq⟩ := List.mem_map.1 h5
  have e3 : p.1 = a := (Prod.mk.inj hq).1
  have e4 := e2 p hp
  rw [e3, hg] at e4
  have : v = p.2 := Option.some.inj e4
  rw [← e3, this]; exact hp
/-- A range over it, what is still to come told as keys and values. -/
def IterO (kv : K → Value) (enc : V → Value) (w : World) (r B : Nat) (left : List (K × V)) : Prop := IterB kv w r B (left.map fun p => (p.1, enc p.2))
omit [DecidableEq K] in
theorem IterO.lt (h : IterO kv enc w r B left) : r < w.heap.size := IterB.lt h
omit [DecidableEq K] in
theorem IterO.kept {row : Option Nat} (h : IterO kv enc w r B left) (hg : w.grownBy x row) (h1 : row ≠ some B) (h2 : row ≠ some r) : IterO kv enc x r B left := IterB.kept h hg h1 h2
omit [DecidableEq K] in
theorem IterO.row {B' : Nat} {T : TypeId} {sz k : Nat} {u : Value} {xs : List Value} (h : IterO kv enc w r B left) (hr : w.ownsRow B' T sz u k xs) : u.ownBlock ≠ some B ∧ u.ownBlock ≠ some r := IterB.row h hr
theorem op_rangeO (a : K) (ho : o.op = .range t q) (hq : ev m q = some (.map (some B))) (ht : P.underlying t = some (.map kt e)) (h : MapO kv enc w B g c) :
    Op1 P n m o w (fun u x => ∃ r, u = .pointer (some ⟨r, 0, none⟩) ∧ r = w.heap.size ∧ x.heap.size = r + 1 ∧ (∃ lt : List (K × V), IterO kv enc x r B lt ∧ Full g lt ∧ lt.length ≤ c) ∧ w.grownBy x none) := by
  obtain ⟨lt, h1, h2, h3⟩ := h.list
  exact (op_range (a := a) ho hq ht h1).mono fun u x ⟨r, k1, k2, k3, k4, k5⟩ => ⟨r, k1, k2, k4, ⟨lt, k3, h2, h3⟩, k5⟩
omit [DecidableEq K] in
theorem op_nextO (ho : o.op = .next q false) (hq : ev m q = some (.pointer (some ⟨r, 0, none⟩))) (h : IterO kv enc w r B left) :
    Op1 P n m o w (fun u x => (left = [] ∧ u = .tuple #[.bool false] ∧ w = x) ∨
      ∃ p l1 l2, left = l1 ++ p :: l2 ∧ u = .tuple #[.bool true, kv p.1, enc p.2] ∧ IterO kv enc x r B (l1 ++ l2) ∧ (Instr.entry (.pointer (some ⟨r, 0, none⟩))).run P x = .ok (.tuple #[kv p.1, enc p.2]) x ∧ x.heap.size = w.heap.size ∧ w.grownBy x (some r)) :=
  (op_next ho hq h).mono fun u x hx => by
    rcases hx with ⟨h1, h2, h3⟩ | ⟨p, l1, l2, h1, h2, h3, h4, h5, h6⟩
    · exact .inl ⟨List.map_eq_nil_iff.1 h1, h2, h3.symm⟩
    · obtain ⟨k1, k2', e1, e2, e3⟩ := List.map_eq_append_iff.1 h1
      obtain ⟨p', k2, e4, e5, e6⟩ := List.map_eq_cons_iff.1 e3
      subst e1 e4 e2 e5 e6
      exact .inr ⟨p', k1, k2, rfl, h2, by unfold IterO; rw [List.map_append]; exact h3, h4, h5, h6⟩
end
section
variable {P : Program} {n : Nat} {m : List (Nat × Value)} {w : World} {o : Oper}
/-- make of no element, room for k: the call's own row. -/
theorem op_makeOwn {α : Type} {enc : α → List Value} {p q : Operand} {base k : Nat} {t e : TypeId} {z : Value} {size by_ : Nat} (ho : o.op = .makeSlice t p q) (hp : ev m p = some (.int .i64 0)) (hq : ev m q = some (.int .i64 ((k : Nat) : Int)))
    (h1 : P.underlying t = some (.slice e)) (hi : (P.info? e).map (fun i => (i.zero, i.size, i.bytes)) = some (some z, size, by_)) (b2 : by_ * k ≤ 281474976710656) (b3 : k ≤ maxLen) (b4 : base ≤ w.heap.size) :
    Op1 P n m o w (fun u x => ∃ N, u = .slice (some ⟨N, 0, none⟩) 0 k ∧ N = w.heap.size ∧ x.ownsRow base e size (.slice (some ⟨N, 0, none⟩) 0 k) ([] : List α).length (([] : List α).flatMap enc) ∧ w.grownBy x none) := by
  intro ac ha N Q hN
  obtain ⟨i, h2, h3, h4, h5⟩ := info_parts hi
  subst h5
  obtain ⟨x, hx, k1, k2⟩ := run_make_own (P := P) w base t e i z size h1 h2 h3 h4 .i64 .i64 k b2 b3 b4
  unfold Oper.wp
  simp [execOp, ho, ha.ev hp, ha.ev hq, hx, Result.andThen]
  exact hN _ _ ⟨w.heap.size, rfl, rfl, k1, k2⟩
end
end Go.Proofs.Ytciilfkjecmdiaa

/- Package ops: against. Conditions: none. -/
namespace Go.Proofs.Ytciilfkjecmdiaa
open Go.RowKit Go.PlainAid
set_option linter.unusedVariables false

open Go.Sort Go.Shelf Go.Lib

abbrev ValT := ByteArray × ByteArray
def valE (v : ValT) : List Value := [.string v.1, .string v.2]
theorem valE_len (v : ValT) : (valE v).length = 2 := rfl
theorem valE_one (v : ValT) : ∀ u ∈ valE v, u.oneCell' = true := by intro u hu; simp [valE] at hu; rcases hu with rfl | rfl <;> rfl
def valV (v : ValT) : Value := .agg #[.string v.1, .string v.2]
def opV (o : OpT) : Value := .agg #[.string o.1, .string o.2.1, .bool o.2.2]
abbrev kB (s : ByteArray) : List UInt8 := s.data.toList
def cfV (x y : ValT) : Int := Lib.compareBytes (kB x.1) (kB y.1)
def cfO (x y : OpT) : Int := Lib.compareBytes (kB x.1) (kB y.1)
set_option maxHeartbeats 1000000 in
theorem against_v (x y : ValT) (W : World) : Calls Try.prog 77 #[.agg #[.string x.1, .string x.2], .agg #[.string y.1, .string y.2]] W fun e w' => e = .returned (.int .i64 (cfV x y)) ∧ ∃ q os', w' = grow (W.drewN q) os' := by
  have hcon := fun W' => Any.strings_Compare Try.cmpS x.1 y.1 W'
  change ∀ W', Calls Try.prog 107 _ _ _ at hcon
  unfold cfV kB
  generalize Lib.compareBytes x.1.data.toList y.1.data.toList = r at hcon ⊢
  go_enter Try.func77, Try.ntmps77
  go_wp2_with (go_at_call 107; refine (hcon _).mono ?_; rintro e w' ⟨rfl, rfl⟩)
  go_ret
  exact ⟨rfl, 0, _, by rw [alloc_eq_grow, alloc_eq_grow, grow_grow]; rfl⟩
set_option maxHeartbeats 1000000 in
theorem against_o (x y : OpT) (W : World) : Calls Try.prog 79 #[.agg #[.string x.1, .string x.2.1, .bool x.2.2], .agg #[.string y.1, .string y.2.1, .bool y.2.2]] W fun e w' => e = .returned (.int .i64 (cfO x y)) ∧ ∃ q os', w' = grow (W.drewN q) os' := by
  have hcon := fun W' => Any.strings_Compare Try.cmpS x.1 y.1 W'
  change ∀ W', Calls Try.prog 107 _ _ _ at hcon
  unfold cfO kB
  generalize Lib.compareBytes x.1.data.toList y.1.data.toList = r at hcon ⊢
  go_enter Try.func79, Try.ntmps79
  go_wp2_with (go_at_call 107; refine (hcon _).mono ?_; rintro e w' ⟨rfl, rfl⟩)
  go_ret
  exact ⟨rfl, 0, _, by rw [alloc_eq_grow, alloc_eq_grow, grow_grow]; rfl⟩

end Go.Proofs.Ytciilfkjecmdiaa

/- Package ops: sorting by keys; what a sorted list is. Conditions: none. -/
namespace Go.Proofs.Ytciilfkjecmdiaa
open Go.RowKit Go.PlainAid
set_option linter.unusedVariables false

open Go.Sort Go.Shelf Go.Lib

theorem cb_lt : ∀ x y : List UInt8, decide (Lib.compareBytes x y < 0) = decide (x < y)
  | [], [] => by simp [Lib.compareBytes]
  | [], _ :: _ => by simp [Lib.compareBytes]
  | _ :: _, [] => by simp [Lib.compareBytes]
  | a :: x, b :: y => by
    have ih := cb_lt x y
    unfold Lib.compareBytes
    by_cases h1 : a < b
    · rw [if_pos h1]; simp [List.cons_lt_cons_iff, h1]
    · rw [if_neg h1]
      by_cases h2 : b < a
      · have h3 : ¬ a = b := fun e => by subst e; exact h1 h2
        rw [if_pos h2]; simp [List.cons_lt_cons_iff, h1, h3]
      · have h3 : a = b := UInt8.le_antisymm (UInt8.not_lt.1 h2) (UInt8.not_lt.1 h1)
        rw [if_neg h2, ih]; subst h3; simp [List.cons_lt_cons_iff, h1]
theorem lt_V (x y : ValT) : ltOf cfV x y = decide (kB x.1 < kB y.1) := by unfold ltOf cfV; exact cb_lt _ _
theorem lt_O (x y : OpT) : ltOf cfO x y = decide (kB x.1 < kB y.1) := by unfold ltOf cfO; exact cb_lt _ _

theorem swo_V : SWO (ltOf cfV) where
  irrefl x := by rw [lt_V]; simp
  trans x y z h1 h2 := by rw [lt_V, decide_eq_true_eq] at *; exact List.lt_trans h1 h2
  ntrans x y z h1 h2 := by
    rw [lt_V, decide_eq_false_iff_not] at *
    exact List.not_lt.2 (List.le_trans (List.not_lt.1 h2) (List.not_lt.1 h1))
theorem sort_V {base : Nat} {e : TypeId} (v : Value) (l : List ValT) (w : World) (h : w.ownsRow base e 2 v l.length (l.flatMap valE)) (hn : v ≠ .slice none 0 0) (hl : l.length < 4611686018427387904) :
    Calls Try.prog 106 #[v, .func (.func 77) #[] #[]] w fun e1 w' => e1 = .returned (.tuple #[]) ∧ ∃ l' : List ValT, l'.Perm l ∧ SortedL (ltOf cfV) l' ∧ w'.ownsRow base e 2 v l'.length (l'.flatMap valE) ∧ w.grownBy w' v.ownBlock :=
  sort_row valE_len h hn (fun g cap hH hg => AnyQ.slices_SortFunc Try.sortV 2 Try.isAgg111 Try.sizeOf111 valE valE_len valE_one cfV swo_V 77 #[] g 0 cap l.toArray w (enters_of Try.func77 (by kernel_rfl) rfl) (fun _ _ _ _ x y => against_v x y _) hH hg (by simpa using hl))

theorem swo_O : SWO (ltOf cfO) where
  irrefl x := by rw [lt_O]; simp
  trans x y z h1 h2 := by rw [lt_O, decide_eq_true_eq] at *; exact List.lt_trans h1 h2
  ntrans x y z h1 h2 := by
    rw [lt_O, decide_eq_false_iff_not] at *
    exact List.not_lt.2 (List.le_trans (List.not_lt.1 h2) (List.not_lt.1 h1))
theorem sort_O {base : Nat} {e : TypeId} (v : Value) (l : List OpT) (w : World) (h : w.ownsRow base e 3 v l.length (l.flatMap opE)) (hn : v ≠ .slice none 0 0) (hl : l.length < 4611686018427387904) :
    Calls Try.prog 108 #[v, .func (.func 79) #[] #[]] w fun e1 w' => e1 = .returned (.tuple #[]) ∧ ∃ l' : List OpT, l'.Perm l ∧ SortedL (ltOf cfO) l' ∧ w'.ownsRow base e 3 v l'.length (l'.flatMap opE) ∧ w.grownBy w' v.ownBlock :=
  sort_row opE_len h hn (fun g cap hH hg => AnyQ.slices_SortFunc Try.sortO 3 Try.isAgg117 Try.sizeOf117 opE opE_len opE_one cfO swo_O 79 #[] g 0 cap l.toArray w (enters_of Try.func79 (by kernel_rfl) rfl) (fun _ _ _ _ x y => against_o x y _) hH hg (by simpa using hl))

/-- ys rises by its keys and holds just what g has. -/
def SetG {V : Type} (key : V → ByteArray) (g : ByteArray → Option V) (ys : List V) : Prop := ys.Pairwise (fun a b => kB (key a) < kB (key b)) ∧ ∀ y, y ∈ ys ↔ ∃ k, g k = some y
theorem setG_of {V : Type} {key : V → ByteArray} {g : ByteArray → Option V} {lt : List (ByteArray × V)} {ss ys : List V} {lo : V → V → Bool} (hlo : ∀ x y, lo x y = decide (kB (key x) < kB (key y))) (hf : Full g lt) (hk : ∀ k v, g k = some v → key v = k) (hp : ss.Perm (lt.map (·.2))) (hy : ys.Perm ss) (hs : SortedL lo ys) : SetG key g ys := by
  have hyl := hy.trans hp
  have hmem : ∀ y, y ∈ ys ↔ ∃ k, g k = some y := fun y => by
    rw [hyl.mem_iff, List.mem_map]
    constructor
    · rintro ⟨p, hp, rfl⟩; exact ⟨p.1, (hf.2 _ _).2 hp⟩
    · rintro ⟨k, h⟩; exact ⟨(k, y), (hf.2 _ _).1 h, rfl⟩
  refine ⟨?_, hmem⟩
  have e1 : (lt.map (·.2)).map key = lt.map (·.1) := by
    rw [List.map_map]
    apply List.map_congr_left
    intro p hp
    exact hk _ _ ((hf.2 p.1 p.2).2 hp)
  have hnd : (ys.map key).Nodup := (hyl.map key).nodup_iff.2 (by rw [e1]; exact hf.1)
  have hne : ys.Pairwise fun a b => key a ≠ key b := List.pairwise_map.1 hnd
  refine List.Pairwise.imp₂ (fun {a b} h1 h2 => ?_) hs hne
  rw [hlo, decide_eq_false_iff_not] at h1
  rcases List.le_iff_lt_or_eq.1 (List.not_lt.1 h1) with h | h
  · exact h
  · exact absurd (by apply ByteArray.ext; apply Array.toList_inj.1; exact h) h2
theorem perm_step {V : Type} {K : Type} {ss : List V} {l1 l2 : List (K × V)} {p : K × V} {r : List V} (h : (ss ++ (l1 ++ p :: l2).map (·.2)).Perm r) : (ss ++ [p.2] ++ (l1 ++ l2).map (·.2)).Perm r := by
  refine List.Perm.trans ?_ h
  rw [List.append_assoc, List.map_append, List.map_append, List.map_cons]
  refine List.Perm.append_left ss ?_
  exact (List.perm_middle (l₁ := l1.map (·.2)) (l₂ := l2.map (·.2)) (a := p.2)).symm

end Go.Proofs.Ytciilfkjecmdiaa

/- Package ops: sorted. Conditions: a map of at most 1000000 entries. -/
namespace Go.Proofs.Ytciilfkjecmdiaa
open Go.RowKit Go.PlainAid
set_option linter.unusedVariables false

open Go.Sort Go.Shelf Go.Lib

theorem row_some {w : World} {B sz k : Nat} {T : TypeId} {v : Value} {xs : List Value} (h : w.ownsRow B T sz v k xs) (hk : k ≠ 0) : v ≠ .slice none 0 0 := by
  rcases h.2 with ⟨_, h0⟩ | ⟨g, cap, cur, rfl, _⟩
  · exact absurd h0 hk
  · simp

set_option maxRecDepth 100000 in
theorem sorted_V (B : Nat) (g : ByteArray → Option ValT) (c : Nat) (w : World) (hm : MapO strK valV w B g c) (hc : c ≤ 1000000) (hkey : ∀ k v, g k = some v → v.1 = k) :
    Calls Try.prog 76 #[.map (some B), .func (.func 77) #[] #[]] w fun e w' => ∃ (ys : List ValT) (u : Value), e = .returned (u) ∧ w'.ownsRow w.heap.size 111 2 u ys.length (ys.flatMap valE) ∧ SetG (fun y : ValT => y.1) g ys ∧ ys.length ≤ c ∧ Below w.heap.size w w' := by
  have hB0 := Below.refl w.heap.size w
  have hBl := hm.lt
  refine co_enter (n := 25) Try.func76 rfl rfl rfl [(0, .map (some B)), (1, .func (.func 77) #[] #[])] rfl (fun a h0 => ?_)
  refine co_seq ?_
  refine co_reg ?_
  refine pl_val (v := .slice none 0 0) h0 rfl rfl rfl (by kernel_rfl) (by kernel_rfl) (by kernel_rfl) (fun a1 h1 => ?_); clear h0
  refine pl_nil ?_
  refine co_then ?_
  refine co_seq ?_
  refine co_reg ?_
  refine pl_val (v := .map (some B)) h1 rfl rfl rfl (by kernel_rfl) (by kernel_rfl) (by kernel_rfl) (fun a2 h2 => ?_); clear h1
  refine pl_want h2 rfl rfl rfl (op_lenO (ts := #[]) rfl rfl Try.underlying110 hm (by kernel_rfl) rfl) ?_; clear h2
  rintro _ _ a3 ⟨k5, rfl, hk6, rfl⟩ h3
  refine pl_want h3 rfl rfl rfl (op_makeOwn (base := w.heap.size) (enc := valE) (k := k5) (by_ := 32) (z := .agg #[.string (⟨#[]⟩), .string (⟨#[]⟩)]) (size := 2) rfl rfl rfl Try.underlying112 (by kernel_rfl) (by omega) (by unfold maxLen; omega) (Nat.le_refl _)) ?_; clear h3
  rintro _ w8 a7 ⟨N9, rfl, hN10, hr11, hg12⟩ h7
  have hB13 := hb_new hB0 hg12
  have hz14 := hB13.size
  have hz15 := hg12.size
  have hM16 := hm.kept hg12 (by simp)
  refine pl_val (v := .slice (some ⟨N9, 0, none⟩) 0 k5) h7 rfl rfl rfl (by kernel_rfl) (by kernel_rfl) (by kernel_rfl) (fun a17 h17 => ?_); clear h7
  refine pl_nil ?_
  refine co_then ?_
  refine co_seq ?_
  refine co_seq ?_
  refine co_reg ?_
  refine pl_val (v := .map (some B)) h17 rfl rfl rfl (by kernel_rfl) (by kernel_rfl) (by kernel_rfl) (fun a18 h18 => ?_); clear h17
  refine pl_want h18 rfl rfl rfl (op_rangeO (⟨#[]⟩ : ByteArray) rfl rfl Try.underlying110 hM16) ?_; clear h18
  rintro _ w20 a19 ⟨r21, rfl, hN22, hz23, ⟨lt24, hI25, hfu26, hlc27⟩, hg28⟩ h19
  have ha29 := row_fresh hr11 hN22
  have hB30 := hb_new hB13 hg28
  have hz31 := hB30.size
  have hz32 := hg28.size
  have hM33 := hM16.kept hg28 (by simp)
  have hr34 := row_kept_new hr11 hg28
  have hl35 := hI25.lt
  refine pl_nil ?_
  refine co_then ?_
  refine wp_block ?_
  have h36 : Slots 25 [(0, .map (some B)), (1, .func (.func 77) #[] #[]), (4, .slice none 0 0), (5, .slice (some ⟨N9, 0, none⟩) 0 k5), (12, .pointer (some ⟨r21, 0, none⟩))] _ := h19.sub ⟨rfl, rfl, rfl, rfl, rfl, trivial⟩; clear h19
  refine co_loop (fun mm a x => ∃ (u : Value) (ss : List ValT) (left : List (ByteArray × ValT)) (cnt : Nat), Slots 25 [(0, .map (some B)), (1, .func (.func 77) #[] #[]), (4, .slice none 0 0), (5, u), (12, .pointer (some ⟨r21, 0, none⟩))] a ∧ mm = cnt ∧ (left.length = cnt) ∧ ((ss ++ left.map (·.2)).Perm (lt24.map (·.2))) ∧ (u ≠ .slice none 0 0) ∧ IterO strK valV x r21 B left ∧ x.ownsRow w.heap.size 111 2 u ss.length (ss.flatMap valE) ∧ Below w.heap.size w x) (lt24.length) ?_ ?_
  · exact ⟨(.slice (some ⟨N9, 0, none⟩) 0 k5), [], lt24, lt24.length, h36.sub ⟨rfl, rfl, rfl, rfl, rfl, trivial⟩, rfl, by first | rfl | (simp; done) | (simp; omega), by first | exact List.Perm.refl _ | exact hP', by first | (simp; done) | exact hnn', hI25, (row_eq hr34 (rfl)), hB30⟩
  · rintro k37 a38 w39 ⟨u, ss, left, cnt, h38, rfl, hi40, hi41, hi42, hf43, hf44, hB45⟩
    have hz46 := hB45.size
    have hl47 := hf43.lt
    have hP : (ss ++ left.map (·.2)).Perm (lt24.map (·.2)) := by assumption
    have hnn : u ≠ .slice none 0 0 := by assumption
    have hlq := hP.length_eq; simp only [List.length_append, List.length_map] at hlq
    refine co_seq ?_
    refine co_reg ?_
    refine pl_want h38 rfl rfl rfl (op_nextO rfl rfl hf43) ?_; clear h38
    rintro _ w49 a48 (⟨hnil58, rfl, rfl⟩ | ⟨p50, l51, l52, hleft53, rfl, hI54, hen55, hz56, hg57⟩) h48
    ·
      refine pl_val (v := .bool false) h48 rfl rfl rfl (by kernel_rfl) (by kernel_rfl) (by kernel_rfl) (fun a59 h59 => ?_); clear h48
      refine pl_nil ?_
      refine co_then ?_
      refine co_seq ?_
      refine co_false h59 rfl ?_
      refine wp_exit ?_
      refine co_thenX ?_
      refine co_thenX ?_
      refine co_blockX ?_
      refine co_then ?_
      refine co_seq ?_
      refine co_reg ?_
      refine pl_val (v := u) h59 rfl rfl rfl (by kernel_rfl) (by kernel_rfl) (by kernel_rfl) (fun a60 h60 => ?_); clear h59
      refine pl_val (v := .func (.func 77) #[] #[]) h60 rfl rfl rfl (by kernel_rfl) (by kernel_rfl) (by kernel_rfl) (fun a61 h61 => ?_); clear h60
      refine pl_want h61 rfl rfl rfl (op_call (args := #[u, .func (.func 77) #[] #[]]) (R := fun res xw => res = .tuple #[] ∧ ∃ l' : List ValT, l'.Perm ss ∧ SortedL (ltOf cfV) l' ∧ xw.ownsRow w.heap.size 111 2 u l'.length (l'.flatMap valE) ∧ w39.grownBy xw (Value.ownBlock u)) rfl rfl rfl (by kernel_rfl) (by kernel_rfl) (Try.call106 _ _) (sort_V u ss w39 hf44 hnn (by omega)) (by rintro e x ⟨rfl, h⟩; exact ⟨_, rfl, rfl, h⟩)) ?_; clear h61
      rintro _ w63 a62 ⟨rfl, ys64, hp65, hs66, hr67, hg68⟩ h62
      have hB69 := hb_row hB45 hf44 (by omega) hg68
      have hz70 := hB69.size
      have hz71 := hg68.size
      have hI72 := hf43.kept hg68 (hf43.row hf44).1 (hf43.row hf44).2
      have hle73 := hp65.length_eq
      refine pl_nil ?_
      refine co_then ?_
      refine co_seq ?_
      refine co_reg ?_
      refine pl_val (v := u) h62 rfl rfl rfl (by kernel_rfl) (by kernel_rfl) (by kernel_rfl) (fun a74 h74 => ?_); clear h62
      refine pl_val (v := u) h74 rfl rfl rfl (by kernel_rfl) (by kernel_rfl) (by kernel_rfl) (fun a75 h75 => ?_); clear h74
      refine pl_nil ?_
      refine co_then ?_
      refine wp_ret ?_
      refine co_ret1 h75 rfl rfl ?_
      rw [hnil58, List.map_nil, List.append_nil] at hP
      have hres := setG_of (key := fun y : ValT => y.1) lt_V hfu26 hkey hP hp65 hs66
      exact ⟨_, _, rfl, (row_lows hr67 (by omega)), hres, by omega, hB69⟩
    ·
      have hB76 := hb_at hB45 hg57 (by omega)
      have hz77 := hB76.size
      have hz78 := hg57.size
      have hr79 := row_kept_at hf44 hg57 ((hf43.row hf44).2)
      have hl80 := hI54.lt
      have hln81 : left.length = l51.length + l52.length + 1 := by rw [hleft53]; simp; omega
      refine pl_val (v := .bool true) h48 rfl rfl rfl (by kernel_rfl) (by kernel_rfl) (by kernel_rfl) (fun a82 h82 => ?_); clear h48
      refine pl_nil ?_
      refine co_then ?_
      refine co_seq ?_
      refine co_true h82 rfl ?_
      refine wp_skip ?_
      refine co_then ?_
      refine wp_block ?_
      refine co_seq ?_
      refine co_reg ?_
      refine pl_val (v := .tuple #[.string p50.1, .agg #[.string p50.2.1, .string p50.2.2]]) h82 rfl rfl rfl (by kernel_rfl) (by kernel_rfl) (rn_entry rfl rfl hen55) (fun a83 h83 => ?_); clear h82
      refine pl_val (v := .agg #[.string p50.2.1, .string p50.2.2]) h83 rfl rfl rfl (by kernel_rfl) (by kernel_rfl) (by kernel_rfl) (fun a84 h84 => ?_); clear h83
      refine pl_want h84 rfl rfl rfl (op_new (v := fun N => .pointer (some ⟨N, 0, none⟩)) (T := 111) (cs := #[.string (⟨#[]⟩), .string (⟨#[]⟩)]) (by kernel_rfl) (by kernel_rfl) (by kernel_rfl)) ?_; clear h84
      rintro _ w86 a85 ⟨N87, rfl, hN90, hz91, hk89, hg88⟩ h85
      have ha92 := row_fresh hr79 hN90
      have hB93 := hb_new hB76 hg88
      have hz94 := hB93.size
      have hz95 := hg88.size
      have hr96 := row_kept_new hr79 hg88
      have hI97 := hI54.kept hg88 (by simp) (by simp)
      try dsimp only at h85
      refine pl_doW h85 rfl rfl (op_storeN rfl rfl rfl (by kernel_rfl) (by kernel_rfl) hk89 rfl) ?_; clear h85
      rintro _ w99 a98 ⟨hk100, hz101, hg102⟩ h98
      have hk100' : Blk w99 N87 111 #[.string p50.2.1, .string p50.2.2] := hk100; clear hk100
      have hB103 := hb_at hB93 hg102 (by omega)
      have hz104 := hB103.size
      have hz105 := hg102.size
      have hr106 := row_kept_at hr96 hg102 (ha92)
      have hI107 := hI97.kept hg102 (by simp; omega) (by simp; omega)
      refine pl_nil ?_
      refine co_then ?_
      refine co_reg ?_
      refine pl_val (v := u) h98 rfl rfl rfl (by kernel_rfl) (by kernel_rfl) (by kernel_rfl) (fun a108 h108 => ?_); clear h98
      refine pl_val (v := .agg #[.string p50.2.1, .string p50.2.2]) h108 rfl rfl rfl (by kernel_rfl) (by kernel_rfl) (rn_loadN rfl rfl Try.underlying111 rfl (by kernel_rfl) hk100'.all) (fun a109 h109 => ?_); clear h108
      refine pl_want h109 rfl rfl rfl (op_new (v := fun N => .slice (some ⟨N, 0, none⟩) 1 1) (T := 111) (cs := #[.string p50.2.1, .string p50.2.2]) (by kernel_rfl) (by kernel_rfl) (by kernel_rfl)) ?_; clear h109
      rintro _ w111 a110 ⟨N112, rfl, hN115, hz116, hk114, hg113⟩ h110
      have ha117 := row_fresh hr106 hN115
      have hB118 := hb_new hB103 hg113
      have hz119 := hB118.size
      have hz120 := hg113.size
      have hr121 := row_kept_new hr106 hg113
      have hI122 := hI107.kept hg113 (by simp) (by simp)
      have hk123 := hk100'.kept hg113 (by simp)
      try dsimp only at h110
      refine pl_want h110 rfl rfl rfl (op_append rfl w.heap.size 111 (z := .agg #[.string (⟨#[]⟩), .string (⟨#[]⟩)]) (size := 2) (bytes := 32) Try.underlying112 (by kernel_rfl) rfl rfl rfl hr121 rfl hk114 rfl (by kernel_rfl) (by first | omega | (simp only [List.length_nil, List.length_append, List.length_cons, List.length_take, List.length_drop]; omega)) (by first | omega | (simp only [List.length_nil, List.length_append, List.length_cons, List.length_take, List.length_drop]; omega)) (by omega)) ?_; clear h110
      rintro v126 w125 a124 ⟨hr127, hg128⟩ h124
      have hr127' : w125.ownsRow w.heap.size 111 2 v126 ((ss ++ [(p50.2.1, p50.2.2)]).length) ((ss ++ [(p50.2.1, p50.2.2)]).flatMap valE) := row_push (y := (p50.2.1, p50.2.2)) hr127 rfl rfl; clear hr127
      have hB129 := hb_row hB118 hr121 (by omega) hg128
      have hz130 := hB129.size
      have hz131 := hg128.size
      have hI132 := hI122.kept hg128 (hI122.row hr121).1 (hI122.row hr121).2
      have hk133 := hk123.kept hg128 (ha92)
      have hk134 := hk114.kept hg128 (ha117)
      refine pl_val (v := v126) h124 rfl rfl rfl (by kernel_rfl) (by kernel_rfl) (by kernel_rfl) (fun a135 h135 => ?_); clear h124
      refine pl_nil ?_
      refine co_blockN ?_
      refine co_then ?_
      refine ⟨(l51.length + l52.length), by omega, ?_⟩
      rw [hleft53] at hP
      have hP' := perm_step hP
      have hnn' := row_some hr127' (by simp)
      exact ⟨v126, ss ++ [(p50.2.1, p50.2.2)], l51 ++ l52, l51.length + l52.length, h135.sub ⟨rfl, rfl, rfl, rfl, rfl, trivial⟩, rfl, by first | rfl | (simp; done) | (simp; omega), by first | exact List.Perm.refl _ | exact hP', by first | (simp; done) | exact hnn', hI132, (row_eq hr127' (rfl)), hB129⟩
set_option maxRecDepth 100000 in
theorem sorted_O (B : Nat) (g : ByteArray → Option OpT) (c : Nat) (w : World) (hm : MapO strK opV w B g c) (hc : c ≤ 1000000) (hkey : ∀ k v, g k = some v → v.1 = k) :
    Calls Try.prog 78 #[.map (some B), .func (.func 79) #[] #[]] w fun e w' => ∃ (ys : List OpT) (u : Value), e = .returned (u) ∧ w'.ownsRow w.heap.size 117 3 u ys.length (ys.flatMap opE) ∧ SetG (fun y : OpT => y.1) g ys ∧ ys.length ≤ c ∧ Below w.heap.size w w' := by
  have hB0 := Below.refl w.heap.size w
  have hBl := hm.lt
  refine co_enter (n := 25) Try.func78 rfl rfl rfl [(0, .map (some B)), (1, .func (.func 79) #[] #[])] rfl (fun a h0 => ?_)
  refine co_seq ?_
  refine co_reg ?_
  refine pl_val (v := .slice none 0 0) h0 rfl rfl rfl (by kernel_rfl) (by kernel_rfl) (by kernel_rfl) (fun a1 h1 => ?_); clear h0
  refine pl_nil ?_
  refine co_then ?_
  refine co_seq ?_
  refine co_reg ?_
  refine pl_val (v := .map (some B)) h1 rfl rfl rfl (by kernel_rfl) (by kernel_rfl) (by kernel_rfl) (fun a2 h2 => ?_); clear h1
  refine pl_want h2 rfl rfl rfl (op_lenO (ts := #[]) rfl rfl Try.underlying116 hm (by kernel_rfl) rfl) ?_; clear h2
  rintro _ _ a3 ⟨k5, rfl, hk6, rfl⟩ h3
  refine pl_want h3 rfl rfl rfl (op_makeOwn (base := w.heap.size) (enc := opE) (k := k5) (by_ := 40) (z := .agg #[.string (⟨#[]⟩), .string (⟨#[]⟩), .bool false]) (size := 3) rfl rfl rfl Try.underlying118 (by kernel_rfl) (by omega) (by unfold maxLen; omega) (Nat.le_refl _)) ?_; clear h3
  rintro _ w8 a7 ⟨N9, rfl, hN10, hr11, hg12⟩ h7
  have hB13 := hb_new hB0 hg12
  have hz14 := hB13.size
  have hz15 := hg12.size
  have hM16 := hm.kept hg12 (by simp)
  refine pl_val (v := .slice (some ⟨N9, 0, none⟩) 0 k5) h7 rfl rfl rfl (by kernel_rfl) (by kernel_rfl) (by kernel_rfl) (fun a17 h17 => ?_); clear h7
  refine pl_nil ?_
  refine co_then ?_
  refine co_seq ?_
  refine co_seq ?_
  refine co_reg ?_
  refine pl_val (v := .map (some B)) h17 rfl rfl rfl (by kernel_rfl) (by kernel_rfl) (by kernel_rfl) (fun a18 h18 => ?_); clear h17
  refine pl_want h18 rfl rfl rfl (op_rangeO (⟨#[]⟩ : ByteArray) rfl rfl Try.underlying116 hM16) ?_; clear h18
  rintro _ w20 a19 ⟨r21, rfl, hN22, hz23, ⟨lt24, hI25, hfu26, hlc27⟩, hg28⟩ h19
  have ha29 := row_fresh hr11 hN22
  have hB30 := hb_new hB13 hg28
  have hz31 := hB30.size
  have hz32 := hg28.size
  have hM33 := hM16.kept hg28 (by simp)
  have hr34 := row_kept_new hr11 hg28
  have hl35 := hI25.lt
  refine pl_nil ?_
  refine co_then ?_
  refine wp_block ?_
  have h36 : Slots 25 [(0, .map (some B)), (1, .func (.func 79) #[] #[]), (4, .slice none 0 0), (5, .slice (some ⟨N9, 0, none⟩) 0 k5), (12, .pointer (some ⟨r21, 0, none⟩))] _ := h19.sub ⟨rfl, rfl, rfl, rfl, rfl, trivial⟩; clear h19
  refine co_loop (fun mm a x => ∃ (u : Value) (ss : List OpT) (left : List (ByteArray × OpT)) (cnt : Nat), Slots 25 [(0, .map (some B)), (1, .func (.func 79) #[] #[]), (4, .slice none 0 0), (5, u), (12, .pointer (some ⟨r21, 0, none⟩))] a ∧ mm = cnt ∧ (left.length = cnt) ∧ ((ss ++ left.map (·.2)).Perm (lt24.map (·.2))) ∧ (u ≠ .slice none 0 0) ∧ IterO strK opV x r21 B left ∧ x.ownsRow w.heap.size 117 3 u ss.length (ss.flatMap opE) ∧ Below w.heap.size w x) (lt24.length) ?_ ?_
  · exact ⟨(.slice (some ⟨N9, 0, none⟩) 0 k5), [], lt24, lt24.length, h36.sub ⟨rfl, rfl, rfl, rfl, rfl, trivial⟩, rfl, by first | rfl | (simp; done) | (simp; omega), by first | exact List.Perm.refl _ | exact hP', by first | (simp; done) | exact hnn', hI25, (row_eq hr34 (rfl)), hB30⟩
  · rintro k37 a38 w39 ⟨u, ss, left, cnt, h38, rfl, hi40, hi41, hi42, hf43, hf44, hB45⟩
    have hz46 := hB45.size
    have hl47 := hf43.lt
    have hP : (ss ++ left.map (·.2)).Perm (lt24.map (·.2)) := by assumption
    have hnn : u ≠ .slice none 0 0 := by assumption
    have hlq := hP.length_eq; simp only [List.length_append, List.length_map] at hlq
    refine co_seq ?_
    refine co_reg ?_
    refine pl_want h38 rfl rfl rfl (op_nextO rfl rfl hf43) ?_; clear h38
    rintro _ w49 a48 (⟨hnil58, rfl, rfl⟩ | ⟨p50, l51, l52, hleft53, rfl, hI54, hen55, hz56, hg57⟩) h48
    ·
      refine pl_val (v := .bool false) h48 rfl rfl rfl (by kernel_rfl) (by kernel_rfl) (by kernel_rfl) (fun a59 h59 => ?_); clear h48
      refine pl_nil ?_
      refine co_then ?_
      refine co_seq ?_
      refine co_false h59 rfl ?_
      refine wp_exit ?_
      refine co_thenX ?_
      refine co_thenX ?_
      refine co_blockX ?_
      refine co_then ?_
      refine co_seq ?_
      refine co_reg ?_
      refine pl_val (v := u) h59 rfl rfl rfl (by kernel_rfl) (by kernel_rfl) (by kernel_rfl) (fun a60 h60 => ?_); clear h59
      refine pl_val (v := .func (.func 79) #[] #[]) h60 rfl rfl rfl (by kernel_rfl) (by kernel_rfl) (by kernel_rfl) (fun a61 h61 => ?_); clear h60
      refine pl_want h61 rfl rfl rfl (op_call (args := #[u, .func (.func 79) #[] #[]]) (R := fun res xw => res = .tuple #[] ∧ ∃ l' : List OpT, l'.Perm ss ∧ SortedL (ltOf cfO) l' ∧ xw.ownsRow w.heap.size 117 3 u l'.length (l'.flatMap opE) ∧ w39.grownBy xw (Value.ownBlock u)) rfl rfl rfl (by kernel_rfl) (by kernel_rfl) (Try.call108 _ _) (sort_O u ss w39 hf44 hnn (by omega)) (by rintro e x ⟨rfl, h⟩; exact ⟨_, rfl, rfl, h⟩)) ?_; clear h61
      rintro _ w63 a62 ⟨rfl, ys64, hp65, hs66, hr67, hg68⟩ h62
      have hB69 := hb_row hB45 hf44 (by omega) hg68
      have hz70 := hB69.size
      have hz71 := hg68.size
      have hI72 := hf43.kept hg68 (hf43.row hf44).1 (hf43.row hf44).2
      have hle73 := hp65.length_eq
      refine pl_nil ?_
      refine co_then ?_
      refine co_seq ?_
      refine co_reg ?_
      refine pl_val (v := u) h62 rfl rfl rfl (by kernel_rfl) (by kernel_rfl) (by kernel_rfl) (fun a74 h74 => ?_); clear h62
      refine pl_val (v := u) h74 rfl rfl rfl (by kernel_rfl) (by kernel_rfl) (by kernel_rfl) (fun a75 h75 => ?_); clear h74
      refine pl_nil ?_
      refine co_then ?_
      refine wp_ret ?_
      refine co_ret1 h75 rfl rfl ?_
      rw [hnil58, List.map_nil, List.append_nil] at hP
      have hres := setG_of (key := fun y : OpT => y.1) lt_O hfu26 hkey hP hp65 hs66
      exact ⟨_, _, rfl, (row_lows hr67 (by omega)), hres, by omega, hB69⟩
    ·
      have hB76 := hb_at hB45 hg57 (by omega)
      have hz77 := hB76.size
      have hz78 := hg57.size
      have hr79 := row_kept_at hf44 hg57 ((hf43.row hf44).2)
      have hl80 := hI54.lt
      have hln81 : left.length = l51.length + l52.length + 1 := by rw [hleft53]; simp; omega
      refine pl_val (v := .bool true) h48 rfl rfl rfl (by kernel_rfl) (by kernel_rfl) (by kernel_rfl) (fun a82 h82 => ?_); clear h48
      refine pl_nil ?_
      refine co_then ?_
      refine co_seq ?_
      refine co_true h82 rfl ?_
      refine wp_skip ?_
      refine co_then ?_
      refine wp_block ?_
      refine co_seq ?_
      refine co_reg ?_
      refine pl_val (v := .tuple #[.string p50.1, .agg #[.string p50.2.1, .string p50.2.2.1, .bool p50.2.2.2]]) h82 rfl rfl rfl (by kernel_rfl) (by kernel_rfl) (rn_entry rfl rfl hen55) (fun a83 h83 => ?_); clear h82
      refine pl_val (v := .agg #[.string p50.2.1, .string p50.2.2.1, .bool p50.2.2.2]) h83 rfl rfl rfl (by kernel_rfl) (by kernel_rfl) (by kernel_rfl) (fun a84 h84 => ?_); clear h83
      refine pl_want h84 rfl rfl rfl (op_new (v := fun N => .pointer (some ⟨N, 0, none⟩)) (T := 117) (cs := #[.string (⟨#[]⟩), .string (⟨#[]⟩), .bool false]) (by kernel_rfl) (by kernel_rfl) (by kernel_rfl)) ?_; clear h84
      rintro _ w86 a85 ⟨N87, rfl, hN90, hz91, hk89, hg88⟩ h85
      have ha92 := row_fresh hr79 hN90
      have hB93 := hb_new hB76 hg88
      have hz94 := hB93.size
      have hz95 := hg88.size
      have hr96 := row_kept_new hr79 hg88
      have hI97 := hI54.kept hg88 (by simp) (by simp)
      try dsimp only at h85
      refine pl_doW h85 rfl rfl (op_storeN rfl rfl rfl (by kernel_rfl) (by kernel_rfl) hk89 rfl) ?_; clear h85
      rintro _ w99 a98 ⟨hk100, hz101, hg102⟩ h98
      have hk100' : Blk w99 N87 117 #[.string p50.2.1, .string p50.2.2.1, .bool p50.2.2.2] := hk100; clear hk100
      have hB103 := hb_at hB93 hg102 (by omega)
      have hz104 := hB103.size
      have hz105 := hg102.size
      have hr106 := row_kept_at hr96 hg102 (ha92)
      have hI107 := hI97.kept hg102 (by simp; omega) (by simp; omega)
      refine pl_nil ?_
      refine co_then ?_
      refine co_reg ?_
      refine pl_val (v := u) h98 rfl rfl rfl (by kernel_rfl) (by kernel_rfl) (by kernel_rfl) (fun a108 h108 => ?_); clear h98
      refine pl_val (v := .agg #[.string p50.2.1, .string p50.2.2.1, .bool p50.2.2.2]) h108 rfl rfl rfl (by kernel_rfl) (by kernel_rfl) (rn_loadN rfl rfl Try.underlying117 rfl (by kernel_rfl) hk100'.all) (fun a109 h109 => ?_); clear h108
      refine pl_want h109 rfl rfl rfl (op_new (v := fun N => .slice (some ⟨N, 0, none⟩) 1 1) (T := 117) (cs := #[.string p50.2.1, .string p50.2.2.1, .bool p50.2.2.2]) (by kernel_rfl) (by kernel_rfl) (by kernel_rfl)) ?_; clear h109
      rintro _ w111 a110 ⟨N112, rfl, hN115, hz116, hk114, hg113⟩ h110
      have ha117 := row_fresh hr106 hN115
      have hB118 := hb_new hB103 hg113
      have hz119 := hB118.size
      have hz120 := hg113.size
      have hr121 := row_kept_new hr106 hg113
      have hI122 := hI107.kept hg113 (by simp) (by simp)
      have hk123 := hk100'.kept hg113 (by simp)
      try dsimp only at h110
      refine pl_want h110 rfl rfl rfl (op_append rfl w.heap.size 117 (z := .agg #[.string (⟨#[]⟩), .string (⟨#[]⟩), .bool false]) (size := 3) (bytes := 40) Try.underlying118 (by kernel_rfl) rfl rfl rfl hr121 rfl hk114 rfl (by kernel_rfl) (by first | omega | (simp only [List.length_nil, List.length_append, List.length_cons, List.length_take, List.length_drop]; omega)) (by first | omega | (simp only [List.length_nil, List.length_append, List.length_cons, List.length_take, List.length_drop]; omega)) (by omega)) ?_; clear h110
      rintro v126 w125 a124 ⟨hr127, hg128⟩ h124
      have hr127' : w125.ownsRow w.heap.size 117 3 v126 ((ss ++ [(p50.2.1, p50.2.2.1, p50.2.2.2)]).length) ((ss ++ [(p50.2.1, p50.2.2.1, p50.2.2.2)]).flatMap opE) := row_push (y := (p50.2.1, p50.2.2.1, p50.2.2.2)) hr127 rfl rfl; clear hr127
      have hB129 := hb_row hB118 hr121 (by omega) hg128
      have hz130 := hB129.size
      have hz131 := hg128.size
      have hI132 := hI122.kept hg128 (hI122.row hr121).1 (hI122.row hr121).2
      have hk133 := hk123.kept hg128 (ha92)
      have hk134 := hk114.kept hg128 (ha117)
      refine pl_val (v := v126) h124 rfl rfl rfl (by kernel_rfl) (by kernel_rfl) (by kernel_rfl) (fun a135 h135 => ?_); clear h124
      refine pl_nil ?_
      refine co_blockN ?_
      refine co_then ?_
      refine ⟨(l51.length + l52.length), by omega, ?_⟩
      rw [hleft53] at hP
      have hP' := perm_step hP
      have hnn' := row_some hr127' (by simp)
      exact ⟨v126, ss ++ [(p50.2.1, p50.2.2.1, p50.2.2.2)], l51 ++ l52, l51.length + l52.length, h135.sub ⟨rfl, rfl, rfl, rfl, rfl, trivial⟩, rfl, by first | rfl | (simp; done) | (simp; omega), by first | exact List.Perm.refl _ | exact hP', by first | (simp; done) | exact hnn', hI132, (row_eq hr127' (rfl)), hB129⟩
end Go.Proofs.Ytciilfkjecmdiaa

/- Package ops: Norm. Conditions: at most 1000000 operations. -/
namespace Go.Proofs.Ytciilfkjecmdiaa
open Go.RowKit Go.PlainAid
set_option linter.unusedVariables false

open Go.Sort Go.Shelf Go.Lib

def lastF (g : ByteArray → Option OpT) (o : OpT) : ByteArray → Option OpT := fun b => if b = o.1 then some o else g b
/-- The last operation of each key. -/
def lastG (l : List OpT) : ByteArray → Option OpT := l.foldl lastF (fun _ => none)
theorem lastG_snoc (l : List OpT) (o : OpT) : lastG (l ++ [o]) = lastF (lastG l) o := by unfold lastG; rw [List.foldl_append]; rfl
theorem lastG_at {l : List OpT} {i : Nat} {y : OpT} (h : l[i]? = some y) : (fun b => if b = y.1 then some (y.1, y.2.1, y.2.2) else lastG (l.take i) b) = lastG (l.take (i + 1)) := by rw [takeO_at h, lastG_snoc]; rfl
theorem snoc_ind {α : Type} {C : List α → Prop} (h0 : C []) (h1 : ∀ l a, C l → C (l ++ [a])) (l : List α) : C l := by
  have : ∀ r : List α, C r.reverse := fun r => by
    induction r with
    | nil => exact h0
    | cons a r ih => rw [List.reverse_cons]; exact h1 _ _ ih
  rw [← List.reverse_reverse l]; exact this _
theorem lastG_key (l : List OpT) : ∀ k v, lastG l k = some v → v.1 = k := by
  refine snoc_ind (C := fun l => ∀ k v, lastG l k = some v → v.1 = k) (fun k v h => by cases h) (fun l o ih k v h => ?_) l
  rw [lastG_snoc] at h
  unfold lastF at h
  by_cases e : k = o.1
  · rw [if_pos e] at h; cases h; exact e.symm
  · rw [if_neg e] at h; exact ih k v h
def pairF (g : ByteArray → Option ValT) (o : ValT) : ByteArray → Option ValT := fun b => if b = o.1 then some o else g b
def pairG (l : List ValT) : ByteArray → Option ValT := l.foldl pairF (fun _ => none)
theorem pairG_snoc (l : List ValT) (o : ValT) : pairG (l ++ [o]) = pairF (pairG l) o := by unfold pairG; rw [List.foldl_append]; rfl
theorem pairG_at {l : List ValT} {i : Nat} {y : ValT} (h : l[i]? = some y) : (fun b => if b = y.1 then some (y.1, y.2) else pairG (l.take i) b) = pairG (l.take (i + 1)) := by rw [takeO_at h, pairG_snoc]; rfl
def ovF (g : ByteArray → Option ValT) (o : OpT) : ByteArray → Option ValT := fun b => if b = o.1 then (if o.2.2 = true then none else some (o.1, o.2.1)) else g b
/-- What the pairs are behind the operations. -/
def ovG (l : List ValT) (m : List OpT) : ByteArray → Option ValT := m.foldl ovF (pairG l)
theorem ovG_snoc (l : List ValT) (m : List OpT) (o : OpT) : ovG l (m ++ [o]) = ovF (ovG l m) o := by unfold ovG; rw [List.foldl_append]; rfl
theorem ovG_del {l : List ValT} {m : List OpT} {i : Nat} {y : OpT} (h : m[i]? = some y) (hd : y.2.2 = true) : (fun b => if b = y.1 then none else ovG l (m.take i) b) = ovG l (m.take (i + 1)) := by
  rw [takeO_at h, ovG_snoc]; unfold ovF; rw [if_pos hd]
theorem ovG_put {l : List ValT} {m : List OpT} {i : Nat} {y : OpT} (h : m[i]? = some y) (hd : y.2.2 = false) : (fun b => if b = y.1 then some (y.1, y.2.1) else ovG l (m.take i) b) = ovG l (m.take (i + 1)) := by
  rw [takeO_at h, ovG_snoc]; unfold ovF; rw [if_neg (by simp [hd])]
theorem pairG_key (l : List ValT) : ∀ k v, pairG l k = some v → v.1 = k := by
  refine snoc_ind (C := fun l => ∀ k v, pairG l k = some v → v.1 = k) (fun k v h => by cases h) (fun l o ih k v h => ?_) l
  rw [pairG_snoc] at h
  unfold pairF at h
  by_cases e : k = o.1
  · rw [if_pos e] at h; cases h; exact e.symm
  · rw [if_neg e] at h; exact ih k v h
theorem ovG_key (l : List ValT) (m : List OpT) : ∀ k v, ovG l m k = some v → v.1 = k := by
  refine snoc_ind (C := fun m => ∀ k v, ovG l m k = some v → v.1 = k) (pairG_key l) (fun m o ih k v h => ?_) m
  rw [ovG_snoc] at h
  unfold ovF at h
  by_cases e : k = o.1
  · rw [if_pos e] at h
    by_cases d : o.2.2 = true
    · rw [if_pos d] at h; cases h
    · rw [if_neg d] at h; cases h; exact e.symm
  · rw [if_neg e] at h; exact ih k v h
theorem take_snoc' {α : Type} {l : List α} {i : Nat} {y : α} (h : l[i]? = some y) : l.take i ++ [y] = l.take (i + 1) := (takeO_at h).symm

set_option maxRecDepth 100000 in
theorem opsNorm_any (v : Value) (l : List OpT) (w : World) (hs : SliceOf opE 3 w v l) (hlen : l.length ≤ 1000000) :
    Calls Try.prog 24 #[v] w fun e w' => ∃ (ys : List OpT) (u : Value), e = .returned (u) ∧ w'.ownsRow w.heap.size 83 3 u ys.length (ys.flatMap opE) ∧ SetG (fun y : OpT => y.1) (lastG l) ys ∧ ys.length ≤ l.length ∧ Below w.heap.size w w' := by
  have hB0 := Below.refl w.heap.size w
  have hl_hs := sl_len hs
  refine co_enter (n := 37) Try.func24 rfl rfl rfl [(0, v)] rfl (fun a h0 => ?_)
  refine co_seq ?_
  refine co_reg ?_
  refine pl_val (v := .slice none 0 0) h0 rfl rfl rfl (by kernel_rfl) (by kernel_rfl) (by kernel_rfl) (fun a1 h1 => ?_); clear h0
  refine pl_nil ?_
  refine co_then ?_
  refine co_seq ?_
  refine co_reg ?_
  refine pl_want h1 rfl rfl rfl (op_makeO strK opV (by kernel_rfl) (by kernel_rfl) rfl) ?_; clear h1
  rintro _ w3 a2 ⟨B4, rfl, hN5, hz6, hm7, hg8⟩ h2
  have hB9 := hb_new hB0 hg8
  have hz10 := hB9.size
  have hz11 := hg8.size
  have hl12 := hm7.lt
  refine pl_val (v := .map (some B4)) h2 rfl rfl rfl (by kernel_rfl) (by kernel_rfl) (by kernel_rfl) (fun a13 h13 => ?_); clear h2
  refine pl_nil ?_
  refine co_then ?_
  refine co_seq ?_
  refine co_seq ?_
  refine co_reg ?_
  refine pl_val (v := v) h13 rfl rfl rfl (by kernel_rfl) (by kernel_rfl) (by kernel_rfl) (fun a14 h14 => ?_); clear h13
  refine pl_val (v := .int .i64 ((l.length : Nat) : Int)) h14 rfl rfl rfl (by kernel_rfl) (by kernel_rfl) (rn_len rfl rfl Try.underlying22 (hs.below hB9)) (fun a15 h15 => ?_); clear h14
  refine pl_val (v := .int .i64 0) h15 rfl rfl rfl (by kernel_rfl) (by kernel_rfl) (by kernel_rfl) (fun a16 h16 => ?_); clear h15
  refine pl_nil ?_
  refine co_then ?_
  refine wp_block ?_
  have h17 : Slots 37 [(2, .slice none 0 0), (3, .map (some B4)), (10, v), (11, .int .i64 ((l.length : Nat) : Int)), (12, .int .i64 0)] _ := h16.sub ⟨rfl, rfl, rfl, rfl, rfl, trivial⟩; clear h16
  refine co_loop (fun mm a x => ∃ (i : Nat), Slots 37 [(2, .slice none 0 0), (3, .map (some B4)), (10, v), (11, .int .i64 ((l.length : Nat) : Int)), (12, .int .i64 ((i : Nat) : Int))] a ∧ mm = l.length - i ∧ (i ≤ l.length) ∧ MapO strK opV x B4 (lastG (l.take i)) (i) ∧ Below w.heap.size w x) (l.length - 0) ?_ ?_
  · exact ⟨0, h17.sub ⟨rfl, rfl, rfl, rfl, (slot_eq rfl (congrArg (Value.int .i64) (by first | rfl | omega))), trivial⟩, rfl, by omega, (hm7.eq (by first | rfl | exact lastG_at (by assumption)) (by omega)), hB9⟩
  · rintro k18 a19 w20 ⟨i, h19, rfl, hi21, hf22, hB23⟩
    have hz24 := hB23.size
    have hl25 := hf22.lt
    refine co_seq ?_
    refine co_reg ?_
    refine pl_val (v := .bool (decide (((i : Nat) : Int) < ((l.length : Nat) : Int)))) h19 rfl rfl rfl (by kernel_rfl) (by kernel_rfl) (by kernel_rfl) (fun a26 h26 => ?_); clear h19
    refine pl_nil ?_
    refine co_then ?_
    refine co_seq ?_
    cases hc27 : (decide (((i : Nat) : Int) < ((l.length : Nat) : Int)))
    ·
      rw [hc27] at h26
      have hp28 : ¬ (((i : Nat) : Int) < ((l.length : Nat) : Int)) := of_decide_eq_false hc27
      clear hc27
      refine co_false h26 rfl ?_
      refine wp_exit ?_
      refine co_thenX ?_
      refine co_thenX ?_
      refine co_blockX ?_
      refine co_then ?_
      refine co_seq ?_
      refine co_reg ?_
      refine pl_val (v := .map (some B4)) h26 rfl rfl rfl (by kernel_rfl) (by kernel_rfl) (by kernel_rfl) (fun a29 h29 => ?_); clear h26
      refine pl_want h29 rfl rfl rfl (op_lenO (ts := #[]) rfl rfl Try.underlying116 hf22 (by kernel_rfl) rfl) ?_; clear h29
      rintro _ _ a30 ⟨k32, rfl, hk33, rfl⟩ h30
      refine pl_want h30 rfl rfl rfl (op_makeOwn (base := w20.heap.size) (enc := opE) (k := k32) (by_ := 40) (z := .agg #[.string (⟨#[]⟩), .string (⟨#[]⟩), .bool false]) (size := 3) rfl rfl rfl Try.underlying22 (by kernel_rfl) (by omega) (by unfold maxLen; omega) (Nat.le_refl _)) ?_; clear h30
      rintro _ w35 a34 ⟨N36, rfl, hN37, hr38, hg39⟩ h34
      have hB40 := hb_new hB23 hg39
      have hz41 := hB40.size
      have hz42 := hg39.size
      have hM43 := hf22.kept hg39 (by simp)
      refine pl_val (v := .slice (some ⟨N36, 0, none⟩) 0 k32) h34 rfl rfl rfl (by kernel_rfl) (by kernel_rfl) (by kernel_rfl) (fun a44 h44 => ?_); clear h34
      refine pl_nil ?_
      refine co_then ?_
      refine co_seq ?_
      refine co_seq ?_
      refine co_reg ?_
      refine pl_val (v := .map (some B4)) h44 rfl rfl rfl (by kernel_rfl) (by kernel_rfl) (by kernel_rfl) (fun a45 h45 => ?_); clear h44
      refine pl_want h45 rfl rfl rfl (op_call (args := #[.map (some B4), .func (.func 79) #[] #[]]) (R := fun res xw => ∃ ys : List OpT, ∃ u : Value, res = u ∧ xw.ownsRow w35.heap.size 117 3 u ys.length (ys.flatMap opE) ∧ SetG (fun y : OpT => y.1) (lastG (l.take i)) ys ∧ ys.length ≤ i ∧ Below w35.heap.size w35 xw) rfl rfl rfl (by kernel_rfl) (by kernel_rfl) (Try.call78 _ _) (sorted_O B4 (lastG (l.take i)) i w35 hM43 (by omega) (lastG_key _)) (by rintro e x ⟨ys, u, rfl, hq50, hq51, hq52, hb53⟩; exact ⟨_, rfl, ⟨ys, u, rfl, hq50, hq51, hq52, hb53⟩⟩)) ?_; clear h45
      rintro u49 w47 a46 ⟨ys48, _, rfl, hq50, hq51, hq52, hb53⟩ h46
      have hB54 := hb_call hB40 hb53
      have hz55 := hB54.size
      have hz56 := hb53.size
      have hM57 := hM43.kept (below_grown hb53) (by simp)
      have hr58 := row_kept_new hr38 (below_grown hb53)
      have hl59 := sl_len (row_sl hq50 opE_len)
      refine pl_val (v := .int .i64 ((ys48.length : Nat) : Int)) h46 rfl rfl rfl (by kernel_rfl) (by kernel_rfl) (rn_lenOwn rfl rfl Try.underlying118 hq50) (fun a60 h60 => ?_); clear h46
      refine pl_val (v := .int .i64 0) h60 rfl rfl rfl (by kernel_rfl) (by kernel_rfl) (by kernel_rfl) (fun a61 h61 => ?_); clear h60
      refine pl_nil ?_
      refine co_then ?_
      refine wp_block ?_
      have h62 : Slots 37 [(2, .slice none 0 0), (6, .slice (some ⟨N36, 0, none⟩) 0 k32), (25, u49), (26, .int .i64 ((ys48.length : Nat) : Int)), (27, .int .i64 0)] _ := h61.sub ⟨rfl, rfl, rfl, rfl, rfl, trivial⟩; clear h61
      refine co_loop (fun mm a x => ∃ (j : Nat) (u : Value), Slots 37 [(2, .slice none 0 0), (6, u), (25, u49), (26, .int .i64 ((ys48.length : Nat) : Int)), (27, .int .i64 ((j : Nat) : Int))] a ∧ mm = ys48.length - j ∧ (j ≤ ys48.length) ∧ x.ownsRow w35.heap.size 117 3 u49 ys48.length (ys48.flatMap opE) ∧ x.ownsRow w.heap.size 83 3 u (ys48.take j).length ((ys48.take j).flatMap opE) ∧ Below w.heap.size w x) (ys48.length - 0) ?_ ?_
      · exact ⟨0, (.slice (some ⟨N36, 0, none⟩) 0 k32), h62.sub ⟨rfl, rfl, rfl, rfl, (slot_eq rfl (congrArg (Value.int .i64) (by first | rfl | omega))), trivial⟩, rfl, by omega, hq50, (row_eq (row_lows hr58 (by omega)) (by first | rfl | exact take_snoc' (by assumption))), hB54⟩
      · rintro k63 a64 w65 ⟨j, u, h64, rfl, hi66, hf67, hf68, hB69⟩
        have hz70 := hB69.size
        have hst : (ys48.take j).length ≤ j := List.length_take_le _ _
        refine co_seq ?_
        refine co_reg ?_
        refine pl_val (v := .bool (decide (((j : Nat) : Int) < ((ys48.length : Nat) : Int)))) h64 rfl rfl rfl (by kernel_rfl) (by kernel_rfl) (by kernel_rfl) (fun a71 h71 => ?_); clear h64
        refine pl_nil ?_
        refine co_then ?_
        refine co_seq ?_
        cases hc72 : (decide (((j : Nat) : Int) < ((ys48.length : Nat) : Int)))
        ·
          rw [hc72] at h71
          have hp73 : ¬ (((j : Nat) : Int) < ((ys48.length : Nat) : Int)) := of_decide_eq_false hc72
          clear hc72
          refine co_false h71 rfl ?_
          refine wp_exit ?_
          refine co_thenX ?_
          refine co_thenX ?_
          refine co_blockX ?_
          refine co_then ?_
          refine co_seq ?_
          refine co_reg ?_
          refine pl_val (v := u) h71 rfl rfl rfl (by kernel_rfl) (by kernel_rfl) (by kernel_rfl) (fun a74 h74 => ?_); clear h71
          refine pl_val (v := u) h74 rfl rfl rfl (by kernel_rfl) (by kernel_rfl) (by kernel_rfl) (fun a75 h75 => ?_); clear h74
          refine pl_nil ?_
          refine co_then ?_
          refine wp_ret ?_
          refine co_ret1 h75 rfl rfl ?_
          exact ⟨_, _, rfl, (row_eq (row_lows hf68 (by omega)) (List.take_of_length_le (by omega))), (by have := hq51; rwa [List.take_of_length_le (show l.length ≤ i by omega)] at this), by omega, hB69⟩
        ·
          rw [hc72] at h71
          have hp76 : ((j : Nat) : Int) < ((ys48.length : Nat) : Int) := of_decide_eq_true hc72
          clear hc72
          refine co_true h71 rfl ?_
          refine wp_skip ?_
          refine co_then ?_
          refine co_seq ?_
          refine wp_block ?_
          refine co_seq ?_
          refine co_reg ?_
          obtain ⟨y77, hy77⟩ : ∃ z, ys48[j]? = some z := ⟨_, List.getElem?_eq_getElem (by first | omega | (simp; done) | (simp; omega))⟩
          refine pl_val (v := .pointer (some ⟨(blkOf u49), offOf u49 + j * 3, none⟩)) h71 rfl rfl rfl (by kernel_rfl) (by kernel_rfl) (rn_index rfl rfl rfl Try.underlying118 Try.sizeOf117 (row_sl hf67 opE_len) (by omega) (by first | omega | (simp; done) | (simp; omega))) (fun a78 h78 => ?_); clear h71
          refine pl_val (v := .agg #[.string y77.1, .string y77.2.1, .bool y77.2.2]) h78 rfl rfl rfl (by kernel_rfl) (by kernel_rfl) (rn_loadN rfl rfl Try.underlying117 rfl (by kernel_rfl) (sl_at (row_sl hf67 opE_len) hy77)) (fun a79 h79 => ?_); clear h78
          refine pl_want h79 rfl rfl rfl (op_new (v := fun N => .pointer (some ⟨N, 0, none⟩)) (T := 117) (cs := #[.string (⟨#[]⟩), .string (⟨#[]⟩), .bool false]) (by kernel_rfl) (by kernel_rfl) (by kernel_rfl)) ?_; clear h79
          rintro _ w81 a80 ⟨N82, rfl, hN85, hz86, hk84, hg83⟩ h80
          have ha87 := row_fresh hf67 hN85
          have ha88 := row_fresh hf68 hN85
          have hB89 := hb_new hB69 hg83
          have hz90 := hB89.size
          have hz91 := hg83.size
          have hr92 := row_kept_new hf67 hg83
          have hr93 := row_kept_new hf68 hg83
          try dsimp only at h80
          refine pl_doW h80 rfl rfl (op_storeN rfl rfl rfl (by kernel_rfl) (by kernel_rfl) hk84 rfl) ?_; clear h80
          rintro _ w95 a94 ⟨hk96, hz97, hg98⟩ h94
          have hk96' : Blk w95 N82 117 #[.string y77.1, .string y77.2.1, .bool y77.2.2] := hk96; clear hk96
          have hB99 := hb_at hB89 hg98 (by omega)
          have hz100 := hB99.size
          have hz101 := hg98.size
          have hr102 := row_kept_at hr92 hg98 (ha87)
          have hr103 := row_kept_at hr93 hg98 (ha88)
          refine pl_nil ?_
          refine co_then ?_
          refine co_reg ?_
          refine pl_val (v := u) h94 rfl rfl rfl (by kernel_rfl) (by kernel_rfl) (by kernel_rfl) (fun a104 h104 => ?_); clear h94
          refine pl_val (v := .agg #[.string y77.1, .string y77.2.1, .bool y77.2.2]) h104 rfl rfl rfl (by kernel_rfl) (by kernel_rfl) (rn_loadN rfl rfl Try.underlying117 rfl (by kernel_rfl) hk96'.all) (fun a105 h105 => ?_); clear h104
          refine pl_want h105 rfl rfl rfl (op_new (v := fun N => .slice (some ⟨N, 0, none⟩) 1 1) (T := 83) (cs := #[.string y77.1, .string y77.2.1, .bool y77.2.2]) (by kernel_rfl) (by kernel_rfl) (by kernel_rfl)) ?_; clear h105
          rintro _ w107 a106 ⟨N108, rfl, hN111, hz112, hk110, hg109⟩ h106
          have ha113 := row_fresh hr102 hN111
          have ha114 := row_fresh hr103 hN111
          have hB115 := hb_new hB99 hg109
          have hz116 := hB115.size
          have hz117 := hg109.size
          have hr118 := row_kept_new hr102 hg109
          have hr119 := row_kept_new hr103 hg109
          have hk120 := hk96'.kept hg109 (by simp)
          try dsimp only at h106
          refine pl_want h106 rfl rfl rfl (op_append rfl w.heap.size 83 (z := .agg #[.string (⟨#[]⟩), .string (⟨#[]⟩), .bool false]) (size := 3) (bytes := 40) Try.underlying22 (by kernel_rfl) rfl rfl rfl hr119 rfl hk110 rfl (by kernel_rfl) (by first | omega | (simp only [List.length_nil, List.length_append, List.length_cons, List.length_take, List.length_drop]; omega)) (by first | omega | (simp only [List.length_nil, List.length_append, List.length_cons, List.length_take, List.length_drop]; omega)) (by omega)) ?_; clear h106
          rintro v123 w122 a121 ⟨hr124, hg125⟩ h121
          have hr124' : w122.ownsRow w.heap.size 83 3 v123 ((ys48.take j ++ [(y77.1, y77.2.1, y77.2.2)]).length) ((ys48.take j ++ [(y77.1, y77.2.1, y77.2.2)]).flatMap opE) := row_push (y := (y77.1, y77.2.1, y77.2.2)) hr124 rfl rfl; clear hr124
          have hB126 := hb_row hB115 hr119 (by omega) hg125
          have hz127 := hB126.size
          have hz128 := hg125.size
          have hr129 := row_kept_row hr118 hr119 hg125 (by decide)
          have hk130 := hk120.kept hg125 (ha88)
          have hk131 := hk110.kept hg125 (ha114)
          refine pl_val (v := v123) h121 rfl rfl rfl (by kernel_rfl) (by kernel_rfl) (by kernel_rfl) (fun a132 h132 => ?_); clear h121
          refine pl_nil ?_
          refine co_blockN ?_
          refine co_then ?_
          refine co_reg ?_
          refine pl_val (v := .int .i64 ((j + 1 : Nat) : Int)) h132 rfl rfl rfl (by kernel_rfl) (by kernel_rfl) (rn_arith' rfl rfl rfl rfl rfl rfl (IntWalk.i64_in _ (by omega)) (by omega)) (fun a133 h133 => ?_); clear h132
          refine pl_val (v := .int .i64 ((j + 1 : Nat) : Int)) h133 rfl rfl rfl (by kernel_rfl) (by kernel_rfl) (by kernel_rfl) (fun a134 h134 => ?_); clear h133
          refine pl_nil ?_
          refine co_then ?_
          refine ⟨(ys48.length - (j + 1)), by omega, ?_⟩
          exact ⟨j + 1, v123, h134.sub ⟨rfl, rfl, rfl, rfl, rfl, trivial⟩, rfl, by omega, hr129, (row_eq hr124' (by first | rfl | exact take_snoc' (by assumption))), hB126⟩
    ·
      rw [hc27] at h26
      have hp135 : ((i : Nat) : Int) < ((l.length : Nat) : Int) := of_decide_eq_true hc27
      clear hc27
      refine co_true h26 rfl ?_
      refine wp_skip ?_
      refine co_then ?_
      refine co_seq ?_
      refine wp_block ?_
      refine co_seq ?_
      refine co_reg ?_
      obtain ⟨y136, hy136⟩ : ∃ z, l[i]? = some z := ⟨_, List.getElem?_eq_getElem (by first | omega | (simp; done) | (simp; omega))⟩
      refine pl_val (v := .pointer (some ⟨(blkOf v), offOf v + i * 3, none⟩)) h26 rfl rfl rfl (by kernel_rfl) (by kernel_rfl) (rn_index rfl rfl rfl Try.underlying22 Try.sizeOf83 (hs.below hB23) (by omega) (by first | omega | (simp; done) | (simp; omega))) (fun a137 h137 => ?_); clear h26
      refine pl_val (v := .agg #[.string y136.1, .string y136.2.1, .bool y136.2.2]) h137 rfl rfl rfl (by kernel_rfl) (by kernel_rfl) (rn_loadN rfl rfl Try.underlying83 rfl (by kernel_rfl) (sl_at (hs.below hB23) hy136)) (fun a138 h138 => ?_); clear h137
      refine pl_want h138 rfl rfl rfl (op_new (v := fun N => .pointer (some ⟨N, 0, none⟩)) (T := 83) (cs := #[.string (⟨#[]⟩), .string (⟨#[]⟩), .bool false]) (by kernel_rfl) (by kernel_rfl) (by kernel_rfl)) ?_; clear h138
      rintro _ w140 a139 ⟨N141, rfl, hN144, hz145, hk143, hg142⟩ h139
      have hB146 := hb_new hB23 hg142
      have hz147 := hB146.size
      have hz148 := hg142.size
      have hM149 := hf22.kept hg142 (by simp)
      try dsimp only at h139
      refine pl_doW h139 rfl rfl (op_storeN rfl rfl rfl (by kernel_rfl) (by kernel_rfl) hk143 rfl) ?_; clear h139
      rintro _ w151 a150 ⟨hk152, hz153, hg154⟩ h150
      have hk152' : Blk w151 N141 83 #[.string y136.1, .string y136.2.1, .bool y136.2.2] := hk152; clear hk152
      have hB155 := hb_at hB146 hg154 (by omega)
      have hz156 := hB155.size
      have hz157 := hg154.size
      have hM158 := hM149.kept hg154 (by simp; omega)
      refine pl_nil ?_
      refine co_then ?_
      refine co_reg ?_
      refine pl_val (v := .map (some B4)) h150 rfl rfl rfl (by kernel_rfl) (by kernel_rfl) (by kernel_rfl) (fun a159 h159 => ?_); clear h150
      refine pl_val (v := .pointer (some ⟨N141, 0, none⟩)) h159 rfl rfl rfl (by kernel_rfl) (by kernel_rfl) (by kernel_rfl) (fun a160 h160 => ?_); clear h159
      refine pl_val (v := .string y136.1) h160 rfl rfl rfl (by kernel_rfl) (by kernel_rfl) (rn_load1 rfl rfl Try.isAgg9 (hk152'.cell rfl)) (fun a161 h161 => ?_); clear h160
      refine pl_val (v := .agg #[.string y136.1, .string y136.2.1, .bool y136.2.2]) h161 rfl rfl rfl (by kernel_rfl) (by kernel_rfl) (rn_loadN rfl rfl Try.underlying83 rfl (by kernel_rfl) hk152'.all) (fun a162 h162 => ?_); clear h161
      refine pl_doW h162 rfl rfl (op_updateO (a := y136.1) (v := (y136.1, y136.2.1, y136.2.2)) (strKL Try.underlying9) rfl rfl rfl rfl Try.underlying116 hM158) ?_; clear h162
      rintro _ w164 a163 ⟨hm165, hz166, hg167⟩ h163
      have hB168 := hb_at hB155 hg167 (by omega)
      have hz169 := hB168.size
      have hz170 := hg167.size
      have hk171 := hk152'.kept hg167 (by simp; omega)
      have hl172 := hm165.lt
      refine pl_nil ?_
      refine co_blockN ?_
      refine co_then ?_
      refine co_reg ?_
      refine pl_val (v := .int .i64 ((i + 1 : Nat) : Int)) h163 rfl rfl rfl (by kernel_rfl) (by kernel_rfl) (rn_arith' rfl rfl rfl rfl rfl rfl (IntWalk.i64_in _ (by omega)) (by omega)) (fun a173 h173 => ?_); clear h163
      refine pl_val (v := .int .i64 ((i + 1 : Nat) : Int)) h173 rfl rfl rfl (by kernel_rfl) (by kernel_rfl) (by kernel_rfl) (fun a174 h174 => ?_); clear h173
      refine pl_nil ?_
      refine co_then ?_
      refine ⟨(l.length - (i + 1)), by omega, ?_⟩
      exact ⟨i + 1, h174.sub ⟨rfl, rfl, rfl, rfl, rfl, trivial⟩, rfl, by omega, (hm165.eq (by first | rfl | exact lastG_at (by assumption)) (by omega)), hB168⟩
end Go.Proofs.Ytciilfkjecmdiaa

/- Package ops: Over. Conditions: at most 1000000 pairs and operations. -/
namespace Go.Proofs.Ytciilfkjecmdiaa
open Go.RowKit Go.PlainAid
set_option linter.unusedVariables false

open Go.Sort Go.Shelf Go.Lib
set_option maxRecDepth 100000 in
theorem opsOver_any (v : Value) (l : List ValT) (v2 : Value) (m : List OpT) (w : World) (hs : SliceOf valE 2 w v l) (hs2 : SliceOf opE 3 w v2 m) (hlen : l.length + m.length ≤ 1000000) :
    Calls Try.prog 22 #[v, v2] w fun e w' => ∃ (ys : List ValT) (u : Value), e = .returned (u) ∧ w'.ownsRow w.heap.size 85 2 u ys.length (ys.flatMap valE) ∧ SetG (fun y : ValT => y.1) (ovG l m) ys ∧ ys.length ≤ l.length + m.length ∧ Below w.heap.size w w' := by
  have hB0 := Below.refl w.heap.size w
  have hl_hs := sl_len hs
  have hl_hs2 := sl_len hs2
  refine co_enter (n := 61) Try.func22 rfl rfl rfl [(0, v), (1, v2)] rfl (fun a h0 => ?_)
  refine co_seq ?_
  refine co_reg ?_
  refine pl_val (v := .slice none 0 0) h0 rfl rfl rfl (by kernel_rfl) (by kernel_rfl) (by kernel_rfl) (fun a1 h1 => ?_); clear h0
  refine pl_nil ?_
  refine co_then ?_
  refine co_seq ?_
  refine co_reg ?_
  refine pl_want h1 rfl rfl rfl (op_makeO strK valV (by kernel_rfl) (by kernel_rfl) rfl) ?_; clear h1
  rintro _ w3 a2 ⟨B4, rfl, hN5, hz6, hm7, hg8⟩ h2
  have hB9 := hb_new hB0 hg8
  have hz10 := hB9.size
  have hz11 := hg8.size
  have hl12 := hm7.lt
  refine pl_val (v := .map (some B4)) h2 rfl rfl rfl (by kernel_rfl) (by kernel_rfl) (by kernel_rfl) (fun a13 h13 => ?_); clear h2
  refine pl_nil ?_
  refine co_then ?_
  refine co_seq ?_
  refine co_seq ?_
  refine co_reg ?_
  refine pl_val (v := v) h13 rfl rfl rfl (by kernel_rfl) (by kernel_rfl) (by kernel_rfl) (fun a14 h14 => ?_); clear h13
  refine pl_val (v := .int .i64 ((l.length : Nat) : Int)) h14 rfl rfl rfl (by kernel_rfl) (by kernel_rfl) (rn_len rfl rfl Try.underlying40 (hs.below hB9)) (fun a15 h15 => ?_); clear h14
  refine pl_val (v := .int .i64 0) h15 rfl rfl rfl (by kernel_rfl) (by kernel_rfl) (by kernel_rfl) (fun a16 h16 => ?_); clear h15
  refine pl_nil ?_
  refine co_then ?_
  refine wp_block ?_
  have h17 : Slots 61 [(1, v2), (4, .slice none 0 0), (5, .map (some B4)), (14, v), (15, .int .i64 ((l.length : Nat) : Int)), (16, .int .i64 0)] _ := h16.sub ⟨rfl, rfl, rfl, rfl, rfl, rfl, trivial⟩; clear h16
  refine co_loop (fun mm a x => ∃ (i : Nat), Slots 61 [(1, v2), (4, .slice none 0 0), (5, .map (some B4)), (14, v), (15, .int .i64 ((l.length : Nat) : Int)), (16, .int .i64 ((i : Nat) : Int))] a ∧ mm = l.length - i ∧ (i ≤ l.length) ∧ MapO strK valV x B4 (pairG (l.take i)) (i) ∧ Below w.heap.size w x) (l.length - 0) ?_ ?_
  · exact ⟨0, h17.sub ⟨rfl, rfl, rfl, rfl, rfl, (slot_eq rfl (congrArg (Value.int .i64) (by first | rfl | omega))), trivial⟩, rfl, by omega, (hm7.eq (by first | rfl | exact pairG_at (by assumption)) (by omega)), hB9⟩
  · rintro k18 a19 w20 ⟨i, h19, rfl, hi21, hf22, hB23⟩
    have hz24 := hB23.size
    have hl25 := hf22.lt
    refine co_seq ?_
    refine co_reg ?_
    refine pl_val (v := .bool (decide (((i : Nat) : Int) < ((l.length : Nat) : Int)))) h19 rfl rfl rfl (by kernel_rfl) (by kernel_rfl) (by kernel_rfl) (fun a26 h26 => ?_); clear h19
    refine pl_nil ?_
    refine co_then ?_
    refine co_seq ?_
    cases hc27 : (decide (((i : Nat) : Int) < ((l.length : Nat) : Int)))
    ·
      rw [hc27] at h26
      have hp28 : ¬ (((i : Nat) : Int) < ((l.length : Nat) : Int)) := of_decide_eq_false hc27
      clear hc27
      refine co_false h26 rfl ?_
      refine wp_exit ?_
      refine co_thenX ?_
      refine co_thenX ?_
      refine co_blockX ?_
      refine co_then ?_
      refine co_seq ?_
      refine co_seq ?_
      refine co_reg ?_
      refine pl_val (v := v2) h26 rfl rfl rfl (by kernel_rfl) (by kernel_rfl) (by kernel_rfl) (fun a29 h29 => ?_); clear h26
      refine pl_val (v := .int .i64 ((m.length : Nat) : Int)) h29 rfl rfl rfl (by kernel_rfl) (by kernel_rfl) (rn_len rfl rfl Try.underlying22 (hs2.below hB23)) (fun a30 h30 => ?_); clear h29
      refine pl_val (v := .int .i64 0) h30 rfl rfl rfl (by kernel_rfl) (by kernel_rfl) (by kernel_rfl) (fun a31 h31 => ?_); clear h30
      refine pl_nil ?_
      refine co_then ?_
      refine wp_block ?_
      have hall1 : pairG (l.take i) = ovG l (m.take 0) := by rw [List.take_of_length_le (show l.length ≤ i by omega)]; rfl
      have h32 : Slots 61 [(4, .slice none 0 0), (5, .map (some B4)), (25, v2), (26, .int .i64 ((m.length : Nat) : Int)), (27, .int .i64 0)] _ := h31.sub ⟨rfl, rfl, rfl, rfl, rfl, trivial⟩; clear h31
      refine co_loop (fun mm a x => ∃ (k : Nat), Slots 61 [(4, .slice none 0 0), (5, .map (some B4)), (25, v2), (26, .int .i64 ((m.length : Nat) : Int)), (27, .int .i64 ((k : Nat) : Int))] a ∧ mm = m.length - k ∧ (k ≤ m.length) ∧ MapO strK valV x B4 (ovG l (m.take k)) (l.length + k) ∧ Below w.heap.size w x) (m.length - 0) ?_ ?_
      · exact ⟨0, h32.sub ⟨rfl, rfl, rfl, rfl, (slot_eq rfl (congrArg (Value.int .i64) (by first | rfl | omega))), trivial⟩, rfl, by omega, (hf22.eq (by first | exact hall1 | exact ovG_del (by assumption) (by assumption) | exact ovG_put (by assumption) (by assumption)) (by omega)), hB23⟩
      · rintro k33 a34 w35 ⟨k, h34, rfl, hi36, hf37, hB38⟩
        have hz39 := hB38.size
        have hl40 := hf37.lt
        refine co_seq ?_
        refine co_reg ?_
        refine pl_val (v := .bool (decide (((k : Nat) : Int) < ((m.length : Nat) : Int)))) h34 rfl rfl rfl (by kernel_rfl) (by kernel_rfl) (by kernel_rfl) (fun a41 h41 => ?_); clear h34
        refine pl_nil ?_
        refine co_then ?_
        refine co_seq ?_
        cases hc42 : (decide (((k : Nat) : Int) < ((m.length : Nat) : Int)))
        ·
          rw [hc42] at h41
          have hp43 : ¬ (((k : Nat) : Int) < ((m.length : Nat) : Int)) := of_decide_eq_false hc42
          clear hc42
          refine co_false h41 rfl ?_
          refine wp_exit ?_
          refine co_thenX ?_
          refine co_thenX ?_
          refine co_blockX ?_
          refine co_then ?_
          refine co_seq ?_
          refine co_reg ?_
          refine pl_val (v := .map (some B4)) h41 rfl rfl rfl (by kernel_rfl) (by kernel_rfl) (by kernel_rfl) (fun a44 h44 => ?_); clear h41
          refine pl_want h44 rfl rfl rfl (op_lenO (ts := #[]) rfl rfl Try.underlying110 hf37 (by kernel_rfl) rfl) ?_; clear h44
          rintro _ _ a45 ⟨k47, rfl, hk48, rfl⟩ h45
          refine pl_want h45 rfl rfl rfl (op_makeOwn (base := w35.heap.size) (enc := valE) (k := k47) (by_ := 32) (z := .agg #[.string (⟨#[]⟩), .string (⟨#[]⟩)]) (size := 2) rfl rfl rfl Try.underlying40 (by kernel_rfl) (by omega) (by unfold maxLen; omega) (Nat.le_refl _)) ?_; clear h45
          rintro _ w50 a49 ⟨N51, rfl, hN52, hr53, hg54⟩ h49
          have hB55 := hb_new hB38 hg54
          have hz56 := hB55.size
          have hz57 := hg54.size
          have hM58 := hf37.kept hg54 (by simp)
          refine pl_val (v := .slice (some ⟨N51, 0, none⟩) 0 k47) h49 rfl rfl rfl (by kernel_rfl) (by kernel_rfl) (by kernel_rfl) (fun a59 h59 => ?_); clear h49
          refine pl_nil ?_
          refine co_then ?_
          refine co_seq ?_
          refine co_seq ?_
          refine co_reg ?_
          refine pl_val (v := .map (some B4)) h59 rfl rfl rfl (by kernel_rfl) (by kernel_rfl) (by kernel_rfl) (fun a60 h60 => ?_); clear h59
          refine pl_want h60 rfl rfl rfl (op_call (args := #[.map (some B4), .func (.func 77) #[] #[]]) (R := fun res xw => ∃ ys : List ValT, ∃ u : Value, res = u ∧ xw.ownsRow w50.heap.size 111 2 u ys.length (ys.flatMap valE) ∧ SetG (fun y : ValT => y.1) (ovG l (m.take k)) ys ∧ ys.length ≤ (l.length + k) ∧ Below w50.heap.size w50 xw) rfl rfl rfl (by kernel_rfl) (by kernel_rfl) (Try.call76 _ _) (sorted_V B4 (ovG l (m.take k)) (l.length + k) w50 hM58 (by omega) (ovG_key _ _)) (by rintro e x ⟨ys, u, rfl, hq65, hq66, hq67, hb68⟩; exact ⟨_, rfl, ⟨ys, u, rfl, hq65, hq66, hq67, hb68⟩⟩)) ?_; clear h60
          rintro u64 w62 a61 ⟨ys63, _, rfl, hq65, hq66, hq67, hb68⟩ h61
          have hB69 := hb_call hB55 hb68
          have hz70 := hB69.size
          have hz71 := hb68.size
          have hM72 := hM58.kept (below_grown hb68) (by simp)
          have hr73 := row_kept_new hr53 (below_grown hb68)
          have hl74 := sl_len (row_sl hq65 valE_len)
          refine pl_val (v := .int .i64 ((ys63.length : Nat) : Int)) h61 rfl rfl rfl (by kernel_rfl) (by kernel_rfl) (rn_lenOwn rfl rfl Try.underlying112 hq65) (fun a75 h75 => ?_); clear h61
          refine pl_val (v := .int .i64 0) h75 rfl rfl rfl (by kernel_rfl) (by kernel_rfl) (by kernel_rfl) (fun a76 h76 => ?_); clear h75
          refine pl_nil ?_
          refine co_then ?_
          refine wp_block ?_
          have h77 : Slots 61 [(4, .slice none 0 0), (10, .slice (some ⟨N51, 0, none⟩) 0 k47), (49, u64), (50, .int .i64 ((ys63.length : Nat) : Int)), (51, .int .i64 0)] _ := h76.sub ⟨rfl, rfl, rfl, rfl, rfl, trivial⟩; clear h76
          refine co_loop (fun mm a x => ∃ (j : Nat) (u : Value), Slots 61 [(4, .slice none 0 0), (10, u), (49, u64), (50, .int .i64 ((ys63.length : Nat) : Int)), (51, .int .i64 ((j : Nat) : Int))] a ∧ mm = ys63.length - j ∧ (j ≤ ys63.length) ∧ x.ownsRow w50.heap.size 111 2 u64 ys63.length (ys63.flatMap valE) ∧ x.ownsRow w.heap.size 85 2 u (ys63.take j).length ((ys63.take j).flatMap valE) ∧ Below w.heap.size w x) (ys63.length - 0) ?_ ?_
          · exact ⟨0, (.slice (some ⟨N51, 0, none⟩) 0 k47), h77.sub ⟨rfl, rfl, rfl, rfl, (slot_eq rfl (congrArg (Value.int .i64) (by first | rfl | omega))), trivial⟩, rfl, by omega, hq65, (row_eq (row_lows hr73 (by omega)) (by first | rfl | exact take_snoc' (by assumption))), hB69⟩
          · rintro k78 a79 w80 ⟨j, u, h79, rfl, hi81, hf82, hf83, hB84⟩
            have hz85 := hB84.size
            have hst : (ys63.take j).length ≤ j := List.length_take_le _ _
            refine co_seq ?_
            refine co_reg ?_
            refine pl_val (v := .bool (decide (((j : Nat) : Int) < ((ys63.length : Nat) : Int)))) h79 rfl rfl rfl (by kernel_rfl) (by kernel_rfl) (by kernel_rfl) (fun a86 h86 => ?_); clear h79
            refine pl_nil ?_
            refine co_then ?_
            refine co_seq ?_
            cases hc87 : (decide (((j : Nat) : Int) < ((ys63.length : Nat) : Int)))
            ·
              rw [hc87] at h86
              have hp88 : ¬ (((j : Nat) : Int) < ((ys63.length : Nat) : Int)) := of_decide_eq_false hc87
              clear hc87
              refine co_false h86 rfl ?_
              refine wp_exit ?_
              refine co_thenX ?_
              refine co_thenX ?_
              refine co_blockX ?_
              refine co_then ?_
              refine co_seq ?_
              refine co_reg ?_
              refine pl_val (v := u) h86 rfl rfl rfl (by kernel_rfl) (by kernel_rfl) (by kernel_rfl) (fun a89 h89 => ?_); clear h86
              refine pl_val (v := u) h89 rfl rfl rfl (by kernel_rfl) (by kernel_rfl) (by kernel_rfl) (fun a90 h90 => ?_); clear h89
              refine pl_nil ?_
              refine co_then ?_
              refine wp_ret ?_
              refine co_ret1 h90 rfl rfl ?_
              exact ⟨_, _, rfl, (row_eq (row_lows hf83 (by omega)) (List.take_of_length_le (by omega))), (by have := hq66; rwa [List.take_of_length_le (show m.length ≤ k by omega)] at this), by omega, hB84⟩
            ·
              rw [hc87] at h86
              have hp91 : ((j : Nat) : Int) < ((ys63.length : Nat) : Int) := of_decide_eq_true hc87
              clear hc87
              refine co_true h86 rfl ?_
              refine wp_skip ?_
              refine co_then ?_
              refine co_seq ?_
              refine wp_block ?_
              refine co_seq ?_
              refine co_reg ?_
              obtain ⟨y92, hy92⟩ : ∃ z, ys63[j]? = some z := ⟨_, List.getElem?_eq_getElem (by first | omega | (simp; done) | (simp; omega))⟩
              refine pl_val (v := .pointer (some ⟨(blkOf u64), offOf u64 + j * 2, none⟩)) h86 rfl rfl rfl (by kernel_rfl) (by kernel_rfl) (rn_index rfl rfl rfl Try.underlying112 Try.sizeOf111 (row_sl hf82 valE_len) (by omega) (by first | omega | (simp; done) | (simp; omega))) (fun a93 h93 => ?_); clear h86
              refine pl_val (v := .agg #[.string y92.1, .string y92.2]) h93 rfl rfl rfl (by kernel_rfl) (by kernel_rfl) (rn_loadN rfl rfl Try.underlying111 rfl (by kernel_rfl) (sl_at (row_sl hf82 valE_len) hy92)) (fun a94 h94 => ?_); clear h93
              refine pl_want h94 rfl rfl rfl (op_new (v := fun N => .pointer (some ⟨N, 0, none⟩)) (T := 111) (cs := #[.string (⟨#[]⟩), .string (⟨#[]⟩)]) (by kernel_rfl) (by kernel_rfl) (by kernel_rfl)) ?_; clear h94
              rintro _ w96 a95 ⟨N97, rfl, hN100, hz101, hk99, hg98⟩ h95
              have ha102 := row_fresh hf82 hN100
              have ha103 := row_fresh hf83 hN100
              have hB104 := hb_new hB84 hg98
              have hz105 := hB104.size
              have hz106 := hg98.size
              have hr107 := row_kept_new hf82 hg98
              have hr108 := row_kept_new hf83 hg98
              try dsimp only at h95
              refine pl_doW h95 rfl rfl (op_storeN rfl rfl rfl (by kernel_rfl) (by kernel_rfl) hk99 rfl) ?_; clear h95
              rintro _ w110 a109 ⟨hk111, hz112, hg113⟩ h109
              have hk111' : Blk w110 N97 111 #[.string y92.1, .string y92.2] := hk111; clear hk111
              have hB114 := hb_at hB104 hg113 (by omega)
              have hz115 := hB114.size
              have hz116 := hg113.size
              have hr117 := row_kept_at hr107 hg113 (ha102)
              have hr118 := row_kept_at hr108 hg113 (ha103)
              refine pl_nil ?_
              refine co_then ?_
              refine co_reg ?_
              refine pl_val (v := u) h109 rfl rfl rfl (by kernel_rfl) (by kernel_rfl) (by kernel_rfl) (fun a119 h119 => ?_); clear h109
              refine pl_val (v := .agg #[.string y92.1, .string y92.2]) h119 rfl rfl rfl (by kernel_rfl) (by kernel_rfl) (rn_loadN rfl rfl Try.underlying111 rfl (by kernel_rfl) hk111'.all) (fun a120 h120 => ?_); clear h119
              refine pl_want h120 rfl rfl rfl (op_new (v := fun N => .slice (some ⟨N, 0, none⟩) 1 1) (T := 85) (cs := #[.string y92.1, .string y92.2]) (by kernel_rfl) (by kernel_rfl) (by kernel_rfl)) ?_; clear h120
              rintro _ w122 a121 ⟨N123, rfl, hN126, hz127, hk125, hg124⟩ h121
              have ha128 := row_fresh hr117 hN126
              have ha129 := row_fresh hr118 hN126
              have hB130 := hb_new hB114 hg124
              have hz131 := hB130.size
              have hz132 := hg124.size
              have hr133 := row_kept_new hr117 hg124
              have hr134 := row_kept_new hr118 hg124
              have hk135 := hk111'.kept hg124 (by simp)
              try dsimp only at h121
              refine pl_want h121 rfl rfl rfl (op_append rfl w.heap.size 85 (z := .agg #[.string (⟨#[]⟩), .string (⟨#[]⟩)]) (size := 2) (bytes := 32) Try.underlying40 (by kernel_rfl) rfl rfl rfl hr134 rfl hk125 rfl (by kernel_rfl) (by first | omega | (simp only [List.length_nil, List.length_append, List.length_cons, List.length_take, List.length_drop]; omega)) (by first | omega | (simp only [List.length_nil, List.length_append, List.length_cons, List.length_take, List.length_drop]; omega)) (by omega)) ?_; clear h121
              rintro v138 w137 a136 ⟨hr139, hg140⟩ h136
              have hr139' : w137.ownsRow w.heap.size 85 2 v138 ((ys63.take j ++ [(y92.1, y92.2)]).length) ((ys63.take j ++ [(y92.1, y92.2)]).flatMap valE) := row_push (y := (y92.1, y92.2)) hr139 rfl rfl; clear hr139
              have hB141 := hb_row hB130 hr134 (by omega) hg140
              have hz142 := hB141.size
              have hz143 := hg140.size
              have hr144 := row_kept_row hr133 hr134 hg140 (by decide)
              have hk145 := hk135.kept hg140 (ha103)
              have hk146 := hk125.kept hg140 (ha129)
              refine pl_val (v := v138) h136 rfl rfl rfl (by kernel_rfl) (by kernel_rfl) (by kernel_rfl) (fun a147 h147 => ?_); clear h136
              refine pl_nil ?_
              refine co_blockN ?_
              refine co_then ?_
              refine co_reg ?_
              refine pl_val (v := .int .i64 ((j + 1 : Nat) : Int)) h147 rfl rfl rfl (by kernel_rfl) (by kernel_rfl) (rn_arith' rfl rfl rfl rfl rfl rfl (IntWalk.i64_in _ (by omega)) (by omega)) (fun a148 h148 => ?_); clear h147
              refine pl_val (v := .int .i64 ((j + 1 : Nat) : Int)) h148 rfl rfl rfl (by kernel_rfl) (by kernel_rfl) (by kernel_rfl) (fun a149 h149 => ?_); clear h148
              refine pl_nil ?_
              refine co_then ?_
              refine ⟨(ys63.length - (j + 1)), by omega, ?_⟩
              exact ⟨j + 1, v138, h149.sub ⟨rfl, rfl, rfl, rfl, rfl, trivial⟩, rfl, by omega, hr144, (row_eq hr139' (by first | rfl | exact take_snoc' (by assumption))), hB141⟩
        ·
          rw [hc42] at h41
          have hp150 : ((k : Nat) : Int) < ((m.length : Nat) : Int) := of_decide_eq_true hc42
          clear hc42
          refine co_true h41 rfl ?_
          refine wp_skip ?_
          refine co_then ?_
          refine co_seq ?_
          refine wp_block ?_
          refine co_seq ?_
          refine co_reg ?_
          obtain ⟨y151, hy151⟩ : ∃ z, m[k]? = some z := ⟨_, List.getElem?_eq_getElem (by first | omega | (simp; done) | (simp; omega))⟩
          refine pl_val (v := .pointer (some ⟨(blkOf v2), offOf v2 + k * 3, none⟩)) h41 rfl rfl rfl (by kernel_rfl) (by kernel_rfl) (rn_index rfl rfl rfl Try.underlying22 Try.sizeOf83 (hs2.below hB38) (by omega) (by first | omega | (simp; done) | (simp; omega))) (fun a152 h152 => ?_); clear h41
          refine pl_val (v := .agg #[.string y151.1, .string y151.2.1, .bool y151.2.2]) h152 rfl rfl rfl (by kernel_rfl) (by kernel_rfl) (rn_loadN rfl rfl Try.underlying83 rfl (by kernel_rfl) (sl_at (hs2.below hB38) hy151)) (fun a153 h153 => ?_); clear h152
          refine pl_want h153 rfl rfl rfl (op_new (v := fun N => .pointer (some ⟨N, 0, none⟩)) (T := 83) (cs := #[.string (⟨#[]⟩), .string (⟨#[]⟩), .bool false]) (by kernel_rfl) (by kernel_rfl) (by kernel_rfl)) ?_; clear h153
          rintro _ w155 a154 ⟨N156, rfl, hN159, hz160, hk158, hg157⟩ h154
          have hB161 := hb_new hB38 hg157
          have hz162 := hB161.size
          have hz163 := hg157.size
          have hM164 := hf37.kept hg157 (by simp)
          try dsimp only at h154
          refine pl_doW h154 rfl rfl (op_storeN rfl rfl rfl (by kernel_rfl) (by kernel_rfl) hk158 rfl) ?_; clear h154
          rintro _ w166 a165 ⟨hk167, hz168, hg169⟩ h165
          have hk167' : Blk w166 N156 83 #[.string y151.1, .string y151.2.1, .bool y151.2.2] := hk167; clear hk167
          have hB170 := hb_at hB161 hg169 (by omega)
          have hz171 := hB170.size
          have hz172 := hg169.size
          have hM173 := hM164.kept hg169 (by simp; omega)
          refine pl_nil ?_
          refine co_then ?_
          refine co_seq ?_
          refine co_reg ?_
          refine pl_val (v := .pointer (some ⟨N156, 2, none⟩)) h165 rfl rfl rfl (by kernel_rfl) (by kernel_rfl) (by kernel_rfl) (fun a174 h174 => ?_); clear h165
          refine pl_val (v := .bool y151.2.2) h174 rfl rfl rfl (by kernel_rfl) (by kernel_rfl) (rn_load1 rfl rfl Try.isAgg4 (hk167'.cell rfl)) (fun a175 h175 => ?_); clear h174
          refine pl_nil ?_
          refine co_then ?_
          cases hc176 : (y151.2.2)
          ·
            rw [hc176] at h175
            refine co_false h175 rfl ?_
            refine co_reg ?_
            refine pl_val (v := .map (some B4)) h175 rfl rfl rfl (by kernel_rfl) (by kernel_rfl) (by kernel_rfl) (fun a177 h177 => ?_); clear h175
            refine pl_val (v := .pointer (some ⟨N156, 0, none⟩)) h177 rfl rfl rfl (by kernel_rfl) (by kernel_rfl) (by kernel_rfl) (fun a178 h178 => ?_); clear h177
            refine pl_val (v := .string y151.1) h178 rfl rfl rfl (by kernel_rfl) (by kernel_rfl) (rn_load1 rfl rfl Try.isAgg9 (hk167'.cell rfl)) (fun a179 h179 => ?_); clear h178
            refine pl_val (v := .pointer (some ⟨N156, 0, none⟩)) h179 rfl rfl rfl (by kernel_rfl) (by kernel_rfl) (by kernel_rfl) (fun a180 h180 => ?_); clear h179
            refine pl_val (v := .string y151.1) h180 rfl rfl rfl (by kernel_rfl) (by kernel_rfl) (rn_load1 rfl rfl Try.isAgg9 (hk167'.cell rfl)) (fun a181 h181 => ?_); clear h180
            refine pl_val (v := .pointer (some ⟨N156, 1, none⟩)) h181 rfl rfl rfl (by kernel_rfl) (by kernel_rfl) (by kernel_rfl) (fun a182 h182 => ?_); clear h181
            refine pl_val (v := .string y151.2.1) h182 rfl rfl rfl (by kernel_rfl) (by kernel_rfl) (rn_load1 rfl rfl Try.isAgg9 (hk167'.cell rfl)) (fun a183 h183 => ?_); clear h182
            refine pl_val (v := .agg #[.string y151.1, .string y151.2.1]) h183 rfl rfl rfl (by kernel_rfl) (by kernel_rfl) (by kernel_rfl) (fun a184 h184 => ?_); clear h183
            refine pl_doW h184 rfl rfl (op_updateO (a := y151.1) (v := (y151.1, y151.2.1)) (strKL Try.underlying9) rfl rfl rfl rfl Try.underlying110 hM173) ?_; clear h184
            rintro _ w186 a185 ⟨hm187, hz188, hg189⟩ h185
            have hB190 := hb_at hB170 hg189 (by omega)
            have hz191 := hB190.size
            have hz192 := hg189.size
            have hk193 := hk167'.kept hg189 (by simp; omega)
            have hl194 := hm187.lt
            refine pl_nil ?_
            refine co_blockN ?_
            refine co_then ?_
            refine co_reg ?_
            refine pl_val (v := .int .i64 ((k + 1 : Nat) : Int)) h185 rfl rfl rfl (by kernel_rfl) (by kernel_rfl) (rn_arith' rfl rfl rfl rfl rfl rfl (IntWalk.i64_in _ (by omega)) (by omega)) (fun a195 h195 => ?_); clear h185
            refine pl_val (v := .int .i64 ((k + 1 : Nat) : Int)) h195 rfl rfl rfl (by kernel_rfl) (by kernel_rfl) (by kernel_rfl) (fun a196 h196 => ?_); clear h195
            refine pl_nil ?_
            refine co_then ?_
            refine ⟨(m.length - (k + 1)), by omega, ?_⟩
            exact ⟨k + 1, h196.sub ⟨rfl, rfl, rfl, rfl, rfl, trivial⟩, rfl, by omega, (hm187.eq (by first | exact hall1 | exact ovG_del (by assumption) (by assumption) | exact ovG_put (by assumption) (by assumption)) (by omega)), hB190⟩
          ·
            rw [hc176] at h175
            refine co_true h175 rfl ?_
            refine co_reg ?_
            refine pl_val (v := .map (some B4)) h175 rfl rfl rfl (by kernel_rfl) (by kernel_rfl) (by kernel_rfl) (fun a197 h197 => ?_); clear h175
            refine pl_val (v := .pointer (some ⟨N156, 0, none⟩)) h197 rfl rfl rfl (by kernel_rfl) (by kernel_rfl) (by kernel_rfl) (fun a198 h198 => ?_); clear h197
            refine pl_val (v := .string y151.1) h198 rfl rfl rfl (by kernel_rfl) (by kernel_rfl) (rn_load1 rfl rfl Try.isAgg9 (hk167'.cell rfl)) (fun a199 h199 => ?_); clear h198
            refine pl_doW h199 rfl rfl (op_deleteO (a := y151.1) (strKL Try.underlying9) rfl rfl rfl Try.underlying110 hM173) ?_; clear h199
            rintro _ w201 a200 ⟨hm202, hz203, hg204⟩ h200
            have hB205 := hb_at hB170 hg204 (by omega)
            have hz206 := hB205.size
            have hz207 := hg204.size
            have hk208 := hk167'.kept hg204 (by simp; omega)
            have hl209 := hm202.lt
            refine pl_nil ?_
            refine co_blockN ?_
            refine co_then ?_
            refine co_reg ?_
            refine pl_val (v := .int .i64 ((k + 1 : Nat) : Int)) h200 rfl rfl rfl (by kernel_rfl) (by kernel_rfl) (rn_arith' rfl rfl rfl rfl rfl rfl (IntWalk.i64_in _ (by omega)) (by omega)) (fun a210 h210 => ?_); clear h200
            refine pl_val (v := .int .i64 ((k + 1 : Nat) : Int)) h210 rfl rfl rfl (by kernel_rfl) (by kernel_rfl) (by kernel_rfl) (fun a211 h211 => ?_); clear h210
            refine pl_nil ?_
            refine co_then ?_
            refine ⟨(m.length - (k + 1)), by omega, ?_⟩
            exact ⟨k + 1, h211.sub ⟨rfl, rfl, rfl, rfl, rfl, trivial⟩, rfl, by omega, (hm202.eq (by first | exact hall1 | exact ovG_del (by assumption) (by assumption) | exact ovG_put (by assumption) (by assumption)) (by omega)), hB205⟩
    ·
      rw [hc27] at h26
      have hp212 : ((i : Nat) : Int) < ((l.length : Nat) : Int) := of_decide_eq_true hc27
      clear hc27
      refine co_true h26 rfl ?_
      refine wp_skip ?_
      refine co_then ?_
      refine co_seq ?_
      refine wp_block ?_
      refine co_seq ?_
      refine co_reg ?_
      obtain ⟨y213, hy213⟩ : ∃ z, l[i]? = some z := ⟨_, List.getElem?_eq_getElem (by first | omega | (simp; done) | (simp; omega))⟩
      refine pl_val (v := .pointer (some ⟨(blkOf v), offOf v + i * 2, none⟩)) h26 rfl rfl rfl (by kernel_rfl) (by kernel_rfl) (rn_index rfl rfl rfl Try.underlying40 Try.sizeOf85 (hs.below hB23) (by omega) (by first | omega | (simp; done) | (simp; omega))) (fun a214 h214 => ?_); clear h26
      refine pl_val (v := .agg #[.string y213.1, .string y213.2]) h214 rfl rfl rfl (by kernel_rfl) (by kernel_rfl) (rn_loadN rfl rfl Try.underlying85 rfl (by kernel_rfl) (sl_at (hs.below hB23) hy213)) (fun a215 h215 => ?_); clear h214
      refine pl_want h215 rfl rfl rfl (op_new (v := fun N => .pointer (some ⟨N, 0, none⟩)) (T := 85) (cs := #[.string (⟨#[]⟩), .string (⟨#[]⟩)]) (by kernel_rfl) (by kernel_rfl) (by kernel_rfl)) ?_; clear h215
      rintro _ w217 a216 ⟨N218, rfl, hN221, hz222, hk220, hg219⟩ h216
      have hB223 := hb_new hB23 hg219
      have hz224 := hB223.size
      have hz225 := hg219.size
      have hM226 := hf22.kept hg219 (by simp)
      try dsimp only at h216
      refine pl_doW h216 rfl rfl (op_storeN rfl rfl rfl (by kernel_rfl) (by kernel_rfl) hk220 rfl) ?_; clear h216
      rintro _ w228 a227 ⟨hk229, hz230, hg231⟩ h227
      have hk229' : Blk w228 N218 85 #[.string y213.1, .string y213.2] := hk229; clear hk229
      have hB232 := hb_at hB223 hg231 (by omega)
      have hz233 := hB232.size
      have hz234 := hg231.size
      have hM235 := hM226.kept hg231 (by simp; omega)
      refine pl_nil ?_
      refine co_then ?_
      refine co_reg ?_
      refine pl_val (v := .map (some B4)) h227 rfl rfl rfl (by kernel_rfl) (by kernel_rfl) (by kernel_rfl) (fun a236 h236 => ?_); clear h227
      refine pl_val (v := .pointer (some ⟨N218, 0, none⟩)) h236 rfl rfl rfl (by kernel_rfl) (by kernel_rfl) (by kernel_rfl) (fun a237 h237 => ?_); clear h236
      refine pl_val (v := .string y213.1) h237 rfl rfl rfl (by kernel_rfl) (by kernel_rfl) (rn_load1 rfl rfl Try.isAgg9 (hk229'.cell rfl)) (fun a238 h238 => ?_); clear h237
      refine pl_val (v := .agg #[.string y213.1, .string y213.2]) h238 rfl rfl rfl (by kernel_rfl) (by kernel_rfl) (rn_loadN rfl rfl Try.underlying85 rfl (by kernel_rfl) hk229'.all) (fun a239 h239 => ?_); clear h238
      refine pl_doW h239 rfl rfl (op_updateO (a := y213.1) (v := (y213.1, y213.2)) (strKL Try.underlying9) rfl rfl rfl rfl Try.underlying110 hM235) ?_; clear h239
      rintro _ w241 a240 ⟨hm242, hz243, hg244⟩ h240
      have hB245 := hb_at hB232 hg244 (by omega)
      have hz246 := hB245.size
      have hz247 := hg244.size
      have hk248 := hk229'.kept hg244 (by simp; omega)
      have hl249 := hm242.lt
      refine pl_nil ?_
      refine co_blockN ?_
      refine co_then ?_
      refine co_reg ?_
      refine pl_val (v := .int .i64 ((i + 1 : Nat) : Int)) h240 rfl rfl rfl (by kernel_rfl) (by kernel_rfl) (rn_arith' rfl rfl rfl rfl rfl rfl (IntWalk.i64_in _ (by omega)) (by omega)) (fun a250 h250 => ?_); clear h240
      refine pl_val (v := .int .i64 ((i + 1 : Nat) : Int)) h250 rfl rfl rfl (by kernel_rfl) (by kernel_rfl) (by kernel_rfl) (fun a251 h251 => ?_); clear h250
      refine pl_nil ?_
      refine co_then ?_
      refine ⟨(l.length - (i + 1)), by omega, ?_⟩
      exact ⟨i + 1, h251.sub ⟨rfl, rfl, rfl, rfl, rfl, rfl, trivial⟩, rfl, by omega, (hm242.eq (by first | rfl | exact pairG_at (by assumption)) (by omega)), hB245⟩
end Go.Proofs.Ytciilfkjecmdiaa

/- Package ops: what awake tries. Conditions: none. -/
namespace Go.Proofs.Ytciilfkjecmdiaa
open Go.RowKit Go.PlainAid
set_option linter.unusedVariables false

open Go.Sort Go.Shelf Go.Lib

theorem SetG.uniq {V : Type} {key : V → ByteArray} {g : ByteArray → Option V} : ∀ {a b : List V}, SetG key g a → SetG key g b → a = b := by
  intro a b ha hb
  have hab : ∀ y, y ∈ a ↔ y ∈ b := fun y => (ha.2 y).trans (hb.2 y).symm
  have key2 : ∀ (a b : List V), a.Pairwise (fun x y => kB (key x) < kB (key y)) → b.Pairwise (fun x y => kB (key x) < kB (key y)) → (∀ y, y ∈ a ↔ y ∈ b) → a = b := by
    intro a
    induction a with
    | nil =>
      intro b _ _ h
      cases b with
      | nil => rfl
      | cons y b => exact absurd ((h y).2 (by simp)) (by simp)
    | cons x a ih =>
      intro b h1 h2 h
      cases b with
      | nil => exact absurd ((h x).1 (by simp)) (by simp)
      | cons y b =>
        rw [List.pairwise_cons] at h1 h2
        have hxy : x = y := by
          rcases List.mem_cons.1 ((h x).1 (by simp)) with e | hx
          · exact e
          · rcases List.mem_cons.1 ((h y).2 (by simp)) with e | hy
            · exact e.symm
            · exact absurd (List.lt_trans (h1.1 y hy) (h2.1 x hx)) (List.lt_irrefl _)
        subst hxy
        rw [ih b h1.2 h2.2 (fun z => ?_)]
        have hz := h z
        simp only [List.mem_cons] at hz
        constructor
        · intro hm
          rcases hz.1 (.inr hm) with e | k
          · subst e; exact absurd (h1.1 z hm) (List.lt_irrefl _)
          · exact k
        · intro hm
          rcases hz.2 (.inr hm) with e | k
          · subst e; exact absurd (h2.1 z hm) (List.lt_irrefl _)
          · exact k
  exact key2 a b ha.1 hb.1 hab
abbrev sA : ByteArray := ⟨#[97]⟩
abbrev sB : ByteArray := ⟨#[98]⟩
theorem awake_set : SetG (fun y : ValT => y.1) (ovG [(⟨#[97]⟩, ⟨#[49]⟩)] [(⟨#[97]⟩, ⟨#[]⟩, true), (⟨#[98]⟩, ⟨#[50]⟩, false)]) [(⟨#[98]⟩, ⟨#[50]⟩)] := by
  refine ⟨by simp, fun y => ?_⟩
  have hg : ∀ k, ovG [(⟨#[97]⟩, ⟨#[49]⟩)] [(⟨#[97]⟩, ⟨#[]⟩, true), (⟨#[98]⟩, ⟨#[50]⟩, false)] k = if k = ⟨#[98]⟩ then some (⟨#[98]⟩, ⟨#[50]⟩) else if k = ⟨#[97]⟩ then none else none := fun k => by
    unfold ovG pairG
    simp only [List.foldl_cons, List.foldl_nil, ovF, pairF, if_true, Bool.false_eq_true, if_false]
    by_cases e1 : k = ⟨#[98]⟩
    · rw [if_pos e1, if_pos e1]
    · rw [if_neg e1, if_neg e1]
      by_cases e2 : k = ⟨#[97]⟩
      · rw [if_pos e2, if_pos e2]
      · rw [if_neg e2, if_neg e2, if_neg e2]
  constructor
  · intro h
    have : y = (⟨#[98]⟩, ⟨#[50]⟩) := by simpa using h
    subst this
    exact ⟨⟨#[98]⟩, by rw [hg, if_pos rfl]⟩
  · rintro ⟨k, h⟩
    rw [hg] at h
    by_cases e1 : k = ⟨#[98]⟩
    · rw [if_pos e1] at h; cases h; simp
    · rw [if_neg e1] at h
      split at h <;> cases h
theorem awake_put : putB 0 1 [(⟨#[97]⟩, ⟨#[98]⟩, false)] = ⟨#[0, 1, 1, 1, 97, 0, 1, 98]⟩ ∧ chkB 0 1 [(⟨#[97]⟩, ⟨#[98]⟩, false)] = 0 := by
  have h : chkB 0 1 [(⟨#[97]⟩, ⟨#[98]⟩, false)] = 0 := by decide
  exact ⟨by rw [putB_ok h]; decide, h⟩

end Go.Proofs.Ytciilfkjecmdiaa
