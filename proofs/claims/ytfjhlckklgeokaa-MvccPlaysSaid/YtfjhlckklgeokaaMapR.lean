/- Ranges over maps that the call made: what is still to come, whichever comes next. Conditions: none. -/
import Derived.Test.YtfjhlckklgeokaaMapC
import Derived.Maps.RangeRun
import Derived.MapKept
namespace Go.Proofs.Ytfjhlckklgeokaa
open Go.RowKit Go.ChangeMaps

section
variable {K : Type} {P : Program} {n : Nat} {m : List (Nat × Value)} {w x : World} {o : Oper} {B r : Nat} {l left : List (K × Value)} {kv : K → Value} {kt e t : TypeId} {q : Operand}
/-- Block r ranges over the map at B; left is still to come. -/
def IterB (kv : K → Value) (w : World) (r B : Nat) (left : List (K × Value)) : Prop :=
  ∃ es clock since seen c0, w.heap[B]? = some (.map es clock) ∧ w.heap[r]? = some (.mapIter (some B) since seen c0) ∧ since ≤ c0 ∧ c0 = clock ∧ (∀ e ∈ es.toList, e.born < since) ∧ (es.toList.map (·.born)).Nodup ∧
    (es.toList.filter fun e => !seen.contains e.born).map (fun e => (e.key, e.val)) = left.map (fun p => (kv p.1, p.2))
theorem IterB.lt (h : IterB kv w r B left) : r < w.heap.size := by obtain ⟨_, _, _, _, _, _, h, _⟩ := h; exact (Array.getElem?_eq_some_iff.1 h).1
theorem IterB.kept {row : Option Nat} (h : IterB kv w r B left) (hg : w.grownBy x row) (h1 : row ≠ some B) (h2 : row ≠ some r) : IterB kv x r B left := by
  obtain ⟨es, c, s, sn, c0, a1, a2, a3⟩ := h
  exact ⟨es, c, s, sn, c0, by rw [hg.block B (Array.getElem?_eq_some_iff.1 a1).1 (fun e => h1 e.symm)]; exact a1, by rw [hg.block r (Array.getElem?_eq_some_iff.1 a2).1 (fun e => h2 e.symm)]; exact a2, a3⟩
theorem IterB.row {B' : Nat} {T : TypeId} {sz k : Nat} {v : Value} {xs : List Value} (h : IterB kv w r B left) (hr : w.ownsRow B' T sz v k xs) : v.ownBlock ≠ some B ∧ v.ownBlock ≠ some r := by
  obtain ⟨es, c, s, sn, c0, a1, a2, _⟩ := h
  rcases hr.2 with ⟨rfl, _⟩ | ⟨g1, _, _, rfl, _, hg1, _⟩
  · simp [Value.ownBlock]
  · constructor
    · intro e1
      simp [Value.ownBlock] at e1
      subst e1; rw [a1] at hg1; cases hg1
    · intro e1
      simp [Value.ownBlock] at e1
      subst e1; rw [a2] at hg1; cases hg1
theorem op_range {a : K} (ho : o.op = .range t q) (hq : ev m q = some (.map (some B))) (ht : P.underlying t = some (.map kt e)) (h : MapB kv w B l) :
    Op1 P n m o w (fun u x => ∃ r, u = .pointer (some ⟨r, 0, none⟩) ∧ r = w.heap.size ∧ IterB kv x r B l ∧ x.heap.size = r + 1 ∧ w.grownBy x none) := by
  intro ac ha N Q hN
  obtain ⟨es, cl, h1, h2, h3, h4, h5⟩ := h
  have hg : (getObj B).run P w = .ok (.map es cl) w := by simp [getObj, Sem.run, h1]
  have hrun : (Instr.range t (.map (some B))).run P w = .ok (.pointer (some ⟨w.heap.size, 0, none⟩)) (w.alloc (.mapIter (some B) cl #[] cl)) := by
    simp only [Instr.range, Sem.run_bind, run_underlying ht, Result.andThen_ok, hg, Sem.run_pure]
    rfl
  unfold Oper.wp execOp
  simp only [ho, ha.ev hq, Sem.run_bind, hrun, Result.andThen_ok, Sem.run_pure]
  have hlt := (Array.getElem?_eq_some_iff.1 h1).1
  have hgr := World.grownBy_alloc w (.mapIter (some B) cl #[] cl) none
  refine hN _ _ ⟨w.heap.size, rfl, rfl, ⟨es, cl, cl, #[], cl, ?_, heap_alloc_new w _, Nat.le_refl _, rfl, h5, h4, ?_⟩, by simp, hgr⟩
  · rw [hgr.block B hlt (by simp)]; exact h1
  · rw [← h2]; congr 1; exact List.filter_eq_self.2 (fun _ _ => by simp)
theorem filter_born : ∀ (L1 L2 : List MapEntry) (e : MapEntry), ((L1 ++ e :: L2).map (·.born)).Nodup → (L1 ++ e :: L2).filter (fun x => x.born != e.born) = L1 ++ L2
  | L1, L2, e, h => by
    rw [List.map_append, List.map_cons, List.nodup_append] at h
    obtain ⟨h1, h2, h3⟩ := h
    rw [List.nodup_cons] at h2
    rw [List.filter_append, List.filter_cons]
    simp only [bne_self_eq_false, Bool.false_eq_true, if_false]
    rw [List.filter_eq_self.2, List.filter_eq_self.2]
    · intro y hy
      have : y.born ≠ e.born := fun hq => h2.1 (hq ▸ List.mem_map_of_mem hy)
      simpa using this
    · intro y hy
      have := h3 y.born (List.mem_map_of_mem hy) e.born (by simp)
      simpa using this
/-- The next one: none is left; or one that is left. -/
theorem op_next (ho : o.op = .next q false) (hq : ev m q = some (.pointer (some ⟨r, 0, none⟩))) (h : IterB kv w r B left) :
    Op1 P n m o w (fun u x => (left = [] ∧ u = .tuple #[.bool false] ∧ x = w) ∨
      ∃ p l1 l2, left = l1 ++ p :: l2 ∧ u = .tuple #[.bool true, kv p.1, p.2] ∧ IterB kv x r B (l1 ++ l2) ∧ (Instr.entry (.pointer (some ⟨r, 0, none⟩))).run P x = .ok (.tuple #[kv p.1, p.2]) x ∧ x.heap.size = w.heap.size ∧ w.grownBy x (some r)) := by
  intro ac ha N Q hN
  obtain ⟨es, cl, since, seen, c0, hB, hr, hsc, rfl, hold, hnd, hl⟩ := h
  have hLl : (leftOf es seen).toList = es.toList.filter fun e => !seen.contains e.born := by unfold leftOf; rw [Array.toList_filter]
  unfold Oper.wp execOp
  simp only [ho, ha.ev hq, Sem.run_bind]
  rcases run_next_at (P := P) w o.type r B since c0 seen es c0 hr hB hold hsc with ⟨h0, hrun⟩ | ⟨e, he, w1, hal, hrun⟩
  · simp only [hrun, Result.andThen_ok, Sem.run_pure]
    refine hN _ _ (.inl ⟨?_, rfl, rfl⟩)
    have h1 : (leftOf es seen).toList = [] := by rw [Array.eq_empty_of_size_eq_zero h0]
    rw [← hLl, h1] at hl
    exact List.map_eq_nil_iff.1 hl.symm
  · simp only [hrun, Result.andThen_ok, Sem.run_pure]
    have hem := mem_left he
    rw [hLl] at he
    obtain ⟨L1, L2, hL⟩ := List.append_of_mem he
    rw [hL, List.map_append, List.map_cons] at hl
    obtain ⟨l1, l2', h1, h2, h3⟩ := List.map_eq_append_iff.1 hl.symm
    obtain ⟨p, l2, h4, h5, h6⟩ := List.map_eq_cons_iff.1 h3
    subst h1 h4
    have hkey : kv p.1 = e.key := (Prod.mk.inj h5).1
    have hval : p.2 = e.val := (Prod.mk.inj h5).2
    have hr1 : w1.heap[r]? = some (.mapIter (some B) since seen c0) := by rcases hal with rfl | rfl <;> exact hr
    have hb1 : w1.heap[B]? = some (.map es c0) := by rcases hal with rfl | rfl <;> exact hB
    have hne : B ≠ r := fun e1 => by subst e1; rw [hr] at hB; cases hB
    have hset := Go.MapKept.heap_set (o' := .mapIter (some B) since (seen.push e.born) c0) hr1
    have hb' : (setBlock w1 r (.mapIter (some B) since (seen.push e.born) c0)).heap[B]? = some (.map es c0) := (hset.2 B hne).trans hb1
    have hgr : w.grownBy (setBlock w1 r (.mapIter (some B) since (seen.push e.born) c0)) (some r) := by
      rcases hal with rfl | rfl
      · exact ⟨rfl, rfl, rfl, by simp [setBlock], fun k _ hk => hset.2 k (fun e1 => hk (by rw [e1]))⟩
      · exact ⟨rfl, rfl, rfl, by show _ ≤ (w.heap.setIfInBounds r _).size; simp, fun k _ hk => hset.2 k (fun e1 => hk (by rw [e1]))⟩
    have hsz : (setBlock w1 r (.mapIter (some B) since (seen.push e.born) c0)).heap.size = w.heap.size := by
      rcases hal with rfl | rfl
      · simp [setBlock]
      · show (w.heap.setIfInBounds r _).size = _; simp
    have hen := run_entry_at (P := P) _ r B since seen es c0 e hset.1 hb' hem.1 hnd
    rw [← hkey, ← hval]
    refine hN _ _ (.inr ⟨p, l1, l2, rfl, rfl, ⟨es, c0, since, seen.push e.born, c0, hb', hset.1, hsc, rfl, hold, hnd, ?_⟩, by rw [hen, hkey, hval], hsz, hgr⟩)
    have hf : (es.toList.filter fun x => !(seen.push e.born).contains x.born) = (es.toList.filter fun x => !seen.contains x.born).filter fun x => x.born != e.born := by
      rw [List.filter_filter]
      congr 1
      funext y
      rw [contains_push]
      cases seen.contains y.born <;> cases hq : (y.born == e.born) <;> simp [bne, hq]
    rw [hf, hL, filter_born L1 L2 e, List.map_append, ← h2, ← h6, List.map_append]
    rw [← hL]
    exact (List.filter_sublist.map _).nodup hnd
theorem rn_entry {u : Value} (ho : o.op = .entry q) (hq : ev m q = some (.pointer (some ⟨r, 0, none⟩))) (h : (Instr.entry (.pointer (some ⟨r, 0, none⟩))).run P w = .ok u w) : (execOp (lk m) o).run P w = .ok (.value u) w := by
  unfold execOp
  simp only [ho, lk_ev hq, Sem.run_bind, h, Result.andThen_ok, Sem.run_pure]
end
end Go.Proofs.Ytfjhlckklgeokaa
