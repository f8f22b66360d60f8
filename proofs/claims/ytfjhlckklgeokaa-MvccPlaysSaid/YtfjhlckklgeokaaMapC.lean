/- Maps that the call makes, told by a function that says what each key has (a default for those that are not there). Conditions: none. -/
import Derived.Test.YtfjhlckklgeokaaMapB
namespace Go.Proofs.Ytfjhlckklgeokaa
open Go.RowKit

section
variable {K V : Type} {P : Program} {n : Nat} {m : List (Nat × Value)} {w x : World} {o : Oper} {B : Nat} {kv : K → Value} {kt e t : TypeId} {q r : Operand} {a : K} {enc : V → Value} {z : V} {g : K → V}

/-- Block B is a map; a key a has g a (z, if it is not there). -/
def MapG [DecidableEq K] (kv : K → Value) (enc : V → Value) (z : V) (w : World) (B : Nat) (g : K → V) : Prop := ∃ l, MapB kv w B l ∧ ∀ a, (getK l a).getD (enc z) = enc (g a)
variable [DecidableEq K]
theorem MapG.lt (h : MapG kv enc z w B g) : B < w.heap.size := by obtain ⟨l, h, _⟩ := h; exact h.lt
theorem MapG.kept {row : Option Nat} (h : MapG kv enc z w B g) (hg : w.grownBy x row) (hne : row ≠ some B) : MapG kv enc z x B g := by
  obtain ⟨l, h1, h2⟩ := h; exact ⟨l, h1.kept hg hne, h2⟩
theorem MapG.below (h : MapG kv enc z w B g) (hb : Below w.heap.size w x) : MapG kv enc z x B g := h.kept (below_grown hb) (by simp)
theorem MapG.row {B' : Nat} {T : TypeId} {sz k : Nat} {v : Value} {xs : List Value} (h : MapG kv enc z w B g) (hr : w.ownsRow B' T sz v k xs) : v.ownBlock ≠ some B := by
  intro e1
  obtain ⟨l, ⟨es, c, h1, _⟩, _⟩ := h
  rcases hr.2 with ⟨rfl, _⟩ | ⟨g1, _, _, rfl, _, hg1, _⟩
  · simp [Value.ownBlock] at e1
  · simp [Value.ownBlock] at e1
    subst e1; rw [h1] at hg1; cases hg1
theorem MapB.toG (h : MapB kv w B []) (enc : V → Value) (z : V) : MapG kv enc z w B (fun _ => z) := ⟨[], h, fun a => by simp⟩
theorem op_makeG (kv : K → Value) (enc : V → Value) (z : V) (hrun : (execOp (lk m) o).run P w = .ok (.value (.map (some w.heap.size))) (w.alloc (.map #[] 0))) (hok : okOps m o.op = true) (hsel : (match o.op with | .select .. => true | _ => false) = false) :
    Op1 P n m o w (fun u x => ∃ N, u = .map (some N) ∧ N = w.heap.size ∧ x.heap.size = N + 1 ∧ MapG kv enc z x N (fun _ => z) ∧ w.grownBy x none) :=
  (op_makeMap kv hrun hok hsel).mono fun u x ⟨N, h1, h2, h3, h4, h5⟩ => ⟨N, h1, h2, h3, h4.toG enc z, h5⟩
theorem rn_lookG (KK : KL P kt kv) (ho : o.op = .lookup t q r false) (hq : ev m q = some (.map (some B))) (hr : ev m r = some (kv a)) (ht : P.underlying t = some (.map kt e)) (hz : ∀ w : World, (zeroValue e).run P w = .ok (enc z) w) (h : MapG kv enc z w B g) :
    (execOp (lk m) o).run P w = .ok (.value (enc (g a))) w := by
  obtain ⟨l, h1, h2⟩ := h
  rw [← h2 a]; exact rn_look KK ho hq hr ht hz h1
theorem op_updateG (KK : KL P kt kv) {s : Operand} {v : V} (ho : o.op = .mapUpdate t q r s) (hq : ev m q = some (.map (some B))) (hr : ev m r = some (kv a)) (hs : ev m s = some (enc v)) (ht : P.underlying t = some (.map kt e)) (h : MapG kv enc z w B g) :
    Op1 P n m o w (fun _ x => MapG kv enc z x B (fun b => if b = a then v else g b) ∧ x.heap.size = w.heap.size ∧ w.grownBy x (some B)) := by
  obtain ⟨l, h1, h2⟩ := h
  exact (op_mapUpdate KK ho hq hr hs ht h1).mono fun _ x ⟨h3, h4, h5⟩ => ⟨⟨_, h3, fun b => by rw [getK_put]; by_cases e1 : b = a <;> simp [e1, h2]⟩, h4, h5⟩
/-- The entry of the key a bears this stamp. -/
def Stamp (kv : K → Value) (w : World) (B : Nat) (s : Nat) (a : K) : Prop := ∃ es clock, w.heap[B]? = some (.map es clock) ∧ ∃ e0 ∈ es.toList, e0.born = s ∧ e0.key = kv a
theorem run_entry (KK : KL P kt kv) (ht : P.underlying t = some (.map kt e)) (hz : ∀ w : World, (zeroValue e).run P w = .ok (enc z) w) (h : MapG kv enc z w B g) :
    ∃ s x, (Instr.mapEntry t (.map (some B)) (kv a)).run P w = .ok (.tuple #[enc (g a), .int .i64 (s : Nat)]) x ∧ MapG kv enc z x B g ∧ Stamp kv x B s a ∧ x.heap.size = w.heap.size ∧ w.grownBy x (some B) := by
  obtain ⟨l, hM, h2⟩ := h
  have hM0 := hM
  obtain ⟨es, cl, h1, hl, h3, h4, h5⟩ := hM
  have hlt := (Array.getElem?_eq_some_iff.1 h1).1
  have hg : (getObj B).run P w = .ok (.map es cl) w := by simp [getObj, Sem.run, h1]
  have hso : ∀ ob : Obj, (setObj B ob).run P w = .ok () { w with heap := w.heap.setIfInBounds B ob } := fun ob => by simp [setObj, Sem.run, h1]
  have hf := KK.fnd w a es.toList l hl
  cases hL : lookK a l 0 with
  | none =>
    have hga : enc (g a) = enc z := by rw [← h2 a]; simp [getK, hL]
    refine ⟨cl, { w with heap := w.heap.setIfInBounds B (.map (es.push { key := kv a, val := enc z, born := cl }) (cl + 1)) }, ?_, ⟨l ++ [(a, enc z)], ⟨es.push { key := kv a, val := enc z, born := cl }, cl + 1, by simp [hlt], by simp [hl], ?_, ?_, ?_⟩, ?_⟩, ⟨es.push { key := kv a, val := enc z, born := cl }, cl + 1, by simp [hlt], { key := kv a, val := enc z, born := cl }, by simp, rfl, rfl⟩, by simp, setObj_grown w B _⟩
    · simp only [Instr.mapEntry, Sem.run_bind, run_underlying ht, Result.andThen_ok, hg, KK.chk, hf, hL, hz, hso, Sem.run_pure, hga, goInt]
    · have := putK_keys l a (enc z) h3
      simpa [putK, hL] using this
    · simp only [Array.toList_push, List.map_append, List.map_cons, List.map_nil]
      rw [List.nodup_append]
      refine ⟨h4, by simp, fun y hy z hz => ?_⟩
      obtain ⟨e0, he, rfl⟩ := List.mem_map.1 hy
      simp at hz; subst hz
      have := h5 e0 he; omega
    · intro e0 he
      simp only [Array.toList_push, List.mem_append, List.mem_singleton] at he
      rcases he with he | rfl
      · have := h5 e0 he; omega
      · exact Nat.lt_succ_self _
    · intro b
      have hp := getK_put l a (enc z) b
      simp only [putK, hL] at hp
      rw [hp]
      by_cases e1 : b = a
      · subst e1; simp [hga]
      · simp [e1, h2]
  | some p =>
    obtain ⟨i, u⟩ := p
    have hli := lookK_some hL
    have hu : u = enc (g a) := by rw [← h2 a]; simp [getK, hL]
    have hei : (es.toList.map (fun e => (e.key, e.val)))[i]? = some (kv a, u) := by rw [hl]; simp [hli]
    rw [List.getElem?_map] at hei
    cases he : es.toList[i]? with
    | none => rw [he] at hei; simp at hei
    | some e0 =>
      rw [he] at hei
      simp only [Option.map_some, Option.some.injEq, Prod.mk.injEq] at hei
      have he' : es[i]? = some e0 := by rw [← Array.getElem?_toList]; exact he
      have hst : (Instr.keyThatStays e0.key (kv a)).run P w = .ok (kv a) w := by
        rw [hei.1]; unfold Instr.keyThatStays; rw [KK.bits a]; rfl
      have hmod : (es.modify i fun e => { e with key := kv a }) = es := by
        apply Array.ext_getElem?
        intro j
        rw [Array.getElem?_modify]
        by_cases e1 : i = j
        · subst e1; rw [if_pos rfl, he', Option.map_some, ← hei.1]
        · rw [if_neg e1]
      have hww : { w with heap := w.heap.setIfInBounds B (.map es cl) } = w := by
        have : w.heap.setIfInBounds B (.map es cl) = w.heap := by
          apply Array.ext_getElem?
          intro j
          by_cases e1 : B = j
          · subst e1; rw [Array.getElem?_setIfInBounds_self_of_lt hlt, h1]
          · rw [Array.getElem?_setIfInBounds_ne e1]
        rw [this]
      refine ⟨e0.born, w, ?_, ⟨l, hM0, h2⟩, ⟨es, cl, h1, e0, List.mem_of_getElem? he, rfl, hei.1⟩, rfl, World.grownBy.refl _ _⟩
      simp only [Instr.mapEntry, Sem.run_bind, run_underlying ht, Result.andThen_ok, hg, KK.chk, hf, hL, he', Option.map_some, Option.getD_some, hst, hmod, hso, hww, Sem.run_pure, hu, goInt]
theorem op_entryG (KK : KL P kt kv) (ho : o.op = .mapEntry t q r) (hq : ev m q = some (.map (some B))) (hr : ev m r = some (kv a)) (ht : P.underlying t = some (.map kt e)) (hz : ∀ w : World, (zeroValue e).run P w = .ok (enc z) w) (h : MapG kv enc z w B g) :
    Op1 P n m o w (fun u x => ∃ s : Nat, u = .tuple #[enc (g a), .int .i64 (s : Nat)] ∧ MapG kv enc z x B g ∧ Stamp kv x B s a ∧ x.heap.size = w.heap.size ∧ w.grownBy x (some B)) := by
  intro ac ha N Q hN
  obtain ⟨s, x, hx, h1, h2, h3, h4⟩ := run_entry (a := a) KK ht hz h
  unfold Oper.wp execOp
  simp only [ho, ha.ev hq, ha.ev hr, Sem.run_bind, hx, Result.andThen_ok, Sem.run_pure]
  exact hN _ _ ⟨s, rfl, h1, h2, h3, h4⟩
theorem findIdx_stamp : ∀ (l : List MapEntry) (s : Nat) (e0 : MapEntry), e0 ∈ l → e0.born = s → (l.map (·.born)).Nodup → ∃ i, l.findIdx? (fun e => (e.born : Int) == (s : Int)) = some i ∧ l[i]? = some e0
  | [], s, e0, h, _, _ => by simp at h
  | e1 :: r, s, e0, h, hb, hn => by
    simp only [List.map_cons, List.nodup_cons, List.mem_map, not_exists, not_and] at hn
    rw [List.findIdx?_cons]
    by_cases he : e1.born = s
    · refine ⟨0, by simp [he], ?_⟩
      rcases List.mem_cons.1 h with rfl | h
      · rfl
      · exact absurd (hb.trans he.symm) (hn.1 e0 h)
    · have h' : e0 ∈ r := by
        rcases List.mem_cons.1 h with rfl | h
        · exact absurd hb he
        · exact h
      obtain ⟨i, h1, h2⟩ := findIdx_stamp r s e0 h' hb hn.2
      have hne : ((e1.born : Int) == (s : Int)) = false := by simp; omega
      exact ⟨i + 1, by simp [hne, h1], by simpa using h2⟩
omit [DecidableEq K] in
theorem nodup_ne : ∀ (l : List K), l.Nodup → ∀ (j i : Nat), j < i → ∀ b, l[j]? = some b → l[i]? = some b → False
  | [], _, j, i, _, b, h, _ => by simp at h
  | c :: r, hn, 0, i + 1, _, b, h1, h2 => by
    simp at h1 h2; subst h1
    exact (List.nodup_cons.1 hn).1 (List.mem_of_getElem? h2)
  | c :: r, hn, j + 1, i + 1, hj, b, h1, h2 => nodup_ne r (List.nodup_cons.1 hn).2 j i (by omega) b (by simpa using h1) (by simpa using h2)
/-- A store at an entry that was told. -/
theorem op_entryStoreG (hinj : ∀ a b, kv a = kv b → a = b) {s u : Operand} {st : Nat} {v : V} (ho : o.op = .entryStore t q s u) (hq : ev m q = some (.map (some B))) (hs : ev m s = some (.int .i64 (st : Nat))) (hu : ev m u = some (enc v)) (h : MapG kv enc z w B g) (hst : Stamp kv w B st a) :
    Op1 P n m o w (fun _ x => MapG kv enc z x B (fun b => if b = a then v else g b) ∧ x.heap.size = w.heap.size ∧ w.grownBy x (some B)) := by
  intro ac ha N Q hN
  obtain ⟨l, ⟨es, cl, h1, hl, h3, h4, h5⟩, h2⟩ := h
  obtain ⟨es', cl', h1', e0, hm, hb, hk⟩ := hst
  rw [h1] at h1'; cases h1'
  have hlt := (Array.getElem?_eq_some_iff.1 h1).1
  have hg : (getObj B).run P w = .ok (.map es cl) w := by simp [getObj, Sem.run, h1]
  have hso : ∀ ob : Obj, (setObj B ob).run P w = .ok () { w with heap := w.heap.setIfInBounds B ob } := fun ob => by simp [setObj, Sem.run, h1]
  obtain ⟨i, hfi, hi⟩ := findIdx_stamp es.toList st e0 hm hb h4
  have hfa : es.findIdx? (fun e => (e.born : Int) == (st : Int)) = some i := by rw [← hfi, ← List.findIdx?_toArray]
  have hli : ∃ u0, l[i]? = some (a, u0) := by
    have hj : (es.toList.map (fun e => (e.key, e.val)))[i]? = (l.map (fun p => (kv p.1, p.2)))[i]? := by rw [hl]
    rw [List.getElem?_map, List.getElem?_map, hi] at hj
    cases hy : l[i]? with
    | none => rw [hy] at hj; simp at hj
    | some p =>
      rw [hy] at hj
      simp only [Option.map_some, Option.some.injEq, Prod.mk.injEq] at hj
      obtain ⟨p1, p2⟩ := p
      have : p1 = a := hinj _ _ (by rw [← hj.1, hk])
      subst this; exact ⟨p2, rfl⟩
  obtain ⟨u0, hli⟩ := hli
  have hfirst : ∀ j, j < i → ∀ p, l[j]? = some p → p.1 ≠ a := by
    intro j hj p hp e1
    exact nodup_ne (l.map (·.1)) h3 j i hj p.1 (by rw [List.getElem?_map, hp]; rfl) (by rw [List.getElem?_map, hli, e1]; rfl)
  have hrun : (Instr.entryStore t (.map (some B)) (.int .i64 (st : Nat)) (enc v)).run P w = .ok () { w with heap := w.heap.setIfInBounds B (.map (es.modify i fun e => { e with val := enc v }) cl) } := by
    simp only [Instr.entryStore, Sem.run_bind, hg, Result.andThen_ok, asInt, asIntOf, hfa, hso, Sem.run_pure]
  unfold Oper.wp execOp
  simp only [ho, ha.ev hq, ha.ev hs, ha.ev hu, Sem.run_bind, hrun, Result.andThen_ok, Sem.run_pure]
  refine hN _ _ ⟨⟨l.modify i fun p => (p.1, enc v), ⟨es.modify i fun e => { e with val := enc v }, cl, by simp [hlt], ?_, ?_, ?_, ?_⟩, fun b => ?_⟩, by simp, setObj_grown w B _⟩
  · rw [Array.toList_modify]
    apply List.ext_getElem?
    intro j
    have hj : (es.toList.map (fun e => (e.key, e.val)))[j]? = (l.map (fun p => (kv p.1, p.2)))[j]? := by rw [hl]
    simp only [List.getElem?_map, List.getElem?_modify] at hj ⊢
    cases hx : es.toList[j]? <;> cases hy : l[j]? <;> simp_all
    split <;> simp_all
  · have : (l.modify i fun p => (p.1, enc v)).map (·.1) = l.map (·.1) := by
      apply List.ext_getElem?
      intro j
      simp only [List.getElem?_map, List.getElem?_modify]
      cases l[j]? <;> simp
      split <;> rfl
    rw [this]; exact h3
  · have : (es.toList.modify i fun e => { e with val := enc v }).map (·.born) = es.toList.map (·.born) := by
      apply List.ext_getElem?
      intro j
      simp only [List.getElem?_map, List.getElem?_modify]
      cases es.toList[j]? <;> simp
      split <;> rfl
    rw [Array.toList_modify, this]; exact h4
  · intro e1 h1'
    rw [Array.toList_modify] at h1'
    obtain ⟨j, hj⟩ := List.getElem?_of_mem h1'
    rw [List.getElem?_modify] at hj
    cases hx : es.toList[j]? with
    | none => rw [hx] at hj; simp at hj
    | some e2 =>
      rw [hx] at hj
      have := h5 e2 (List.mem_of_getElem? hx)
      simp at hj; subst hj
      split <;> simpa using this
  · rw [getK_modify l i a u0 (enc v) b hli hfirst]
    by_cases e1 : b = a <;> simp [e1, h2]
end
theorem intK_inj : ∀ a b, intK a = intK b → a = b := fun a b h => by simpa [intK] using h
theorem strK_inj : ∀ a b, strK a = strK b → a = b := fun a b h => by simpa [strK] using h
theorem arr2K_inj : ∀ a b, arr2K a = arr2K b → a = b := fun a b h => by
  simp [arr2K] at h; exact Prod.ext h.1 h.2
end Go.Proofs.Ytfjhlckklgeokaa
